import Derived.Test.YtfbnjcdhipplpaaGreatZAcceptorErrs20
set_option maxHeartbeats 25600000
set_option maxRecDepth 100000
set_option linter.unusedVariables false
set_option linter.unusedSimpArgs false
namespace Go.Proofs.YtfbnjcdhipplpaaGreat
namespace Mc
open Go.RowKit Af DerP DerC Ms
def AsV (cs:Array Value) (q:As):Prop:=cs=(asC q).toArray
def FaV (cs:Array Value) (q:Fa):Prop:=cs=(faC q).toArray
def TgV (w:World) (B:Nat) (cs:Array Value) (q:Tg):Prop:=∃b a,cs=(tgC q b a).toArray/\SlB w B b q.t.b/\SlB w B a q.a
def ReV (w:World) (B:Nat) (cs:Array Value) (q:Re):Prop:=∃b a,cs=(reC q b a).toArray/\SlB w B b q.t.b/\SlB w B a q.b
def ApV (w:World) (B:Nat) (cs:Array Value) (q:Ap):Prop:=∃b a,cs=(apC q b a).toArray/\SlB w B b q.t.b/\SlB w B a q.a
section
variable {w w':World} {B B':Nat} {cs:Array Value}
theorem TgV.keep {q:Tg} (h:TgV w B cs q) (M:Below B w w'):TgV w' B cs q:=by obtain⟨b,a,Z,O,h3⟩:=h;exact⟨b,a,Z,O.keep M,h3.keep M⟩
theorem ReV.keep {q:Re} (h:ReV w B cs q) (M:Below B w w'):ReV w' B cs q:=by obtain⟨b,a,Z,O,h3⟩:=h;exact⟨b,a,Z,O.keep M,h3.keep M⟩
theorem ApV.keep {q:Ap} (h:ApV w B cs q) (M:Below B w w'):ApV w' B cs q:=by obtain⟨b,a,Z,O,h3⟩:=h;exact⟨b,a,Z,O.keep M,h3.keep M⟩
theorem TgV.more {q:Tg} (h:TgV w B cs q) (hB:B<=B'):TgV w B' cs q:=by obtain⟨b,a,O,M,Z⟩:=h;exact⟨b,a,O,M.more hB,Z.more hB⟩
theorem ReV.more {q:Re} (h:ReV w B cs q) (hB:B<=B'):ReV w B' cs q:=by obtain⟨b,a,O,M,Z⟩:=h;exact⟨b,a,O,M.more hB,Z.more hB⟩
theorem ApV.more {q:Ap} (h:ApV w B cs q) (hB:B<=B'):ApV w B' cs q:=by obtain⟨b,a,O,M,Z⟩:=h;exact⟨b,a,O,M.more hB,Z.more hB⟩
theorem Il {v:Value} {l:L} (h:SlB w B v l):v.oneCell'=true:=by obtain⟨A,c,rfl,_⟩:=h;rfl
theorem AsV.size {q:As} (h:AsV cs q):cs.size=6:=by rw[h];rfl
theorem FaV.size {q:Fa} (h:FaV cs q):cs.size=2:=by rw[h];rfl
theorem TgV.size {q:Tg} (h:TgV w B cs q):cs.size=9:=by obtain⟨b,a,M,_⟩:=h;rw[M];rfl
theorem ReV.size {q:Re} (h:ReV w B cs q):cs.size=7:=by obtain⟨b,a,M,_⟩:=h;rw[M];rfl
theorem ApV.size {q:Ap} (h:ApV w B cs q):cs.size=5:=by obtain⟨b,a,M,_⟩:=h;rw[M];rfl
def One (cs:Array Value):Prop:=cs.all (·.oneCell')=true
theorem AsV.one {q:As} (h:AsV cs q):One cs:=by
 rw[h];refine all_oneCell_toArray fun v M=>?_
 simp only[asC,List.mem_cons,List.not_mem_nil,or_false] at M;rcases M with rfl | rfl | rfl | rfl | rfl | rfl<;>rfl
theorem FaV.one {q:Fa} (h:FaV cs q):One cs:=by
 rw[h];refine all_oneCell_toArray fun v M=>?_
 simp only[faC,List.mem_cons,List.not_mem_nil,or_false] at M;rcases M with rfl | rfl<;>rfl
theorem TgV.one {q:Tg} (h:TgV w B cs q):One cs:=by
 obtain⟨b,a,Z,O,h3⟩:=h;rw[Z];refine all_oneCell_toArray fun v M=>?_
 simp only[tgC,tkC,List.mem_append,List.mem_cons,List.not_mem_nil,or_false] at M;rcases M with(rfl | rfl | rfl | rfl) | rfl | rfl | rfl | rfl | rfl
 all_goals first | rfl | exact Il O | exact Il h3
theorem ReV.one {q:Re} (h:ReV w B cs q):One cs:=by
 obtain⟨b,a,Z,O,h3⟩:=h;rw[Z];refine all_oneCell_toArray fun v M=>?_
 simp only[reC,prC,tkC,List.mem_append,List.mem_cons,List.not_mem_nil,or_false] at M;rcases M with(rfl | rfl) | (rfl | rfl | rfl | rfl) | rfl
 all_goals first | rfl | exact Il O | exact Il h3
theorem ApV.one {q:Ap} (h:ApV w B cs q):One cs:=by
 obtain⟨b,a,Z,O,h3⟩:=h;rw[Z];refine all_oneCell_toArray fun v M=>?_
 simp only[apC,tkC,List.mem_append,List.mem_cons,List.not_mem_nil,or_false] at M;rcases M with(rfl | rfl | rfl | rfl) | rfl
 all_goals first | rfl | exact Il O | exact Il h3
end
def mgA (k:Int) (pa pt pr pp pf:Array Value):Array Value:=(Value.int .i64 k :: (pa.toList++(pt.toList++(pr.toList++(pp.toList++pf.toList))))).toArray
structure MgP (w:World) (B:Nat) (pa pt pr pp pf:Array Value) (m:Mg):Prop where
 a:AsV pa m.aq
 t:TgV w B pt m.tg
 r:ReV w B pr m.re
 p:ApV w B pp m.ap
 f:FaV pf m.fa
def MgV (w:World) (B:Nat) (cs:Array Value) (m:Mg):Prop:=∃pa pt pr pp pf,cs=mgA m.k pa pt pr pp pf/\MgP w B pa pt pr pp pf m
section
variable {w w':World} {B B':Nat} {cs pa pt pr pp pf:Array Value} {m:Mg}
theorem MgP.keep (h:MgP w B pa pt pr pp pf m) (M:Below B w w'):MgP w' B pa pt pr pp pf m:=⟨h.a,h.t.keep M,h.r.keep M,h.p.keep M,h.f⟩
theorem MgP.more (h:MgP w B pa pt pr pp pf m) (hB:B<=B'):MgP w B' pa pt pr pp pf m:=⟨h.a,h.t.more hB,h.r.more hB,h.p.more hB,h.f⟩
theorem MgV.keep (h:MgV w B cs m) (Z:Below B w w'):MgV w' B cs m:=by obtain⟨pa,pt,pr,pp,pf,O,M⟩:=h;exact⟨pa,pt,pr,pp,pf,O,M.keep Z⟩
theorem MgV.more (h:MgV w B cs m) (hB:B<=B'):MgV w B' cs m:=by obtain⟨pa,pt,pr,pp,pf,O,M⟩:=h;exact⟨pa,pt,pr,pp,pf,O,M.more hB⟩
theorem MgP.sizes (h:MgP w B pa pt pr pp pf m):pa.size=6/\pt.size=9/\pr.size=7/\pp.size=5/\pf.size=2:=⟨h.a.size,h.t.size,h.r.size,h.p.size,h.f.size⟩
theorem MgP.size (h:MgP w B pa pt pr pp pf m) (k:Int):(mgA k pa pt pr pp pf).size=30:=by
 obtain⟨O,M,h3,h4,Z⟩:=h.sizes;simp [mgA,O,M,h3,h4,Z]
theorem MgP.one (h:MgP w B pa pt pr pp pf m) (k:Int):One (mgA k pa pt pr pp pf):=by
 refine all_oneCell_toArray fun v M=>?_
 simp only[List.mem_cons,List.mem_append] at M;have key:∀{cs:Array Value},One cs->v∈cs.toList->v.oneCell'=true:=fun Z O=>Array.all_eq_true_iff_forall_mem.1 Z v (by simpa using O)
 rcases M with rfl | M | M | M | M | M
 ·rfl
 ·exact key h.a.one M
 ·exact key h.t.one M
 ·exact key h.r.one M
 ·exact key h.p.one M
 ·exact key h.f.one M
theorem Ec {g:Nat} {t:TypeId} {pre mid post:List Value} (h:Blk w g t cs) (O:cs.toList=pre++(mid++post)) (o:Nat) (Z:o=pre.length):w.rangeAt g o mid:=fun j v M=>by
 subst Z;have hj:j<mid.length:=(List.getElem?_eq_some_iff.1 M).1;rw[h.cell,<-Array.getElem?_toList,O,List.getElem?_append_right (by omega),Nat.add_sub_cancel_left,List.getElem?_append_left hj];exact M
structure At (w:World) (g:Nat) (k:Int) (pa pt pr pp pf:Array Value):Prop where
 k:w.cell? ⟨g,0,none⟩=some (.int .i64 k)
 a:w.rangeAt g 1 pa.toList
 t:w.rangeAt g 7 pt.toList
 r:w.rangeAt g 16 pr.toList
 p:w.rangeAt g 23 pp.toList
 f:w.rangeAt g 28 pf.toList
theorem MgP.at_ (h:MgP w' B pa pt pr pp pf m) {g:Nat} {k:Int} {t:TypeId} (M:Blk w g t (mgA k pa pt pr pp pf)):At w g k pa pt pr pp pf:=by
 obtain⟨O,Z,h3,h4,h5⟩:=h.sizes;refine⟨by rw[M.cell];rfl,?_,?_,?_,?_,?_⟩
 ·exact Ec (pre:=[.int .i64 k]) (post:=pt.toList++(pr.toList++(pp.toList++pf.toList))) M (by simp [mgA]) 1 rfl
 ·exact Ec (pre:=.int .i64 k :: pa.toList) (post:=pr.toList++(pp.toList++pf.toList)) M (by simp [mgA]) 7 (by simp [O])
 ·exact Ec (pre:=.int .i64 k :: (pa.toList++pt.toList)) (post:=pp.toList++pf.toList) M (by simp [mgA]) 16 (by simp [O,Z])
 ·exact Ec (pre:=.int .i64 k :: (pa.toList++(pt.toList++pr.toList))) (post:=pf.toList) M (by simp [mgA]) 23 (by simp [O,Z,h3])
 ·exact Ec (pre:=.int .i64 k :: (pa.toList++(pt.toList++(pr.toList++pp.toList)))) (post:=[]) M (by simp [mgA]) 28 (by simp [O,Z,h3,h4])
end
theorem Cs:(Tryz.prog.info? 87).map (·.size)=some 6:=by kernel_rfl
theorem Dd:(Tryz.prog.info? 89).map (·.size)=some 9:=by kernel_rfl
theorem DD:(Tryz.prog.info? 91).map (·.size)=some 7:=by kernel_rfl
theorem Eg:(Tryz.prog.info? 85).map (·.size)=some 5:=by kernel_rfl
theorem FL:(Tryz.prog.info? 93).map (·.size)=some 2:=by kernel_rfl
theorem AZ:(Tryz.prog.info? 95).map (·.size)=some 30:=by kernel_rfl
theorem AF {P:Program} {ops:Array Oper} {rest:List Oper} {op:Oper} {a:Act} {w:World} {Q:Exit->Act->World->Prop} (hw:Region.wanted op (yielded ops a.tmps)=true) (ty:TypeId) (x:Operand) (O:op.op=.load ty x)
  (g o:Nat) (hx:a.eval x=.pointer (some ⟨g,o,none⟩)) (cs:Array Value) (d:TypeDesc) (M:w.rangeAt g o cs.toList)
  (hu:P.underlying ty=some d) (Z:d.isRow=true) (hi:(P.info? ty).map (·.size)=some cs.size)
  (h:wpList P ops Q rest (a.put op.dst (.agg cs)) w):wpList P ops Q (op :: rest) a w:=
 BigFrame.wpList_want hw fun _ hK=>wp_load_mid ty x O g o hx cs.toList d M hu Z (by rw[Array.length_toList];exact hi) (by simpa using hK _ _ h)
theorem JR {w:World} {g o:Nat} {t:TypeId} {cs ps ds:Array Value} {pre mid post:List Value} (h:Blk w g t cs) (Z:cs.toList=pre++(mid++post)) (ho:o=pre.length) (hm:mid.length=ps.size) (hd:ds=(pre++(ps.toList++post)).toArray):Blk (w.setCells g o ps.toList) g t ds:=by
 subst ho;have hs:cs.size=pre.length+(mid.length+post.length):=by rw[<-Array.length_toList,Z];simp
 obtain⟨es,h1,h2,h3,O⟩:=Bo ps.toList pre.length w cs h (by simp;omega);have e:es=ds:=by
  apply Array.ext_getElem?;intro i;rw[hd,show(pre++(ps.toList++post)).toArray[i]? = (pre++(ps.toList++post))[i]? by simp];have M:∀i,cs[i]? = (pre++(mid++post))[i]?:=fun i=>by rw[<-Z,Array.getElem?_toList]
  by_cases hi:i<pre.length
  ·rw[O i (.inl hi),M,List.getElem?_append_left hi,List.getElem?_append_left hi]
  ·by_cases hj:i<pre.length+ps.size
   ·rw[h3 i (by omega) (by simpa using hj),List.getElem?_append_right (by omega),List.getElem?_append_left (by simp;omega)]
   ·rw[O i (.inr (by simp;omega)),M,List.getElem?_append_right (by omega),List.getElem?_append_right (by omega),List.getElem?_append_right (by omega),List.getElem?_append_right (by simp;omega),hm]
    simp
 rw[<-e];exact h1
theorem Cx {w:World} {g:Nat} {t:TypeId} {cs:Array Value} (h:Blk w g t cs) (o n:Nat) (M:o+n<=cs.size):w.there g o n:=fun j O=>by
 rw[h.cell,Array.getElem?_eq_getElem (by omega)];exact⟨rfl,h.frozen _⟩
theorem Fi (w:World) (g o:Nat) (M:List Value):w.grownBy (w.setCells g o M) (some g):=Fh (.inl rfl) M o w (World.grownBy.refl _ _)
theorem Rf (g:Nat) (c:Option L) (w:World) (h:Cur w g c) (hs:(c.getD []).length<=100000):Calls Tryz.prog 173 #[.pointer (some ⟨g,0,none⟩)] w fun e w'=>∃z1,∃z2,e=.returned (.agg #[.string ⟨(tgQ c).1.t.s.1.toArray⟩,.string ⟨(tgQ c).1.t.s.2.toArray⟩,.int .i64 (tgQ c).1.t.k,z1,z2,.string ⟨(tgQ c).1.s.1.toArray⟩,.string ⟨(tgQ c).1.s.2.toArray⟩,.int .i64 (tgQ c).1.u,.int .i64 (tgQ c).1.no])/\OwnB w' w.heap.size z1 (tgQ c).1.t.b/\OwnB w' w.heap.size z2 (tgQ c).1.a/\Cur w' g (tgQ c).2/\w.grownBy w' (some g):=by
 obtain⟨W,eW⟩:=Ak (w.alloc (.cells #[.string ⟨#[]⟩,.string ⟨#[]⟩,.int .i64 0,.slice none 0 0,.slice none 0 0,.string ⟨#[]⟩,.string ⟨#[]⟩,.int .i64 0,.int .i64 0] 89));have cw:W.heap.size=w.heap.size+1:=by rw[eW];simp
 have O:=I (show Blk W w.heap.size 89 #[.string ⟨#[]⟩,.string ⟨#[]⟩,.int .i64 0,.slice none 0 0,.slice none 0 0,.string ⟨#[]⟩,.string ⟨#[]⟩,.int .i64 0,.int .i64 0] by rw[eW];exact Blk.new _ _ _);have cu:=Dg h;have HC:=I (show Cur W g c by rw[eW];exact h.alloc _);have HG:=I (show w.grownBy W (some g) by rw[eW];exact DJ (World.grownBy.refl _ _) _);have bz:=hs;obtain⟨s0,es0⟩:∃s,s=c:=⟨_,rfl⟩;rw[<-es0] at HC bz;have Z:=I cu;have av:=I (show w.heap.size<W.heap.size by omega);have cc:(((tkQ s0).2).getD []).length<=100000:=BX 97 bz;have T1:=I (fun g w h=>Ef g s0 w h bz);obtain⟨v1,cj⟩:∃x:Tk,x=(tkQ s0).1:=⟨_,rfl⟩;obtain⟨s1,bb⟩:∃s,s=(tkQ s0).2:=⟨_,rfl⟩;rw[<-cj,<-bb] at T1;rw[<-bb] at cc;have ca:((Bb 4 s1).getD []).length<=100000:=BX 4 cc;have T2:=I (fun g w h=>DU g s1 w h (by omega));obtain⟨v2,ck⟩:∃x:L,x=ocC s1:=⟨_,rfl⟩;obtain⟨s2,es2⟩:∃s,s=Bb 4 s1:=⟨_,rfl⟩;rw[<-ck,<-es2] at T2;rw[<-es2] at ca;have cg:(((prQ s2).2).getD []).length<=100000:=BX 48 ca;have T3:=I (fun g w h=>BP g s2 w h ca);obtain⟨v3,cb⟩:∃x:Pr,x=(prQ s2).1:=⟨_,rfl⟩;obtain⟨s3,bq⟩:∃s,s=(prQ s2).2:=⟨_,rfl⟩;rw[<-cb,<-bq] at T3;rw[<-bq] at cg;have cf:(((intC s3).2).getD []).length<=100000:=FK cg;have T4:=I (fun g w h=>BO g s3 w h (by omega));obtain⟨v4,cm⟩:∃x:Int,x=((intC s3).1:Int):=⟨_,rfl⟩;obtain⟨s4,bx⟩:∃s,s=(intC s3).2:=⟨_,rfl⟩;rw[<-cm,<-bx] at T4;rw[<-bx] at cf;have cn:(((intC s4).2).getD []).length<=100000:=FK cf;have T5:=I (fun g w h=>BO g s4 w h (by omega));obtain⟨v5,cd⟩:∃x:Int,x=((intC s4).1:Int):=⟨_,rfl⟩;obtain⟨s5,bB⟩:∃s,s=(intC s4).2:=⟨_,rfl⟩;rw[<-cd,<-bB] at T5;rw[<-bB] at cn;have ct:=I (show(tgQ c).1.t=v1 by rw[cj,es0];rfl);have cp:=I (show(tgQ c).1.a=v2 by rw[ck,bb,es0];rfl);have cx:=I (show(tgQ c).1.s=v3 by rw[cb,es2,bb,es0];rfl);have cr:=I (show(tgQ c).1.u=v4 by rw[cm,bq,es2,bb,es0];rfl);have cq:=I (show(tgQ c).1.no=v5 by rw[cd,bx,bq,es2,bb,es0];rfl);have FS:=I (show(tgQ c).2=s5 by rw[bB,bx,bq,es2,bb,es0];rfl);rw[ct.o,cp.o,cx.o,cr.o,cq.o,FS.o];clear h hs bz cc ca cg cf cn ct cj bb cp ck es2 cx cb bq cr cm bx cq cd bB es0 FS cu;have cy:=I cw;clear cw;subst eW;go_enter Tryz.func173,Tryz.ntmps173
 go_wp2_with (first
  |(go_at_call 210;(with_reducible refine Calls.mono (T1.o _ _ HC.o) ?_);rintro e w1 ⟨y,rfl,ho,hd,M⟩;clear T1;replace ho:=ho.less (show w.heap.size+1<=_ from av.o);obtain⟨b1,c1,rfl,x1,x2,x3,x4⟩:=ho;have aw:Hid (OwnB w1 (w.heap.size+1) (.slice (some ⟨b1,0,none⟩) _ c1) _):=I ⟨b1,c1,rfl,x1,x2,x3,x4⟩;clear x1 x2 x3 x4;replace HC:=I hd;replace O:=I (O.o.grown M (by intro e;injection e with e;have:=Z.o;omega));replace HG:=I (Db HG.o M);replace av:=I (Nat.lt_of_lt_of_le av.o M.size);clear hd M)
  |(go_at_call 211;(with_reducible refine Calls.mono (T2.o _ _ HC.o) ?_);rintro e w2 ⟨⟨y,rfl,ho⟩,hd,M⟩;clear T2;replace ho:=ho.less (show w.heap.size+1<=_ from av.o);obtain⟨b2,c2,rfl,x1,x2,x3,x4⟩:=ho;have bn:Hid (OwnB w2 (w.heap.size+1) (.slice (some ⟨b2,0,none⟩) _ c2) _):=I ⟨b2,c2,rfl,x1,x2,x3,x4⟩;clear x1 x2 x3 x4;replace HC:=I hd;replace aw:=I (aw.o.keep M (by have:=Z.o;omega));replace O:=I (O.o.grown M (by intro e;injection e with e;have:=Z.o;omega));replace HG:=I (Db HG.o M);replace av:=I (Nat.lt_of_lt_of_le av.o M.size);clear hd M)
  |(go_at_call 208;(with_reducible refine Calls.mono (T3.o _ _ HC.o) ?_);rintro e w3 ⟨rfl,hd,M⟩;clear T3;replace HC:=I hd;replace aw:=I (aw.o.keep M (by have:=Z.o;omega));replace bn:=I (bn.o.keep M (by have:=Z.o;omega));replace O:=I (O.o.grown M (by intro e;injection e with e;have:=Z.o;omega));replace HG:=I (Db HG.o M);replace av:=I (Nat.lt_of_lt_of_le av.o M.size);clear hd M)
  |(go_at_call 209;(with_reducible refine Calls.mono (T4.o _ _ HC.o) ?_);rintro e w4 ⟨rfl,hd,M⟩;clear T4;replace HC:=I hd;replace aw:=I (aw.o.keep M (by have:=Z.o;omega));replace bn:=I (bn.o.keep M (by have:=Z.o;omega));replace O:=I (O.o.grown M (by intro e;injection e with e;have:=Z.o;omega));replace HG:=I (Db HG.o M);replace av:=I (Nat.lt_of_lt_of_le av.o M.size);clear hd M)
  |(go_at_call 209;(with_reducible refine Calls.mono (T5.o _ _ HC.o) ?_);rintro e w5 ⟨rfl,hd,M⟩;clear T5;replace HC:=I hd;replace aw:=I (aw.o.keep M (by have:=Z.o;omega));replace bn:=I (bn.o.keep M (by have:=Z.o;omega));replace O:=I (O.o.grown M (by intro e;injection e with e;have:=Z.o;omega));replace HG:=I (Db HG.o M);replace av:=I (Nat.lt_of_lt_of_le av.o M.size);clear hd M;have n0:=O.c0;have y0:=O.o.frozen 0;have n1:=O.c1;have y1:=O.o.frozen 1;have n2:=O.c2;have y2:=O.o.frozen 2;have n3:=O.c3;have y3:=O.o.frozen 3;have n4:=O.c4;have y4:=O.o.frozen 4;have n5:=O.c5;have y5:=O.o.frozen 5;have n6:=O.c6;have y6:=O.o.frozen 6;have n7:=O.c7;have y7:=O.o.frozen 7;have n8:=O.c8;have y8:=O.o.frozen 8)
  |fail)
 have hE:Blk (((((((((w5.setCell ⟨w.heap.size,0,none⟩ (.string ⟨v1.s.1.toArray⟩)).setCell ⟨w.heap.size,1,none⟩ (.string ⟨v1.s.2.toArray⟩)).setCell ⟨w.heap.size,2,none⟩ (.int .i64 v1.k)).setCell ⟨w.heap.size,3,none⟩ (.slice (some ⟨b1,0,none⟩) v1.b.length c1)).setCell ⟨w.heap.size,4,none⟩ (.slice (some ⟨b2,0,none⟩) v2.length c2)).setCell ⟨w.heap.size,5,none⟩ (.string ⟨v3.1.toArray⟩)).setCell ⟨w.heap.size,6,none⟩ (.string ⟨v3.2.toArray⟩)).setCell ⟨w.heap.size,7,none⟩ (.int .i64 v4)).setCell ⟨w.heap.size,8,none⟩ (.int .i64 v5)) w.heap.size 89 #[.string ⟨v1.s.1.toArray⟩,.string ⟨v1.s.2.toArray⟩,.int .i64 v1.k,.slice (some ⟨b1,0,none⟩) v1.b.length c1,.slice (some ⟨b2,0,none⟩) v2.length c2,.string ⟨v3.1.toArray⟩,.string ⟨v3.2.toArray⟩,.int .i64 v4,.int .i64 v5]:=(((((((((O.o.set 0 (.string ⟨v1.s.1.toArray⟩)).set 1 (.string ⟨v1.s.2.toArray⟩)).set 2 (.int .i64 v1.k)).set 3 (.slice (some ⟨b1,0,none⟩) v1.b.length c1)).set 4 (.slice (some ⟨b2,0,none⟩) v2.length c2)).set 5 (.string ⟨v3.1.toArray⟩)).set 6 (.string ⟨v3.2.toArray⟩)).set 7 (.int .i64 v4)).set 8 (.int .i64 v5));have hp:=(AN (AN (AN (AN (AN (AN (AN (AN (AN (World.grownBy.refl w5 (some w.heap.size)) (p:=⟨w.heap.size,0,none⟩) (.inl rfl) (.string ⟨v1.s.1.toArray⟩)) (p:=⟨w.heap.size,1,none⟩) (.inl rfl) (.string ⟨v1.s.2.toArray⟩)) (p:=⟨w.heap.size,2,none⟩) (.inl rfl) (.int .i64 v1.k)) (p:=⟨w.heap.size,3,none⟩) (.inl rfl) (.slice (some ⟨b1,0,none⟩) v1.b.length c1)) (p:=⟨w.heap.size,4,none⟩) (.inl rfl) (.slice (some ⟨b2,0,none⟩) v2.length c2)) (p:=⟨w.heap.size,5,none⟩) (.inl rfl) (.string ⟨v3.1.toArray⟩)) (p:=⟨w.heap.size,6,none⟩) (.inl rfl) (.string ⟨v3.2.toArray⟩)) (p:=⟨w.heap.size,7,none⟩) (.inl rfl) (.int .i64 v4)) (p:=⟨w.heap.size,8,none⟩) (.inl rfl) (.int .i64 v5));have hq:=Ao (P:=Tryz.prog) hE Tryz.underlying89 rfl (by kernel_rfl);refine bodyPost_ret (v:=.agg #[.string ⟨v1.s.1.toArray⟩,.string ⟨v1.s.2.toArray⟩,.int .i64 v1.k,.slice (some ⟨b1,0,none⟩) v1.b.length c1,.slice (some ⟨b2,0,none⟩) v2.length c2,.string ⟨v3.1.toArray⟩,.string ⟨v3.2.toArray⟩,.int .i64 v4,.int .i64 v5]) ?_ ?_ ?_
 ·exact Au 2 89 ⟨w.heap.size,0,none⟩ Tryz.results173 rfl hq
 ·rfl
 exact⟨_,_,rfl,(aw.o.keep hp (by omega)).less (by omega),(bn.o.keep hp (by omega)).less (by omega),Dc HC.o hp (by have:=Z.o;omega),Hj HG.o hp Ag⟩
def zA:Array Value:=(asC as0).toArray
def zT:Array Value:=(tgC tg0 (.slice none 0 0) (.slice none 0 0)).toArray
def zR:Array Value:=(reC re0 (.slice none 0 0) (.slice none 0 0)).toArray
def zP:Array Value:=(apC ap0 (.slice none 0 0) (.slice none 0 0)).toArray
def zF:Array Value:=(faC fa0).toArray
theorem zA_v:AsV zA as0:=rfl
theorem zF_v:FaV zF fa0:=rfl
theorem zT_v (w:World) (B:Nat):TgV w B zT tg0:=⟨_,_,rfl,SlB.nil w B,SlB.nil w B⟩
theorem zR_v (w:World) (B:Nat):ReV w B zR re0:=⟨_,_,rfl,SlB.nil w B,SlB.nil w B⟩
theorem zP_v (w:World) (B:Nat):ApV w B zP ap0:=⟨_,_,rfl,SlB.nil w B,SlB.nil w B⟩
theorem zM_v (w:World) (B:Nat) (k:Int):MgP w B zA zT zR zP zF ⟨k,as0,tg0,re0,ap0,fa0⟩:=⟨zA_v,zT_v w B,zR_v w B,zP_v w B,zF_v⟩
def nm (m:Mg):Mg:=if m.k=1 then ⟨1,m.aq,tg0,re0,ap0,fa0⟩ else if m.k=2 then ⟨2,as0,m.tg,re0,ap0,fa0⟩ else if m.k=3 then ⟨3,as0,tg0,m.re,ap0,fa0⟩ else if m.k=4 then ⟨4,as0,tg0,re0,m.ap,fa0⟩ else if m.k=5 then ⟨5,as0,tg0,re0,ap0,m.fa⟩ else ⟨m.k,as0,tg0,re0,ap0,fa0⟩
theorem LG (k:Int):Tryz.prog.built 95 [(0,.int .i64 k)]=some (mgA k zA zT zR zP zF):=by kernel_rfl
theorem UE (cs:Array Value) (m:Mg) (w:World) (h:MgV w w.heap.size cs m):Calls Tryz.prog 213 #[.agg cs] w fun e w'=>∃ds,e=.returned (.agg ds)/\MgV w' w'.heap.size ds (nm m)/\Below w.heap.size w w':=by
 obtain⟨pa,pt,pr,pp,pf,hc,hp⟩:=h;obtain⟨zz,av⟩:∃z:Array Value,z=#[.int .i64 0,.string ⟨#[]⟩,.string ⟨#[]⟩,.string ⟨#[]⟩,.string ⟨#[]⟩,.int .i64 0,.int .i64 0,.string ⟨#[]⟩,.string ⟨#[]⟩,.int .i64 0,.slice none 0 0,.slice none 0 0,.string ⟨#[]⟩,.string ⟨#[]⟩,.int .i64 0,.int .i64 0,.string ⟨#[]⟩,.string ⟨#[]⟩,.string ⟨#[]⟩,.string ⟨#[]⟩,.int .i64 0,.slice none 0 0,.slice none 0 0,.string ⟨#[]⟩,.string ⟨#[]⟩,.int .i64 0,.slice none 0 0,.slice none 0 0,.int .i64 0,.int .i64 0]:=⟨_,rfl⟩;have cb:zz=mgA 0 zA zT zR zP zF:=by rw[av];rfl
 have bB:zz.size=30:=by rw[cb];exact(zM_v w 0 0).size 0
 have aw:=I bB;obtain⟨W,eW⟩:=Ak ((w.alloc (.cells cs 95)).alloc (.cells zz 95));have ca:W.heap.size=w.heap.size+1+1:=by rw[eW];simp
 have HK:=I (show Blk W w.heap.size 95 (mgA m.k pa pt pr pp pf) by rw[eW,<-hc];exact(Blk.new _ _ _).alloc _);have hq:=Blk.new (w.alloc (.cells cs 95)) 95 zz;rw[show(w.alloc (.cells cs 95)).heap.size=w.heap.size+1 by simp,<-eW] at hq;have HR:=I hq;clear hq;have Z:=I (show Below w.heap.size w W by rw[eW];exact(Ah.alloc Ag _).alloc (by simp) _);have HA:=I (hp.at_ HK.o);have k0:=HA.o.k;have HP:=I hp;have bn:=I ca;have bq:=I (LG m.k);obtain⟨c0,bx⟩:∃c,c=mgA m.k zA zT zR zP zF:=⟨_,rfl⟩;have bz:c0.size=30:=by rw[bx];exact(zM_v w 0 m.k).size m.k
 have HO:=I (show c0.all (·.oneCell')=true by rw[bx];exact(zM_v w 0 m.k).one m.k);have HI:=I (show(Tryz.prog.info? 95).map (·.size)=some c0.size by rw[bz];exact AZ);have bb:=I bz;rw[<-bx] at bq;have EC:=I bx;clear hc hp ca bB bz bx cb
 by_cases m1:m.k=1
 ·have y1:(m.k==1)=true:=by simpa using m1
  have y2:(m.k==2)=false:=by simp;omega
  have y3:(m.k==3)=false:=by simp;omega
  have y4:(m.k==4)=false:=by simp;omega
  have y5:(m.k==5)=false:=by simp;omega
  have EN:=I (show nm m=⟨m.k,m.aq,tg0,re0,ap0,fa0⟩ by rw[nm,if_pos m1,m1]);clear m1;have HM:=I (show MgP w w.heap.size pa zT zR zP zF ⟨m.k,m.aq,tg0,re0,ap0,fa0⟩ from⟨HP.o.a,zT_v w w.heap.size,zR_v w w.heap.size,zP_v w w.heap.size,zF_v⟩);have O:=I (show(Tryz.prog.info? 95).map (·.size)=some (mgA m.k pa zT zR zP zF).size by rw[HM.o.size];exact AZ);go_enter Tryz.func213,Tryz.ntmps213
  go_upto_region 1 with fail
  rw[<-av,<-eW];clear av eW
  go_wp2_with (first
   |(refine Ae (by rfl) 95 #[(0,.tmp 5)] (by rfl) c0 (by simp only[List.map_toArray,List.map_cons,List.map_nil];exact bq.o) ?_)
   |(refine wpList_store_mid (by rfl) 95 (.tmp 3) (.tmp 6) (by rfl) W.heap.size 0 c0 (by rfl) (by rfl) (Ar (Blk.new W 95 Ay) _ (by have:=bb.o;simp;omega)) HI.o HO.o ?_;have hV:=Bk W 95 Ay c0 (by have:=bb.o;simp;omega);generalize ((W.alloc (.cells Ay 95)).setCells W.heap.size 0 c0.toList)=V at hV⊢;have HX:=I (show Blk V W.heap.size 95 (mgA m.k zA zT zR zP zF) from EC.o▸hV.1);replace HK:=I (HK.o.below hV.2);replace HR:=I (HR.o.below hV.2);replace Z:=I (Z.o.trans (hV.2.mono Z.o.size));clear hV HA k0;have HA:=I (HP.o.at_ HK.o);have k0:=HA.o.k)
   |(refine Am (by rfl) 87 (.tmp 11) (by rfl) w.heap.size 1 (by rfl) pa _ HA.o.a Tryz.underlying87 (by rfl) (by rw[HP.o.a.size];exact Cs) ?_)
   |(refine wpList_store_mid (by rfl) 87 (.tmp 13) (.tmp 12) (by rfl) W.heap.size 1 pa (by rfl) (by rfl) (Cx HX.o 1 _ (by rw[(zM_v W 0 m.k).size m.k,HP.o.a.size];omega)) (by rw[HP.o.a.size];exact Cs) HP.o.a.one ?_;have hX:=JR (ps:=pa) (ds:=mgA m.k pa zT zR zP zF) (pre:=[.int .i64 m.k]) (mid:=zA.toList) (post:=zT.toList++zR.toList++zP.toList++zF.toList) (o:=1) HX.o (by simp [mgA]) (by rfl) (by rw[HP.o.a.size];rfl) (by simp [mgA]);have M:=Fi V W.heap.size 1 pa.toList;generalize V.setCells W.heap.size 1 pa.toList=V2 at hX M⊢;replace HX:=I hX;replace HR:=I (HR.o.grown M (by intro e;injection e with e;have:=bn.o;omega));replace Z:=I (Az Z.o M Z.o.size (by have:=bn.o;omega));clear hX M HA HK k0)
   |(refine Am (by rfl) 95 (.tmp 3) (by rfl) W.heap.size 0 (by rfl) (mgA m.k pa zT zR zP zF) _ (Ad HX.o) Tryz.underlying95 (by rfl) O.o ?_)
   |(refine wpList_store_mid (by rfl) 95 (.tmp 2) (.tmp 34) (by rfl) (w.heap.size+1) 0 (mgA m.k pa zT zR zP zF) (by rfl) (by rfl) (Ar HR.o _ (by rw[HM.o.size];have:=aw.o;omega)) O.o (HM.o.one _) ?_)
   |fail)
  have hE:=AK (ds:=mgA m.k pa zT zR zP zF) HR.o (by rw[HM.o.size];have:=aw.o;omega);have hp:=AQ V2 (w.heap.size+1) (mgA m.k pa zT zR zP zF).toList;have hq:=Ao (P:=Tryz.prog) hE Tryz.underlying95 rfl O.o;refine bodyPost_ret (v:=.agg (mgA m.k pa zT zR zP zF)) ?_ ?_ ?_
  ·exact Au 2 95 ⟨w.heap.size+1,0,none⟩ Tryz.results213 rfl hq
  ·rfl
  have hB:=Az Z.o hp Z.o.size (by omega);refine⟨_,rfl,?_,hB⟩;rw[EN.o];exact⟨pa,zT,zR,zP,zF,rfl,(HM.o.keep hB).more hB.size⟩
 ·have cf:=m1
  by_cases m2:m.k=2
  ·have y1:(m.k==1)=false:=by simp;omega
   have y2:(m.k==2)=true:=by simpa using m2
   have y3:(m.k==3)=false:=by simp;omega
   have y4:(m.k==4)=false:=by simp;omega
   have y5:(m.k==5)=false:=by simp;omega
   have EN:=I (show nm m=⟨m.k,as0,m.tg,re0,ap0,fa0⟩ by rw[nm,if_neg m1,if_pos m2,m2]);clear m1 m2;have HM:=I (show MgP w w.heap.size zA pt zR zP zF ⟨m.k,as0,m.tg,re0,ap0,fa0⟩ from⟨zA_v,HP.o.t,zR_v w w.heap.size,zP_v w w.heap.size,zF_v⟩);have O:=I (show(Tryz.prog.info? 95).map (·.size)=some (mgA m.k zA pt zR zP zF).size by rw[HM.o.size];exact AZ);go_enter Tryz.func213,Tryz.ntmps213
   go_upto_region 1 with fail
   rw[<-av,<-eW];clear av eW
   go_wp2_with (first
    |(refine Ae (by rfl) 95 #[(0,.tmp 5)] (by rfl) c0 (by simp only[List.map_toArray,List.map_cons,List.map_nil];exact bq.o) ?_)
    |(refine wpList_store_mid (by rfl) 95 (.tmp 3) (.tmp 6) (by rfl) W.heap.size 0 c0 (by rfl) (by rfl) (Ar (Blk.new W 95 Ay) _ (by have:=bb.o;simp;omega)) HI.o HO.o ?_;have hV:=Bk W 95 Ay c0 (by have:=bb.o;simp;omega);generalize ((W.alloc (.cells Ay 95)).setCells W.heap.size 0 c0.toList)=V at hV⊢;have HX:=I (show Blk V W.heap.size 95 (mgA m.k zA zT zR zP zF) from EC.o▸hV.1);replace HK:=I (HK.o.below hV.2);replace HR:=I (HR.o.below hV.2);replace Z:=I (Z.o.trans (hV.2.mono Z.o.size));clear hV HA k0;have HA:=I (HP.o.at_ HK.o);have k0:=HA.o.k)
    |(refine Am (by rfl) 89 (.tmp 16) (by rfl) w.heap.size 7 (by rfl) pt _ HA.o.t Tryz.underlying89 (by rfl) (by rw[HP.o.t.size];exact Dd) ?_)
    |(refine wpList_store_mid (by rfl) 89 (.tmp 18) (.tmp 17) (by rfl) W.heap.size 7 pt (by rfl) (by rfl) (Cx HX.o 7 _ (by rw[(zM_v W 0 m.k).size m.k,HP.o.t.size];omega)) (by rw[HP.o.t.size];exact Dd) HP.o.t.one ?_;have hX:=JR (ps:=pt) (ds:=mgA m.k zA pt zR zP zF) (pre:=[.int .i64 m.k]++zA.toList) (mid:=zT.toList) (post:=zR.toList++zP.toList++zF.toList) (o:=7) HX.o (by simp [mgA]) (by rfl) (by rw[HP.o.t.size];rfl) (by simp [mgA]);have M:=Fi V W.heap.size 7 pt.toList;generalize V.setCells W.heap.size 7 pt.toList=V2 at hX M⊢;replace HX:=I hX;replace HR:=I (HR.o.grown M (by intro e;injection e with e;have:=bn.o;omega));replace Z:=I (Az Z.o M Z.o.size (by have:=bn.o;omega));clear hX M HA HK k0)
    |(refine Am (by rfl) 95 (.tmp 3) (by rfl) W.heap.size 0 (by rfl) (mgA m.k zA pt zR zP zF) _ (Ad HX.o) Tryz.underlying95 (by rfl) O.o ?_)
    |(refine wpList_store_mid (by rfl) 95 (.tmp 2) (.tmp 34) (by rfl) (w.heap.size+1) 0 (mgA m.k zA pt zR zP zF) (by rfl) (by rfl) (Ar HR.o _ (by rw[HM.o.size];have:=aw.o;omega)) O.o (HM.o.one _) ?_)
    |fail)
   have hE:=AK (ds:=mgA m.k zA pt zR zP zF) HR.o (by rw[HM.o.size];have:=aw.o;omega);have hp:=AQ V2 (w.heap.size+1) (mgA m.k zA pt zR zP zF).toList;have hq:=Ao (P:=Tryz.prog) hE Tryz.underlying95 rfl O.o;refine bodyPost_ret (v:=.agg (mgA m.k zA pt zR zP zF)) ?_ ?_ ?_
   ·exact Au 2 95 ⟨w.heap.size+1,0,none⟩ Tryz.results213 rfl hq
   ·rfl
   have hB:=Az Z.o hp Z.o.size (by omega);refine⟨_,rfl,?_,hB⟩;rw[EN.o];exact⟨zA,pt,zR,zP,zF,rfl,(HM.o.keep hB).more hB.size⟩
  ·have cc:=m2
   by_cases m3:m.k=3
   ·have y1:(m.k==1)=false:=by simp;omega
    have y2:(m.k==2)=false:=by simp;omega
    have y3:(m.k==3)=true:=by simpa using m3
    have y4:(m.k==4)=false:=by simp;omega
    have y5:(m.k==5)=false:=by simp;omega
    have EN:=I (show nm m=⟨m.k,as0,tg0,m.re,ap0,fa0⟩ by rw[nm,if_neg m1,if_neg m2,if_pos m3,m3]);clear m1 m2 m3;have HM:=I (show MgP w w.heap.size zA zT pr zP zF ⟨m.k,as0,tg0,m.re,ap0,fa0⟩ from⟨zA_v,zT_v w w.heap.size,HP.o.r,zP_v w w.heap.size,zF_v⟩);have O:=I (show(Tryz.prog.info? 95).map (·.size)=some (mgA m.k zA zT pr zP zF).size by rw[HM.o.size];exact AZ);go_enter Tryz.func213,Tryz.ntmps213
    go_upto_region 1 with fail
    rw[<-av,<-eW];clear av eW
    go_wp2_with (first
     |(refine Ae (by rfl) 95 #[(0,.tmp 5)] (by rfl) c0 (by simp only[List.map_toArray,List.map_cons,List.map_nil];exact bq.o) ?_)
     |(refine wpList_store_mid (by rfl) 95 (.tmp 3) (.tmp 6) (by rfl) W.heap.size 0 c0 (by rfl) (by rfl) (Ar (Blk.new W 95 Ay) _ (by have:=bb.o;simp;omega)) HI.o HO.o ?_;have hV:=Bk W 95 Ay c0 (by have:=bb.o;simp;omega);generalize ((W.alloc (.cells Ay 95)).setCells W.heap.size 0 c0.toList)=V at hV⊢;have HX:=I (show Blk V W.heap.size 95 (mgA m.k zA zT zR zP zF) from EC.o▸hV.1);replace HK:=I (HK.o.below hV.2);replace HR:=I (HR.o.below hV.2);replace Z:=I (Z.o.trans (hV.2.mono Z.o.size));clear hV HA k0;have HA:=I (HP.o.at_ HK.o);have k0:=HA.o.k)
     |(refine Am (by rfl) 91 (.tmp 21) (by rfl) w.heap.size 16 (by rfl) pr _ HA.o.r Tryz.underlying91 (by rfl) (by rw[HP.o.r.size];exact DD) ?_)
     |(refine wpList_store_mid (by rfl) 91 (.tmp 23) (.tmp 22) (by rfl) W.heap.size 16 pr (by rfl) (by rfl) (Cx HX.o 16 _ (by rw[(zM_v W 0 m.k).size m.k,HP.o.r.size];omega)) (by rw[HP.o.r.size];exact DD) HP.o.r.one ?_;have hX:=JR (ps:=pr) (ds:=mgA m.k zA zT pr zP zF) (pre:=[.int .i64 m.k]++zA.toList++zT.toList) (mid:=zR.toList) (post:=zP.toList++zF.toList) (o:=16) HX.o (by simp [mgA]) (by rfl) (by rw[HP.o.r.size];rfl) (by simp [mgA]);have M:=Fi V W.heap.size 16 pr.toList;generalize V.setCells W.heap.size 16 pr.toList=V2 at hX M⊢;replace HX:=I hX;replace HR:=I (HR.o.grown M (by intro e;injection e with e;have:=bn.o;omega));replace Z:=I (Az Z.o M Z.o.size (by have:=bn.o;omega));clear hX M HA HK k0)
     |(refine Am (by rfl) 95 (.tmp 3) (by rfl) W.heap.size 0 (by rfl) (mgA m.k zA zT pr zP zF) _ (Ad HX.o) Tryz.underlying95 (by rfl) O.o ?_)
     |(refine wpList_store_mid (by rfl) 95 (.tmp 2) (.tmp 34) (by rfl) (w.heap.size+1) 0 (mgA m.k zA zT pr zP zF) (by rfl) (by rfl) (Ar HR.o _ (by rw[HM.o.size];have:=aw.o;omega)) O.o (HM.o.one _) ?_)
     |fail)
    have hE:=AK (ds:=mgA m.k zA zT pr zP zF) HR.o (by rw[HM.o.size];have:=aw.o;omega);have hp:=AQ V2 (w.heap.size+1) (mgA m.k zA zT pr zP zF).toList;have hq:=Ao (P:=Tryz.prog) hE Tryz.underlying95 rfl O.o;refine bodyPost_ret (v:=.agg (mgA m.k zA zT pr zP zF)) ?_ ?_ ?_
    ·exact Au 2 95 ⟨w.heap.size+1,0,none⟩ Tryz.results213 rfl hq
    ·rfl
    have hB:=Az Z.o hp Z.o.size (by omega);refine⟨_,rfl,?_,hB⟩;rw[EN.o];exact⟨zA,zT,pr,zP,zF,rfl,(HM.o.keep hB).more hB.size⟩
   ·have cj:=m3
    by_cases m4:m.k=4
    ·have y1:(m.k==1)=false:=by simp;omega
     have y2:(m.k==2)=false:=by simp;omega
     have y3:(m.k==3)=false:=by simp;omega
     have y4:(m.k==4)=true:=by simpa using m4
     have y5:(m.k==5)=false:=by simp;omega
     have EN:=I (show nm m=⟨m.k,as0,tg0,re0,m.ap,fa0⟩ by rw[nm,if_neg m1,if_neg m2,if_neg m3,if_pos m4,m4]);clear m1 m2 m3 m4;have HM:=I (show MgP w w.heap.size zA zT zR pp zF ⟨m.k,as0,tg0,re0,m.ap,fa0⟩ from⟨zA_v,zT_v w w.heap.size,zR_v w w.heap.size,HP.o.p,zF_v⟩);have O:=I (show(Tryz.prog.info? 95).map (·.size)=some (mgA m.k zA zT zR pp zF).size by rw[HM.o.size];exact AZ);go_enter Tryz.func213,Tryz.ntmps213
     go_upto_region 1 with fail
     rw[<-av,<-eW];clear av eW
     go_wp2_with (first
      |(refine Ae (by rfl) 95 #[(0,.tmp 5)] (by rfl) c0 (by simp only[List.map_toArray,List.map_cons,List.map_nil];exact bq.o) ?_)
      |(refine wpList_store_mid (by rfl) 95 (.tmp 3) (.tmp 6) (by rfl) W.heap.size 0 c0 (by rfl) (by rfl) (Ar (Blk.new W 95 Ay) _ (by have:=bb.o;simp;omega)) HI.o HO.o ?_;have hV:=Bk W 95 Ay c0 (by have:=bb.o;simp;omega);generalize ((W.alloc (.cells Ay 95)).setCells W.heap.size 0 c0.toList)=V at hV⊢;have HX:=I (show Blk V W.heap.size 95 (mgA m.k zA zT zR zP zF) from EC.o▸hV.1);replace HK:=I (HK.o.below hV.2);replace HR:=I (HR.o.below hV.2);replace Z:=I (Z.o.trans (hV.2.mono Z.o.size));clear hV HA k0;have HA:=I (HP.o.at_ HK.o);have k0:=HA.o.k)
      |(refine Am (by rfl) 85 (.tmp 26) (by rfl) w.heap.size 23 (by rfl) pp _ HA.o.p Tryz.underlying85 (by rfl) (by rw[HP.o.p.size];exact Eg) ?_)
      |(refine wpList_store_mid (by rfl) 85 (.tmp 28) (.tmp 27) (by rfl) W.heap.size 23 pp (by rfl) (by rfl) (Cx HX.o 23 _ (by rw[(zM_v W 0 m.k).size m.k,HP.o.p.size];omega)) (by rw[HP.o.p.size];exact Eg) HP.o.p.one ?_;have hX:=JR (ps:=pp) (ds:=mgA m.k zA zT zR pp zF) (pre:=[.int .i64 m.k]++zA.toList++zT.toList++zR.toList) (mid:=zP.toList) (post:=zF.toList) (o:=23) HX.o (by simp [mgA]) (by rfl) (by rw[HP.o.p.size];rfl) (by simp [mgA]);have M:=Fi V W.heap.size 23 pp.toList;generalize V.setCells W.heap.size 23 pp.toList=V2 at hX M⊢;replace HX:=I hX;replace HR:=I (HR.o.grown M (by intro e;injection e with e;have:=bn.o;omega));replace Z:=I (Az Z.o M Z.o.size (by have:=bn.o;omega));clear hX M HA HK k0)
      |(refine Am (by rfl) 95 (.tmp 3) (by rfl) W.heap.size 0 (by rfl) (mgA m.k zA zT zR pp zF) _ (Ad HX.o) Tryz.underlying95 (by rfl) O.o ?_)
      |(refine wpList_store_mid (by rfl) 95 (.tmp 2) (.tmp 34) (by rfl) (w.heap.size+1) 0 (mgA m.k zA zT zR pp zF) (by rfl) (by rfl) (Ar HR.o _ (by rw[HM.o.size];have:=aw.o;omega)) O.o (HM.o.one _) ?_)
      |fail)
     have hE:=AK (ds:=mgA m.k zA zT zR pp zF) HR.o (by rw[HM.o.size];have:=aw.o;omega);have hp:=AQ V2 (w.heap.size+1) (mgA m.k zA zT zR pp zF).toList;have hq:=Ao (P:=Tryz.prog) hE Tryz.underlying95 rfl O.o;refine bodyPost_ret (v:=.agg (mgA m.k zA zT zR pp zF)) ?_ ?_ ?_
     ·exact Au 2 95 ⟨w.heap.size+1,0,none⟩ Tryz.results213 rfl hq
     ·rfl
     have hB:=Az Z.o hp Z.o.size (by omega);refine⟨_,rfl,?_,hB⟩;rw[EN.o];exact⟨zA,zT,zR,pp,zF,rfl,(HM.o.keep hB).more hB.size⟩
    ·have cg:=m4
     by_cases m5:m.k=5
     ·have y1:(m.k==1)=false:=by simp;omega
      have y2:(m.k==2)=false:=by simp;omega
      have y3:(m.k==3)=false:=by simp;omega
      have y4:(m.k==4)=false:=by simp;omega
      have y5:(m.k==5)=true:=by simpa using m5
      have EN:=I (show nm m=⟨m.k,as0,tg0,re0,ap0,m.fa⟩ by rw[nm,if_neg m1,if_neg m2,if_neg m3,if_neg m4,if_pos m5,m5]);clear m1 m2 m3 m4 m5;have HM:=I (show MgP w w.heap.size zA zT zR zP pf ⟨m.k,as0,tg0,re0,ap0,m.fa⟩ from⟨zA_v,zT_v w w.heap.size,zR_v w w.heap.size,zP_v w w.heap.size,HP.o.f⟩);have O:=I (show(Tryz.prog.info? 95).map (·.size)=some (mgA m.k zA zT zR zP pf).size by rw[HM.o.size];exact AZ);go_enter Tryz.func213,Tryz.ntmps213
      go_upto_region 1 with fail
      rw[<-av,<-eW];clear av eW
      go_wp2_with (first
       |(refine Ae (by rfl) 95 #[(0,.tmp 5)] (by rfl) c0 (by simp only[List.map_toArray,List.map_cons,List.map_nil];exact bq.o) ?_)
       |(refine wpList_store_mid (by rfl) 95 (.tmp 3) (.tmp 6) (by rfl) W.heap.size 0 c0 (by rfl) (by rfl) (Ar (Blk.new W 95 Ay) _ (by have:=bb.o;simp;omega)) HI.o HO.o ?_;have hV:=Bk W 95 Ay c0 (by have:=bb.o;simp;omega);generalize ((W.alloc (.cells Ay 95)).setCells W.heap.size 0 c0.toList)=V at hV⊢;have HX:=I (show Blk V W.heap.size 95 (mgA m.k zA zT zR zP zF) from EC.o▸hV.1);replace HK:=I (HK.o.below hV.2);replace HR:=I (HR.o.below hV.2);replace Z:=I (Z.o.trans (hV.2.mono Z.o.size));clear hV HA k0;have HA:=I (HP.o.at_ HK.o);have k0:=HA.o.k)
       |(refine Am (by rfl) 93 (.tmp 31) (by rfl) w.heap.size 28 (by rfl) pf _ HA.o.f Tryz.underlying93 (by rfl) (by rw[HP.o.f.size];exact FL) ?_)
       |(refine wpList_store_mid (by rfl) 93 (.tmp 33) (.tmp 32) (by rfl) W.heap.size 28 pf (by rfl) (by rfl) (Cx HX.o 28 _ (by rw[(zM_v W 0 m.k).size m.k,HP.o.f.size];omega)) (by rw[HP.o.f.size];exact FL) HP.o.f.one ?_;have hX:=JR (ps:=pf) (ds:=mgA m.k zA zT zR zP pf) (pre:=[.int .i64 m.k]++zA.toList++zT.toList++zR.toList++zP.toList) (mid:=zF.toList) (post:=[]) (o:=28) HX.o (by simp [mgA]) (by rfl) (by rw[HP.o.f.size];rfl) (by simp [mgA]);have M:=Fi V W.heap.size 28 pf.toList;generalize V.setCells W.heap.size 28 pf.toList=V2 at hX M⊢;replace HX:=I hX;replace HR:=I (HR.o.grown M (by intro e;injection e with e;have:=bn.o;omega));replace Z:=I (Az Z.o M Z.o.size (by have:=bn.o;omega));clear hX M HA HK k0)
       |(refine Am (by rfl) 95 (.tmp 3) (by rfl) W.heap.size 0 (by rfl) (mgA m.k zA zT zR zP pf) _ (Ad HX.o) Tryz.underlying95 (by rfl) O.o ?_)
       |(refine wpList_store_mid (by rfl) 95 (.tmp 2) (.tmp 34) (by rfl) (w.heap.size+1) 0 (mgA m.k zA zT zR zP pf) (by rfl) (by rfl) (Ar HR.o _ (by rw[HM.o.size];have:=aw.o;omega)) O.o (HM.o.one _) ?_)
       |fail)
      have hE:=AK (ds:=mgA m.k zA zT zR zP pf) HR.o (by rw[HM.o.size];have:=aw.o;omega);have hp:=AQ V2 (w.heap.size+1) (mgA m.k zA zT zR zP pf).toList;have hq:=Ao (P:=Tryz.prog) hE Tryz.underlying95 rfl O.o;refine bodyPost_ret (v:=.agg (mgA m.k zA zT zR zP pf)) ?_ ?_ ?_
      ·exact Au 2 95 ⟨w.heap.size+1,0,none⟩ Tryz.results213 rfl hq
      ·rfl
      have hB:=Az Z.o hp Z.o.size (by omega);refine⟨_,rfl,?_,hB⟩;rw[EN.o];exact⟨zA,zT,zR,zP,pf,rfl,(HM.o.keep hB).more hB.size⟩
     ·have cd:=m5
      have y1:(m.k==1)=false:=by simp;omega
      have y2:(m.k==2)=false:=by simp;omega
      have y3:(m.k==3)=false:=by simp;omega
      have y4:(m.k==4)=false:=by simp;omega
      have y5:(m.k==5)=false:=by simp;omega
      have EN:=I (show nm m=⟨m.k,as0,tg0,re0,ap0,fa0⟩ by rw[nm,if_neg m1,if_neg m2,if_neg m3,if_neg m4,if_neg m5]);clear m1 m2 m3 m4 m5;have HM:=I (show MgP w w.heap.size zA zT zR zP zF ⟨m.k,as0,tg0,re0,ap0,fa0⟩ from⟨zA_v,zT_v w w.heap.size,zR_v w w.heap.size,zP_v w w.heap.size,zF_v⟩);have O:=I (show(Tryz.prog.info? 95).map (·.size)=some (mgA m.k zA zT zR zP zF).size by rw[HM.o.size];exact AZ);go_enter Tryz.func213,Tryz.ntmps213
      go_upto_region 1 with fail
      rw[<-av,<-eW];clear av eW
      go_wp2_with (first
       |(refine Ae (by rfl) 95 #[(0,.tmp 5)] (by rfl) c0 (by simp only[List.map_toArray,List.map_cons,List.map_nil];exact bq.o) ?_)
       |(refine wpList_store_mid (by rfl) 95 (.tmp 3) (.tmp 6) (by rfl) W.heap.size 0 c0 (by rfl) (by rfl) (Ar (Blk.new W 95 Ay) _ (by have:=bb.o;simp;omega)) HI.o HO.o ?_;have hV:=Bk W 95 Ay c0 (by have:=bb.o;simp;omega);generalize ((W.alloc (.cells Ay 95)).setCells W.heap.size 0 c0.toList)=V at hV⊢;have HX:=I (show Blk V W.heap.size 95 (mgA m.k zA zT zR zP zF) from EC.o▸hV.1);replace HK:=I (HK.o.below hV.2);replace HR:=I (HR.o.below hV.2);replace Z:=I (Z.o.trans (hV.2.mono Z.o.size));clear hV HA k0;have HA:=I (HP.o.at_ HK.o);have k0:=HA.o.k)
       |(refine Am (by rfl) 95 (.tmp 3) (by rfl) W.heap.size 0 (by rfl) (mgA m.k zA zT zR zP zF) _ (Ad HX.o) Tryz.underlying95 (by rfl) O.o ?_)
       |(refine wpList_store_mid (by rfl) 95 (.tmp 2) (.tmp 34) (by rfl) (w.heap.size+1) 0 (mgA m.k zA zT zR zP zF) (by rfl) (by rfl) (Ar HR.o _ (by rw[HM.o.size];have:=aw.o;omega)) O.o (HM.o.one _) ?_)
       |fail)
      have hE:=AK (ds:=mgA m.k zA zT zR zP zF) HR.o (by rw[HM.o.size];have:=aw.o;omega);have hp:=AQ V (w.heap.size+1) (mgA m.k zA zT zR zP zF).toList;have hq:=Ao (P:=Tryz.prog) hE Tryz.underlying95 rfl O.o;refine bodyPost_ret (v:=.agg (mgA m.k zA zT zR zP zF)) ?_ ?_ ?_
      ·exact Au 2 95 ⟨w.heap.size+1,0,none⟩ Tryz.results213 rfl hq
      ·rfl
      have hB:=Az Z.o hp Z.o.size (by omega);refine⟨_,rfl,?_,hB⟩;rw[EN.o];exact⟨zA,zT,zR,zP,zF,rfl,(HM.o.keep hB).more hB.size⟩
def OwnN (w:World) (base:Nat) (v:Value) (l:L):Prop:=(v=.slice none 0 0/\l = [])\/OwnB w base v l
section
variable {w w':World} {base base' g:Nat} {v:Value} {l:L} {cs:Array Value}
theorem OwnN.keep (h:OwnN w base v l) (O:w.grownBy w' (some g)) (M:g<base):OwnN w' base v l:=h.imp id fun h=>h.keep O M
theorem OwnN.below (h:OwnN w base v l) (M:Below w.heap.size w w'):OwnN w' base v l:=h.imp id fun h=>h.below M
theorem OwnN.less (h:OwnN w base v l) (M:base'<=base):OwnN w base' v l:=h.imp id fun h=>h.less M
theorem OwnN.slb (h:OwnN w base v l):SlB w w.heap.size v l:=by
 rcases h with⟨rfl,rfl⟩ | h
 ·exact SlB.nil _ _
 ·exact h.slb
def TgO (w:World) (B:Nat) (cs:Array Value) (q:Tg):Prop:=∃b a,cs=(tgC q b a).toArray/\OwnN w B b q.t.b/\OwnN w B a q.a
def ReO (w:World) (B:Nat) (cs:Array Value) (q:Re):Prop:=∃b a,cs=(reC q b a).toArray/\OwnN w B b q.t.b/\OwnN w B a q.b
def ApO (w:World) (B:Nat) (cs:Array Value) (q:Ap):Prop:=∃b a,cs=(apC q b a).toArray/\OwnN w B b q.t.b/\OwnN w B a q.a
theorem TgO.keep {q:Tg} (h:TgO w base cs q) (O:w.grownBy w' (some g)) (M:g<base):TgO w' base cs q:=by obtain⟨b,a,h1,Z,h3⟩:=h;exact⟨b,a,h1,Z.keep O M,h3.keep O M⟩
theorem TgO.below {q:Tg} (h:TgO w base cs q) (M:Below w.heap.size w w'):TgO w' base cs q:=by obtain⟨b,a,Z,O,h3⟩:=h;exact⟨b,a,Z,O.below M,h3.below M⟩
theorem TgO.less {q:Tg} (h:TgO w base cs q) (M:base'<=base):TgO w base' cs q:=by obtain⟨b,a,Z,O,h3⟩:=h;exact⟨b,a,Z,O.less M,h3.less M⟩
theorem TgO.toV {q:Tg} (h:TgO w base cs q):TgV w w.heap.size cs q:=by obtain⟨b,a,O,M,Z⟩:=h;exact⟨b,a,O,M.slb,Z.slb⟩
theorem ReO.keep {q:Re} (h:ReO w base cs q) (O:w.grownBy w' (some g)) (M:g<base):ReO w' base cs q:=by obtain⟨b,a,h1,Z,h3⟩:=h;exact⟨b,a,h1,Z.keep O M,h3.keep O M⟩
theorem ReO.below {q:Re} (h:ReO w base cs q) (M:Below w.heap.size w w'):ReO w' base cs q:=by obtain⟨b,a,Z,O,h3⟩:=h;exact⟨b,a,Z,O.below M,h3.below M⟩
theorem ReO.less {q:Re} (h:ReO w base cs q) (M:base'<=base):ReO w base' cs q:=by obtain⟨b,a,Z,O,h3⟩:=h;exact⟨b,a,Z,O.less M,h3.less M⟩
theorem ReO.toV {q:Re} (h:ReO w base cs q):ReV w w.heap.size cs q:=by obtain⟨b,a,O,M,Z⟩:=h;exact⟨b,a,O,M.slb,Z.slb⟩
theorem ApO.keep {q:Ap} (h:ApO w base cs q) (O:w.grownBy w' (some g)) (M:g<base):ApO w' base cs q:=by obtain⟨b,a,h1,Z,h3⟩:=h;exact⟨b,a,h1,Z.keep O M,h3.keep O M⟩
theorem ApO.below {q:Ap} (h:ApO w base cs q) (M:Below w.heap.size w w'):ApO w' base cs q:=by obtain⟨b,a,Z,O,h3⟩:=h;exact⟨b,a,Z,O.below M,h3.below M⟩
theorem ApO.less {q:Ap} (h:ApO w base cs q) (M:base'<=base):ApO w base' cs q:=by obtain⟨b,a,Z,O,h3⟩:=h;exact⟨b,a,Z,O.less M,h3.less M⟩
theorem ApO.toV {q:Ap} (h:ApO w base cs q):ApV w w.heap.size cs q:=by obtain⟨b,a,O,M,Z⟩:=h;exact⟨b,a,O,M.slb,Z.slb⟩
structure MpO (w:World) (B:Nat) (pa pt pr pp pf:Array Value) (m:Mg):Prop where
 a:AsV pa m.aq
 t:TgO w B pt m.tg
 r:ReO w B pr m.re
 p:ApO w B pp m.ap
 f:FaV pf m.fa
def MgO (w:World) (B:Nat) (cs:Array Value) (m:Mg):Prop:=∃pa pt pr pp pf,cs=mgA m.k pa pt pr pp pf/\MpO w B pa pt pr pp pf m
variable {pa pt pr pp pf:Array Value} {m:Mg}
theorem MpO.toV (h:MpO w base pa pt pr pp pf m):MgP w w.heap.size pa pt pr pp pf m:=⟨h.a,h.t.toV,h.r.toV,h.p.toV,h.f⟩
theorem MpO.keep (h:MpO w base pa pt pr pp pf m) (O:w.grownBy w' (some g)) (M:g<base):MpO w' base pa pt pr pp pf m:=⟨h.a,h.t.keep O M,h.r.keep O M,h.p.keep O M,h.f⟩
theorem MpO.below (h:MpO w base pa pt pr pp pf m) (M:Below w.heap.size w w'):MpO w' base pa pt pr pp pf m:=⟨h.a,h.t.below M,h.r.below M,h.p.below M,h.f⟩
theorem MpO.less (h:MpO w base pa pt pr pp pf m) (M:base'<=base):MpO w base' pa pt pr pp pf m:=⟨h.a,h.t.less M,h.r.less M,h.p.less M,h.f⟩
theorem MgO.toV (h:MgO w base cs m):MgV w w.heap.size cs m:=by obtain⟨pa,pt,pr,pp,pf,O,M⟩:=h;exact⟨pa,pt,pr,pp,pf,O,M.toV⟩
theorem MgO.keep (h:MgO w base cs m) (hg:w.grownBy w' (some g)) (M:g<base):MgO w' base cs m:=by obtain⟨pa,pt,pr,pp,pf,Z,O⟩:=h;exact⟨pa,pt,pr,pp,pf,Z,O.keep hg M⟩
theorem MgO.below (h:MgO w base cs m) (Z:Below w.heap.size w w'):MgO w' base cs m:=by obtain⟨pa,pt,pr,pp,pf,O,M⟩:=h;exact⟨pa,pt,pr,pp,pf,O,M.below Z⟩
theorem MgO.less (h:MgO w base cs m) (Z:base'<=base):MgO w base' cs m:=by obtain⟨pa,pt,pr,pp,pf,O,M⟩:=h;exact⟨pa,pt,pr,pp,pf,O,M.less Z⟩
theorem MgO.size (h:MgO w base cs m):cs.size=30:=by obtain⟨pa,pt,pr,pp,pf,O,M⟩:=h;rw[O];exact M.toV.size m.k
theorem MgO.one (h:MgO w base cs m):One cs:=by obtain⟨pa,pt,pr,pp,pf,O,M⟩:=h;rw[O];exact M.toV.one m.k
end
theorem zT_o (w:World) (B:Nat):TgO w B zT tg0:=⟨_,_,rfl,.inl ⟨rfl,rfl⟩,.inl ⟨rfl,rfl⟩⟩
theorem zR_o (w:World) (B:Nat):ReO w B zR re0:=⟨_,_,rfl,.inl ⟨rfl,rfl⟩,.inl ⟨rfl,rfl⟩⟩
theorem zP_o (w:World) (B:Nat):ApO w B zP ap0:=⟨_,_,rfl,.inl ⟨rfl,rfl⟩,.inl ⟨rfl,rfl⟩⟩
theorem zM_o (w:World) (B:Nat) (k:Int):MpO w B zA zT zR zP zF ⟨k,as0,tg0,re0,ap0,fa0⟩:=⟨zA_v,zT_o w B,zR_o w B,zP_o w B,zF_v⟩
section
variable (g:Nat) (c:Option L) (w:World) (h:Cur w g c) (hs:(c.getD []).length<=100000)
include h hs
theorem Xj:Calls Tryz.prog 172 #[.pointer (some ⟨g,0,none⟩)] w fun e w'=>∃ps,e=.returned (.agg ps)/\AsV ps (asQ c).1/\w.grownBy w' (some g):=
 (QW g c w h hs).mono fun e w' O=>by obtain⟨rfl,_,M⟩:=O;exact⟨_,rfl,rfl,M⟩
theorem Xk:Calls Tryz.prog 173 #[.pointer (some ⟨g,0,none⟩)] w fun e w'=>∃ps,e=.returned (.agg ps)/\TgO w' w.heap.size ps (tgQ c).1/\w.grownBy w' (some g):=
 (Rf g c w h hs).mono fun e w' M=>by obtain⟨z1,z2,rfl,Z,o2,_,O⟩:=M;exact⟨_,rfl,⟨_,_,rfl,.inr Z,.inr o2⟩,O⟩
theorem Xl:Calls Tryz.prog 174 #[.pointer (some ⟨g,0,none⟩)] w fun e w'=>∃ps,e=.returned (.agg ps)/\ReO w' w.heap.size ps (reQ c).1/\w.grownBy w' (some g):=
 (QX g c w h hs).mono fun e w' M=>by obtain⟨z1,z2,rfl,Z,o2,_,O⟩:=M;exact⟨_,rfl,⟨_,_,rfl,.inr Z,.inr o2⟩,O⟩
theorem Xm:Calls Tryz.prog 175 #[.pointer (some ⟨g,0,none⟩)] w fun e w'=>∃ps,e=.returned (.agg ps)/\ApO w' w.heap.size ps (apQ c).1/\w.grownBy w' (some g):=
 (QY g c w h hs).mono fun e w' M=>by obtain⟨z1,z2,rfl,Z,o2,_,O⟩:=M;exact⟨_,rfl,⟨_,_,rfl,.inr Z,.inr o2⟩,O⟩
theorem Xn:Calls Tryz.prog 176 #[.pointer (some ⟨g,0,none⟩)] w fun e w'=>∃ps,e=.returned (.agg ps)/\FaV ps (faQ c).1/\w.grownBy w' (some g):=
 (QZ g c w h hs).mono fun e w' O=>by obtain⟨rfl,_,M⟩:=O;exact⟨_,rfl,rfl,M⟩
end
theorem Xo {ps:Array Value} {q:As} (h:AsV ps q):Tryz.prog.built 95 [(0,.int .i64 1),(1,.agg ps)]=some (mgA 1 ps zT zR zP zF):=by rw[h];kernel_rfl
theorem Xp {w:World} {B:Nat} {ps:Array Value} {q:Tg} (h:TgO w B ps q):Tryz.prog.built 95 [(0,.int .i64 2),(2,.agg ps)]=some (mgA 2 zA ps zR zP zF):=by obtain⟨b,a,rfl,_⟩:=h;kernel_rfl
theorem Xq {w:World} {B:Nat} {ps:Array Value} {q:Re} (h:ReO w B ps q):Tryz.prog.built 95 [(0,.int .i64 3),(3,.agg ps)]=some (mgA 3 zA zT ps zP zF):=by obtain⟨b,a,rfl,_⟩:=h;kernel_rfl
theorem LH {w:World} {B:Nat} {ps:Array Value} {q:Ap} (h:ApO w B ps q):Tryz.prog.built 95 [(0,.int .i64 4),(4,.agg ps)]=some (mgA 4 zA zT zR ps zF):=by obtain⟨b,a,rfl,_⟩:=h;kernel_rfl
theorem Xr {ps:Array Value} {q:Fa} (h:FaV ps q):Tryz.prog.built 95 [(0,.int .i64 5),(5,.agg ps)]=some (mgA 5 zA zT zR zP ps):=by rw[h];kernel_rfl
theorem OL (A:Option Addr) (b:L) (cap:Nat) (w:World) (h:Rd w w.heap.size A (bvs b)) (hs:b.length<=100000):Calls Tryz.prog 135 #[.slice A b.length cap] w fun e w'=>∃ds,e=.returned (.agg ds)/\MgO w' w.heap.size ds (mgQ b)/\Below w.heap.size w w':=by
 obtain⟨zz,bB⟩:∃z:Array Value,z=#[.int .i64 0,.string ⟨#[]⟩,.string ⟨#[]⟩,.string ⟨#[]⟩,.string ⟨#[]⟩,.int .i64 0,.int .i64 0,.string ⟨#[]⟩,.string ⟨#[]⟩,.int .i64 0,.slice none 0 0,.slice none 0 0,.string ⟨#[]⟩,.string ⟨#[]⟩,.int .i64 0,.int .i64 0,.string ⟨#[]⟩,.string ⟨#[]⟩,.string ⟨#[]⟩,.string ⟨#[]⟩,.int .i64 0,.slice none 0 0,.slice none 0 0,.string ⟨#[]⟩,.string ⟨#[]⟩,.int .i64 0,.slice none 0 0,.slice none 0 0,.int .i64 0,.int .i64 0]:=⟨_,rfl⟩;have cn:zz=mgA 0 zA zT zR zP zF:=by rw[bB];rfl
 have ca:=I (show zz.size=30 by rw[cn];exact(zM_v w 0 0).size 0);obtain⟨W,eW⟩:=Ak (w.alloc (.cells zz 95));have cc:=I (show W.heap.size=w.heap.size+1 by rw[eW];simp);have Z:=I (show Blk W w.heap.size 95 zz by rw[eW];exact Blk.new _ _ _);have M:=I (show Below w.heap.size w W by rw[eW];exact Ah.alloc Ag _);clear cn;cases b with
 |nil=>
  have EQ:=I (show mgQ []=⟨0,as0,tg0,re0,ap0,fa0⟩ from rfl);have O:=I ((zM_v w 0 0).size 0);have cb:=I ((zM_v w 0 0).one 0);clear h hs;go_enter Tryz.func135,Tryz.ntmps135
  go_upto_region 1 with fail
  rw[<-bB,<-eW];clear bB eW
  go_wp2_with (first
   |(refine Ae (by rfl) 95 #[] (by rfl) (mgA 0 zA zT zR zP zF) built_none ?_)
   |(refine wpList_store_mid (by rfl) 95 (.tmp 2) (.tmp 7) (by rfl) w.heap.size 0 (mgA 0 zA zT zR zP zF) (by rfl) (by rfl) (Ar Z.o _ (by rw[O.o];have:=ca.o;omega)) (by rw[O.o];exact AZ) cb.o ?_)
   |fail)
  have hE:=AK (ds:=mgA 0 zA zT zR zP zF) Z.o (by rw[O.o];exact ca.o);have hp:=AQ W w.heap.size (mgA 0 zA zT zR zP zF).toList;have hq:=Ao (P:=Tryz.prog) hE Tryz.underlying95 rfl (by rw[O.o];exact AZ);refine bodyPost_ret (v:=.agg (mgA 0 zA zT zR zP zF)) ?_ ?_ ?_
  ·exact Au 2 95 ⟨w.heap.size,0,none⟩ Tryz.results135 rfl hq
  ·rfl
  refine⟨_,rfl,?_,Az M.o hp (by have:=Z.o.lt;omega) Ag⟩;rw[EQ.o];exact⟨zA,zT,zR,zP,zF,rfl,⟨zA_v,zT_o _ _,zR_o _ _,zP_o _ _,zF_v⟩⟩
 |cons t r=>
  obtain⟨bb,oo,rfl,cp,bz⟩:∃bb oo,A=some ⟨bb,oo,none⟩/\bb<w.heap.size/\w.cell? ⟨bb,oo,none⟩=some (.int .u8 (t.toNat:Int)):=by
   obtain⟨bb,oo,rfl,h1,h2⟩:=h.at_ (i:=0) (u:=bv t) rfl;exact⟨bb,oo,rfl,h1,h2⟩
  have cd:=I (fun w1 (h1:Below w.heap.size w w1)=>show w1.cell? ⟨bb,oo,none⟩=some (.int .u8 (t.toNat:Int)) from(h1.cell (p:=⟨bb,oo,none⟩) cp).trans bz);have hu:=Fp t;have c0:=I (fun w1 (h1:Below w.heap.size w w1)=>KV w1.heap.size (some ⟨bb,oo,none⟩) (t :: r) (t :: r).length cap w1 ((h.below h1).more h1.size) rfl);have cm:((some (t :: r):Option L).getD []).length<=100000:=hs;have c1:=I (fun g w1 h=>GN t g (some (t :: r)) w1 h (by omega));have bx:=FJ t cm;have HL:=I (show(0:Int)<(((t :: r).length:Nat):Int) by simp)
  by_cases m1:t=106
  ·have d1:((t.toNat:Int)==106)=true:=by rw[m1];rfl
   have EQ:=I (show mgQ (t :: r)=⟨1,(asQ (AP t (some (t :: r)))).1,tg0,re0,ap0,fa0⟩ by subst m1;rfl);obtain⟨s0,es0⟩:∃s,s=AP t (some (t :: r)):=⟨_,rfl⟩;rw[<-es0] at c1 bx EQ;have T1:=I (fun g w1 h=>Xj g s0 w1 h bx);clear es0 bx cm hs h bz hu m1;go_enter Tryz.func135,Tryz.ntmps135
   go_upto_region 1 with fail
   rw[<-bB,<-eW];clear bB eW
   go_upto_region 3 with fail
   replace Z:=I (show Blk W.drew _ _ _ from Z.o.drewN 1);replace M:=I (show Below _ _ W.drew from below_drewN M.o 1)
   go_region_held3 (fun w'=>w'.cell? ⟨bb,oo,none⟩=some (.int .u8 (t.toNat:Int))) (exact cd.o _ M.o) ((first
    |(go_at_call 170;refine Calls.mono (c0.o _ M.o) ?_;rintro e wo ⟨go,rfl,cg,bq,hb⟩;clear c0;have HC:=I bq;have aw:=I (show w.heap.size+1<=go by have:=cc.o;have:W.drew.heap.size=W.heap.size:=rfl;omega);replace Z:=I (Z.o.below hb);replace M:=M.t hb;have bn:=I (show w.heap.size+1<=wo.heap.size by have:=hb.size;have:=cc.o;have:W.drew.heap.size=W.heap.size:=rfl;omega);clear cg bq hb)
    |(go_at_call 171;refine Calls.mono (c1.o _ _ HC.o) ?_;rintro e wi ⟨⟨gd,rfl,cf,hd⟩,hc,hg⟩;clear c1 HC;have HD:=I hd;have av:=I (show w.heap.size+1<=gd by have:=bn.o;omega);have ck:=I (Dg hd);replace Z:=I (Z.o.grown hg (by intro e;injection e with e;have:=aw.o;omega));replace M:=I (Az M.o hg M.o.size (by have:=aw.o;omega));clear cf hd hc hg bn aw)))
   have k9:=cd.o _ M.o
   go_wp2_with (first
    |(go_at_call 172;refine Calls.mono (T1.o _ _ HD.o) ?_;rintro e w3 ⟨ps,rfl,ho,hg⟩;clear T1 HD;replace Z:=I (Z.o.grown hg (by intro e;injection e with e;have:=av.o;omega));replace M:=I (Az M.o hg M.o.size (by have:=av.o;omega));have cj:=I (Xo ho);have HM:=I (show MpO w3 (gd+1) ps zT zR zP zF ⟨1,(asQ s0).1,tg0,re0,ap0,fa0⟩ from⟨ho,zT_o _ _,zR_o _ _,zP_o _ _,zF_v⟩);have O:=I (HM.o.toV.size 1);have cb:=I (HM.o.toV.one 1);clear hg ho)
    |(refine Ae (by rfl) 95 #[(0,.const (.int .i64 1)),(1,.tmp 20)] (by rfl) (mgA 1 ps zT zR zP zF) (by simp only[List.map_toArray,List.map_cons,List.map_nil];exact cj.o) ?_)
    |(refine wpList_store_mid (by rfl) 95 (.tmp 2) (.tmp 21) (by rfl) w.heap.size 0 (mgA 1 ps zT zR zP zF) (by rfl) (by rfl) (Ar Z.o _ (by rw[O.o];have:=ca.o;omega)) (by rw[O.o];exact AZ) cb.o ?_)
    |fail)
   have hE:=AK (ds:=mgA 1 ps zT zR zP zF) Z.o (by rw[O.o];exact ca.o);have hp:=AQ w3 w.heap.size (mgA 1 ps zT zR zP zF).toList;have hq:=Ao (P:=Tryz.prog) hE Tryz.underlying95 rfl (by rw[O.o];exact AZ);refine bodyPost_ret (v:=.agg (mgA 1 ps zT zR zP zF)) ?_ ?_ ?_
   ·exact Au 2 95 ⟨w.heap.size,0,none⟩ Tryz.results135 rfl hq
   ·rfl
   refine⟨_,rfl,?_,Az M.o hp (by have:=Z.o.lt;omega) Ag⟩;rw[EQ.o];exact⟨ps,zT,zR,zP,zF,rfl,(HM.o.keep hp (by have:=av.o;omega)).less (by have:=av.o;omega)⟩
  ·have d1:((t.toNat:Int)==106)=false:=by simp;intro e;exact m1 (UInt8.toNat_inj.1 (by rw[show(106:UInt8).toNat=106 from rfl];omega))
   by_cases m2:t=108
   ·have d2:((t.toNat:Int)==108)=true:=by rw[m2];rfl
    have EQ:=I (show mgQ (t :: r)=⟨2,as0,(tgQ (AP t (some (t :: r)))).1,re0,ap0,fa0⟩ by subst m2;rfl);obtain⟨s0,es0⟩:∃s,s=AP t (some (t :: r)):=⟨_,rfl⟩;rw[<-es0] at c1 bx EQ;have T1:=I (fun g w1 h=>Xk g s0 w1 h bx);clear es0 bx cm hs h bz hu m1 m2;go_enter Tryz.func135,Tryz.ntmps135
    go_upto_region 1 with fail
    rw[<-bB,<-eW];clear bB eW
    go_upto_region 3 with fail
    replace Z:=I (show Blk W.drew _ _ _ from Z.o.drewN 1);replace M:=I (show Below _ _ W.drew from below_drewN M.o 1)
    go_region_held3 (fun w'=>w'.cell? ⟨bb,oo,none⟩=some (.int .u8 (t.toNat:Int))) (exact cd.o _ M.o) ((first
     |(go_at_call 170;refine Calls.mono (c0.o _ M.o) ?_;rintro e wo ⟨go,rfl,cg,bq,hb⟩;clear c0;have HC:=I bq;have aw:=I (show w.heap.size+1<=go by have:=cc.o;have:W.drew.heap.size=W.heap.size:=rfl;omega);replace Z:=I (Z.o.below hb);replace M:=M.t hb;have bn:=I (show w.heap.size+1<=wo.heap.size by have:=hb.size;have:=cc.o;have:W.drew.heap.size=W.heap.size:=rfl;omega);clear cg bq hb)
     |(go_at_call 171;refine Calls.mono (c1.o _ _ HC.o) ?_;rintro e wi ⟨⟨gd,rfl,cf,hd⟩,hc,hg⟩;clear c1 HC;have HD:=I hd;have av:=I (show w.heap.size+1<=gd by have:=bn.o;omega);have ck:=I (Dg hd);replace Z:=I (Z.o.grown hg (by intro e;injection e with e;have:=aw.o;omega));replace M:=I (Az M.o hg M.o.size (by have:=aw.o;omega));clear cf hd hc hg bn aw)))
    have k9:=cd.o _ M.o
    go_wp2_with (first
     |(go_at_call 173;refine Calls.mono (T1.o _ _ HD.o) ?_;rintro e w3 ⟨ps,rfl,ho,hg⟩;clear T1 HD;replace ho:=ho.less (show gd+1<=_ from ck.o);replace Z:=I (Z.o.grown hg (by intro e;injection e with e;have:=av.o;omega));replace M:=I (Az M.o hg M.o.size (by have:=av.o;omega));have cj:=I (Xp ho);have HM:=I (show MpO w3 (gd+1) zA ps zR zP zF ⟨2,as0,(tgQ s0).1,re0,ap0,fa0⟩ from⟨zA_v,ho,zR_o _ _,zP_o _ _,zF_v⟩);have O:=I (HM.o.toV.size 2);have cb:=I (HM.o.toV.one 2);clear hg ho)
     |(refine Ae (by rfl) 95 #[(0,.const (.int .i64 2)),(2,.tmp 25)] (by rfl) (mgA 2 zA ps zR zP zF) (by simp only[List.map_toArray,List.map_cons,List.map_nil];exact cj.o) ?_)
     |(refine wpList_store_mid (by rfl) 95 (.tmp 2) (.tmp 26) (by rfl) w.heap.size 0 (mgA 2 zA ps zR zP zF) (by rfl) (by rfl) (Ar Z.o _ (by rw[O.o];have:=ca.o;omega)) (by rw[O.o];exact AZ) cb.o ?_)
     |fail)
    have hE:=AK (ds:=mgA 2 zA ps zR zP zF) Z.o (by rw[O.o];exact ca.o);have hp:=AQ w3 w.heap.size (mgA 2 zA ps zR zP zF).toList;have hq:=Ao (P:=Tryz.prog) hE Tryz.underlying95 rfl (by rw[O.o];exact AZ);refine bodyPost_ret (v:=.agg (mgA 2 zA ps zR zP zF)) ?_ ?_ ?_
    ·exact Au 2 95 ⟨w.heap.size,0,none⟩ Tryz.results135 rfl hq
    ·rfl
    refine⟨_,rfl,?_,Az M.o hp (by have:=Z.o.lt;omega) Ag⟩;rw[EQ.o];exact⟨zA,ps,zR,zP,zF,rfl,(HM.o.keep hp (by have:=av.o;omega)).less (by have:=av.o;omega)⟩
   ·have d2:((t.toNat:Int)==108)=false:=by simp;intro e;exact m2 (UInt8.toNat_inj.1 (by rw[show(108:UInt8).toNat=108 from rfl];omega))
    by_cases m3:t=107
    ·have d3:((t.toNat:Int)==107)=true:=by rw[m3];rfl
     have EQ:=I (show mgQ (t :: r)=⟨3,as0,tg0,(reQ (AP t (some (t :: r)))).1,ap0,fa0⟩ by subst m3;rfl);obtain⟨s0,es0⟩:∃s,s=AP t (some (t :: r)):=⟨_,rfl⟩;rw[<-es0] at c1 bx EQ;have T1:=I (fun g w1 h=>Xl g s0 w1 h bx);clear es0 bx cm hs h bz hu m1 m2 m3;go_enter Tryz.func135,Tryz.ntmps135
     go_upto_region 1 with fail
     rw[<-bB,<-eW];clear bB eW
     go_upto_region 3 with fail
     replace Z:=I (show Blk W.drew _ _ _ from Z.o.drewN 1);replace M:=I (show Below _ _ W.drew from below_drewN M.o 1)
     go_region_held3 (fun w'=>w'.cell? ⟨bb,oo,none⟩=some (.int .u8 (t.toNat:Int))) (exact cd.o _ M.o) ((first
      |(go_at_call 170;refine Calls.mono (c0.o _ M.o) ?_;rintro e wo ⟨go,rfl,cg,bq,hb⟩;clear c0;have HC:=I bq;have aw:=I (show w.heap.size+1<=go by have:=cc.o;have:W.drew.heap.size=W.heap.size:=rfl;omega);replace Z:=I (Z.o.below hb);replace M:=M.t hb;have bn:=I (show w.heap.size+1<=wo.heap.size by have:=hb.size;have:=cc.o;have:W.drew.heap.size=W.heap.size:=rfl;omega);clear cg bq hb)
      |(go_at_call 171;refine Calls.mono (c1.o _ _ HC.o) ?_;rintro e wi ⟨⟨gd,rfl,cf,hd⟩,hc,hg⟩;clear c1 HC;have HD:=I hd;have av:=I (show w.heap.size+1<=gd by have:=bn.o;omega);have ck:=I (Dg hd);replace Z:=I (Z.o.grown hg (by intro e;injection e with e;have:=aw.o;omega));replace M:=I (Az M.o hg M.o.size (by have:=aw.o;omega));clear cf hd hc hg bn aw)))
     have k9:=cd.o _ M.o
     go_wp2_with (first
      |(go_at_call 174;refine Calls.mono (T1.o _ _ HD.o) ?_;rintro e w3 ⟨ps,rfl,ho,hg⟩;clear T1 HD;replace ho:=ho.less (show gd+1<=_ from ck.o);replace Z:=I (Z.o.grown hg (by intro e;injection e with e;have:=av.o;omega));replace M:=I (Az M.o hg M.o.size (by have:=av.o;omega));have cj:=I (Xq ho);have HM:=I (show MpO w3 (gd+1) zA zT ps zP zF ⟨3,as0,tg0,(reQ s0).1,ap0,fa0⟩ from⟨zA_v,zT_o _ _,ho,zP_o _ _,zF_v⟩);have O:=I (HM.o.toV.size 3);have cb:=I (HM.o.toV.one 3);clear hg ho)
      |(refine Ae (by rfl) 95 #[(0,.const (.int .i64 3)),(3,.tmp 30)] (by rfl) (mgA 3 zA zT ps zP zF) (by simp only[List.map_toArray,List.map_cons,List.map_nil];exact cj.o) ?_)
      |(refine wpList_store_mid (by rfl) 95 (.tmp 2) (.tmp 31) (by rfl) w.heap.size 0 (mgA 3 zA zT ps zP zF) (by rfl) (by rfl) (Ar Z.o _ (by rw[O.o];have:=ca.o;omega)) (by rw[O.o];exact AZ) cb.o ?_)
      |fail)
     have hE:=AK (ds:=mgA 3 zA zT ps zP zF) Z.o (by rw[O.o];exact ca.o);have hp:=AQ w3 w.heap.size (mgA 3 zA zT ps zP zF).toList;have hq:=Ao (P:=Tryz.prog) hE Tryz.underlying95 rfl (by rw[O.o];exact AZ);refine bodyPost_ret (v:=.agg (mgA 3 zA zT ps zP zF)) ?_ ?_ ?_
     ·exact Au 2 95 ⟨w.heap.size,0,none⟩ Tryz.results135 rfl hq
     ·rfl
     refine⟨_,rfl,?_,Az M.o hp (by have:=Z.o.lt;omega) Ag⟩;rw[EQ.o];exact⟨zA,zT,ps,zP,zF,rfl,(HM.o.keep hp (by have:=av.o;omega)).less (by have:=av.o;omega)⟩
    ·have d3:((t.toNat:Int)==107)=false:=by simp;intro e;exact m3 (UInt8.toNat_inj.1 (by rw[show(107:UInt8).toNat=107 from rfl];omega))
     by_cases m4:t=110
     ·have d4:((t.toNat:Int)==110)=true:=by rw[m4];rfl
      have EQ:=I (show mgQ (t :: r)=⟨4,as0,tg0,re0,(apQ (AP t (some (t :: r)))).1,fa0⟩ by subst m4;rfl);obtain⟨s0,es0⟩:∃s,s=AP t (some (t :: r)):=⟨_,rfl⟩;rw[<-es0] at c1 bx EQ;have T1:=I (fun g w1 h=>Xm g s0 w1 h bx);clear es0 bx cm hs h bz hu m1 m2 m3 m4;go_enter Tryz.func135,Tryz.ntmps135
      go_upto_region 1 with fail
      rw[<-bB,<-eW];clear bB eW
      go_upto_region 3 with fail
      replace Z:=I (show Blk W.drew _ _ _ from Z.o.drewN 1);replace M:=I (show Below _ _ W.drew from below_drewN M.o 1)
      go_region_held3 (fun w'=>w'.cell? ⟨bb,oo,none⟩=some (.int .u8 (t.toNat:Int))) (exact cd.o _ M.o) ((first
       |(go_at_call 170;refine Calls.mono (c0.o _ M.o) ?_;rintro e wo ⟨go,rfl,cg,bq,hb⟩;clear c0;have HC:=I bq;have aw:=I (show w.heap.size+1<=go by have:=cc.o;have:W.drew.heap.size=W.heap.size:=rfl;omega);replace Z:=I (Z.o.below hb);replace M:=M.t hb;have bn:=I (show w.heap.size+1<=wo.heap.size by have:=hb.size;have:=cc.o;have:W.drew.heap.size=W.heap.size:=rfl;omega);clear cg bq hb)
       |(go_at_call 171;refine Calls.mono (c1.o _ _ HC.o) ?_;rintro e wi ⟨⟨gd,rfl,cf,hd⟩,hc,hg⟩;clear c1 HC;have HD:=I hd;have av:=I (show w.heap.size+1<=gd by have:=bn.o;omega);have ck:=I (Dg hd);replace Z:=I (Z.o.grown hg (by intro e;injection e with e;have:=aw.o;omega));replace M:=I (Az M.o hg M.o.size (by have:=aw.o;omega));clear cf hd hc hg bn aw)))
      have k9:=cd.o _ M.o
      go_wp2_with (first
       |(go_at_call 175;refine Calls.mono (T1.o _ _ HD.o) ?_;rintro e w3 ⟨ps,rfl,ho,hg⟩;clear T1 HD;replace ho:=ho.less (show gd+1<=_ from ck.o);replace Z:=I (Z.o.grown hg (by intro e;injection e with e;have:=av.o;omega));replace M:=I (Az M.o hg M.o.size (by have:=av.o;omega));have cj:=I (LH ho);have HM:=I (show MpO w3 (gd+1) zA zT zR ps zF ⟨4,as0,tg0,re0,(apQ s0).1,fa0⟩ from⟨zA_v,zT_o _ _,zR_o _ _,ho,zF_v⟩);have O:=I (HM.o.toV.size 4);have cb:=I (HM.o.toV.one 4);clear hg ho)
       |(refine Ae (by rfl) 95 #[(0,.const (.int .i64 4)),(4,.tmp 35)] (by rfl) (mgA 4 zA zT zR ps zF) (by simp only[List.map_toArray,List.map_cons,List.map_nil];exact cj.o) ?_)
       |(refine wpList_store_mid (by rfl) 95 (.tmp 2) (.tmp 36) (by rfl) w.heap.size 0 (mgA 4 zA zT zR ps zF) (by rfl) (by rfl) (Ar Z.o _ (by rw[O.o];have:=ca.o;omega)) (by rw[O.o];exact AZ) cb.o ?_)
       |fail)
      have hE:=AK (ds:=mgA 4 zA zT zR ps zF) Z.o (by rw[O.o];exact ca.o);have hp:=AQ w3 w.heap.size (mgA 4 zA zT zR ps zF).toList;have hq:=Ao (P:=Tryz.prog) hE Tryz.underlying95 rfl (by rw[O.o];exact AZ);refine bodyPost_ret (v:=.agg (mgA 4 zA zT zR ps zF)) ?_ ?_ ?_
      ·exact Au 2 95 ⟨w.heap.size,0,none⟩ Tryz.results135 rfl hq
      ·rfl
      refine⟨_,rfl,?_,Az M.o hp (by have:=Z.o.lt;omega) Ag⟩;rw[EQ.o];exact⟨zA,zT,zR,ps,zF,rfl,(HM.o.keep hp (by have:=av.o;omega)).less (by have:=av.o;omega)⟩
     ·have d4:((t.toNat:Int)==110)=false:=by simp;intro e;exact m4 (UInt8.toNat_inj.1 (by rw[show(110:UInt8).toNat=110 from rfl];omega))
      by_cases m5:t=126
      ·have d5:((t.toNat:Int)==126)=true:=by rw[m5];rfl
       have EQ:=I (show mgQ (t :: r)=⟨5,as0,tg0,re0,ap0,(faQ (AP t (some (t :: r)))).1⟩ by subst m5;rfl);obtain⟨s0,es0⟩:∃s,s=AP t (some (t :: r)):=⟨_,rfl⟩;rw[<-es0] at c1 bx EQ;have T1:=I (fun g w1 h=>Xn g s0 w1 h bx);clear es0 bx cm hs h bz hu m1 m2 m3 m4 m5;go_enter Tryz.func135,Tryz.ntmps135
       go_upto_region 1 with fail
       rw[<-bB,<-eW];clear bB eW
       go_upto_region 3 with fail
       replace Z:=I (show Blk W.drew _ _ _ from Z.o.drewN 1);replace M:=I (show Below _ _ W.drew from below_drewN M.o 1)
       go_region_held3 (fun w'=>w'.cell? ⟨bb,oo,none⟩=some (.int .u8 (t.toNat:Int))) (exact cd.o _ M.o) ((first
        |(go_at_call 170;refine Calls.mono (c0.o _ M.o) ?_;rintro e wo ⟨go,rfl,cg,bq,hb⟩;clear c0;have HC:=I bq;have aw:=I (show w.heap.size+1<=go by have:=cc.o;have:W.drew.heap.size=W.heap.size:=rfl;omega);replace Z:=I (Z.o.below hb);replace M:=M.t hb;have bn:=I (show w.heap.size+1<=wo.heap.size by have:=hb.size;have:=cc.o;have:W.drew.heap.size=W.heap.size:=rfl;omega);clear cg bq hb)
        |(go_at_call 171;refine Calls.mono (c1.o _ _ HC.o) ?_;rintro e wi ⟨⟨gd,rfl,cf,hd⟩,hc,hg⟩;clear c1 HC;have HD:=I hd;have av:=I (show w.heap.size+1<=gd by have:=bn.o;omega);have ck:=I (Dg hd);replace Z:=I (Z.o.grown hg (by intro e;injection e with e;have:=aw.o;omega));replace M:=I (Az M.o hg M.o.size (by have:=aw.o;omega));clear cf hd hc hg bn aw)))
       have k9:=cd.o _ M.o
       go_wp2_with (first
        |(go_at_call 176;refine Calls.mono (T1.o _ _ HD.o) ?_;rintro e w3 ⟨ps,rfl,ho,hg⟩;clear T1 HD;replace Z:=I (Z.o.grown hg (by intro e;injection e with e;have:=av.o;omega));replace M:=I (Az M.o hg M.o.size (by have:=av.o;omega));have cj:=I (Xr ho);have HM:=I (show MpO w3 (gd+1) zA zT zR zP ps ⟨5,as0,tg0,re0,ap0,(faQ s0).1⟩ from⟨zA_v,zT_o _ _,zR_o _ _,zP_o _ _,ho⟩);have O:=I (HM.o.toV.size 5);have cb:=I (HM.o.toV.one 5);clear hg ho)
        |(refine Ae (by rfl) 95 #[(0,.const (.int .i64 5)),(5,.tmp 40)] (by rfl) (mgA 5 zA zT zR zP ps) (by simp only[List.map_toArray,List.map_cons,List.map_nil];exact cj.o) ?_)
        |(refine wpList_store_mid (by rfl) 95 (.tmp 2) (.tmp 41) (by rfl) w.heap.size 0 (mgA 5 zA zT zR zP ps) (by rfl) (by rfl) (Ar Z.o _ (by rw[O.o];have:=ca.o;omega)) (by rw[O.o];exact AZ) cb.o ?_)
        |fail)
       have hE:=AK (ds:=mgA 5 zA zT zR zP ps) Z.o (by rw[O.o];exact ca.o);have hp:=AQ w3 w.heap.size (mgA 5 zA zT zR zP ps).toList;have hq:=Ao (P:=Tryz.prog) hE Tryz.underlying95 rfl (by rw[O.o];exact AZ);refine bodyPost_ret (v:=.agg (mgA 5 zA zT zR zP ps)) ?_ ?_ ?_
       ·exact Au 2 95 ⟨w.heap.size,0,none⟩ Tryz.results135 rfl hq
       ·rfl
       refine⟨_,rfl,?_,Az M.o hp (by have:=Z.o.lt;omega) Ag⟩;rw[EQ.o];exact⟨zA,zT,zR,zP,ps,rfl,(HM.o.keep hp (by have:=av.o;omega)).less (by have:=av.o;omega)⟩
      ·have d5:((t.toNat:Int)==126)=false:=by simp;intro e;exact m5 (UInt8.toNat_inj.1 (by rw[show(126:UInt8).toNat=126 from rfl];omega))
       have EQ:=I (show mgQ (t :: r)=⟨0,as0,tg0,re0,ap0,fa0⟩ by simp only[mgQ,if_neg m1,if_neg m2,if_neg m3,if_neg m4,if_neg m5];rfl);have O:=I ((zM_v w 0 0).size 0);have cb:=I ((zM_v w 0 0).one 0);clear m1 m2 m3 m4 m5 bx cm hs h bz hu;go_enter Tryz.func135,Tryz.ntmps135
       go_upto_region 1 with fail
       rw[<-bB,<-eW];clear bB eW
       go_upto_region 3 with fail
       replace Z:=I (show Blk W.drew _ _ _ from Z.o.drewN 1);replace M:=I (show Below _ _ W.drew from below_drewN M.o 1)
       go_region_held3 (fun w'=>w'.cell? ⟨bb,oo,none⟩=some (.int .u8 (t.toNat:Int))) (exact cd.o _ M.o) ((first
        |(go_at_call 170;refine Calls.mono (c0.o _ M.o) ?_;rintro e wo ⟨go,rfl,cg,bq,hb⟩;clear c0;have HC:=I bq;have aw:=I (show w.heap.size+1<=go by have:=cc.o;have:W.drew.heap.size=W.heap.size:=rfl;omega);replace Z:=I (Z.o.below hb);replace M:=M.t hb;have bn:=I (show w.heap.size+1<=wo.heap.size by have:=hb.size;have:=cc.o;have:W.drew.heap.size=W.heap.size:=rfl;omega);clear cg bq hb)
        |(go_at_call 171;refine Calls.mono (c1.o _ _ HC.o) ?_;rintro e wi ⟨⟨gd,rfl,cf,hd⟩,hc,hg⟩;clear c1 HC;have HD:=I hd;have av:=I (show w.heap.size+1<=gd by have:=bn.o;omega);have ck:=I (Dg hd);replace Z:=I (Z.o.grown hg (by intro e;injection e with e;have:=aw.o;omega));replace M:=I (Az M.o hg M.o.size (by have:=aw.o;omega));clear cf hd hc hg bn aw)))
       have k9:=cd.o _ M.o
       go_wp2_with (first
        |(refine Ae (by rfl) 95 #[] (by rfl) (mgA 0 zA zT zR zP zF) built_none ?_)
        |(refine wpList_store_mid (by rfl) 95 (.tmp 2) (.tmp 42) (by rfl) w.heap.size 0 (mgA 0 zA zT zR zP zF) (by rfl) (by rfl) (Ar Z.o _ (by rw[O.o];have:=ca.o;omega)) (by rw[O.o];exact AZ) cb.o ?_)
        |fail)
       have hE:=AK (ds:=mgA 0 zA zT zR zP zF) Z.o (by rw[O.o];exact ca.o);have hp:=AQ wi w.heap.size (mgA 0 zA zT zR zP zF).toList;have hq:=Ao (P:=Tryz.prog) hE Tryz.underlying95 rfl (by rw[O.o];exact AZ);refine bodyPost_ret (v:=.agg (mgA 0 zA zT zR zP zF)) ?_ ?_ ?_
       ·exact Au 2 95 ⟨w.heap.size,0,none⟩ Tryz.results135 rfl hq
       ·rfl
       refine⟨_,rfl,?_,Az M.o hp (by have:=Z.o.lt;omega) Ag⟩;rw[EQ.o];exact⟨zA,zT,zR,zP,zF,rfl,⟨zA_v,zT_o _ _,zR_o _ _,zP_o _ _,zF_v⟩⟩
theorem aI {pa M:Array Value} {x y:As} (h:AsV pa x) (g:AsV M y) (w:World):(Op.equalIn 10000 87 (.agg pa) (.agg M)).run Tryz.prog w=.ok (decide (x=y)) w:=by rw[h,g];exact dy x y w
theorem aJ {pa M:Array Value} {x y:Fa} (h:FaV pa x) (g:FaV M y) (w:World):(Op.equalIn 10000 93 (.agg pa) (.agg M)).run Tryz.prog w=.ok (decide (x=y)) w:=by rw[h,g];exact dx x y w
theorem UF {pa M:Array Value} {x y:Tg} (w:World) (h:TgV w w.heap.size pa x) (g:TgV w w.heap.size M y):Calls Tryz.prog 251 #[.agg pa,.agg M] w fun e w'=>e=.returned (.bool (decide (x=y)))/\Below w.heap.size w w':=by
 obtain⟨b,a,rfl,⟨A1,c1,rfl,_,h1⟩,⟨A2,c2,rfl,_,h2⟩⟩:=h;obtain⟨b2,a2,rfl,⟨D1,Z,rfl,_,O⟩,⟨D2,d2,rfl,_,g2⟩⟩:=g;exact OF x y A1 A2 D1 D2 c1 c2 Z d2 w h1 O h2 g2
theorem UG {pa M:Array Value} {x y:Re} (w:World) (h:ReV w w.heap.size pa x) (g:ReV w w.heap.size M y):Calls Tryz.prog 252 #[.agg pa,.agg M] w fun e w'=>e=.returned (.bool (decide (x=y)))/\Below w.heap.size w w':=by
 obtain⟨b,a,rfl,⟨A1,c1,rfl,_,h1⟩,⟨A2,c2,rfl,_,h2⟩⟩:=h;obtain⟨b2,a2,rfl,⟨D1,Z,rfl,_,O⟩,⟨D2,d2,rfl,_,g2⟩⟩:=g;exact OG x y A1 A2 D1 D2 c1 c2 Z d2 w h1 O h2 g2
theorem UH {pa M:Array Value} {x y:Ap} (w:World) (h:ApV w w.heap.size pa x) (g:ApV w w.heap.size M y):Calls Tryz.prog 253 #[.agg pa,.agg M] w fun e w'=>e=.returned (.bool (decide (x=y)))/\Below w.heap.size w w':=by
 obtain⟨b,a,rfl,⟨A1,c1,rfl,_,h1⟩,⟨A2,c2,rfl,_,h2⟩⟩:=h;obtain⟨b2,a2,rfl,⟨D1,Z,rfl,_,O⟩,⟨D2,d2,rfl,_,g2⟩⟩:=g;exact OH x y A1 A2 D1 D2 c1 c2 Z d2 w h1 O h2 g2
theorem mg_eq (m o:Mg):decide (m=o)=(decide (m.k=o.k)&&(decide (m.aq=o.aq)&&(decide (m.tg=o.tg)&&(decide (m.re=o.re)&&(decide (m.ap=o.ap)&&decide (m.fa=o.fa)))))):=by
 obtain⟨k,a,t,r,p,f⟩:=m;obtain⟨k2,a2,Z,r2,M,O⟩:=o;simp [Bool.decide_and]
theorem UI (cs ds:Array Value) (m o:Mg) (w:World) (h:MgV w w.heap.size cs m) (g:MgV w w.heap.size ds o):Calls Tryz.prog 212 #[.agg cs,.agg ds] w fun e w'=>e=.returned (.bool (decide (m=o)))/\Below w.heap.size w w':=by
 obtain⟨pa,pt,pr,pp,pf,hc,hp⟩:=h;obtain⟨qa,qt,qr,qp,qf,hd,hq⟩:=g;obtain⟨W,eW⟩:=Ak ((w.alloc (.cells cs 95)).alloc (.cells ds 95));have HK:=I (show Blk W w.heap.size 95 (mgA m.k pa pt pr pp pf) by rw[eW,<-hc];exact(Blk.new _ _ _).alloc _);have av:=Blk.new (w.alloc (.cells cs 95)) 95 ds;rw[show(w.alloc (.cells cs 95)).heap.size=w.heap.size+1 by simp,<-eW,hd] at av;have HL:=I av;clear av;have HB:=I (show Below w.heap.size w W by rw[eW];exact(Ah.alloc Ag _).alloc (by simp) _);have HP:=I hp;have HQ:=I hq;have Z:=I (hp.at_ HK.o);have O:=I (hq.at_ HL.o);have k0:=Z.o.k;have k1:=O.o.k;have Tt:=I (fun w1 (h:Below w.heap.size w w1)=>UF w1 ((hp.t.keep h).more h.size) ((hq.t.keep h).more h.size));have Tr:=I (fun w1 (h:Below w.heap.size w w1)=>UG w1 ((hp.r.keep h).more h.size) ((hq.r.keep h).more h.size));have Tp:=I (fun w1 (h:Below w.heap.size w w1)=>UH w1 ((hp.p.keep h).more h.size) ((hq.p.keep h).more h.size));have EA:=I (fun w1=>aI hp.a hq.a w1);have EF:=I (fun w1=>aJ hp.f hq.f w1);have ME:=I (mg_eq m o);clear hc hd hp hq;cases ek:decide (m.k=o.k) with
 |false=>
  have tk:(m.k==o.k)=false:=by simpa using ek
  have E:=I (show decide (m=o)=false by rw[ME.o,ek];rfl);clear ek;go_enter Tryz.func212,Tryz.ntmps212
  go_upto_region 1 with fail
  rw[<-eW];clear eW
  go_wp2
  go_ret;exact⟨by rw[E.o];rfl,HB.o⟩
 |true=>
  have tk:(m.k==o.k)=true:=by simpa using ek
  cases ea:decide (m.aq=o.aq) with
  |false=>
   rw[ea] at EA;have fa:=EA.o;have E:=I (show decide (m=o)=false by rw[ME.o,ek,ea];rfl);clear ek ea;go_enter Tryz.func212,Tryz.ntmps212
   go_upto_region 1 with fail
   rw[<-eW];clear eW
   go_wp2_with (first
    |(refine AF (by rfl) 87 (.tmp 11) (by rfl) w.heap.size 1 (by rfl) pa _ Z.o.a Tryz.underlying87 (by rfl) (by rw[HP.o.a.size];exact Cs) ?_)
    |(refine AF (by rfl) 87 (.tmp 13) (by rfl) (w.heap.size+1) 1 (by rfl) qa _ O.o.a Tryz.underlying87 (by rfl) (by rw[HQ.o.a.size];exact Cs) ?_)
    |fail)
   go_ret;exact⟨by rw[E.o];rfl,HB.o⟩
  |true=>
   rw[ea] at EA;have fa:=EA.o;cases et:decide (m.tg=o.tg) with
   |false=>
    rw[et] at Tt;have E:=I (show decide (m=o)=false by rw[ME.o,ek,ea,et];rfl);clear ek ea et;go_enter Tryz.func212,Tryz.ntmps212
    go_upto_region 1 with fail
    rw[<-eW];clear eW
    go_wp2_with (first
     |(refine AF (by rfl) 87 (.tmp 11) (by rfl) w.heap.size 1 (by rfl) pa _ Z.o.a Tryz.underlying87 (by rfl) (by rw[HP.o.a.size];exact Cs) ?_)
     |(refine AF (by rfl) 87 (.tmp 13) (by rfl) (w.heap.size+1) 1 (by rfl) qa _ O.o.a Tryz.underlying87 (by rfl) (by rw[HQ.o.a.size];exact Cs) ?_)
     |(refine AF (by rfl) 89 (.tmp 18) (by rfl) w.heap.size 7 (by rfl) pt _ Z.o.t Tryz.underlying89 (by rfl) (by rw[HP.o.t.size];exact Dd) ?_)
     |(refine AF (by rfl) 89 (.tmp 20) (by rfl) (w.heap.size+1) 7 (by rfl) qt _ O.o.t Tryz.underlying89 (by rfl) (by rw[HQ.o.t.size];exact Dd) ?_)
     |(go_at_call 251;refine Aj (Tt.o _ HB.o) ?_;rintro wt M;clear Z O;replace HK:=I (HK.o.below M);replace HL:=I (HL.o.below M);replace HB:=HB.t M;clear M Tt;have Z:=I (HP.o.at_ HK.o);have O:=I (HQ.o.at_ HL.o))
     |fail)
    go_ret;exact⟨by rw[E.o];rfl,HB.o⟩
   |true=>
    rw[et] at Tt;cases er:decide (m.re=o.re) with
    |false=>
     rw[er] at Tr;have E:=I (show decide (m=o)=false by rw[ME.o,ek,ea,et,er];rfl);clear ek ea et er;go_enter Tryz.func212,Tryz.ntmps212
     go_upto_region 1 with fail
     rw[<-eW];clear eW
     go_wp2_with (first
      |(refine AF (by rfl) 87 (.tmp 11) (by rfl) w.heap.size 1 (by rfl) pa _ Z.o.a Tryz.underlying87 (by rfl) (by rw[HP.o.a.size];exact Cs) ?_)
      |(refine AF (by rfl) 87 (.tmp 13) (by rfl) (w.heap.size+1) 1 (by rfl) qa _ O.o.a Tryz.underlying87 (by rfl) (by rw[HQ.o.a.size];exact Cs) ?_)
      |(refine AF (by rfl) 89 (.tmp 18) (by rfl) w.heap.size 7 (by rfl) pt _ Z.o.t Tryz.underlying89 (by rfl) (by rw[HP.o.t.size];exact Dd) ?_)
      |(refine AF (by rfl) 89 (.tmp 20) (by rfl) (w.heap.size+1) 7 (by rfl) qt _ O.o.t Tryz.underlying89 (by rfl) (by rw[HQ.o.t.size];exact Dd) ?_)
      |(go_at_call 251;refine Aj (Tt.o _ HB.o) ?_;rintro wt M;clear Z O;replace HK:=I (HK.o.below M);replace HL:=I (HL.o.below M);replace HB:=HB.t M;clear M Tt;have Z:=I (HP.o.at_ HK.o);have O:=I (HQ.o.at_ HL.o))
      |(refine AF (by rfl) 91 (.tmp 25) (by rfl) w.heap.size 16 (by rfl) pr _ Z.o.r Tryz.underlying91 (by rfl) (by rw[HP.o.r.size];exact DD) ?_)
      |(refine AF (by rfl) 91 (.tmp 27) (by rfl) (w.heap.size+1) 16 (by rfl) qr _ O.o.r Tryz.underlying91 (by rfl) (by rw[HQ.o.r.size];exact DD) ?_)
      |(go_at_call 252;refine Aj (Tr.o _ HB.o) ?_;rintro wr M;clear Z O;replace HK:=I (HK.o.below M);replace HL:=I (HL.o.below M);replace HB:=HB.t M;clear M Tr;have Z:=I (HP.o.at_ HK.o);have O:=I (HQ.o.at_ HL.o))
      |fail)
     go_ret;exact⟨by rw[E.o];rfl,HB.o⟩
    |true=>
     rw[er] at Tr;cases ep:decide (m.ap=o.ap) with
     |false=>
      rw[ep] at Tp;have E:=I (show decide (m=o)=false by rw[ME.o,ek,ea,et,er,ep];rfl);clear ek ea et er ep;go_enter Tryz.func212,Tryz.ntmps212
      go_upto_region 1 with fail
      rw[<-eW];clear eW
      go_wp2_with (first
       |(refine AF (by rfl) 87 (.tmp 11) (by rfl) w.heap.size 1 (by rfl) pa _ Z.o.a Tryz.underlying87 (by rfl) (by rw[HP.o.a.size];exact Cs) ?_)
       |(refine AF (by rfl) 87 (.tmp 13) (by rfl) (w.heap.size+1) 1 (by rfl) qa _ O.o.a Tryz.underlying87 (by rfl) (by rw[HQ.o.a.size];exact Cs) ?_)
       |(refine AF (by rfl) 89 (.tmp 18) (by rfl) w.heap.size 7 (by rfl) pt _ Z.o.t Tryz.underlying89 (by rfl) (by rw[HP.o.t.size];exact Dd) ?_)
       |(refine AF (by rfl) 89 (.tmp 20) (by rfl) (w.heap.size+1) 7 (by rfl) qt _ O.o.t Tryz.underlying89 (by rfl) (by rw[HQ.o.t.size];exact Dd) ?_)
       |(go_at_call 251;refine Aj (Tt.o _ HB.o) ?_;rintro wt M;clear Z O;replace HK:=I (HK.o.below M);replace HL:=I (HL.o.below M);replace HB:=HB.t M;clear M Tt;have Z:=I (HP.o.at_ HK.o);have O:=I (HQ.o.at_ HL.o))
       |(refine AF (by rfl) 91 (.tmp 25) (by rfl) w.heap.size 16 (by rfl) pr _ Z.o.r Tryz.underlying91 (by rfl) (by rw[HP.o.r.size];exact DD) ?_)
       |(refine AF (by rfl) 91 (.tmp 27) (by rfl) (w.heap.size+1) 16 (by rfl) qr _ O.o.r Tryz.underlying91 (by rfl) (by rw[HQ.o.r.size];exact DD) ?_)
       |(go_at_call 252;refine Aj (Tr.o _ HB.o) ?_;rintro wr M;clear Z O;replace HK:=I (HK.o.below M);replace HL:=I (HL.o.below M);replace HB:=HB.t M;clear M Tr;have Z:=I (HP.o.at_ HK.o);have O:=I (HQ.o.at_ HL.o))
       |(refine AF (by rfl) 85 (.tmp 32) (by rfl) w.heap.size 23 (by rfl) pp _ Z.o.p Tryz.underlying85 (by rfl) (by rw[HP.o.p.size];exact Eg) ?_)
       |(refine AF (by rfl) 85 (.tmp 34) (by rfl) (w.heap.size+1) 23 (by rfl) qp _ O.o.p Tryz.underlying85 (by rfl) (by rw[HQ.o.p.size];exact Eg) ?_)
       |(go_at_call 253;refine Aj (Tp.o _ HB.o) ?_;rintro wp M;clear Z O;replace HK:=I (HK.o.below M);replace HL:=I (HL.o.below M);replace HB:=HB.t M;clear M Tp;have Z:=I (HP.o.at_ HK.o);have O:=I (HQ.o.at_ HL.o))
       |fail)
      go_ret;exact⟨by rw[E.o];rfl,HB.o⟩
     |true=>
      rw[ep] at Tp;cases ef:decide (m.fa=o.fa) with
      |false=>
       rw[ef] at EF;have ff:=EF.o;have E:=I (show decide (m=o)=false by rw[ME.o,ek,ea,et,er,ep,ef];rfl);clear ek ea et er ep ef;go_enter Tryz.func212,Tryz.ntmps212
       go_upto_region 1 with fail
       rw[<-eW];clear eW
       go_wp2_with (first
        |(refine AF (by rfl) 87 (.tmp 11) (by rfl) w.heap.size 1 (by rfl) pa _ Z.o.a Tryz.underlying87 (by rfl) (by rw[HP.o.a.size];exact Cs) ?_)
        |(refine AF (by rfl) 87 (.tmp 13) (by rfl) (w.heap.size+1) 1 (by rfl) qa _ O.o.a Tryz.underlying87 (by rfl) (by rw[HQ.o.a.size];exact Cs) ?_)
        |(refine AF (by rfl) 89 (.tmp 18) (by rfl) w.heap.size 7 (by rfl) pt _ Z.o.t Tryz.underlying89 (by rfl) (by rw[HP.o.t.size];exact Dd) ?_)
        |(refine AF (by rfl) 89 (.tmp 20) (by rfl) (w.heap.size+1) 7 (by rfl) qt _ O.o.t Tryz.underlying89 (by rfl) (by rw[HQ.o.t.size];exact Dd) ?_)
        |(go_at_call 251;refine Aj (Tt.o _ HB.o) ?_;rintro wt M;clear Z O;replace HK:=I (HK.o.below M);replace HL:=I (HL.o.below M);replace HB:=HB.t M;clear M Tt;have Z:=I (HP.o.at_ HK.o);have O:=I (HQ.o.at_ HL.o))
        |(refine AF (by rfl) 91 (.tmp 25) (by rfl) w.heap.size 16 (by rfl) pr _ Z.o.r Tryz.underlying91 (by rfl) (by rw[HP.o.r.size];exact DD) ?_)
        |(refine AF (by rfl) 91 (.tmp 27) (by rfl) (w.heap.size+1) 16 (by rfl) qr _ O.o.r Tryz.underlying91 (by rfl) (by rw[HQ.o.r.size];exact DD) ?_)
        |(go_at_call 252;refine Aj (Tr.o _ HB.o) ?_;rintro wr M;clear Z O;replace HK:=I (HK.o.below M);replace HL:=I (HL.o.below M);replace HB:=HB.t M;clear M Tr;have Z:=I (HP.o.at_ HK.o);have O:=I (HQ.o.at_ HL.o))
        |(refine AF (by rfl) 85 (.tmp 32) (by rfl) w.heap.size 23 (by rfl) pp _ Z.o.p Tryz.underlying85 (by rfl) (by rw[HP.o.p.size];exact Eg) ?_)
        |(refine AF (by rfl) 85 (.tmp 34) (by rfl) (w.heap.size+1) 23 (by rfl) qp _ O.o.p Tryz.underlying85 (by rfl) (by rw[HQ.o.p.size];exact Eg) ?_)
        |(go_at_call 253;refine Aj (Tp.o _ HB.o) ?_;rintro wp M;clear Z O;replace HK:=I (HK.o.below M);replace HL:=I (HL.o.below M);replace HB:=HB.t M;clear M Tp;have Z:=I (HP.o.at_ HK.o);have O:=I (HQ.o.at_ HL.o))
        |(refine AF (by rfl) 93 (.tmp 39) (by rfl) w.heap.size 28 (by rfl) pf _ Z.o.f Tryz.underlying93 (by rfl) (by rw[HP.o.f.size];exact FL) ?_)
        |(refine AF (by rfl) 93 (.tmp 41) (by rfl) (w.heap.size+1) 28 (by rfl) qf _ O.o.f Tryz.underlying93 (by rfl) (by rw[HQ.o.f.size];exact FL) ?_)
        |fail)
       go_ret;exact⟨by rw[E.o];rfl,HB.o⟩
      |true=>
       rw[ef] at EF;have ff:=EF.o;have E:=I (show decide (m=o)=true by rw[ME.o,ek,ea,et,er,ep,ef];rfl);clear ek ea et er ep ef;go_enter Tryz.func212,Tryz.ntmps212
       go_upto_region 1 with fail
       rw[<-eW];clear eW
       go_wp2_with (first
        |(refine AF (by rfl) 87 (.tmp 11) (by rfl) w.heap.size 1 (by rfl) pa _ Z.o.a Tryz.underlying87 (by rfl) (by rw[HP.o.a.size];exact Cs) ?_)
        |(refine AF (by rfl) 87 (.tmp 13) (by rfl) (w.heap.size+1) 1 (by rfl) qa _ O.o.a Tryz.underlying87 (by rfl) (by rw[HQ.o.a.size];exact Cs) ?_)
        |(refine AF (by rfl) 89 (.tmp 18) (by rfl) w.heap.size 7 (by rfl) pt _ Z.o.t Tryz.underlying89 (by rfl) (by rw[HP.o.t.size];exact Dd) ?_)
        |(refine AF (by rfl) 89 (.tmp 20) (by rfl) (w.heap.size+1) 7 (by rfl) qt _ O.o.t Tryz.underlying89 (by rfl) (by rw[HQ.o.t.size];exact Dd) ?_)
        |(go_at_call 251;refine Aj (Tt.o _ HB.o) ?_;rintro wt M;clear Z O;replace HK:=I (HK.o.below M);replace HL:=I (HL.o.below M);replace HB:=HB.t M;clear M Tt;have Z:=I (HP.o.at_ HK.o);have O:=I (HQ.o.at_ HL.o))
        |(refine AF (by rfl) 91 (.tmp 25) (by rfl) w.heap.size 16 (by rfl) pr _ Z.o.r Tryz.underlying91 (by rfl) (by rw[HP.o.r.size];exact DD) ?_)
        |(refine AF (by rfl) 91 (.tmp 27) (by rfl) (w.heap.size+1) 16 (by rfl) qr _ O.o.r Tryz.underlying91 (by rfl) (by rw[HQ.o.r.size];exact DD) ?_)
        |(go_at_call 252;refine Aj (Tr.o _ HB.o) ?_;rintro wr M;clear Z O;replace HK:=I (HK.o.below M);replace HL:=I (HL.o.below M);replace HB:=HB.t M;clear M Tr;have Z:=I (HP.o.at_ HK.o);have O:=I (HQ.o.at_ HL.o))
        |(refine AF (by rfl) 85 (.tmp 32) (by rfl) w.heap.size 23 (by rfl) pp _ Z.o.p Tryz.underlying85 (by rfl) (by rw[HP.o.p.size];exact Eg) ?_)
        |(refine AF (by rfl) 85 (.tmp 34) (by rfl) (w.heap.size+1) 23 (by rfl) qp _ O.o.p Tryz.underlying85 (by rfl) (by rw[HQ.o.p.size];exact Eg) ?_)
        |(go_at_call 253;refine Aj (Tp.o _ HB.o) ?_;rintro wp M;clear Z O;replace HK:=I (HK.o.below M);replace HL:=I (HL.o.below M);replace HB:=HB.t M;clear M Tp;have Z:=I (HP.o.at_ HK.o);have O:=I (HQ.o.at_ HL.o))
        |(refine AF (by rfl) 93 (.tmp 39) (by rfl) w.heap.size 28 (by rfl) pf _ Z.o.f Tryz.underlying93 (by rfl) (by rw[HP.o.f.size];exact FL) ?_)
        |(refine AF (by rfl) 93 (.tmp 41) (by rfl) (w.heap.size+1) 28 (by rfl) qf _ O.o.f Tryz.underlying93 (by rfl) (by rw[HQ.o.f.size];exact FL) ?_)
        |fail)
       go_ret;exact⟨by rw[E.o];rfl,HB.o⟩
end Mc
end Go.Proofs.YtfbnjcdhipplpaaGreat
