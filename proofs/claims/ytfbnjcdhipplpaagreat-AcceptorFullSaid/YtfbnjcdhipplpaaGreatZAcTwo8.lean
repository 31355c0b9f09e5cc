import Derived.Test.YtfbnjcdhipplpaaGreatZAcTwo7
set_option maxHeartbeats 25600000
set_option maxRecDepth 100000
set_option linter.unusedVariables false
set_option linter.unusedSimpArgs false
namespace Go.Proofs.YtfbnjcdhipplpaaGreat
namespace Si
open Go.RowKit Af
def Rows (w:World) (B:Nat) (A:Option Addr) (rows:List (List UInt8)):Prop:=
 ∃vs:List Value,vs.length=rows.length/\Rd w B A vs/\∀i (h:i<rows.length),∃(Ai:Option Addr) (ci:Nat),vs[i]? = some (.slice Ai (rows[i]).length ci)/\Rd w B Ai (bvs rows[i])
theorem Rows.below {w w':World} {B:Nat} {A:Option Addr} {rows:List (List UInt8)} (h:Rows w B A rows) (M:Below B w w'):Rows w' B A rows:=by
 obtain⟨vs,h1,h2,h3⟩:=h;refine⟨vs,h1,h2.below M,fun i hi=>?_⟩;obtain⟨Ai,ci,O,Z⟩:=h3 i hi;exact⟨Ai,ci,O,Z.below M⟩
theorem Rows.more {w:World} {B B':Nat} {A:Option Addr} {rows:List (List UInt8)} (h:Rows w B A rows) (hB:B<=B'):Rows w B' A rows:=by
 obtain⟨Z,h1,h2,h3⟩:=h;refine⟨Z,h1,h2.more hB,fun i hi=>?_⟩;obtain⟨Ai,ci,M,O⟩:=h3 i hi;exact⟨Ai,ci,M,O.more hB⟩
def flat (rows:List (List UInt8)):List UInt8:=rows.flatten
theorem Ta (rows:List (List UInt8)) (i:Nat) (h:i<rows.length):flat (rows.take (i+1))=flat (rows.take i)++rows[i]:=by
 unfold flat;rw[List.take_succ_eq_append_getElem h,List.flatten_append];simp
theorem Jj (rows:List (List UInt8)) (i:Nat):(flat (rows.take i)).length<=(flat rows).length:=by
 have h:rows=rows.take i++rows.drop i:=(List.take_append_drop i rows).symm;have M:flat rows=flat (rows.take i)++flat (rows.drop i):=by
  unfold flat;rw[<-List.flatten_append,List.take_append_drop]
 rw[M,List.length_append];omega
def Od (ks:Nat->UInt8) (l:List UInt8):Array Value:=stc (stOf ks l)
theorem QD (g:Nat) (ks:Nat->UInt8) (l:List UInt8) (y:UInt8) (w:World) (M:l.length<100000) (hB:Blk w g 348 (Od ks l)) :
  Calls Tryz.prog 282 #[.pointer (some ⟨g,0,none⟩),.int .u8 (y.toNat:Int)] w fun e w'=>e=.returned (.tuple #[])/\Blk w' g 348 (Od ks (l++[y]))/\w.grownBy w' (some g):=by
 have h:=Oc g (stOf ks l) y w (by rw[bQ];exact M) (XV ks l) hB;rw[<-Mt] at h;exact h
theorem bW (g:Nat) (ks:Nat->UInt8) (l:List UInt8) (w:World) (hB:Blk w g 348 (Od ks l)) :
  Calls Tryz.prog 283 #[.pointer (some ⟨g,0,none⟩)] w fun e w'=>e=.returned (wv (Hy ks l))/\w.grownBy w' (some g):=
 Zz g (stOf ks l) w (Nat.lt_of_lt_of_le (XV ks l) (Wk _ (by omega))) hB
theorem Tb (l:List UInt8) (j:Nat) (h:j<l.length):l.take (j+1)=l.take j++[l[j]]:=List.take_succ_eq_append_getElem h
theorem ZA (ks:Nat->UInt8) (A:Option Addr) (n c:Nat) (rows:List (List UInt8)) (w:World) (hn:n=rows.length) (cQ:n<=100000) (hl:(flat rows).length<100000) (hr:Rows w w.heap.size A rows) :
  Calls Tryz.prog 264 #[.agg (AQ ks),.slice A n c] w fun e w'=>e=.returned (wv (Hy ks (flat rows)))/\Below w.heap.size w w':=by
 obtain⟨vs,hv,cf,av⟩:=hr;obtain⟨B,eB⟩:=Ak (w.heap.size);rw[<-eB] at cf av;have EB:=I eB;have eb:=I cf;clear cf;have cm:=I av;clear av;have HN:=I hn;clear hn;have e5:(n:Int)<=100000:=by omega
 clear cQ;have HL:=I hl;clear hl;have HV:=I hv;clear hv;have hk:AQ ks=#[.int .u8 ((ks 0).toNat:Int),.int .u8 ((ks 1).toNat:Int),.int .u8 ((ks 2).toNat:Int),.int .u8 ((ks 3).toNat:Int),.int .u8 ((ks 4).toNat:Int),.int .u8 ((ks 5).toNat:Int),.int .u8 ((ks 6).toNat:Int),.int .u8 ((ks 7).toNat:Int),.int .u8 ((ks 8).toNat:Int),.int .u8 ((ks 9).toNat:Int),.int .u8 ((ks 10).toNat:Int),.int .u8 ((ks 11).toNat:Int),.int .u8 ((ks 12).toNat:Int),.int .u8 ((ks 13).toNat:Int),.int .u8 ((ks 14).toNat:Int),.int .u8 ((ks 15).toNat:Int)]:=rfl;have cb:=Ej ks;rw[hk] at cb⊢;have hs:stc ⟨start ks,0,0⟩=#[wv (start ks).a,wv (start ks).b,wv (start ks).c,wv (start ks).d,.int .u64 0,.int .u64 0]:=rfl;rw[hs] at cb;have cp:Od ks []=#[wv (start ks).a,wv (start ks).b,wv (start ks).c,wv (start ks).d,.int .u64 0,.int .u64 0]:=rfl;obtain⟨p0,e0⟩:∃x,x=(start ks).a:=⟨_,rfl⟩;obtain⟨p1,e1⟩:∃x,x=(start ks).b:=⟨_,rfl⟩;obtain⟨p2,e2⟩:∃x,x=(start ks).c:=⟨_,rfl⟩;obtain⟨p3,e3⟩:∃x,x=(start ks).d:=⟨_,rfl⟩;rw[<-e0,<-e1,<-e2,<-e3] at cp cb;have cx:=I cp;clear cp;clear hk hs e0 e1 e2 e3;go_enter Tryz.func264,Tryz.ntmps264
 go_upto_region 2 with(go_at_call 281;refine Aj (cb _) ?_;rintro w1 cq;have cr:Below w.heap.size w w1:=((Below.refl w.heap.size w).alloc Ag _).trans (cq.mono (by simp));have bq:=I cr;clear cr cq cb)
 clear eB;obtain⟨g,eg⟩:=Ak (w1.heap.size);have cj:Blk (w1.alloc (.cells #[.int .u64 (p0.toNat:Int),.int .u64 (p1.toNat:Int),.int .u64 (p2.toNat:Int),.int .u64 (p3.toNat:Int),.int .u64 0,.int .u64 0] 348)) g 348 (Od ks []):=Blk.new_of w1 g _ _ _ cx.o.symm eg.symm;have bB:Below B w (w1.alloc (.cells #[.int .u64 (p0.toNat:Int),.int .u64 (p1.toNat:Int),.int .u64 (p2.toNat:Int),.int .u64 (p3.toNat:Int),.int .u64 0,.int .u64 0] 348)):=by rw[EB.o];exact bq.o.alloc bq.o.size _
 have hg:B<=g:=by rw[eg,EB.o];exact bq.o.size
 rw[<-eg];generalize w1.alloc (.cells #[.int .u64 (p0.toNat:Int),.int .u64 (p1.toNat:Int),.int .u64 (p2.toNat:Int),.int .u64 (p3.toNat:Int),.int .u64 0,.int .u64 0] 348)=w2 at cj bB⊢;have cu:=I cj;clear cj;have cw:=I bB;clear bB;have bx:=I hg;clear hg;clear cx bq eg
 go_wp2_with fail
 go_loopw [14] (fun iv wr=>∃i:Nat,i<=n/\iv=.int .i64 (i:Int)/\Below B w wr/\Blk wr g 348 (Od ks (flat (rows.take i)))) (fun iv _=>n - (intOf iv).toNat)
 case atStart=>exact⟨0,Nat.zero_le _,rfl,cw.o,by rw[List.take_zero];exact cu.o⟩
 case round=>
  clear cu cw;obtain⟨i,hi,rfl,hW,hB⟩:=hrel;have HW:=I hW;clear hW;have HB:=I hB;clear hB
  by_cases hx:i=n
  ·have he:rows.take i=rows:=List.take_of_length_le (by have:=HN.o;omega)
   have ce:=bW g ks (flat (rows.take i)) wr HB.o;rw[he] at ce;subst hx;clear he
   go_wp2_with (go_at_call 283;refine Aj ce ?_;rintro w3 cL;clear ce;have ef:=I cL;clear cL)
   go_ret;exact⟨rfl,by rw[<-EB.o];exact Az HW.o ef.o (by have:=HW.o.size;have:=Blk.lt HB.o;have:=bx.o;omega) bx.o⟩
  ·have ep:i<n:=by omega
   have bn:i<rows.length:=by have:=HN.o;omega
   have e1:(i:Int)<(n:Int):=by omega
   have e2:(0:Int)<=(i:Int):=by omega
   obtain⟨row,bb⟩:∃r,r=rows[i]:=⟨_,rfl⟩;obtain⟨pre,aw⟩:∃r,r=flat (rows.take i):=⟨_,rfl⟩;have Z:flat (rows.take (i+1))=pre++row:=by rw[aw,bb];exact Ta rows i bn
   have hlen:(pre++row).length<100000:=by rw[<-Z];exact Nat.lt_of_le_of_lt (Jj rows (i+1)) HL.o
   obtain⟨Ai,ci,cd,ck⟩:=cm.o i bn;rw[<-bb] at cd ck;have cg:=HB.o;rw[<-aw] at cg;have cB:=I cg;clear cg HB;obtain⟨b,o,rfl,cR,O⟩:=eb.o.at_ cd;obtain⟨m,em⟩:=Ak (row.length);rw[<-em] at O;have hc:wr.cell? ⟨b,o+i,none⟩=some (.slice Ai m ci):=(HW.o.cell (p:=⟨b,o+i,none⟩) cR).trans O;have cT:=I Z;clear Z;have ed:=I ck;clear ck;have HX:=I hx;clear hx;have HI:=I hi;clear hi;have e6:(m:Int)<100000:=by have:=hlen;rw[List.length_append] at this;omega
   have HM:=I em;clear em;have cX:=I hlen;clear hlen;have ej:=I bn;clear cd O bb aw bn
   go_wp2_with fail
   go_loopw [20] (fun jv wx=>∃j:Nat,j<=m/\jv=.int .i64 (j:Int)/\Below B w wx/\Blk wx g 348 (Od ks (pre++row.take j))) (fun jv _=>m - (intOf jv).toNat)
   case atStart=>exact⟨0,Nat.zero_le _,rfl,HW.o,by rw[List.take_zero,List.append_nil];exact cB.o⟩
   case round=>
    clear hc HW cB;obtain⟨j,hj,rfl,cA,cP⟩:=hrel;have cn:=I cA;clear cA;have cc:=I cP;clear cP
    by_cases hy:j=m
    ·have he:row.take j=row:=List.take_of_length_le (by have:=HM.o;omega)
     have HE:=I he;clear he;subst hy
     go_wp2_with fail
     go_roundw
     case rel=>exact⟨i+1,by omega,by go_num,cn.o,by rw[cT.o];have:=cc.o;rw[HE.o] at this;exact this⟩
     case measure=>simp [intOf];omega
    ·have eo:j<m:=by omega
     have bz:j<row.length:=by have:=HM.o;omega
     have f1:(j:Int)<(m:Int):=by omega
     have f2:(0:Int)<=(j:Int):=by omega
     obtain⟨b2,o2,rfl,ei,M⟩:=ed.o.at_ (Ge bz);obtain⟨y,ey⟩:=Ak (row[j]);rw[<-ey] at M;have ek:wr.cell? ⟨b2,o2+j,none⟩=some (.int .u8 (y.toNat:Int)):=(cn.o.cell (p:=⟨b2,o2+j,none⟩) ei).trans M;have cy:(pre++row.take j)++[y]=pre++row.take (j+1):=by rw[Tb row j bz,<-ey,List.append_assoc]
     have ca:=QD g ks (pre++row.take j) y wr (by have:=cX.o;rw[List.length_append] at this⊢;have:(row.take j).length<=row.length:=by{rw[List.length_take];omega};omega) cc.o;rw[cy] at ca;have HY:=I hy;clear hy;have HJ:=I hj;clear hj;have ec:=I (Blk.lt cc.o);clear M ey cy bz
     go_wp2_with (go_at_call 282;refine Aj ca ?_;rintro w4 ⟨cM,ct⟩;clear ca;have cY:=I cM;have ea:=I ct;clear cM ct)
     go_roundw
     case rel=>exact⟨j+1,by omega,by go_num,Az cn.o ea.o (by have:=ec.o;have:=bx.o;omega) bx.o,cY.o⟩
     case measure=>simp [intOf];omega
theorem Tc (n:Int):bits .and .i64 n 255=n % 256:=by
 have M:(BitVec.ofInt 64 255).toNat=2 ^ 8 - 1:=by decide
 have key:(BitVec.ofInt 64 n &&& BitVec.ofInt 64 255).toNat=(n % ((2 ^ 64:Nat):Int)).toNat % 2 ^ 8:=by
  rw[BitVec.toNat_and,BitVec.toNat_ofInt,M,Nat.and_two_pow_sub_one_eq_mod]
 show IntKind.i64.wrap ((BitVec.ofInt 64 n &&& BitVec.ofInt 64 255).toNat:Nat)=n % 256;rw[key,IntKind.wrap_i64];omega
theorem Rd.drop {w:World} {B:Nat} {x:Addr} {l:List UInt8} (h:Rd w B (some x) (bvs l)) (p:Nat):Rd w B (some (x.add p)) (bvs (l.drop p)):=by
 rcases h with h | ⟨b,o,M,Z,O⟩
 ·left
  have:l = []:=List.map_eq_nil_iff.1 h;rw[this];simp [bvs]
 ·injection M with M
  subst M;rw[addr_add];refine .inr ⟨b,o+p,rfl,Z,fun i u hu=>?_⟩;have:(bvs l)[p+i]? = some u:=by
   rw[<-hu];simp [bvs,List.getElem?_drop]
  have:=O _ _ this
  rwa [Nat.add_assoc]
theorem Rd.take {w:World} {B:Nat} {A:Option Addr} {l:List UInt8} (h:Rd w B A (bvs l)) (k:Nat):Rd w B A (bvs (l.take k)):=by
 rcases h with h | ⟨b,o,M,Z,O⟩
 ·left
  have:l = []:=List.map_eq_nil_iff.1 h;rw[this];simp [bvs]
 ·refine .inr ⟨b,o,M,Z,fun i u hu=>O i u ?_⟩
  rw[<-hu];have hi:i<k:=by
   rcases Nat.lt_or_ge i k with g | g
   ·exact g
   ·rw[List.getElem?_eq_none (by simp [bvs];omega)] at hu;cases hu
  simp [bvs,hi]
theorem rd_key {w:World} {B:Nat} {t:TypeId} {ks:Nat->UInt8} (h:Blk w B t (AQ ks)) (o:Nat) (M:o+8<=16):Rd w (B+1) (some ⟨B,o,none⟩) (bvs ((List.range 8).map fun i=>ks (o+i))):=by
 refine .inr ⟨B,o,rfl,by omega,fun i u hu=>?_⟩;have hi:i<8:=by
  rcases Nat.lt_or_ge i 8 with g | g
  ·exact g
  ·rw[List.getElem?_eq_none (by simp [bvs];omega)] at hu;cases hu
 rw[h.cell,FQ _ _ (by omega)];rw[<-hu];simp [bvs,hi]
theorem XX {w:World} {B:Nat} {t:TypeId} {ks:Nat->UInt8} (h:Blk w B t (AQ ks)):Calls Tryz.prog 166 #[.slice (some ⟨B,0,none⟩) 8 16] w fun e w'=>e=.returned (wv (kA ks))/\w'=w:=by
 have M:=rd_key h 0 (by decide);have:=Ob (some ⟨B,0,none⟩) 8 16 _ w (B+1) (by simp) (by decide) M;have e:((List.range 8).map fun i=>ks (0+i))=(List.range 8).map ks:=by simp
 rw[e] at this;exact this
theorem XY {w:World} {B:Nat} {t:TypeId} {ks:Nat->UInt8} (h:Blk w B t (AQ ks)):Calls Tryz.prog 166 #[.slice (some ⟨B,8,none⟩) 8 8] w fun e w'=>e=.returned (wv (kB ks))/\w'=w:=
 Ob (some ⟨B,8,none⟩) 8 8 _ w (B+1) (by simp) (by decide) (rd_key h 8 (by decide))
theorem Td (ks:Nat->UInt8) (l:List UInt8):bits .or .u64 (BI (l.drop (8*(l.length / 8))):Nat) (IntKind.u64.wrap (((l.length % 256:Nat):Int)*72057594037927936))=((QB (stOf ks l)).toNat:Int):=by
 have M:BI (l.drop (8*(l.length / 8)))<72057594037927936:=SX (by rw[List.length_drop];omega);have h:=Ps (BI (l.drop (8*(l.length / 8)))) (l.length % 256) M;rw[IntKind.wrap_u64,h,Nat.mod_mod];rw[Mw _ (by rw[FT];exact M),FT]
def stcV (ks:Nat->UInt8):Array Value:=DN (start ks)
theorem Te (ks:Nat->UInt8) (x:Addr) (n c:Nat) (l:List UInt8) (w:World) (hn:n=l.length) (hl:n<=100000) (hc:n<=c) (hm:c<=maxLen) (hr:Rd w w.heap.size (some x) (bvs l)) :
  Calls Tryz.prog 133 #[.agg (AQ ks),.slice (some x) n c] w fun e w'=>e=.returned (wv (Hy ks l))/\Below w.heap.size w w':=by
 obtain⟨B,eB⟩:=Ak (w.heap.size);rw[<-eB] at hr;have EB:=I eB;have HR:=I hr;clear hr;have HN:=I hn;clear hn;have ew:AQ ks=#[.int .u8 ((ks 0).toNat:Int),.int .u8 ((ks 1).toNat:Int),.int .u8 ((ks 2).toNat:Int),.int .u8 ((ks 3).toNat:Int),.int .u8 ((ks 4).toNat:Int),.int .u8 ((ks 5).toNat:Int),.int .u8 ((ks 6).toNat:Int),.int .u8 ((ks 7).toNat:Int),.int .u8 ((ks 8).toNat:Int),.int .u8 ((ks 9).toNat:Int),.int .u8 ((ks 10).toNat:Int),.int .u8 ((ks 11).toNat:Int),.int .u8 ((ks 12).toNat:Int),.int .u8 ((ks 13).toNat:Int),.int .u8 ((ks 14).toNat:Int),.int .u8 ((ks 15).toNat:Int)]:=rfl;have cQ:stcV ks=#[wv (start ks).a,wv (start ks).b,wv (start ks).c,wv (start ks).d]:=rfl;obtain⟨p,ep⟩:∃x,x=kA ks:=⟨_,rfl⟩;obtain⟨q,eq⟩:∃x,x=kB ks:=⟨_,rfl⟩;obtain⟨v0,e0⟩:∃x,x=0x736f6d6570736575#64 ^^^ p:=⟨_,rfl⟩;obtain⟨v1,e1⟩:∃x,x=0x646f72616e646f6d#64 ^^^ q:=⟨_,rfl⟩;obtain⟨v2,e2⟩:∃x,x=0x6c7967656e657261#64 ^^^ p:=⟨_,rfl⟩;obtain⟨v3,e3⟩:∃x,x=0x7465646279746573#64 ^^^ q:=⟨_,rfl⟩;have x0:bits .xor .u64 8317987319222330741 (p.toNat:Int)=(v0.toNat:Int):=by rw[e0];exact Br 0x736f6d6570736575#64 p
 have x1:bits .xor .u64 7237128888997146477 (q.toNat:Int)=(v1.toNat:Int):=by rw[e1];exact Br 0x646f72616e646f6d#64 q
 have x2:bits .xor .u64 7816392313619706465 (p.toNat:Int)=(v2.toNat:Int):=by rw[e2];exact Br 0x6c7967656e657261#64 p
 have x3:bits .xor .u64 8387220255154660723 (q.toNat:Int)=(v3.toNat:Int):=by rw[e3];exact Br 0x7465646279746573#64 q
 have hs:stcV ks=#[.int .u64 (v0.toNat:Int),.int .u64 (v1.toNat:Int),.int .u64 (v2.toNat:Int),.int .u64 (v3.toNat:Int)]:=by
  rw[cQ,e0,e1,e2,e3,ep,eq];rfl
 have HS:=I hs;clear hs;obtain⟨kz,cb⟩:=Ak (AQ ks);rw[<-cb];have eM:=I cb;have hK:Blk (w.alloc (.cells kz 225)) B 225 (AQ ks):=Blk.new_of w B _ _ _ cb eB.symm;have hW:Below B w (w.alloc (.cells kz 225)):=by rw[eB];exact(Below.refl _ w).alloc Ag _
 clear cQ e0 e1 e2 e3;have cA:=XX (hK.drewN 1);have cB:=XY (hK.drewN 1);rw[<-ep] at cA;rw[<-eq] at cB;have HW:=I hW;clear hW;clear ew cb ep eq hK;go_enter Tryz.func133,Tryz.ntmps133
 go_upto_region 1 with fail
 rw[<-eB];clear eB;have HM:=I hm;clear hm;generalize w.alloc (.cells kz 225)=w1 at cA cB HW⊢;refine wp_region_still_lit (by kernel_rfl) (by kernel_rfl) ?_;change wpStill _ _ w1.drew _ _ _
 repeat still_step
 still_call cA
 repeat still_step
 still_call cB
 repeat still_step
 refine wpStill_nil ?_
 try change _ w1.drew
 clear cA cB
 go_upto_region 3 with fail
 obtain⟨g,eg⟩:=Ak (w1.heap.size);have cg:Blk (w1.alloc (.cells #[.int .u64 (v0.toNat:Int),.int .u64 (v1.toNat:Int),.int .u64 (v2.toNat:Int),.int .u64 (v3.toNat:Int)] 275)).drew g 275 (DN (full ks l (0 / 8))):=Blk.drewN (Blk.new_of w1 g _ _ _ HS.o.symm eg.symm) 1;have cm:Below B w (w1.alloc (.cells #[.int .u64 (v0.toNat:Int),.int .u64 (v1.toNat:Int),.int .u64 (v2.toNat:Int),.int .u64 (v3.toNat:Int)] 275)).drew:=below_drewN (HW.o.alloc (by rw[EB.o];exact HW.o.size) _) 1;have hg:B<=g:=by rw[eg,EB.o];exact HW.o.size
 rw[<-eg];generalize (w1.alloc (.cells #[.int .u64 (v0.toNat:Int),.int .u64 (v1.toNat:Int),.int .u64 (v2.toNat:Int),.int .u64 (v3.toNat:Int)] 275)).drew=w2 at cg cm⊢;have eb:=I cg;clear cg;have cL:=I cm;clear cm;have Z:=I hg;clear hg;clear HS HW eg x0 x1 x2 x3;have l5:(n:Int)<=100000:=by omega
 have c0:(n:Int)<=(c:Int):=by omega
 have eN:c<=9223372036854775807:=by have:=HM.o;unfold maxLen at this;omega
 have eL:(c:Int)<=9223372036854775807:=by omega
 go_wp2_with fail
 go_loopw [8] (fun iv wr=>∃u:Nat,u<=n/\u % 8=0/\iv=.int .i64 (u:Int)/\Below B w wr/\Blk wr g 275 (DN (full ks l (u / 8)))) (fun iv _=>n - (intOf iv).toNat)
 case atStart=>exact⟨0,Nat.zero_le _,rfl,rfl,cL.o,eb.o⟩
 case round=>
  clear eb cL;obtain⟨u,hu,ed,rfl,hW,hB⟩:=hrel;have HW:=I hW;clear hW;have HB:=I hB;clear hB;have bB:=I ed;clear ed;have d0:(0:Int)<=(u:Int):=by omega
  have d1:(u:Int)<=(n:Int):=by omega
  by_cases hx:n - u<8
  ·have hj:u / 8=n / 8:=by have:=bB.o;omega
   have t1:(n:Int) - (u:Int)<8:=by omega
   have HX:=I hx;clear hx;have HJ:=I hj;clear hj;obtain⟨k,ek⟩:=Ak (n % 256);have hand:bits .and .i64 (n:Int) 255=(k:Int):=by rw[Tc,ek];omega
   have k1:(k:Int)<256:=by omega
   have k2:(0:Int)<=(k:Int):=by omega
   have eE:IntKind.u64.wrap (k:Int)=(k:Int):=by rw[IntKind.wrap_u64];omega
   have ca:u=8*(l.length / 8):=by have:=bB.o;have:=HN.o;have:=HX.o;omega
   have cw:(l.drop u).length=n - u:=by rw[List.length_drop,HN.o]
   obtain⟨mw,bb⟩:∃m,m=wd (BI (l.drop u)):=⟨_,rfl⟩;obtain⟨lw,cn⟩:∃m,m=QB (stOf ks l):=⟨_,rfl⟩;have er:mw.toNat=BI (l.drop u):=by rw[bb];exact Kk _ (Le (by have:=HX.o;omega))
   have eo:bits .or .u64 (mw.toNat:Int) (IntKind.u64.wrap ((k:Int)*72057594037927936))=(lw.toNat:Int):=by
    have h:=Td ks l;rw[<-ca,<-er,<-HN.o,<-ek,<-cn] at h;exact h
   have eJ:bits .or .u64 (mw.toNat:Int) ((k:Int)*72057594037927936)=(lw.toNat:Int):=by
    rw[<-eo,IntKind.wrap_u64];congr 1;omega
   have cA:=Ob (some (x.add u)) (n - u) (c - u) (l.drop u) wr B cw.symm (by have:=HX.o;omega) (Rd.drop (HR.o.below HW.o) u);have cB:u=c->Calls Tryz.prog 166 #[.slice (some x) 0 0] wr fun e w'=>e=.returned (wv (wd (BI (l.drop u))))/\w'=wr:=fun h=>Ob (some x) 0 0 (l.drop u) wr B (by omega) (by decide) (.inl (by rw[List.eq_nil_of_length_eq_zero (l:=l.drop u) (by omega)];rfl))
   rw[<-bb] at cA;rw[<-bb] at cB;obtain⟨⟨a,b,cc,d⟩,e1⟩:∃t,t=addM (full ks l (u / 8)) lw:=⟨_,rfl⟩;obtain⟨c1,ec⟩:∃x,x=cc ^^^ 255#64:=⟨_,rfl⟩;obtain⟨V0,eV⟩:∃x:V,x=⟨a,b,c1,d⟩:=⟨_,rfl⟩;obtain⟨⟨a2,b2,c2,d2⟩,e2⟩:∃t,t=rnds 4 V0:=⟨_,rfl⟩;obtain⟨q1,cf⟩:∃x,x=a2 ^^^ b2:=⟨_,rfl⟩;obtain⟨q2,ck⟩:∃x,x=q1 ^^^ c2:=⟨_,rfl⟩;obtain⟨q3,cq⟩:∃x,x=q2 ^^^ d2:=⟨_,rfl⟩;have cd:Hy ks l=q3:=by
    have hv:(stOf ks l).v=full ks l (u / 8):=by rw[FT,HJ.o,HN.o]
    rw[Hy,finS,<-cn,hv,<-e1,fin,<-ec,<-eV,<-e2,allX,<-cf,<-ck,<-cq]
   have x0:bits .xor .u64 (cc.toNat:Int) 255=(c1.toNat:Int):=by rw[ec];exact Br cc 255#64
   have x1:bits .xor .u64 (a2.toNat:Int) (b2.toNat:Int)=(q1.toNat:Int):=by rw[cf];exact Br _ _
   have x2:bits .xor .u64 (q1.toNat:Int) (c2.toNat:Int)=(q2.toNat:Int):=by rw[ck];exact Br _ _
   have x3:bits .xor .u64 (q2.toNat:Int) (d2.toNat:Int)=(q3.toNat:Int):=by rw[cq];exact Br _ _
   have ct:=Zy g (full ks l (u / 8)) lw wr HB.o;rw[<-e1] at ct;have cX:=I cd;clear cd;have EV:=I eV;clear eV;have E2:=I e2;clear e2;have cx:=I x0;clear x0;have ev:=I x1;clear x1;have eu:=I x2;clear x2;have ez:=I x3;clear x3;have bn:=I (Blk.lt HB.o);clear e1 ec cf ck cq er bb cn cw ca ek HJ bB
   go_upto_region 7 with fail
   go_cut [] from 39 to 50 (fun wx=>Below B w wx/\Blk wx g 275 (DN ⟨a,b,cc,d⟩))
   case first=>
    have bz:u=c\/u<c:=by omega
    rcases bz with bz | bz
    ·have cy:=cB bz;clear cB
     clear cA;subst bz
     go_wp2_with (first
      |(go_at_call 166;refine Aj cy ?_;rintro w' hw;have hw:=hw.symm;subst hw;clear cy)
      |(go_at_call 167;refine Aj ct ?_;rintro v1 ⟨M,aw⟩;clear ct;have O:=I M;have av:=I (Az HW.o aw (by have:=bn.o;have:=Z.o;omega) Z.o);clear M aw))
     go_meet
     exact⟨av.o,O.o⟩
    ·clear cB
     have eK:(u:Int)<(c:Int):=by omega
     go_wp2_with (first
      |(go_at_call 166;refine Aj cA ?_;rintro w' hw;have hw:=hw.symm;subst hw;clear cA)
      |(go_at_call 167;refine Aj ct ?_;rintro v1 ⟨M,aw⟩;clear ct;have O:=I M;have av:=I (Az HW.o aw (by have:=bn.o;have:=Z.o;omega) Z.o);clear M aw))
     go_meet
     exact⟨av.o,O.o⟩
   case rest=>
    obtain⟨cY,M⟩:=hcut;have O:=I M;clear M;have av:=I cY;clear cY;have k2:wc.cell? ⟨g,2,none⟩=some (.int .u64 (cc.toNat:Int)):=by rw[O.o.cell];rfl
    have fz:=O.o.frozen;have x0:=cx.o;clear cx hand eE eo eJ cA cB ct
    go_upto_region 8 with fail
    refine wp_region_still_tail 8 (by kernel_rfl) (by kernel_rfl) ?_;simp only[List.take_succ_cons,List.take_zero,List.drop_succ_cons,List.drop_zero];change wpStill _ _ wc.drew _ _ _
    repeat still_step
    refine wpStill_nil ?_;change wpList _ _ _ _ _ wc.drew
    go_upto_region 9 with fail
    have cu:Blk (wc.setCell ⟨g,2,none⟩ (.int .u64 (c1.toNat:Int))).drew g 275 (DN V0):=by rw[EV.o];exact Blk.set O.o 2 (wv c1)
    have cj:Below B w (wc.setCell ⟨g,2,none⟩ (.int .u64 (c1.toNat:Int))).drew:=below_drewN (AS av.o Z.o _) 1;generalize (wc.setCell ⟨g,2,none⟩ (.int .u64 (c1.toNat:Int))).drew=v2 at cu cj⊢;have ei:=I cu;clear cu;have ef:=I cj;clear cj;clear k2 fz x0 O av bn HB HW
    go_wp2_with fail
    go_loopw [9] (fun iv wr=>∃i:Nat,i<=4/\iv=.int .i64 (i:Int)/\Below B w wr/\Blk wr g 275 (DN (rnds i V0))) (fun iv _=>4 - (intOf iv).toNat)
    case atStart=>exact⟨0,by decide,rfl,ef.o,ei.o⟩
    case round=>
     obtain⟨i,hi,rfl,cP,cM⟩:=hrel;clear ei ef;have cp:=I cM;clear cM;have ej:=I cP;clear cP
     by_cases hi4:i=4
     ·subst hi4
      have bq:=cp.o;rw[<-E2.o] at bq;have k0:wr.cell? ⟨g,0,none⟩=some (.int .u64 (a2.toNat:Int)):=by rw[bq.cell];rfl
      have k1:wr.cell? ⟨g,1,none⟩=some (.int .u64 (b2.toNat:Int)):=by rw[bq.cell];rfl
      have k2:wr.cell? ⟨g,2,none⟩=some (.int .u64 (c2.toNat:Int)):=by rw[bq.cell];rfl
      have k3:wr.cell? ⟨g,3,none⟩=some (.int .u64 (d2.toNat:Int)):=by rw[bq.cell];rfl
      have x1:=ev.o;have x2:=eu.o;have x3:=ez.o;clear bq
      go_upto_region 13 with fail
      refine wp_region_still_lit (by kernel_rfl) (by kernel_rfl) ?_;change wpStill _ _ wr.drew _ _ _
      repeat still_step
      refine wpStill_nil ?_
      try change _ wr.drew
      go_wp2_with fail
      go_ret;exact⟨by rw[cX.o];rfl,by rw[<-EB.o];exact below_drewN ej.o 1⟩
     ·have j1:(i:Int)<4:=by omega
      have j2:(0:Int)<=(i:Int):=by omega
      have cr:=Pu g (rnds i V0) wr cp.o;have bn:=I (Blk.lt cp.o);have et:=I hi4;clear hi4
      go_wp2_with (go_at_call 168;refine Aj cr ?_;rintro v4 ⟨cR,ea⟩;clear cr;have ey:=I cR;have eF:=I ea;clear cR ea)
      go_roundw
      case rel=>exact⟨i+1,by have:=et.o;omega,by go_num,Az ej.o eF.o (by have:=bn.o;have:=Z.o;omega) Z.o,ey.o⟩
      case measure=>simp [intOf];omega
  ·have t1:(8:Int)<=(n:Int) - (u:Int):=by omega
   have t2:(u:Int)+8<=(n:Int):=by omega
   have t3:u+8<=n:=by omega
   have HX:=I hx;clear hx;have hj:(u+8) / 8=u / 8+1:=by omega
   have ca:u=8*(u / 8):=by have:=bB.o;omega
   have cT:((l.drop u).take 8).length=8:=by rw[List.length_take,List.length_drop,<-HN.o];omega
   have cA:=Ob (some (x.add u)) 8 (c - u) ((l.drop u).take 8) wr B cT.symm (by decide) (Rd.take (Rd.drop (HR.o.below HW.o) u) 8);obtain⟨mw,bb⟩:∃m,m=wd (BI ((l.drop u).take 8)):=⟨_,rfl⟩;rw[<-bb] at cA;have bx:addM (full ks l (u / 8)) mw=full ks l ((u+8) / 8):=by rw[hj,full,<-ca,<-bb]
   have ct:=Zy g (full ks l (u / 8)) mw wr HB.o;rw[bx] at ct;have bn:=I (Blk.lt HB.o);clear hj ca cT bb bx
   go_wp2_with (first
    |(go_at_call 166;refine Aj cA ?_;rintro w' hw;have hw:=hw.symm;subst hw;clear cA)
    |(go_at_call 167;refine Aj ct ?_;rintro v1 ⟨M,aw⟩;clear ct;have O:=I M;have av:=I (Az HW.o aw (by have:=bn.o;have:=Z.o;omega) Z.o);clear M aw))
   go_roundw
   case rel=>exact⟨u+8,by omega,by have:=bB.o;omega,by go_num,av.o,O.o⟩
   case measure=>simp [intOf];omega
theorem Tf (ks:Nat->UInt8) (n c:Nat) (l:List UInt8) (w:World) (hn:n=l.length) (hl:n<=100000) (hc:n<=c) (hm:c<=maxLen) (h0:n=0) :
  Calls Tryz.prog 133 #[.agg (AQ ks),.slice none n c] w fun e w'=>e=.returned (wv (Hy ks l))/\Below w.heap.size w w':=by
 obtain⟨B,eB⟩:=Ak (w.heap.size);have EB:=I eB;have H0:=I h0;clear h0;have HN:=I hn;clear hn;have eu:AQ ks=#[.int .u8 ((ks 0).toNat:Int),.int .u8 ((ks 1).toNat:Int),.int .u8 ((ks 2).toNat:Int),.int .u8 ((ks 3).toNat:Int),.int .u8 ((ks 4).toNat:Int),.int .u8 ((ks 5).toNat:Int),.int .u8 ((ks 6).toNat:Int),.int .u8 ((ks 7).toNat:Int),.int .u8 ((ks 8).toNat:Int),.int .u8 ((ks 9).toNat:Int),.int .u8 ((ks 10).toNat:Int),.int .u8 ((ks 11).toNat:Int),.int .u8 ((ks 12).toNat:Int),.int .u8 ((ks 13).toNat:Int),.int .u8 ((ks 14).toNat:Int),.int .u8 ((ks 15).toNat:Int)]:=rfl;have cM:stcV ks=#[wv (start ks).a,wv (start ks).b,wv (start ks).c,wv (start ks).d]:=rfl;obtain⟨p,ep⟩:∃x,x=kA ks:=⟨_,rfl⟩;obtain⟨q,eq⟩:∃x,x=kB ks:=⟨_,rfl⟩;obtain⟨v0,e0⟩:∃x,x=0x736f6d6570736575#64 ^^^ p:=⟨_,rfl⟩;obtain⟨v1,e1⟩:∃x,x=0x646f72616e646f6d#64 ^^^ q:=⟨_,rfl⟩;obtain⟨v2,e2⟩:∃x,x=0x6c7967656e657261#64 ^^^ p:=⟨_,rfl⟩;obtain⟨v3,e3⟩:∃x,x=0x7465646279746573#64 ^^^ q:=⟨_,rfl⟩;have x0:bits .xor .u64 8317987319222330741 (p.toNat:Int)=(v0.toNat:Int):=by rw[e0];exact Br 0x736f6d6570736575#64 p
 have x1:bits .xor .u64 7237128888997146477 (q.toNat:Int)=(v1.toNat:Int):=by rw[e1];exact Br 0x646f72616e646f6d#64 q
 have x2:bits .xor .u64 7816392313619706465 (p.toNat:Int)=(v2.toNat:Int):=by rw[e2];exact Br 0x6c7967656e657261#64 p
 have x3:bits .xor .u64 8387220255154660723 (q.toNat:Int)=(v3.toNat:Int):=by rw[e3];exact Br 0x7465646279746573#64 q
 have hs:stcV ks=#[.int .u64 (v0.toNat:Int),.int .u64 (v1.toNat:Int),.int .u64 (v2.toNat:Int),.int .u64 (v3.toNat:Int)]:=by
  rw[cM,e0,e1,e2,e3,ep,eq];rfl
 have HS:=I hs;clear hs;obtain⟨kz,bz⟩:=Ak (AQ ks);rw[<-bz];have eK:=I bz;have hK:Blk (w.alloc (.cells kz 225)) B 225 (AQ ks):=Blk.new_of w B _ _ _ bz eB.symm;have hW:Below B w (w.alloc (.cells kz 225)):=by rw[eB];exact(Below.refl _ w).alloc Ag _
 clear cM e0 e1 e2 e3;have cA:=XX (hK.drewN 1);have cB:=XY (hK.drewN 1);rw[<-ep] at cA;rw[<-eq] at cB;have HW:=I hW;clear hW;clear eu bz ep eq hK;go_enter Tryz.func133,Tryz.ntmps133
 go_upto_region 1 with fail
 rw[<-eB];clear eB;have HM:=I hm;clear hm;generalize w.alloc (.cells kz 225)=w1 at cA cB HW⊢;refine wp_region_still_lit (by kernel_rfl) (by kernel_rfl) ?_;change wpStill _ _ w1.drew _ _ _
 repeat still_step
 still_call cA
 repeat still_step
 still_call cB
 repeat still_step
 refine wpStill_nil ?_
 try change _ w1.drew
 clear cA cB
 go_upto_region 3 with fail
 obtain⟨g,eg⟩:=Ak (w1.heap.size);have cb:Blk (w1.alloc (.cells #[.int .u64 (v0.toNat:Int),.int .u64 (v1.toNat:Int),.int .u64 (v2.toNat:Int),.int .u64 (v3.toNat:Int)] 275)).drew g 275 (DN (full ks l (0 / 8))):=Blk.drewN (Blk.new_of w1 g _ _ _ HS.o.symm eg.symm) 1;have cj:Below B w (w1.alloc (.cells #[.int .u64 (v0.toNat:Int),.int .u64 (v1.toNat:Int),.int .u64 (v2.toNat:Int),.int .u64 (v3.toNat:Int)] 275)).drew:=below_drewN (HW.o.alloc (by rw[EB.o];exact HW.o.size) _) 1;have hg:B<=g:=by rw[eg,EB.o];exact HW.o.size
 rw[<-eg];generalize (w1.alloc (.cells #[.int .u64 (v0.toNat:Int),.int .u64 (v1.toNat:Int),.int .u64 (v2.toNat:Int),.int .u64 (v3.toNat:Int)] 275)).drew=w2 at cb cj⊢;have cY:=I cb;clear cb;have cx:=I cj;clear cj;have Z:=I hg;clear hg;clear HS HW eg x0 x1 x2 x3;have l5:(n:Int)<=100000:=by omega
 have c0:(n:Int)<=(c:Int):=by omega
 have eL:c<=9223372036854775807:=by have:=HM.o;unfold maxLen at this;omega
 have eJ:(c:Int)<=9223372036854775807:=by omega
 go_wp2_with fail
 go_loopw [8] (fun iv wr=>∃u:Nat,u<=n/\u % 8=0/\iv=.int .i64 (u:Int)/\Below B w wr/\Blk wr g 275 (DN (full ks l (u / 8)))) (fun iv _=>n - (intOf iv).toNat)
 case atStart=>exact⟨0,Nat.zero_le _,rfl,rfl,cx.o,cY.o⟩
 case round=>
  clear cY cx;obtain⟨u,hu,ea,rfl,hW,hB⟩:=hrel;have HW:=I hW;clear hW;have HB:=I hB;clear hB;have cg:=I ea;clear ea;have d0:(0:Int)<=(u:Int):=by omega
  have d1:(u:Int)<=(n:Int):=by omega
  by_cases hx:n - u<8
  ·have hj:u / 8=n / 8:=by have:=cg.o;omega
   have t1:(n:Int) - (u:Int)<8:=by omega
   have HX:=I hx;clear hx;have HJ:=I hj;clear hj;obtain⟨k,ek⟩:=Ak (n % 256);have hand:bits .and .i64 (n:Int) 255=(k:Int):=by rw[Tc,ek];omega
   have k1:(k:Int)<256:=by omega
   have k2:(0:Int)<=(k:Int):=by omega
   have ey:IntKind.u64.wrap (k:Int)=(k:Int):=by rw[IntKind.wrap_u64];omega
   have cX:u=8*(l.length / 8):=by have:=cg.o;have:=HN.o;have:=HX.o;omega
   have cq:(l.drop u).length=n - u:=by rw[List.length_drop,HN.o]
   obtain⟨mw,bx⟩:∃m,m=wd (BI (l.drop u)):=⟨_,rfl⟩;obtain⟨lw,ck⟩:∃m,m=QB (stOf ks l):=⟨_,rfl⟩;have ej:mw.toNat=BI (l.drop u):=by rw[bx];exact Kk _ (Le (by have:=HX.o;omega))
   have ei:bits .or .u64 (mw.toNat:Int) (IntKind.u64.wrap ((k:Int)*72057594037927936))=(lw.toNat:Int):=by
    have h:=Td ks l;rw[<-cX,<-ej,<-HN.o,<-ek,<-ck] at h;exact h
   have eE:bits .or .u64 (mw.toNat:Int) ((k:Int)*72057594037927936)=(lw.toNat:Int):=by
    rw[<-ei,IntKind.wrap_u64];congr 1;omega
   have cA:=Ob none (n - u) (c - u) (l.drop u) wr B cq.symm (by have:=HX.o;omega) (.inl (by rw[List.eq_nil_of_length_eq_zero (l:=l.drop u) (by have:=H0.o;omega)];rfl));have cB:u=c->Calls Tryz.prog 166 #[.slice none 0 0] wr fun e w'=>e=.returned (wv (wd (BI (l.drop u))))/\w'=wr:=fun h=>Ob none 0 0 (l.drop u) wr B (by omega) (by decide) (.inl (by rw[List.eq_nil_of_length_eq_zero (l:=l.drop u) (by omega)];rfl))
   rw[<-bx] at cA;rw[<-bx] at cB;obtain⟨⟨a,b,cc,d⟩,e1⟩:∃t,t=addM (full ks l (u / 8)) lw:=⟨_,rfl⟩;obtain⟨c1,ec⟩:∃x,x=cc ^^^ 255#64:=⟨_,rfl⟩;obtain⟨V0,eV⟩:∃x:V,x=⟨a,b,c1,d⟩:=⟨_,rfl⟩;obtain⟨⟨a2,b2,c2,d2⟩,e2⟩:∃t,t=rnds 4 V0:=⟨_,rfl⟩;obtain⟨q1,ca⟩:∃x,x=a2 ^^^ b2:=⟨_,rfl⟩;obtain⟨q2,cf⟩:∃x,x=q1 ^^^ c2:=⟨_,rfl⟩;obtain⟨q3,cn⟩:∃x,x=q2 ^^^ d2:=⟨_,rfl⟩;have bB:Hy ks l=q3:=by
    have hv:(stOf ks l).v=full ks l (u / 8):=by rw[FT,HJ.o,HN.o]
    rw[Hy,finS,<-ck,hv,<-e1,fin,<-ec,<-eV,<-e2,allX,<-ca,<-cf,<-cn]
   have x0:bits .xor .u64 (cc.toNat:Int) 255=(c1.toNat:Int):=by rw[ec];exact Br cc 255#64
   have x1:bits .xor .u64 (a2.toNat:Int) (b2.toNat:Int)=(q1.toNat:Int):=by rw[ca];exact Br _ _
   have x2:bits .xor .u64 (q1.toNat:Int) (c2.toNat:Int)=(q2.toNat:Int):=by rw[cf];exact Br _ _
   have x3:bits .xor .u64 (q2.toNat:Int) (d2.toNat:Int)=(q3.toNat:Int):=by rw[cn];exact Br _ _
   have ct:=Zy g (full ks l (u / 8)) lw wr HB.o;rw[<-e1] at ct;have cQ:=I bB;clear bB;have EV:=I eV;clear eV;have E2:=I e2;clear e2;have cu:=I x0;clear x0;have et:=I x1;clear x1;have er:=I x2;clear x2;have ew:=I x3;clear x3;have bq:=I (Blk.lt HB.o);clear e1 ec ca cf cn ej bx ck cq cX ek HJ cg
   go_upto_region 7 with fail
   go_cut [] from 39 to 50 (fun wx=>Below B w wx/\Blk wx g 275 (DN ⟨a,b,cc,d⟩))
   case first=>
    have bn:u=c\/u<c:=by omega
    rcases bn with bn | bn
    ·have cw:=cB bn;clear cB
     clear cA;subst bn
     go_wp2_with (first
      |(go_at_call 166;refine Aj cw ?_;rintro w' hw;have hw:=hw.symm;subst hw;clear cw)
      |(go_at_call 167;refine Aj ct ?_;rintro v1 ⟨O,bb⟩;clear ct;have M:=I O;have av:=I (Az HW.o bb (by have:=bq.o;have:=Z.o;omega) Z.o);clear O bb))
     go_meet
     exact⟨av.o,M.o⟩
    ·clear cB
     have eF:(u:Int)<(c:Int):=by omega
     go_wp2_with (first
      |(go_at_call 166;refine Aj cA ?_;rintro w' hw;have hw:=hw.symm;subst hw;clear cA)
      |(go_at_call 167;refine Aj ct ?_;rintro v1 ⟨O,bb⟩;clear ct;have M:=I O;have av:=I (Az HW.o bb (by have:=bq.o;have:=Z.o;omega) Z.o);clear O bb))
     go_meet
     exact⟨av.o,M.o⟩
   case rest=>
    obtain⟨cR,O⟩:=hcut;have M:=I O;clear O;have av:=I cR;clear cR;have k2:wc.cell? ⟨g,2,none⟩=some (.int .u64 (cc.toNat:Int)):=by rw[M.o.cell];rfl
    have fz:=M.o.frozen;have x0:=cu.o;clear cu hand ey ei eE cA cB ct
    go_upto_region 8 with fail
    refine wp_region_still_tail 8 (by kernel_rfl) (by kernel_rfl) ?_;simp only[List.take_succ_cons,List.take_zero,List.drop_succ_cons,List.drop_zero];change wpStill _ _ wc.drew _ _ _
    repeat still_step
    refine wpStill_nil ?_;change wpList _ _ _ _ _ wc.drew
    go_upto_region 9 with fail
    have cp:Blk (wc.setCell ⟨g,2,none⟩ (.int .u64 (c1.toNat:Int))).drew g 275 (DN V0):=by rw[EV.o];exact Blk.set M.o 2 (wv c1)
    have cd:Below B w (wc.setCell ⟨g,2,none⟩ (.int .u64 (c1.toNat:Int))).drew:=below_drewN (AS av.o Z.o _) 1;generalize (wc.setCell ⟨g,2,none⟩ (.int .u64 (c1.toNat:Int))).drew=v2 at cp cd⊢;have ed:=I cp;clear cp;have eb:=I cd;clear cd;clear k2 fz x0 M av bq HB HW
    go_wp2_with fail
    go_loopw [9] (fun iv wr=>∃i:Nat,i<=4/\iv=.int .i64 (i:Int)/\Below B w wr/\Blk wr g 275 (DN (rnds i V0))) (fun iv _=>4 - (intOf iv).toNat)
    case atStart=>exact⟨0,by decide,rfl,eb.o,ed.o⟩
    case round=>
     obtain⟨i,hi,rfl,cL,cy⟩:=hrel;clear ed eb;have cm:=I cy;clear cy;have ef:=I cL;clear cL
     by_cases hi4:i=4
     ·subst hi4
      have aw:=cm.o;rw[<-E2.o] at aw;have k0:wr.cell? ⟨g,0,none⟩=some (.int .u64 (a2.toNat:Int)):=by rw[aw.cell];rfl
      have k1:wr.cell? ⟨g,1,none⟩=some (.int .u64 (b2.toNat:Int)):=by rw[aw.cell];rfl
      have k2:wr.cell? ⟨g,2,none⟩=some (.int .u64 (c2.toNat:Int)):=by rw[aw.cell];rfl
      have k3:wr.cell? ⟨g,3,none⟩=some (.int .u64 (d2.toNat:Int)):=by rw[aw.cell];rfl
      have x1:=et.o;have x2:=er.o;have x3:=ew.o;clear aw
      go_upto_region 13 with fail
      refine wp_region_still_lit (by kernel_rfl) (by kernel_rfl) ?_;change wpStill _ _ wr.drew _ _ _
      repeat still_step
      refine wpStill_nil ?_
      try change _ wr.drew
      go_wp2_with fail
      go_ret;exact⟨by rw[cQ.o];rfl,by rw[<-EB.o];exact below_drewN ef.o 1⟩
     ·have j1:(i:Int)<4:=by omega
      have j2:(0:Int)<=(i:Int):=by omega
      have cr:=Pu g (rnds i V0) wr cm.o;have bq:=I (Blk.lt cm.o);have eo:=I hi4;clear hi4
      go_wp2_with (go_at_call 168;refine Aj cr ?_;rintro v4 ⟨cP,cT⟩;clear cr;have ev:=I cP;have ez:=I cT;clear cP cT)
      go_roundw
      case rel=>exact⟨i+1,by have:=eo.o;omega,by go_num,Az ef.o ez.o (by have:=bq.o;have:=Z.o;omega) Z.o,ev.o⟩
      case measure=>simp [intOf];omega
  ·have t1:(8:Int)<=(n:Int) - (u:Int):=by omega
   exact absurd H0.o (by omega)
theorem Wm (ks:Nat->UInt8) (A:Option Addr) (n c:Nat) (l:List UInt8) (w:World) (M:n=l.length) (hl:n<=100000) (O:n<=c) (hm:c<=maxLen) (Z:Rd w w.heap.size A (bvs l)) :
  Calls Tryz.prog 133 #[.agg (AQ ks),.slice A n c] w fun e w'=>e=.returned (wv (Hy ks l))/\Below w.heap.size w w':=by
 cases A with
 |some x=>exact Te ks x n c l w M hl O hm Z
 |none=>
  refine Tf ks n c l w M hl O hm ?_;rcases Z with h | ⟨b,o,h1,_,_⟩
  ·rw[M,List.map_eq_nil_iff.1 h];rfl
  ·cases h1
theorem Co:(Tryz.prog.info? 5).map (fun i=>(i.zero,i.size,i.bytes))=some (some (.int .u8 0),1,1):=by kernel_rfl
theorem Ha (w:World) (t:TypeId) (cs:Array Value) (l:List Value) (h:cs.toList=l) (N:Nat) (M:w.heap.size=N):Rd (w.alloc (.cells cs t)) (N+1) (some ⟨N,0,none⟩) l:=by
 subst M;refine .inr ⟨w.heap.size,0,rfl,by omega,fun i u hu=>?_⟩;rw[Nat.zero_add,(Blk.new w t cs).cell i];rw[<-h] at hu
 simpa using hu
theorem EW {w w':World} {base:Nat} {t:TypeId} {v:Value} {n:Nat} {xs:List Value} {o:Obj} (h:w.ownsRow base t 1 v n xs) (e:w'.heap=w.heap.push o):w'.ownsRow base t 1 v n xs:=by
 obtain⟨Z,h | ⟨g,cap,cur,hv,hg,M,hr⟩⟩:=h
 ·exact⟨Z,.inl h⟩
 ·refine⟨Z,.inr ⟨g,cap,cur,hv,hg,?_,hr⟩⟩
  have O:=Blk.lt (t:=t) (cs:=cur) M;rw[e,Array.getElem?_push_lt O,<-Array.getElem?_eq_getElem O];exact M
theorem QE {w:World} (t:TypeId) (M:List Value) (rows:List (List UInt8)) (cs:Array Value) (hc:cs.toList=M) (hl:M.length=rows.length)
  (h:∀i (h:i<rows.length),∃(O:Option Addr) (ci:Nat),M[i]? = some (.slice O (rows[i]).length ci)/\Rd w w.heap.size O (bvs rows[i])):Rows (w.alloc (.cells cs t)) (w.alloc (.cells cs t)).heap.size (some ⟨w.heap.size,0,none⟩) rows:=by
 refine⟨M,hl,(Ha w t cs M hc w.heap.size rfl).more (by simp),fun i hi=>?_⟩;obtain⟨O,ci,Z,h2⟩:=h i hi;exact⟨O,ci,Z,(h2.alloc Ag _).more (by simp)⟩
end Si
end Go.Proofs.YtfbnjcdhipplpaaGreat
