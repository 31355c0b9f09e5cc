import Derived.Test.YtfbnjcdhipplpaaGreatZAcceptorErrs7
set_option maxHeartbeats 25600000
set_option maxRecDepth 100000
set_option linter.unusedVariables false
set_option linter.unusedSimpArgs false
namespace Go.Proofs.YtfbnjcdhipplpaaGreat
namespace Si
open Go.RowKit Af
def Rows (w:World) (B:Nat) (A:Option Addr) (rows:List (List UInt8)):Prop:=
 ∃vs:List Value,vs.length=rows.length/\Rd w B A vs/\∀i (h:i<rows.length),∃(Ai:Option Addr) (ci:Nat),vs[i]? = some (.slice Ai (rows[i]).length ci)/\Rd w B Ai (bvs rows[i])
theorem Rows.below {w w':World} {B:Nat} {A:Option Addr} {rows:List (List UInt8)} (h:Rows w B A rows) (M:Below B w w'):Rows w' B A rows:=by
 obtain⟨Z,h1,h2,h3⟩:=h;refine⟨Z,h1,h2.below M,fun i hi=>?_⟩;obtain⟨Ai,ci,O,h5⟩:=h3 i hi;exact⟨Ai,ci,O,h5.below M⟩
theorem Rows.more {w:World} {B B':Nat} {A:Option Addr} {rows:List (List UInt8)} (h:Rows w B A rows) (hB:B<=B'):Rows w B' A rows:=by
 obtain⟨O,h1,h2,h3⟩:=h;refine⟨O,h1,h2.more hB,fun i hi=>?_⟩;obtain⟨Z,ci,M,h5⟩:=h3 i hi;exact⟨Z,ci,M,h5.more hB⟩
def flat (rows:List (List UInt8)):List UInt8:=rows.flatten
theorem Te (rows:List (List UInt8)) (i:Nat) (h:i<rows.length):flat (rows.take (i+1))=flat (rows.take i)++rows[i]:=by
 unfold flat;rw[List.take_succ_eq_append_getElem h,List.flatten_append];simp
theorem Jl (rows:List (List UInt8)) (i:Nat):(flat (rows.take i)).length<=(flat rows).length:=by
 have h:rows=rows.take i++rows.drop i:=(List.take_append_drop i rows).symm;have M:flat rows=flat (rows.take i)++flat (rows.drop i):=by
  unfold flat;rw[<-List.flatten_append,List.take_append_drop]
 rw[M,List.length_append];omega
def Of (ks:Nat->UInt8) (l:List UInt8):Array Value:=stc (stOf ks l)
theorem QH (g:Nat) (ks:Nat->UInt8) (l:List UInt8) (y:UInt8) (w:World) (M:l.length<100000) (hB:Blk w g 348 (Of ks l)) :
  Calls Tryz.prog 282 #[.pointer (some ⟨g,0,none⟩),.int .u8 (y.toNat:Int)] w fun e w'=>e=.returned (.tuple #[])/\Blk w' g 348 (Of ks (l++[y]))/\w.grownBy w' (some g):=by
 have h:=Oe g (stOf ks l) y w (by rw[bQ];exact M) (XS ks l) hB;rw[<-Mu] at h;exact h
theorem bW (g:Nat) (ks:Nat->UInt8) (l:List UInt8) (w:World) (hB:Blk w g 348 (Of ks l)) :
  Calls Tryz.prog 283 #[.pointer (some ⟨g,0,none⟩)] w fun e w'=>e=.returned (wv (Hz ks l))/\w.grownBy w' (some g):=
 Zy g (stOf ks l) w (Nat.lt_of_lt_of_le (XS ks l) (Wj _ (by omega))) hB
theorem Tf (l:List UInt8) (j:Nat) (h:j<l.length):l.take (j+1)=l.take j++[l[j]]:=List.take_succ_eq_append_getElem h
theorem Zz (ks:Nat->UInt8) (A:Option Addr) (n c:Nat) (rows:List (List UInt8)) (w:World) (hn:n=rows.length) (ei:n<=100000) (hl:(flat rows).length<100000) (hr:Rows w w.heap.size A rows) :
  Calls Tryz.prog 264 #[.agg (AR ks),.slice A n c] w fun e w'=>e=.returned (wv (Hz ks (flat rows)))/\Below w.heap.size w w':=by
 obtain⟨vs,hv,cc,Z⟩:=hr;obtain⟨B,eB⟩:=Ak (w.heap.size);rw[<-eB] at cc Z;have EB:=I eB;have cT:=I cc;clear cc;have ck:=I Z;clear Z;have HN:=I hn;clear hn;have e5:(n:Int)<=100000:=by omega
 clear ei;have HL:=I hl;clear hl;have HV:=I hv;clear hv;have hk:AR ks=#[.int .u8 ((ks 0).toNat:Int),.int .u8 ((ks 1).toNat:Int),.int .u8 ((ks 2).toNat:Int),.int .u8 ((ks 3).toNat:Int),.int .u8 ((ks 4).toNat:Int),.int .u8 ((ks 5).toNat:Int),.int .u8 ((ks 6).toNat:Int),.int .u8 ((ks 7).toNat:Int),.int .u8 ((ks 8).toNat:Int),.int .u8 ((ks 9).toNat:Int),.int .u8 ((ks 10).toNat:Int),.int .u8 ((ks 11).toNat:Int),.int .u8 ((ks 12).toNat:Int),.int .u8 ((ks 13).toNat:Int),.int .u8 ((ks 14).toNat:Int),.int .u8 ((ks 15).toNat:Int)]:=rfl;have cb:=Hd ks;rw[hk] at cb⊢;have hs:stc ⟨start ks,0,0⟩=#[wv (start ks).a,wv (start ks).b,wv (start ks).c,wv (start ks).d,.int .u64 0,.int .u64 0]:=rfl;rw[hs] at cb;have bB:Of ks []=#[wv (start ks).a,wv (start ks).b,wv (start ks).c,wv (start ks).d,.int .u64 0,.int .u64 0]:=rfl;obtain⟨p0,e0⟩:∃x,x=(start ks).a:=⟨_,rfl⟩;obtain⟨p1,e1⟩:∃x,x=(start ks).b:=⟨_,rfl⟩;obtain⟨p2,e2⟩:∃x,x=(start ks).c:=⟨_,rfl⟩;obtain⟨p3,e3⟩:∃x,x=(start ks).d:=⟨_,rfl⟩;rw[<-e0,<-e1,<-e2,<-e3] at bB cb;have cx:=I bB;clear bB;clear hk hs e0 e1 e2 e3;go_enter Tryz.func264,Tryz.ntmps264
 go_upto_region 2 with(go_at_call 281;refine Aj (cb _) ?_;rintro w1 cq;have cw:Below w.heap.size w w1:=((Below.refl w.heap.size w).alloc Ag _).trans (cq.mono (by simp));have bq:=I cw;clear cw cq cb)
 clear eB;obtain⟨g,eg⟩:=Ak (w1.heap.size);have cp:Blk (w1.alloc (.cells #[.int .u64 (p0.toNat:Int),.int .u64 (p1.toNat:Int),.int .u64 (p2.toNat:Int),.int .u64 (p3.toNat:Int),.int .u64 0,.int .u64 0] 348)) g 348 (Of ks []):=Blk.new_of w1 g _ _ _ cx.o.symm eg.symm;have cf:Below B w (w1.alloc (.cells #[.int .u64 (p0.toNat:Int),.int .u64 (p1.toNat:Int),.int .u64 (p2.toNat:Int),.int .u64 (p3.toNat:Int),.int .u64 0,.int .u64 0] 348)):=by rw[EB.o];exact bq.o.alloc bq.o.size _
 have hg:B<=g:=by rw[eg,EB.o];exact bq.o.size
 rw[<-eg];generalize w1.alloc (.cells #[.int .u64 (p0.toNat:Int),.int .u64 (p1.toNat:Int),.int .u64 (p2.toNat:Int),.int .u64 (p3.toNat:Int),.int .u64 0,.int .u64 0] 348)=w2 at cp cf⊢;have ct:=I cp;clear cp;have cy:=I cf;clear cf;have bx:=I hg;clear hg;clear cx bq eg
 go_wp2_with fail
 go_loopw [14] (fun iv wr=>∃i:Nat,i<=n/\iv=.int .i64 (i:Int)/\Below B w wr/\Blk wr g 348 (Of ks (flat (rows.take i)))) (fun iv _=>n - (intOf iv).toNat)
 case atStart=>exact⟨0,Nat.zero_le _,rfl,cy.o,by rw[List.take_zero];exact ct.o⟩
 case round=>
  clear ct cy;obtain⟨i,hi,rfl,hW,hB⟩:=hrel;have HW:=I hW;clear hW;have HB:=I hB;clear hB
  by_cases hx:i=n
  ·have he:rows.take i=rows:=List.take_of_length_le (by have:=HN.o;omega)
   have ce:=bW g ks (flat (rows.take i)) wr HB.o;rw[he] at ce;subst hx;clear he
   go_wp2_with (go_at_call 283;refine Aj ce ?_;rintro w3 cM;clear ce;have ec:=I cM;clear cM)
   go_ret;exact⟨rfl,by rw[<-EB.o];exact Az HW.o ec.o (by have:=HW.o.size;have:=Blk.lt HB.o;have:=bx.o;omega) bx.o⟩
  ·have ep:i<n:=by omega
   have bn:i<rows.length:=by have:=HN.o;omega
   have e1:(i:Int)<(n:Int):=by omega
   have e2:(0:Int)<=(i:Int):=by omega
   obtain⟨row,aw⟩:∃r,r=rows[i]:=⟨_,rfl⟩;obtain⟨pre,bb⟩:∃r,r=flat (rows.take i):=⟨_,rfl⟩;have O:flat (rows.take (i+1))=pre++row:=by rw[bb,aw];exact Te rows i bn
   have hlen:(pre++row).length<100000:=by rw[<-O];exact Nat.lt_of_le_of_lt (Jl rows (i+1)) HL.o
   obtain⟨Ai,ci,cj,cd⟩:=ck.o i bn;rw[<-aw] at cj cd;have cg:=HB.o;rw[<-bb] at cg;have cu:=I cg;clear cg HB;obtain⟨b,o,rfl,cY,av⟩:=cT.o.at_ cj;obtain⟨m,em⟩:=Ak (row.length);rw[<-em] at av;have hc:wr.cell? ⟨b,o+i,none⟩=some (.slice Ai m ci):=(HW.o.cell (p:=⟨b,o+i,none⟩) cY).trans av;have ef:=I O;clear O;have ed:=I cd;clear cd;have HX:=I hx;clear hx;have HI:=I hi;clear hi;have e6:(m:Int)<100000:=by have:=hlen;rw[List.length_append] at this;omega
   have HM:=I em;clear em;have ea:=I hlen;clear hlen;have ej:=I bn;clear cj av aw bb bn
   go_wp2_with fail
   go_loopw [20] (fun jv wx=>∃j:Nat,j<=m/\jv=.int .i64 (j:Int)/\Below B w wx/\Blk wx g 348 (Of ks (pre++row.take j))) (fun jv _=>m - (intOf jv).toNat)
   case atStart=>exact⟨0,Nat.zero_le _,rfl,HW.o,by rw[List.take_zero,List.append_nil];exact cu.o⟩
   case round=>
    clear hc HW cu;obtain⟨j,hj,rfl,cr,cB⟩:=hrel;have cm:=I cr;clear cr;have cn:=I cB;clear cB
    by_cases hy:j=m
    ·have he:row.take j=row:=List.take_of_length_le (by have:=HM.o;omega)
     have HE:=I he;clear he;subst hy
     go_wp2_with fail
     go_roundw
     case rel=>exact⟨i+1,by omega,by go_num,cm.o,by rw[ef.o];have:=cn.o;rw[HE.o] at this;exact this⟩
     case measure=>simp [intOf];omega
    ·have eo:j<m:=by omega
     have bz:j<row.length:=by have:=HM.o;omega
     have f1:(j:Int)<(m:Int):=by omega
     have f2:(0:Int)<=(j:Int):=by omega
     obtain⟨b2,o2,rfl,eb,M⟩:=ed.o.at_ (Gg bz);obtain⟨y,ey⟩:=Ak (row[j]);rw[<-ey] at M;have ek:wr.cell? ⟨b2,o2+j,none⟩=some (.int .u8 (y.toNat:Int)):=(cm.o.cell (p:=⟨b2,o2+j,none⟩) eb).trans M;have cA:(pre++row.take j)++[y]=pre++row.take (j+1):=by rw[Tf row j bz,<-ey,List.append_assoc]
     have ca:=QH g ks (pre++row.take j) y wr (by have:=ea.o;rw[List.length_append] at this⊢;have:(row.take j).length<=row.length:=by{rw[List.length_take];omega};omega) cn.o;rw[cA] at ca;have HY:=I hy;clear hy;have HJ:=I hj;clear hj;have cQ:=I (Blk.lt cn.o);clear M ey cA bz
     go_wp2_with (go_at_call 282;refine Aj ca ?_;rintro w4 ⟨cL,cP⟩;clear ca;have cR:=I cL;have cX:=I cP;clear cL cP)
     go_roundw
     case rel=>exact⟨j+1,by omega,by go_num,Az cm.o cX.o (by have:=cQ.o;have:=bx.o;omega) bx.o,cR.o⟩
     case measure=>simp [intOf];omega
theorem Th (n:Int):bits .and .i64 n 255=n % 256:=by
 have M:(BitVec.ofInt 64 255).toNat=2 ^ 8 - 1:=by decide
 have key:(BitVec.ofInt 64 n &&& BitVec.ofInt 64 255).toNat=(n % ((2 ^ 64:Nat):Int)).toNat % 2 ^ 8:=by
  rw[BitVec.toNat_and,BitVec.toNat_ofInt,M,Nat.and_two_pow_sub_one_eq_mod]
 show IntKind.i64.wrap ((BitVec.ofInt 64 n &&& BitVec.ofInt 64 255).toNat:Nat)=n % 256;rw[key,IntKind.wrap_i64];omega
theorem Rd.drop {w:World} {B:Nat} {x:Addr} {l:List UInt8} (h:Rd w B (some x) (bvs l)) (p:Nat):Rd w B (some (x.add p)) (bvs (l.drop p)):=by
 rcases h with h | ⟨b,o,M,O,Z⟩
 ·left
  have:l = []:=List.map_eq_nil_iff.1 h;rw[this];simp [bvs]
 ·injection M with M
  subst M;rw[addr_add];refine .inr ⟨b,o+p,rfl,O,fun i u hu=>?_⟩;have:(bvs l)[p+i]? = some u:=by
   rw[<-hu];simp [bvs,List.getElem?_drop]
  have:=Z _ _ this
  rwa [Nat.add_assoc]
theorem Rd.take {w:World} {B:Nat} {A:Option Addr} {l:List UInt8} (h:Rd w B A (bvs l)) (k:Nat):Rd w B A (bvs (l.take k)):=by
 rcases h with h | ⟨b,o,O,M,Z⟩
 ·left
  have:l = []:=List.map_eq_nil_iff.1 h;rw[this];simp [bvs]
 ·refine .inr ⟨b,o,O,M,fun i u hu=>Z i u ?_⟩
  rw[<-hu];have hi:i<k:=by
   rcases Nat.lt_or_ge i k with g | g
   ·exact g
   ·rw[List.getElem?_eq_none (by simp [bvs];omega)] at hu;cases hu
  simp [bvs,hi]
theorem rd_key {w:World} {B:Nat} {t:TypeId} {ks:Nat->UInt8} (h:Blk w B t (AR ks)) (o:Nat) (M:o+8<=16):Rd w (B+1) (some ⟨B,o,none⟩) (bvs ((List.range 8).map fun i=>ks (o+i))):=by
 refine .inr ⟨B,o,rfl,by omega,fun i u hu=>?_⟩;have hi:i<8:=by
  rcases Nat.lt_or_ge i 8 with g | g
  ·exact g
  ·rw[List.getElem?_eq_none (by simp [bvs];omega)] at hu;cases hu
 rw[h.cell,FR _ _ (by omega)];rw[<-hu];simp [bvs,hi]
theorem XU {w:World} {B:Nat} {t:TypeId} {ks:Nat->UInt8} (h:Blk w B t (AR ks)):Calls Tryz.prog 166 #[.slice (some ⟨B,0,none⟩) 8 16] w fun e w'=>e=.returned (wv (kA ks))/\w'=w:=by
 have M:=rd_key h 0 (by decide);have:=Od (some ⟨B,0,none⟩) 8 16 _ w (B+1) (by simp) (by decide) M;have e:((List.range 8).map fun i=>ks (0+i))=(List.range 8).map ks:=by simp
 rw[e] at this;exact this
theorem XV {w:World} {B:Nat} {t:TypeId} {ks:Nat->UInt8} (h:Blk w B t (AR ks)):Calls Tryz.prog 166 #[.slice (some ⟨B,8,none⟩) 8 8] w fun e w'=>e=.returned (wv (kB ks))/\w'=w:=
 Od (some ⟨B,8,none⟩) 8 8 _ w (B+1) (by simp) (by decide) (rd_key h 8 (by decide))
theorem Ti (ks:Nat->UInt8) (l:List UInt8):bits .or .u64 (BJ (l.drop (8*(l.length / 8))):Nat) (IntKind.u64.wrap (((l.length % 256:Nat):Int)*72057594037927936))=((QF (stOf ks l)).toNat:Int):=by
 have M:BJ (l.drop (8*(l.length / 8)))<72057594037927936:=Tb (by rw[List.length_drop];omega);have h:=Px (BJ (l.drop (8*(l.length / 8)))) (l.length % 256) M;rw[IntKind.wrap_u64,h,Nat.mod_mod];rw[Mx _ (by rw[FU];exact M),FU]
def stcV (ks:Nat->UInt8):Array Value:=DR (start ks)
theorem Tj (ks:Nat->UInt8) (x:Addr) (n c:Nat) (l:List UInt8) (w:World) (hn:n=l.length) (hl:n<=100000) (hc:n<=c) (hm:c<=maxLen) (hr:Rd w w.heap.size (some x) (bvs l)) :
  Calls Tryz.prog 133 #[.agg (AR ks),.slice (some x) n c] w fun e w'=>e=.returned (wv (Hz ks l))/\Below w.heap.size w w':=by
 obtain⟨B,eB⟩:=Ak (w.heap.size);rw[<-eB] at hr;have EB:=I eB;have HR:=I hr;clear hr;have HN:=I hn;clear hn;have ew:AR ks=#[.int .u8 ((ks 0).toNat:Int),.int .u8 ((ks 1).toNat:Int),.int .u8 ((ks 2).toNat:Int),.int .u8 ((ks 3).toNat:Int),.int .u8 ((ks 4).toNat:Int),.int .u8 ((ks 5).toNat:Int),.int .u8 ((ks 6).toNat:Int),.int .u8 ((ks 7).toNat:Int),.int .u8 ((ks 8).toNat:Int),.int .u8 ((ks 9).toNat:Int),.int .u8 ((ks 10).toNat:Int),.int .u8 ((ks 11).toNat:Int),.int .u8 ((ks 12).toNat:Int),.int .u8 ((ks 13).toNat:Int),.int .u8 ((ks 14).toNat:Int),.int .u8 ((ks 15).toNat:Int)]:=rfl;have er:stcV ks=#[wv (start ks).a,wv (start ks).b,wv (start ks).c,wv (start ks).d]:=rfl;obtain⟨p,ep⟩:∃x,x=kA ks:=⟨_,rfl⟩;obtain⟨q,eq⟩:∃x,x=kB ks:=⟨_,rfl⟩;obtain⟨v0,e0⟩:∃x,x=0x736f6d6570736575#64 ^^^ p:=⟨_,rfl⟩;obtain⟨v1,e1⟩:∃x,x=0x646f72616e646f6d#64 ^^^ q:=⟨_,rfl⟩;obtain⟨v2,e2⟩:∃x,x=0x6c7967656e657261#64 ^^^ p:=⟨_,rfl⟩;obtain⟨v3,e3⟩:∃x,x=0x7465646279746573#64 ^^^ q:=⟨_,rfl⟩;have x0:bits .xor .u64 8317987319222330741 (p.toNat:Int)=(v0.toNat:Int):=by rw[e0];exact Bs 0x736f6d6570736575#64 p
 have x1:bits .xor .u64 7237128888997146477 (q.toNat:Int)=(v1.toNat:Int):=by rw[e1];exact Bs 0x646f72616e646f6d#64 q
 have x2:bits .xor .u64 7816392313619706465 (p.toNat:Int)=(v2.toNat:Int):=by rw[e2];exact Bs 0x6c7967656e657261#64 p
 have x3:bits .xor .u64 8387220255154660723 (q.toNat:Int)=(v3.toNat:Int):=by rw[e3];exact Bs 0x7465646279746573#64 q
 have hs:stcV ks=#[.int .u64 (v0.toNat:Int),.int .u64 (v1.toNat:Int),.int .u64 (v2.toNat:Int),.int .u64 (v3.toNat:Int)]:=by
  rw[er,e0,e1,e2,e3,ep,eq];rfl
 have HS:=I hs;clear hs;obtain⟨kz,cb⟩:=Ak (AR ks);rw[<-cb];have eM:=I cb;have hK:Blk (w.alloc (.cells kz 225)) B 225 (AR ks):=Blk.new_of w B _ _ _ cb eB.symm;have hW:Below B w (w.alloc (.cells kz 225)):=by rw[eB];exact(Below.refl _ w).alloc Ag _
 clear er e0 e1 e2 e3;have cA:=XU (hK.drewN 1);have cB:=XV (hK.drewN 1);rw[<-ep] at cA;rw[<-eq] at cB;have HW:=I hW;clear hW;clear ew cb ep eq hK;go_enter Tryz.func133,Tryz.ntmps133
 go_upto_region 1 with fail
 rw[<-eB];clear eB;have HM:=I hm;clear hm;generalize w.alloc (.cells kz 225)=w1 at cA cB HW⊢;refine wp_region_still_lit (by kernel_rfl) (by kernel_rfl) ?_;change wpStill _ _ w1.drew _ _ _
 repeat still_step
 still_call cA
 repeat still_step
 still_call cB
 repeat still_step
 refine wpStill_nil ?_
 try change _ w1.drew
 clear cA cB
 go_upto_region 3 with fail
 obtain⟨g,eg⟩:=Ak (w1.heap.size);have cq:Blk (w1.alloc (.cells #[.int .u64 (v0.toNat:Int),.int .u64 (v1.toNat:Int),.int .u64 (v2.toNat:Int),.int .u64 (v3.toNat:Int)] 275)).drew g 275 (DR (full ks l (0 / 8))):=Blk.drewN (Blk.new_of w1 g _ _ _ HS.o.symm eg.symm) 1;have cj:Below B w (w1.alloc (.cells #[.int .u64 (v0.toNat:Int),.int .u64 (v1.toNat:Int),.int .u64 (v2.toNat:Int),.int .u64 (v3.toNat:Int)] 275)).drew:=below_drewN (HW.o.alloc (by rw[EB.o];exact HW.o.size) _) 1;have hg:B<=g:=by rw[eg,EB.o];exact HW.o.size
 rw[<-eg];generalize (w1.alloc (.cells #[.int .u64 (v0.toNat:Int),.int .u64 (v1.toNat:Int),.int .u64 (v2.toNat:Int),.int .u64 (v3.toNat:Int)] 275)).drew=w2 at cq cj⊢;have cY:=I cq;clear cq;have cM:=I cj;clear cj;have Z:=I hg;clear hg;clear HS HW eg x0 x1 x2 x3;have l5:(n:Int)<=100000:=by omega
 have c0:(n:Int)<=(c:Int):=by omega
 have eN:c<=9223372036854775807:=by have:=HM.o;unfold maxLen at this;omega
 have eK:(c:Int)<=9223372036854775807:=by omega
 go_wp2_with fail
 go_loopw [8] (fun iv wr=>∃u:Nat,u<=n/\u % 8=0/\iv=.int .i64 (u:Int)/\Below B w wr/\Blk wr g 275 (DR (full ks l (u / 8)))) (fun iv _=>n - (intOf iv).toNat)
 case atStart=>exact⟨0,Nat.zero_le _,rfl,rfl,cM.o,cY.o⟩
 case round=>
  clear cY cM;obtain⟨u,hu,ef,rfl,hW,hB⟩:=hrel;have HW:=I hW;clear hW;have HB:=I hB;clear hB;have ca:=I ef;clear ef;have d0:(0:Int)<=(u:Int):=by omega
  have d1:(u:Int)<=(n:Int):=by omega
  by_cases hx:n - u<8
  ·have hj:u / 8=n / 8:=by have:=ca.o;omega
   have t1:(n:Int) - (u:Int)<8:=by omega
   have HX:=I hx;clear hx;have HJ:=I hj;clear hj;obtain⟨k,ek⟩:=Ak (n % 256);have hand:bits .and .i64 (n:Int) 255=(k:Int):=by rw[Th,ek];omega
   have k1:(k:Int)<256:=by omega
   have k2:(0:Int)<=(k:Int):=by omega
   have eu:IntKind.u64.wrap (k:Int)=(k:Int):=by rw[IntKind.wrap_u64];omega
   have bz:u=8*(l.length / 8):=by have:=ca.o;have:=HN.o;have:=HX.o;omega
   have cP:(l.drop u).length=n - u:=by rw[List.length_drop,HN.o]
   obtain⟨mw,aw⟩:∃m,m=wd (BJ (l.drop u)):=⟨_,rfl⟩;obtain⟨lw,cu⟩:∃m,m=QF (stOf ks l):=⟨_,rfl⟩;have cL:mw.toNat=BJ (l.drop u):=by rw[aw];exact Kl _ (Lg (by have:=HX.o;omega))
   have cQ:bits .or .u64 (mw.toNat:Int) (IntKind.u64.wrap ((k:Int)*72057594037927936))=(lw.toNat:Int):=by
    have h:=Ti ks l;rw[<-bz,<-cL,<-HN.o,<-ek,<-cu] at h;exact h
   have eE:bits .or .u64 (mw.toNat:Int) ((k:Int)*72057594037927936)=(lw.toNat:Int):=by
    rw[<-cQ,IntKind.wrap_u64];congr 1;omega
   have cA:=Od (some (x.add u)) (n - u) (c - u) (l.drop u) wr B cP.symm (by have:=HX.o;omega) (Rd.drop (HR.o.below HW.o) u);have cB:u=c->Calls Tryz.prog 166 #[.slice (some x) 0 0] wr fun e w'=>e=.returned (wv (wd (BJ (l.drop u))))/\w'=wr:=fun h=>Od (some x) 0 0 (l.drop u) wr B (by omega) (by decide) (.inl (by rw[List.eq_nil_of_length_eq_zero (l:=l.drop u) (by omega)];rfl))
   rw[<-aw] at cA;rw[<-aw] at cB;obtain⟨⟨a,b,cc,d⟩,e1⟩:∃t,t=addM (full ks l (u / 8)) lw:=⟨_,rfl⟩;obtain⟨c1,ec⟩:∃x,x=cc ^^^ 255#64:=⟨_,rfl⟩;obtain⟨V0,eV⟩:∃x:V,x=⟨a,b,c1,d⟩:=⟨_,rfl⟩;obtain⟨⟨a2,b2,c2,d2⟩,e2⟩:∃t,t=rnds 4 V0:=⟨_,rfl⟩;obtain⟨q1,cn⟩:∃x,x=a2 ^^^ b2:=⟨_,rfl⟩;obtain⟨q2,cf⟩:∃x,x=q1 ^^^ c2:=⟨_,rfl⟩;obtain⟨q3,cg⟩:∃x,x=q2 ^^^ d2:=⟨_,rfl⟩;have cd:Hz ks l=q3:=by
    have hv:(stOf ks l).v=full ks l (u / 8):=by rw[FU,HJ.o,HN.o]
    rw[Hz,finS,<-cu,hv,<-e1,fin,<-ec,<-eV,<-e2,allX,<-cn,<-cf,<-cg]
   have x0:bits .xor .u64 (cc.toNat:Int) 255=(c1.toNat:Int):=by rw[ec];exact Bs cc 255#64
   have x1:bits .xor .u64 (a2.toNat:Int) (b2.toNat:Int)=(q1.toNat:Int):=by rw[cn];exact Bs _ _
   have x2:bits .xor .u64 (q1.toNat:Int) (c2.toNat:Int)=(q2.toNat:Int):=by rw[cf];exact Bs _ _
   have x3:bits .xor .u64 (q2.toNat:Int) (d2.toNat:Int)=(q3.toNat:Int):=by rw[cg];exact Bs _ _
   have ct:=Zx g (full ks l (u / 8)) lw wr HB.o;rw[<-e1] at ct;have eb:=I cd;clear cd;have EV:=I eV;clear eV;have E2:=I e2;clear e2;have ea:=I x0;clear x0;have eJ:=I x1;clear x1;have eF:=I x2;clear x2;have ez:=I x3;clear x3;have bn:=I (Blk.lt HB.o);clear e1 ec cn cf cg cL aw cu cP bz ek HJ ca
   go_upto_region 7 with fail
   go_cut [] from 39 to 50 (fun wx=>Below B w wx/\Blk wx g 275 (DR ⟨a,b,cc,d⟩))
   case first=>
    have bx:u=c\/u<c:=by omega
    rcases bx with bx | bx
    ·have eo:=cB bx;clear cB
     clear cA;subst bx
     go_wp2_with (first
      |(go_at_call 166;refine Aj eo ?_;rintro w' hw;have hw:=hw.symm;subst hw;clear eo)
      |(go_at_call 167;refine Aj ct ?_;rintro v1 ⟨M,av⟩;clear ct;have O:=I M;have bb:=I (Az HW.o av (by have:=bn.o;have:=Z.o;omega) Z.o);clear M av))
     go_meet
     exact⟨bb.o,O.o⟩
    ·clear cB
     have eL:(u:Int)<(c:Int):=by omega
     go_wp2_with (first
      |(go_at_call 166;refine Aj cA ?_;rintro w' hw;have hw:=hw.symm;subst hw;clear cA)
      |(go_at_call 167;refine Aj ct ?_;rintro v1 ⟨M,av⟩;clear ct;have O:=I M;have bb:=I (Az HW.o av (by have:=bn.o;have:=Z.o;omega) Z.o);clear M av))
     go_meet
     exact⟨bb.o,O.o⟩
   case rest=>
    obtain⟨cy,M⟩:=hcut;have O:=I M;clear M;have bb:=I cy;clear cy;have k2:wc.cell? ⟨g,2,none⟩=some (.int .u64 (cc.toNat:Int)):=by rw[O.o.cell];rfl
    have fz:=O.o.frozen;have x0:=ea.o;clear ea hand eu cQ eE cA cB ct
    go_upto_region 8 with fail
    refine wp_region_still_tail 8 (by kernel_rfl) (by kernel_rfl) ?_;simp only[List.take_succ_cons,List.take_zero,List.drop_succ_cons,List.drop_zero];change wpStill _ _ wc.drew _ _ _
    repeat still_step
    refine wpStill_nil ?_;change wpList _ _ _ _ _ wc.drew
    go_upto_region 9 with fail
    have cp:Blk (wc.setCell ⟨g,2,none⟩ (.int .u64 (c1.toNat:Int))).drew g 275 (DR V0):=by rw[EV.o];exact Blk.set O.o 2 (wv c1)
    have ck:Below B w (wc.setCell ⟨g,2,none⟩ (.int .u64 (c1.toNat:Int))).drew:=below_drewN (AI bb.o Z.o _) 1;generalize (wc.setCell ⟨g,2,none⟩ (.int .u64 (c1.toNat:Int))).drew=v2 at cp ck⊢;have cx:=I cp;clear cp;have cw:=I ck;clear ck;clear k2 fz x0 O bb bn HB HW
    go_wp2_with fail
    go_loopw [9] (fun iv wr=>∃i:Nat,i<=4/\iv=.int .i64 (i:Int)/\Below B w wr/\Blk wr g 275 (DR (rnds i V0))) (fun iv _=>4 - (intOf iv).toNat)
    case atStart=>exact⟨0,by decide,rfl,cw.o,cx.o⟩
    case round=>
     obtain⟨i,hi,rfl,ej,ed⟩:=hrel;clear cx cw;have cm:=I ed;clear ed;have cT:=I ej;clear ej
     by_cases hi4:i=4
     ·subst hi4
      have bq:=cm.o;rw[<-E2.o] at bq;have k0:wr.cell? ⟨g,0,none⟩=some (.int .u64 (a2.toNat:Int)):=by rw[bq.cell];rfl
      have k1:wr.cell? ⟨g,1,none⟩=some (.int .u64 (b2.toNat:Int)):=by rw[bq.cell];rfl
      have k2:wr.cell? ⟨g,2,none⟩=some (.int .u64 (c2.toNat:Int)):=by rw[bq.cell];rfl
      have k3:wr.cell? ⟨g,3,none⟩=some (.int .u64 (d2.toNat:Int)):=by rw[bq.cell];rfl
      have x1:=eJ.o;have x2:=eF.o;have x3:=ez.o;clear bq
      go_upto_region 13 with fail
      refine wp_region_still_lit (by kernel_rfl) (by kernel_rfl) ?_;change wpStill _ _ wr.drew _ _ _
      repeat still_step
      refine wpStill_nil ?_
      try change _ wr.drew
      go_wp2_with fail
      go_ret;exact⟨by rw[eb.o];rfl,by rw[<-EB.o];exact below_drewN cT.o 1⟩
     ·have j1:(i:Int)<4:=by omega
      have j2:(0:Int)<=(i:Int):=by omega
      have cr:=Py g (rnds i V0) wr cm.o;have bn:=I (Blk.lt cm.o);have ey:=I hi4;clear hi4
      go_wp2_with (go_at_call 168;refine Aj cr ?_;rintro v4 ⟨ei,cX⟩;clear cr;have et:=I ei;have ev:=I cX;clear ei cX)
      go_roundw
      case rel=>exact⟨i+1,by have:=ey.o;omega,by go_num,Az cT.o ev.o (by have:=bn.o;have:=Z.o;omega) Z.o,et.o⟩
      case measure=>simp [intOf];omega
  ·have t1:(8:Int)<=(n:Int) - (u:Int):=by omega
   have t2:(u:Int)+8<=(n:Int):=by omega
   have t3:u+8<=n:=by omega
   have HX:=I hx;clear hx;have hj:(u+8) / 8=u / 8+1:=by omega
   have bz:u=8*(u / 8):=by have:=ca.o;omega
   have cR:((l.drop u).take 8).length=8:=by rw[List.length_take,List.length_drop,<-HN.o];omega
   have cA:=Od (some (x.add u)) 8 (c - u) ((l.drop u).take 8) wr B cR.symm (by decide) (Rd.take (Rd.drop (HR.o.below HW.o) u) 8);obtain⟨mw,aw⟩:∃m,m=wd (BJ ((l.drop u).take 8)):=⟨_,rfl⟩;rw[<-aw] at cA;have bB:addM (full ks l (u / 8)) mw=full ks l ((u+8) / 8):=by rw[hj,full,<-bz,<-aw]
   have ct:=Zx g (full ks l (u / 8)) mw wr HB.o;rw[bB] at ct;have bn:=I (Blk.lt HB.o);clear hj bz cR aw bB
   go_wp2_with (first
    |(go_at_call 166;refine Aj cA ?_;rintro w' hw;have hw:=hw.symm;subst hw;clear cA)
    |(go_at_call 167;refine Aj ct ?_;rintro v1 ⟨M,av⟩;clear ct;have O:=I M;have bb:=I (Az HW.o av (by have:=bn.o;have:=Z.o;omega) Z.o);clear M av))
   go_roundw
   case rel=>exact⟨u+8,by omega,by have:=ca.o;omega,by go_num,bb.o,O.o⟩
   case measure=>simp [intOf];omega
theorem Tl (ks:Nat->UInt8) (n c:Nat) (l:List UInt8) (w:World) (hn:n=l.length) (hl:n<=100000) (hc:n<=c) (hm:c<=maxLen) (h0:n=0) :
  Calls Tryz.prog 133 #[.agg (AR ks),.slice none n c] w fun e w'=>e=.returned (wv (Hz ks l))/\Below w.heap.size w w':=by
 obtain⟨B,eB⟩:=Ak (w.heap.size);have EB:=I eB;have H0:=I h0;clear h0;have HN:=I hn;clear hn;have eu:AR ks=#[.int .u8 ((ks 0).toNat:Int),.int .u8 ((ks 1).toNat:Int),.int .u8 ((ks 2).toNat:Int),.int .u8 ((ks 3).toNat:Int),.int .u8 ((ks 4).toNat:Int),.int .u8 ((ks 5).toNat:Int),.int .u8 ((ks 6).toNat:Int),.int .u8 ((ks 7).toNat:Int),.int .u8 ((ks 8).toNat:Int),.int .u8 ((ks 9).toNat:Int),.int .u8 ((ks 10).toNat:Int),.int .u8 ((ks 11).toNat:Int),.int .u8 ((ks 12).toNat:Int),.int .u8 ((ks 13).toNat:Int),.int .u8 ((ks 14).toNat:Int),.int .u8 ((ks 15).toNat:Int)]:=rfl;have ej:stcV ks=#[wv (start ks).a,wv (start ks).b,wv (start ks).c,wv (start ks).d]:=rfl;obtain⟨p,ep⟩:∃x,x=kA ks:=⟨_,rfl⟩;obtain⟨q,eq⟩:∃x,x=kB ks:=⟨_,rfl⟩;obtain⟨v0,e0⟩:∃x,x=0x736f6d6570736575#64 ^^^ p:=⟨_,rfl⟩;obtain⟨v1,e1⟩:∃x,x=0x646f72616e646f6d#64 ^^^ q:=⟨_,rfl⟩;obtain⟨v2,e2⟩:∃x,x=0x6c7967656e657261#64 ^^^ p:=⟨_,rfl⟩;obtain⟨v3,e3⟩:∃x,x=0x7465646279746573#64 ^^^ q:=⟨_,rfl⟩;have x0:bits .xor .u64 8317987319222330741 (p.toNat:Int)=(v0.toNat:Int):=by rw[e0];exact Bs 0x736f6d6570736575#64 p
 have x1:bits .xor .u64 7237128888997146477 (q.toNat:Int)=(v1.toNat:Int):=by rw[e1];exact Bs 0x646f72616e646f6d#64 q
 have x2:bits .xor .u64 7816392313619706465 (p.toNat:Int)=(v2.toNat:Int):=by rw[e2];exact Bs 0x6c7967656e657261#64 p
 have x3:bits .xor .u64 8387220255154660723 (q.toNat:Int)=(v3.toNat:Int):=by rw[e3];exact Bs 0x7465646279746573#64 q
 have hs:stcV ks=#[.int .u64 (v0.toNat:Int),.int .u64 (v1.toNat:Int),.int .u64 (v2.toNat:Int),.int .u64 (v3.toNat:Int)]:=by
  rw[ej,e0,e1,e2,e3,ep,eq];rfl
 have HS:=I hs;clear hs;obtain⟨kz,bx⟩:=Ak (AR ks);rw[<-bx];have eK:=I bx;have hK:Blk (w.alloc (.cells kz 225)) B 225 (AR ks):=Blk.new_of w B _ _ _ bx eB.symm;have hW:Below B w (w.alloc (.cells kz 225)):=by rw[eB];exact(Below.refl _ w).alloc Ag _
 clear ej e0 e1 e2 e3;have cA:=XU (hK.drewN 1);have cB:=XV (hK.drewN 1);rw[<-ep] at cA;rw[<-eq] at cB;have HW:=I hW;clear hW;clear eu bx ep eq hK;go_enter Tryz.func133,Tryz.ntmps133
 go_upto_region 1 with fail
 rw[<-eB];clear eB;have HM:=I hm;clear hm;generalize w.alloc (.cells kz 225)=w1 at cA cB HW⊢;refine wp_region_still_lit (by kernel_rfl) (by kernel_rfl) ?_;change wpStill _ _ w1.drew _ _ _
 repeat still_step
 still_call cA
 repeat still_step
 still_call cB
 repeat still_step
 refine wpStill_nil ?_
 try change _ w1.drew
 clear cA cB
 go_upto_region 3 with fail
 obtain⟨g,eg⟩:=Ak (w1.heap.size);have cm:Blk (w1.alloc (.cells #[.int .u64 (v0.toNat:Int),.int .u64 (v1.toNat:Int),.int .u64 (v2.toNat:Int),.int .u64 (v3.toNat:Int)] 275)).drew g 275 (DR (full ks l (0 / 8))):=Blk.drewN (Blk.new_of w1 g _ _ _ HS.o.symm eg.symm) 1;have cd:Below B w (w1.alloc (.cells #[.int .u64 (v0.toNat:Int),.int .u64 (v1.toNat:Int),.int .u64 (v2.toNat:Int),.int .u64 (v3.toNat:Int)] 275)).drew:=below_drewN (HW.o.alloc (by rw[EB.o];exact HW.o.size) _) 1;have hg:B<=g:=by rw[eg,EB.o];exact HW.o.size
 rw[<-eg];generalize (w1.alloc (.cells #[.int .u64 (v0.toNat:Int),.int .u64 (v1.toNat:Int),.int .u64 (v2.toNat:Int),.int .u64 (v3.toNat:Int)] 275)).drew=w2 at cm cd⊢;have cR:=I cm;clear cm;have cy:=I cd;clear cd;have Z:=I hg;clear hg;clear HS HW eg x0 x1 x2 x3;have l5:(n:Int)<=100000:=by omega
 have c0:(n:Int)<=(c:Int):=by omega
 have eL:c<=9223372036854775807:=by have:=HM.o;unfold maxLen at this;omega
 have eF:(c:Int)<=9223372036854775807:=by omega
 go_wp2_with fail
 go_loopw [8] (fun iv wr=>∃u:Nat,u<=n/\u % 8=0/\iv=.int .i64 (u:Int)/\Below B w wr/\Blk wr g 275 (DR (full ks l (u / 8)))) (fun iv _=>n - (intOf iv).toNat)
 case atStart=>exact⟨0,Nat.zero_le _,rfl,rfl,cy.o,cR.o⟩
 case round=>
  clear cR cy;obtain⟨u,hu,eb,rfl,hW,hB⟩:=hrel;have HW:=I hW;clear hW;have HB:=I hB;clear hB;have cn:=I eb;clear eb;have d0:(0:Int)<=(u:Int):=by omega
  have d1:(u:Int)<=(n:Int):=by omega
  by_cases hx:n - u<8
  ·have hj:u / 8=n / 8:=by have:=cn.o;omega
   have t1:(n:Int) - (u:Int)<8:=by omega
   have HX:=I hx;clear hx;have HJ:=I hj;clear hj;obtain⟨k,ek⟩:=Ak (n % 256);have hand:bits .and .i64 (n:Int) 255=(k:Int):=by rw[Th,ek];omega
   have k1:(k:Int)<256:=by omega
   have k2:(0:Int)<=(k:Int):=by omega
   have er:IntKind.u64.wrap (k:Int)=(k:Int):=by rw[IntKind.wrap_u64];omega
   have cX:u=8*(l.length / 8):=by have:=cn.o;have:=HN.o;have:=HX.o;omega
   have cL:(l.drop u).length=n - u:=by rw[List.length_drop,HN.o]
   obtain⟨mw,bz⟩:∃m,m=wd (BJ (l.drop u)):=⟨_,rfl⟩;obtain⟨lw,cp⟩:∃m,m=QF (stOf ks l):=⟨_,rfl⟩;have cx:mw.toNat=BJ (l.drop u):=by rw[bz];exact Kl _ (Lg (by have:=HX.o;omega))
   have cM:bits .or .u64 (mw.toNat:Int) (IntKind.u64.wrap ((k:Int)*72057594037927936))=(lw.toNat:Int):=by
    have h:=Ti ks l;rw[<-cX,<-cx,<-HN.o,<-ek,<-cp] at h;exact h
   have ey:bits .or .u64 (mw.toNat:Int) ((k:Int)*72057594037927936)=(lw.toNat:Int):=by
    rw[<-cM,IntKind.wrap_u64];congr 1;omega
   have cA:=Od none (n - u) (c - u) (l.drop u) wr B cL.symm (by have:=HX.o;omega) (.inl (by rw[List.eq_nil_of_length_eq_zero (l:=l.drop u) (by have:=H0.o;omega)];rfl));have cB:u=c->Calls Tryz.prog 166 #[.slice none 0 0] wr fun e w'=>e=.returned (wv (wd (BJ (l.drop u))))/\w'=wr:=fun h=>Od none 0 0 (l.drop u) wr B (by omega) (by decide) (.inl (by rw[List.eq_nil_of_length_eq_zero (l:=l.drop u) (by omega)];rfl))
   rw[<-bz] at cA;rw[<-bz] at cB;obtain⟨⟨a,b,cc,d⟩,e1⟩:∃t,t=addM (full ks l (u / 8)) lw:=⟨_,rfl⟩;obtain⟨c1,ec⟩:∃x,x=cc ^^^ 255#64:=⟨_,rfl⟩;obtain⟨V0,eV⟩:∃x:V,x=⟨a,b,c1,d⟩:=⟨_,rfl⟩;obtain⟨⟨a2,b2,c2,d2⟩,e2⟩:∃t,t=rnds 4 V0:=⟨_,rfl⟩;obtain⟨q1,cj⟩:∃x,x=a2 ^^^ b2:=⟨_,rfl⟩;obtain⟨q2,ca⟩:∃x,x=q1 ^^^ c2:=⟨_,rfl⟩;obtain⟨q3,cb⟩:∃x,x=q2 ^^^ d2:=⟨_,rfl⟩;have bB:Hz ks l=q3:=by
    have hv:(stOf ks l).v=full ks l (u / 8):=by rw[FU,HJ.o,HN.o]
    rw[Hz,finS,<-cp,hv,<-e1,fin,<-ec,<-eV,<-e2,allX,<-cj,<-ca,<-cb]
   have x0:bits .xor .u64 (cc.toNat:Int) 255=(c1.toNat:Int):=by rw[ec];exact Bs cc 255#64
   have x1:bits .xor .u64 (a2.toNat:Int) (b2.toNat:Int)=(q1.toNat:Int):=by rw[cj];exact Bs _ _
   have x2:bits .xor .u64 (q1.toNat:Int) (c2.toNat:Int)=(q2.toNat:Int):=by rw[ca];exact Bs _ _
   have x3:bits .xor .u64 (q2.toNat:Int) (d2.toNat:Int)=(q3.toNat:Int):=by rw[cb];exact Bs _ _
   have ct:=Zx g (full ks l (u / 8)) lw wr HB.o;rw[<-e1] at ct;have cY:=I bB;clear bB;have EV:=I eV;clear eV;have E2:=I e2;clear e2;have cT:=I x0;clear x0;have eE:=I x1;clear x1;have ez:=I x2;clear x2;have ew:=I x3;clear x3;have bq:=I (Blk.lt HB.o);clear e1 ec cj ca cb cx bz cp cL cX ek HJ cn
   go_upto_region 7 with fail
   go_cut [] from 39 to 50 (fun wx=>Below B w wx/\Blk wx g 275 (DR ⟨a,b,cc,d⟩))
   case first=>
    have bn:u=c\/u<c:=by omega
    rcases bn with bn | bn
    ·have ei:=cB bn;clear cB
     clear cA;subst bn
     go_wp2_with (first
      |(go_at_call 166;refine Aj ei ?_;rintro w' hw;have hw:=hw.symm;subst hw;clear ei)
      |(go_at_call 167;refine Aj ct ?_;rintro v1 ⟨M,bb⟩;clear ct;have O:=I M;have aw:=I (Az HW.o bb (by have:=bq.o;have:=Z.o;omega) Z.o);clear M bb))
     go_meet
     exact⟨aw.o,O.o⟩
    ·clear cB
     have eJ:(u:Int)<(c:Int):=by omega
     go_wp2_with (first
      |(go_at_call 166;refine Aj cA ?_;rintro w' hw;have hw:=hw.symm;subst hw;clear cA)
      |(go_at_call 167;refine Aj ct ?_;rintro v1 ⟨M,bb⟩;clear ct;have O:=I M;have aw:=I (Az HW.o bb (by have:=bq.o;have:=Z.o;omega) Z.o);clear M bb))
     go_meet
     exact⟨aw.o,O.o⟩
   case rest=>
    obtain⟨cw,M⟩:=hcut;have O:=I M;clear M;have aw:=I cw;clear cw;have k2:wc.cell? ⟨g,2,none⟩=some (.int .u64 (cc.toNat:Int)):=by rw[O.o.cell];rfl
    have fz:=O.o.frozen;have x0:=cT.o;clear cT hand er cM ey cA cB ct
    go_upto_region 8 with fail
    refine wp_region_still_tail 8 (by kernel_rfl) (by kernel_rfl) ?_;simp only[List.take_succ_cons,List.take_zero,List.drop_succ_cons,List.drop_zero];change wpStill _ _ wc.drew _ _ _
    repeat still_step
    refine wpStill_nil ?_;change wpList _ _ _ _ _ wc.drew
    go_upto_region 9 with fail
    have ck:Blk (wc.setCell ⟨g,2,none⟩ (.int .u64 (c1.toNat:Int))).drew g 275 (DR V0):=by rw[EV.o];exact Blk.set O.o 2 (wv c1)
    have cf:Below B w (wc.setCell ⟨g,2,none⟩ (.int .u64 (c1.toNat:Int))).drew:=below_drewN (AI aw.o Z.o _) 1;generalize (wc.setCell ⟨g,2,none⟩ (.int .u64 (c1.toNat:Int))).drew=v2 at ck cf⊢;have cu:=I ck;clear ck;have cq:=I cf;clear cf;clear k2 fz x0 O aw bq HB HW
    go_wp2_with fail
    go_loopw [9] (fun iv wr=>∃i:Nat,i<=4/\iv=.int .i64 (i:Int)/\Below B w wr/\Blk wr g 275 (DR (rnds i V0))) (fun iv _=>4 - (intOf iv).toNat)
    case atStart=>exact⟨0,by decide,rfl,cq.o,cu.o⟩
    case round=>
     obtain⟨i,hi,rfl,ef,ea⟩:=hrel;clear cu cq;have cg:=I ea;clear ea;have cP:=I ef;clear ef
     by_cases hi4:i=4
     ·subst hi4
      have av:=cg.o;rw[<-E2.o] at av;have k0:wr.cell? ⟨g,0,none⟩=some (.int .u64 (a2.toNat:Int)):=by rw[av.cell];rfl
      have k1:wr.cell? ⟨g,1,none⟩=some (.int .u64 (b2.toNat:Int)):=by rw[av.cell];rfl
      have k2:wr.cell? ⟨g,2,none⟩=some (.int .u64 (c2.toNat:Int)):=by rw[av.cell];rfl
      have k3:wr.cell? ⟨g,3,none⟩=some (.int .u64 (d2.toNat:Int)):=by rw[av.cell];rfl
      have x1:=eE.o;have x2:=ez.o;have x3:=ew.o;clear av
      go_upto_region 13 with fail
      refine wp_region_still_lit (by kernel_rfl) (by kernel_rfl) ?_;change wpStill _ _ wr.drew _ _ _
      repeat still_step
      refine wpStill_nil ?_
      try change _ wr.drew
      go_wp2_with fail
      go_ret;exact⟨by rw[cY.o];rfl,by rw[<-EB.o];exact below_drewN cP.o 1⟩
     ·have j1:(i:Int)<4:=by omega
      have j2:(0:Int)<=(i:Int):=by omega
      have cr:=Py g (rnds i V0) wr cg.o;have bq:=I (Blk.lt cg.o);have ev:=I hi4;clear hi4
      go_wp2_with (go_at_call 168;refine Aj cr ?_;rintro v4 ⟨ed,cQ⟩;clear cr;have eo:=I ed;have et:=I cQ;clear ed cQ)
      go_roundw
      case rel=>exact⟨i+1,by have:=ev.o;omega,by go_num,Az cP.o et.o (by have:=bq.o;have:=Z.o;omega) Z.o,eo.o⟩
      case measure=>simp [intOf];omega
  ·have t1:(8:Int)<=(n:Int) - (u:Int):=by omega
   exact absurd H0.o (by omega)
theorem Wl (ks:Nat->UInt8) (A:Option Addr) (n c:Nat) (l:List UInt8) (w:World) (M:n=l.length) (O:n<=100000) (hc:n<=c) (hm:c<=maxLen) (Z:Rd w w.heap.size A (bvs l)) :
  Calls Tryz.prog 133 #[.agg (AR ks),.slice A n c] w fun e w'=>e=.returned (wv (Hz ks l))/\Below w.heap.size w w':=by
 cases A with
 |some x=>exact Tj ks x n c l w M O hc hm Z
 |none=>
  refine Tl ks n c l w M O hc hm ?_;rcases Z with h | ⟨b,o,h1,_,_⟩
  ·rw[M,List.map_eq_nil_iff.1 h];rfl
  ·cases h1
theorem Cp:(Tryz.prog.info? 5).map (fun i=>(i.zero,i.size,i.bytes))=some (some (.int .u8 0),1,1):=by kernel_rfl
theorem Hb (w:World) (t:TypeId) (cs:Array Value) (l:List Value) (h:cs.toList=l) (N:Nat) (M:w.heap.size=N):Rd (w.alloc (.cells cs t)) (N+1) (some ⟨N,0,none⟩) l:=by
 subst M;refine .inr ⟨w.heap.size,0,rfl,by omega,fun i u hu=>?_⟩;rw[Nat.zero_add,(Blk.new w t cs).cell i];rw[<-h] at hu
 simpa using hu
theorem Fb {w w':World} {base:Nat} {t:TypeId} {v:Value} {n:Nat} {xs:List Value} {o:Obj} (h:w.ownsRow base t 1 v n xs) (e:w'.heap=w.heap.push o):w'.ownsRow base t 1 v n xs:=by
 obtain⟨Z,h | ⟨g,cap,cur,hv,hg,M,hr⟩⟩:=h
 ·exact⟨Z,.inl h⟩
 ·refine⟨Z,.inr ⟨g,cap,cur,hv,hg,?_,hr⟩⟩
  have O:=Blk.lt (t:=t) (cs:=cur) M;rw[e,Array.getElem?_push_lt O,<-Array.getElem?_eq_getElem O];exact M
theorem QI {w:World} (t:TypeId) (M:List Value) (rows:List (List UInt8)) (cs:Array Value) (Z:cs.toList=M) (hl:M.length=rows.length)
  (h:∀i (h:i<rows.length),∃(O:Option Addr) (ci:Nat),M[i]? = some (.slice O (rows[i]).length ci)/\Rd w w.heap.size O (bvs rows[i])):Rows (w.alloc (.cells cs t)) (w.alloc (.cells cs t)).heap.size (some ⟨w.heap.size,0,none⟩) rows:=by
 refine⟨M,hl,(Hb w t cs M Z w.heap.size rfl).more (by simp),fun i hi=>?_⟩;obtain⟨O,ci,h1,h2⟩:=h i hi;exact⟨O,ci,h1,(h2.alloc Ag _).more (by simp)⟩
end Si
end Go.Proofs.YtfbnjcdhipplpaaGreat
