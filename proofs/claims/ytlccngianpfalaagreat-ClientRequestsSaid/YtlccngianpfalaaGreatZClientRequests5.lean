import Derived.Test.YtlccngianpfalaaGreatZClientRequests4
set_option maxHeartbeats 25600000
set_option maxRecDepth 100000
set_option linter.unusedVariables false
set_option linter.unusedSimpArgs false
namespace Go.Proofs.YtlccngianpfalaaGreat
namespace Si
open Go.RowKit Ae
def Rows (w:World) (B:Nat) (A:Option Addr) (rows:List (List UInt8)):Prop:=
 ∃vs:List Value,vs.length=rows.length/\Rd w B A vs/\∀i (h:i<rows.length),∃(Ai:Option Addr) (ci:Nat),vs[i]? = some (.slice Ai (rows[i]).length ci)/\Rd w B Ai (bvs rows[i])
theorem Rows.below {w w':World} {B:Nat} {A:Option Addr} {rows:List (List UInt8)} (h:Rows w B A rows) (M:Below B w w'):Rows w' B A rows:=by
 obtain⟨vs,O,Y,X⟩:=h;refine⟨vs,O,Y.below M,fun i hi=>?_⟩;obtain⟨Ai,ci,Z,h5⟩:=X i hi;exact⟨Ai,ci,Z,h5.below M⟩
def flat (rows:List (List UInt8)):List UInt8:=rows.flatten
theorem Qb (rows:List (List UInt8)) (i:Nat) (h:i<rows.length):flat (rows.take (i+1))=flat (rows.take i)++rows[i]:=by
 unfold flat;rw[List.take_succ_eq_append_getElem h,List.flatten_append];simp
theorem IG (rows:List (List UInt8)) (i:Nat):(flat (rows.take i)).length<=(flat rows).length:=by
 have h:rows=rows.take i++rows.drop i:=(List.take_append_drop i rows).symm;have M:flat rows=flat (rows.take i)++flat (rows.drop i):=by
  unfold flat;rw[<-List.flatten_append,List.take_append_drop]
 rw[M,List.length_append];omega
def LP (ks:Nat->UInt8) (l:List UInt8):Array Value:=stc (stOf ks l)
theorem Oj (g:Nat) (ks:Nat->UInt8) (l:List UInt8) (y:UInt8) (w:World) (M:l.length<100000) (hB:Blk w g 276 (LP ks l)) :
  Calls Tryz.prog 199 #[.pointer (some ⟨g,0,none⟩),.int .u8 (y.toNat:Int)] w fun e w'=>e=.returned (.tuple #[])/\Blk w' g 276 (LP ks (l++[y]))/\w.grownBy w' (some g):=by
 have h:=LO g (stOf ks l) y w (by rw[Xr];exact M) (UJ ks l) hB;rw[<-KK] at h;exact h
theorem Xx (g:Nat) (ks:Nat->UInt8) (l:List UInt8) (w:World) (hB:Blk w g 276 (LP ks l)) :
  Calls Tryz.prog 200 #[.pointer (some ⟨g,0,none⟩)] w fun e w'=>e=.returned (wv (Hc ks l))/\w.grownBy w' (some g):=
 VP g (stOf ks l) w (Nat.lt_of_lt_of_le (UJ ks l) (SS _ (by omega))) hB
theorem Qc (l:List UInt8) (j:Nat) (h:j<l.length):l.take (j+1)=l.take j++[l[j]]:=List.take_succ_eq_append_getElem h
theorem VQ (ks:Nat->UInt8) (A:Option Addr) (n c:Nat) (rows:List (List UInt8)) (w:World) (hn:n=rows.length) (aH:n<=100000) (hl:(flat rows).length<100000) (hr:Rows w w.heap.size A rows) :
  Calls Tryz.prog 185 #[.agg (AM ks),.slice A n c] w fun e w'=>e=.returned (wv (Hc ks (flat rows)))/\Below w.heap.size w w':=by
 obtain⟨vs,hv,ag,O⟩:=hr;obtain⟨B,eB⟩:=Aj (w.heap.size);rw[<-eB] at ag O;have EB:=I eB;have aO:=I ag;clear ag;have an:=I O;clear O;have HN:=I hn;clear hn;have e5:(n:Int)<=100000:=by omega
 clear aH;have HL:=I hl;clear hl;have HV:=I hv;clear hv;have hk:AM ks=#[.int .u8 ((ks 0).toNat:Int),.int .u8 ((ks 1).toNat:Int),.int .u8 ((ks 2).toNat:Int),.int .u8 ((ks 3).toNat:Int),.int .u8 ((ks 4).toNat:Int),.int .u8 ((ks 5).toNat:Int),.int .u8 ((ks 6).toNat:Int),.int .u8 ((ks 7).toNat:Int),.int .u8 ((ks 8).toNat:Int),.int .u8 ((ks 9).toNat:Int),.int .u8 ((ks 10).toNat:Int),.int .u8 ((ks 11).toNat:Int),.int .u8 ((ks 12).toNat:Int),.int .u8 ((ks 13).toNat:Int),.int .u8 ((ks 14).toNat:Int),.int .u8 ((ks 15).toNat:Int)]:=rfl;have cb:=Qa ks;rw[hk] at cb⊢;have hs:stc ⟨start ks,0,0⟩=#[wv (start ks).a,wv (start ks).b,wv (start ks).c,wv (start ks).d,.int .u64 0,.int .u64 0]:=rfl;rw[hs] at cb;have af:LP ks []=#[wv (start ks).a,wv (start ks).b,wv (start ks).c,wv (start ks).d,.int .u64 0,.int .u64 0]:=rfl;obtain⟨p0,e0⟩:∃x,x=(start ks).a:=⟨_,rfl⟩;obtain⟨p1,e1⟩:∃x,x=(start ks).b:=⟨_,rfl⟩;obtain⟨p2,e2⟩:∃x,x=(start ks).c:=⟨_,rfl⟩;obtain⟨p3,e3⟩:∃x,x=(start ks).d:=⟨_,rfl⟩;rw[<-e0,<-e1,<-e2,<-e3] at af cb;have aE:=I af;clear af;clear hk hs e0 e1 e2 e3;go_enter Tryz.func185,Tryz.ntmps185
 go_upto_region 2 with(go_at_call 198;refine Ah (cb _) ?_;rintro w1 aw;have aA:Below w.heap.size w w1:=((Below.refl w.heap.size w).alloc Af _).trans (aw.mono (by simp));have ad:=I aA;clear aA aw cb)
 clear eB;obtain⟨g,eg⟩:=Aj (w1.heap.size);have ao:Blk (w1.alloc (.cells #[.int .u64 (p0.toNat:Int),.int .u64 (p1.toNat:Int),.int .u64 (p2.toNat:Int),.int .u64 (p3.toNat:Int),.int .u64 0,.int .u64 0] 276)) g 276 (LP ks []):=Blk.new_of w1 g _ _ _ aE.o.symm eg.symm;have ak:Below B w (w1.alloc (.cells #[.int .u64 (p0.toNat:Int),.int .u64 (p1.toNat:Int),.int .u64 (p2.toNat:Int),.int .u64 (p3.toNat:Int),.int .u64 0,.int .u64 0] 276)):=by rw[EB.o];exact ad.o.alloc ad.o.size _
 have hg:B<=g:=by rw[eg,EB.o];exact ad.o.size
 rw[<-eg];generalize w1.alloc (.cells #[.int .u64 (p0.toNat:Int),.int .u64 (p1.toNat:Int),.int .u64 (p2.toNat:Int),.int .u64 (p3.toNat:Int),.int .u64 0,.int .u64 0] 276)=w2 at ao ak⊢;have ax:=I ao;clear ao;have aD:=I ak;clear ak;have ab:=I hg;clear hg;clear aE ad eg
 go_wp2_with fail
 go_loopw [14] (fun iv wr=>∃i:Nat,i<=n/\iv=.int .i64 (i:Int)/\Below B w wr/\Blk wr g 276 (LP ks (flat (rows.take i)))) (fun iv _=>n - (intOf iv).toNat)
 case atStart=>exact⟨0,Nat.zero_le _,rfl,aD.o,by rw[List.take_zero];exact ax.o⟩
 case round=>
  clear ax aD;obtain⟨i,hi,rfl,hW,hB⟩:=hrel;have HW:=I hW;clear hW;have HB:=I hB;clear hB
  by_cases hx:i=n
  ·have he:rows.take i=rows:=List.take_of_length_le (by have:=HN.o;omega)
   have ce:=Xx g ks (flat (rows.take i)) wr HB.o;rw[he] at ce;subst hx;clear he
   go_wp2_with (go_at_call 200;refine Ah ce ?_;rintro w3 az;clear ce;have aP:=I az;clear az)
   go_ret;exact⟨rfl,by rw[<-EB.o];exact Ak HW.o aP.o (by have:=HW.o.size;have:=Blk.lt HB.o;have:=ab.o;omega) ab.o⟩
  ·have aS:i<n:=by omega
   have ae:i<rows.length:=by have:=HN.o;omega
   have e1:(i:Int)<(n:Int):=by omega
   have e2:(0:Int)<=(i:Int):=by omega
   obtain⟨row,aa⟩:∃r,r=rows[i]:=⟨_,rfl⟩;obtain⟨pre,Z⟩:∃r,r=flat (rows.take i):=⟨_,rfl⟩;have X:flat (rows.take (i+1))=pre++row:=by rw[Z,aa];exact Qb rows i ae
   have hlen:(pre++row).length<100000:=by rw[<-X];exact Nat.lt_of_le_of_lt (IG rows (i+1)) HL.o
   obtain⟨Ai,ci,ah,al⟩:=an.o i ae;rw[<-aa] at ah al;have aj:=HB.o;rw[<-Z] at aj;have aG:=I aj;clear aj HB;obtain⟨b,o,rfl,aK,Y⟩:=aO.o.at_ ah;obtain⟨m,em⟩:=Aj (row.length);rw[<-em] at Y;have hc:wr.cell? ⟨b,o+i,none⟩=some (.slice Ai m ci):=(HW.o.cell (p:=⟨b,o+i,none⟩) aK).trans Y;have aQ:=I X;clear X;have aR:=I al;clear al;have HX:=I hx;clear hx;have HI:=I hi;clear hi;have e6:(m:Int)<100000:=by have:=hlen;rw[List.length_append] at this;omega
   have HM:=I em;clear em;have aM:=I hlen;clear hlen;have aV:=I ae;clear ah Y aa Z ae
   go_wp2_with fail
   go_loopw [20] (fun jv wx=>∃j:Nat,j<=m/\jv=.int .i64 (j:Int)/\Below B w wx/\Blk wx g 276 (LP ks (pre++row.take j))) (fun jv _=>m - (intOf jv).toNat)
   case atStart=>exact⟨0,Nat.zero_le _,rfl,HW.o,by rw[List.take_zero,List.append_nil];exact aG.o⟩
   case round=>
    clear hc HW aG;obtain⟨j,hj,rfl,aF,ay⟩:=hrel;have ai:=I aF;clear aF;have au:=I ay;clear ay
    by_cases hy:j=m
    ·have he:row.take j=row:=List.take_of_length_le (by have:=HM.o;omega)
     have HE:=I he;clear he;subst hy
     go_wp2_with fail
     go_roundw
     case rel=>exact⟨i+1,by omega,by go_num,ai.o,by rw[aQ.o];have:=au.o;rw[HE.o] at this;exact this⟩
     case measure=>simp [intOf];omega
    ·have aU:j<m:=by omega
     have ar:j<row.length:=by have:=HM.o;omega
     have f1:(j:Int)<(m:Int):=by omega
     have f2:(0:Int)<=(j:Int):=by omega
     obtain⟨b2,o2,rfl,aN,M⟩:=aR.o.at_ (DR ar);obtain⟨y,ey⟩:=Aj (row[j]);rw[<-ey] at M;have aT:wr.cell? ⟨b2,o2+j,none⟩=some (.int .u8 (y.toNat:Int)):=(ai.o.cell (p:=⟨b2,o2+j,none⟩) aN).trans M;have aC:(pre++row.take j)++[y]=pre++row.take (j+1):=by rw[Qc row j ar,<-ey,List.append_assoc]
     have ca:=Oj g ks (pre++row.take j) y wr (by have:=aM.o;rw[List.length_append] at this⊢;have:(row.take j).length<=row.length:=by{rw[List.length_take];omega};omega) au.o;rw[aC] at ca;have HY:=I hy;clear hy;have HJ:=I hj;clear hj;have aI:=I (Blk.lt au.o);clear M ey aC ar
     go_wp2_with (go_at_call 199;refine Ah ca ?_;rintro w4 ⟨av,aB⟩;clear ca;have aJ:=I av;have aL:=I aB;clear av aB)
     go_roundw
     case rel=>exact⟨j+1,by omega,by go_num,Ak ai.o aL.o (by have:=aI.o;have:=ab.o;omega) ab.o,aJ.o⟩
     case measure=>simp [intOf];omega
theorem Qd (n:Int):bits .and .i64 n 255=n % 256:=by
 have M:(BitVec.ofInt 64 255).toNat=2 ^ 8 - 1:=by decide
 have key:(BitVec.ofInt 64 n &&& BitVec.ofInt 64 255).toNat=(n % ((2 ^ 64:Nat):Int)).toNat % 2 ^ 8:=by
  rw[BitVec.toNat_and,BitVec.toNat_ofInt,M,Nat.and_two_pow_sub_one_eq_mod]
 show IntKind.i64.wrap ((BitVec.ofInt 64 n &&& BitVec.ofInt 64 255).toNat:Nat)=n % 256;rw[key,IntKind.wrap_i64];omega
theorem Rd.drop {w:World} {B:Nat} {x:Addr} {l:List UInt8} (h:Rd w B (some x) (bvs l)) (p:Nat):Rd w B (some (x.add p)) (bvs (l.drop p)):=by
 rcases h with h | ⟨b,o,M,X,O⟩
 ·left
  have:l = []:=List.map_eq_nil_iff.1 h;rw[this];simp [bvs]
 ·injection M with M
  subst M;rw[addr_add];refine .inr ⟨b,o+p,rfl,X,fun i u hu=>?_⟩;have:(bvs l)[p+i]? = some u:=by
   rw[<-hu];simp [bvs,List.getElem?_drop]
  have:=O _ _ this
  rwa [Nat.add_assoc]
theorem Rd.take {w:World} {B:Nat} {A:Option Addr} {l:List UInt8} (h:Rd w B A (bvs l)) (k:Nat):Rd w B A (bvs (l.take k)):=by
 rcases h with h | ⟨b,o,M,X,O⟩
 ·left
  have:l = []:=List.map_eq_nil_iff.1 h;rw[this];simp [bvs]
 ·refine .inr ⟨b,o,M,X,fun i u hu=>O i u ?_⟩
  rw[<-hu];have Y:i<k:=by
   rcases Nat.lt_or_ge i k with g | g
   ·exact g
   ·rw[List.getElem?_eq_none (by simp [bvs];omega)] at hu;cases hu
  simp [bvs,Y]
theorem rd_key {w:World} {B:Nat} {t:TypeId} {ks:Nat->UInt8} (h:Blk w B t (AM ks)) (o:Nat) (O:o+8<=16):Rd w (B+1) (some ⟨B,o,none⟩) (bvs ((List.range 8).map fun i=>ks (o+i))):=by
 refine .inr ⟨B,o,rfl,by omega,fun i u hu=>?_⟩;have M:i<8:=by
  rcases Nat.lt_or_ge i 8 with g | g
  ·exact g
  ·rw[List.getElem?_eq_none (by simp [bvs];omega)] at hu;cases hu
 rw[h.cell,FM _ _ (by omega)];rw[<-hu];simp [bvs,M]
theorem UL {w:World} {B:Nat} {t:TypeId} {ks:Nat->UInt8} (h:Blk w B t (AM ks)):Calls Tryz.prog 119 #[.slice (some ⟨B,0,none⟩) 8 16] w fun e w'=>e=.returned (wv (kA ks))/\w'=w:=by
 have M:=rd_key h 0 (by decide);have:=LN (some ⟨B,0,none⟩) 8 16 _ w (B+1) (by simp) (by decide) M;have e:((List.range 8).map fun i=>ks (0+i))=(List.range 8).map ks:=by simp
 rw[e] at this;exact this
theorem UM {w:World} {B:Nat} {t:TypeId} {ks:Nat->UInt8} (h:Blk w B t (AM ks)):Calls Tryz.prog 119 #[.slice (some ⟨B,8,none⟩) 8 8] w fun e w'=>e=.returned (wv (kB ks))/\w'=w:=
 LN (some ⟨B,8,none⟩) 8 8 _ w (B+1) (by simp) (by decide) (rd_key h 8 (by decide))
theorem Qe (ks:Nat->UInt8) (l:List UInt8):bits .or .u64 (BQ (l.drop (8*(l.length / 8))):Nat) (IntKind.u64.wrap (((l.length % 256:Nat):Int)*72057594037927936))=((Oh (stOf ks l)).toNat:Int):=by
 have M:BQ (l.drop (8*(l.length / 8)))<72057594037927936:=PV (by rw[List.length_drop];omega);have h:=MW (BQ (l.drop (8*(l.length / 8)))) (l.length % 256) M;rw[IntKind.wrap_u64,h,Nat.mod_mod];rw[KO _ (by rw[FP];exact M),FP]
def stcV (ks:Nat->UInt8):Array Value:=DJ (start ks)
theorem Qf (ks:Nat->UInt8) (x:Addr) (n c:Nat) (l:List UInt8) (w:World) (hn:n=l.length) (hl:n<=100000) (hc:n<=c) (hm:c<=maxLen) (hr:Rd w w.heap.size (some x) (bvs l)) :
  Calls Tryz.prog 75 #[.agg (AM ks),.slice (some x) n c] w fun e w'=>e=.returned (wv (Hc ks l))/\Below w.heap.size w w':=by
 obtain⟨B,eB⟩:=Aj (w.heap.size);rw[<-eB] at hr;have EB:=I eB;have HR:=I hr;clear hr;have HN:=I hn;clear hn;have aX:AM ks=#[.int .u8 ((ks 0).toNat:Int),.int .u8 ((ks 1).toNat:Int),.int .u8 ((ks 2).toNat:Int),.int .u8 ((ks 3).toNat:Int),.int .u8 ((ks 4).toNat:Int),.int .u8 ((ks 5).toNat:Int),.int .u8 ((ks 6).toNat:Int),.int .u8 ((ks 7).toNat:Int),.int .u8 ((ks 8).toNat:Int),.int .u8 ((ks 9).toNat:Int),.int .u8 ((ks 10).toNat:Int),.int .u8 ((ks 11).toNat:Int),.int .u8 ((ks 12).toNat:Int),.int .u8 ((ks 13).toNat:Int),.int .u8 ((ks 14).toNat:Int),.int .u8 ((ks 15).toNat:Int)]:=rfl;have aF:stcV ks=#[wv (start ks).a,wv (start ks).b,wv (start ks).c,wv (start ks).d]:=rfl;obtain⟨p,ep⟩:∃x,x=kA ks:=⟨_,rfl⟩;obtain⟨q,eq⟩:∃x,x=kB ks:=⟨_,rfl⟩;obtain⟨v0,e0⟩:∃x,x=0x736f6d6570736575#64 ^^^ p:=⟨_,rfl⟩;obtain⟨v1,e1⟩:∃x,x=0x646f72616e646f6d#64 ^^^ q:=⟨_,rfl⟩;obtain⟨v2,e2⟩:∃x,x=0x6c7967656e657261#64 ^^^ p:=⟨_,rfl⟩;obtain⟨v3,e3⟩:∃x,x=0x7465646279746573#64 ^^^ q:=⟨_,rfl⟩;have x0:bits .xor .u64 8317987319222330741 (p.toNat:Int)=(v0.toNat:Int):=by rw[e0];exact BD 0x736f6d6570736575#64 p
 have x1:bits .xor .u64 7237128888997146477 (q.toNat:Int)=(v1.toNat:Int):=by rw[e1];exact BD 0x646f72616e646f6d#64 q
 have x2:bits .xor .u64 7816392313619706465 (p.toNat:Int)=(v2.toNat:Int):=by rw[e2];exact BD 0x6c7967656e657261#64 p
 have x3:bits .xor .u64 8387220255154660723 (q.toNat:Int)=(v3.toNat:Int):=by rw[e3];exact BD 0x7465646279746573#64 q
 have hs:stcV ks=#[.int .u64 (v0.toNat:Int),.int .u64 (v1.toNat:Int),.int .u64 (v2.toNat:Int),.int .u64 (v3.toNat:Int)]:=by
  rw[aF,e0,e1,e2,e3,ep,eq];rfl
 have HS:=I hs;clear hs;obtain⟨kz,ai⟩:=Aj (AM ks);rw[<-ai];have bf:=I ai;have hK:Blk (w.alloc (.cells kz 157)) B 157 (AM ks):=Blk.new_of w B _ _ _ ai eB.symm;have hW:Below B w (w.alloc (.cells kz 157)):=by rw[eB];exact(Below.refl _ w).alloc Af _
 clear aF e0 e1 e2 e3;have cA:=UL (hK.drewN 1);have cB:=UM (hK.drewN 1);rw[<-ep] at cA;rw[<-eq] at cB;have HW:=I hW;clear hW;clear aX ai ep eq hK;go_enter Tryz.func75,Tryz.ntmps75
 go_upto_region 1 with fail
 rw[<-eB];clear eB;have HM:=I hm;clear hm;generalize w.alloc (.cells kz 157)=w1 at cA cB HW⊢;refine wp_region_still_lit (by kernel_rfl) (by kernel_rfl) ?_;change wpStill _ _ w1.drew _ _ _
 repeat still_step
 still_call cA
 repeat still_step
 still_call cB
 repeat still_step
 refine wpStill_nil ?_
 try change _ w1.drew
 clear cA cB
 go_upto_region 3 with fail
 obtain⟨g,eg⟩:=Aj (w1.heap.size);have ao:Blk (w1.alloc (.cells #[.int .u64 (v0.toNat:Int),.int .u64 (v1.toNat:Int),.int .u64 (v2.toNat:Int),.int .u64 (v3.toNat:Int)] 218)).drew g 218 (DJ (full ks l (0 / 8))):=Blk.drewN (Blk.new_of w1 g _ _ _ HS.o.symm eg.symm) 1;have an:Below B w (w1.alloc (.cells #[.int .u64 (v0.toNat:Int),.int .u64 (v1.toNat:Int),.int .u64 (v2.toNat:Int),.int .u64 (v3.toNat:Int)] 218)).drew:=below_drewN (HW.o.alloc (by rw[EB.o];exact HW.o.size) _) 1;have hg:B<=g:=by rw[eg,EB.o];exact HW.o.size
 rw[<-eg];generalize (w1.alloc (.cells #[.int .u64 (v0.toNat:Int),.int .u64 (v1.toNat:Int),.int .u64 (v2.toNat:Int),.int .u64 (v3.toNat:Int)] 218)).drew=w2 at ao an⊢;have aJ:=I ao;clear ao;have aL:=I an;clear an;have X:=I hg;clear hg;clear HS HW eg x0 x1 x2 x3;have l5:(n:Int)<=100000:=by omega
 have c0:(n:Int)<=(c:Int):=by omega
 have bd:c<=9223372036854775807:=by have:=HM.o;unfold maxLen at this;omega
 have ba:(c:Int)<=9223372036854775807:=by omega
 go_wp2_with fail
 go_loopw [8] (fun iv wr=>∃u:Nat,u<=n/\u % 8=0/\iv=.int .i64 (u:Int)/\Below B w wr/\Blk wr g 218 (DJ (full ks l (u / 8)))) (fun iv _=>n - (intOf iv).toNat)
 case atStart=>exact⟨0,Nat.zero_le _,rfl,rfl,aL.o,aJ.o⟩
 case round=>
  clear aJ aL;obtain⟨u,hu,aG,rfl,hW,hB⟩:=hrel;have HW:=I hW;clear hW;have HB:=I hB;clear hB;have ag:=I aG;clear aG;have d0:(0:Int)<=(u:Int):=by omega
  have d1:(u:Int)<=(n:Int):=by omega
  by_cases hx:n - u<8
  ·have hj:u / 8=n / 8:=by have:=ag.o;omega
   have t1:(n:Int) - (u:Int)<8:=by omega
   have HX:=I hx;clear hx;have HJ:=I hj;clear hj;obtain⟨k,ek⟩:=Aj (n % 256);have hand:bits .and .i64 (n:Int) 255=(k:Int):=by rw[Qd,ek];omega
   have k1:(k:Int)<256:=by omega
   have k2:(0:Int)<=(k:Int):=by omega
   have aT:IntKind.u64.wrap (k:Int)=(k:Int):=by rw[IntKind.wrap_u64];omega
   have ah:u=8*(l.length / 8):=by have:=ag.o;have:=HN.o;have:=HX.o;omega
   have aO:(l.drop u).length=n - u:=by rw[List.length_drop,HN.o]
   obtain⟨mw,Y⟩:∃m,m=wd (BQ (l.drop u)):=⟨_,rfl⟩;obtain⟨lw,au⟩:∃m,m=Oh (stOf ks l):=⟨_,rfl⟩;have aA:mw.toNat=BQ (l.drop u):=by rw[Y];exact Jq _ (JR (by have:=HX.o;omega))
   have aB:bits .or .u64 (mw.toNat:Int) (IntKind.u64.wrap ((k:Int)*72057594037927936))=(lw.toNat:Int):=by
    have h:=Qe ks l;rw[<-ah,<-aA,<-HN.o,<-ek,<-au] at h;exact h
   have aS:bits .or .u64 (mw.toNat:Int) ((k:Int)*72057594037927936)=(lw.toNat:Int):=by
    rw[<-aB,IntKind.wrap_u64];congr 1;omega
   have cA:=LN (some (x.add u)) (n - u) (c - u) (l.drop u) wr B aO.symm (by have:=HX.o;omega) (Rd.drop (HR.o.below HW.o) u);have cB:u=c->Calls Tryz.prog 119 #[.slice (some x) 0 0] wr fun e w'=>e=.returned (wv (wd (BQ (l.drop u))))/\w'=wr:=fun h=>LN (some x) 0 0 (l.drop u) wr B (by omega) (by decide) (.inl (by rw[List.eq_nil_of_length_eq_zero (l:=l.drop u) (by omega)];rfl))
   rw[<-Y] at cA;rw[<-Y] at cB;obtain⟨⟨a,b,cc,d⟩,e1⟩:∃t,t=addM (full ks l (u / 8)) lw:=⟨_,rfl⟩;obtain⟨c1,ec⟩:∃x,x=cc ^^^ 255#64:=⟨_,rfl⟩;obtain⟨V0,eV⟩:∃x:V,x=⟨a,b,c1,d⟩:=⟨_,rfl⟩;obtain⟨⟨a2,b2,c2,d2⟩,e2⟩:∃t,t=rnds 4 V0:=⟨_,rfl⟩;obtain⟨q1,al⟩:∃x,x=a2 ^^^ b2:=⟨_,rfl⟩;obtain⟨q2,ak⟩:∃x,x=q1 ^^^ c2:=⟨_,rfl⟩;obtain⟨q3,ax⟩:∃x,x=q2 ^^^ d2:=⟨_,rfl⟩;have aj:Hc ks l=q3:=by
    have hv:(stOf ks l).v=full ks l (u / 8):=by rw[FP,HJ.o,HN.o]
    rw[Hc,finS,<-au,hv,<-e1,fin,<-ec,<-eV,<-e2,allX,<-al,<-ak,<-ax]
   have x0:bits .xor .u64 (cc.toNat:Int) 255=(c1.toNat:Int):=by rw[ec];exact BD cc 255#64
   have x1:bits .xor .u64 (a2.toNat:Int) (b2.toNat:Int)=(q1.toNat:Int):=by rw[al];exact BD _ _
   have x2:bits .xor .u64 (q1.toNat:Int) (c2.toNat:Int)=(q2.toNat:Int):=by rw[ak];exact BD _ _
   have x3:bits .xor .u64 (q2.toNat:Int) (d2.toNat:Int)=(q3.toNat:Int):=by rw[ax];exact BD _ _
   have ct:=VO g (full ks l (u / 8)) lw wr HB.o;rw[<-e1] at ct;have aC:=I aj;clear aj;have EV:=I eV;clear eV;have E2:=I e2;clear e2;have aN:=I x0;clear x0;have aV:=I x1;clear x1;have aY:=I x2;clear x2;have aW:=I x3;clear x3;have ab:=I (Blk.lt HB.o);clear e1 ec al ak ax aA Y au aO ah ek HJ ag
   go_upto_region 7 with fail
   go_cut [] from 39 to 50 (fun wx=>Below B w wx/\Blk wx g 218 (DJ ⟨a,b,cc,d⟩))
   case first=>
    have ae:u=c\/u<c:=by omega
    rcases ae with ae | ae
    ·have aH:=cB ae;clear cB
     clear cA;subst ae
     go_wp2_with (first
      |(go_at_call 119;refine Ah aH ?_;rintro w' hw;have hw:=hw.symm;subst hw;clear aH)
      |(go_at_call 120;refine Ah ct ?_;rintro v1 ⟨M,Z⟩;clear ct;have O:=I M;have aa:=I (Ak HW.o Z (by have:=ab.o;have:=X.o;omega) X.o);clear M Z))
     go_meet
     exact⟨aa.o,O.o⟩
    ·clear cB
     have bb:(u:Int)<(c:Int):=by omega
     go_wp2_with (first
      |(go_at_call 119;refine Ah cA ?_;rintro w' hw;have hw:=hw.symm;subst hw;clear cA)
      |(go_at_call 120;refine Ah ct ?_;rintro v1 ⟨M,Z⟩;clear ct;have O:=I M;have aa:=I (Ak HW.o Z (by have:=ab.o;have:=X.o;omega) X.o);clear M Z))
     go_meet
     exact⟨aa.o,O.o⟩
   case rest=>
    obtain⟨aK,M⟩:=hcut;have O:=I M;clear M;have aa:=I aK;clear aK;have k2:wc.cell? ⟨g,2,none⟩=some (.int .u64 (cc.toNat:Int)):=by rw[O.o.cell];rfl
    have fz:=O.o.frozen;have x0:=aN.o;clear aN hand aT aB aS cA cB ct
    go_upto_region 8 with fail
    refine wp_region_still_tail 8 (by kernel_rfl) (by kernel_rfl) ?_;simp only[List.take_succ_cons,List.take_zero,List.drop_succ_cons,List.drop_zero];change wpStill _ _ wc.drew _ _ _
    repeat still_step
    refine wpStill_nil ?_;change wpList _ _ _ _ _ wc.drew
    go_upto_region 9 with fail
    have ar:Blk (wc.setCell ⟨g,2,none⟩ (.int .u64 (c1.toNat:Int))).drew g 218 (DJ V0):=by rw[EV.o];exact Blk.set O.o 2 (wv c1)
    have aw:Below B w (wc.setCell ⟨g,2,none⟩ (.int .u64 (c1.toNat:Int))).drew:=below_drewN (AY aa.o X.o _) 1;generalize (wc.setCell ⟨g,2,none⟩ (.int .u64 (c1.toNat:Int))).drew=v2 at ar aw⊢;have aQ:=I ar;clear ar;have aE:=I aw;clear aw;clear k2 fz x0 O aa ab HB HW
    go_wp2_with fail
    go_loopw [9] (fun iv wr=>∃i:Nat,i<=4/\iv=.int .i64 (i:Int)/\Below B w wr/\Blk wr g 218 (DJ (rnds i V0))) (fun iv _=>4 - (intOf iv).toNat)
    case atStart=>exact⟨0,by decide,rfl,aE.o,aQ.o⟩
    case round=>
     obtain⟨i,hi,rfl,aP,az⟩:=hrel;clear aQ aE;have av:=I az;clear az;have aI:=I aP;clear aP
     by_cases hi4:i=4
     ·subst hi4
      have ad:=av.o;rw[<-E2.o] at ad;have k0:wr.cell? ⟨g,0,none⟩=some (.int .u64 (a2.toNat:Int)):=by rw[ad.cell];rfl
      have k1:wr.cell? ⟨g,1,none⟩=some (.int .u64 (b2.toNat:Int)):=by rw[ad.cell];rfl
      have k2:wr.cell? ⟨g,2,none⟩=some (.int .u64 (c2.toNat:Int)):=by rw[ad.cell];rfl
      have k3:wr.cell? ⟨g,3,none⟩=some (.int .u64 (d2.toNat:Int)):=by rw[ad.cell];rfl
      have x1:=aV.o;have x2:=aY.o;have x3:=aW.o;clear ad
      go_upto_region 13 with fail
      refine wp_region_still_lit (by kernel_rfl) (by kernel_rfl) ?_;change wpStill _ _ wr.drew _ _ _
      repeat still_step
      refine wpStill_nil ?_
      try change _ wr.drew
      go_wp2_with fail
      go_ret;exact⟨by rw[aC.o];rfl,by rw[<-EB.o];exact below_drewN aI.o 1⟩
     ·have j1:(i:Int)<4:=by omega
      have j2:(0:Int)<=(i:Int):=by omega
      have cr:=MX g (rnds i V0) wr av.o;have ab:=I (Blk.lt av.o);have aU:=I hi4;clear hi4
      go_wp2_with (go_at_call 121;refine Ah cr ?_;rintro v4 ⟨ay,aD⟩;clear cr;have aR:=I ay;have aZ:=I aD;clear ay aD)
      go_roundw
      case rel=>exact⟨i+1,by have:=aU.o;omega,by go_num,Ak aI.o aZ.o (by have:=ab.o;have:=X.o;omega) X.o,aR.o⟩
      case measure=>simp [intOf];omega
  ·have t1:(8:Int)<=(n:Int) - (u:Int):=by omega
   have t2:(u:Int)+8<=(n:Int):=by omega
   have t3:u+8<=n:=by omega
   have HX:=I hx;clear hx;have hj:(u+8) / 8=u / 8+1:=by omega
   have ah:u=8*(u / 8):=by have:=ag.o;omega
   have aM:((l.drop u).take 8).length=8:=by rw[List.length_take,List.length_drop,<-HN.o];omega
   have cA:=LN (some (x.add u)) 8 (c - u) ((l.drop u).take 8) wr B aM.symm (by decide) (Rd.take (Rd.drop (HR.o.below HW.o) u) 8);obtain⟨mw,Y⟩:∃m,m=wd (BQ ((l.drop u).take 8)):=⟨_,rfl⟩;rw[<-Y] at cA;have af:addM (full ks l (u / 8)) mw=full ks l ((u+8) / 8):=by rw[hj,full,<-ah,<-Y]
   have ct:=VO g (full ks l (u / 8)) mw wr HB.o;rw[af] at ct;have ab:=I (Blk.lt HB.o);clear hj ah aM Y af
   go_wp2_with (first
    |(go_at_call 119;refine Ah cA ?_;rintro w' hw;have hw:=hw.symm;subst hw;clear cA)
    |(go_at_call 120;refine Ah ct ?_;rintro v1 ⟨M,Z⟩;clear ct;have O:=I M;have aa:=I (Ak HW.o Z (by have:=ab.o;have:=X.o;omega) X.o);clear M Z))
   go_roundw
   case rel=>exact⟨u+8,by omega,by have:=ag.o;omega,by go_num,aa.o,O.o⟩
   case measure=>simp [intOf];omega
theorem Qg (ks:Nat->UInt8) (n c:Nat) (l:List UInt8) (w:World) (hn:n=l.length) (hl:n<=100000) (hc:n<=c) (hm:c<=maxLen) (h0:n=0) :
  Calls Tryz.prog 75 #[.agg (AM ks),.slice none n c] w fun e w'=>e=.returned (wv (Hc ks l))/\Below w.heap.size w w':=by
 obtain⟨B,eB⟩:=Aj (w.heap.size);have EB:=I eB;have H0:=I h0;clear h0;have HN:=I hn;clear hn;have aV:AM ks=#[.int .u8 ((ks 0).toNat:Int),.int .u8 ((ks 1).toNat:Int),.int .u8 ((ks 2).toNat:Int),.int .u8 ((ks 3).toNat:Int),.int .u8 ((ks 4).toNat:Int),.int .u8 ((ks 5).toNat:Int),.int .u8 ((ks 6).toNat:Int),.int .u8 ((ks 7).toNat:Int),.int .u8 ((ks 8).toNat:Int),.int .u8 ((ks 9).toNat:Int),.int .u8 ((ks 10).toNat:Int),.int .u8 ((ks 11).toNat:Int),.int .u8 ((ks 12).toNat:Int),.int .u8 ((ks 13).toNat:Int),.int .u8 ((ks 14).toNat:Int),.int .u8 ((ks 15).toNat:Int)]:=rfl;have aD:stcV ks=#[wv (start ks).a,wv (start ks).b,wv (start ks).c,wv (start ks).d]:=rfl;obtain⟨p,ep⟩:∃x,x=kA ks:=⟨_,rfl⟩;obtain⟨q,eq⟩:∃x,x=kB ks:=⟨_,rfl⟩;obtain⟨v0,e0⟩:∃x,x=0x736f6d6570736575#64 ^^^ p:=⟨_,rfl⟩;obtain⟨v1,e1⟩:∃x,x=0x646f72616e646f6d#64 ^^^ q:=⟨_,rfl⟩;obtain⟨v2,e2⟩:∃x,x=0x6c7967656e657261#64 ^^^ p:=⟨_,rfl⟩;obtain⟨v3,e3⟩:∃x,x=0x7465646279746573#64 ^^^ q:=⟨_,rfl⟩;have x0:bits .xor .u64 8317987319222330741 (p.toNat:Int)=(v0.toNat:Int):=by rw[e0];exact BD 0x736f6d6570736575#64 p
 have x1:bits .xor .u64 7237128888997146477 (q.toNat:Int)=(v1.toNat:Int):=by rw[e1];exact BD 0x646f72616e646f6d#64 q
 have x2:bits .xor .u64 7816392313619706465 (p.toNat:Int)=(v2.toNat:Int):=by rw[e2];exact BD 0x6c7967656e657261#64 p
 have x3:bits .xor .u64 8387220255154660723 (q.toNat:Int)=(v3.toNat:Int):=by rw[e3];exact BD 0x7465646279746573#64 q
 have hs:stcV ks=#[.int .u64 (v0.toNat:Int),.int .u64 (v1.toNat:Int),.int .u64 (v2.toNat:Int),.int .u64 (v3.toNat:Int)]:=by
  rw[aD,e0,e1,e2,e3,ep,eq];rfl
 have HS:=I hs;clear hs;obtain⟨kz,af⟩:=Aj (AM ks);rw[<-af];have bb:=I af;have hK:Blk (w.alloc (.cells kz 157)) B 157 (AM ks):=Blk.new_of w B _ _ _ af eB.symm;have hW:Below B w (w.alloc (.cells kz 157)):=by rw[eB];exact(Below.refl _ w).alloc Af _
 clear aD e0 e1 e2 e3;have cA:=UL (hK.drewN 1);have cB:=UM (hK.drewN 1);rw[<-ep] at cA;rw[<-eq] at cB;have HW:=I hW;clear hW;clear aV af ep eq hK;go_enter Tryz.func75,Tryz.ntmps75
 go_upto_region 1 with fail
 rw[<-eB];clear eB;have HM:=I hm;clear hm;generalize w.alloc (.cells kz 157)=w1 at cA cB HW⊢;refine wp_region_still_lit (by kernel_rfl) (by kernel_rfl) ?_;change wpStill _ _ w1.drew _ _ _
 repeat still_step
 still_call cA
 repeat still_step
 still_call cB
 repeat still_step
 refine wpStill_nil ?_
 try change _ w1.drew
 clear cA cB
 go_upto_region 3 with fail
 obtain⟨g,eg⟩:=Aj (w1.heap.size);have ak:Blk (w1.alloc (.cells #[.int .u64 (v0.toNat:Int),.int .u64 (v1.toNat:Int),.int .u64 (v2.toNat:Int),.int .u64 (v3.toNat:Int)] 218)).drew g 218 (DJ (full ks l (0 / 8))):=Blk.drewN (Blk.new_of w1 g _ _ _ HS.o.symm eg.symm) 1;have aj:Below B w (w1.alloc (.cells #[.int .u64 (v0.toNat:Int),.int .u64 (v1.toNat:Int),.int .u64 (v2.toNat:Int),.int .u64 (v3.toNat:Int)] 218)).drew:=below_drewN (HW.o.alloc (by rw[EB.o];exact HW.o.size) _) 1;have hg:B<=g:=by rw[eg,EB.o];exact HW.o.size
 rw[<-eg];generalize (w1.alloc (.cells #[.int .u64 (v0.toNat:Int),.int .u64 (v1.toNat:Int),.int .u64 (v2.toNat:Int),.int .u64 (v3.toNat:Int)] 218)).drew=w2 at ak aj⊢;have aH:=I ak;clear ak;have aJ:=I aj;clear aj;have X:=I hg;clear hg;clear HS HW eg x0 x1 x2 x3;have l5:(n:Int)<=100000:=by omega
 have c0:(n:Int)<=(c:Int):=by omega
 have ba:c<=9223372036854775807:=by have:=HM.o;unfold maxLen at this;omega
 have aY:(c:Int)<=9223372036854775807:=by omega
 go_wp2_with fail
 go_loopw [8] (fun iv wr=>∃u:Nat,u<=n/\u % 8=0/\iv=.int .i64 (u:Int)/\Below B w wr/\Blk wr g 218 (DJ (full ks l (u / 8)))) (fun iv _=>n - (intOf iv).toNat)
 case atStart=>exact⟨0,Nat.zero_le _,rfl,rfl,aJ.o,aH.o⟩
 case round=>
  clear aH aJ;obtain⟨u,hu,aE,rfl,hW,hB⟩:=hrel;have HW:=I hW;clear hW;have HB:=I hB;clear hB;have an:=I aE;clear aE;have d0:(0:Int)<=(u:Int):=by omega
  have d1:(u:Int)<=(n:Int):=by omega
  by_cases hx:n - u<8
  ·have hj:u / 8=n / 8:=by have:=an.o;omega
   have t1:(n:Int) - (u:Int)<8:=by omega
   have HX:=I hx;clear hx;have HJ:=I hj;clear hj;obtain⟨k,ek⟩:=Aj (n % 256);have hand:bits .and .i64 (n:Int) 255=(k:Int):=by rw[Qd,ek];omega
   have k1:(k:Int)<256:=by omega
   have k2:(0:Int)<=(k:Int):=by omega
   have aR:IntKind.u64.wrap (k:Int)=(k:Int):=by rw[IntKind.wrap_u64];omega
   have aN:u=8*(l.length / 8):=by have:=an.o;have:=HN.o;have:=HX.o;omega
   have aL:(l.drop u).length=n - u:=by rw[List.length_drop,HN.o]
   obtain⟨mw,ae⟩:∃m,m=wd (BQ (l.drop u)):=⟨_,rfl⟩;obtain⟨lw,ao⟩:∃m,m=Oh (stOf ks l):=⟨_,rfl⟩;have ay:mw.toNat=BQ (l.drop u):=by rw[ae];exact Jq _ (JR (by have:=HX.o;omega))
   have az:bits .or .u64 (mw.toNat:Int) (IntKind.u64.wrap ((k:Int)*72057594037927936))=(lw.toNat:Int):=by
    have h:=Qe ks l;rw[<-aN,<-ay,<-HN.o,<-ek,<-ao] at h;exact h
   have aQ:bits .or .u64 (mw.toNat:Int) ((k:Int)*72057594037927936)=(lw.toNat:Int):=by
    rw[<-az,IntKind.wrap_u64];congr 1;omega
   have cA:=LN none (n - u) (c - u) (l.drop u) wr B aL.symm (by have:=HX.o;omega) (.inl (by rw[List.eq_nil_of_length_eq_zero (l:=l.drop u) (by have:=H0.o;omega)];rfl));have cB:u=c->Calls Tryz.prog 119 #[.slice none 0 0] wr fun e w'=>e=.returned (wv (wd (BQ (l.drop u))))/\w'=wr:=fun h=>LN none 0 0 (l.drop u) wr B (by omega) (by decide) (.inl (by rw[List.eq_nil_of_length_eq_zero (l:=l.drop u) (by omega)];rfl))
   rw[<-ae] at cA;rw[<-ae] at cB;obtain⟨⟨a,b,cc,d⟩,e1⟩:∃t,t=addM (full ks l (u / 8)) lw:=⟨_,rfl⟩;obtain⟨c1,ec⟩:∃x,x=cc ^^^ 255#64:=⟨_,rfl⟩;obtain⟨V0,eV⟩:∃x:V,x=⟨a,b,c1,d⟩:=⟨_,rfl⟩;obtain⟨⟨a2,b2,c2,d2⟩,e2⟩:∃t,t=rnds 4 V0:=⟨_,rfl⟩;obtain⟨q1,ai⟩:∃x,x=a2 ^^^ b2:=⟨_,rfl⟩;obtain⟨q2,ah⟩:∃x,x=q1 ^^^ c2:=⟨_,rfl⟩;obtain⟨q3,av⟩:∃x,x=q2 ^^^ d2:=⟨_,rfl⟩;have ag:Hc ks l=q3:=by
    have hv:(stOf ks l).v=full ks l (u / 8):=by rw[FP,HJ.o,HN.o]
    rw[Hc,finS,<-ao,hv,<-e1,fin,<-ec,<-eV,<-e2,allX,<-ai,<-ah,<-av]
   have x0:bits .xor .u64 (cc.toNat:Int) 255=(c1.toNat:Int):=by rw[ec];exact BD cc 255#64
   have x1:bits .xor .u64 (a2.toNat:Int) (b2.toNat:Int)=(q1.toNat:Int):=by rw[ai];exact BD _ _
   have x2:bits .xor .u64 (q1.toNat:Int) (c2.toNat:Int)=(q2.toNat:Int):=by rw[ah];exact BD _ _
   have x3:bits .xor .u64 (q2.toNat:Int) (d2.toNat:Int)=(q3.toNat:Int):=by rw[av];exact BD _ _
   have ct:=VO g (full ks l (u / 8)) lw wr HB.o;rw[<-e1] at ct;have aA:=I ag;clear ag;have EV:=I eV;clear eV;have E2:=I e2;clear e2;have aK:=I x0;clear x0;have aT:=I x1;clear x1;have aW:=I x2;clear x2;have aU:=I x3;clear x3;have aa:=I (Blk.lt HB.o);clear e1 ec ai ah av ay ae ao aL aN ek HJ an
   go_upto_region 7 with fail
   go_cut [] from 39 to 50 (fun wx=>Below B w wx/\Blk wx g 218 (DJ ⟨a,b,cc,d⟩))
   case first=>
    have ab:u=c\/u<c:=by omega
    rcases ab with ab | ab
    ·have aF:=cB ab;clear cB
     clear cA;subst ab
     go_wp2_with (first
      |(go_at_call 119;refine Ah aF ?_;rintro w' hw;have hw:=hw.symm;subst hw;clear aF)
      |(go_at_call 120;refine Ah ct ?_;rintro v1 ⟨O,ad⟩;clear ct;have M:=I O;have Y:=I (Ak HW.o ad (by have:=aa.o;have:=X.o;omega) X.o);clear O ad))
     go_meet
     exact⟨Y.o,M.o⟩
    ·clear cB
     have aZ:(u:Int)<(c:Int):=by omega
     go_wp2_with (first
      |(go_at_call 119;refine Ah cA ?_;rintro w' hw;have hw:=hw.symm;subst hw;clear cA)
      |(go_at_call 120;refine Ah ct ?_;rintro v1 ⟨O,ad⟩;clear ct;have M:=I O;have Y:=I (Ak HW.o ad (by have:=aa.o;have:=X.o;omega) X.o);clear O ad))
     go_meet
     exact⟨Y.o,M.o⟩
   case rest=>
    obtain⟨aI,O⟩:=hcut;have M:=I O;clear O;have Y:=I aI;clear aI;have k2:wc.cell? ⟨g,2,none⟩=some (.int .u64 (cc.toNat:Int)):=by rw[M.o.cell];rfl
    have fz:=M.o.frozen;have x0:=aK.o;clear aK hand aR az aQ cA cB ct
    go_upto_region 8 with fail
    refine wp_region_still_tail 8 (by kernel_rfl) (by kernel_rfl) ?_;simp only[List.take_succ_cons,List.take_zero,List.drop_succ_cons,List.drop_zero];change wpStill _ _ wc.drew _ _ _
    repeat still_step
    refine wpStill_nil ?_;change wpList _ _ _ _ _ wc.drew
    go_upto_region 9 with fail
    have al:Blk (wc.setCell ⟨g,2,none⟩ (.int .u64 (c1.toNat:Int))).drew g 218 (DJ V0):=by rw[EV.o];exact Blk.set M.o 2 (wv c1)
    have au:Below B w (wc.setCell ⟨g,2,none⟩ (.int .u64 (c1.toNat:Int))).drew:=below_drewN (AY Y.o X.o _) 1;generalize (wc.setCell ⟨g,2,none⟩ (.int .u64 (c1.toNat:Int))).drew=v2 at al au⊢;have aO:=I al;clear al;have aC:=I au;clear au;clear k2 fz x0 M Y aa HB HW
    go_wp2_with fail
    go_loopw [9] (fun iv wr=>∃i:Nat,i<=4/\iv=.int .i64 (i:Int)/\Below B w wr/\Blk wr g 218 (DJ (rnds i V0))) (fun iv _=>4 - (intOf iv).toNat)
    case atStart=>exact⟨0,by decide,rfl,aC.o,aO.o⟩
    case round=>
     obtain⟨i,hi,rfl,aM,ax⟩:=hrel;clear aO aC;have ar:=I ax;clear ax;have aG:=I aM;clear aM
     by_cases hi4:i=4
     ·subst hi4
      have Z:=ar.o;rw[<-E2.o] at Z;have k0:wr.cell? ⟨g,0,none⟩=some (.int .u64 (a2.toNat:Int)):=by rw[Z.cell];rfl
      have k1:wr.cell? ⟨g,1,none⟩=some (.int .u64 (b2.toNat:Int)):=by rw[Z.cell];rfl
      have k2:wr.cell? ⟨g,2,none⟩=some (.int .u64 (c2.toNat:Int)):=by rw[Z.cell];rfl
      have k3:wr.cell? ⟨g,3,none⟩=some (.int .u64 (d2.toNat:Int)):=by rw[Z.cell];rfl
      have x1:=aT.o;have x2:=aW.o;have x3:=aU.o;clear Z
      go_upto_region 13 with fail
      refine wp_region_still_lit (by kernel_rfl) (by kernel_rfl) ?_;change wpStill _ _ wr.drew _ _ _
      repeat still_step
      refine wpStill_nil ?_
      try change _ wr.drew
      go_wp2_with fail
      go_ret;exact⟨by rw[aA.o];rfl,by rw[<-EB.o];exact below_drewN aG.o 1⟩
     ·have j1:(i:Int)<4:=by omega
      have j2:(0:Int)<=(i:Int):=by omega
      have cr:=MX g (rnds i V0) wr ar.o;have aa:=I (Blk.lt ar.o);have aS:=I hi4;clear hi4
      go_wp2_with (go_at_call 121;refine Ah cr ?_;rintro v4 ⟨aw,aB⟩;clear cr;have aP:=I aw;have aX:=I aB;clear aw aB)
      go_roundw
      case rel=>exact⟨i+1,by have:=aS.o;omega,by go_num,Ak aG.o aX.o (by have:=aa.o;have:=X.o;omega) X.o,aP.o⟩
      case measure=>simp [intOf];omega
  ·have t1:(8:Int)<=(n:Int) - (u:Int):=by omega
   exact absurd H0.o (by omega)
theorem SV (ks:Nat->UInt8) (A:Option Addr) (n c:Nat) (l:List UInt8) (w:World) (M:n=l.length) (Y:n<=100000) (O:n<=c) (hm:c<=maxLen) (X:Rd w w.heap.size A (bvs l)) :
  Calls Tryz.prog 75 #[.agg (AM ks),.slice A n c] w fun e w'=>e=.returned (wv (Hc ks l))/\Below w.heap.size w w':=by
 cases A with
 |some x=>exact Qf ks x n c l w M Y O hm X
 |none=>
  refine Qg ks n c l w M Y O hm ?_;rcases X with h | ⟨b,o,Z,_,_⟩
  ·rw[M,List.map_eq_nil_iff.1 h];rfl
  ·cases Z
theorem Cd:(Tryz.prog.info? 5).map (fun i=>(i.zero,i.size,i.bytes))=some (some (.int .u8 0),1,1):=by kernel_rfl
theorem FO (w:World) (t:TypeId) (cs:Array Value) (l:List Value) (h:cs.toList=l) (N:Nat) (M:w.heap.size=N):Rd (w.alloc (.cells cs t)) (N+1) (some ⟨N,0,none⟩) l:=by
 subst M;refine .inr ⟨w.heap.size,0,rfl,by omega,fun i u hu=>?_⟩;rw[Nat.zero_add,(Blk.new w t cs).cell i];rw[<-h] at hu
 simpa using hu
theorem DU {w w':World} {base:Nat} {t:TypeId} {v:Value} {n:Nat} {xs:List Value} {o:Obj} (h:w.ownsRow base t 1 v n xs) (e:w'.heap=w.heap.push o):w'.ownsRow base t 1 v n xs:=by
 obtain⟨X,h | ⟨g,cap,cur,Y,Z,M,hr⟩⟩:=h
 ·exact⟨X,.inl h⟩
 ·refine⟨X,.inr ⟨g,cap,cur,Y,Z,?_,hr⟩⟩
  have O:=Blk.lt (t:=t) (cs:=cur) M;rw[e,Array.getElem?_push_lt O,<-Array.getElem?_eq_getElem O];exact M
theorem Ok {w:World} (t:TypeId) (vs:List Value) (rows:List (List UInt8)) (cs:Array Value) (O:cs.toList=vs) (Z:vs.length=rows.length)
  (h:∀i (h:i<rows.length),∃(M:Option Addr) (ci:Nat),vs[i]? = some (.slice M (rows[i]).length ci)/\Rd w w.heap.size M (bvs rows[i])):Rows (w.alloc (.cells cs t)) (w.alloc (.cells cs t)).heap.size (some ⟨w.heap.size,0,none⟩) rows:=by
 refine⟨vs,Z,(FO w t cs vs O w.heap.size rfl).more (by simp),fun i hi=>?_⟩;obtain⟨M,ci,X,Y⟩:=h i hi;exact⟨M,ci,X,(Y.alloc Af _).more (by simp)⟩
end Si
end Go.Proofs.YtlccngianpfalaaGreat
