import Derived.Test.YtlccngianpfalaaGreatZClientLoops4
set_option maxHeartbeats 25600000
set_option maxRecDepth 100000
set_option linter.unusedVariables false
set_option linter.unusedSimpArgs false
namespace Go.Proofs.YtlccngianpfalaaGreat
namespace Si
open Go.RowKit Ae
def Rows (w:World) (B:Nat) (A:Option Addr) (rows:List (List UInt8)):Prop:=
 ∃vs:List Value,vs.length=rows.length/\Rd w B A vs/\∀i (h:i<rows.length),∃(Ai:Option Addr) (ci:Nat),vs[i]? = some (.slice Ai (rows[i]).length ci)/\Rd w B Ai (bvs rows[i])
theorem Rows.below {w w':World} {B:Nat} {A:Option Addr} {rows:List (List UInt8)} (h:Rows w B A rows) (M:Below B w w'):Rows w' B A rows:=by
 obtain⟨vs,O,h2,h3⟩:=h;refine⟨vs,O,h2.below M,fun i Y=>?_⟩;obtain⟨X,ci,Z,h5⟩:=h3 i Y;exact⟨X,ci,Z,h5.below M⟩
def flat (rows:List (List UInt8)):List UInt8:=rows.flatten
theorem PN (rows:List (List UInt8)) (i:Nat) (h:i<rows.length):flat (rows.take (i+1))=flat (rows.take i)++rows[i]:=by
 unfold flat;rw[List.take_succ_eq_append_getElem h,List.flatten_append];simp
theorem ID (rows:List (List UInt8)) (i:Nat):(flat (rows.take i)).length<=(flat rows).length:=by
 have h:rows=rows.take i++rows.drop i:=(List.take_append_drop i rows).symm;have M:flat rows=flat (rows.take i)++flat (rows.drop i):=by
  unfold flat;rw[<-List.flatten_append,List.take_append_drop]
 rw[M,List.length_append];omega
def LF (ks:Nat->UInt8) (l:List UInt8):Array Value:=stc (stOf ks l)
theorem Ob (g:Nat) (ks:Nat->UInt8) (l:List UInt8) (y:UInt8) (w:World) (M:l.length<100000) (hB:Blk w g 276 (LF ks l)) :
  Calls Tryz.prog 199 #[.pointer (some ⟨g,0,none⟩),.int .u8 (y.toNat:Int)] w fun e w'=>e=.returned (.tuple #[])/\Blk w' g 276 (LF ks (l++[y]))/\w.grownBy w' (some g):=by
 have h:=LD g (stOf ks l) y w (by rw[Xh];exact M) (Us ks l) hB;rw[<-Kz] at h;exact h
theorem Xn (g:Nat) (ks:Nat->UInt8) (l:List UInt8) (w:World) (hB:Blk w g 276 (LF ks l)) :
  Calls Tryz.prog 200 #[.pointer (some ⟨g,0,none⟩)] w fun e w'=>e=.returned (wv (GY ks l))/\w.grownBy w' (some g):=
 VE g (stOf ks l) w (Nat.lt_of_lt_of_le (Us ks l) (SD _ (by omega))) hB
theorem PO (l:List UInt8) (j:Nat) (h:j<l.length):l.take (j+1)=l.take j++[l[j]]:=List.take_succ_eq_append_getElem h
theorem VF (ks:Nat->UInt8) (A:Option Addr) (n c:Nat) (rows:List (List UInt8)) (w:World) (hn:n=rows.length) (aR:n<=100000) (hl:(flat rows).length<100000) (hr:Rows w w.heap.size A rows) :
  Calls Tryz.prog 185 #[.agg (AN ks),.slice A n c] w fun e w'=>e=.returned (wv (GY ks (flat rows)))/\Below w.heap.size w w':=by
 obtain⟨vs,hv,av,O⟩:=hr;obtain⟨B,eB⟩:=Aj (w.heap.size);rw[<-eB] at av O;have EB:=I eB;have aM:=I av;clear av;have ai:=I O;clear O;have HN:=I hn;clear hn;have e5:(n:Int)<=100000:=by omega
 clear aR;have HL:=I hl;clear hl;have HV:=I hv;clear hv;have hk:AN ks=#[.int .u8 ((ks 0).toNat:Int),.int .u8 ((ks 1).toNat:Int),.int .u8 ((ks 2).toNat:Int),.int .u8 ((ks 3).toNat:Int),.int .u8 ((ks 4).toNat:Int),.int .u8 ((ks 5).toNat:Int),.int .u8 ((ks 6).toNat:Int),.int .u8 ((ks 7).toNat:Int),.int .u8 ((ks 8).toNat:Int),.int .u8 ((ks 9).toNat:Int),.int .u8 ((ks 10).toNat:Int),.int .u8 ((ks 11).toNat:Int),.int .u8 ((ks 12).toNat:Int),.int .u8 ((ks 13).toNat:Int),.int .u8 ((ks 14).toNat:Int),.int .u8 ((ks 15).toNat:Int)]:=rfl;have cb:=PM ks;rw[hk] at cb⊢;have hs:stc ⟨start ks,0,0⟩=#[wv (start ks).a,wv (start ks).b,wv (start ks).c,wv (start ks).d,.int .u64 0,.int .u64 0]:=rfl;rw[hs] at cb;have ao:LF ks []=#[wv (start ks).a,wv (start ks).b,wv (start ks).c,wv (start ks).d,.int .u64 0,.int .u64 0]:=rfl;obtain⟨p0,e0⟩:∃x,x=(start ks).a:=⟨_,rfl⟩;obtain⟨p1,e1⟩:∃x,x=(start ks).b:=⟨_,rfl⟩;obtain⟨p2,e2⟩:∃x,x=(start ks).c:=⟨_,rfl⟩;obtain⟨p3,e3⟩:∃x,x=(start ks).d:=⟨_,rfl⟩;rw[<-e0,<-e1,<-e2,<-e3] at ao cb;have aC:=I ao;clear ao;clear hk hs e0 e1 e2 e3;go_enter Tryz.func185,Tryz.ntmps185
 go_upto_region 2 with(go_at_call 198;refine Ah (cb _) ?_;rintro w1 aD;have aH:Below w.heap.size w w1:=((Below.refl w.heap.size w).alloc Af _).trans (aD.mono (by simp));have ae:=I aH;clear aH aD cb)
 clear eB;obtain⟨g,eg⟩:=Aj (w1.heap.size);have ag:Blk (w1.alloc (.cells #[.int .u64 (p0.toNat:Int),.int .u64 (p1.toNat:Int),.int .u64 (p2.toNat:Int),.int .u64 (p3.toNat:Int),.int .u64 0,.int .u64 0] 276)) g 276 (LF ks []):=Blk.new_of w1 g _ _ _ aC.o.symm eg.symm;have ak:Below B w (w1.alloc (.cells #[.int .u64 (p0.toNat:Int),.int .u64 (p1.toNat:Int),.int .u64 (p2.toNat:Int),.int .u64 (p3.toNat:Int),.int .u64 0,.int .u64 0] 276)):=by rw[EB.o];exact ae.o.alloc ae.o.size _
 have hg:B<=g:=by rw[eg,EB.o];exact ae.o.size
 rw[<-eg];generalize w1.alloc (.cells #[.int .u64 (p0.toNat:Int),.int .u64 (p1.toNat:Int),.int .u64 (p2.toNat:Int),.int .u64 (p3.toNat:Int),.int .u64 0,.int .u64 0] 276)=w2 at ag ak⊢;have aA:=I ag;clear ag;have aG:=I ak;clear ak;have ab:=I hg;clear hg;clear aC ae eg
 go_wp2_with fail
 go_loopw [14] (fun iv wr=>∃i:Nat,i<=n/\iv=.int .i64 (i:Int)/\Below B w wr/\Blk wr g 276 (LF ks (flat (rows.take i)))) (fun iv _=>n - (intOf iv).toNat)
 case atStart=>exact⟨0,Nat.zero_le _,rfl,aG.o,by rw[List.take_zero];exact aA.o⟩
 case round=>
  clear aA aG;obtain⟨i,hi,rfl,hW,hB⟩:=hrel;have HW:=I hW;clear hW;have HB:=I hB;clear hB
  by_cases hx:i=n
  ·have he:rows.take i=rows:=List.take_of_length_le (by have:=HN.o;omega)
   have ce:=Xn g ks (flat (rows.take i)) wr HB.o;rw[he] at ce;subst hx;clear he
   go_wp2_with (go_at_call 200;refine Ah ce ?_;rintro w3 aE;clear ce;have aQ:=I aE;clear aE)
   go_ret;exact⟨rfl,by rw[<-EB.o];exact Ak HW.o aQ.o (by have:=HW.o.size;have:=Blk.lt HB.o;have:=ab.o;omega) ab.o⟩
  ·have aV:i<n:=by omega
   have ad:i<rows.length:=by have:=HN.o;omega
   have e1:(i:Int)<(n:Int):=by omega
   have e2:(0:Int)<=(i:Int):=by omega
   obtain⟨row,Z⟩:∃r,r=rows[i]:=⟨_,rfl⟩;obtain⟨pre,aa⟩:∃r,r=flat (rows.take i):=⟨_,rfl⟩;have X:flat (rows.take (i+1))=pre++row:=by rw[aa,Z];exact PN rows i ad
   have hlen:(pre++row).length<100000:=by rw[<-X];exact Nat.lt_of_le_of_lt (ID rows (i+1)) HL.o
   obtain⟨Ai,ci,ah,ar⟩:=ai.o i ad;rw[<-Z] at ah ar;have aj:=HB.o;rw[<-aa] at aj;have az:=I aj;clear aj HB;obtain⟨b,o,rfl,aN,Y⟩:=aM.o.at_ ah;obtain⟨m,em⟩:=Aj (row.length);rw[<-em] at Y;have hc:wr.cell? ⟨b,o+i,none⟩=some (.slice Ai m ci):=(HW.o.cell (p:=⟨b,o+i,none⟩) aN).trans Y;have aK:=I X;clear X;have aJ:=I ar;clear ar;have HX:=I hx;clear hx;have HI:=I hi;clear hi;have e6:(m:Int)<100000:=by have:=hlen;rw[List.length_append] at this;omega
   have HM:=I em;clear em;have aP:=I hlen;clear hlen;have aW:=I ad;clear ah Y Z aa ad
   go_wp2_with fail
   go_loopw [20] (fun jv wx=>∃j:Nat,j<=m/\jv=.int .i64 (j:Int)/\Below B w wx/\Blk wx g 276 (LF ks (pre++row.take j))) (fun jv _=>m - (intOf jv).toNat)
   case atStart=>exact⟨0,Nat.zero_le _,rfl,HW.o,by rw[List.take_zero,List.append_nil];exact az.o⟩
   case round=>
    clear hc HW az;obtain⟨j,hj,rfl,ax,ay⟩:=hrel;have an:=I ax;clear ax;have af:=I ay;clear ay
    by_cases hy:j=m
    ·have he:row.take j=row:=List.take_of_length_le (by have:=HM.o;omega)
     have HE:=I he;clear he;subst hy
     go_wp2_with fail
     go_roundw
     case rel=>exact⟨i+1,by omega,by go_num,an.o,by rw[aK.o];have:=af.o;rw[HE.o] at this;exact this⟩
     case measure=>simp [intOf];omega
    ·have aU:j<m:=by omega
     have au:j<row.length:=by have:=HM.o;omega
     have f1:(j:Int)<(m:Int):=by omega
     have f2:(0:Int)<=(j:Int):=by omega
     obtain⟨b2,o2,rfl,aI,M⟩:=aJ.o.at_ (DT au);obtain⟨y,ey⟩:=Aj (row[j]);rw[<-ey] at M;have aT:wr.cell? ⟨b2,o2+j,none⟩=some (.int .u8 (y.toNat:Int)):=(an.o.cell (p:=⟨b2,o2+j,none⟩) aI).trans M;have aF:(pre++row.take j)++[y]=pre++row.take (j+1):=by rw[PO row j au,<-ey,List.append_assoc]
     have ca:=Ob g ks (pre++row.take j) y wr (by have:=aP.o;rw[List.length_append] at this⊢;have:(row.take j).length<=row.length:=by{rw[List.length_take];omega};omega) af.o;rw[aF] at ca;have HY:=I hy;clear hy;have HJ:=I hj;clear hj;have aO:=I (Blk.lt af.o);clear M ey aF au
     go_wp2_with (go_at_call 199;refine Ah ca ?_;rintro w4 ⟨aw,aB⟩;clear ca;have aS:=I aw;have aL:=I aB;clear aw aB)
     go_roundw
     case rel=>exact⟨j+1,by omega,by go_num,Ak an.o aL.o (by have:=aO.o;have:=ab.o;omega) ab.o,aS.o⟩
     case measure=>simp [intOf];omega
theorem PQ (n:Int):bits .and .i64 n 255=n % 256:=by
 have M:(BitVec.ofInt 64 255).toNat=2 ^ 8 - 1:=by decide
 have key:(BitVec.ofInt 64 n &&& BitVec.ofInt 64 255).toNat=(n % ((2 ^ 64:Nat):Int)).toNat % 2 ^ 8:=by
  rw[BitVec.toNat_and,BitVec.toNat_ofInt,M,Nat.and_two_pow_sub_one_eq_mod]
 show IntKind.i64.wrap ((BitVec.ofInt 64 n &&& BitVec.ofInt 64 255).toNat:Nat)=n % 256;rw[key,IntKind.wrap_i64];omega
theorem Rd.drop {w:World} {B:Nat} {x:Addr} {l:List UInt8} (h:Rd w B (some x) (bvs l)) (p:Nat):Rd w B (some (x.add p)) (bvs (l.drop p)):=by
 rcases h with h | ⟨b,o,M,O,X⟩
 ·left
  have:l = []:=List.map_eq_nil_iff.1 h;rw[this];simp [bvs]
 ·injection M with M
  subst M;rw[addr_add];refine .inr ⟨b,o+p,rfl,O,fun i u hu=>?_⟩;have:(bvs l)[p+i]? = some u:=by
   rw[<-hu];simp [bvs,List.getElem?_drop]
  have:=X _ _ this
  rwa [Nat.add_assoc]
theorem Rd.take {w:World} {B:Nat} {A:Option Addr} {l:List UInt8} (h:Rd w B A (bvs l)) (k:Nat):Rd w B A (bvs (l.take k)):=by
 rcases h with h | ⟨b,o,M,X,Y⟩
 ·left
  have:l = []:=List.map_eq_nil_iff.1 h;rw[this];simp [bvs]
 ·refine .inr ⟨b,o,M,X,fun i u hu=>Y i u ?_⟩
  rw[<-hu];have O:i<k:=by
   rcases Nat.lt_or_ge i k with g | g
   ·exact g
   ·rw[List.getElem?_eq_none (by simp [bvs];omega)] at hu;cases hu
  simp [bvs,O]
theorem rd_key {w:World} {B:Nat} {t:TypeId} {ks:Nat->UInt8} (h:Blk w B t (AN ks)) (o:Nat) (O:o+8<=16):Rd w (B+1) (some ⟨B,o,none⟩) (bvs ((List.range 8).map fun i=>ks (o+i))):=by
 refine .inr ⟨B,o,rfl,by omega,fun i u hu=>?_⟩;have M:i<8:=by
  rcases Nat.lt_or_ge i 8 with g | g
  ·exact g
  ·rw[List.getElem?_eq_none (by simp [bvs];omega)] at hu;cases hu
 rw[h.cell,FC _ _ (by omega)];rw[<-hu];simp [bvs,M]
theorem Uu {w:World} {B:Nat} {t:TypeId} {ks:Nat->UInt8} (h:Blk w B t (AN ks)):Calls Tryz.prog 119 #[.slice (some ⟨B,0,none⟩) 8 16] w fun e w'=>e=.returned (wv (kA ks))/\w'=w:=by
 have M:=rd_key h 0 (by decide);have:=LC (some ⟨B,0,none⟩) 8 16 _ w (B+1) (by simp) (by decide) M;have e:((List.range 8).map fun i=>ks (0+i))=(List.range 8).map ks:=by simp
 rw[e] at this;exact this
theorem Uv {w:World} {B:Nat} {t:TypeId} {ks:Nat->UInt8} (h:Blk w B t (AN ks)):Calls Tryz.prog 119 #[.slice (some ⟨B,8,none⟩) 8 8] w fun e w'=>e=.returned (wv (kB ks))/\w'=w:=
 LC (some ⟨B,8,none⟩) 8 8 _ w (B+1) (by simp) (by decide) (rd_key h 8 (by decide))
theorem PR (ks:Nat->UInt8) (l:List UInt8):bits .or .u64 (BR (l.drop (8*(l.length / 8))):Nat) (IntKind.u64.wrap (((l.length % 256:Nat):Int)*72057594037927936))=((NY (stOf ks l)).toNat:Int):=by
 have M:BR (l.drop (8*(l.length / 8)))<72057594037927936:=PJ (by rw[List.length_drop];omega);have h:=MM (BR (l.drop (8*(l.length / 8)))) (l.length % 256) M;rw[IntKind.wrap_u64,h,Nat.mod_mod];rw[KD _ (by rw[FF];exact M),FF]
def stcV (ks:Nat->UInt8):Array Value:=DE (start ks)
theorem PS (ks:Nat->UInt8) (x:Addr) (n c:Nat) (l:List UInt8) (w:World) (hn:n=l.length) (hl:n<=100000) (hc:n<=c) (hm:c<=maxLen) (hr:Rd w w.heap.size (some x) (bvs l)) :
  Calls Tryz.prog 75 #[.agg (AN ks),.slice (some x) n c] w fun e w'=>e=.returned (wv (GY ks l))/\Below w.heap.size w w':=by
 obtain⟨B,eB⟩:=Aj (w.heap.size);rw[<-eB] at hr;have EB:=I eB;have HR:=I hr;clear hr;have HN:=I hn;clear hn;have aS:AN ks=#[.int .u8 ((ks 0).toNat:Int),.int .u8 ((ks 1).toNat:Int),.int .u8 ((ks 2).toNat:Int),.int .u8 ((ks 3).toNat:Int),.int .u8 ((ks 4).toNat:Int),.int .u8 ((ks 5).toNat:Int),.int .u8 ((ks 6).toNat:Int),.int .u8 ((ks 7).toNat:Int),.int .u8 ((ks 8).toNat:Int),.int .u8 ((ks 9).toNat:Int),.int .u8 ((ks 10).toNat:Int),.int .u8 ((ks 11).toNat:Int),.int .u8 ((ks 12).toNat:Int),.int .u8 ((ks 13).toNat:Int),.int .u8 ((ks 14).toNat:Int),.int .u8 ((ks 15).toNat:Int)]:=rfl;have aE:stcV ks=#[wv (start ks).a,wv (start ks).b,wv (start ks).c,wv (start ks).d]:=rfl;obtain⟨p,ep⟩:∃x,x=kA ks:=⟨_,rfl⟩;obtain⟨q,eq⟩:∃x,x=kB ks:=⟨_,rfl⟩;obtain⟨v0,e0⟩:∃x,x=0x736f6d6570736575#64 ^^^ p:=⟨_,rfl⟩;obtain⟨v1,e1⟩:∃x,x=0x646f72616e646f6d#64 ^^^ q:=⟨_,rfl⟩;obtain⟨v2,e2⟩:∃x,x=0x6c7967656e657261#64 ^^^ p:=⟨_,rfl⟩;obtain⟨v3,e3⟩:∃x,x=0x7465646279746573#64 ^^^ q:=⟨_,rfl⟩;have x0:bits .xor .u64 8317987319222330741 (p.toNat:Int)=(v0.toNat:Int):=by rw[e0];exact BG 0x736f6d6570736575#64 p
 have x1:bits .xor .u64 7237128888997146477 (q.toNat:Int)=(v1.toNat:Int):=by rw[e1];exact BG 0x646f72616e646f6d#64 q
 have x2:bits .xor .u64 7816392313619706465 (p.toNat:Int)=(v2.toNat:Int):=by rw[e2];exact BG 0x6c7967656e657261#64 p
 have x3:bits .xor .u64 8387220255154660723 (q.toNat:Int)=(v3.toNat:Int):=by rw[e3];exact BG 0x7465646279746573#64 q
 have hs:stcV ks=#[.int .u64 (v0.toNat:Int),.int .u64 (v1.toNat:Int),.int .u64 (v2.toNat:Int),.int .u64 (v3.toNat:Int)]:=by
  rw[aE,e0,e1,e2,e3,ep,eq];rfl
 have HS:=I hs;clear hs;obtain⟨kz,ai⟩:=Aj (AN ks);rw[<-ai];have bf:=I ai;have hK:Blk (w.alloc (.cells kz 157)) B 157 (AN ks):=Blk.new_of w B _ _ _ ai eB.symm;have hW:Below B w (w.alloc (.cells kz 157)):=by rw[eB];exact(Below.refl _ w).alloc Af _
 clear aE e0 e1 e2 e3;have cA:=Uu (hK.drewN 1);have cB:=Uv (hK.drewN 1);rw[<-ep] at cA;rw[<-eq] at cB;have HW:=I hW;clear hW;clear aS ai ep eq hK;go_enter Tryz.func75,Tryz.ntmps75
 go_upto_region 1 with fail
 rw[<-eB];clear eB;have HM:=I hm;clear hm;generalize w.alloc (.cells kz 157)=w1 at cA cB HW⊢;refine wp_region_still_lit (by kernel_rfl) (by kernel_rfl) ?_;change wpStill _ _ w1.drew _ _ _
 repeat still_step
 still_call cA
 repeat still_step
 still_call cB
 repeat still_step
 refine wpStill_nil ?_
 try change _ w1.drew
 clear cA cB
 go_upto_region 3 with fail
 obtain⟨g,eg⟩:=Aj (w1.heap.size);have an:Blk (w1.alloc (.cells #[.int .u64 (v0.toNat:Int),.int .u64 (v1.toNat:Int),.int .u64 (v2.toNat:Int),.int .u64 (v3.toNat:Int)] 218)).drew g 218 (DE (full ks l (0 / 8))):=Blk.drewN (Blk.new_of w1 g _ _ _ HS.o.symm eg.symm) 1;have ay:Below B w (w1.alloc (.cells #[.int .u64 (v0.toNat:Int),.int .u64 (v1.toNat:Int),.int .u64 (v2.toNat:Int),.int .u64 (v3.toNat:Int)] 218)).drew:=below_drewN (HW.o.alloc (by rw[EB.o];exact HW.o.size) _) 1;have hg:B<=g:=by rw[eg,EB.o];exact HW.o.size
 rw[<-eg];generalize (w1.alloc (.cells #[.int .u64 (v0.toNat:Int),.int .u64 (v1.toNat:Int),.int .u64 (v2.toNat:Int),.int .u64 (v3.toNat:Int)] 218)).drew=w2 at an ay⊢;have aB:=I an;clear an;have aF:=I ay;clear ay;have X:=I hg;clear hg;clear HS HW eg x0 x1 x2 x3;have l5:(n:Int)<=100000:=by omega
 have c0:(n:Int)<=(c:Int):=by omega
 have bg:c<=9223372036854775807:=by have:=HM.o;unfold maxLen at this;omega
 have bd:(c:Int)<=9223372036854775807:=by omega
 go_wp2_with fail
 go_loopw [8] (fun iv wr=>∃u:Nat,u<=n/\u % 8=0/\iv=.int .i64 (u:Int)/\Below B w wr/\Blk wr g 218 (DE (full ks l (u / 8)))) (fun iv _=>n - (intOf iv).toNat)
 case atStart=>exact⟨0,Nat.zero_le _,rfl,rfl,aF.o,aB.o⟩
 case round=>
  clear aB aF;obtain⟨u,hu,aH,rfl,hW,hB⟩:=hrel;have HW:=I hW;clear hW;have HB:=I hB;clear hB;have ae:=I aH;clear aH;have d0:(0:Int)<=(u:Int):=by omega
  have d1:(u:Int)<=(n:Int):=by omega
  by_cases hx:n - u<8
  ·have hj:u / 8=n / 8:=by have:=ae.o;omega
   have t1:(n:Int) - (u:Int)<8:=by omega
   have HX:=I hx;clear hx;have HJ:=I hj;clear hj;obtain⟨k,ek⟩:=Aj (n % 256);have hand:bits .and .i64 (n:Int) 255=(k:Int):=by rw[PQ,ek];omega
   have k1:(k:Int)<256:=by omega
   have k2:(0:Int)<=(k:Int):=by omega
   have aY:IntKind.u64.wrap (k:Int)=(k:Int):=by rw[IntKind.wrap_u64];omega
   have ag:u=8*(l.length / 8):=by have:=ae.o;have:=HN.o;have:=HX.o;omega
   have aD:(l.drop u).length=n - u:=by rw[List.length_drop,HN.o]
   obtain⟨mw,aa⟩:∃m,m=wd (BR (l.drop u)):=⟨_,rfl⟩;obtain⟨lw,ao⟩:∃m,m=NY (stOf ks l):=⟨_,rfl⟩;have aP:mw.toNat=BR (l.drop u):=by rw[aa];exact Jl _ (JL (by have:=HX.o;omega))
   have aG:bits .or .u64 (mw.toNat:Int) (IntKind.u64.wrap ((k:Int)*72057594037927936))=(lw.toNat:Int):=by
    have h:=PR ks l;rw[<-ag,<-aP,<-HN.o,<-ek,<-ao] at h;exact h
   have aW:bits .or .u64 (mw.toNat:Int) ((k:Int)*72057594037927936)=(lw.toNat:Int):=by
    rw[<-aG,IntKind.wrap_u64];congr 1;omega
   have cA:=LC (some (x.add u)) (n - u) (c - u) (l.drop u) wr B aD.symm (by have:=HX.o;omega) (Rd.drop (HR.o.below HW.o) u);have cB:u=c->Calls Tryz.prog 119 #[.slice (some x) 0 0] wr fun e w'=>e=.returned (wv (wd (BR (l.drop u))))/\w'=wr:=fun h=>LC (some x) 0 0 (l.drop u) wr B (by omega) (by decide) (.inl (by rw[List.eq_nil_of_length_eq_zero (l:=l.drop u) (by omega)];rfl))
   rw[<-aa] at cA;rw[<-aa] at cB;obtain⟨⟨a,b,cc,d⟩,e1⟩:∃t,t=addM (full ks l (u / 8)) lw:=⟨_,rfl⟩;obtain⟨c1,ec⟩:∃x,x=cc ^^^ 255#64:=⟨_,rfl⟩;obtain⟨V0,eV⟩:∃x:V,x=⟨a,b,c1,d⟩:=⟨_,rfl⟩;obtain⟨⟨a2,b2,c2,d2⟩,e2⟩:∃t,t=rnds 4 V0:=⟨_,rfl⟩;obtain⟨q1,aw⟩:∃x,x=a2 ^^^ b2:=⟨_,rfl⟩;obtain⟨q2,ax⟩:∃x,x=q1 ^^^ c2:=⟨_,rfl⟩;obtain⟨q3,ar⟩:∃x,x=q2 ^^^ d2:=⟨_,rfl⟩;have aj:GY ks l=q3:=by
    have hv:(stOf ks l).v=full ks l (u / 8):=by rw[FF,HJ.o,HN.o]
    rw[GY,finS,<-ao,hv,<-e1,fin,<-ec,<-eV,<-e2,allX,<-aw,<-ax,<-ar]
   have x0:bits .xor .u64 (cc.toNat:Int) 255=(c1.toNat:Int):=by rw[ec];exact BG cc 255#64
   have x1:bits .xor .u64 (a2.toNat:Int) (b2.toNat:Int)=(q1.toNat:Int):=by rw[aw];exact BG _ _
   have x2:bits .xor .u64 (q1.toNat:Int) (c2.toNat:Int)=(q2.toNat:Int):=by rw[ax];exact BG _ _
   have x3:bits .xor .u64 (q2.toNat:Int) (d2.toNat:Int)=(q3.toNat:Int):=by rw[ar];exact BG _ _
   have ct:=VD g (full ks l (u / 8)) lw wr HB.o;rw[<-e1] at ct;have aO:=I aj;clear aj;have EV:=I eV;clear eV;have E2:=I e2;clear e2;have aC:=I x0;clear x0;have aV:=I x1;clear x1;have aZ:=I x2;clear x2;have aT:=I x3;clear x3;have ab:=I (Blk.lt HB.o);clear e1 ec aw ax ar aP aa ao aD ag ek HJ ae
   go_upto_region 7 with fail
   go_cut [] from 39 to 50 (fun wx=>Below B w wx/\Blk wx g 218 (DE ⟨a,b,cc,d⟩))
   case first=>
    have ah:u=c\/u<c:=by omega
    rcases ah with ah | ah
    ·have aL:=cB ah;clear cB
     clear cA;subst ah
     go_wp2_with (first
      |(go_at_call 119;refine Ah aL ?_;rintro w' hw;have hw:=hw.symm;subst hw;clear aL)
      |(go_at_call 120;refine Ah ct ?_;rintro v1 ⟨M,Y⟩;clear ct;have O:=I M;have Z:=I (Ak HW.o Y (by have:=ab.o;have:=X.o;omega) X.o);clear M Y))
     go_meet
     exact⟨Z.o,O.o⟩
    ·clear cB
     have bb:(u:Int)<(c:Int):=by omega
     go_wp2_with (first
      |(go_at_call 119;refine Ah cA ?_;rintro w' hw;have hw:=hw.symm;subst hw;clear cA)
      |(go_at_call 120;refine Ah ct ?_;rintro v1 ⟨M,Y⟩;clear ct;have O:=I M;have Z:=I (Ak HW.o Y (by have:=ab.o;have:=X.o;omega) X.o);clear M Y))
     go_meet
     exact⟨Z.o,O.o⟩
   case rest=>
    obtain⟨aR,M⟩:=hcut;have O:=I M;clear M;have Z:=I aR;clear aR;have k2:wc.cell? ⟨g,2,none⟩=some (.int .u64 (cc.toNat:Int)):=by rw[O.o.cell];rfl
    have fz:=O.o.frozen;have x0:=aC.o;clear aC hand aY aG aW cA cB ct
    go_upto_region 8 with fail
    refine wp_region_still_tail 8 (by kernel_rfl) (by kernel_rfl) ?_;simp only[List.take_succ_cons,List.take_zero,List.drop_succ_cons,List.drop_zero];change wpStill _ _ wc.drew _ _ _
    repeat still_step
    refine wpStill_nil ?_;change wpList _ _ _ _ _ wc.drew
    go_upto_region 9 with fail
    have ak:Blk (wc.setCell ⟨g,2,none⟩ (.int .u64 (c1.toNat:Int))).drew g 218 (DE V0):=by rw[EV.o];exact Blk.set O.o 2 (wv c1)
    have av:Below B w (wc.setCell ⟨g,2,none⟩ (.int .u64 (c1.toNat:Int))).drew:=below_drewN (AX Z.o X.o _) 1;generalize (wc.setCell ⟨g,2,none⟩ (.int .u64 (c1.toNat:Int))).drew=v2 at ak av⊢;have aA:=I ak;clear ak;have aM:=I av;clear av;clear k2 fz x0 O Z ab HB HW
    go_wp2_with fail
    go_loopw [9] (fun iv wr=>∃i:Nat,i<=4/\iv=.int .i64 (i:Int)/\Below B w wr/\Blk wr g 218 (DE (rnds i V0))) (fun iv _=>4 - (intOf iv).toNat)
    case atStart=>exact⟨0,by decide,rfl,aM.o,aA.o⟩
    case round=>
     obtain⟨i,hi,rfl,aJ,aN⟩:=hrel;clear aA aM;have au:=I aN;clear aN;have aQ:=I aJ;clear aJ
     by_cases hi4:i=4
     ·subst hi4
      have ad:=au.o;rw[<-E2.o] at ad;have k0:wr.cell? ⟨g,0,none⟩=some (.int .u64 (a2.toNat:Int)):=by rw[ad.cell];rfl
      have k1:wr.cell? ⟨g,1,none⟩=some (.int .u64 (b2.toNat:Int)):=by rw[ad.cell];rfl
      have k2:wr.cell? ⟨g,2,none⟩=some (.int .u64 (c2.toNat:Int)):=by rw[ad.cell];rfl
      have k3:wr.cell? ⟨g,3,none⟩=some (.int .u64 (d2.toNat:Int)):=by rw[ad.cell];rfl
      have x1:=aV.o;have x2:=aZ.o;have x3:=aT.o;clear ad
      go_upto_region 13 with fail
      refine wp_region_still_lit (by kernel_rfl) (by kernel_rfl) ?_;change wpStill _ _ wr.drew _ _ _
      repeat still_step
      refine wpStill_nil ?_
      try change _ wr.drew
      go_wp2_with fail
      go_ret;exact⟨by rw[aO.o];rfl,by rw[<-EB.o];exact below_drewN aQ.o 1⟩
     ·have j1:(i:Int)<4:=by omega
      have j2:(0:Int)<=(i:Int):=by omega
      have cr:=MN g (rnds i V0) wr au.o;have ab:=I (Blk.lt au.o);have aU:=I hi4;clear hi4
      go_wp2_with (go_at_call 121;refine Ah cr ?_;rintro v4 ⟨aI,aK⟩;clear cr;have ba:=I aI;have aX:=I aK;clear aI aK)
      go_roundw
      case rel=>exact⟨i+1,by have:=aU.o;omega,by go_num,Ak aQ.o aX.o (by have:=ab.o;have:=X.o;omega) X.o,ba.o⟩
      case measure=>simp [intOf];omega
  ·have t1:(8:Int)<=(n:Int) - (u:Int):=by omega
   have t2:(u:Int)+8<=(n:Int):=by omega
   have t3:u+8<=n:=by omega
   have HX:=I hx;clear hx;have hj:(u+8) / 8=u / 8+1:=by omega
   have ag:u=8*(u / 8):=by have:=ae.o;omega
   have az:((l.drop u).take 8).length=8:=by rw[List.length_take,List.length_drop,<-HN.o];omega
   have cA:=LC (some (x.add u)) 8 (c - u) ((l.drop u).take 8) wr B az.symm (by decide) (Rd.take (Rd.drop (HR.o.below HW.o) u) 8);obtain⟨mw,aa⟩:∃m,m=wd (BR ((l.drop u).take 8)):=⟨_,rfl⟩;rw[<-aa] at cA;have af:addM (full ks l (u / 8)) mw=full ks l ((u+8) / 8):=by rw[hj,full,<-ag,<-aa]
   have ct:=VD g (full ks l (u / 8)) mw wr HB.o;rw[af] at ct;have ab:=I (Blk.lt HB.o);clear hj ag az aa af
   go_wp2_with (first
    |(go_at_call 119;refine Ah cA ?_;rintro w' hw;have hw:=hw.symm;subst hw;clear cA)
    |(go_at_call 120;refine Ah ct ?_;rintro v1 ⟨M,Y⟩;clear ct;have O:=I M;have Z:=I (Ak HW.o Y (by have:=ab.o;have:=X.o;omega) X.o);clear M Y))
   go_roundw
   case rel=>exact⟨u+8,by omega,by have:=ae.o;omega,by go_num,Z.o,O.o⟩
   case measure=>simp [intOf];omega
theorem PV (ks:Nat->UInt8) (n c:Nat) (l:List UInt8) (w:World) (hn:n=l.length) (hl:n<=100000) (hc:n<=c) (hm:c<=maxLen) (h0:n=0) :
  Calls Tryz.prog 75 #[.agg (AN ks),.slice none n c] w fun e w'=>e=.returned (wv (GY ks l))/\Below w.heap.size w w':=by
 obtain⟨B,eB⟩:=Aj (w.heap.size);have EB:=I eB;have H0:=I h0;clear h0;have HN:=I hn;clear hn;have aQ:AN ks=#[.int .u8 ((ks 0).toNat:Int),.int .u8 ((ks 1).toNat:Int),.int .u8 ((ks 2).toNat:Int),.int .u8 ((ks 3).toNat:Int),.int .u8 ((ks 4).toNat:Int),.int .u8 ((ks 5).toNat:Int),.int .u8 ((ks 6).toNat:Int),.int .u8 ((ks 7).toNat:Int),.int .u8 ((ks 8).toNat:Int),.int .u8 ((ks 9).toNat:Int),.int .u8 ((ks 10).toNat:Int),.int .u8 ((ks 11).toNat:Int),.int .u8 ((ks 12).toNat:Int),.int .u8 ((ks 13).toNat:Int),.int .u8 ((ks 14).toNat:Int),.int .u8 ((ks 15).toNat:Int)]:=rfl;have aB:stcV ks=#[wv (start ks).a,wv (start ks).b,wv (start ks).c,wv (start ks).d]:=rfl;obtain⟨p,ep⟩:∃x,x=kA ks:=⟨_,rfl⟩;obtain⟨q,eq⟩:∃x,x=kB ks:=⟨_,rfl⟩;obtain⟨v0,e0⟩:∃x,x=0x736f6d6570736575#64 ^^^ p:=⟨_,rfl⟩;obtain⟨v1,e1⟩:∃x,x=0x646f72616e646f6d#64 ^^^ q:=⟨_,rfl⟩;obtain⟨v2,e2⟩:∃x,x=0x6c7967656e657261#64 ^^^ p:=⟨_,rfl⟩;obtain⟨v3,e3⟩:∃x,x=0x7465646279746573#64 ^^^ q:=⟨_,rfl⟩;have x0:bits .xor .u64 8317987319222330741 (p.toNat:Int)=(v0.toNat:Int):=by rw[e0];exact BG 0x736f6d6570736575#64 p
 have x1:bits .xor .u64 7237128888997146477 (q.toNat:Int)=(v1.toNat:Int):=by rw[e1];exact BG 0x646f72616e646f6d#64 q
 have x2:bits .xor .u64 7816392313619706465 (p.toNat:Int)=(v2.toNat:Int):=by rw[e2];exact BG 0x6c7967656e657261#64 p
 have x3:bits .xor .u64 8387220255154660723 (q.toNat:Int)=(v3.toNat:Int):=by rw[e3];exact BG 0x7465646279746573#64 q
 have hs:stcV ks=#[.int .u64 (v0.toNat:Int),.int .u64 (v1.toNat:Int),.int .u64 (v2.toNat:Int),.int .u64 (v3.toNat:Int)]:=by
  rw[aB,e0,e1,e2,e3,ep,eq];rfl
 have HS:=I hs;clear hs;obtain⟨kz,ae⟩:=Aj (AN ks);rw[<-ae];have bb:=I ae;have hK:Blk (w.alloc (.cells kz 157)) B 157 (AN ks):=Blk.new_of w B _ _ _ ae eB.symm;have hW:Below B w (w.alloc (.cells kz 157)):=by rw[eB];exact(Below.refl _ w).alloc Af _
 clear aB e0 e1 e2 e3;have cA:=Uu (hK.drewN 1);have cB:=Uv (hK.drewN 1);rw[<-ep] at cA;rw[<-eq] at cB;have HW:=I hW;clear hW;clear aQ ae ep eq hK;go_enter Tryz.func75,Tryz.ntmps75
 go_upto_region 1 with fail
 rw[<-eB];clear eB;have HM:=I hm;clear hm;generalize w.alloc (.cells kz 157)=w1 at cA cB HW⊢;refine wp_region_still_lit (by kernel_rfl) (by kernel_rfl) ?_;change wpStill _ _ w1.drew _ _ _
 repeat still_step
 still_call cA
 repeat still_step
 still_call cB
 repeat still_step
 refine wpStill_nil ?_
 try change _ w1.drew
 clear cA cB
 go_upto_region 3 with fail
 obtain⟨g,eg⟩:=Aj (w1.heap.size);have ai:Blk (w1.alloc (.cells #[.int .u64 (v0.toNat:Int),.int .u64 (v1.toNat:Int),.int .u64 (v2.toNat:Int),.int .u64 (v3.toNat:Int)] 218)).drew g 218 (DE (full ks l (0 / 8))):=Blk.drewN (Blk.new_of w1 g _ _ _ HS.o.symm eg.symm) 1;have aw:Below B w (w1.alloc (.cells #[.int .u64 (v0.toNat:Int),.int .u64 (v1.toNat:Int),.int .u64 (v2.toNat:Int),.int .u64 (v3.toNat:Int)] 218)).drew:=below_drewN (HW.o.alloc (by rw[EB.o];exact HW.o.size) _) 1;have hg:B<=g:=by rw[eg,EB.o];exact HW.o.size
 rw[<-eg];generalize (w1.alloc (.cells #[.int .u64 (v0.toNat:Int),.int .u64 (v1.toNat:Int),.int .u64 (v2.toNat:Int),.int .u64 (v3.toNat:Int)] 218)).drew=w2 at ai aw⊢;have ay:=I ai;clear ai;have aC:=I aw;clear aw;have X:=I hg;clear hg;clear HS HW eg x0 x1 x2 x3;have l5:(n:Int)<=100000:=by omega
 have c0:(n:Int)<=(c:Int):=by omega
 have bd:c<=9223372036854775807:=by have:=HM.o;unfold maxLen at this;omega
 have ba:(c:Int)<=9223372036854775807:=by omega
 go_wp2_with fail
 go_loopw [8] (fun iv wr=>∃u:Nat,u<=n/\u % 8=0/\iv=.int .i64 (u:Int)/\Below B w wr/\Blk wr g 218 (DE (full ks l (u / 8)))) (fun iv _=>n - (intOf iv).toNat)
 case atStart=>exact⟨0,Nat.zero_le _,rfl,rfl,aC.o,ay.o⟩
 case round=>
  clear ay aC;obtain⟨u,hu,aE,rfl,hW,hB⟩:=hrel;have HW:=I hW;clear hW;have HB:=I hB;clear hB;have ao:=I aE;clear aE;have d0:(0:Int)<=(u:Int):=by omega
  have d1:(u:Int)<=(n:Int):=by omega
  by_cases hx:n - u<8
  ·have hj:u / 8=n / 8:=by have:=ao.o;omega
   have t1:(n:Int) - (u:Int)<8:=by omega
   have HX:=I hx;clear hx;have HJ:=I hj;clear hj;obtain⟨k,ek⟩:=Aj (n % 256);have hand:bits .and .i64 (n:Int) 255=(k:Int):=by rw[PQ,ek];omega
   have k1:(k:Int)<256:=by omega
   have k2:(0:Int)<=(k:Int):=by omega
   have aW:IntKind.u64.wrap (k:Int)=(k:Int):=by rw[IntKind.wrap_u64];omega
   have aJ:u=8*(l.length / 8):=by have:=ao.o;have:=HN.o;have:=HX.o;omega
   have aA:(l.drop u).length=n - u:=by rw[List.length_drop,HN.o]
   obtain⟨mw,af⟩:∃m,m=wd (BR (l.drop u)):=⟨_,rfl⟩;obtain⟨lw,aj⟩:∃m,m=NY (stOf ks l):=⟨_,rfl⟩;have aN:mw.toNat=BR (l.drop u):=by rw[af];exact Jl _ (JL (by have:=HX.o;omega))
   have aD:bits .or .u64 (mw.toNat:Int) (IntKind.u64.wrap ((k:Int)*72057594037927936))=(lw.toNat:Int):=by
    have h:=PR ks l;rw[<-aJ,<-aN,<-HN.o,<-ek,<-aj] at h;exact h
   have aU:bits .or .u64 (mw.toNat:Int) ((k:Int)*72057594037927936)=(lw.toNat:Int):=by
    rw[<-aD,IntKind.wrap_u64];congr 1;omega
   have cA:=LC none (n - u) (c - u) (l.drop u) wr B aA.symm (by have:=HX.o;omega) (.inl (by rw[List.eq_nil_of_length_eq_zero (l:=l.drop u) (by have:=H0.o;omega)];rfl));have cB:u=c->Calls Tryz.prog 119 #[.slice none 0 0] wr fun e w'=>e=.returned (wv (wd (BR (l.drop u))))/\w'=wr:=fun h=>LC none 0 0 (l.drop u) wr B (by omega) (by decide) (.inl (by rw[List.eq_nil_of_length_eq_zero (l:=l.drop u) (by omega)];rfl))
   rw[<-af] at cA;rw[<-af] at cB;obtain⟨⟨a,b,cc,d⟩,e1⟩:∃t,t=addM (full ks l (u / 8)) lw:=⟨_,rfl⟩;obtain⟨c1,ec⟩:∃x,x=cc ^^^ 255#64:=⟨_,rfl⟩;obtain⟨V0,eV⟩:∃x:V,x=⟨a,b,c1,d⟩:=⟨_,rfl⟩;obtain⟨⟨a2,b2,c2,d2⟩,e2⟩:∃t,t=rnds 4 V0:=⟨_,rfl⟩;obtain⟨q1,au⟩:∃x,x=a2 ^^^ b2:=⟨_,rfl⟩;obtain⟨q2,av⟩:∃x,x=q1 ^^^ c2:=⟨_,rfl⟩;obtain⟨q3,ak⟩:∃x,x=q2 ^^^ d2:=⟨_,rfl⟩;have ag:GY ks l=q3:=by
    have hv:(stOf ks l).v=full ks l (u / 8):=by rw[FF,HJ.o,HN.o]
    rw[GY,finS,<-aj,hv,<-e1,fin,<-ec,<-eV,<-e2,allX,<-au,<-av,<-ak]
   have x0:bits .xor .u64 (cc.toNat:Int) 255=(c1.toNat:Int):=by rw[ec];exact BG cc 255#64
   have x1:bits .xor .u64 (a2.toNat:Int) (b2.toNat:Int)=(q1.toNat:Int):=by rw[au];exact BG _ _
   have x2:bits .xor .u64 (q1.toNat:Int) (c2.toNat:Int)=(q2.toNat:Int):=by rw[av];exact BG _ _
   have x3:bits .xor .u64 (q2.toNat:Int) (d2.toNat:Int)=(q3.toNat:Int):=by rw[ak];exact BG _ _
   have ct:=VD g (full ks l (u / 8)) lw wr HB.o;rw[<-e1] at ct;have aM:=I ag;clear ag;have EV:=I eV;clear eV;have E2:=I e2;clear e2;have az:=I x0;clear x0;have aT:=I x1;clear x1;have aX:=I x2;clear x2;have aR:=I x3;clear x3;have ab:=I (Blk.lt HB.o);clear e1 ec au av ak aN af aj aA aJ ek HJ ao
   go_upto_region 7 with fail
   go_cut [] from 39 to 50 (fun wx=>Below B w wx/\Blk wx g 218 (DE ⟨a,b,cc,d⟩))
   case first=>
    have ad:u=c\/u<c:=by omega
    rcases ad with ad | ad
    ·have aI:=cB ad;clear cB
     clear cA;subst ad
     go_wp2_with (first
      |(go_at_call 119;refine Ah aI ?_;rintro w' hw;have hw:=hw.symm;subst hw;clear aI)
      |(go_at_call 120;refine Ah ct ?_;rintro v1 ⟨M,aa⟩;clear ct;have O:=I M;have Z:=I (Ak HW.o aa (by have:=ab.o;have:=X.o;omega) X.o);clear M aa))
     go_meet
     exact⟨Z.o,O.o⟩
    ·clear cB
     have aZ:(u:Int)<(c:Int):=by omega
     go_wp2_with (first
      |(go_at_call 119;refine Ah cA ?_;rintro w' hw;have hw:=hw.symm;subst hw;clear cA)
      |(go_at_call 120;refine Ah ct ?_;rintro v1 ⟨M,aa⟩;clear ct;have O:=I M;have Z:=I (Ak HW.o aa (by have:=ab.o;have:=X.o;omega) X.o);clear M aa))
     go_meet
     exact⟨Z.o,O.o⟩
   case rest=>
    obtain⟨aP,M⟩:=hcut;have O:=I M;clear M;have Z:=I aP;clear aP;have k2:wc.cell? ⟨g,2,none⟩=some (.int .u64 (cc.toNat:Int)):=by rw[O.o.cell];rfl
    have fz:=O.o.frozen;have x0:=az.o;clear az hand aW aD aU cA cB ct
    go_upto_region 8 with fail
    refine wp_region_still_tail 8 (by kernel_rfl) (by kernel_rfl) ?_;simp only[List.take_succ_cons,List.take_zero,List.drop_succ_cons,List.drop_zero];change wpStill _ _ wc.drew _ _ _
    repeat still_step
    refine wpStill_nil ?_;change wpList _ _ _ _ _ wc.drew
    go_upto_region 9 with fail
    have ah:Blk (wc.setCell ⟨g,2,none⟩ (.int .u64 (c1.toNat:Int))).drew g 218 (DE V0):=by rw[EV.o];exact Blk.set O.o 2 (wv c1)
    have ar:Below B w (wc.setCell ⟨g,2,none⟩ (.int .u64 (c1.toNat:Int))).drew:=below_drewN (AX Z.o X.o _) 1;generalize (wc.setCell ⟨g,2,none⟩ (.int .u64 (c1.toNat:Int))).drew=v2 at ah ar⊢;have ax:=I ah;clear ah;have aK:=I ar;clear ar;clear k2 fz x0 O Z ab HB HW
    go_wp2_with fail
    go_loopw [9] (fun iv wr=>∃i:Nat,i<=4/\iv=.int .i64 (i:Int)/\Below B w wr/\Blk wr g 218 (DE (rnds i V0))) (fun iv _=>4 - (intOf iv).toNat)
    case atStart=>exact⟨0,by decide,rfl,aK.o,ax.o⟩
    case round=>
     obtain⟨i,hi,rfl,aG,aL⟩:=hrel;clear ax aK;have an:=I aL;clear aL;have aO:=I aG;clear aG
     by_cases hi4:i=4
     ·subst hi4
      have Y:=an.o;rw[<-E2.o] at Y;have k0:wr.cell? ⟨g,0,none⟩=some (.int .u64 (a2.toNat:Int)):=by rw[Y.cell];rfl
      have k1:wr.cell? ⟨g,1,none⟩=some (.int .u64 (b2.toNat:Int)):=by rw[Y.cell];rfl
      have k2:wr.cell? ⟨g,2,none⟩=some (.int .u64 (c2.toNat:Int)):=by rw[Y.cell];rfl
      have k3:wr.cell? ⟨g,3,none⟩=some (.int .u64 (d2.toNat:Int)):=by rw[Y.cell];rfl
      have x1:=aT.o;have x2:=aX.o;have x3:=aR.o;clear Y
      go_upto_region 13 with fail
      refine wp_region_still_lit (by kernel_rfl) (by kernel_rfl) ?_;change wpStill _ _ wr.drew _ _ _
      repeat still_step
      refine wpStill_nil ?_
      try change _ wr.drew
      go_wp2_with fail
      go_ret;exact⟨by rw[aM.o];rfl,by rw[<-EB.o];exact below_drewN aO.o 1⟩
     ·have j1:(i:Int)<4:=by omega
      have j2:(0:Int)<=(i:Int):=by omega
      have cr:=MN g (rnds i V0) wr an.o;have ab:=I (Blk.lt an.o);have aS:=I hi4;clear hi4
      go_wp2_with (go_at_call 121;refine Ah cr ?_;rintro v4 ⟨aF,aH⟩;clear cr;have aY:=I aF;have aV:=I aH;clear aF aH)
      go_roundw
      case rel=>exact⟨i+1,by have:=aS.o;omega,by go_num,Ak aO.o aV.o (by have:=ab.o;have:=X.o;omega) X.o,aY.o⟩
      case measure=>simp [intOf];omega
  ·have t1:(8:Int)<=(n:Int) - (u:Int):=by omega
   exact absurd H0.o (by omega)
theorem SF (ks:Nat->UInt8) (A:Option Addr) (n c:Nat) (l:List UInt8) (w:World) (M:n=l.length) (X:n<=100000) (Y:n<=c) (hm:c<=maxLen) (O:Rd w w.heap.size A (bvs l)) :
  Calls Tryz.prog 75 #[.agg (AN ks),.slice A n c] w fun e w'=>e=.returned (wv (GY ks l))/\Below w.heap.size w w':=by
 cases A with
 |some x=>exact PS ks x n c l w M X Y hm O
 |none=>
  refine PV ks n c l w M X Y hm ?_;rcases O with h | ⟨b,o,Z,_,_⟩
  ·rw[M,List.map_eq_nil_iff.1 h];rfl
  ·cases Z
theorem Cc:(Tryz.prog.info? 5).map (fun i=>(i.zero,i.size,i.bytes))=some (some (.int .u8 0),1,1):=by kernel_rfl
theorem FE (w:World) (t:TypeId) (cs:Array Value) (l:List Value) (h:cs.toList=l) (N:Nat) (M:w.heap.size=N):Rd (w.alloc (.cells cs t)) (N+1) (some ⟨N,0,none⟩) l:=by
 subst M;refine .inr ⟨w.heap.size,0,rfl,by omega,fun i u hu=>?_⟩;rw[Nat.zero_add,(Blk.new w t cs).cell i];rw[<-h] at hu
 simpa using hu
theorem DN {w w':World} {base:Nat} {t:TypeId} {v:Value} {n:Nat} {xs:List Value} {o:Obj} (h:w.ownsRow base t 1 v n xs) (e:w'.heap=w.heap.push o):w'.ownsRow base t 1 v n xs:=by
 obtain⟨X,h | ⟨g,cap,cur,hv,Z,M,Y⟩⟩:=h
 ·exact⟨X,.inl h⟩
 ·refine⟨X,.inr ⟨g,cap,cur,hv,Z,?_,Y⟩⟩
  have O:=Blk.lt (t:=t) (cs:=cur) M;rw[e,Array.getElem?_push_lt O,<-Array.getElem?_eq_getElem O];exact M
theorem Oc {w:World} (t:TypeId) (vs:List Value) (rows:List (List UInt8)) (cs:Array Value) (hc:cs.toList=vs) (X:vs.length=rows.length)
  (h:∀i (h:i<rows.length),∃(M:Option Addr) (ci:Nat),vs[i]? = some (.slice M (rows[i]).length ci)/\Rd w w.heap.size M (bvs rows[i])):Rows (w.alloc (.cells cs t)) (w.alloc (.cells cs t)).heap.size (some ⟨w.heap.size,0,none⟩) rows:=by
 refine⟨vs,X,(FE w t cs vs hc w.heap.size rfl).more (by simp),fun i Y=>?_⟩;obtain⟨M,ci,O,Z⟩:=h i Y;exact⟨M,ci,O,(Z.alloc Af _).more (by simp)⟩
end Si
end Go.Proofs.YtlccngianpfalaaGreat
