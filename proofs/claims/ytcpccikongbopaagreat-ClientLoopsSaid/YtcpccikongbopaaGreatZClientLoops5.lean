import Derived.Test.YtcpccikongbopaaGreatZClientLoops4
set_option maxHeartbeats 25600000
set_option maxRecDepth 100000
set_option linter.unusedVariables false
set_option linter.unusedSimpArgs false
namespace Go.Proofs.YtcpccikongbopaaGreat
namespace Si
open Go.RowKit Ae
def Rows (w:World) (B:Nat) (A:Option Addr) (rows:List (List UInt8)):Prop:=
 ∃vs:List Value,vs.length=rows.length/\Rd w B A vs/\∀i (h:i<rows.length),∃(Ai:Option Addr) (ci:Nat),vs[i]? = some (.slice Ai (rows[i]).length ci)/\Rd w B Ai (bvs rows[i])
theorem Rows.below {w w':World} {B:Nat} {A:Option Addr} {rows:List (List UInt8)} (h:Rows w B A rows) (M:Below B w w'):Rows w' B A rows:=by
 obtain⟨vs,X,Z,h3⟩:=h;refine⟨vs,X,Z.below M,fun i hi=>?_⟩;obtain⟨O,ci,h4,Y⟩:=h3 i hi;exact⟨O,ci,h4,Y.below M⟩
def flat (rows:List (List UInt8)):List UInt8:=rows.flatten
theorem PO (rows:List (List UInt8)) (i:Nat) (h:i<rows.length):flat (rows.take (i+1))=flat (rows.take i)++rows[i]:=by
 unfold flat;rw[List.take_succ_eq_append_getElem h,List.flatten_append];simp
theorem ID (rows:List (List UInt8)) (i:Nat):(flat (rows.take i)).length<=(flat rows).length:=by
 have h:rows=rows.take i++rows.drop i:=(List.take_append_drop i rows).symm;have M:flat rows=flat (rows.take i)++flat (rows.drop i):=by
  unfold flat;rw[<-List.flatten_append,List.take_append_drop]
 rw[M,List.length_append];omega
def LG (ks:Nat->UInt8) (l:List UInt8):Array Value:=stc (stOf ks l)
theorem Oc (g:Nat) (ks:Nat->UInt8) (l:List UInt8) (y:UInt8) (w:World) (M:l.length<100000) (hB:Blk w g 274 (LG ks l)) :
  Calls Tryz.prog 202 #[.pointer (some ⟨g,0,none⟩),.int .u8 (y.toNat:Int)] w fun e w'=>e=.returned (.tuple #[])/\Blk w' g 274 (LG ks (l++[y]))/\w.grownBy w' (some g):=by
 have h:=LF g (stOf ks l) y w (by rw[Xj];exact M) (Uu ks l) hB;rw[<-KA] at h;exact h
theorem Xp (g:Nat) (ks:Nat->UInt8) (l:List UInt8) (w:World) (hB:Blk w g 274 (LG ks l)) :
  Calls Tryz.prog 203 #[.pointer (some ⟨g,0,none⟩)] w fun e w'=>e=.returned (wv (GY ks l))/\w.grownBy w' (some g):=
 VG g (stOf ks l) w (Nat.lt_of_lt_of_le (Uu ks l) (SF _ (by omega))) hB
theorem PQ (l:List UInt8) (j:Nat) (h:j<l.length):l.take (j+1)=l.take j++[l[j]]:=List.take_succ_eq_append_getElem h
theorem VH (ks:Nat->UInt8) (A:Option Addr) (n c:Nat) (rows:List (List UInt8)) (w:World) (hn:n=rows.length) (aL:n<=100000) (hl:(flat rows).length<100000) (hr:Rows w w.heap.size A rows) :
  Calls Tryz.prog 177 #[.agg (AN ks),.slice A n c] w fun e w'=>e=.returned (wv (GY ks (flat rows)))/\Below w.heap.size w w':=by
 obtain⟨vs,hv,an,X⟩:=hr;obtain⟨B,eB⟩:=Aj (w.heap.size);rw[<-eB] at an X;have EB:=I eB;have aM:=I an;clear an;have ah:=I X;clear X;have HN:=I hn;clear hn;have e5:(n:Int)<=100000:=by omega
 clear aL;have HL:=I hl;clear hl;have HV:=I hv;clear hv;have hk:AN ks=#[.int .u8 ((ks 0).toNat:Int),.int .u8 ((ks 1).toNat:Int),.int .u8 ((ks 2).toNat:Int),.int .u8 ((ks 3).toNat:Int),.int .u8 ((ks 4).toNat:Int),.int .u8 ((ks 5).toNat:Int),.int .u8 ((ks 6).toNat:Int),.int .u8 ((ks 7).toNat:Int),.int .u8 ((ks 8).toNat:Int),.int .u8 ((ks 9).toNat:Int),.int .u8 ((ks 10).toNat:Int),.int .u8 ((ks 11).toNat:Int),.int .u8 ((ks 12).toNat:Int),.int .u8 ((ks 13).toNat:Int),.int .u8 ((ks 14).toNat:Int),.int .u8 ((ks 15).toNat:Int)]:=rfl;have cb:=PN ks;rw[hk] at cb⊢;have hs:stc ⟨start ks,0,0⟩=#[wv (start ks).a,wv (start ks).b,wv (start ks).c,wv (start ks).d,.int .u64 0,.int .u64 0]:=rfl;rw[hs] at cb;have ak:LG ks []=#[wv (start ks).a,wv (start ks).b,wv (start ks).c,wv (start ks).d,.int .u64 0,.int .u64 0]:=rfl;obtain⟨p0,e0⟩:∃x,x=(start ks).a:=⟨_,rfl⟩;obtain⟨p1,e1⟩:∃x,x=(start ks).b:=⟨_,rfl⟩;obtain⟨p2,e2⟩:∃x,x=(start ks).c:=⟨_,rfl⟩;obtain⟨p3,e3⟩:∃x,x=(start ks).d:=⟨_,rfl⟩;rw[<-e0,<-e1,<-e2,<-e3] at ak cb;have ax:=I ak;clear ak;clear hk hs e0 e1 e2 e3;go_enter Tryz.func177,Tryz.ntmps177
 go_upto_region 2 with(go_at_call 201;refine Ah (cb _) ?_;rintro w1 aG;have aF:Below w.heap.size w w1:=((Below.refl w.heap.size w).alloc Af _).trans (aG.mono (by simp));have ab:=I aF;clear aF aG cb)
 clear eB;obtain⟨g,eg⟩:=Aj (w1.heap.size);have ao:Blk (w1.alloc (.cells #[.int .u64 (p0.toNat:Int),.int .u64 (p1.toNat:Int),.int .u64 (p2.toNat:Int),.int .u64 (p3.toNat:Int),.int .u64 0,.int .u64 0] 274)) g 274 (LG ks []):=Blk.new_of w1 g _ _ _ ax.o.symm eg.symm;have ai:Below B w (w1.alloc (.cells #[.int .u64 (p0.toNat:Int),.int .u64 (p1.toNat:Int),.int .u64 (p2.toNat:Int),.int .u64 (p3.toNat:Int),.int .u64 0,.int .u64 0] 274)):=by rw[EB.o];exact ab.o.alloc ab.o.size _
 have hg:B<=g:=by rw[eg,EB.o];exact ab.o.size
 rw[<-eg];generalize w1.alloc (.cells #[.int .u64 (p0.toNat:Int),.int .u64 (p1.toNat:Int),.int .u64 (p2.toNat:Int),.int .u64 (p3.toNat:Int),.int .u64 0,.int .u64 0] 274)=w2 at ao ai⊢;have aA:=I ao;clear ao;have aC:=I ai;clear ai;have ae:=I hg;clear hg;clear ax ab eg
 go_wp2_with fail
 go_loopw [14] (fun iv wr=>∃i:Nat,i<=n/\iv=.int .i64 (i:Int)/\Below B w wr/\Blk wr g 274 (LG ks (flat (rows.take i)))) (fun iv _=>n - (intOf iv).toNat)
 case atStart=>exact⟨0,Nat.zero_le _,rfl,aC.o,by rw[List.take_zero];exact aA.o⟩
 case round=>
  clear aA aC;obtain⟨i,hi,rfl,hW,hB⟩:=hrel;have HW:=I hW;clear hW;have HB:=I hB;clear hB
  by_cases hx:i=n
  ·have he:rows.take i=rows:=List.take_of_length_le (by have:=HN.o;omega)
   have ce:=Xp g ks (flat (rows.take i)) wr HB.o;rw[he] at ce;subst hx;clear he
   go_wp2_with (go_at_call 203;refine Ah ce ?_;rintro w3 aw;clear ce;have aP:=I aw;clear aw)
   go_ret;exact⟨rfl,by rw[<-EB.o];exact Ak HW.o aP.o (by have:=HW.o.size;have:=Blk.lt HB.o;have:=ae.o;omega) ae.o⟩
  ·have aW:i<n:=by omega
   have ad:i<rows.length:=by have:=HN.o;omega
   have e1:(i:Int)<(n:Int):=by omega
   have e2:(0:Int)<=(i:Int):=by omega
   obtain⟨row,Z⟩:∃r,r=rows[i]:=⟨_,rfl⟩;obtain⟨pre,aa⟩:∃r,r=flat (rows.take i):=⟨_,rfl⟩;have Y:flat (rows.take (i+1))=pre++row:=by rw[aa,Z];exact PO rows i ad
   have hlen:(pre++row).length<100000:=by rw[<-Y];exact Nat.lt_of_le_of_lt (ID rows (i+1)) HL.o
   obtain⟨Ai,ci,au,af⟩:=ah.o i ad;rw[<-Z] at au af;have aj:=HB.o;rw[<-aa] at aj;have aB:=I aj;clear aj HB;obtain⟨b,o,rfl,aI,O⟩:=aM.o.at_ au;obtain⟨m,em⟩:=Aj (row.length);rw[<-em] at O;have hc:wr.cell? ⟨b,o+i,none⟩=some (.slice Ai m ci):=(HW.o.cell (p:=⟨b,o+i,none⟩) aI).trans O;have aR:=I Y;clear Y;have aN:=I af;clear af;have HX:=I hx;clear hx;have HI:=I hi;clear hi;have e6:(m:Int)<100000:=by have:=hlen;rw[List.length_append] at this;omega
   have HM:=I em;clear em;have aO:=I hlen;clear hlen;have aV:=I ad;clear au O Z aa ad
   go_wp2_with fail
   go_loopw [20] (fun jv wx=>∃j:Nat,j<=m/\jv=.int .i64 (j:Int)/\Below B w wx/\Blk wx g 274 (LG ks (pre++row.take j))) (fun jv _=>m - (intOf jv).toNat)
   case atStart=>exact⟨0,Nat.zero_le _,rfl,HW.o,by rw[List.take_zero,List.append_nil];exact aB.o⟩
   case round=>
    clear hc HW aB;obtain⟨j,hj,rfl,ay,aD⟩:=hrel;have ag:=I ay;clear ay;have ar:=I aD;clear aD
    by_cases hy:j=m
    ·have he:row.take j=row:=List.take_of_length_le (by have:=HM.o;omega)
     have HE:=I he;clear he;subst hy
     go_wp2_with fail
     go_roundw
     case rel=>exact⟨i+1,by omega,by go_num,ag.o,by rw[aR.o];have:=ar.o;rw[HE.o] at this;exact this⟩
     case measure=>simp [intOf];omega
    ·have aT:j<m:=by omega
     have av:j<row.length:=by have:=HM.o;omega
     have f1:(j:Int)<(m:Int):=by omega
     have f2:(0:Int)<=(j:Int):=by omega
     obtain⟨b2,o2,rfl,aJ,M⟩:=aN.o.at_ (DT av);obtain⟨y,ey⟩:=Aj (row[j]);rw[<-ey] at M;have aU:wr.cell? ⟨b2,o2+j,none⟩=some (.int .u8 (y.toNat:Int)):=(ag.o.cell (p:=⟨b2,o2+j,none⟩) aJ).trans M;have aH:(pre++row.take j)++[y]=pre++row.take (j+1):=by rw[PQ row j av,<-ey,List.append_assoc]
     have ca:=Oc g ks (pre++row.take j) y wr (by have:=aO.o;rw[List.length_append] at this⊢;have:(row.take j).length<=row.length:=by{rw[List.length_take];omega};omega) ar.o;rw[aH] at ca;have HY:=I hy;clear hy;have HJ:=I hj;clear hj;have aQ:=I (Blk.lt ar.o);clear M ey aH av
     go_wp2_with (go_at_call 202;refine Ah ca ?_;rintro w4 ⟨aE,az⟩;clear ca;have aS:=I aE;have aK:=I az;clear aE az)
     go_roundw
     case rel=>exact⟨j+1,by omega,by go_num,Ak ag.o aK.o (by have:=aQ.o;have:=ae.o;omega) ae.o,aS.o⟩
     case measure=>simp [intOf];omega
theorem PR (n:Int):bits .and .i64 n 255=n % 256:=by
 have M:(BitVec.ofInt 64 255).toNat=2 ^ 8 - 1:=by decide
 have key:(BitVec.ofInt 64 n &&& BitVec.ofInt 64 255).toNat=(n % ((2 ^ 64:Nat):Int)).toNat % 2 ^ 8:=by
  rw[BitVec.toNat_and,BitVec.toNat_ofInt,M,Nat.and_two_pow_sub_one_eq_mod]
 show IntKind.i64.wrap ((BitVec.ofInt 64 n &&& BitVec.ofInt 64 255).toNat:Nat)=n % 256;rw[key,IntKind.wrap_i64];omega
theorem Rd.drop {w:World} {B:Nat} {x:Addr} {l:List UInt8} (h:Rd w B (some x) (bvs l)) (p:Nat):Rd w B (some (x.add p)) (bvs (l.drop p)):=by
 rcases h with h | ⟨b,o,M,O,X⟩
 ·left
  have:l = []:=List.map_eq_nil_iff.1 h;rw[this];simp [bvs]
 ·injection M with M
  subst M;rw[addr_add];refine .inr ⟨b,o+p,rfl,O,fun i u hu=>?_⟩;have:(bvs l)[p+i]? = some u:=by
   rw[<-hu];simp [bvs,List.getElem?_drop]
  have:=X _ _ this
  rwa [Nat.add_assoc]
theorem Rd.take {w:World} {B:Nat} {A:Option Addr} {l:List UInt8} (h:Rd w B A (bvs l)) (k:Nat):Rd w B A (bvs (l.take k)):=by
 rcases h with h | ⟨b,o,M,O,X⟩
 ·left
  have:l = []:=List.map_eq_nil_iff.1 h;rw[this];simp [bvs]
 ·refine .inr ⟨b,o,M,O,fun i u hu=>X i u ?_⟩
  rw[<-hu];have Y:i<k:=by
   rcases Nat.lt_or_ge i k with g | g
   ·exact g
   ·rw[List.getElem?_eq_none (by simp [bvs];omega)] at hu;cases hu
  simp [bvs,Y]
theorem rd_key {w:World} {B:Nat} {t:TypeId} {ks:Nat->UInt8} (h:Blk w B t (AN ks)) (o:Nat) (O:o+8<=16):Rd w (B+1) (some ⟨B,o,none⟩) (bvs ((List.range 8).map fun i=>ks (o+i))):=by
 refine .inr ⟨B,o,rfl,by omega,fun i u hu=>?_⟩;have M:i<8:=by
  rcases Nat.lt_or_ge i 8 with g | g
  ·exact g
  ·rw[List.getElem?_eq_none (by simp [bvs];omega)] at hu;cases hu
 rw[h.cell,FC _ _ (by omega)];rw[<-hu];simp [bvs,M]
theorem Uw {w:World} {B:Nat} {t:TypeId} {ks:Nat->UInt8} (h:Blk w B t (AN ks)):Calls Tryz.prog 131 #[.slice (some ⟨B,0,none⟩) 8 16] w fun e w'=>e=.returned (wv (kA ks))/\w'=w:=by
 have M:=rd_key h 0 (by decide);have:=LD (some ⟨B,0,none⟩) 8 16 _ w (B+1) (by simp) (by decide) M;have e:((List.range 8).map fun i=>ks (0+i))=(List.range 8).map ks:=by simp
 rw[e] at this;exact this
theorem Ux {w:World} {B:Nat} {t:TypeId} {ks:Nat->UInt8} (h:Blk w B t (AN ks)):Calls Tryz.prog 131 #[.slice (some ⟨B,8,none⟩) 8 8] w fun e w'=>e=.returned (wv (kB ks))/\w'=w:=
 LD (some ⟨B,8,none⟩) 8 8 _ w (B+1) (by simp) (by decide) (rd_key h 8 (by decide))
theorem PS (ks:Nat->UInt8) (l:List UInt8):bits .or .u64 (BS (l.drop (8*(l.length / 8))):Nat) (IntKind.u64.wrap (((l.length % 256:Nat):Int)*72057594037927936))=((Oa (stOf ks l)).toNat:Int):=by
 have M:BS (l.drop (8*(l.length / 8)))<72057594037927936:=PK (by rw[List.length_drop];omega);have h:=MN (BS (l.drop (8*(l.length / 8)))) (l.length % 256) M;rw[IntKind.wrap_u64,h,Nat.mod_mod];rw[KE _ (by rw[FF];exact M),FF]
def stcV (ks:Nat->UInt8):Array Value:=DE (start ks)
theorem PV (ks:Nat->UInt8) (x:Addr) (n c:Nat) (l:List UInt8) (w:World) (hn:n=l.length) (hl:n<=100000) (hc:n<=c) (hm:c<=maxLen) (hr:Rd w w.heap.size (some x) (bvs l)) :
  Calls Tryz.prog 87 #[.agg (AN ks),.slice (some x) n c] w fun e w'=>e=.returned (wv (GY ks l))/\Below w.heap.size w w':=by
 obtain⟨B,eB⟩:=Aj (w.heap.size);rw[<-eB] at hr;have EB:=I eB;have HR:=I hr;clear hr;have HN:=I hn;clear hn;have aX:AN ks=#[.int .u8 ((ks 0).toNat:Int),.int .u8 ((ks 1).toNat:Int),.int .u8 ((ks 2).toNat:Int),.int .u8 ((ks 3).toNat:Int),.int .u8 ((ks 4).toNat:Int),.int .u8 ((ks 5).toNat:Int),.int .u8 ((ks 6).toNat:Int),.int .u8 ((ks 7).toNat:Int),.int .u8 ((ks 8).toNat:Int),.int .u8 ((ks 9).toNat:Int),.int .u8 ((ks 10).toNat:Int),.int .u8 ((ks 11).toNat:Int),.int .u8 ((ks 12).toNat:Int),.int .u8 ((ks 13).toNat:Int),.int .u8 ((ks 14).toNat:Int),.int .u8 ((ks 15).toNat:Int)]:=rfl;have aI:stcV ks=#[wv (start ks).a,wv (start ks).b,wv (start ks).c,wv (start ks).d]:=rfl;obtain⟨p,ep⟩:∃x,x=kA ks:=⟨_,rfl⟩;obtain⟨q,eq⟩:∃x,x=kB ks:=⟨_,rfl⟩;obtain⟨v0,e0⟩:∃x,x=0x736f6d6570736575#64 ^^^ p:=⟨_,rfl⟩;obtain⟨v1,e1⟩:∃x,x=0x646f72616e646f6d#64 ^^^ q:=⟨_,rfl⟩;obtain⟨v2,e2⟩:∃x,x=0x6c7967656e657261#64 ^^^ p:=⟨_,rfl⟩;obtain⟨v3,e3⟩:∃x,x=0x7465646279746573#64 ^^^ q:=⟨_,rfl⟩;have x0:bits .xor .u64 8317987319222330741 (p.toNat:Int)=(v0.toNat:Int):=by rw[e0];exact BH 0x736f6d6570736575#64 p
 have x1:bits .xor .u64 7237128888997146477 (q.toNat:Int)=(v1.toNat:Int):=by rw[e1];exact BH 0x646f72616e646f6d#64 q
 have x2:bits .xor .u64 7816392313619706465 (p.toNat:Int)=(v2.toNat:Int):=by rw[e2];exact BH 0x6c7967656e657261#64 p
 have x3:bits .xor .u64 8387220255154660723 (q.toNat:Int)=(v3.toNat:Int):=by rw[e3];exact BH 0x7465646279746573#64 q
 have hs:stcV ks=#[.int .u64 (v0.toNat:Int),.int .u64 (v1.toNat:Int),.int .u64 (v2.toNat:Int),.int .u64 (v3.toNat:Int)]:=by
  rw[aI,e0,e1,e2,e3,ep,eq];rfl
 have HS:=I hs;clear hs;obtain⟨kz,ai⟩:=Aj (AN ks);rw[<-ai];have bg:=I ai;have hK:Blk (w.alloc (.cells kz 166)) B 166 (AN ks):=Blk.new_of w B _ _ _ ai eB.symm;have hW:Below B w (w.alloc (.cells kz 166)):=by rw[eB];exact(Below.refl _ w).alloc Af _
 clear aI e0 e1 e2 e3;have cA:=Uw (hK.drewN 1);have cB:=Ux (hK.drewN 1);rw[<-ep] at cA;rw[<-eq] at cB;have HW:=I hW;clear hW;clear aX ai ep eq hK;go_enter Tryz.func87,Tryz.ntmps87
 go_upto_region 1 with fail
 rw[<-eB];clear eB;have HM:=I hm;clear hm;generalize w.alloc (.cells kz 166)=w1 at cA cB HW⊢;refine wp_region_still_lit (by kernel_rfl) (by kernel_rfl) ?_;change wpStill _ _ w1.drew _ _ _
 repeat still_step
 still_call cA
 repeat still_step
 still_call cB
 repeat still_step
 refine wpStill_nil ?_
 try change _ w1.drew
 clear cA cB
 go_upto_region 3 with fail
 obtain⟨g,eg⟩:=Aj (w1.heap.size);have ak:Blk (w1.alloc (.cells #[.int .u64 (v0.toNat:Int),.int .u64 (v1.toNat:Int),.int .u64 (v2.toNat:Int),.int .u64 (v3.toNat:Int)] 226)).drew g 226 (DE (full ks l (0 / 8))):=Blk.drewN (Blk.new_of w1 g _ _ _ HS.o.symm eg.symm) 1;have au:Below B w (w1.alloc (.cells #[.int .u64 (v0.toNat:Int),.int .u64 (v1.toNat:Int),.int .u64 (v2.toNat:Int),.int .u64 (v3.toNat:Int)] 226)).drew:=below_drewN (HW.o.alloc (by rw[EB.o];exact HW.o.size) _) 1;have hg:B<=g:=by rw[eg,EB.o];exact HW.o.size
 rw[<-eg];generalize (w1.alloc (.cells #[.int .u64 (v0.toNat:Int),.int .u64 (v1.toNat:Int),.int .u64 (v2.toNat:Int),.int .u64 (v3.toNat:Int)] 226)).drew=w2 at ak au⊢;have aD:=I ak;clear ak;have aN:=I au;clear au;have X:=I hg;clear hg;clear HS HW eg x0 x1 x2 x3;have l5:(n:Int)<=100000:=by omega
 have c0:(n:Int)<=(c:Int):=by omega
 have bf:c<=9223372036854775807:=by have:=HM.o;unfold maxLen at this;omega
 have bb:(c:Int)<=9223372036854775807:=by omega
 go_wp2_with fail
 go_loopw [8] (fun iv wr=>∃u:Nat,u<=n/\u % 8=0/\iv=.int .i64 (u:Int)/\Below B w wr/\Blk wr g 226 (DE (full ks l (u / 8)))) (fun iv _=>n - (intOf iv).toNat)
 case atStart=>exact⟨0,Nat.zero_le _,rfl,rfl,aN.o,aD.o⟩
 case round=>
  clear aD aN;obtain⟨u,hu,aP,rfl,hW,hB⟩:=hrel;have HW:=I hW;clear hW;have HB:=I hB;clear hB;have ae:=I aP;clear aP;have d0:(0:Int)<=(u:Int):=by omega
  have d1:(u:Int)<=(n:Int):=by omega
  by_cases hx:n - u<8
  ·have hj:u / 8=n / 8:=by have:=ae.o;omega
   have t1:(n:Int) - (u:Int)<8:=by omega
   have HX:=I hx;clear hx;have HJ:=I hj;clear hj;obtain⟨k,ek⟩:=Aj (n % 256);have hand:bits .and .i64 (n:Int) 255=(k:Int):=by rw[PR,ek];omega
   have k1:(k:Int)<256:=by omega
   have k2:(0:Int)<=(k:Int):=by omega
   have aS:IntKind.u64.wrap (k:Int)=(k:Int):=by rw[IntKind.wrap_u64];omega
   have af:u=8*(l.length / 8):=by have:=ae.o;have:=HN.o;have:=HX.o;omega
   have aF:(l.drop u).length=n - u:=by rw[List.length_drop,HN.o]
   obtain⟨mw,Z⟩:∃m,m=wd (BS (l.drop u)):=⟨_,rfl⟩;obtain⟨lw,ax⟩:∃m,m=Oa (stOf ks l):=⟨_,rfl⟩;have aR:mw.toNat=BS (l.drop u):=by rw[Z];exact Jl _ (JM (by have:=HX.o;omega))
   have aK:bits .or .u64 (mw.toNat:Int) (IntKind.u64.wrap ((k:Int)*72057594037927936))=(lw.toNat:Int):=by
    have h:=PS ks l;rw[<-af,<-aR,<-HN.o,<-ek,<-ax] at h;exact h
   have aZ:bits .or .u64 (mw.toNat:Int) ((k:Int)*72057594037927936)=(lw.toNat:Int):=by
    rw[<-aK,IntKind.wrap_u64];congr 1;omega
   have cA:=LD (some (x.add u)) (n - u) (c - u) (l.drop u) wr B aF.symm (by have:=HX.o;omega) (Rd.drop (HR.o.below HW.o) u);have cB:u=c->Calls Tryz.prog 131 #[.slice (some x) 0 0] wr fun e w'=>e=.returned (wv (wd (BS (l.drop u))))/\w'=wr:=fun h=>LD (some x) 0 0 (l.drop u) wr B (by omega) (by decide) (.inl (by rw[List.eq_nil_of_length_eq_zero (l:=l.drop u) (by omega)];rfl))
   rw[<-Z] at cA;rw[<-Z] at cB;obtain⟨⟨a,b,cc,d⟩,e1⟩:∃t,t=addM (full ks l (u / 8)) lw:=⟨_,rfl⟩;obtain⟨c1,ec⟩:∃x,x=cc ^^^ 255#64:=⟨_,rfl⟩;obtain⟨V0,eV⟩:∃x:V,x=⟨a,b,c1,d⟩:=⟨_,rfl⟩;obtain⟨⟨a2,b2,c2,d2⟩,e2⟩:∃t,t=rnds 4 V0:=⟨_,rfl⟩;obtain⟨q1,ay⟩:∃x,x=a2 ^^^ b2:=⟨_,rfl⟩;obtain⟨q2,aw⟩:∃x,x=q1 ^^^ c2:=⟨_,rfl⟩;obtain⟨q3,av⟩:∃x,x=q2 ^^^ d2:=⟨_,rfl⟩;have aj:GY ks l=q3:=by
    have hv:(stOf ks l).v=full ks l (u / 8):=by rw[FF,HJ.o,HN.o]
    rw[GY,finS,<-ax,hv,<-e1,fin,<-ec,<-eV,<-e2,allX,<-ay,<-aw,<-av]
   have x0:bits .xor .u64 (cc.toNat:Int) 255=(c1.toNat:Int):=by rw[ec];exact BH cc 255#64
   have x1:bits .xor .u64 (a2.toNat:Int) (b2.toNat:Int)=(q1.toNat:Int):=by rw[ay];exact BH _ _
   have x2:bits .xor .u64 (q1.toNat:Int) (c2.toNat:Int)=(q2.toNat:Int):=by rw[aw];exact BH _ _
   have x3:bits .xor .u64 (q2.toNat:Int) (d2.toNat:Int)=(q3.toNat:Int):=by rw[av];exact BH _ _
   have ct:=VF g (full ks l (u / 8)) lw wr HB.o;rw[<-e1] at ct;have aL:=I aj;clear aj;have EV:=I eV;clear eV;have E2:=I e2;clear e2;have az:=I x0;clear x0;have ba:=I x1;clear x1;have aV:=I x2;clear x2;have aW:=I x3;clear x3;have ab:=I (Blk.lt HB.o);clear e1 ec ay aw av aR Z ax aF af ek HJ ae
   go_upto_region 7 with fail
   go_cut [] from 39 to 50 (fun wx=>Below B w wx/\Blk wx g 226 (DE ⟨a,b,cc,d⟩))
   case first=>
    have ag:u=c\/u<c:=by omega
    rcases ag with ag | ag
    ·have aH:=cB ag;clear cB
     clear cA;subst ag
     go_wp2_with (first
      |(go_at_call 131;refine Ah aH ?_;rintro w' hw;have hw:=hw.symm;subst hw;clear aH)
      |(go_at_call 132;refine Ah ct ?_;rintro v1 ⟨M,Y⟩;clear ct;have O:=I M;have aa:=I (Ak HW.o Y (by have:=ab.o;have:=X.o;omega) X.o);clear M Y))
     go_meet
     exact⟨aa.o,O.o⟩
    ·clear cB
     have bd:(u:Int)<(c:Int):=by omega
     go_wp2_with (first
      |(go_at_call 131;refine Ah cA ?_;rintro w' hw;have hw:=hw.symm;subst hw;clear cA)
      |(go_at_call 132;refine Ah ct ?_;rintro v1 ⟨M,Y⟩;clear ct;have O:=I M;have aa:=I (Ak HW.o Y (by have:=ab.o;have:=X.o;omega) X.o);clear M Y))
     go_meet
     exact⟨aa.o,O.o⟩
   case rest=>
    obtain⟨aQ,M⟩:=hcut;have O:=I M;clear M;have aa:=I aQ;clear aQ;have k2:wc.cell? ⟨g,2,none⟩=some (.int .u64 (cc.toNat:Int)):=by rw[O.o.cell];rfl
    have fz:=O.o.frozen;have x0:=az.o;clear az hand aS aK aZ cA cB ct
    go_upto_region 8 with fail
    refine wp_region_still_tail 8 (by kernel_rfl) (by kernel_rfl) ?_;simp only[List.take_succ_cons,List.take_zero,List.drop_succ_cons,List.drop_zero];change wpStill _ _ wc.drew _ _ _
    repeat still_step
    refine wpStill_nil ?_;change wpList _ _ _ _ _ wc.drew
    go_upto_region 9 with fail
    have ar:Blk (wc.setCell ⟨g,2,none⟩ (.int .u64 (c1.toNat:Int))).drew g 226 (DE V0):=by rw[EV.o];exact Blk.set O.o 2 (wv c1)
    have ao:Below B w (wc.setCell ⟨g,2,none⟩ (.int .u64 (c1.toNat:Int))).drew:=below_drewN (AX aa.o X.o _) 1;generalize (wc.setCell ⟨g,2,none⟩ (.int .u64 (c1.toNat:Int))).drew=v2 at ar ao⊢;have aE:=I ar;clear ar;have aB:=I ao;clear ao;clear k2 fz x0 O aa ab HB HW
    go_wp2_with fail
    go_loopw [9] (fun iv wr=>∃i:Nat,i<=4/\iv=.int .i64 (i:Int)/\Below B w wr/\Blk wr g 226 (DE (rnds i V0))) (fun iv _=>4 - (intOf iv).toNat)
    case atStart=>exact⟨0,by decide,rfl,aB.o,aE.o⟩
    case round=>
     obtain⟨i,hi,rfl,aO,aC⟩:=hrel;clear aE aB;have an:=I aC;clear aC;have aA:=I aO;clear aO
     by_cases hi4:i=4
     ·subst hi4
      have ad:=an.o;rw[<-E2.o] at ad;have k0:wr.cell? ⟨g,0,none⟩=some (.int .u64 (a2.toNat:Int)):=by rw[ad.cell];rfl
      have k1:wr.cell? ⟨g,1,none⟩=some (.int .u64 (b2.toNat:Int)):=by rw[ad.cell];rfl
      have k2:wr.cell? ⟨g,2,none⟩=some (.int .u64 (c2.toNat:Int)):=by rw[ad.cell];rfl
      have k3:wr.cell? ⟨g,3,none⟩=some (.int .u64 (d2.toNat:Int)):=by rw[ad.cell];rfl
      have x1:=ba.o;have x2:=aV.o;have x3:=aW.o;clear ad
      go_upto_region 13 with fail
      refine wp_region_still_lit (by kernel_rfl) (by kernel_rfl) ?_;change wpStill _ _ wr.drew _ _ _
      repeat still_step
      refine wpStill_nil ?_
      try change _ wr.drew
      go_wp2_with fail
      go_ret;exact⟨by rw[aL.o];rfl,by rw[<-EB.o];exact below_drewN aA.o 1⟩
     ·have j1:(i:Int)<4:=by omega
      have j2:(0:Int)<=(i:Int):=by omega
      have cr:=MO g (rnds i V0) wr an.o;have ab:=I (Blk.lt an.o);have aU:=I hi4;clear hi4
      go_wp2_with (go_at_call 133;refine Ah cr ?_;rintro v4 ⟨aG,aM⟩;clear cr;have aT:=I aG;have aY:=I aM;clear aG aM)
      go_roundw
      case rel=>exact⟨i+1,by have:=aU.o;omega,by go_num,Ak aA.o aY.o (by have:=ab.o;have:=X.o;omega) X.o,aT.o⟩
      case measure=>simp [intOf];omega
  ·have t1:(8:Int)<=(n:Int) - (u:Int):=by omega
   have t2:(u:Int)+8<=(n:Int):=by omega
   have t3:u+8<=n:=by omega
   have HX:=I hx;clear hx;have hj:(u+8) / 8=u / 8+1:=by omega
   have af:u=8*(u / 8):=by have:=ae.o;omega
   have aJ:((l.drop u).take 8).length=8:=by rw[List.length_take,List.length_drop,<-HN.o];omega
   have cA:=LD (some (x.add u)) 8 (c - u) ((l.drop u).take 8) wr B aJ.symm (by decide) (Rd.take (Rd.drop (HR.o.below HW.o) u) 8);obtain⟨mw,Z⟩:∃m,m=wd (BS ((l.drop u).take 8)):=⟨_,rfl⟩;rw[<-Z] at cA;have ah:addM (full ks l (u / 8)) mw=full ks l ((u+8) / 8):=by rw[hj,full,<-af,<-Z]
   have ct:=VF g (full ks l (u / 8)) mw wr HB.o;rw[ah] at ct;have ab:=I (Blk.lt HB.o);clear hj af aJ Z ah
   go_wp2_with (first
    |(go_at_call 131;refine Ah cA ?_;rintro w' hw;have hw:=hw.symm;subst hw;clear cA)
    |(go_at_call 132;refine Ah ct ?_;rintro v1 ⟨M,Y⟩;clear ct;have O:=I M;have aa:=I (Ak HW.o Y (by have:=ab.o;have:=X.o;omega) X.o);clear M Y))
   go_roundw
   case rel=>exact⟨u+8,by omega,by have:=ae.o;omega,by go_num,aa.o,O.o⟩
   case measure=>simp [intOf];omega
theorem PY (ks:Nat->UInt8) (n c:Nat) (l:List UInt8) (w:World) (hn:n=l.length) (hl:n<=100000) (hc:n<=c) (hm:c<=maxLen) (h0:n=0) :
  Calls Tryz.prog 87 #[.agg (AN ks),.slice none n c] w fun e w'=>e=.returned (wv (GY ks l))/\Below w.heap.size w w':=by
 obtain⟨B,eB⟩:=Aj (w.heap.size);have EB:=I eB;have H0:=I h0;clear h0;have HN:=I hn;clear hn;have aV:AN ks=#[.int .u8 ((ks 0).toNat:Int),.int .u8 ((ks 1).toNat:Int),.int .u8 ((ks 2).toNat:Int),.int .u8 ((ks 3).toNat:Int),.int .u8 ((ks 4).toNat:Int),.int .u8 ((ks 5).toNat:Int),.int .u8 ((ks 6).toNat:Int),.int .u8 ((ks 7).toNat:Int),.int .u8 ((ks 8).toNat:Int),.int .u8 ((ks 9).toNat:Int),.int .u8 ((ks 10).toNat:Int),.int .u8 ((ks 11).toNat:Int),.int .u8 ((ks 12).toNat:Int),.int .u8 ((ks 13).toNat:Int),.int .u8 ((ks 14).toNat:Int),.int .u8 ((ks 15).toNat:Int)]:=rfl;have aH:stcV ks=#[wv (start ks).a,wv (start ks).b,wv (start ks).c,wv (start ks).d]:=rfl;obtain⟨p,ep⟩:∃x,x=kA ks:=⟨_,rfl⟩;obtain⟨q,eq⟩:∃x,x=kB ks:=⟨_,rfl⟩;obtain⟨v0,e0⟩:∃x,x=0x736f6d6570736575#64 ^^^ p:=⟨_,rfl⟩;obtain⟨v1,e1⟩:∃x,x=0x646f72616e646f6d#64 ^^^ q:=⟨_,rfl⟩;obtain⟨v2,e2⟩:∃x,x=0x6c7967656e657261#64 ^^^ p:=⟨_,rfl⟩;obtain⟨v3,e3⟩:∃x,x=0x7465646279746573#64 ^^^ q:=⟨_,rfl⟩;have x0:bits .xor .u64 8317987319222330741 (p.toNat:Int)=(v0.toNat:Int):=by rw[e0];exact BH 0x736f6d6570736575#64 p
 have x1:bits .xor .u64 7237128888997146477 (q.toNat:Int)=(v1.toNat:Int):=by rw[e1];exact BH 0x646f72616e646f6d#64 q
 have x2:bits .xor .u64 7816392313619706465 (p.toNat:Int)=(v2.toNat:Int):=by rw[e2];exact BH 0x6c7967656e657261#64 p
 have x3:bits .xor .u64 8387220255154660723 (q.toNat:Int)=(v3.toNat:Int):=by rw[e3];exact BH 0x7465646279746573#64 q
 have hs:stcV ks=#[.int .u64 (v0.toNat:Int),.int .u64 (v1.toNat:Int),.int .u64 (v2.toNat:Int),.int .u64 (v3.toNat:Int)]:=by
  rw[aH,e0,e1,e2,e3,ep,eq];rfl
 have HS:=I hs;clear hs;obtain⟨kz,af⟩:=Aj (AN ks);rw[<-af];have bd:=I af;have hK:Blk (w.alloc (.cells kz 166)) B 166 (AN ks):=Blk.new_of w B _ _ _ af eB.symm;have hW:Below B w (w.alloc (.cells kz 166)):=by rw[eB];exact(Below.refl _ w).alloc Af _
 clear aH e0 e1 e2 e3;have cA:=Uw (hK.drewN 1);have cB:=Ux (hK.drewN 1);rw[<-ep] at cA;rw[<-eq] at cB;have HW:=I hW;clear hW;clear aV af ep eq hK;go_enter Tryz.func87,Tryz.ntmps87
 go_upto_region 1 with fail
 rw[<-eB];clear eB;have HM:=I hm;clear hm;generalize w.alloc (.cells kz 166)=w1 at cA cB HW⊢;refine wp_region_still_lit (by kernel_rfl) (by kernel_rfl) ?_;change wpStill _ _ w1.drew _ _ _
 repeat still_step
 still_call cA
 repeat still_step
 still_call cB
 repeat still_step
 refine wpStill_nil ?_
 try change _ w1.drew
 clear cA cB
 go_upto_region 3 with fail
 obtain⟨g,eg⟩:=Aj (w1.heap.size);have ah:Blk (w1.alloc (.cells #[.int .u64 (v0.toNat:Int),.int .u64 (v1.toNat:Int),.int .u64 (v2.toNat:Int),.int .u64 (v3.toNat:Int)] 226)).drew g 226 (DE (full ks l (0 / 8))):=Blk.drewN (Blk.new_of w1 g _ _ _ HS.o.symm eg.symm) 1;have ao:Below B w (w1.alloc (.cells #[.int .u64 (v0.toNat:Int),.int .u64 (v1.toNat:Int),.int .u64 (v2.toNat:Int),.int .u64 (v3.toNat:Int)] 226)).drew:=below_drewN (HW.o.alloc (by rw[EB.o];exact HW.o.size) _) 1;have hg:B<=g:=by rw[eg,EB.o];exact HW.o.size
 rw[<-eg];generalize (w1.alloc (.cells #[.int .u64 (v0.toNat:Int),.int .u64 (v1.toNat:Int),.int .u64 (v2.toNat:Int),.int .u64 (v3.toNat:Int)] 226)).drew=w2 at ah ao⊢;have aB:=I ah;clear ah;have aL:=I ao;clear ao;have X:=I hg;clear hg;clear HS HW eg x0 x1 x2 x3;have l5:(n:Int)<=100000:=by omega
 have c0:(n:Int)<=(c:Int):=by omega
 have bb:c<=9223372036854775807:=by have:=HM.o;unfold maxLen at this;omega
 have aZ:(c:Int)<=9223372036854775807:=by omega
 go_wp2_with fail
 go_loopw [8] (fun iv wr=>∃u:Nat,u<=n/\u % 8=0/\iv=.int .i64 (u:Int)/\Below B w wr/\Blk wr g 226 (DE (full ks l (u / 8)))) (fun iv _=>n - (intOf iv).toNat)
 case atStart=>exact⟨0,Nat.zero_le _,rfl,rfl,aL.o,aB.o⟩
 case round=>
  clear aB aL;obtain⟨u,hu,aO,rfl,hW,hB⟩:=hrel;have HW:=I hW;clear hW;have HB:=I hB;clear hB;have ai:=I aO;clear aO;have d0:(0:Int)<=(u:Int):=by omega
  have d1:(u:Int)<=(n:Int):=by omega
  by_cases hx:n - u<8
  ·have hj:u / 8=n / 8:=by have:=ai.o;omega
   have t1:(n:Int) - (u:Int)<8:=by omega
   have HX:=I hx;clear hx;have HJ:=I hj;clear hj;obtain⟨k,ek⟩:=Aj (n % 256);have hand:bits .and .i64 (n:Int) 255=(k:Int):=by rw[PR,ek];omega
   have k1:(k:Int)<256:=by omega
   have k2:(0:Int)<=(k:Int):=by omega
   have aQ:IntKind.u64.wrap (k:Int)=(k:Int):=by rw[IntKind.wrap_u64];omega
   have aG:u=8*(l.length / 8):=by have:=ai.o;have:=HN.o;have:=HX.o;omega
   have aD:(l.drop u).length=n - u:=by rw[List.length_drop,HN.o]
   obtain⟨mw,ae⟩:∃m,m=wd (BS (l.drop u)):=⟨_,rfl⟩;obtain⟨lw,av⟩:∃m,m=Oa (stOf ks l):=⟨_,rfl⟩;have aP:mw.toNat=BS (l.drop u):=by rw[ae];exact Jl _ (JM (by have:=HX.o;omega))
   have aI:bits .or .u64 (mw.toNat:Int) (IntKind.u64.wrap ((k:Int)*72057594037927936))=(lw.toNat:Int):=by
    have h:=PS ks l;rw[<-aG,<-aP,<-HN.o,<-ek,<-av] at h;exact h
   have aX:bits .or .u64 (mw.toNat:Int) ((k:Int)*72057594037927936)=(lw.toNat:Int):=by
    rw[<-aI,IntKind.wrap_u64];congr 1;omega
   have cA:=LD none (n - u) (c - u) (l.drop u) wr B aD.symm (by have:=HX.o;omega) (.inl (by rw[List.eq_nil_of_length_eq_zero (l:=l.drop u) (by have:=H0.o;omega)];rfl));have cB:u=c->Calls Tryz.prog 131 #[.slice none 0 0] wr fun e w'=>e=.returned (wv (wd (BS (l.drop u))))/\w'=wr:=fun h=>LD none 0 0 (l.drop u) wr B (by omega) (by decide) (.inl (by rw[List.eq_nil_of_length_eq_zero (l:=l.drop u) (by omega)];rfl))
   rw[<-ae] at cA;rw[<-ae] at cB;obtain⟨⟨a,b,cc,d⟩,e1⟩:∃t,t=addM (full ks l (u / 8)) lw:=⟨_,rfl⟩;obtain⟨c1,ec⟩:∃x,x=cc ^^^ 255#64:=⟨_,rfl⟩;obtain⟨V0,eV⟩:∃x:V,x=⟨a,b,c1,d⟩:=⟨_,rfl⟩;obtain⟨⟨a2,b2,c2,d2⟩,e2⟩:∃t,t=rnds 4 V0:=⟨_,rfl⟩;obtain⟨q1,aw⟩:∃x,x=a2 ^^^ b2:=⟨_,rfl⟩;obtain⟨q2,au⟩:∃x,x=q1 ^^^ c2:=⟨_,rfl⟩;obtain⟨q3,ar⟩:∃x,x=q2 ^^^ d2:=⟨_,rfl⟩;have ag:GY ks l=q3:=by
    have hv:(stOf ks l).v=full ks l (u / 8):=by rw[FF,HJ.o,HN.o]
    rw[GY,finS,<-av,hv,<-e1,fin,<-ec,<-eV,<-e2,allX,<-aw,<-au,<-ar]
   have x0:bits .xor .u64 (cc.toNat:Int) 255=(c1.toNat:Int):=by rw[ec];exact BH cc 255#64
   have x1:bits .xor .u64 (a2.toNat:Int) (b2.toNat:Int)=(q1.toNat:Int):=by rw[aw];exact BH _ _
   have x2:bits .xor .u64 (q1.toNat:Int) (c2.toNat:Int)=(q2.toNat:Int):=by rw[au];exact BH _ _
   have x3:bits .xor .u64 (q2.toNat:Int) (d2.toNat:Int)=(q3.toNat:Int):=by rw[ar];exact BH _ _
   have ct:=VF g (full ks l (u / 8)) lw wr HB.o;rw[<-e1] at ct;have aJ:=I ag;clear ag;have EV:=I eV;clear eV;have E2:=I e2;clear e2;have ax:=I x0;clear x0;have aY:=I x1;clear x1;have aT:=I x2;clear x2;have aU:=I x3;clear x3;have ab:=I (Blk.lt HB.o);clear e1 ec aw au ar aP ae av aD aG ek HJ ai
   go_upto_region 7 with fail
   go_cut [] from 39 to 50 (fun wx=>Below B w wx/\Blk wx g 226 (DE ⟨a,b,cc,d⟩))
   case first=>
    have ad:u=c\/u<c:=by omega
    rcases ad with ad | ad
    ·have aF:=cB ad;clear cB
     clear cA;subst ad
     go_wp2_with (first
      |(go_at_call 131;refine Ah aF ?_;rintro w' hw;have hw:=hw.symm;subst hw;clear aF)
      |(go_at_call 132;refine Ah ct ?_;rintro v1 ⟨O,aa⟩;clear ct;have M:=I O;have Z:=I (Ak HW.o aa (by have:=ab.o;have:=X.o;omega) X.o);clear O aa))
     go_meet
     exact⟨Z.o,M.o⟩
    ·clear cB
     have ba:(u:Int)<(c:Int):=by omega
     go_wp2_with (first
      |(go_at_call 131;refine Ah cA ?_;rintro w' hw;have hw:=hw.symm;subst hw;clear cA)
      |(go_at_call 132;refine Ah ct ?_;rintro v1 ⟨O,aa⟩;clear ct;have M:=I O;have Z:=I (Ak HW.o aa (by have:=ab.o;have:=X.o;omega) X.o);clear O aa))
     go_meet
     exact⟨Z.o,M.o⟩
   case rest=>
    obtain⟨aN,O⟩:=hcut;have M:=I O;clear O;have Z:=I aN;clear aN;have k2:wc.cell? ⟨g,2,none⟩=some (.int .u64 (cc.toNat:Int)):=by rw[M.o.cell];rfl
    have fz:=M.o.frozen;have x0:=ax.o;clear ax hand aQ aI aX cA cB ct
    go_upto_region 8 with fail
    refine wp_region_still_tail 8 (by kernel_rfl) (by kernel_rfl) ?_;simp only[List.take_succ_cons,List.take_zero,List.drop_succ_cons,List.drop_zero];change wpStill _ _ wc.drew _ _ _
    repeat still_step
    refine wpStill_nil ?_;change wpList _ _ _ _ _ wc.drew
    go_upto_region 9 with fail
    have an:Blk (wc.setCell ⟨g,2,none⟩ (.int .u64 (c1.toNat:Int))).drew g 226 (DE V0):=by rw[EV.o];exact Blk.set M.o 2 (wv c1)
    have ak:Below B w (wc.setCell ⟨g,2,none⟩ (.int .u64 (c1.toNat:Int))).drew:=below_drewN (AX Z.o X.o _) 1;generalize (wc.setCell ⟨g,2,none⟩ (.int .u64 (c1.toNat:Int))).drew=v2 at an ak⊢;have aC:=I an;clear an;have az:=I ak;clear ak;clear k2 fz x0 M Z ab HB HW
    go_wp2_with fail
    go_loopw [9] (fun iv wr=>∃i:Nat,i<=4/\iv=.int .i64 (i:Int)/\Below B w wr/\Blk wr g 226 (DE (rnds i V0))) (fun iv _=>4 - (intOf iv).toNat)
    case atStart=>exact⟨0,by decide,rfl,az.o,aC.o⟩
    case round=>
     obtain⟨i,hi,rfl,aM,aA⟩:=hrel;clear aC az;have aj:=I aA;clear aA;have ay:=I aM;clear aM
     by_cases hi4:i=4
     ·subst hi4
      have Y:=aj.o;rw[<-E2.o] at Y;have k0:wr.cell? ⟨g,0,none⟩=some (.int .u64 (a2.toNat:Int)):=by rw[Y.cell];rfl
      have k1:wr.cell? ⟨g,1,none⟩=some (.int .u64 (b2.toNat:Int)):=by rw[Y.cell];rfl
      have k2:wr.cell? ⟨g,2,none⟩=some (.int .u64 (c2.toNat:Int)):=by rw[Y.cell];rfl
      have k3:wr.cell? ⟨g,3,none⟩=some (.int .u64 (d2.toNat:Int)):=by rw[Y.cell];rfl
      have x1:=aY.o;have x2:=aT.o;have x3:=aU.o;clear Y
      go_upto_region 13 with fail
      refine wp_region_still_lit (by kernel_rfl) (by kernel_rfl) ?_;change wpStill _ _ wr.drew _ _ _
      repeat still_step
      refine wpStill_nil ?_
      try change _ wr.drew
      go_wp2_with fail
      go_ret;exact⟨by rw[aJ.o];rfl,by rw[<-EB.o];exact below_drewN ay.o 1⟩
     ·have j1:(i:Int)<4:=by omega
      have j2:(0:Int)<=(i:Int):=by omega
      have cr:=MO g (rnds i V0) wr aj.o;have ab:=I (Blk.lt aj.o);have aS:=I hi4;clear hi4
      go_wp2_with (go_at_call 133;refine Ah cr ?_;rintro v4 ⟨aE,aK⟩;clear cr;have aR:=I aE;have aW:=I aK;clear aE aK)
      go_roundw
      case rel=>exact⟨i+1,by have:=aS.o;omega,by go_num,Ak ay.o aW.o (by have:=ab.o;have:=X.o;omega) X.o,aR.o⟩
      case measure=>simp [intOf];omega
  ·have t1:(8:Int)<=(n:Int) - (u:Int):=by omega
   exact absurd H0.o (by omega)
theorem SH (ks:Nat->UInt8) (A:Option Addr) (n c:Nat) (l:List UInt8) (w:World) (M:n=l.length) (O:n<=100000) (X:n<=c) (hm:c<=maxLen) (Y:Rd w w.heap.size A (bvs l)) :
  Calls Tryz.prog 87 #[.agg (AN ks),.slice A n c] w fun e w'=>e=.returned (wv (GY ks l))/\Below w.heap.size w w':=by
 cases A with
 |some x=>exact PV ks x n c l w M O X hm Y
 |none=>
  refine PY ks n c l w M O X hm ?_;rcases Y with h | ⟨b,o,Z,_,_⟩
  ·rw[M,List.map_eq_nil_iff.1 h];rfl
  ·cases Z
theorem Cc:(Tryz.prog.info? 5).map (fun i=>(i.zero,i.size,i.bytes))=some (some (.int .u8 0),1,1):=by kernel_rfl
theorem FE (w:World) (t:TypeId) (cs:Array Value) (l:List Value) (h:cs.toList=l) (N:Nat) (M:w.heap.size=N):Rd (w.alloc (.cells cs t)) (N+1) (some ⟨N,0,none⟩) l:=by
 subst M;refine .inr ⟨w.heap.size,0,rfl,by omega,fun i u hu=>?_⟩;rw[Nat.zero_add,(Blk.new w t cs).cell i];rw[<-h] at hu
 simpa using hu
theorem DN {w w':World} {base:Nat} {t:TypeId} {v:Value} {n:Nat} {xs:List Value} {o:Obj} (h:w.ownsRow base t 1 v n xs) (e:w'.heap=w.heap.push o):w'.ownsRow base t 1 v n xs:=by
 obtain⟨X,h | ⟨g,cap,cur,hv,Y,M,Z⟩⟩:=h
 ·exact⟨X,.inl h⟩
 ·refine⟨X,.inr ⟨g,cap,cur,hv,Y,?_,Z⟩⟩
  have O:=Blk.lt (t:=t) (cs:=cur) M;rw[e,Array.getElem?_push_lt O,<-Array.getElem?_eq_getElem O];exact M
theorem Od {w:World} (t:TypeId) (vs:List Value) (rows:List (List UInt8)) (cs:Array Value) (Y:cs.toList=vs) (X:vs.length=rows.length)
  (h:∀i (h:i<rows.length),∃(M:Option Addr) (ci:Nat),vs[i]? = some (.slice M (rows[i]).length ci)/\Rd w w.heap.size M (bvs rows[i])):Rows (w.alloc (.cells cs t)) (w.alloc (.cells cs t)).heap.size (some ⟨w.heap.size,0,none⟩) rows:=by
 refine⟨vs,X,(FE w t cs vs Y w.heap.size rfl).more (by simp),fun i hi=>?_⟩;obtain⟨M,ci,Z,O⟩:=h i hi;exact⟨M,ci,Z,(O.alloc Af _).more (by simp)⟩
end Si
end Go.Proofs.YtcpccikongbopaaGreat
