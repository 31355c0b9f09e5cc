import Derived.Test.YthgignaohimadaaGreatZKdcRoutes7
set_option maxHeartbeats 25600000
set_option maxRecDepth 100000
set_option linter.unusedVariables false
set_option linter.unusedSimpArgs false
namespace Go.Proofs.YthgignaohimadaaGreat
namespace Si
open Go.RowKit Af
def Rows (w:World) (B:Nat) (A:Option Addr) (rows:List (List UInt8)):Prop:=
 ∃vs:List Value,vs.length=rows.length/\Rd w B A vs/\∀i (h:i<rows.length),∃(Ai:Option Addr) (ci:Nat),vs[i]? = some (.slice Ai (rows[i]).length ci)/\Rd w B Ai (bvs rows[i])
def flat (rows:List (List UInt8)):List UInt8:=rows.flatten
theorem TH (rows:List (List UInt8)) (i:Nat) (h:i<rows.length):flat (rows.take (i+1))=flat (rows.take i)++rows[i]:=by
 unfold flat;rw[List.take_succ_eq_append_getElem h,List.flatten_append];simp
theorem Jz (rows:List (List UInt8)) (i:Nat):(flat (rows.take i)).length<=(flat rows).length:=by
 have h:rows=rows.take i++rows.drop i:=(List.take_append_drop i rows).symm;have D:flat rows=flat (rows.take i)++flat (rows.drop i):=by
  unfold flat;rw[<-List.flatten_append,List.take_append_drop]
 rw[D,List.length_append];omega
def Ou (ks:Nat->UInt8) (l:List UInt8):Array Value:=stc (stOf ks l)
theorem Rh (g:Nat) (ks:Nat->UInt8) (l:List UInt8) (y:UInt8) (w:World) (D:l.length<100000) (hB:Blk w g 291 (Ou ks l)) :
  Calls Tryz.prog 208 #[.pointer (some ⟨g,0,none⟩),.int .u8 (y.toNat:Int)] w fun e w'=>e=.returned (.tuple #[])/\Blk w' g 291 (Ou ks (l++[y]))/\w.grownBy w' (some g):=by
 have h:=Ot g (stOf ks l) y w (by rw[bY];exact D) (Yi ks l) hB;rw[<-MQ] at h;exact h
theorem cF (g:Nat) (ks:Nat->UInt8) (l:List UInt8) (w:World) (hB:Blk w g 291 (Ou ks l)) :
  Calls Tryz.prog 209 #[.pointer (some ⟨g,0,none⟩)] w fun e w'=>e=.returned (wv (Ic ks l))/\w.grownBy w' (some g):=
 ZT g (stOf ks l) w (Nat.lt_of_lt_of_le (Yi ks l) (WI _ (by omega))) hB
theorem TI (l:List UInt8) (j:Nat) (h:j<l.length):l.take (j+1)=l.take j++[l[j]]:=List.take_succ_eq_append_getElem h
theorem ZU (ks:Nat->UInt8) (A:Option Addr) (n c:Nat) (rows:List (List UInt8)) (w:World) (hn:n=rows.length) (ea:n<=100000) (hl:(flat rows).length<100000) (hr:Rows w w.heap.size A rows) :
  Calls Tryz.prog 183 #[.agg (AK ks),.slice A n c] w fun e w'=>e=.returned (wv (Ic ks (flat rows)))/\Below w.heap.size w w':=by
 obtain⟨vs,hv,cn,J⟩:=hr;obtain⟨B,eB⟩:=Ak (w.heap.size);rw[<-eB] at cn J;have EB:=I eB;have eb:=I cn;clear cn;have ck:=I J;clear J;have HN:=I hn;clear hn;have e5:(n:Int)<=100000:=by omega
 clear ea;have HL:=I hl;clear hl;have HV:=I hv;clear hv;have hk:AK ks=#[.int .u8 ((ks 0).toNat:Int),.int .u8 ((ks 1).toNat:Int),.int .u8 ((ks 2).toNat:Int),.int .u8 ((ks 3).toNat:Int),.int .u8 ((ks 4).toNat:Int),.int .u8 ((ks 5).toNat:Int),.int .u8 ((ks 6).toNat:Int),.int .u8 ((ks 7).toNat:Int),.int .u8 ((ks 8).toNat:Int),.int .u8 ((ks 9).toNat:Int),.int .u8 ((ks 10).toNat:Int),.int .u8 ((ks 11).toNat:Int),.int .u8 ((ks 12).toNat:Int),.int .u8 ((ks 13).toNat:Int),.int .u8 ((ks 14).toNat:Int),.int .u8 ((ks 15).toNat:Int)]:=rfl;have cb:=TF ks;rw[hk] at cb⊢;have hs:stc ⟨start ks,0,0⟩=#[wv (start ks).a,wv (start ks).b,wv (start ks).c,wv (start ks).d,.int .u64 0,.int .u64 0]:=rfl;rw[hs] at cb;have bz:Ou ks []=#[wv (start ks).a,wv (start ks).b,wv (start ks).c,wv (start ks).d,.int .u64 0,.int .u64 0]:=rfl;obtain⟨p0,e0⟩:∃x,x=(start ks).a:=⟨_,rfl⟩;obtain⟨p1,e1⟩:∃x,x=(start ks).b:=⟨_,rfl⟩;obtain⟨p2,e2⟩:∃x,x=(start ks).c:=⟨_,rfl⟩;obtain⟨p3,e3⟩:∃x,x=(start ks).d:=⟨_,rfl⟩;rw[<-e0,<-e1,<-e2,<-e3] at bz cb;have cx:=I bz;clear bz;clear hk hs e0 e1 e2 e3;go_enter Tryz.func183,Tryz.ntmps183
 go_upto_region 2 with(go_at_call 207;refine Aj (cb _) ?_;rintro w1 cB;have cq:Below w.heap.size w w1:=((Below.refl w.heap.size w).alloc Ag _).trans (cB.mono (by simp));have O:=I cq;clear cq cB cb)
 clear eB;obtain⟨g,eg⟩:=Ak (w1.heap.size);have bB:Blk (w1.alloc (.cells #[.int .u64 (p0.toNat:Int),.int .u64 (p1.toNat:Int),.int .u64 (p2.toNat:Int),.int .u64 (p3.toNat:Int),.int .u64 0,.int .u64 0] 291)) g 291 (Ou ks []):=Blk.new_of w1 g _ _ _ cx.o.symm eg.symm;have cj:Below B w (w1.alloc (.cells #[.int .u64 (p0.toNat:Int),.int .u64 (p1.toNat:Int),.int .u64 (p2.toNat:Int),.int .u64 (p3.toNat:Int),.int .u64 0,.int .u64 0] 291)):=by rw[EB.o];exact O.o.alloc O.o.size _
 have hg:B<=g:=by rw[eg,EB.o];exact O.o.size
 rw[<-eg];generalize w1.alloc (.cells #[.int .u64 (p0.toNat:Int),.int .u64 (p1.toNat:Int),.int .u64 (p2.toNat:Int),.int .u64 (p3.toNat:Int),.int .u64 0,.int .u64 0] 291)=w2 at bB cj⊢;have cP:=I bB;clear bB;have cL:=I cj;clear cj;have Z:=I hg;clear hg;clear cx O eg
 go_wp2_with fail
 go_loopw [14] (fun iv wr=>∃i:Nat,i<=n/\iv=.int .i64 (i:Int)/\Below B w wr/\Blk wr g 291 (Ou ks (flat (rows.take i)))) (fun iv _=>n - (intOf iv).toNat)
 case atStart=>exact⟨0,Nat.zero_le _,rfl,cL.o,by rw[List.take_zero];exact cP.o⟩
 case round=>
  clear cP cL;obtain⟨i,hi,rfl,hW,hB⟩:=hrel;have HW:=I hW;clear hW;have HB:=I hB;clear hB
  by_cases hx:i=n
  ·have he:rows.take i=rows:=List.take_of_length_le (by have:=HN.o;omega)
   have ce:=cF g ks (flat (rows.take i)) wr HB.o;rw[he] at ce;subst hx;clear he
   go_wp2_with (go_at_call 209;refine Aj ce ?_;rintro w3 ct;clear ce;have cQ:=I ct;clear ct)
   go_ret;exact⟨rfl,by rw[<-EB.o];exact AJ HW.o cQ.o (by have:=HW.o.size;have:=Blk.lt HB.o;have:=Z.o;omega) Z.o⟩
  ·have et:i<n:=by omega
   have aw:i<rows.length:=by have:=HN.o;omega
   have e1:(i:Int)<(n:Int):=by omega
   have e2:(0:Int)<=(i:Int):=by omega
   obtain⟨row,N⟩:∃r,r=rows[i]:=⟨_,rfl⟩;obtain⟨pre,M⟩:∃r,r=flat (rows.take i):=⟨_,rfl⟩;have F:flat (rows.take (i+1))=pre++row:=by rw[M,N];exact TH rows i aw
   have hlen:(pre++row).length<100000:=by rw[<-F];exact Nat.lt_of_le_of_lt (Jz rows (i+1)) HL.o
   obtain⟨Ai,ci,cf,cg⟩:=ck.o i aw;rw[<-N] at cf cg;have bx:=HB.o;rw[<-M] at bx;have cu:=I bx;clear bx HB;obtain⟨b,o,rfl,ec,E⟩:=eb.o.at_ cf;obtain⟨m,em⟩:=Ak (row.length);rw[<-em] at E;have hc:wr.cell? ⟨b,o+i,none⟩=some (.slice Ai m ci):=(HW.o.cell (p:=⟨b,o+i,none⟩) ec).trans E;have ef:=I F;clear F;have cR:=I cg;clear cg;have HX:=I hx;clear hx;have HI:=I hi;clear hi;have e6:(m:Int)<100000:=by have:=hlen;rw[List.length_append] at this;omega
   have HM:=I em;clear em;have ei:=I hlen;clear hlen;have eu:=I aw;clear cf E N M aw
   go_wp2_with fail
   go_loopw [20] (fun jv wx=>∃j:Nat,j<=m/\jv=.int .i64 (j:Int)/\Below B w wx/\Blk wx g 291 (Ou ks (pre++row.take j))) (fun jv _=>m - (intOf jv).toNat)
   case atStart=>exact⟨0,Nat.zero_le _,rfl,HW.o,by rw[List.take_zero,List.append_nil];exact cu.o⟩
   case round=>
    clear hc HW cu;obtain⟨j,hj,rfl,cw,cr⟩:=hrel;have cc:=I cw;clear cw;have cm:=I cr;clear cr
    by_cases hy:j=m
    ·have he:row.take j=row:=List.take_of_length_le (by have:=HM.o;omega)
     have HE:=I he;clear he;subst hy
     go_wp2_with fail
     go_roundw
     case rel=>exact⟨i+1,by omega,by go_num,cc.o,by rw[ef.o];have:=cm.o;rw[HE.o] at this;exact this⟩
     case measure=>simp [intOf];omega
    ·have ep:j<m:=by omega
     have cd:j<row.length:=by have:=HM.o;omega
     have f1:(j:Int)<(m:Int):=by omega
     have f2:(0:Int)<=(j:Int):=by omega
     obtain⟨b2,o2,rfl,ed,D⟩:=cR.o.at_ (GC cd);obtain⟨y,ey⟩:=Ak (row[j]);rw[<-ey] at D;have er:wr.cell? ⟨b2,o2+j,none⟩=some (.int .u8 (y.toNat:Int)):=(cc.o.cell (p:=⟨b2,o2+j,none⟩) ed).trans D;have cp:(pre++row.take j)++[y]=pre++row.take (j+1):=by rw[TI row j cd,<-ey,List.append_assoc]
     have ca:=Rh g ks (pre++row.take j) y wr (by have:=ei.o;rw[List.length_append] at this⊢;have:(row.take j).length<=row.length:=by{rw[List.length_take];omega};omega) cm.o;rw[cp] at ca;have HY:=I hy;clear hy;have HJ:=I hj;clear hj;have ej:=I (Blk.lt cm.o);clear D ey cp cd
     go_wp2_with (go_at_call 208;refine Aj ca ?_;rintro w4 ⟨cy,cA⟩;clear ca;have ek:=I cy;have eo:=I cA;clear cy cA)
     go_roundw
     case rel=>exact⟨j+1,by omega,by go_num,AJ cc.o eo.o (by have:=ej.o;have:=Z.o;omega) Z.o,ek.o⟩
     case measure=>simp [intOf];omega
theorem TJ (n:Int):bits .and .i64 n 255=n % 256:=by
 have D:(BitVec.ofInt 64 255).toNat=2 ^ 8 - 1:=by decide
 have key:(BitVec.ofInt 64 n &&& BitVec.ofInt 64 255).toNat=(n % ((2 ^ 64:Nat):Int)).toNat % 2 ^ 8:=by
  rw[BitVec.toNat_and,BitVec.toNat_ofInt,D,Nat.and_two_pow_sub_one_eq_mod]
 show IntKind.i64.wrap ((BitVec.ofInt 64 n &&& BitVec.ofInt 64 255).toNat:Nat)=n % 256;rw[key,IntKind.wrap_i64];omega
theorem Rd.drop {w:World} {B:Nat} {x:Addr} {l:List UInt8} (h:Rd w B (some x) (bvs l)) (p:Nat):Rd w B (some (x.add p)) (bvs (l.drop p)):=by
 rcases h with h | ⟨b,o,D,E,F⟩
 ·left
  have:l = []:=List.map_eq_nil_iff.1 h;rw[this];simp [bvs]
 ·injection D with D
  subst D;rw[addr_add];refine .inr ⟨b,o+p,rfl,E,fun i u hu=>?_⟩;have:(bvs l)[p+i]? = some u:=by
   rw[<-hu];simp [bvs,List.getElem?_drop]
  have:=F _ _ this
  rwa [Nat.add_assoc]
theorem Rd.take {w:World} {B:Nat} {A:Option Addr} {l:List UInt8} (h:Rd w B A (bvs l)) (k:Nat):Rd w B A (bvs (l.take k)):=by
 rcases h with h | ⟨b,o,D,E,F⟩
 ·left
  have:l = []:=List.map_eq_nil_iff.1 h;rw[this];simp [bvs]
 ·refine .inr ⟨b,o,D,E,fun i u hu=>F i u ?_⟩
  rw[<-hu];have hi:i<k:=by
   rcases Nat.lt_or_ge i k with g | g
   ·exact g
   ·rw[List.getElem?_eq_none (by simp [bvs];omega)] at hu;cases hu
  simp [bvs,hi]
theorem rd_key {w:World} {B:Nat} {t:TypeId} {ks:Nat->UInt8} (h:Blk w B t (AK ks)) (o:Nat) (D:o+8<=16):Rd w (B+1) (some ⟨B,o,none⟩) (bvs ((List.range 8).map fun i=>ks (o+i))):=by
 refine .inr ⟨B,o,rfl,by omega,fun i u hu=>?_⟩;have hi:i<8:=by
  rcases Nat.lt_or_ge i 8 with g | g
  ·exact g
  ·rw[List.getElem?_eq_none (by simp [bvs];omega)] at hu;cases hu
 rw[h.cell,FP _ _ (by omega)];rw[<-hu];simp [bvs,hi]
theorem Yk {w:World} {B:Nat} {t:TypeId} {ks:Nat->UInt8} (h:Blk w B t (AK ks)):Calls Tryz.prog 127 #[.slice (some ⟨B,0,none⟩) 8 16] w fun e w'=>e=.returned (wv (kA ks))/\w'=w:=by
 have D:=rd_key h 0 (by decide);have:=Oq (some ⟨B,0,none⟩) 8 16 _ w (B+1) (by simp) (by decide) D;have e:((List.range 8).map fun i=>ks (0+i))=(List.range 8).map ks:=by simp
 rw[e] at this;exact this
theorem Yl {w:World} {B:Nat} {t:TypeId} {ks:Nat->UInt8} (h:Blk w B t (AK ks)):Calls Tryz.prog 127 #[.slice (some ⟨B,8,none⟩) 8 8] w fun e w'=>e=.returned (wv (kB ks))/\w'=w:=
 Oq (some ⟨B,8,none⟩) 8 8 _ w (B+1) (by simp) (by decide) (rd_key h 8 (by decide))
theorem TK (ks:Nat->UInt8) (l:List UInt8):bits .or .u64 (BO (l.drop (8*(l.length / 8))):Nat) (IntKind.u64.wrap (((l.length % 256:Nat):Int)*72057594037927936))=((Rc (stOf ks l)).toNat:Int):=by
 have D:BO (l.drop (8*(l.length / 8)))<72057594037927936:=TB (by rw[List.length_drop];omega);have h:=PI (BO (l.drop (8*(l.length / 8)))) (l.length % 256) D;rw[IntKind.wrap_u64,h,Nat.mod_mod];rw[MT _ (by rw[FT];exact D),FT]
def stcV (ks:Nat->UInt8):Array Value:=DH (start ks)
theorem TM (ks:Nat->UInt8) (x:Addr) (n c:Nat) (l:List UInt8) (w:World) (hn:n=l.length) (hl:n<=100000) (hc:n<=c) (hm:c<=maxLen) (hr:Rd w w.heap.size (some x) (bvs l)) :
  Calls Tryz.prog 92 #[.agg (AK ks),.slice (some x) n c] w fun e w'=>e=.returned (wv (Ic ks l))/\Below w.heap.size w w':=by
 obtain⟨B,eB⟩:=Ak (w.heap.size);rw[<-eB] at hr;have EB:=I eB;have HR:=I hr;clear hr;have HN:=I hn;clear hn;have eD:AK ks=#[.int .u8 ((ks 0).toNat:Int),.int .u8 ((ks 1).toNat:Int),.int .u8 ((ks 2).toNat:Int),.int .u8 ((ks 3).toNat:Int),.int .u8 ((ks 4).toNat:Int),.int .u8 ((ks 5).toNat:Int),.int .u8 ((ks 6).toNat:Int),.int .u8 ((ks 7).toNat:Int),.int .u8 ((ks 8).toNat:Int),.int .u8 ((ks 9).toNat:Int),.int .u8 ((ks 10).toNat:Int),.int .u8 ((ks 11).toNat:Int),.int .u8 ((ks 12).toNat:Int),.int .u8 ((ks 13).toNat:Int),.int .u8 ((ks 14).toNat:Int),.int .u8 ((ks 15).toNat:Int)]:=rfl;have er:stcV ks=#[wv (start ks).a,wv (start ks).b,wv (start ks).c,wv (start ks).d]:=rfl;obtain⟨p,ep⟩:∃x,x=kA ks:=⟨_,rfl⟩;obtain⟨q,eq⟩:∃x,x=kB ks:=⟨_,rfl⟩;obtain⟨v0,e0⟩:∃x,x=0x736f6d6570736575#64 ^^^ p:=⟨_,rfl⟩;obtain⟨v1,e1⟩:∃x,x=0x646f72616e646f6d#64 ^^^ q:=⟨_,rfl⟩;obtain⟨v2,e2⟩:∃x,x=0x6c7967656e657261#64 ^^^ p:=⟨_,rfl⟩;obtain⟨v3,e3⟩:∃x,x=0x7465646279746573#64 ^^^ q:=⟨_,rfl⟩;have x0:bits .xor .u64 8317987319222330741 (p.toNat:Int)=(v0.toNat:Int):=by rw[e0];exact BB 0x736f6d6570736575#64 p
 have x1:bits .xor .u64 7237128888997146477 (q.toNat:Int)=(v1.toNat:Int):=by rw[e1];exact BB 0x646f72616e646f6d#64 q
 have x2:bits .xor .u64 7816392313619706465 (p.toNat:Int)=(v2.toNat:Int):=by rw[e2];exact BB 0x6c7967656e657261#64 p
 have x3:bits .xor .u64 8387220255154660723 (q.toNat:Int)=(v3.toNat:Int):=by rw[e3];exact BB 0x7465646279746573#64 q
 have hs:stcV ks=#[.int .u64 (v0.toNat:Int),.int .u64 (v1.toNat:Int),.int .u64 (v2.toNat:Int),.int .u64 (v3.toNat:Int)]:=by
  rw[er,e0,e1,e2,e3,ep,eq];rfl
 have HS:=I hs;clear hs;obtain⟨kz,cb⟩:=Ak (AK ks);rw[<-cb];have eR:=I cb;have hK:Blk (w.alloc (.cells kz 161)) B 161 (AK ks):=Blk.new_of w B _ _ _ cb eB.symm;have hW:Below B w (w.alloc (.cells kz 161)):=by rw[eB];exact(Below.refl _ w).alloc Ag _
 clear er e0 e1 e2 e3;have Z:=Yk (hK.drewN 1);have cB:=Yl (hK.drewN 1);rw[<-ep] at Z;rw[<-eq] at cB;have HW:=I hW;clear hW;clear eD cb ep eq hK;go_enter Tryz.func92,Tryz.ntmps92
 go_upto_region 1 with fail
 rw[<-eB];clear eB;have HM:=I hm;clear hm;generalize w.alloc (.cells kz 161)=w1 at Z cB HW⊢;refine wp_region_still_lit (by kernel_rfl) (by kernel_rfl) ?_;change wpStill _ _ w1.drew _ _ _
 repeat still_step
 still_call Z
 repeat still_step
 still_call cB
 repeat still_step
 refine wpStill_nil ?_
 try change _ w1.drew
 clear Z cB
 go_upto_region 3 with fail
 obtain⟨g,eg⟩:=Ak (w1.heap.size);have cn:Blk (w1.alloc (.cells #[.int .u64 (v0.toNat:Int),.int .u64 (v1.toNat:Int),.int .u64 (v2.toNat:Int),.int .u64 (v3.toNat:Int)] 234)).drew g 234 (DH (full ks l (0 / 8))):=Blk.drewN (Blk.new_of w1 g _ _ _ HS.o.symm eg.symm) 1;have cj:Below B w (w1.alloc (.cells #[.int .u64 (v0.toNat:Int),.int .u64 (v1.toNat:Int),.int .u64 (v2.toNat:Int),.int .u64 (v3.toNat:Int)] 234)).drew:=below_drewN (HW.o.alloc (by rw[EB.o];exact HW.o.size) _) 1;have hg:B<=g:=by rw[eg,EB.o];exact HW.o.size
 rw[<-eg];generalize (w1.alloc (.cells #[.int .u64 (v0.toNat:Int),.int .u64 (v1.toNat:Int),.int .u64 (v2.toNat:Int),.int .u64 (v3.toNat:Int)] 234)).drew=w2 at cn cj⊢;have ef:=I cn;clear cn;have ev:=I cj;clear cj;have F:=I hg;clear hg;clear HS HW eg x0 x1 x2 x3;have l5:(n:Int)<=100000:=by omega
 have c0:(n:Int)<=(c:Int):=by omega
 have eQ:c<=9223372036854775807:=by have:=HM.o;unfold maxLen at this;omega
 have eN:(c:Int)<=9223372036854775807:=by omega
 go_wp2_with fail
 go_loopw [8] (fun iv wr=>∃u:Nat,u<=n/\u % 8=0/\iv=.int .i64 (u:Int)/\Below B w wr/\Blk wr g 234 (DH (full ks l (u / 8)))) (fun iv _=>n - (intOf iv).toNat)
 case atStart=>exact⟨0,Nat.zero_le _,rfl,rfl,ev.o,ef.o⟩
 case round=>
  clear ef ev;obtain⟨u,hu,cL,rfl,hW,hB⟩:=hrel;have HW:=I hW;clear hW;have HB:=I hB;clear hB;have bB:=I cL;clear cL;have d0:(0:Int)<=(u:Int):=by omega
  have d1:(u:Int)<=(n:Int):=by omega
  by_cases hx:n - u<8
  ·have hj:u / 8=n / 8:=by have:=bB.o;omega
   have t1:(n:Int) - (u:Int)<8:=by omega
   have HX:=I hx;clear hx;have HJ:=I hj;clear hj;obtain⟨k,ek⟩:=Ak (n % 256);have hand:bits .and .i64 (n:Int) 255=(k:Int):=by rw[TJ,ek];omega
   have k1:(k:Int)<256:=by omega
   have k2:(0:Int)<=(k:Int):=by omega
   have eL:IntKind.u64.wrap (k:Int)=(k:Int):=by rw[IntKind.wrap_u64];omega
   have bz:u=8*(l.length / 8):=by have:=bB.o;have:=HN.o;have:=HX.o;omega
   have ea:(l.drop u).length=n - u:=by rw[List.length_drop,HN.o]
   obtain⟨mw,J⟩:∃m,m=wd (BO (l.drop u)):=⟨_,rfl⟩;obtain⟨lw,cu⟩:∃m,m=Rc (stOf ks l):=⟨_,rfl⟩;have ed:mw.toNat=BO (l.drop u):=by rw[J];exact KF _ (Ly (by have:=HX.o;omega))
   have ei:bits .or .u64 (mw.toNat:Int) (IntKind.u64.wrap ((k:Int)*72057594037927936))=(lw.toNat:Int):=by
    have h:=TK ks l;rw[<-bz,<-ed,<-HN.o,<-ek,<-cu] at h;exact h
   have ey:bits .or .u64 (mw.toNat:Int) ((k:Int)*72057594037927936)=(lw.toNat:Int):=by
    rw[<-ei,IntKind.wrap_u64];congr 1;omega
   have Z:=Oq (some (x.add u)) (n - u) (c - u) (l.drop u) wr B ea.symm (by have:=HX.o;omega) (Rd.drop (HR.o.below HW.o) u);have cB:u=c->Calls Tryz.prog 127 #[.slice (some x) 0 0] wr fun e w'=>e=.returned (wv (wd (BO (l.drop u))))/\w'=wr:=fun h=>Oq (some x) 0 0 (l.drop u) wr B (by omega) (by decide) (.inl (by rw[List.eq_nil_of_length_eq_zero (l:=l.drop u) (by omega)];rfl))
   rw[<-J] at Z;rw[<-J] at cB;obtain⟨⟨a,b,cc,d⟩,e1⟩:∃t,t=addM (full ks l (u / 8)) lw:=⟨_,rfl⟩;obtain⟨c1,ec⟩:∃x,x=cc ^^^ 255#64:=⟨_,rfl⟩;obtain⟨V0,eV⟩:∃x:V,x=⟨a,b,c1,d⟩:=⟨_,rfl⟩;obtain⟨⟨a2,b2,c2,d2⟩,e2⟩:∃t,t=rnds 4 V0:=⟨_,rfl⟩;obtain⟨q1,cg⟩:∃x,x=a2 ^^^ b2:=⟨_,rfl⟩;obtain⟨q2,cm⟩:∃x,x=q1 ^^^ c2:=⟨_,rfl⟩;obtain⟨q3,cf⟩:∃x,x=q2 ^^^ d2:=⟨_,rfl⟩;have cd:Ic ks l=q3:=by
    have hv:(stOf ks l).v=full ks l (u / 8):=by rw[FT,HJ.o,HN.o]
    rw[Ic,finS,<-cu,hv,<-e1,fin,<-ec,<-eV,<-e2,allX,<-cg,<-cm,<-cf]
   have x0:bits .xor .u64 (cc.toNat:Int) 255=(c1.toNat:Int):=by rw[ec];exact BB cc 255#64
   have x1:bits .xor .u64 (a2.toNat:Int) (b2.toNat:Int)=(q1.toNat:Int):=by rw[cg];exact BB _ _
   have x2:bits .xor .u64 (q1.toNat:Int) (c2.toNat:Int)=(q2.toNat:Int):=by rw[cm];exact BB _ _
   have x3:bits .xor .u64 (q2.toNat:Int) (d2.toNat:Int)=(q3.toNat:Int):=by rw[cf];exact BB _ _
   have ct:=ZS g (full ks l (u / 8)) lw wr HB.o;rw[<-e1] at ct;have cw:=I cd;clear cd;have EV:=I eV;clear eV;have E2:=I e2;clear e2;have ej:=I x0;clear x0;have eJ:=I x1;clear x1;have eH:=I x2;clear x2;have eK:=I x3;clear x3;have O:=I (Blk.lt HB.o);clear e1 ec cg cm cf ed J cu ea bz ek HJ bB
   go_upto_region 7 with fail
   go_cut [] from 39 to 50 (fun wx=>Below B w wx/\Blk wx g 234 (DH ⟨a,b,cc,d⟩))
   case first=>
    have bx:u=c\/u<c:=by omega
    rcases bx with bx | bx
    ·have ew:=cB bx;clear cB
     clear Z;subst bx
     go_wp2_with (first
      |(go_at_call 127;refine Aj ew ?_;rintro w' hw;have hw:=hw.symm;subst hw;clear ew)
      |(go_at_call 128;refine Aj ct ?_;rintro v1 ⟨D,M⟩;clear ct;have E:=I D;have N:=I (AJ HW.o M (by have:=O.o;have:=F.o;omega) F.o);clear D M))
     go_meet
     exact⟨N.o,E.o⟩
    ·clear cB
     have eP:(u:Int)<(c:Int):=by omega
     go_wp2_with (first
      |(go_at_call 127;refine Aj Z ?_;rintro w' hw;have hw:=hw.symm;subst hw;clear Z)
      |(go_at_call 128;refine Aj ct ?_;rintro v1 ⟨D,M⟩;clear ct;have E:=I D;have N:=I (AJ HW.o M (by have:=O.o;have:=F.o;omega) F.o);clear D M))
     go_meet
     exact⟨N.o,E.o⟩
   case rest=>
    obtain⟨eo,D⟩:=hcut;have E:=I D;clear D;have N:=I eo;clear eo;have k2:wc.cell? ⟨g,2,none⟩=some (.int .u64 (cc.toNat:Int)):=by rw[E.o.cell];rfl
    have fz:=E.o.frozen;have x0:=ej.o;clear ej hand eL ei ey Z cB ct
    go_upto_region 8 with fail
    refine wp_region_still_tail 8 (by kernel_rfl) (by kernel_rfl) ?_;simp only[List.take_succ_cons,List.take_zero,List.drop_succ_cons,List.drop_zero];change wpStill _ _ wc.drew _ _ _
    repeat still_step
    refine wpStill_nil ?_;change wpList _ _ _ _ _ wc.drew
    go_upto_region 9 with fail
    have ck:Blk (wc.setCell ⟨g,2,none⟩ (.int .u64 (c1.toNat:Int))).drew g 234 (DH V0):=by rw[EV.o];exact Blk.set E.o 2 (wv c1)
    have cq:Below B w (wc.setCell ⟨g,2,none⟩ (.int .u64 (c1.toNat:Int))).drew:=below_drewN (Az N.o F.o _) 1;generalize (wc.setCell ⟨g,2,none⟩ (.int .u64 (c1.toNat:Int))).drew=v2 at ck cq⊢;have cP:=I ck;clear ck;have cQ:=I cq;clear cq;clear k2 fz x0 E N O HB HW
    go_wp2_with fail
    go_loopw [9] (fun iv wr=>∃i:Nat,i<=4/\iv=.int .i64 (i:Int)/\Below B w wr/\Blk wr g 234 (DH (rnds i V0))) (fun iv _=>4 - (intOf iv).toNat)
    case atStart=>exact⟨0,by decide,rfl,cQ.o,cP.o⟩
    case round=>
     obtain⟨i,hi,rfl,cx,et⟩:=hrel;clear cP cQ;have cp:=I et;clear et;have eb:=I cx;clear cx
     by_cases hi4:i=4
     ·subst hi4
      have aw:=cp.o;rw[<-E2.o] at aw;have k0:wr.cell? ⟨g,0,none⟩=some (.int .u64 (a2.toNat:Int)):=by rw[aw.cell];rfl
      have k1:wr.cell? ⟨g,1,none⟩=some (.int .u64 (b2.toNat:Int)):=by rw[aw.cell];rfl
      have k2:wr.cell? ⟨g,2,none⟩=some (.int .u64 (c2.toNat:Int)):=by rw[aw.cell];rfl
      have k3:wr.cell? ⟨g,3,none⟩=some (.int .u64 (d2.toNat:Int)):=by rw[aw.cell];rfl
      have x1:=eJ.o;have x2:=eH.o;have x3:=eK.o;clear aw
      go_upto_region 13 with fail
      refine wp_region_still_lit (by kernel_rfl) (by kernel_rfl) ?_;change wpStill _ _ wr.drew _ _ _
      repeat still_step
      refine wpStill_nil ?_
      try change _ wr.drew
      go_wp2_with fail
      go_ret;exact⟨by rw[cw.o];rfl,by rw[<-EB.o];exact below_drewN eb.o 1⟩
     ·have j1:(i:Int)<4:=by omega
      have j2:(0:Int)<=(i:Int):=by omega
      have cr:=PJ g (rnds i V0) wr cp.o;have O:=I (Blk.lt cp.o);have ez:=I hi4;clear hi4
      go_wp2_with (go_at_call 129;refine Aj cr ?_;rintro v4 ⟨cR,eu⟩;clear cr;have eM:=I cR;have eF:=I eu;clear cR eu)
      go_roundw
      case rel=>exact⟨i+1,by have:=ez.o;omega,by go_num,AJ eb.o eF.o (by have:=O.o;have:=F.o;omega) F.o,eM.o⟩
      case measure=>simp [intOf];omega
  ·have t1:(8:Int)<=(n:Int) - (u:Int):=by omega
   have t2:(u:Int)+8<=(n:Int):=by omega
   have t3:u+8<=n:=by omega
   have HX:=I hx;clear hx;have hj:(u+8) / 8=u / 8+1:=by omega
   have bz:u=8*(u / 8):=by have:=bB.o;omega
   have cy:((l.drop u).take 8).length=8:=by rw[List.length_take,List.length_drop,<-HN.o];omega
   have Z:=Oq (some (x.add u)) 8 (c - u) ((l.drop u).take 8) wr B cy.symm (by decide) (Rd.take (Rd.drop (HR.o.below HW.o) u) 8);obtain⟨mw,J⟩:∃m,m=wd (BO ((l.drop u).take 8)):=⟨_,rfl⟩;rw[<-J] at Z;have ca:addM (full ks l (u / 8)) mw=full ks l ((u+8) / 8):=by rw[hj,full,<-bz,<-J]
   have ct:=ZS g (full ks l (u / 8)) mw wr HB.o;rw[ca] at ct;have O:=I (Blk.lt HB.o);clear hj bz cy J ca
   go_wp2_with (first
    |(go_at_call 127;refine Aj Z ?_;rintro w' hw;have hw:=hw.symm;subst hw;clear Z)
    |(go_at_call 128;refine Aj ct ?_;rintro v1 ⟨D,M⟩;clear ct;have E:=I D;have N:=I (AJ HW.o M (by have:=O.o;have:=F.o;omega) F.o);clear D M))
   go_roundw
   case rel=>exact⟨u+8,by omega,by have:=bB.o;omega,by go_num,N.o,E.o⟩
   case measure=>simp [intOf];omega
theorem TO (ks:Nat->UInt8) (n c:Nat) (l:List UInt8) (w:World) (hn:n=l.length) (hl:n<=100000) (hc:n<=c) (hm:c<=maxLen) (h0:n=0) :
  Calls Tryz.prog 92 #[.agg (AK ks),.slice none n c] w fun e w'=>e=.returned (wv (Ic ks l))/\Below w.heap.size w w':=by
 obtain⟨B,eB⟩:=Ak (w.heap.size);have EB:=I eB;have H0:=I h0;clear h0;have HN:=I hn;clear hn;have ew:AK ks=#[.int .u8 ((ks 0).toNat:Int),.int .u8 ((ks 1).toNat:Int),.int .u8 ((ks 2).toNat:Int),.int .u8 ((ks 3).toNat:Int),.int .u8 ((ks 4).toNat:Int),.int .u8 ((ks 5).toNat:Int),.int .u8 ((ks 6).toNat:Int),.int .u8 ((ks 7).toNat:Int),.int .u8 ((ks 8).toNat:Int),.int .u8 ((ks 9).toNat:Int),.int .u8 ((ks 10).toNat:Int),.int .u8 ((ks 11).toNat:Int),.int .u8 ((ks 12).toNat:Int),.int .u8 ((ks 13).toNat:Int),.int .u8 ((ks 14).toNat:Int),.int .u8 ((ks 15).toNat:Int)]:=rfl;have ei:stcV ks=#[wv (start ks).a,wv (start ks).b,wv (start ks).c,wv (start ks).d]:=rfl;obtain⟨p,ep⟩:∃x,x=kA ks:=⟨_,rfl⟩;obtain⟨q,eq⟩:∃x,x=kB ks:=⟨_,rfl⟩;obtain⟨v0,e0⟩:∃x,x=0x736f6d6570736575#64 ^^^ p:=⟨_,rfl⟩;obtain⟨v1,e1⟩:∃x,x=0x646f72616e646f6d#64 ^^^ q:=⟨_,rfl⟩;obtain⟨v2,e2⟩:∃x,x=0x6c7967656e657261#64 ^^^ p:=⟨_,rfl⟩;obtain⟨v3,e3⟩:∃x,x=0x7465646279746573#64 ^^^ q:=⟨_,rfl⟩;have x0:bits .xor .u64 8317987319222330741 (p.toNat:Int)=(v0.toNat:Int):=by rw[e0];exact BB 0x736f6d6570736575#64 p
 have x1:bits .xor .u64 7237128888997146477 (q.toNat:Int)=(v1.toNat:Int):=by rw[e1];exact BB 0x646f72616e646f6d#64 q
 have x2:bits .xor .u64 7816392313619706465 (p.toNat:Int)=(v2.toNat:Int):=by rw[e2];exact BB 0x6c7967656e657261#64 p
 have x3:bits .xor .u64 8387220255154660723 (q.toNat:Int)=(v3.toNat:Int):=by rw[e3];exact BB 0x7465646279746573#64 q
 have hs:stcV ks=#[.int .u64 (v0.toNat:Int),.int .u64 (v1.toNat:Int),.int .u64 (v2.toNat:Int),.int .u64 (v3.toNat:Int)]:=by
  rw[ei,e0,e1,e2,e3,ep,eq];rfl
 have HS:=I hs;clear hs;obtain⟨kz,aw⟩:=Ak (AK ks);rw[<-aw];have eN:=I aw;have hK:Blk (w.alloc (.cells kz 161)) B 161 (AK ks):=Blk.new_of w B _ _ _ aw eB.symm;have hW:Below B w (w.alloc (.cells kz 161)):=by rw[eB];exact(Below.refl _ w).alloc Ag _
 clear ei e0 e1 e2 e3;have cA:=Yk (hK.drewN 1);have cB:=Yl (hK.drewN 1);rw[<-ep] at cA;rw[<-eq] at cB;have HW:=I hW;clear hW;clear ew aw ep eq hK;go_enter Tryz.func92,Tryz.ntmps92
 go_upto_region 1 with fail
 rw[<-eB];clear eB;have HM:=I hm;clear hm;generalize w.alloc (.cells kz 161)=w1 at cA cB HW⊢;refine wp_region_still_lit (by kernel_rfl) (by kernel_rfl) ?_;change wpStill _ _ w1.drew _ _ _
 repeat still_step
 still_call cA
 repeat still_step
 still_call cB
 repeat still_step
 refine wpStill_nil ?_
 try change _ w1.drew
 clear cA cB
 go_upto_region 3 with fail
 obtain⟨g,eg⟩:=Ak (w1.heap.size);have cg:Blk (w1.alloc (.cells #[.int .u64 (v0.toNat:Int),.int .u64 (v1.toNat:Int),.int .u64 (v2.toNat:Int),.int .u64 (v3.toNat:Int)] 234)).drew g 234 (DH (full ks l (0 / 8))):=Blk.drewN (Blk.new_of w1 g _ _ _ HS.o.symm eg.symm) 1;have cb:Below B w (w1.alloc (.cells #[.int .u64 (v0.toNat:Int),.int .u64 (v1.toNat:Int),.int .u64 (v2.toNat:Int),.int .u64 (v3.toNat:Int)] 234)).drew:=below_drewN (HW.o.alloc (by rw[EB.o];exact HW.o.size) _) 1;have hg:B<=g:=by rw[eg,EB.o];exact HW.o.size
 rw[<-eg];generalize (w1.alloc (.cells #[.int .u64 (v0.toNat:Int),.int .u64 (v1.toNat:Int),.int .u64 (v2.toNat:Int),.int .u64 (v3.toNat:Int)] 234)).drew=w2 at cg cb⊢;have cR:=I cg;clear cg;have er:=I cb;clear cb;have F:=I hg;clear hg;clear HS HW eg x0 x1 x2 x3;have l5:(n:Int)<=100000:=by omega
 have c0:(n:Int)<=(c:Int):=by omega
 have eM:c<=9223372036854775807:=by have:=HM.o;unfold maxLen at this;omega
 have eK:(c:Int)<=9223372036854775807:=by omega
 go_wp2_with fail
 go_loopw [8] (fun iv wr=>∃u:Nat,u<=n/\u % 8=0/\iv=.int .i64 (u:Int)/\Below B w wr/\Blk wr g 234 (DH (full ks l (u / 8)))) (fun iv _=>n - (intOf iv).toNat)
 case atStart=>exact⟨0,Nat.zero_le _,rfl,rfl,er.o,cR.o⟩
 case round=>
  clear cR er;obtain⟨u,hu,cu,rfl,hW,hB⟩:=hrel;have HW:=I hW;clear hW;have HB:=I hB;clear hB;have ck:=I cu;clear cu;have d0:(0:Int)<=(u:Int):=by omega
  have d1:(u:Int)<=(n:Int):=by omega
  by_cases hx:n - u<8
  ·have hj:u / 8=n / 8:=by have:=ck.o;omega
   have t1:(n:Int) - (u:Int)<8:=by omega
   have HX:=I hx;clear hx;have HJ:=I hj;clear hj;obtain⟨k,ek⟩:=Ak (n % 256);have hand:bits .and .i64 (n:Int) 255=(k:Int):=by rw[TJ,ek];omega
   have k1:(k:Int)<256:=by omega
   have k2:(0:Int)<=(k:Int):=by omega
   have eH:IntKind.u64.wrap (k:Int)=(k:Int):=by rw[IntKind.wrap_u64];omega
   have ef:u=8*(l.length / 8):=by have:=ck.o;have:=HN.o;have:=HX.o;omega
   have cL:(l.drop u).length=n - u:=by rw[List.length_drop,HN.o]
   obtain⟨mw,bx⟩:∃m,m=wd (BO (l.drop u)):=⟨_,rfl⟩;obtain⟨lw,cn⟩:∃m,m=Rc (stOf ks l):=⟨_,rfl⟩;have cQ:mw.toNat=BO (l.drop u):=by rw[bx];exact KF _ (Ly (by have:=HX.o;omega))
   have ea:bits .or .u64 (mw.toNat:Int) (IntKind.u64.wrap ((k:Int)*72057594037927936))=(lw.toNat:Int):=by
    have h:=TK ks l;rw[<-ef,<-cQ,<-HN.o,<-ek,<-cn] at h;exact h
   have eu:bits .or .u64 (mw.toNat:Int) ((k:Int)*72057594037927936)=(lw.toNat:Int):=by
    rw[<-ea,IntKind.wrap_u64];congr 1;omega
   have cA:=Oq none (n - u) (c - u) (l.drop u) wr B cL.symm (by have:=HX.o;omega) (.inl (by rw[List.eq_nil_of_length_eq_zero (l:=l.drop u) (by have:=H0.o;omega)];rfl));have cB:u=c->Calls Tryz.prog 127 #[.slice none 0 0] wr fun e w'=>e=.returned (wv (wd (BO (l.drop u))))/\w'=wr:=fun h=>Oq none 0 0 (l.drop u) wr B (by omega) (by decide) (.inl (by rw[List.eq_nil_of_length_eq_zero (l:=l.drop u) (by omega)];rfl))
   rw[<-bx] at cA;rw[<-bx] at cB;obtain⟨⟨a,b,cc,d⟩,e1⟩:∃t,t=addM (full ks l (u / 8)) lw:=⟨_,rfl⟩;obtain⟨c1,ec⟩:∃x,x=cc ^^^ 255#64:=⟨_,rfl⟩;obtain⟨V0,eV⟩:∃x:V,x=⟨a,b,c1,d⟩:=⟨_,rfl⟩;obtain⟨⟨a2,b2,c2,d2⟩,e2⟩:∃t,t=rnds 4 V0:=⟨_,rfl⟩;obtain⟨q1,ca⟩:∃x,x=a2 ^^^ b2:=⟨_,rfl⟩;obtain⟨q2,cf⟩:∃x,x=q1 ^^^ c2:=⟨_,rfl⟩;obtain⟨q3,bB⟩:∃x,x=q2 ^^^ d2:=⟨_,rfl⟩;have bz:Ic ks l=q3:=by
    have hv:(stOf ks l).v=full ks l (u / 8):=by rw[FT,HJ.o,HN.o]
    rw[Ic,finS,<-cn,hv,<-e1,fin,<-ec,<-eV,<-e2,allX,<-ca,<-cf,<-bB]
   have x0:bits .xor .u64 (cc.toNat:Int) 255=(c1.toNat:Int):=by rw[ec];exact BB cc 255#64
   have x1:bits .xor .u64 (a2.toNat:Int) (b2.toNat:Int)=(q1.toNat:Int):=by rw[ca];exact BB _ _
   have x2:bits .xor .u64 (q1.toNat:Int) (c2.toNat:Int)=(q2.toNat:Int):=by rw[cf];exact BB _ _
   have x3:bits .xor .u64 (q2.toNat:Int) (d2.toNat:Int)=(q3.toNat:Int):=by rw[bB];exact BB _ _
   have ct:=ZS g (full ks l (u / 8)) lw wr HB.o;rw[<-e1] at ct;have cp:=I bz;clear bz;have EV:=I eV;clear eV;have E2:=I e2;clear e2;have eb:=I x0;clear x0;have eD:=I x1;clear x1;have ez:=I x2;clear x2;have eF:=I x3;clear x3;have Z:=I (Blk.lt HB.o);clear e1 ec ca cf bB cQ bx cn cL ef ek HJ ck
   go_upto_region 7 with fail
   go_cut [] from 39 to 50 (fun wx=>Below B w wx/\Blk wx g 234 (DH ⟨a,b,cc,d⟩))
   case first=>
    have N:u=c\/u<c:=by omega
    rcases N with N | N
    ·have et:=cB N;clear cB
     clear cA;subst N
     go_wp2_with (first
      |(go_at_call 127;refine Aj et ?_;rintro w' hw;have hw:=hw.symm;subst hw;clear et)
      |(go_at_call 128;refine Aj ct ?_;rintro v1 ⟨D,O⟩;clear ct;have E:=I D;have J:=I (AJ HW.o O (by have:=Z.o;have:=F.o;omega) F.o);clear D O))
     go_meet
     exact⟨J.o,E.o⟩
    ·clear cB
     have eL:(u:Int)<(c:Int):=by omega
     go_wp2_with (first
      |(go_at_call 127;refine Aj cA ?_;rintro w' hw;have hw:=hw.symm;subst hw;clear cA)
      |(go_at_call 128;refine Aj ct ?_;rintro v1 ⟨D,O⟩;clear ct;have E:=I D;have J:=I (AJ HW.o O (by have:=Z.o;have:=F.o;omega) F.o);clear D O))
     go_meet
     exact⟨J.o,E.o⟩
   case rest=>
    obtain⟨ed,D⟩:=hcut;have E:=I D;clear D;have J:=I ed;clear ed;have k2:wc.cell? ⟨g,2,none⟩=some (.int .u64 (cc.toNat:Int)):=by rw[E.o.cell];rfl
    have fz:=E.o.frozen;have x0:=eb.o;clear eb hand eH ea eu cA cB ct
    go_upto_region 8 with fail
    refine wp_region_still_tail 8 (by kernel_rfl) (by kernel_rfl) ?_;simp only[List.take_succ_cons,List.take_zero,List.drop_succ_cons,List.drop_zero];change wpStill _ _ wc.drew _ _ _
    repeat still_step
    refine wpStill_nil ?_;change wpList _ _ _ _ _ wc.drew
    go_upto_region 9 with fail
    have cd:Blk (wc.setCell ⟨g,2,none⟩ (.int .u64 (c1.toNat:Int))).drew g 234 (DH V0):=by rw[EV.o];exact Blk.set E.o 2 (wv c1)
    have cm:Below B w (wc.setCell ⟨g,2,none⟩ (.int .u64 (c1.toNat:Int))).drew:=below_drewN (Az J.o F.o _) 1;generalize (wc.setCell ⟨g,2,none⟩ (.int .u64 (c1.toNat:Int))).drew=v2 at cd cm⊢;have cw:=I cd;clear cd;have cx:=I cm;clear cm;clear k2 fz x0 E J Z HB HW
    go_wp2_with fail
    go_loopw [9] (fun iv wr=>∃i:Nat,i<=4/\iv=.int .i64 (i:Int)/\Below B w wr/\Blk wr g 234 (DH (rnds i V0))) (fun iv _=>4 - (intOf iv).toNat)
    case atStart=>exact⟨0,by decide,rfl,cx.o,cw.o⟩
    case round=>
     obtain⟨i,hi,rfl,cq,ej⟩:=hrel;clear cw cx;have cj:=I ej;clear ej;have cP:=I cq;clear cq
     by_cases hi4:i=4
     ·subst hi4
      have M:=cj.o;rw[<-E2.o] at M;have k0:wr.cell? ⟨g,0,none⟩=some (.int .u64 (a2.toNat:Int)):=by rw[M.cell];rfl
      have k1:wr.cell? ⟨g,1,none⟩=some (.int .u64 (b2.toNat:Int)):=by rw[M.cell];rfl
      have k2:wr.cell? ⟨g,2,none⟩=some (.int .u64 (c2.toNat:Int)):=by rw[M.cell];rfl
      have k3:wr.cell? ⟨g,3,none⟩=some (.int .u64 (d2.toNat:Int)):=by rw[M.cell];rfl
      have x1:=eD.o;have x2:=ez.o;have x3:=eF.o;clear M
      go_upto_region 13 with fail
      refine wp_region_still_lit (by kernel_rfl) (by kernel_rfl) ?_;change wpStill _ _ wr.drew _ _ _
      repeat still_step
      refine wpStill_nil ?_
      try change _ wr.drew
      go_wp2_with fail
      go_ret;exact⟨by rw[cp.o];rfl,by rw[<-EB.o];exact below_drewN cP.o 1⟩
     ·have j1:(i:Int)<4:=by omega
      have j2:(0:Int)<=(i:Int):=by omega
      have cr:=PJ g (rnds i V0) wr cj.o;have Z:=I (Blk.lt cj.o);have ev:=I hi4;clear hi4
      go_wp2_with (go_at_call 129;refine Aj cr ?_;rintro v4 ⟨cy,eo⟩;clear cr;have eJ:=I cy;have ey:=I eo;clear cy eo)
      go_roundw
      case rel=>exact⟨i+1,by have:=ev.o;omega,by go_num,AJ cP.o ey.o (by have:=Z.o;have:=F.o;omega) F.o,eJ.o⟩
      case measure=>simp [intOf];omega
  ·have t1:(8:Int)<=(n:Int) - (u:Int):=by omega
   exact absurd H0.o (by omega)
theorem WK (ks:Nat->UInt8) (A:Option Addr) (n c:Nat) (l:List UInt8) (w:World) (D:n=l.length) (F:n<=100000) (J:n<=c) (hm:c<=maxLen) (E:Rd w w.heap.size A (bvs l)) :
  Calls Tryz.prog 92 #[.agg (AK ks),.slice A n c] w fun e w'=>e=.returned (wv (Ic ks l))/\Below w.heap.size w w':=by
 cases A with
 |some x=>exact TM ks x n c l w D F J hm E
 |none=>
  refine TO ks n c l w D F J hm ?_;rcases E with h | ⟨b,o,M,_,_⟩
  ·rw[D,List.map_eq_nil_iff.1 h];rfl
  ·cases M
theorem BY:(Tryz.prog.info? 5).map (fun i=>(i.zero,i.size,i.bytes))=some (some (.int .u8 0),1,1):=by kernel_rfl
theorem FR (w:World) (t:TypeId) (cs:Array Value) (l:List Value) (h:cs.toList=l) (N:Nat) (D:w.heap.size=N):Rd (w.alloc (.cells cs t)) (N+1) (some ⟨N,0,none⟩) l:=by
 subst D;refine .inr ⟨w.heap.size,0,rfl,by omega,fun i u hu=>?_⟩;rw[Nat.zero_add,(Blk.new w t cs).cell i];rw[<-h] at hu
 simpa using hu
theorem DU {w w':World} {base:Nat} {t:TypeId} {v:Value} {n:Nat} {xs:List Value} {o:Obj} (h:w.ownsRow base t 1 v n xs) (e:w'.heap=w.heap.push o):w'.ownsRow base t 1 v n xs:=by
 obtain⟨F,h | ⟨g,cap,cur,J,N,D,M⟩⟩:=h
 ·exact⟨F,.inl h⟩
 ·refine⟨F,.inr ⟨g,cap,cur,J,N,?_,M⟩⟩
  have E:=Blk.lt (t:=t) (cs:=cur) D;rw[e,Array.getElem?_push_lt E,<-Array.getElem?_eq_getElem E];exact D
theorem Ri {w:World} (t:TypeId) (D:List Value) (rows:List (List UInt8)) (cs:Array Value) (F:cs.toList=D) (M:D.length=rows.length)
  (h:∀i (h:i<rows.length),∃(E:Option Addr) (ci:Nat),D[i]? = some (.slice E (rows[i]).length ci)/\Rd w w.heap.size E (bvs rows[i])):Rows (w.alloc (.cells cs t)) (w.alloc (.cells cs t)).heap.size (some ⟨w.heap.size,0,none⟩) rows:=by
 refine⟨D,M,(FR w t cs D F w.heap.size rfl).more (by simp),fun i hi=>?_⟩;obtain⟨E,ci,J,N⟩:=h i hi;exact⟨E,ci,J,(N.alloc Ag _).more (by simp)⟩
def cnt (n:Nat):List UInt8:=(List.range n).map UInt8.ofNat
end Si
end Go.Proofs.YthgignaohimadaaGreat
