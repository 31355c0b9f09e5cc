import Derived.Test.YtcpccikongbopaaGreatZClientFirst4
set_option maxHeartbeats 25600000
set_option maxRecDepth 100000
set_option linter.unusedVariables false
set_option linter.unusedSimpArgs false
namespace Go.Proofs.YtcpccikongbopaaGreat
namespace Si
open Go.RowKit Ad
def Rows (w:World) (B:Nat) (A:Option Addr) (rows:List (List UInt8)):Prop:=
 ∃vs:List Value,vs.length=rows.length/\Rd w B A vs/\∀i (h:i<rows.length),∃(Ai:Option Addr) (ci:Nat),vs[i]? = some (.slice Ai (rows[i]).length ci)/\Rd w B Ai (bvs rows[i])
theorem Rows.below {w w':World} {B:Nat} {A:Option Addr} {rows:List (List UInt8)} (h:Rows w B A rows) (D:Below B w w'):Rows w' B A rows:=by
 obtain⟨vs,F,E,O⟩:=h;refine⟨vs,F,E.below D,fun i Z=>?_⟩;obtain⟨Y,ci,M,X⟩:=O i Z;exact⟨Y,ci,M,X.below D⟩
def flat (rows:List (List UInt8)):List UInt8:=rows.flatten
theorem Pn (rows:List (List UInt8)) (i:Nat) (h:i<rows.length):flat (rows.take (i+1))=flat (rows.take i)++rows[i]:=by
 unfold flat;rw[List.take_succ_eq_append_getElem h,List.flatten_append];simp
theorem Ij (rows:List (List UInt8)) (i:Nat):(flat (rows.take i)).length<=(flat rows).length:=by
 have h:rows=rows.take i++rows.drop i:=(List.take_append_drop i rows).symm;have D:flat rows=flat (rows.take i)++flat (rows.drop i):=by
  unfold flat;rw[<-List.flatten_append,List.take_append_drop]
 rw[D,List.length_append];omega
def Lj (ks:Nat->UInt8) (l:List UInt8):Array Value:=stc (stOf ks l)
theorem Nv (g:Nat) (ks:Nat->UInt8) (l:List UInt8) (y:UInt8) (w:World) (D:l.length<100000) (hB:Blk w g 274 (Lj ks l)) :
  Calls Tryz.prog 202 #[.pointer (some ⟨g,0,none⟩),.int .u8 (y.toNat:Int)] w fun e w'=>e=.returned (.tuple #[])/\Blk w' g 274 (Lj ks (l++[y]))/\w.grownBy w' (some g):=by
 have h:=Li g (stOf ks l) y w (by rw[WN];exact D) (TS ks l) hB;rw[<-Kh] at h;exact h
theorem WU (g:Nat) (ks:Nat->UInt8) (l:List UInt8) (w:World) (hB:Blk w g 274 (Lj ks l)) :
  Calls Tryz.prog 203 #[.pointer (some ⟨g,0,none⟩)] w fun e w'=>e=.returned (wv (GC ks l))/\w.grownBy w' (some g):=
 Ve g (stOf ks l) w (Nat.lt_of_lt_of_le (TS ks l) (RU _ (by omega))) hB
theorem Po (l:List UInt8) (j:Nat) (h:j<l.length):l.take (j+1)=l.take j++[l[j]]:=List.take_succ_eq_append_getElem h
theorem Vf (ks:Nat->UInt8) (A:Option Addr) (n c:Nat) (rows:List (List UInt8)) (w:World) (hn:n=rows.length) (aH:n<=100000) (hl:(flat rows).length<100000) (hr:Rows w w.heap.size A rows) :
  Calls ab.prog 177 #[.agg (AF ks),.slice A n c] w fun e w'=>e=.returned (wv (GC ks (flat rows)))/\Below w.heap.size w w':=by
 obtain⟨vs,hv,ag,M⟩:=hr;obtain⟨B,eB⟩:=Ah (w.heap.size);rw[<-eB] at ag M;have EB:=I eB;have aI:=I ag;clear ag;have ae:=I M;clear M;have HN:=I hn;clear hn;have e5:(n:Int)<=100000:=by omega
 clear aH;have HL:=I hl;clear hl;have HV:=I hv;clear hv;have hk:AF ks=#[.int .u8 ((ks 0).toNat:Int),.int .u8 ((ks 1).toNat:Int),.int .u8 ((ks 2).toNat:Int),.int .u8 ((ks 3).toNat:Int),.int .u8 ((ks 4).toNat:Int),.int .u8 ((ks 5).toNat:Int),.int .u8 ((ks 6).toNat:Int),.int .u8 ((ks 7).toNat:Int),.int .u8 ((ks 8).toNat:Int),.int .u8 ((ks 9).toNat:Int),.int .u8 ((ks 10).toNat:Int),.int .u8 ((ks 11).toNat:Int),.int .u8 ((ks 12).toNat:Int),.int .u8 ((ks 13).toNat:Int),.int .u8 ((ks 14).toNat:Int),.int .u8 ((ks 15).toNat:Int)]:=rfl;have cb:=Pm ks;rw[hk] at cb⊢;have hs:stc ⟨start ks,0,0⟩=#[wv (start ks).a,wv (start ks).b,wv (start ks).c,wv (start ks).d,.int .u64 0,.int .u64 0]:=rfl;rw[hs] at cb;have aj:Lj ks []=#[wv (start ks).a,wv (start ks).b,wv (start ks).c,wv (start ks).d,.int .u64 0,.int .u64 0]:=rfl;obtain⟨p0,e0⟩:∃x,x=(start ks).a:=⟨_,rfl⟩;obtain⟨p1,e1⟩:∃x,x=(start ks).b:=⟨_,rfl⟩;obtain⟨p2,e2⟩:∃x,x=(start ks).c:=⟨_,rfl⟩;obtain⟨p3,e3⟩:∃x,x=(start ks).d:=⟨_,rfl⟩;rw[<-e0,<-e1,<-e2,<-e3] at aj cb;have aA:=I aj;clear aj;clear hk hs e0 e1 e2 e3;go_enter ab.func177,ab.ntmps177
 go_upto_region 2 with(go_at_call 201;refine Ag (cb _) ?_;rintro w1 aD;have aB:Below w.heap.size w w1:=((Below.refl w.heap.size w).alloc Ae _).trans (aD.mono (by simp));have aa:=I aB;clear aB aD cb)
 clear eB;obtain⟨g,eg⟩:=Ah (w1.heap.size);have ah:Blk (w1.alloc (.cells #[.int .u64 (p0.toNat:Int),.int .u64 (p1.toNat:Int),.int .u64 (p2.toNat:Int),.int .u64 (p3.toNat:Int),.int .u64 0,.int .u64 0] 274)) g 274 (Lj ks []):=Blk.new_of w1 g _ _ _ aA.o.symm eg.symm;have af:Below B w (w1.alloc (.cells #[.int .u64 (p0.toNat:Int),.int .u64 (p1.toNat:Int),.int .u64 (p2.toNat:Int),.int .u64 (p3.toNat:Int),.int .u64 0,.int .u64 0] 274)):=by rw[EB.o];exact aa.o.alloc aa.o.size _
 have hg:B<=g:=by rw[eg,EB.o];exact aa.o.size
 rw[<-eg];generalize w1.alloc (.cells #[.int .u64 (p0.toNat:Int),.int .u64 (p1.toNat:Int),.int .u64 (p2.toNat:Int),.int .u64 (p3.toNat:Int),.int .u64 0,.int .u64 0] 274)=w2 at ah af⊢;have aE:=I ah;clear ah;have au:=I af;clear af;have Z:=I hg;clear hg;clear aA aa eg
 go_wp2_with fail
 go_loopw [14] (fun iv wr=>∃i:Nat,i<=n/\iv=.int .i64 (i:Int)/\Below B w wr/\Blk wr g 274 (Lj ks (flat (rows.take i)))) (fun iv _=>n - (intOf iv).toNat)
 case atStart=>exact⟨0,Nat.zero_le _,rfl,au.o,by rw[List.take_zero];exact aE.o⟩
 case round=>
  clear aE au;obtain⟨i,hi,rfl,hW,hB⟩:=hrel;have HW:=I hW;clear hW;have HB:=I hB;clear hB
  by_cases hx:i=n
  ·have he:rows.take i=rows:=List.take_of_length_le (by have:=HN.o;omega)
   have ce:=WU g ks (flat (rows.take i)) wr HB.o;rw[he] at ce;subst hx;clear he
   go_wp2_with (go_at_call 203;refine Ag ce ?_;rintro w3 aw;clear ce;have aN:=I aw;clear aw)
   go_ret;exact⟨rfl,by rw[<-EB.o];exact Al HW.o aN.o (by have:=HW.o.size;have:=Blk.lt HB.o;have:=Z.o;omega) Z.o⟩
  ·have aR:i<n:=by omega
   have Y:i<rows.length:=by have:=HN.o;omega
   have e1:(i:Int)<(n:Int):=by omega
   have e2:(0:Int)<=(i:Int):=by omega
   obtain⟨row,X⟩:∃r,r=rows[i]:=⟨_,rfl⟩;obtain⟨pre,O⟩:∃r,r=flat (rows.take i):=⟨_,rfl⟩;have E:flat (rows.take (i+1))=pre++row:=by rw[O,X];exact Pn rows i Y
   have hlen:(pre++row).length<100000:=by rw[<-E];exact Nat.lt_of_le_of_lt (Ij rows (i+1)) HL.o
   obtain⟨Ai,ci,al,ad⟩:=ae.o i Y;rw[<-X] at al ad;have an:=HB.o;rw[<-O] at an;have aC:=I an;clear an HB;obtain⟨b,o,rfl,aK,F⟩:=aI.o.at_ al;obtain⟨m,em⟩:=Ah (row.length);rw[<-em] at F;have hc:wr.cell? ⟨b,o+i,none⟩=some (.slice Ai m ci):=(HW.o.cell (p:=⟨b,o+i,none⟩) aK).trans F;have aM:=I E;clear E;have aJ:=I ad;clear ad;have HX:=I hx;clear hx;have HI:=I hi;clear hi;have e6:(m:Int)<100000:=by have:=hlen;rw[List.length_append] at this;omega
   have HM:=I em;clear em;have aF:=I hlen;clear hlen;have aQ:=I Y;clear al F X O Y
   go_wp2_with fail
   go_loopw [20] (fun jv wx=>∃j:Nat,j<=m/\jv=.int .i64 (j:Int)/\Below B w wx/\Blk wx g 274 (Lj ks (pre++row.take j))) (fun jv _=>m - (intOf jv).toNat)
   case atStart=>exact⟨0,Nat.zero_le _,rfl,HW.o,by rw[List.take_zero,List.append_nil];exact aC.o⟩
   case round=>
    clear hc HW aC;obtain⟨j,hj,rfl,az,av⟩:=hrel;have ak:=I az;clear az;have ai:=I av;clear av
    by_cases hy:j=m
    ·have he:row.take j=row:=List.take_of_length_le (by have:=HM.o;omega)
     have HE:=I he;clear he;subst hy
     go_wp2_with fail
     go_roundw
     case rel=>exact⟨i+1,by omega,by go_num,ak.o,by rw[aM.o];have:=ai.o;rw[HE.o] at this;exact this⟩
     case measure=>simp [intOf];omega
    ·have aS:j<m:=by omega
     have ao:j<row.length:=by have:=HM.o;omega
     have f1:(j:Int)<(m:Int):=by omega
     have f2:(0:Int)<=(j:Int):=by omega
     obtain⟨b2,o2,rfl,aL,D⟩:=aJ.o.at_ (DH ao);obtain⟨y,ey⟩:=Ah (row[j]);rw[<-ey] at D;have aT:wr.cell? ⟨b2,o2+j,none⟩=some (.int .u8 (y.toNat:Int)):=(ak.o.cell (p:=⟨b2,o2+j,none⟩) aL).trans D;have ay:(pre++row.take j)++[y]=pre++row.take (j+1):=by rw[Po row j ao,<-ey,List.append_assoc]
     have ca:=Nv g ks (pre++row.take j) y wr (by have:=aF.o;rw[List.length_append] at this⊢;have:(row.take j).length<=row.length:=by{rw[List.length_take];omega};omega) ai.o;rw[ay] at ca;have HY:=I hy;clear hy;have HJ:=I hj;clear hj;have aP:=I (Blk.lt ai.o);clear D ey ay ao
     go_wp2_with (go_at_call 202;refine Ag ca ?_;rintro w4 ⟨ar,ax⟩;clear ca;have aG:=I ar;have aO:=I ax;clear ar ax)
     go_roundw
     case rel=>exact⟨j+1,by omega,by go_num,Al ak.o aO.o (by have:=aP.o;have:=Z.o;omega) Z.o,aG.o⟩
     case measure=>simp [intOf];omega
theorem Pp (n:Int):bits .and .i64 n 255=n % 256:=by
 have D:(BitVec.ofInt 64 255).toNat=2 ^ 8 - 1:=by decide
 have key:(BitVec.ofInt 64 n &&& BitVec.ofInt 64 255).toNat=(n % ((2 ^ 64:Nat):Int)).toNat % 2 ^ 8:=by
  rw[BitVec.toNat_and,BitVec.toNat_ofInt,D,Nat.and_two_pow_sub_one_eq_mod]
 show IntKind.i64.wrap ((BitVec.ofInt 64 n &&& BitVec.ofInt 64 255).toNat:Nat)=n % 256;rw[key,IntKind.wrap_i64];omega
theorem Rd.drop {w:World} {B:Nat} {x:Addr} {l:List UInt8} (h:Rd w B (some x) (bvs l)) (p:Nat):Rd w B (some (x.add p)) (bvs (l.drop p)):=by
 rcases h with h | ⟨b,o,D,E,F⟩
 ·left
  have:l = []:=List.map_eq_nil_iff.1 h;rw[this];simp [bvs]
 ·injection D with D
  subst D;rw[addr_add];refine .inr ⟨b,o+p,rfl,E,fun i u hu=>?_⟩;have:(bvs l)[p+i]? = some u:=by
   rw[<-hu];simp [bvs,List.getElem?_drop]
  have:=F _ _ this
  rwa [Nat.add_assoc]
theorem Rd.take {w:World} {B:Nat} {A:Option Addr} {l:List UInt8} (h:Rd w B A (bvs l)) (k:Nat):Rd w B A (bvs (l.take k)):=by
 rcases h with h | ⟨b,o,E,D,F⟩
 ·left
  have:l = []:=List.map_eq_nil_iff.1 h;rw[this];simp [bvs]
 ·refine .inr ⟨b,o,E,D,fun i u hu=>F i u ?_⟩
  rw[<-hu];have M:i<k:=by
   rcases Nat.lt_or_ge i k with g | g
   ·exact g
   ·rw[List.getElem?_eq_none (by simp [bvs];omega)] at hu;cases hu
  simp [bvs,M]
theorem rd_key {w:World} {B:Nat} {t:TypeId} {ks:Nat->UInt8} (h:Blk w B t (AF ks)) (o:Nat) (E:o+8<=16):Rd w (B+1) (some ⟨B,o,none⟩) (bvs ((List.range 8).map fun i=>ks (o+i))):=by
 refine .inr ⟨B,o,rfl,by omega,fun i u hu=>?_⟩;have D:i<8:=by
  rcases Nat.lt_or_ge i 8 with g | g
  ·exact g
  ·rw[List.getElem?_eq_none (by simp [bvs];omega)] at hu;cases hu
 rw[h.cell,Fk _ _ (by omega)];rw[<-hu];simp [bvs,D]
theorem TU {w:World} {B:Nat} {t:TypeId} {ks:Nat->UInt8} (h:Blk w B t (AF ks)):Calls Tryz.prog 131 #[.slice (some ⟨B,0,none⟩) 8 16] w fun e w'=>e=.returned (wv (kA ks))/\w'=w:=by
 have D:=rd_key h 0 (by decide);have:=Lh (some ⟨B,0,none⟩) 8 16 _ w (B+1) (by simp) (by decide) D;have e:((List.range 8).map fun i=>ks (0+i))=(List.range 8).map ks:=by simp
 rw[e] at this;exact this
theorem TV {w:World} {B:Nat} {t:TypeId} {ks:Nat->UInt8} (h:Blk w B t (AF ks)):Calls Tryz.prog 131 #[.slice (some ⟨B,8,none⟩) 8 8] w fun e w'=>e=.returned (wv (kB ks))/\w'=w:=
 Lh (some ⟨B,8,none⟩) 8 8 _ w (B+1) (by simp) (by decide) (rd_key h 8 (by decide))
theorem Ps (ks:Nat->UInt8) (l:List UInt8):bits .or .u64 (BH (l.drop (8*(l.length / 8))):Nat) (IntKind.u64.wrap (((l.length % 256:Nat):Int)*72057594037927936))=((Nt (stOf ks l)).toNat:Int):=by
 have D:BH (l.drop (8*(l.length / 8)))<72057594037927936:=Pj (by rw[List.length_drop];omega);have h:=Mr (BH (l.drop (8*(l.length / 8)))) (l.length % 256) D;rw[IntKind.wrap_u64,h,Nat.mod_mod];rw[Kk _ (by rw[Fo];exact D),Fo]
def stcV (ks:Nat->UInt8):Array Value:=Dt (start ks)
theorem Pu (ks:Nat->UInt8) (x:Addr) (n c:Nat) (l:List UInt8) (w:World) (hn:n=l.length) (hl:n<=100000) (hc:n<=c) (hm:c<=maxLen) (hr:Rd w w.heap.size (some x) (bvs l)) :
  Calls ab.prog 87 #[.agg (AF ks),.slice (some x) n c] w fun e w'=>e=.returned (wv (GC ks l))/\Below w.heap.size w w':=by
 obtain⟨B,eB⟩:=Ah (w.heap.size);rw[<-eB] at hr;have EB:=I eB;have HR:=I hr;clear hr;have HN:=I hn;clear hn;have aU:AF ks=#[.int .u8 ((ks 0).toNat:Int),.int .u8 ((ks 1).toNat:Int),.int .u8 ((ks 2).toNat:Int),.int .u8 ((ks 3).toNat:Int),.int .u8 ((ks 4).toNat:Int),.int .u8 ((ks 5).toNat:Int),.int .u8 ((ks 6).toNat:Int),.int .u8 ((ks 7).toNat:Int),.int .u8 ((ks 8).toNat:Int),.int .u8 ((ks 9).toNat:Int),.int .u8 ((ks 10).toNat:Int),.int .u8 ((ks 11).toNat:Int),.int .u8 ((ks 12).toNat:Int),.int .u8 ((ks 13).toNat:Int),.int .u8 ((ks 14).toNat:Int),.int .u8 ((ks 15).toNat:Int)]:=rfl;have aO:stcV ks=#[wv (start ks).a,wv (start ks).b,wv (start ks).c,wv (start ks).d]:=rfl;obtain⟨p,ep⟩:∃x,x=kA ks:=⟨_,rfl⟩;obtain⟨q,eq⟩:∃x,x=kB ks:=⟨_,rfl⟩;obtain⟨v0,e0⟩:∃x,x=0x736f6d6570736575#64 ^^^ p:=⟨_,rfl⟩;obtain⟨v1,e1⟩:∃x,x=0x646f72616e646f6d#64 ^^^ q:=⟨_,rfl⟩;obtain⟨v2,e2⟩:∃x,x=0x6c7967656e657261#64 ^^^ p:=⟨_,rfl⟩;obtain⟨v3,e3⟩:∃x,x=0x7465646279746573#64 ^^^ q:=⟨_,rfl⟩;have x0:bits .xor .u64 8317987319222330741 (p.toNat:Int)=(v0.toNat:Int):=by rw[e0];exact Bu 0x736f6d6570736575#64 p
 have x1:bits .xor .u64 7237128888997146477 (q.toNat:Int)=(v1.toNat:Int):=by rw[e1];exact Bu 0x646f72616e646f6d#64 q
 have x2:bits .xor .u64 7816392313619706465 (p.toNat:Int)=(v2.toNat:Int):=by rw[e2];exact Bu 0x6c7967656e657261#64 p
 have x3:bits .xor .u64 8387220255154660723 (q.toNat:Int)=(v3.toNat:Int):=by rw[e3];exact Bu 0x7465646279746573#64 q
 have hs:stcV ks=#[.int .u64 (v0.toNat:Int),.int .u64 (v1.toNat:Int),.int .u64 (v2.toNat:Int),.int .u64 (v3.toNat:Int)]:=by
  rw[aO,e0,e1,e2,e3,ep,eq];rfl
 have HS:=I hs;clear hs;obtain⟨kz,ah⟩:=Ah (AF ks);rw[<-ah];have bb:=I ah;have hK:Blk (w.alloc (.cells kz 166)) B 166 (AF ks):=Blk.new_of w B _ _ _ ah eB.symm;have hW:Below B w (w.alloc (.cells kz 166)):=by rw[eB];exact(Below.refl _ w).alloc Ae _
 clear aO e0 e1 e2 e3;have Z:=TU (hK.drewN 1);have cB:=TV (hK.drewN 1);rw[<-ep] at Z;rw[<-eq] at cB;have HW:=I hW;clear hW;clear aU ah ep eq hK;go_enter ab.func87,ab.ntmps87
 go_upto_region 1 with fail
 rw[<-eB];clear eB;have HM:=I hm;clear hm;generalize w.alloc (.cells kz 166)=w1 at Z cB HW⊢;refine wp_region_still_lit (by kernel_rfl) (by kernel_rfl) ?_;change wpStill _ _ w1.drew _ _ _
 repeat still_step
 still_call Z
 repeat still_step
 still_call cB
 repeat still_step
 refine wpStill_nil ?_
 try change _ w1.drew
 clear Z cB
 go_upto_region 3 with fail
 obtain⟨g,eg⟩:=Ah (w1.heap.size);have av:Blk (w1.alloc (.cells #[.int .u64 (v0.toNat:Int),.int .u64 (v1.toNat:Int),.int .u64 (v2.toNat:Int),.int .u64 (v3.toNat:Int)] 226)).drew g 226 (Dt (full ks l (0 / 8))):=Blk.drewN (Blk.new_of w1 g _ _ _ HS.o.symm eg.symm) 1;have au:Below B w (w1.alloc (.cells #[.int .u64 (v0.toNat:Int),.int .u64 (v1.toNat:Int),.int .u64 (v2.toNat:Int),.int .u64 (v3.toNat:Int)] 226)).drew:=below_drewN (HW.o.alloc (by rw[EB.o];exact HW.o.size) _) 1;have hg:B<=g:=by rw[eg,EB.o];exact HW.o.size
 rw[<-eg];generalize (w1.alloc (.cells #[.int .u64 (v0.toNat:Int),.int .u64 (v1.toNat:Int),.int .u64 (v2.toNat:Int),.int .u64 (v3.toNat:Int)] 226)).drew=w2 at av au⊢;have aP:=I av;clear av;have ay:=I au;clear au;have F:=I hg;clear hg;clear HS HW eg x0 x1 x2 x3;have l5:(n:Int)<=100000:=by omega
 have c0:(n:Int)<=(c:Int):=by omega
 have bd:c<=9223372036854775807:=by have:=HM.o;unfold maxLen at this;omega
 have ba:(c:Int)<=9223372036854775807:=by omega
 go_wp2_with fail
 go_loopw [8] (fun iv wr=>∃u:Nat,u<=n/\u % 8=0/\iv=.int .i64 (u:Int)/\Below B w wr/\Blk wr g 226 (Dt (full ks l (u / 8)))) (fun iv _=>n - (intOf iv).toNat)
 case atStart=>exact⟨0,Nat.zero_le _,rfl,rfl,ay.o,aP.o⟩
 case round=>
  clear aP ay;obtain⟨u,hu,aN,rfl,hW,hB⟩:=hrel;have HW:=I hW;clear hW;have HB:=I hB;clear hB;have af:=I aN;clear aN;have d0:(0:Int)<=(u:Int):=by omega
  have d1:(u:Int)<=(n:Int):=by omega
  by_cases hx:n - u<8
  ·have hj:u / 8=n / 8:=by have:=af.o;omega
   have t1:(n:Int) - (u:Int)<8:=by omega
   have HX:=I hx;clear hx;have HJ:=I hj;clear hj;obtain⟨k,ek⟩:=Ah (n % 256);have hand:bits .and .i64 (n:Int) 255=(k:Int):=by rw[Pp,ek];omega
   have k1:(k:Int)<256:=by omega
   have k2:(0:Int)<=(k:Int):=by omega
   have aQ:IntKind.u64.wrap (k:Int)=(k:Int):=by rw[IntKind.wrap_u64];omega
   have ag:u=8*(l.length / 8):=by have:=af.o;have:=HN.o;have:=HX.o;omega
   have aL:(l.drop u).length=n - u:=by rw[List.length_drop,HN.o]
   obtain⟨mw,X⟩:∃m,m=wd (BH (l.drop u)):=⟨_,rfl⟩;obtain⟨lw,aw⟩:∃m,m=Nt (stOf ks l):=⟨_,rfl⟩;have aB:mw.toNat=BH (l.drop u):=by rw[X];exact IU _ (Jr (by have:=HX.o;omega))
   have ax:bits .or .u64 (mw.toNat:Int) (IntKind.u64.wrap ((k:Int)*72057594037927936))=(lw.toNat:Int):=by
    have h:=Ps ks l;rw[<-ag,<-aB,<-HN.o,<-ek,<-aw] at h;exact h
   have aV:bits .or .u64 (mw.toNat:Int) ((k:Int)*72057594037927936)=(lw.toNat:Int):=by
    rw[<-ax,IntKind.wrap_u64];congr 1;omega
   have Z:=Lh (some (x.add u)) (n - u) (c - u) (l.drop u) wr B aL.symm (by have:=HX.o;omega) (Rd.drop (HR.o.below HW.o) u);have cB:u=c->Calls ab.prog 131 #[.slice (some x) 0 0] wr fun e w'=>e=.returned (wv (wd (BH (l.drop u))))/\w'=wr:=fun h=>Lh (some x) 0 0 (l.drop u) wr B (by omega) (by decide) (.inl (by rw[List.eq_nil_of_length_eq_zero (l:=l.drop u) (by omega)];rfl))
   rw[<-X] at Z;rw[<-X] at cB;obtain⟨⟨a,b,cc,d⟩,e1⟩:∃t,t=addM (full ks l (u / 8)) lw:=⟨_,rfl⟩;obtain⟨c1,ec⟩:∃x,x=cc ^^^ 255#64:=⟨_,rfl⟩;obtain⟨V0,eV⟩:∃x:V,x=⟨a,b,c1,d⟩:=⟨_,rfl⟩;obtain⟨⟨a2,b2,c2,d2⟩,e2⟩:∃t,t=rnds 4 V0:=⟨_,rfl⟩;obtain⟨q1,ao⟩:∃x,x=a2 ^^^ b2:=⟨_,rfl⟩;obtain⟨q2,ak⟩:∃x,x=q1 ^^^ c2:=⟨_,rfl⟩;obtain⟨q3,an⟩:∃x,x=q2 ^^^ d2:=⟨_,rfl⟩;have ai:GC ks l=q3:=by
    have hv:(stOf ks l).v=full ks l (u / 8):=by rw[Fo,HJ.o,HN.o]
    rw[GC,finS,<-aw,hv,<-e1,fin,<-ec,<-eV,<-e2,allX,<-ao,<-ak,<-an]
   have x0:bits .xor .u64 (cc.toNat:Int) 255=(c1.toNat:Int):=by rw[ec];exact Bu cc 255#64
   have x1:bits .xor .u64 (a2.toNat:Int) (b2.toNat:Int)=(q1.toNat:Int):=by rw[ao];exact Bu _ _
   have x2:bits .xor .u64 (q1.toNat:Int) (c2.toNat:Int)=(q2.toNat:Int):=by rw[ak];exact Bu _ _
   have x3:bits .xor .u64 (q2.toNat:Int) (d2.toNat:Int)=(q3.toNat:Int):=by rw[an];exact Bu _ _
   have ct:=Vd g (full ks l (u / 8)) lw wr HB.o;rw[<-e1] at ct;have aE:=I ai;clear ai;have EV:=I eV;clear eV;have E2:=I e2;clear e2;have aC:=I x0;clear x0;have aT:=I x1;clear x1;have aW:=I x2;clear x2;have aS:=I x3;clear x3;have Y:=I (Blk.lt HB.o);clear e1 ec ao ak an aB X aw aL ag ek HJ af
   go_upto_region 7 with fail
   go_cut [] from 39 to 50 (fun wx=>Below B w wx/\Blk wx g 226 (Dt ⟨a,b,cc,d⟩))
   case first=>
    have ad:u=c\/u<c:=by omega
    rcases ad with ad | ad
    ·have aI:=cB ad;clear cB
     clear Z;subst ad
     go_wp2_with (first
      |(go_at_call 131;refine Ag aI ?_;rintro w' hw;have hw:=hw.symm;subst hw;clear aI)
      |(go_at_call 132;refine Ag ct ?_;rintro v1 ⟨D,M⟩;clear ct;have E:=I D;have O:=I (Al HW.o M (by have:=Y.o;have:=F.o;omega) F.o);clear D M))
     go_meet
     exact⟨O.o,E.o⟩
    ·clear cB
     have aZ:(u:Int)<(c:Int):=by omega
     go_wp2_with (first
      |(go_at_call 131;refine Ag Z ?_;rintro w' hw;have hw:=hw.symm;subst hw;clear Z)
      |(go_at_call 132;refine Ag ct ?_;rintro v1 ⟨D,M⟩;clear ct;have E:=I D;have O:=I (Al HW.o M (by have:=Y.o;have:=F.o;omega) F.o);clear D M))
     go_meet
     exact⟨O.o,E.o⟩
   case rest=>
    obtain⟨aF,D⟩:=hcut;have E:=I D;clear D;have O:=I aF;clear aF;have k2:wc.cell? ⟨g,2,none⟩=some (.int .u64 (cc.toNat:Int)):=by rw[E.o.cell];rfl
    have fz:=E.o.frozen;have x0:=aC.o;clear aC hand aQ ax aV Z cB ct
    go_upto_region 8 with fail
    refine wp_region_still_tail 8 (by kernel_rfl) (by kernel_rfl) ?_;simp only[List.take_succ_cons,List.take_zero,List.drop_succ_cons,List.drop_zero];change wpStill _ _ wc.drew _ _ _
    repeat still_step
    refine wpStill_nil ?_;change wpList _ _ _ _ _ wc.drew
    go_upto_region 9 with fail
    have ar:Blk (wc.setCell ⟨g,2,none⟩ (.int .u64 (c1.toNat:Int))).drew g 226 (Dt V0):=by rw[EV.o];exact Blk.set E.o 2 (wv c1)
    have al:Below B w (wc.setCell ⟨g,2,none⟩ (.int .u64 (c1.toNat:Int))).drew:=below_drewN (AS O.o F.o _) 1;generalize (wc.setCell ⟨g,2,none⟩ (.int .u64 (c1.toNat:Int))).drew=v2 at ar al⊢;have aH:=I ar;clear ar;have aM:=I al;clear al;clear k2 fz x0 E O Y HB HW
    go_wp2_with fail
    go_loopw [9] (fun iv wr=>∃i:Nat,i<=4/\iv=.int .i64 (i:Int)/\Below B w wr/\Blk wr g 226 (Dt (rnds i V0))) (fun iv _=>4 - (intOf iv).toNat)
    case atStart=>exact⟨0,by decide,rfl,aM.o,aH.o⟩
    case round=>
     obtain⟨i,hi,rfl,aG,aJ⟩:=hrel;clear aH aM;have aj:=I aJ;clear aJ;have az:=I aG;clear aG
     by_cases hi4:i=4
     ·subst hi4
      have aa:=aj.o;rw[<-E2.o] at aa;have k0:wr.cell? ⟨g,0,none⟩=some (.int .u64 (a2.toNat:Int)):=by rw[aa.cell];rfl
      have k1:wr.cell? ⟨g,1,none⟩=some (.int .u64 (b2.toNat:Int)):=by rw[aa.cell];rfl
      have k2:wr.cell? ⟨g,2,none⟩=some (.int .u64 (c2.toNat:Int)):=by rw[aa.cell];rfl
      have k3:wr.cell? ⟨g,3,none⟩=some (.int .u64 (d2.toNat:Int)):=by rw[aa.cell];rfl
      have x1:=aT.o;have x2:=aW.o;have x3:=aS.o;clear aa
      go_upto_region 13 with fail
      refine wp_region_still_lit (by kernel_rfl) (by kernel_rfl) ?_;change wpStill _ _ wr.drew _ _ _
      repeat still_step
      refine wpStill_nil ?_
      try change _ wr.drew
      go_wp2_with fail
      go_ret;exact⟨by rw[aE.o];rfl,by rw[<-EB.o];exact below_drewN az.o 1⟩
     ·have j1:(i:Int)<4:=by omega
      have j2:(0:Int)<=(i:Int):=by omega
      have cr:=Mt g (rnds i V0) wr aj.o;have Y:=I (Blk.lt aj.o);have aY:=I hi4;clear hi4
      go_wp2_with (go_at_call 133;refine Ag cr ?_;rintro v4 ⟨aK,aA⟩;clear cr;have aR:=I aK;have aX:=I aA;clear aK aA)
      go_roundw
      case rel=>exact⟨i+1,by have:=aY.o;omega,by go_num,Al az.o aX.o (by have:=Y.o;have:=F.o;omega) F.o,aR.o⟩
      case measure=>simp [intOf];omega
  ·have t1:(8:Int)<=(n:Int) - (u:Int):=by omega
   have t2:(u:Int)+8<=(n:Int):=by omega
   have t3:u+8<=n:=by omega
   have HX:=I hx;clear hx;have hj:(u+8) / 8=u / 8+1:=by omega
   have ag:u=8*(u / 8):=by have:=af.o;omega
   have aD:((l.drop u).take 8).length=8:=by rw[List.length_take,List.length_drop,<-HN.o];omega
   have Z:=Lh (some (x.add u)) 8 (c - u) ((l.drop u).take 8) wr B aD.symm (by decide) (Rd.take (Rd.drop (HR.o.below HW.o) u) 8);obtain⟨mw,X⟩:∃m,m=wd (BH ((l.drop u).take 8)):=⟨_,rfl⟩;rw[<-X] at Z;have ae:addM (full ks l (u / 8)) mw=full ks l ((u+8) / 8):=by rw[hj,full,<-ag,<-X]
   have ct:=Vd g (full ks l (u / 8)) mw wr HB.o;rw[ae] at ct;have Y:=I (Blk.lt HB.o);clear hj ag aD X ae
   go_wp2_with (first
    |(go_at_call 131;refine Ag Z ?_;rintro w' hw;have hw:=hw.symm;subst hw;clear Z)
    |(go_at_call 132;refine Ag ct ?_;rintro v1 ⟨D,M⟩;clear ct;have E:=I D;have O:=I (Al HW.o M (by have:=Y.o;have:=F.o;omega) F.o);clear D M))
   go_roundw
   case rel=>exact⟨u+8,by omega,by have:=af.o;omega,by go_num,O.o,E.o⟩
   case measure=>simp [intOf];omega
theorem Pv (ks:Nat->UInt8) (n c:Nat) (l:List UInt8) (w:World) (hn:n=l.length) (hl:n<=100000) (hc:n<=c) (hm:c<=maxLen) (h0:n=0) :
  Calls Y.prog 87 #[.agg (AF ks),.slice none n c] w fun e w'=>e=.returned (wv (GC ks l))/\Below w.heap.size w w':=by
 obtain⟨B,eB⟩:=Ah (w.heap.size);have EB:=I eB;have H0:=I h0;clear h0;have HN:=I hn;clear hn;have aR:AF ks=#[.int .u8 ((ks 0).toNat:Int),.int .u8 ((ks 1).toNat:Int),.int .u8 ((ks 2).toNat:Int),.int .u8 ((ks 3).toNat:Int),.int .u8 ((ks 4).toNat:Int),.int .u8 ((ks 5).toNat:Int),.int .u8 ((ks 6).toNat:Int),.int .u8 ((ks 7).toNat:Int),.int .u8 ((ks 8).toNat:Int),.int .u8 ((ks 9).toNat:Int),.int .u8 ((ks 10).toNat:Int),.int .u8 ((ks 11).toNat:Int),.int .u8 ((ks 12).toNat:Int),.int .u8 ((ks 13).toNat:Int),.int .u8 ((ks 14).toNat:Int),.int .u8 ((ks 15).toNat:Int)]:=rfl;have aL:stcV ks=#[wv (start ks).a,wv (start ks).b,wv (start ks).c,wv (start ks).d]:=rfl;obtain⟨p,ep⟩:∃x,x=kA ks:=⟨_,rfl⟩;obtain⟨q,eq⟩:∃x,x=kB ks:=⟨_,rfl⟩;obtain⟨v0,e0⟩:∃x,x=0x736f6d6570736575#64 ^^^ p:=⟨_,rfl⟩;obtain⟨v1,e1⟩:∃x,x=0x646f72616e646f6d#64 ^^^ q:=⟨_,rfl⟩;obtain⟨v2,e2⟩:∃x,x=0x6c7967656e657261#64 ^^^ p:=⟨_,rfl⟩;obtain⟨v3,e3⟩:∃x,x=0x7465646279746573#64 ^^^ q:=⟨_,rfl⟩;have x0:bits .xor .u64 8317987319222330741 (p.toNat:Int)=(v0.toNat:Int):=by rw[e0];exact Bu 0x736f6d6570736575#64 p
 have x1:bits .xor .u64 7237128888997146477 (q.toNat:Int)=(v1.toNat:Int):=by rw[e1];exact Bu 0x646f72616e646f6d#64 q
 have x2:bits .xor .u64 7816392313619706465 (p.toNat:Int)=(v2.toNat:Int):=by rw[e2];exact Bu 0x6c7967656e657261#64 p
 have x3:bits .xor .u64 8387220255154660723 (q.toNat:Int)=(v3.toNat:Int):=by rw[e3];exact Bu 0x7465646279746573#64 q
 have hs:stcV ks=#[.int .u64 (v0.toNat:Int),.int .u64 (v1.toNat:Int),.int .u64 (v2.toNat:Int),.int .u64 (v3.toNat:Int)]:=by
  rw[aL,e0,e1,e2,e3,ep,eq];rfl
 have HS:=I hs;clear hs;obtain⟨kz,ab⟩:=Ah (AF ks);rw[<-ab];have aY:=I ab;have hK:Blk (w.alloc (.cells kz 166)) B 166 (AF ks):=Blk.new_of w B _ _ _ ab eB.symm;have hW:Below B w (w.alloc (.cells kz 166)):=by rw[eB];exact(Below.refl _ w).alloc Ae _
 clear aL e0 e1 e2 e3;have cA:=TU (hK.drewN 1);have cB:=TV (hK.drewN 1);rw[<-ep] at cA;rw[<-eq] at cB;have HW:=I hW;clear hW;clear aR ab ep eq hK;go_enter Y.func87,Y.ntmps87
 go_upto_region 1 with fail
 rw[<-eB];clear eB;have HM:=I hm;clear hm;generalize w.alloc (.cells kz 166)=w1 at cA cB HW⊢;refine wp_region_still_lit (by kernel_rfl) (by kernel_rfl) ?_;change wpStill _ _ w1.drew _ _ _
 repeat still_step
 still_call cA
 repeat still_step
 still_call cB
 repeat still_step
 refine wpStill_nil ?_
 try change _ w1.drew
 clear cA cB
 go_upto_region 3 with fail
 obtain⟨g,eg⟩:=Ah (w1.heap.size);have ao:Blk (w1.alloc (.cells #[.int .u64 (v0.toNat:Int),.int .u64 (v1.toNat:Int),.int .u64 (v2.toNat:Int),.int .u64 (v3.toNat:Int)] 226)).drew g 226 (Dt (full ks l (0 / 8))):=Blk.drewN (Blk.new_of w1 g _ _ _ HS.o.symm eg.symm) 1;have an:Below B w (w1.alloc (.cells #[.int .u64 (v0.toNat:Int),.int .u64 (v1.toNat:Int),.int .u64 (v2.toNat:Int),.int .u64 (v3.toNat:Int)] 226)).drew:=below_drewN (HW.o.alloc (by rw[EB.o];exact HW.o.size) _) 1;have hg:B<=g:=by rw[eg,EB.o];exact HW.o.size
 rw[<-eg];generalize (w1.alloc (.cells #[.int .u64 (v0.toNat:Int),.int .u64 (v1.toNat:Int),.int .u64 (v2.toNat:Int),.int .u64 (v3.toNat:Int)] 226)).drew=w2 at ao an⊢;have aM:=I ao;clear ao;have av:=I an;clear an;have F:=I hg;clear hg;clear HS HW eg x0 x1 x2 x3;have l5:(n:Int)<=100000:=by omega
 have c0:(n:Int)<=(c:Int):=by omega
 have aZ:c<=9223372036854775807:=by have:=HM.o;unfold maxLen at this;omega
 have aX:(c:Int)<=9223372036854775807:=by omega
 go_wp2_with fail
 go_loopw [8] (fun iv wr=>∃u:Nat,u<=n/\u % 8=0/\iv=.int .i64 (u:Int)/\Below B w wr/\Blk wr g 226 (Dt (full ks l (u / 8)))) (fun iv _=>n - (intOf iv).toNat)
 case atStart=>exact⟨0,Nat.zero_le _,rfl,rfl,av.o,aM.o⟩
 case round=>
  clear aM av;obtain⟨u,hu,aJ,rfl,hW,hB⟩:=hrel;have HW:=I hW;clear hW;have HB:=I hB;clear hB;have ak:=I aJ;clear aJ;have d0:(0:Int)<=(u:Int):=by omega
  have d1:(u:Int)<=(n:Int):=by omega
  by_cases hx:n - u<8
  ·have hj:u / 8=n / 8:=by have:=ak.o;omega
   have t1:(n:Int) - (u:Int)<8:=by omega
   have HX:=I hx;clear hx;have HJ:=I hj;clear hj;obtain⟨k,ek⟩:=Ah (n % 256);have hand:bits .and .i64 (n:Int) 255=(k:Int):=by rw[Pp,ek];omega
   have k1:(k:Int)<256:=by omega
   have k2:(0:Int)<=(k:Int):=by omega
   have aN:IntKind.u64.wrap (k:Int)=(k:Int):=by rw[IntKind.wrap_u64];omega
   have aK:u=8*(l.length / 8):=by have:=ak.o;have:=HN.o;have:=HX.o;omega
   have aH:(l.drop u).length=n - u:=by rw[List.length_drop,HN.o]
   obtain⟨mw,ad⟩:∃m,m=wd (BH (l.drop u)):=⟨_,rfl⟩;obtain⟨lw,ar⟩:∃m,m=Nt (stOf ks l):=⟨_,rfl⟩;have ay:mw.toNat=BH (l.drop u):=by rw[ad];exact IU _ (Jr (by have:=HX.o;omega))
   have au:bits .or .u64 (mw.toNat:Int) (IntKind.u64.wrap ((k:Int)*72057594037927936))=(lw.toNat:Int):=by
    have h:=Ps ks l;rw[<-aK,<-ay,<-HN.o,<-ek,<-ar] at h;exact h
   have aS:bits .or .u64 (mw.toNat:Int) ((k:Int)*72057594037927936)=(lw.toNat:Int):=by
    rw[<-au,IntKind.wrap_u64];congr 1;omega
   have cA:=Lh none (n - u) (c - u) (l.drop u) wr B aH.symm (by have:=HX.o;omega) (.inl (by rw[List.eq_nil_of_length_eq_zero (l:=l.drop u) (by have:=H0.o;omega)];rfl));have cB:u=c->Calls Y.prog 131 #[.slice none 0 0] wr fun e w'=>e=.returned (wv (wd (BH (l.drop u))))/\w'=wr:=fun h=>Lh none 0 0 (l.drop u) wr B (by omega) (by decide) (.inl (by rw[List.eq_nil_of_length_eq_zero (l:=l.drop u) (by omega)];rfl))
   rw[<-ad] at cA;rw[<-ad] at cB;obtain⟨⟨a,b,cc,d⟩,e1⟩:∃t,t=addM (full ks l (u / 8)) lw:=⟨_,rfl⟩;obtain⟨c1,ec⟩:∃x,x=cc ^^^ 255#64:=⟨_,rfl⟩;obtain⟨V0,eV⟩:∃x:V,x=⟨a,b,c1,d⟩:=⟨_,rfl⟩;obtain⟨⟨a2,b2,c2,d2⟩,e2⟩:∃t,t=rnds 4 V0:=⟨_,rfl⟩;obtain⟨q1,aj⟩:∃x,x=a2 ^^^ b2:=⟨_,rfl⟩;obtain⟨q2,ag⟩:∃x,x=q1 ^^^ c2:=⟨_,rfl⟩;obtain⟨q3,ai⟩:∃x,x=q2 ^^^ d2:=⟨_,rfl⟩;have ae:GC ks l=q3:=by
    have hv:(stOf ks l).v=full ks l (u / 8):=by rw[Fo,HJ.o,HN.o]
    rw[GC,finS,<-ar,hv,<-e1,fin,<-ec,<-eV,<-e2,allX,<-aj,<-ag,<-ai]
   have x0:bits .xor .u64 (cc.toNat:Int) 255=(c1.toNat:Int):=by rw[ec];exact Bu cc 255#64
   have x1:bits .xor .u64 (a2.toNat:Int) (b2.toNat:Int)=(q1.toNat:Int):=by rw[aj];exact Bu _ _
   have x2:bits .xor .u64 (q1.toNat:Int) (c2.toNat:Int)=(q2.toNat:Int):=by rw[ag];exact Bu _ _
   have x3:bits .xor .u64 (q2.toNat:Int) (d2.toNat:Int)=(q3.toNat:Int):=by rw[ai];exact Bu _ _
   have ct:=Vd g (full ks l (u / 8)) lw wr HB.o;rw[<-e1] at ct;have aA:=I ae;clear ae;have EV:=I eV;clear eV;have E2:=I e2;clear e2;have az:=I x0;clear x0;have aQ:=I x1;clear x1;have aT:=I x2;clear x2;have aP:=I x3;clear x3;have aa:=I (Blk.lt HB.o);clear e1 ec aj ag ai ay ad ar aH aK ek HJ ak
   go_upto_region 7 with fail
   go_cut [] from 39 to 50 (fun wx=>Below B w wx/\Blk wx g 226 (Dt ⟨a,b,cc,d⟩))
   case first=>
    have Z:u=c\/u<c:=by omega
    rcases Z with Z | Z
    ·have aE:=cB Z;clear cB
     clear cA;subst Z
     go_wp2_with (first
      |(go_at_call 131;refine Ag aE ?_;rintro w' hw;have hw:=hw.symm;subst hw;clear aE)
      |(go_at_call 132;refine Ag ct ?_;rintro v1 ⟨D,X⟩;clear ct;have E:=I D;have O:=I (Al HW.o X (by have:=aa.o;have:=F.o;omega) F.o);clear D X))
     go_meet
     exact⟨O.o,E.o⟩
    ·clear cB
     have aW:(u:Int)<(c:Int):=by omega
     go_wp2_with (first
      |(go_at_call 131;refine Ag cA ?_;rintro w' hw;have hw:=hw.symm;subst hw;clear cA)
      |(go_at_call 132;refine Ag ct ?_;rintro v1 ⟨D,X⟩;clear ct;have E:=I D;have O:=I (Al HW.o X (by have:=aa.o;have:=F.o;omega) F.o);clear D X))
     go_meet
     exact⟨O.o,E.o⟩
   case rest=>
    obtain⟨aB,D⟩:=hcut;have E:=I D;clear D;have O:=I aB;clear aB;have k2:wc.cell? ⟨g,2,none⟩=some (.int .u64 (cc.toNat:Int)):=by rw[E.o.cell];rfl
    have fz:=E.o.frozen;have x0:=az.o;clear az hand aN au aS cA cB ct
    go_upto_region 8 with fail
    refine wp_region_still_tail 8 (by kernel_rfl) (by kernel_rfl) ?_;simp only[List.take_succ_cons,List.take_zero,List.drop_succ_cons,List.drop_zero];change wpStill _ _ wc.drew _ _ _
    repeat still_step
    refine wpStill_nil ?_;change wpList _ _ _ _ _ wc.drew
    go_upto_region 9 with fail
    have al:Blk (wc.setCell ⟨g,2,none⟩ (.int .u64 (c1.toNat:Int))).drew g 226 (Dt V0):=by rw[EV.o];exact Blk.set E.o 2 (wv c1)
    have ah:Below B w (wc.setCell ⟨g,2,none⟩ (.int .u64 (c1.toNat:Int))).drew:=below_drewN (AS O.o F.o _) 1;generalize (wc.setCell ⟨g,2,none⟩ (.int .u64 (c1.toNat:Int))).drew=v2 at al ah⊢;have aD:=I al;clear al;have aI:=I ah;clear ah;clear k2 fz x0 E O aa HB HW
    go_wp2_with fail
    go_loopw [9] (fun iv wr=>∃i:Nat,i<=4/\iv=.int .i64 (i:Int)/\Below B w wr/\Blk wr g 226 (Dt (rnds i V0))) (fun iv _=>4 - (intOf iv).toNat)
    case atStart=>exact⟨0,by decide,rfl,aI.o,aD.o⟩
    case round=>
     obtain⟨i,hi,rfl,aC,aF⟩:=hrel;clear aD aI;have af:=I aF;clear aF;have aw:=I aC;clear aC
     by_cases hi4:i=4
     ·subst hi4
      have M:=af.o;rw[<-E2.o] at M;have k0:wr.cell? ⟨g,0,none⟩=some (.int .u64 (a2.toNat:Int)):=by rw[M.cell];rfl
      have k1:wr.cell? ⟨g,1,none⟩=some (.int .u64 (b2.toNat:Int)):=by rw[M.cell];rfl
      have k2:wr.cell? ⟨g,2,none⟩=some (.int .u64 (c2.toNat:Int)):=by rw[M.cell];rfl
      have k3:wr.cell? ⟨g,3,none⟩=some (.int .u64 (d2.toNat:Int)):=by rw[M.cell];rfl
      have x1:=aQ.o;have x2:=aT.o;have x3:=aP.o;clear M
      go_upto_region 13 with fail
      refine wp_region_still_lit (by kernel_rfl) (by kernel_rfl) ?_;change wpStill _ _ wr.drew _ _ _
      repeat still_step
      refine wpStill_nil ?_
      try change _ wr.drew
      go_wp2_with fail
      go_ret;exact⟨by rw[aA.o];rfl,by rw[<-EB.o];exact below_drewN aw.o 1⟩
     ·have j1:(i:Int)<4:=by omega
      have j2:(0:Int)<=(i:Int):=by omega
      have cr:=Mt g (rnds i V0) wr af.o;have aa:=I (Blk.lt af.o);have aV:=I hi4;clear hi4
      go_wp2_with (go_at_call 133;refine Ag cr ?_;rintro v4 ⟨aG,ax⟩;clear cr;have aO:=I aG;have aU:=I ax;clear aG ax)
      go_roundw
      case rel=>exact⟨i+1,by have:=aV.o;omega,by go_num,Al aw.o aU.o (by have:=aa.o;have:=F.o;omega) F.o,aO.o⟩
      case measure=>simp [intOf];omega
  ·have t1:(8:Int)<=(n:Int) - (u:Int):=by omega
   exact absurd H0.o (by omega)
theorem RW (ks:Nat->UInt8) (A:Option Addr) (n c:Nat) (l:List UInt8) (w:World) (D:n=l.length) (M:n<=100000) (E:n<=c) (hm:c<=maxLen) (F:Rd w w.heap.size A (bvs l)) :
  Calls Tryz.prog 87 #[.agg (AF ks),.slice A n c] w fun e w'=>e=.returned (wv (GC ks l))/\Below w.heap.size w w':=by
 cases A with
 |some x=>exact Pu ks x n c l w D M E hm F
 |none=>
  refine Pv ks n c l w D M E hm ?_;rcases F with h | ⟨b,o,O,_,_⟩
  ·rw[D,List.map_eq_nil_iff.1 h];rfl
  ·cases O
theorem BP:(Tryz.prog.info? 5).map (fun i=>(i.zero,i.size,i.bytes))=some (some (.int .u8 0),1,1):=by kernel_rfl
theorem Fm (w:World) (t:TypeId) (cs:Array Value) (l:List Value) (h:cs.toList=l) (N:Nat) (D:w.heap.size=N):Rd (w.alloc (.cells cs t)) (N+1) (some ⟨N,0,none⟩) l:=by
 subst D;refine .inr ⟨w.heap.size,0,rfl,by omega,fun i u hu=>?_⟩;rw[Nat.zero_add,(Blk.new w t cs).cell i];rw[<-h] at hu
 simpa using hu
theorem DC {w w':World} {base:Nat} {t:TypeId} {v:Value} {n:Nat} {xs:List Value} {o:Obj} (h:w.ownsRow base t 1 v n xs) (e:w'.heap=w.heap.push o):w'.ownsRow base t 1 v n xs:=by
 obtain⟨F,h | ⟨g,cap,cur,M,X,D,O⟩⟩:=h
 ·exact⟨F,.inl h⟩
 ·refine⟨F,.inr ⟨g,cap,cur,M,X,?_,O⟩⟩
  have E:=Blk.lt (t:=t) (cs:=cur) D;rw[e,Array.getElem?_push_lt E,<-Array.getElem?_eq_getElem E];exact D
theorem Nx {w:World} (t:TypeId) (vs:List Value) (rows:List (List UInt8)) (cs:Array Value) (F:cs.toList=vs) (O:vs.length=rows.length)
  (h:∀i (h:i<rows.length),∃(D:Option Addr) (ci:Nat),vs[i]? = some (.slice D (rows[i]).length ci)/\Rd w w.heap.size D (bvs rows[i])):Rows (w.alloc (.cells cs t)) (w.alloc (.cells cs t)).heap.size (some ⟨w.heap.size,0,none⟩) rows:=by
 refine⟨vs,O,(Fm w t cs vs F w.heap.size rfl).more (by simp),fun i X=>?_⟩;obtain⟨D,ci,E,M⟩:=h i X;exact⟨D,ci,E,(M.alloc Ae _).more (by simp)⟩
end Si
end Go.Proofs.YtcpccikongbopaaGreat
