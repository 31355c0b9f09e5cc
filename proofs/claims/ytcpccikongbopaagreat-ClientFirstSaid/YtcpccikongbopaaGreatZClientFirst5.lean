import Derived.Test.YtcpccikongbopaaGreatZClientFirst4
set_option maxHeartbeats 25600000
set_option maxRecDepth 100000
set_option linter.unusedVariables false
set_option linter.unusedSimpArgs false
namespace Go.Proofs.YtcpccikongbopaaGreat
namespace Si
open Go.RowKit Ad
def Rows (w:World) (B:Nat) (A:Option Addr) (rows:List (List UInt8)):Prop:=
 ∃vs:List Value,vs.length=rows.length/\Rd w B A vs/\∀i (h:i<rows.length),∃(Ai:Option Addr) (ci:Nat),vs[i]? = some (.slice Ai (rows[i]).length ci)/\Rd w B Ai (bvs rows[i])
theorem Rows.below {w w':World} {B:Nat} {A:Option Addr} {rows:List (List UInt8)} (h:Rows w B A rows) (D:Below B w w'):Rows w' B A rows:=by
 obtain⟨vs,F,E,X⟩:=h;refine⟨vs,F,E.below D,fun i Y=>?_⟩;obtain⟨M,ci,Z,O⟩:=X i Y;exact⟨M,ci,Z,O.below D⟩
def flat (rows:List (List UInt8)):List UInt8:=rows.flatten
theorem Pn (rows:List (List UInt8)) (i:Nat) (h:i<rows.length):flat (rows.take (i+1))=flat (rows.take i)++rows[i]:=by
 unfold flat;rw[List.take_succ_eq_append_getElem h,List.flatten_append];simp
theorem Ij (rows:List (List UInt8)) (i:Nat):(flat (rows.take i)).length<=(flat rows).length:=by
 have h:rows=rows.take i++rows.drop i:=(List.take_append_drop i rows).symm;have D:flat rows=flat (rows.take i)++flat (rows.drop i):=by
  unfold flat;rw[<-List.flatten_append,List.take_append_drop]
 rw[D,List.length_append];omega
def Lj (ks:Nat->UInt8) (l:List UInt8):Array Value:=stc (stOf ks l)
theorem Nv (g:Nat) (ks:Nat->UInt8) (l:List UInt8) (y:UInt8) (w:World) (D:l.length<100000) (hB:Blk w g 274 (Lj ks l)) :
  Calls Tryz.prog 202 #[.pointer (some ⟨g,0,none⟩),.int .u8 (y.toNat:Int)] w fun e w'=>e=.returned (.tuple #[])/\Blk w' g 274 (Lj ks (l++[y]))/\w.grownBy w' (some g):=by
 have h:=Li g (stOf ks l) y w (by rw[WN];exact D) (TS ks l) hB;rw[<-Kh] at h;exact h
theorem WU (g:Nat) (ks:Nat->UInt8) (l:List UInt8) (w:World) (hB:Blk w g 274 (Lj ks l)) :
  Calls Tryz.prog 203 #[.pointer (some ⟨g,0,none⟩)] w fun e w'=>e=.returned (wv (GC ks l))/\w.grownBy w' (some g):=
 Ve g (stOf ks l) w (Nat.lt_of_lt_of_le (TS ks l) (RU _ (by omega))) hB
theorem Po (l:List UInt8) (j:Nat) (h:j<l.length):l.take (j+1)=l.take j++[l[j]]:=List.take_succ_eq_append_getElem h
theorem Vf (ks:Nat->UInt8) (A:Option Addr) (n c:Nat) (rows:List (List UInt8)) (w:World) (hn:n=rows.length) (aE:n<=100000) (hl:(flat rows).length<100000) (hr:Rows w w.heap.size A rows) :
  Calls Tryz.prog 177 #[.agg (AF ks),.slice A n c] w fun e w'=>e=.returned (wv (GC ks (flat rows)))/\Below w.heap.size w w':=by
 obtain⟨vs,hv,an,M⟩:=hr;obtain⟨B,eB⟩:=Ah (w.heap.size);rw[<-eB] at an M;have EB:=I eB;have aN:=I an;clear an;have ad:=I M;clear M;have HN:=I hn;clear hn;have e5:(n:Int)<=100000:=by omega
 clear aE;have HL:=I hl;clear hl;have HV:=I hv;clear hv;have hk:AF ks=#[.int .u8 ((ks 0).toNat:Int),.int .u8 ((ks 1).toNat:Int),.int .u8 ((ks 2).toNat:Int),.int .u8 ((ks 3).toNat:Int),.int .u8 ((ks 4).toNat:Int),.int .u8 ((ks 5).toNat:Int),.int .u8 ((ks 6).toNat:Int),.int .u8 ((ks 7).toNat:Int),.int .u8 ((ks 8).toNat:Int),.int .u8 ((ks 9).toNat:Int),.int .u8 ((ks 10).toNat:Int),.int .u8 ((ks 11).toNat:Int),.int .u8 ((ks 12).toNat:Int),.int .u8 ((ks 13).toNat:Int),.int .u8 ((ks 14).toNat:Int),.int .u8 ((ks 15).toNat:Int)]:=rfl;have cb:=Pm ks;rw[hk] at cb⊢;have hs:stc ⟨start ks,0,0⟩=#[wv (start ks).a,wv (start ks).b,wv (start ks).c,wv (start ks).d,.int .u64 0,.int .u64 0]:=rfl;rw[hs] at cb;have ak:Lj ks []=#[wv (start ks).a,wv (start ks).b,wv (start ks).c,wv (start ks).d,.int .u64 0,.int .u64 0]:=rfl;obtain⟨p0,e0⟩:∃x,x=(start ks).a:=⟨_,rfl⟩;obtain⟨p1,e1⟩:∃x,x=(start ks).b:=⟨_,rfl⟩;obtain⟨p2,e2⟩:∃x,x=(start ks).c:=⟨_,rfl⟩;obtain⟨p3,e3⟩:∃x,x=(start ks).d:=⟨_,rfl⟩;rw[<-e0,<-e1,<-e2,<-e3] at ak cb;have aw:=I ak;clear ak;clear hk hs e0 e1 e2 e3;go_enter Tryz.func177,Tryz.ntmps177
 go_upto_region 2 with(go_at_call 201;refine Ag (cb _) ?_;rintro w1 ax;have ar:Below w.heap.size w w1:=((Below.refl w.heap.size w).alloc Ae _).trans (ax.mono (by simp));have Y:=I ar;clear ar ax cb)
 clear eB;obtain⟨g,eg⟩:=Ah (w1.heap.size);have ai:Blk (w1.alloc (.cells #[.int .u64 (p0.toNat:Int),.int .u64 (p1.toNat:Int),.int .u64 (p2.toNat:Int),.int .u64 (p3.toNat:Int),.int .u64 0,.int .u64 0] 274)) g 274 (Lj ks []):=Blk.new_of w1 g _ _ _ aw.o.symm eg.symm;have af:Below B w (w1.alloc (.cells #[.int .u64 (p0.toNat:Int),.int .u64 (p1.toNat:Int),.int .u64 (p2.toNat:Int),.int .u64 (p3.toNat:Int),.int .u64 0,.int .u64 0] 274)):=by rw[EB.o];exact Y.o.alloc Y.o.size _
 have hg:B<=g:=by rw[eg,EB.o];exact Y.o.size
 rw[<-eg];generalize w1.alloc (.cells #[.int .u64 (p0.toNat:Int),.int .u64 (p1.toNat:Int),.int .u64 (p2.toNat:Int),.int .u64 (p3.toNat:Int),.int .u64 0,.int .u64 0] 274)=w2 at ai af⊢;have ay:=I ai;clear ai;have aB:=I af;clear af;have Z:=I hg;clear hg;clear aw Y eg
 go_wp2_with fail
 go_loopw [14] (fun iv wr=>∃i:Nat,i<=n/\iv=.int .i64 (i:Int)/\Below B w wr/\Blk wr g 274 (Lj ks (flat (rows.take i)))) (fun iv _=>n - (intOf iv).toNat)
 case atStart=>exact⟨0,Nat.zero_le _,rfl,aB.o,by rw[List.take_zero];exact ay.o⟩
 case round=>
  clear ay aB;obtain⟨i,hi,rfl,hW,hB⟩:=hrel;have HW:=I hW;clear hW;have HB:=I hB;clear hB
  by_cases hx:i=n
  ·have he:rows.take i=rows:=List.take_of_length_le (by have:=HN.o;omega)
   have ce:=WU g ks (flat (rows.take i)) wr HB.o;rw[he] at ce;subst hx;clear he
   go_wp2_with (go_at_call 203;refine Ag ce ?_;rintro w3 aD;clear ce;have aM:=I aD;clear aD)
   go_ret;exact⟨rfl,by rw[<-EB.o];exact Al HW.o aM.o (by have:=HW.o.size;have:=Blk.lt HB.o;have:=Z.o;omega) Z.o⟩
  ·have aP:i<n:=by omega
   have aa:i<rows.length:=by have:=HN.o;omega
   have e1:(i:Int)<(n:Int):=by omega
   have e2:(0:Int)<=(i:Int):=by omega
   obtain⟨row,X⟩:∃r,r=rows[i]:=⟨_,rfl⟩;obtain⟨pre,O⟩:∃r,r=flat (rows.take i):=⟨_,rfl⟩;have E:flat (rows.take (i+1))=pre++row:=by rw[O,X];exact Pn rows i aa
   have hlen:(pre++row).length<100000:=by rw[<-E];exact Nat.lt_of_le_of_lt (Ij rows (i+1)) HL.o
   obtain⟨Ai,ci,aj,al⟩:=ad.o i aa;rw[<-X] at aj al;have ab:=HB.o;rw[<-O] at ab;have au:=I ab;clear ab HB;obtain⟨b,o,rfl,aL,F⟩:=aN.o.at_ aj;obtain⟨m,em⟩:=Ah (row.length);rw[<-em] at F;have hc:wr.cell? ⟨b,o+i,none⟩=some (.slice Ai m ci):=(HW.o.cell (p:=⟨b,o+i,none⟩) aL).trans F;have aG:=I E;clear E;have aK:=I al;clear al;have HX:=I hx;clear hx;have HI:=I hi;clear hi;have e6:(m:Int)<100000:=by have:=hlen;rw[List.length_append] at this;omega
   have HM:=I em;clear em;have aH:=I hlen;clear hlen;have aR:=I aa;clear aj F X O aa
   go_wp2_with fail
   go_loopw [20] (fun jv wx=>∃j:Nat,j<=m/\jv=.int .i64 (j:Int)/\Below B w wx/\Blk wx g 274 (Lj ks (pre++row.take j))) (fun jv _=>m - (intOf jv).toNat)
   case atStart=>exact⟨0,Nat.zero_le _,rfl,HW.o,by rw[List.take_zero,List.append_nil];exact au.o⟩
   case round=>
    clear hc HW au;obtain⟨j,hj,rfl,ao,av⟩:=hrel;have ag:=I ao;clear ao;have ah:=I av;clear av
    by_cases hy:j=m
    ·have he:row.take j=row:=List.take_of_length_le (by have:=HM.o;omega)
     have HE:=I he;clear he;subst hy
     go_wp2_with fail
     go_roundw
     case rel=>exact⟨i+1,by omega,by go_num,ag.o,by rw[aG.o];have:=ah.o;rw[HE.o] at this;exact this⟩
     case measure=>simp [intOf];omega
    ·have aQ:j<m:=by omega
     have ae:j<row.length:=by have:=HM.o;omega
     have f1:(j:Int)<(m:Int):=by omega
     have f2:(0:Int)<=(j:Int):=by omega
     obtain⟨b2,o2,rfl,aO,D⟩:=aK.o.at_ (DH ae);obtain⟨y,ey⟩:=Ah (row[j]);rw[<-ey] at D;have aS:wr.cell? ⟨b2,o2+j,none⟩=some (.int .u8 (y.toNat:Int)):=(ag.o.cell (p:=⟨b2,o2+j,none⟩) aO).trans D;have aA:(pre++row.take j)++[y]=pre++row.take (j+1):=by rw[Po row j ae,<-ey,List.append_assoc]
     have ca:=Nv g ks (pre++row.take j) y wr (by have:=aH.o;rw[List.length_append] at this⊢;have:(row.take j).length<=row.length:=by{rw[List.length_take];omega};omega) ah.o;rw[aA] at ca;have HY:=I hy;clear hy;have HJ:=I hj;clear hj;have aJ:=I (Blk.lt ah.o);clear D ey aA ae
     go_wp2_with (go_at_call 202;refine Ag ca ?_;rintro w4 ⟨az,aC⟩;clear ca;have aI:=I az;have aF:=I aC;clear az aC)
     go_roundw
     case rel=>exact⟨j+1,by omega,by go_num,Al ag.o aF.o (by have:=aJ.o;have:=Z.o;omega) Z.o,aI.o⟩
     case measure=>simp [intOf];omega
theorem Pp (n:Int):bits .and .i64 n 255=n % 256:=by
 have D:(BitVec.ofInt 64 255).toNat=2 ^ 8 - 1:=by decide
 have key:(BitVec.ofInt 64 n &&& BitVec.ofInt 64 255).toNat=(n % ((2 ^ 64:Nat):Int)).toNat % 2 ^ 8:=by
  rw[BitVec.toNat_and,BitVec.toNat_ofInt,D,Nat.and_two_pow_sub_one_eq_mod]
 show IntKind.i64.wrap ((BitVec.ofInt 64 n &&& BitVec.ofInt 64 255).toNat:Nat)=n % 256;rw[key,IntKind.wrap_i64];omega
theorem Rd.drop {w:World} {B:Nat} {x:Addr} {l:List UInt8} (h:Rd w B (some x) (bvs l)) (p:Nat):Rd w B (some (x.add p)) (bvs (l.drop p)):=by
 rcases h with h | ⟨b,o,D,E,F⟩
 ·left
  have:l = []:=List.map_eq_nil_iff.1 h;rw[this];simp [bvs]
 ·injection D with D
  subst D;rw[addr_add];refine .inr ⟨b,o+p,rfl,E,fun i u hu=>?_⟩;have:(bvs l)[p+i]? = some u:=by
   rw[<-hu];simp [bvs,List.getElem?_drop]
  have:=F _ _ this
  rwa [Nat.add_assoc]
theorem Rd.take {w:World} {B:Nat} {A:Option Addr} {l:List UInt8} (h:Rd w B A (bvs l)) (k:Nat):Rd w B A (bvs (l.take k)):=by
 rcases h with h | ⟨b,o,E,D,F⟩
 ·left
  have:l = []:=List.map_eq_nil_iff.1 h;rw[this];simp [bvs]
 ·refine .inr ⟨b,o,E,D,fun i u hu=>F i u ?_⟩
  rw[<-hu];have M:i<k:=by
   rcases Nat.lt_or_ge i k with g | g
   ·exact g
   ·rw[List.getElem?_eq_none (by simp [bvs];omega)] at hu;cases hu
  simp [bvs,M]
theorem rd_key {w:World} {B:Nat} {t:TypeId} {ks:Nat->UInt8} (h:Blk w B t (AF ks)) (o:Nat) (E:o+8<=16):Rd w (B+1) (some ⟨B,o,none⟩) (bvs ((List.range 8).map fun i=>ks (o+i))):=by
 refine .inr ⟨B,o,rfl,by omega,fun i u hu=>?_⟩;have D:i<8:=by
  rcases Nat.lt_or_ge i 8 with g | g
  ·exact g
  ·rw[List.getElem?_eq_none (by simp [bvs];omega)] at hu;cases hu
 rw[h.cell,Fk _ _ (by omega)];rw[<-hu];simp [bvs,D]
theorem TU {w:World} {B:Nat} {t:TypeId} {ks:Nat->UInt8} (h:Blk w B t (AF ks)):Calls Tryz.prog 131 #[.slice (some ⟨B,0,none⟩) 8 16] w fun e w'=>e=.returned (wv (kA ks))/\w'=w:=by
 have D:=rd_key h 0 (by decide);have:=Lh (some ⟨B,0,none⟩) 8 16 _ w (B+1) (by simp) (by decide) D;have e:((List.range 8).map fun i=>ks (0+i))=(List.range 8).map ks:=by simp
 rw[e] at this;exact this
theorem TV {w:World} {B:Nat} {t:TypeId} {ks:Nat->UInt8} (h:Blk w B t (AF ks)):Calls Tryz.prog 131 #[.slice (some ⟨B,8,none⟩) 8 8] w fun e w'=>e=.returned (wv (kB ks))/\w'=w:=
 Lh (some ⟨B,8,none⟩) 8 8 _ w (B+1) (by simp) (by decide) (rd_key h 8 (by decide))
theorem Ps (ks:Nat->UInt8) (l:List UInt8):bits .or .u64 (BH (l.drop (8*(l.length / 8))):Nat) (IntKind.u64.wrap (((l.length % 256:Nat):Int)*72057594037927936))=((Nt (stOf ks l)).toNat:Int):=by
 have D:BH (l.drop (8*(l.length / 8)))<72057594037927936:=Pj (by rw[List.length_drop];omega);have h:=Mr (BH (l.drop (8*(l.length / 8)))) (l.length % 256) D;rw[IntKind.wrap_u64,h,Nat.mod_mod];rw[Kk _ (by rw[Fo];exact D),Fo]
def stcV (ks:Nat->UInt8):Array Value:=Dt (start ks)
theorem Pu (ks:Nat->UInt8) (x:Addr) (n c:Nat) (l:List UInt8) (w:World) (hn:n=l.length) (hl:n<=100000) (hc:n<=c) (hm:c<=maxLen) (hr:Rd w w.heap.size (some x) (bvs l)) :
  Calls Tryz.prog 87 #[.agg (AF ks),.slice (some x) n c] w fun e w'=>e=.returned (wv (GC ks l))/\Below w.heap.size w w':=by
 obtain⟨B,eB⟩:=Ah (w.heap.size);rw[<-eB] at hr;have EB:=I eB;have HR:=I hr;clear hr;have HN:=I hn;clear hn;have aU:AF ks=#[.int .u8 ((ks 0).toNat:Int),.int .u8 ((ks 1).toNat:Int),.int .u8 ((ks 2).toNat:Int),.int .u8 ((ks 3).toNat:Int),.int .u8 ((ks 4).toNat:Int),.int .u8 ((ks 5).toNat:Int),.int .u8 ((ks 6).toNat:Int),.int .u8 ((ks 7).toNat:Int),.int .u8 ((ks 8).toNat:Int),.int .u8 ((ks 9).toNat:Int),.int .u8 ((ks 10).toNat:Int),.int .u8 ((ks 11).toNat:Int),.int .u8 ((ks 12).toNat:Int),.int .u8 ((ks 13).toNat:Int),.int .u8 ((ks 14).toNat:Int),.int .u8 ((ks 15).toNat:Int)]:=rfl;have aE:stcV ks=#[wv (start ks).a,wv (start ks).b,wv (start ks).c,wv (start ks).d]:=rfl;obtain⟨p,ep⟩:∃x,x=kA ks:=⟨_,rfl⟩;obtain⟨q,eq⟩:∃x,x=kB ks:=⟨_,rfl⟩;obtain⟨v0,e0⟩:∃x,x=0x736f6d6570736575#64 ^^^ p:=⟨_,rfl⟩;obtain⟨v1,e1⟩:∃x,x=0x646f72616e646f6d#64 ^^^ q:=⟨_,rfl⟩;obtain⟨v2,e2⟩:∃x,x=0x6c7967656e657261#64 ^^^ p:=⟨_,rfl⟩;obtain⟨v3,e3⟩:∃x,x=0x7465646279746573#64 ^^^ q:=⟨_,rfl⟩;have x0:bits .xor .u64 8317987319222330741 (p.toNat:Int)=(v0.toNat:Int):=by rw[e0];exact Bu 0x736f6d6570736575#64 p
 have x1:bits .xor .u64 7237128888997146477 (q.toNat:Int)=(v1.toNat:Int):=by rw[e1];exact Bu 0x646f72616e646f6d#64 q
 have x2:bits .xor .u64 7816392313619706465 (p.toNat:Int)=(v2.toNat:Int):=by rw[e2];exact Bu 0x6c7967656e657261#64 p
 have x3:bits .xor .u64 8387220255154660723 (q.toNat:Int)=(v3.toNat:Int):=by rw[e3];exact Bu 0x7465646279746573#64 q
 have hs:stcV ks=#[.int .u64 (v0.toNat:Int),.int .u64 (v1.toNat:Int),.int .u64 (v2.toNat:Int),.int .u64 (v3.toNat:Int)]:=by
  rw[aE,e0,e1,e2,e3,ep,eq];rfl
 have HS:=I hs;clear hs;obtain⟨kz,ag⟩:=Ah (AF ks);rw[<-ag];have bb:=I ag;have hK:Blk (w.alloc (.cells kz 166)) B 166 (AF ks):=Blk.new_of w B _ _ _ ag eB.symm;have hW:Below B w (w.alloc (.cells kz 166)):=by rw[eB];exact(Below.refl _ w).alloc Ae _
 clear aE e0 e1 e2 e3;have Z:=TU (hK.drewN 1);have cB:=TV (hK.drewN 1);rw[<-ep] at Z;rw[<-eq] at cB;have HW:=I hW;clear hW;clear aU ag ep eq hK;go_enter Tryz.func87,Tryz.ntmps87
 go_upto_region 1 with fail
 rw[<-eB];clear eB;have HM:=I hm;clear hm;generalize w.alloc (.cells kz 166)=w1 at Z cB HW⊢;refine wp_region_still_lit (by kernel_rfl) (by kernel_rfl) ?_;change wpStill _ _ w1.drew _ _ _
 repeat still_step
 still_call Z
 repeat still_step
 still_call cB
 repeat still_step
 refine wpStill_nil ?_
 try change _ w1.drew
 clear Z cB
 go_upto_region 3 with fail
 obtain⟨g,eg⟩:=Ah (w1.heap.size);have ao:Blk (w1.alloc (.cells #[.int .u64 (v0.toNat:Int),.int .u64 (v1.toNat:Int),.int .u64 (v2.toNat:Int),.int .u64 (v3.toNat:Int)] 226)).drew g 226 (Dt (full ks l (0 / 8))):=Blk.drewN (Blk.new_of w1 g _ _ _ HS.o.symm eg.symm) 1;have aj:Below B w (w1.alloc (.cells #[.int .u64 (v0.toNat:Int),.int .u64 (v1.toNat:Int),.int .u64 (v2.toNat:Int),.int .u64 (v3.toNat:Int)] 226)).drew:=below_drewN (HW.o.alloc (by rw[EB.o];exact HW.o.size) _) 1;have hg:B<=g:=by rw[eg,EB.o];exact HW.o.size
 rw[<-eg];generalize (w1.alloc (.cells #[.int .u64 (v0.toNat:Int),.int .u64 (v1.toNat:Int),.int .u64 (v2.toNat:Int),.int .u64 (v3.toNat:Int)] 226)).drew=w2 at ao aj⊢;have aG:=I ao;clear ao;have aB:=I aj;clear aj;have F:=I hg;clear hg;clear HS HW eg x0 x1 x2 x3;have l5:(n:Int)<=100000:=by omega
 have c0:(n:Int)<=(c:Int):=by omega
 have ba:c<=9223372036854775807:=by have:=HM.o;unfold maxLen at this;omega
 have aZ:(c:Int)<=9223372036854775807:=by omega
 go_wp2_with fail
 go_loopw [8] (fun iv wr=>∃u:Nat,u<=n/\u % 8=0/\iv=.int .i64 (u:Int)/\Below B w wr/\Blk wr g 226 (Dt (full ks l (u / 8)))) (fun iv _=>n - (intOf iv).toNat)
 case atStart=>exact⟨0,Nat.zero_le _,rfl,rfl,aB.o,aG.o⟩
 case round=>
  clear aG aB;obtain⟨u,hu,az,rfl,hW,hB⟩:=hrel;have HW:=I hW;clear hW;have HB:=I hB;clear hB;have af:=I az;clear az;have d0:(0:Int)<=(u:Int):=by omega
  have d1:(u:Int)<=(n:Int):=by omega
  by_cases hx:n - u<8
  ·have hj:u / 8=n / 8:=by have:=af.o;omega
   have t1:(n:Int) - (u:Int)<8:=by omega
   have HX:=I hx;clear hx;have HJ:=I hj;clear hj;obtain⟨k,ek⟩:=Ah (n % 256);have hand:bits .and .i64 (n:Int) 255=(k:Int):=by rw[Pp,ek];omega
   have k1:(k:Int)<256:=by omega
   have k2:(0:Int)<=(k:Int):=by omega
   have aP:IntKind.u64.wrap (k:Int)=(k:Int):=by rw[IntKind.wrap_u64];omega
   have ab:u=8*(l.length / 8):=by have:=af.o;have:=HN.o;have:=HX.o;omega
   have aD:(l.drop u).length=n - u:=by rw[List.length_drop,HN.o]
   obtain⟨mw,O⟩:∃m,m=wd (BH (l.drop u)):=⟨_,rfl⟩;obtain⟨lw,ai⟩:∃m,m=Nt (stOf ks l):=⟨_,rfl⟩;have aF:mw.toNat=BH (l.drop u):=by rw[O];exact IU _ (Jr (by have:=HX.o;omega))
   have aK:bits .or .u64 (mw.toNat:Int) (IntKind.u64.wrap ((k:Int)*72057594037927936))=(lw.toNat:Int):=by
    have h:=Ps ks l;rw[<-ab,<-aF,<-HN.o,<-ek,<-ai] at h;exact h
   have aT:bits .or .u64 (mw.toNat:Int) ((k:Int)*72057594037927936)=(lw.toNat:Int):=by
    rw[<-aK,IntKind.wrap_u64];congr 1;omega
   have Z:=Lh (some (x.add u)) (n - u) (c - u) (l.drop u) wr B aD.symm (by have:=HX.o;omega) (Rd.drop (HR.o.below HW.o) u);have cB:u=c->Calls Tryz.prog 131 #[.slice (some x) 0 0] wr fun e w'=>e=.returned (wv (wd (BH (l.drop u))))/\w'=wr:=fun h=>Lh (some x) 0 0 (l.drop u) wr B (by omega) (by decide) (.inl (by rw[List.eq_nil_of_length_eq_zero (l:=l.drop u) (by omega)];rfl))
   rw[<-O] at Z;rw[<-O] at cB;obtain⟨⟨a,b,cc,d⟩,e1⟩:∃t,t=addM (full ks l (u / 8)) lw:=⟨_,rfl⟩;obtain⟨c1,ec⟩:∃x,x=cc ^^^ 255#64:=⟨_,rfl⟩;obtain⟨V0,eV⟩:∃x:V,x=⟨a,b,c1,d⟩:=⟨_,rfl⟩;obtain⟨⟨a2,b2,c2,d2⟩,e2⟩:∃t,t=rnds 4 V0:=⟨_,rfl⟩;obtain⟨q1,an⟩:∃x,x=a2 ^^^ b2:=⟨_,rfl⟩;obtain⟨q2,av⟩:∃x,x=q1 ^^^ c2:=⟨_,rfl⟩;obtain⟨q3,al⟩:∃x,x=q2 ^^^ d2:=⟨_,rfl⟩;have ah:GC ks l=q3:=by
    have hv:(stOf ks l).v=full ks l (u / 8):=by rw[Fo,HJ.o,HN.o]
    rw[GC,finS,<-ai,hv,<-e1,fin,<-ec,<-eV,<-e2,allX,<-an,<-av,<-al]
   have x0:bits .xor .u64 (cc.toNat:Int) 255=(c1.toNat:Int):=by rw[ec];exact Bu cc 255#64
   have x1:bits .xor .u64 (a2.toNat:Int) (b2.toNat:Int)=(q1.toNat:Int):=by rw[an];exact Bu _ _
   have x2:bits .xor .u64 (q1.toNat:Int) (c2.toNat:Int)=(q2.toNat:Int):=by rw[av];exact Bu _ _
   have x3:bits .xor .u64 (q2.toNat:Int) (d2.toNat:Int)=(q3.toNat:Int):=by rw[al];exact Bu _ _
   have ct:=Vd g (full ks l (u / 8)) lw wr HB.o;rw[<-e1] at ct;have aA:=I ah;clear ah;have EV:=I eV;clear eV;have E2:=I e2;clear e2;have aM:=I x0;clear x0;have aR:=I x1;clear x1;have aQ:=I x2;clear x2;have aW:=I x3;clear x3;have Y:=I (Blk.lt HB.o);clear e1 ec an av al aF O ai aD ab ek HJ af
   go_upto_region 7 with fail
   go_cut [] from 39 to 50 (fun wx=>Below B w wx/\Blk wx g 226 (Dt ⟨a,b,cc,d⟩))
   case first=>
    have ae:u=c\/u<c:=by omega
    rcases ae with ae | ae
    ·have aI:=cB ae;clear cB
     clear Z;subst ae
     go_wp2_with (first
      |(go_at_call 131;refine Ag aI ?_;rintro w' hw;have hw:=hw.symm;subst hw;clear aI)
      |(go_at_call 132;refine Ag ct ?_;rintro v1 ⟨D,X⟩;clear ct;have E:=I D;have M:=I (Al HW.o X (by have:=Y.o;have:=F.o;omega) F.o);clear D X))
     go_meet
     exact⟨M.o,E.o⟩
    ·clear cB
     have aY:(u:Int)<(c:Int):=by omega
     go_wp2_with (first
      |(go_at_call 131;refine Ag Z ?_;rintro w' hw;have hw:=hw.symm;subst hw;clear Z)
      |(go_at_call 132;refine Ag ct ?_;rintro v1 ⟨D,X⟩;clear ct;have E:=I D;have M:=I (Al HW.o X (by have:=Y.o;have:=F.o;omega) F.o);clear D X))
     go_meet
     exact⟨M.o,E.o⟩
   case rest=>
    obtain⟨aw,D⟩:=hcut;have E:=I D;clear D;have M:=I aw;clear aw;have k2:wc.cell? ⟨g,2,none⟩=some (.int .u64 (cc.toNat:Int)):=by rw[E.o.cell];rfl
    have fz:=E.o.frozen;have x0:=aM.o;clear aM hand aP aK aT Z cB ct
    go_upto_region 8 with fail
    refine wp_region_still_tail 8 (by kernel_rfl) (by kernel_rfl) ?_;simp only[List.take_succ_cons,List.take_zero,List.drop_succ_cons,List.drop_zero];change wpStill _ _ wc.drew _ _ _
    repeat still_step
    refine wpStill_nil ?_;change wpList _ _ _ _ _ wc.drew
    go_upto_region 9 with fail
    have ak:Blk (wc.setCell ⟨g,2,none⟩ (.int .u64 (c1.toNat:Int))).drew g 226 (Dt V0):=by rw[EV.o];exact Blk.set E.o 2 (wv c1)
    have au:Below B w (wc.setCell ⟨g,2,none⟩ (.int .u64 (c1.toNat:Int))).drew:=below_drewN (AS M.o F.o _) 1;generalize (wc.setCell ⟨g,2,none⟩ (.int .u64 (c1.toNat:Int))).drew=v2 at ak au⊢;have ay:=I ak;clear ak;have aC:=I au;clear au;clear k2 fz x0 E M Y HB HW
    go_wp2_with fail
    go_loopw [9] (fun iv wr=>∃i:Nat,i<=4/\iv=.int .i64 (i:Int)/\Below B w wr/\Blk wr g 226 (Dt (rnds i V0))) (fun iv _=>4 - (intOf iv).toNat)
    case atStart=>exact⟨0,by decide,rfl,aC.o,ay.o⟩
    case round=>
     obtain⟨i,hi,rfl,aO,aJ⟩:=hrel;clear ay aC;have ar:=I aJ;clear aJ;have ax:=I aO;clear aO
     by_cases hi4:i=4
     ·subst hi4
      have aa:=ar.o;rw[<-E2.o] at aa;have k0:wr.cell? ⟨g,0,none⟩=some (.int .u64 (a2.toNat:Int)):=by rw[aa.cell];rfl
      have k1:wr.cell? ⟨g,1,none⟩=some (.int .u64 (b2.toNat:Int)):=by rw[aa.cell];rfl
      have k2:wr.cell? ⟨g,2,none⟩=some (.int .u64 (c2.toNat:Int)):=by rw[aa.cell];rfl
      have k3:wr.cell? ⟨g,3,none⟩=some (.int .u64 (d2.toNat:Int)):=by rw[aa.cell];rfl
      have x1:=aR.o;have x2:=aQ.o;have x3:=aW.o;clear aa
      go_upto_region 13 with fail
      refine wp_region_still_lit (by kernel_rfl) (by kernel_rfl) ?_;change wpStill _ _ wr.drew _ _ _
      repeat still_step
      refine wpStill_nil ?_
      try change _ wr.drew
      go_wp2_with fail
      go_ret;exact⟨by rw[aA.o];rfl,by rw[<-EB.o];exact below_drewN ax.o 1⟩
     ·have j1:(i:Int)<4:=by omega
      have j2:(0:Int)<=(i:Int):=by omega
      have cr:=Mt g (rnds i V0) wr ar.o;have Y:=I (Blk.lt ar.o);have aS:=I hi4;clear hi4
      go_wp2_with (go_at_call 133;refine Ag cr ?_;rintro v4 ⟨aH,aN⟩;clear cr;have aX:=I aH;have aV:=I aN;clear aH aN)
      go_roundw
      case rel=>exact⟨i+1,by have:=aS.o;omega,by go_num,Al ax.o aV.o (by have:=Y.o;have:=F.o;omega) F.o,aX.o⟩
      case measure=>simp [intOf];omega
  ·have t1:(8:Int)<=(n:Int) - (u:Int):=by omega
   have t2:(u:Int)+8<=(n:Int):=by omega
   have t3:u+8<=n:=by omega
   have HX:=I hx;clear hx;have hj:(u+8) / 8=u / 8+1:=by omega
   have ab:u=8*(u / 8):=by have:=af.o;omega
   have aL:((l.drop u).take 8).length=8:=by rw[List.length_take,List.length_drop,<-HN.o];omega
   have Z:=Lh (some (x.add u)) 8 (c - u) ((l.drop u).take 8) wr B aL.symm (by decide) (Rd.take (Rd.drop (HR.o.below HW.o) u) 8);obtain⟨mw,O⟩:∃m,m=wd (BH ((l.drop u).take 8)):=⟨_,rfl⟩;rw[<-O] at Z;have ad:addM (full ks l (u / 8)) mw=full ks l ((u+8) / 8):=by rw[hj,full,<-ab,<-O]
   have ct:=Vd g (full ks l (u / 8)) mw wr HB.o;rw[ad] at ct;have Y:=I (Blk.lt HB.o);clear hj ab aL O ad
   go_wp2_with (first
    |(go_at_call 131;refine Ag Z ?_;rintro w' hw;have hw:=hw.symm;subst hw;clear Z)
    |(go_at_call 132;refine Ag ct ?_;rintro v1 ⟨D,X⟩;clear ct;have E:=I D;have M:=I (Al HW.o X (by have:=Y.o;have:=F.o;omega) F.o);clear D X))
   go_roundw
   case rel=>exact⟨u+8,by omega,by have:=af.o;omega,by go_num,M.o,E.o⟩
   case measure=>simp [intOf];omega
theorem Pv (ks:Nat->UInt8) (n c:Nat) (l:List UInt8) (w:World) (hn:n=l.length) (hl:n<=100000) (hc:n<=c) (hm:c<=maxLen) (h0:n=0) :
  Calls Tryz.prog 87 #[.agg (AF ks),.slice none n c] w fun e w'=>e=.returned (wv (GC ks l))/\Below w.heap.size w w':=by
 obtain⟨B,eB⟩:=Ah (w.heap.size);have EB:=I eB;have H0:=I h0;clear h0;have HN:=I hn;clear hn;have aR:AF ks=#[.int .u8 ((ks 0).toNat:Int),.int .u8 ((ks 1).toNat:Int),.int .u8 ((ks 2).toNat:Int),.int .u8 ((ks 3).toNat:Int),.int .u8 ((ks 4).toNat:Int),.int .u8 ((ks 5).toNat:Int),.int .u8 ((ks 6).toNat:Int),.int .u8 ((ks 7).toNat:Int),.int .u8 ((ks 8).toNat:Int),.int .u8 ((ks 9).toNat:Int),.int .u8 ((ks 10).toNat:Int),.int .u8 ((ks 11).toNat:Int),.int .u8 ((ks 12).toNat:Int),.int .u8 ((ks 13).toNat:Int),.int .u8 ((ks 14).toNat:Int),.int .u8 ((ks 15).toNat:Int)]:=rfl;have aC:stcV ks=#[wv (start ks).a,wv (start ks).b,wv (start ks).c,wv (start ks).d]:=rfl;obtain⟨p,ep⟩:∃x,x=kA ks:=⟨_,rfl⟩;obtain⟨q,eq⟩:∃x,x=kB ks:=⟨_,rfl⟩;obtain⟨v0,e0⟩:∃x,x=0x736f6d6570736575#64 ^^^ p:=⟨_,rfl⟩;obtain⟨v1,e1⟩:∃x,x=0x646f72616e646f6d#64 ^^^ q:=⟨_,rfl⟩;obtain⟨v2,e2⟩:∃x,x=0x6c7967656e657261#64 ^^^ p:=⟨_,rfl⟩;obtain⟨v3,e3⟩:∃x,x=0x7465646279746573#64 ^^^ q:=⟨_,rfl⟩;have x0:bits .xor .u64 8317987319222330741 (p.toNat:Int)=(v0.toNat:Int):=by rw[e0];exact Bu 0x736f6d6570736575#64 p
 have x1:bits .xor .u64 7237128888997146477 (q.toNat:Int)=(v1.toNat:Int):=by rw[e1];exact Bu 0x646f72616e646f6d#64 q
 have x2:bits .xor .u64 7816392313619706465 (p.toNat:Int)=(v2.toNat:Int):=by rw[e2];exact Bu 0x6c7967656e657261#64 p
 have x3:bits .xor .u64 8387220255154660723 (q.toNat:Int)=(v3.toNat:Int):=by rw[e3];exact Bu 0x7465646279746573#64 q
 have hs:stcV ks=#[.int .u64 (v0.toNat:Int),.int .u64 (v1.toNat:Int),.int .u64 (v2.toNat:Int),.int .u64 (v3.toNat:Int)]:=by
  rw[aC,e0,e1,e2,e3,ep,eq];rfl
 have HS:=I hs;clear hs;obtain⟨kz,ab⟩:=Ah (AF ks);rw[<-ab];have aY:=I ab;have hK:Blk (w.alloc (.cells kz 166)) B 166 (AF ks):=Blk.new_of w B _ _ _ ab eB.symm;have hW:Below B w (w.alloc (.cells kz 166)):=by rw[eB];exact(Below.refl _ w).alloc Ae _
 clear aC e0 e1 e2 e3;have cA:=TU (hK.drewN 1);have cB:=TV (hK.drewN 1);rw[<-ep] at cA;rw[<-eq] at cB;have HW:=I hW;clear hW;clear aR ab ep eq hK;go_enter Tryz.func87,Tryz.ntmps87
 go_upto_region 1 with fail
 rw[<-eB];clear eB;have HM:=I hm;clear hm;generalize w.alloc (.cells kz 166)=w1 at cA cB HW⊢;refine wp_region_still_lit (by kernel_rfl) (by kernel_rfl) ?_;change wpStill _ _ w1.drew _ _ _
 repeat still_step
 still_call cA
 repeat still_step
 still_call cB
 repeat still_step
 refine wpStill_nil ?_
 try change _ w1.drew
 clear cA cB
 go_upto_region 3 with fail
 obtain⟨g,eg⟩:=Ah (w1.heap.size);have ak:Blk (w1.alloc (.cells #[.int .u64 (v0.toNat:Int),.int .u64 (v1.toNat:Int),.int .u64 (v2.toNat:Int),.int .u64 (v3.toNat:Int)] 226)).drew g 226 (Dt (full ks l (0 / 8))):=Blk.drewN (Blk.new_of w1 g _ _ _ HS.o.symm eg.symm) 1;have af:Below B w (w1.alloc (.cells #[.int .u64 (v0.toNat:Int),.int .u64 (v1.toNat:Int),.int .u64 (v2.toNat:Int),.int .u64 (v3.toNat:Int)] 226)).drew:=below_drewN (HW.o.alloc (by rw[EB.o];exact HW.o.size) _) 1;have hg:B<=g:=by rw[eg,EB.o];exact HW.o.size
 rw[<-eg];generalize (w1.alloc (.cells #[.int .u64 (v0.toNat:Int),.int .u64 (v1.toNat:Int),.int .u64 (v2.toNat:Int),.int .u64 (v3.toNat:Int)] 226)).drew=w2 at ak af⊢;have aE:=I ak;clear ak;have az:=I af;clear af;have F:=I hg;clear hg;clear HS HW eg x0 x1 x2 x3;have l5:(n:Int)<=100000:=by omega
 have c0:(n:Int)<=(c:Int):=by omega
 have aX:c<=9223372036854775807:=by have:=HM.o;unfold maxLen at this;omega
 have aW:(c:Int)<=9223372036854775807:=by omega
 go_wp2_with fail
 go_loopw [8] (fun iv wr=>∃u:Nat,u<=n/\u % 8=0/\iv=.int .i64 (u:Int)/\Below B w wr/\Blk wr g 226 (Dt (full ks l (u / 8)))) (fun iv _=>n - (intOf iv).toNat)
 case atStart=>exact⟨0,Nat.zero_le _,rfl,rfl,az.o,aE.o⟩
 case round=>
  clear aE az;obtain⟨u,hu,ax,rfl,hW,hB⟩:=hrel;have HW:=I hW;clear hW;have HB:=I hB;clear hB;have ah:=I ax;clear ax;have d0:(0:Int)<=(u:Int):=by omega
  have d1:(u:Int)<=(n:Int):=by omega
  by_cases hx:n - u<8
  ·have hj:u / 8=n / 8:=by have:=ah.o;omega
   have t1:(n:Int) - (u:Int)<8:=by omega
   have HX:=I hx;clear hx;have HJ:=I hj;clear hj;obtain⟨k,ek⟩:=Ah (n % 256);have hand:bits .and .i64 (n:Int) 255=(k:Int):=by rw[Pp,ek];omega
   have k1:(k:Int)<256:=by omega
   have k2:(0:Int)<=(k:Int):=by omega
   have aM:IntKind.u64.wrap (k:Int)=(k:Int):=by rw[IntKind.wrap_u64];omega
   have av:u=8*(l.length / 8):=by have:=ah.o;have:=HN.o;have:=HX.o;omega
   have aB:(l.drop u).length=n - u:=by rw[List.length_drop,HN.o]
   obtain⟨mw,aa⟩:∃m,m=wd (BH (l.drop u)):=⟨_,rfl⟩;obtain⟨lw,ae⟩:∃m,m=Nt (stOf ks l):=⟨_,rfl⟩;have aD:mw.toNat=BH (l.drop u):=by rw[aa];exact IU _ (Jr (by have:=HX.o;omega))
   have aI:bits .or .u64 (mw.toNat:Int) (IntKind.u64.wrap ((k:Int)*72057594037927936))=(lw.toNat:Int):=by
    have h:=Ps ks l;rw[<-av,<-aD,<-HN.o,<-ek,<-ae] at h;exact h
   have aQ:bits .or .u64 (mw.toNat:Int) ((k:Int)*72057594037927936)=(lw.toNat:Int):=by
    rw[<-aI,IntKind.wrap_u64];congr 1;omega
   have cA:=Lh none (n - u) (c - u) (l.drop u) wr B aB.symm (by have:=HX.o;omega) (.inl (by rw[List.eq_nil_of_length_eq_zero (l:=l.drop u) (by have:=H0.o;omega)];rfl));have cB:u=c->Calls Tryz.prog 131 #[.slice none 0 0] wr fun e w'=>e=.returned (wv (wd (BH (l.drop u))))/\w'=wr:=fun h=>Lh none 0 0 (l.drop u) wr B (by omega) (by decide) (.inl (by rw[List.eq_nil_of_length_eq_zero (l:=l.drop u) (by omega)];rfl))
   rw[<-aa] at cA;rw[<-aa] at cB;obtain⟨⟨a,b,cc,d⟩,e1⟩:∃t,t=addM (full ks l (u / 8)) lw:=⟨_,rfl⟩;obtain⟨c1,ec⟩:∃x,x=cc ^^^ 255#64:=⟨_,rfl⟩;obtain⟨V0,eV⟩:∃x:V,x=⟨a,b,c1,d⟩:=⟨_,rfl⟩;obtain⟨⟨a2,b2,c2,d2⟩,e2⟩:∃t,t=rnds 4 V0:=⟨_,rfl⟩;obtain⟨q1,aj⟩:∃x,x=a2 ^^^ b2:=⟨_,rfl⟩;obtain⟨q2,ao⟩:∃x,x=q1 ^^^ c2:=⟨_,rfl⟩;obtain⟨q3,ai⟩:∃x,x=q2 ^^^ d2:=⟨_,rfl⟩;have ad:GC ks l=q3:=by
    have hv:(stOf ks l).v=full ks l (u / 8):=by rw[Fo,HJ.o,HN.o]
    rw[GC,finS,<-ae,hv,<-e1,fin,<-ec,<-eV,<-e2,allX,<-aj,<-ao,<-ai]
   have x0:bits .xor .u64 (cc.toNat:Int) 255=(c1.toNat:Int):=by rw[ec];exact Bu cc 255#64
   have x1:bits .xor .u64 (a2.toNat:Int) (b2.toNat:Int)=(q1.toNat:Int):=by rw[aj];exact Bu _ _
   have x2:bits .xor .u64 (q1.toNat:Int) (c2.toNat:Int)=(q2.toNat:Int):=by rw[ao];exact Bu _ _
   have x3:bits .xor .u64 (q2.toNat:Int) (d2.toNat:Int)=(q3.toNat:Int):=by rw[ai];exact Bu _ _
   have ct:=Vd g (full ks l (u / 8)) lw wr HB.o;rw[<-e1] at ct;have ay:=I ad;clear ad;have EV:=I eV;clear eV;have E2:=I e2;clear e2;have aJ:=I x0;clear x0;have aO:=I x1;clear x1;have aN:=I x2;clear x2;have aT:=I x3;clear x3;have X:=I (Blk.lt HB.o);clear e1 ec aj ao ai aD aa ae aB av ek HJ ah
   go_upto_region 7 with fail
   go_cut [] from 39 to 50 (fun wx=>Below B w wx/\Blk wx g 226 (Dt ⟨a,b,cc,d⟩))
   case first=>
    have Y:u=c\/u<c:=by omega
    rcases Y with Y | Y
    ·have aG:=cB Y;clear cB
     clear cA;subst Y
     go_wp2_with (first
      |(go_at_call 131;refine Ag aG ?_;rintro w' hw;have hw:=hw.symm;subst hw;clear aG)
      |(go_at_call 132;refine Ag ct ?_;rintro v1 ⟨E,Z⟩;clear ct;have D:=I E;have M:=I (Al HW.o Z (by have:=X.o;have:=F.o;omega) F.o);clear E Z))
     go_meet
     exact⟨M.o,D.o⟩
    ·clear cB
     have aV:(u:Int)<(c:Int):=by omega
     go_wp2_with (first
      |(go_at_call 131;refine Ag cA ?_;rintro w' hw;have hw:=hw.symm;subst hw;clear cA)
      |(go_at_call 132;refine Ag ct ?_;rintro v1 ⟨E,Z⟩;clear ct;have D:=I E;have M:=I (Al HW.o Z (by have:=X.o;have:=F.o;omega) F.o);clear E Z))
     go_meet
     exact⟨M.o,D.o⟩
   case rest=>
    obtain⟨ar,E⟩:=hcut;have D:=I E;clear E;have M:=I ar;clear ar;have k2:wc.cell? ⟨g,2,none⟩=some (.int .u64 (cc.toNat:Int)):=by rw[D.o.cell];rfl
    have fz:=D.o.frozen;have x0:=aJ.o;clear aJ hand aM aI aQ cA cB ct
    go_upto_region 8 with fail
    refine wp_region_still_tail 8 (by kernel_rfl) (by kernel_rfl) ?_;simp only[List.take_succ_cons,List.take_zero,List.drop_succ_cons,List.drop_zero];change wpStill _ _ wc.drew _ _ _
    repeat still_step
    refine wpStill_nil ?_;change wpList _ _ _ _ _ wc.drew
    go_upto_region 9 with fail
    have ag:Blk (wc.setCell ⟨g,2,none⟩ (.int .u64 (c1.toNat:Int))).drew g 226 (Dt V0):=by rw[EV.o];exact Blk.set D.o 2 (wv c1)
    have an:Below B w (wc.setCell ⟨g,2,none⟩ (.int .u64 (c1.toNat:Int))).drew:=below_drewN (AS M.o F.o _) 1;generalize (wc.setCell ⟨g,2,none⟩ (.int .u64 (c1.toNat:Int))).drew=v2 at ag an⊢;have aw:=I ag;clear ag;have aA:=I an;clear an;clear k2 fz x0 D M X HB HW
    go_wp2_with fail
    go_loopw [9] (fun iv wr=>∃i:Nat,i<=4/\iv=.int .i64 (i:Int)/\Below B w wr/\Blk wr g 226 (Dt (rnds i V0))) (fun iv _=>4 - (intOf iv).toNat)
    case atStart=>exact⟨0,by decide,rfl,aA.o,aw.o⟩
    case round=>
     obtain⟨i,hi,rfl,aL,aH⟩:=hrel;clear aw aA;have al:=I aH;clear aH;have au:=I aL;clear aL
     by_cases hi4:i=4
     ·subst hi4
      have O:=al.o;rw[<-E2.o] at O;have k0:wr.cell? ⟨g,0,none⟩=some (.int .u64 (a2.toNat:Int)):=by rw[O.cell];rfl
      have k1:wr.cell? ⟨g,1,none⟩=some (.int .u64 (b2.toNat:Int)):=by rw[O.cell];rfl
      have k2:wr.cell? ⟨g,2,none⟩=some (.int .u64 (c2.toNat:Int)):=by rw[O.cell];rfl
      have k3:wr.cell? ⟨g,3,none⟩=some (.int .u64 (d2.toNat:Int)):=by rw[O.cell];rfl
      have x1:=aO.o;have x2:=aN.o;have x3:=aT.o;clear O
      go_upto_region 13 with fail
      refine wp_region_still_lit (by kernel_rfl) (by kernel_rfl) ?_;change wpStill _ _ wr.drew _ _ _
      repeat still_step
      refine wpStill_nil ?_
      try change _ wr.drew
      go_wp2_with fail
      go_ret;exact⟨by rw[ay.o];rfl,by rw[<-EB.o];exact below_drewN au.o 1⟩
     ·have j1:(i:Int)<4:=by omega
      have j2:(0:Int)<=(i:Int):=by omega
      have cr:=Mt g (rnds i V0) wr al.o;have X:=I (Blk.lt al.o);have aP:=I hi4;clear hi4
      go_wp2_with (go_at_call 133;refine Ag cr ?_;rintro v4 ⟨aF,aK⟩;clear cr;have aU:=I aF;have aS:=I aK;clear aF aK)
      go_roundw
      case rel=>exact⟨i+1,by have:=aP.o;omega,by go_num,Al au.o aS.o (by have:=X.o;have:=F.o;omega) F.o,aU.o⟩
      case measure=>simp [intOf];omega
  ·have t1:(8:Int)<=(n:Int) - (u:Int):=by omega
   exact absurd H0.o (by omega)
theorem RW (ks:Nat->UInt8) (A:Option Addr) (n c:Nat) (l:List UInt8) (w:World) (D:n=l.length) (E:n<=100000) (M:n<=c) (hm:c<=maxLen) (F:Rd w w.heap.size A (bvs l)) :
  Calls Tryz.prog 87 #[.agg (AF ks),.slice A n c] w fun e w'=>e=.returned (wv (GC ks l))/\Below w.heap.size w w':=by
 cases A with
 |some x=>exact Pu ks x n c l w D E M hm F
 |none=>
  refine Pv ks n c l w D E M hm ?_;rcases F with h | ⟨b,o,O,_,_⟩
  ·rw[D,List.map_eq_nil_iff.1 h];rfl
  ·cases O
theorem BP:(Tryz.prog.info? 5).map (fun i=>(i.zero,i.size,i.bytes))=some (some (.int .u8 0),1,1):=by kernel_rfl
theorem Fm (w:World) (t:TypeId) (cs:Array Value) (l:List Value) (h:cs.toList=l) (N:Nat) (D:w.heap.size=N):Rd (w.alloc (.cells cs t)) (N+1) (some ⟨N,0,none⟩) l:=by
 subst D;refine .inr ⟨w.heap.size,0,rfl,by omega,fun i u hu=>?_⟩;rw[Nat.zero_add,(Blk.new w t cs).cell i];rw[<-h] at hu
 simpa using hu
theorem DC {w w':World} {base:Nat} {t:TypeId} {v:Value} {n:Nat} {xs:List Value} {o:Obj} (h:w.ownsRow base t 1 v n xs) (e:w'.heap=w.heap.push o):w'.ownsRow base t 1 v n xs:=by
 obtain⟨F,h | ⟨g,cap,cur,M,O,D,X⟩⟩:=h
 ·exact⟨F,.inl h⟩
 ·refine⟨F,.inr ⟨g,cap,cur,M,O,?_,X⟩⟩
  have E:=Blk.lt (t:=t) (cs:=cur) D;rw[e,Array.getElem?_push_lt E,<-Array.getElem?_eq_getElem E];exact D
theorem Nx {w:World} (t:TypeId) (vs:List Value) (rows:List (List UInt8)) (cs:Array Value) (O:cs.toList=vs) (F:vs.length=rows.length)
  (h:∀i (h:i<rows.length),∃(D:Option Addr) (ci:Nat),vs[i]? = some (.slice D (rows[i]).length ci)/\Rd w w.heap.size D (bvs rows[i])):Rows (w.alloc (.cells cs t)) (w.alloc (.cells cs t)).heap.size (some ⟨w.heap.size,0,none⟩) rows:=by
 refine⟨vs,F,(Fm w t cs vs O w.heap.size rfl).more (by simp),fun i X=>?_⟩;obtain⟨D,ci,M,E⟩:=h i X;exact⟨D,ci,M,(E.alloc Ae _).more (by simp)⟩
end Si
end Go.Proofs.YtcpccikongbopaaGreat
