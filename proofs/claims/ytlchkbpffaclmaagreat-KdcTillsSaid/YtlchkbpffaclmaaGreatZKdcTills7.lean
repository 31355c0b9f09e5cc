import Derived.Test.YtlchkbpffaclmaaGreatZKdcTills6
set_option maxHeartbeats 25600000
set_option maxRecDepth 100000
set_option linter.unusedVariables false
set_option linter.unusedSimpArgs false
namespace Go.Proofs.YtlchkbpffaclmaaGreat
namespace Si
open Go.RowKit Af
def Rows (w:World) (B:Nat) (A:Option Addr) (rows:List (List UInt8)):Prop:=
 ∃vs:List Value,vs.length=rows.length/\Rd w B A vs/\∀i (h:i<rows.length),∃(Ai:Option Addr) (ci:Nat),vs[i]? = some (.slice Ai (rows[i]).length ci)/\Rd w B Ai (bvs rows[i])
def flat (rows:List (List UInt8)):List UInt8:=rows.flatten
theorem Ry (rows:List (List UInt8)) (i:Nat) (h:i<rows.length):flat (rows.take (i+1))=flat (rows.take i)++rows[i]:=by
 unfold flat;rw[List.take_succ_eq_append_getElem h,List.flatten_append];simp
theorem IV (rows:List (List UInt8)) (i:Nat):(flat (rows.take i)).length<=(flat rows).length:=by
 have h:rows=rows.take i++rows.drop i:=(List.take_append_drop i rows).symm;have h2:flat rows=flat (rows.take i)++flat (rows.drop i):=by
  unfold flat;rw[<-List.flatten_append,List.take_append_drop]
 rw[h2,List.length_append];omega
def MZ (ks:Nat->UInt8) (l:List UInt8):Array Value:=stc (stOf ks l)
theorem PM (g:Nat) (ks:Nat->UInt8) (l:List UInt8) (y:UInt8) (w:World) (hn:l.length<100000) (hB:Blk w g 302 (MZ ks l)) :
  Calls Tryz.prog 219 #[.pointer (some ⟨g,0,none⟩),.int .u8 (y.toNat:Int)] w fun e w'=>e=.returned (.tuple #[])/\Blk w' g 302 (MZ ks (l++[y]))/\w.grownBy w' (some g):=by
 have h:=MY g (stOf ks l) y w (by rw[YQ];exact hn) (VP ks l) hB;rw[<-LK] at h;exact h
theorem YW (g:Nat) (ks:Nat->UInt8) (l:List UInt8) (w:World) (hB:Blk w g 302 (MZ ks l)) :
  Calls Tryz.prog 220 #[.pointer (some ⟨g,0,none⟩)] w fun e w'=>e=.returned (wv (Ho ks l))/\w.grownBy w' (some g):=
 Xh g (stOf ks l) w (Nat.lt_of_lt_of_le (VP ks l) (Uv _ (by omega))) hB
theorem Rz (l:List UInt8) (j:Nat) (h:j<l.length):l.take (j+1)=l.take j++[l[j]]:=List.take_succ_eq_append_getElem h
theorem Xi (ks:Nat->UInt8) (A:Option Addr) (n c:Nat) (rows:List (List UInt8)) (w:World) (hn:n=rows.length) (hn5:n<=100000) (hl:(flat rows).length<100000) (hr:Rows w w.heap.size A rows) :
  Calls Tryz.prog 194 #[.agg (AI ks),.slice A n c] w fun e w'=>e=.returned (wv (Ho ks (flat rows)))/\Below w.heap.size w w':=by
 obtain⟨vs,hv,hrd,hrows⟩:=hr;obtain⟨B,eB⟩:=Ak (w.heap.size);rw[<-eB] at hrd hrows;have EB:=I eB;have HRD:=I hrd;clear hrd;have HROWS:=I hrows;clear hrows;have HN:=I hn;clear hn;have e5:(n:Int)<=100000:=by omega
 clear hn5;have HL:=I hl;clear hl;have HV:=I hv;clear hv;have hk:AI ks=#[.int .u8 ((ks 0).toNat:Int),.int .u8 ((ks 1).toNat:Int),.int .u8 ((ks 2).toNat:Int),.int .u8 ((ks 3).toNat:Int),.int .u8 ((ks 4).toNat:Int),.int .u8 ((ks 5).toNat:Int),.int .u8 ((ks 6).toNat:Int),.int .u8 ((ks 7).toNat:Int),.int .u8 ((ks 8).toNat:Int),.int .u8 ((ks 9).toNat:Int),.int .u8 ((ks 10).toNat:Int),.int .u8 ((ks 11).toNat:Int),.int .u8 ((ks 12).toNat:Int),.int .u8 ((ks 13).toNat:Int),.int .u8 ((ks 14).toNat:Int),.int .u8 ((ks 15).toNat:Int)]:=rfl;have cb:=Rx ks;rw[hk] at cb⊢;have hs:stc ⟨start ks,0,0⟩=#[wv (start ks).a,wv (start ks).b,wv (start ks).c,wv (start ks).d,.int .u64 0,.int .u64 0]:=rfl;rw[hs] at cb;have hs0:MZ ks []=#[wv (start ks).a,wv (start ks).b,wv (start ks).c,wv (start ks).d,.int .u64 0,.int .u64 0]:=rfl;obtain⟨p0,e0⟩:∃x,x=(start ks).a:=⟨_,rfl⟩;obtain⟨p1,e1⟩:∃x,x=(start ks).b:=⟨_,rfl⟩;obtain⟨p2,e2⟩:∃x,x=(start ks).c:=⟨_,rfl⟩;obtain⟨p3,e3⟩:∃x,x=(start ks).d:=⟨_,rfl⟩;rw[<-e0,<-e1,<-e2,<-e3] at hs0 cb;have HS0:=I hs0;clear hs0;clear hk hs e0 e1 e2 e3;go_enter Tryz.func194,Tryz.ntmps194
 go_upto_region 2 with(go_at_call 218;refine Aj (cb _) ?_;rintro w1 hb1;have hW1:Below w.heap.size w w1:=((Below.refl w.heap.size w).alloc Ag _).trans (hb1.mono (by simp));have HW1:=I hW1;clear hW1 hb1 cb)
 clear eB;obtain⟨g,eg⟩:=Ak (w1.heap.size);have hB0:Blk (w1.alloc (.cells #[.int .u64 (p0.toNat:Int),.int .u64 (p1.toNat:Int),.int .u64 (p2.toNat:Int),.int .u64 (p3.toNat:Int),.int .u64 0,.int .u64 0] 302)) g 302 (MZ ks []):=Blk.new_of w1 g _ _ _ HS0.o.symm eg.symm;have hW0:Below B w (w1.alloc (.cells #[.int .u64 (p0.toNat:Int),.int .u64 (p1.toNat:Int),.int .u64 (p2.toNat:Int),.int .u64 (p3.toNat:Int),.int .u64 0,.int .u64 0] 302)):=by rw[EB.o];exact HW1.o.alloc HW1.o.size _
 have hg:B<=g:=by rw[eg,EB.o];exact HW1.o.size
 rw[<-eg];generalize w1.alloc (.cells #[.int .u64 (p0.toNat:Int),.int .u64 (p1.toNat:Int),.int .u64 (p2.toNat:Int),.int .u64 (p3.toNat:Int),.int .u64 0,.int .u64 0] 302)=w2 at hB0 hW0⊢;have HB0:=I hB0;clear hB0;have HW0:=I hW0;clear hW0;have HGB:=I hg;clear hg;clear HS0 HW1 eg
 go_wp2_with fail
 go_loopw [14] (fun iv wr=>∃i:Nat,i<=n/\iv=.int .i64 (i:Int)/\Below B w wr/\Blk wr g 302 (MZ ks (flat (rows.take i)))) (fun iv _=>n - (intOf iv).toNat)
 case atStart=>exact⟨0,Nat.zero_le _,rfl,HW0.o,by rw[List.take_zero];exact HB0.o⟩
 case round=>
  clear HB0 HW0;obtain⟨i,hi,rfl,hW,hB⟩:=hrel;have HW:=I hW;clear hW;have HB:=I hB;clear hB
  by_cases hx:i=n
  ·have he:rows.take i=rows:=List.take_of_length_le (by have:=HN.o;omega)
   have ce:=YW g ks (flat (rows.take i)) wr HB.o;rw[he] at ce;subst hx;clear he
   go_wp2_with (go_at_call 220;refine Aj ce ?_;rintro w3 hg3;clear ce;have HG3:=I hg3;clear hg3)
   go_ret;exact⟨rfl,by rw[<-EB.o];exact Av HW.o HG3.o (by have:=HW.o.size;have:=Blk.lt HB.o;have:=HGB.o;omega) HGB.o⟩
  ·have hlt:i<n:=by omega
   have hll:i<rows.length:=by have:=HN.o;omega
   have e1:(i:Int)<(n:Int):=by omega
   have e2:(0:Int)<=(i:Int):=by omega
   obtain⟨row,erow⟩:∃r,r=rows[i]:=⟨_,rfl⟩;obtain⟨pre,epre⟩:∃r,r=flat (rows.take i):=⟨_,rfl⟩;have enext:flat (rows.take (i+1))=pre++row:=by rw[epre,erow];exact Ry rows i hll
   have hlen:(pre++row).length<100000:=by rw[<-enext];exact Nat.lt_of_le_of_lt (IV rows (i+1)) HL.o
   obtain⟨Ai,ci,hvi,hri⟩:=HROWS.o i hll;rw[<-erow] at hvi hri;have HB':=HB.o;rw[<-epre] at HB';have HB2:=I HB';clear HB' HB;obtain⟨b,o,rfl,hbB,hcell⟩:=HRD.o.at_ hvi;obtain⟨m,em⟩:=Ak (row.length);rw[<-em] at hcell;have hc:wr.cell? ⟨b,o+i,none⟩=some (.slice Ai m ci):=(HW.o.cell (p:=⟨b,o+i,none⟩) hbB).trans hcell;have HEN:=I enext;clear enext;have HRI:=I hri;clear hri;have HX:=I hx;clear hx;have HI:=I hi;clear hi;have e6:(m:Int)<100000:=by have:=hlen;rw[List.length_append] at this;omega
   have HM:=I em;clear em;have HLE:=I hlen;clear hlen;have HLL:=I hll;clear hvi hcell erow epre hll
   go_wp2_with fail
   go_loopw [20] (fun jv wx=>∃j:Nat,j<=m/\jv=.int .i64 (j:Int)/\Below B w wx/\Blk wx g 302 (MZ ks (pre++row.take j))) (fun jv _=>m - (intOf jv).toNat)
   case atStart=>exact⟨0,Nat.zero_le _,rfl,HW.o,by rw[List.take_zero,List.append_nil];exact HB2.o⟩
   case round=>
    clear hc HW HB2;obtain⟨j,hj,rfl,hWx,hBx⟩:=hrel;have HWX:=I hWx;clear hWx;have HBX:=I hBx;clear hBx
    by_cases hy:j=m
    ·have he:row.take j=row:=List.take_of_length_le (by have:=HM.o;omega)
     have HE:=I he;clear he;subst hy
     go_wp2_with fail
     go_roundw
     case rel=>exact⟨i+1,by omega,by go_num,HWX.o,by rw[HEN.o];have:=HBX.o;rw[HE.o] at this;exact this⟩
     case measure=>simp [intOf];omega
    ·have hjm:j<m:=by omega
     have hjl:j<row.length:=by have:=HM.o;omega
     have f1:(j:Int)<(m:Int):=by omega
     have f2:(0:Int)<=(j:Int):=by omega
     obtain⟨b2,o2,rfl,hb2,hcell2⟩:=HRI.o.at_ (Dy hjl);obtain⟨y,ey⟩:=Ak (row[j]);rw[<-ey] at hcell2;have hc2:wr.cell? ⟨b2,o2+j,none⟩=some (.int .u8 (y.toNat:Int)):=(HWX.o.cell (p:=⟨b2,o2+j,none⟩) hb2).trans hcell2;have hsn:(pre++row.take j)++[y]=pre++row.take (j+1):=by rw[Rz row j hjl,<-ey,List.append_assoc]
     have ca:=PM g ks (pre++row.take j) y wr (by have:=HLE.o;rw[List.length_append] at this⊢;have:(row.take j).length<=row.length:=by{rw[List.length_take];omega};omega) HBX.o;rw[hsn] at ca;have HY:=I hy;clear hy;have HJ:=I hj;clear hj;have HSZ:=I (Blk.lt HBX.o);clear hcell2 ey hsn hjl
     go_wp2_with (go_at_call 219;refine Aj ca ?_;rintro w4 ⟨hB4,hG4⟩;clear ca;have HB4:=I hB4;have HG4:=I hG4;clear hB4 hG4)
     go_roundw
     case rel=>exact⟨j+1,by omega,by go_num,Av HWX.o HG4.o (by have:=HSZ.o;have:=HGB.o;omega) HGB.o,HB4.o⟩
     case measure=>simp [intOf];omega
theorem RB (n:Int):bits .and .i64 n 255=n % 256:=by
 have h127:(BitVec.ofInt 64 255).toNat=2 ^ 8 - 1:=by decide
 have key:(BitVec.ofInt 64 n &&& BitVec.ofInt 64 255).toNat=(n % ((2 ^ 64:Nat):Int)).toNat % 2 ^ 8:=by
  rw[BitVec.toNat_and,BitVec.toNat_ofInt,h127,Nat.and_two_pow_sub_one_eq_mod]
 show IntKind.i64.wrap ((BitVec.ofInt 64 n &&& BitVec.ofInt 64 255).toNat:Nat)=n % 256;rw[key,IntKind.wrap_i64];omega
theorem Rd.drop {w:World} {B:Nat} {x:Addr} {l:List UInt8} (h:Rd w B (some x) (bvs l)) (p:Nat):Rd w B (some (x.add p)) (bvs (l.drop p)):=by
 rcases h with h | ⟨b,o,h1,h2,h3⟩
 ·left
  have:l = []:=List.map_eq_nil_iff.1 h;rw[this];simp [bvs]
 ·injection h1 with h1
  subst h1;rw[addr_add];refine .inr ⟨b,o+p,rfl,h2,fun i u hu=>?_⟩;have:(bvs l)[p+i]? = some u:=by
   rw[<-hu];simp [bvs,List.getElem?_drop]
  have:=h3 _ _ this
  rwa [Nat.add_assoc]
theorem Rd.take {w:World} {B:Nat} {A:Option Addr} {l:List UInt8} (h:Rd w B A (bvs l)) (k:Nat):Rd w B A (bvs (l.take k)):=by
 rcases h with h | ⟨b,o,h1,h2,h3⟩
 ·left
  have:l = []:=List.map_eq_nil_iff.1 h;rw[this];simp [bvs]
 ·refine .inr ⟨b,o,h1,h2,fun i u hu=>h3 i u ?_⟩
  rw[<-hu];have hi:i<k:=by
   rcases Nat.lt_or_ge i k with g | g
   ·exact g
   ·rw[List.getElem?_eq_none (by simp [bvs];omega)] at hu;cases hu
  simp [bvs,hi]
theorem rd_key {w:World} {B:Nat} {t:TypeId} {ks:Nat->UInt8} (h:Blk w B t (AI ks)) (o:Nat) (ho:o+8<=16):Rd w (B+1) (some ⟨B,o,none⟩) (bvs ((List.range 8).map fun i=>ks (o+i))):=by
 refine .inr ⟨B,o,rfl,by omega,fun i u hu=>?_⟩;have hi:i<8:=by
  rcases Nat.lt_or_ge i 8 with g | g
  ·exact g
  ·rw[List.getElem?_eq_none (by simp [bvs];omega)] at hu;cases hu
 rw[h.cell,FM _ _ (by omega)];rw[<-hu];simp [bvs,hi]
theorem VR {w:World} {B:Nat} {t:TypeId} {ks:Nat->UInt8} (h:Blk w B t (AI ks)):Calls Tryz.prog 125 #[.slice (some ⟨B,0,none⟩) 8 16] w fun e w'=>e=.returned (wv (kA ks))/\w'=w:=by
 have h1:=rd_key h 0 (by decide);have:=MX (some ⟨B,0,none⟩) 8 16 _ w (B+1) (by simp) (by decide) h1;have e:((List.range 8).map fun i=>ks (0+i))=(List.range 8).map ks:=by simp
 rw[e] at this;exact this
theorem VS {w:World} {B:Nat} {t:TypeId} {ks:Nat->UInt8} (h:Blk w B t (AI ks)):Calls Tryz.prog 125 #[.slice (some ⟨B,8,none⟩) 8 8] w fun e w'=>e=.returned (wv (kB ks))/\w'=w:=
 MX (some ⟨B,8,none⟩) 8 8 _ w (B+1) (by simp) (by decide) (rd_key h 8 (by decide))
theorem RE (ks:Nat->UInt8) (l:List UInt8):bits .or .u64 (BH (l.drop (8*(l.length / 8))):Nat) (IntKind.u64.wrap (((l.length % 256:Nat):Int)*72057594037927936))=((PI (stOf ks l)).toNat:Int):=by
 have hr:BH (l.drop (8*(l.length / 8)))<72057594037927936:=Ru (by rw[List.length_drop];omega);have h:=Oj (BH (l.drop (8*(l.length / 8)))) (l.length % 256) hr;rw[IntKind.wrap_u64,h,Nat.mod_mod];rw[LP _ (by rw[FP];exact hr),FP]
def stcV (ks:Nat->UInt8):Array Value:=Ds (start ks)
theorem RF (ks:Nat->UInt8) (x:Addr) (n c:Nat) (l:List UInt8) (w:World) (hn:n=l.length) (hl:n<=100000) (hc:n<=c) (hm:c<=maxLen) (hr:Rd w w.heap.size (some x) (bvs l)) :
  Calls Tryz.prog 79 #[.agg (AI ks),.slice (some x) n c] w fun e w'=>e=.returned (wv (Ho ks l))/\Below w.heap.size w w':=by
 obtain⟨B,eB⟩:=Ak (w.heap.size);rw[<-eB] at hr;have EB:=I eB;have HR:=I hr;clear hr;have HN:=I hn;clear hn;have hkk:AI ks=#[.int .u8 ((ks 0).toNat:Int),.int .u8 ((ks 1).toNat:Int),.int .u8 ((ks 2).toNat:Int),.int .u8 ((ks 3).toNat:Int),.int .u8 ((ks 4).toNat:Int),.int .u8 ((ks 5).toNat:Int),.int .u8 ((ks 6).toNat:Int),.int .u8 ((ks 7).toNat:Int),.int .u8 ((ks 8).toNat:Int),.int .u8 ((ks 9).toNat:Int),.int .u8 ((ks 10).toNat:Int),.int .u8 ((ks 11).toNat:Int),.int .u8 ((ks 12).toNat:Int),.int .u8 ((ks 13).toNat:Int),.int .u8 ((ks 14).toNat:Int),.int .u8 ((ks 15).toNat:Int)]:=rfl;have hsz:stcV ks=#[wv (start ks).a,wv (start ks).b,wv (start ks).c,wv (start ks).d]:=rfl;obtain⟨p,ep⟩:∃x,x=kA ks:=⟨_,rfl⟩;obtain⟨q,eq⟩:∃x,x=kB ks:=⟨_,rfl⟩;obtain⟨v0,e0⟩:∃x,x=0x736f6d6570736575#64 ^^^ p:=⟨_,rfl⟩;obtain⟨v1,e1⟩:∃x,x=0x646f72616e646f6d#64 ^^^ q:=⟨_,rfl⟩;obtain⟨v2,e2⟩:∃x,x=0x6c7967656e657261#64 ^^^ p:=⟨_,rfl⟩;obtain⟨v3,e3⟩:∃x,x=0x7465646279746573#64 ^^^ q:=⟨_,rfl⟩;have x0:bits .xor .u64 8317987319222330741 (p.toNat:Int)=(v0.toNat:Int):=by rw[e0];exact Br 0x736f6d6570736575#64 p
 have x1:bits .xor .u64 7237128888997146477 (q.toNat:Int)=(v1.toNat:Int):=by rw[e1];exact Br 0x646f72616e646f6d#64 q
 have x2:bits .xor .u64 7816392313619706465 (p.toNat:Int)=(v2.toNat:Int):=by rw[e2];exact Br 0x6c7967656e657261#64 p
 have x3:bits .xor .u64 8387220255154660723 (q.toNat:Int)=(v3.toNat:Int):=by rw[e3];exact Br 0x7465646279746573#64 q
 have hs:stcV ks=#[.int .u64 (v0.toNat:Int),.int .u64 (v1.toNat:Int),.int .u64 (v2.toNat:Int),.int .u64 (v3.toNat:Int)]:=by
  rw[hsz,e0,e1,e2,e3,ep,eq];rfl
 have HS:=I hs;clear hs;obtain⟨kz,ekz⟩:=Ak (AI ks);rw[<-ekz];have EKZ:=I ekz;have hK:Blk (w.alloc (.cells kz 168)) B 168 (AI ks):=Blk.new_of w B _ _ _ ekz eB.symm;have hW:Below B w (w.alloc (.cells kz 168)):=by rw[eB];exact(Below.refl _ w).alloc Ag _
 clear hsz e0 e1 e2 e3;have cA:=VR (hK.drewN 1);have cB:=VS (hK.drewN 1);rw[<-ep] at cA;rw[<-eq] at cB;have HW:=I hW;clear hW;clear hkk ekz ep eq hK;go_enter Tryz.func79,Tryz.ntmps79
 go_upto_region 1 with fail
 rw[<-eB];clear eB;have HM:=I hm;clear hm;generalize w.alloc (.cells kz 168)=w1 at cA cB HW⊢;refine wp_region_still_lit (by kernel_rfl) (by kernel_rfl) ?_;change wpStill _ _ w1.drew _ _ _
 repeat still_step
 still_call cA
 repeat still_step
 still_call cB
 repeat still_step
 refine wpStill_nil ?_
 try change _ w1.drew
 clear cA cB
 go_upto_region 3 with fail
 obtain⟨g,eg⟩:=Ak (w1.heap.size);have hB0:Blk (w1.alloc (.cells #[.int .u64 (v0.toNat:Int),.int .u64 (v1.toNat:Int),.int .u64 (v2.toNat:Int),.int .u64 (v3.toNat:Int)] 235)).drew g 235 (Ds (full ks l (0 / 8))):=Blk.drewN (Blk.new_of w1 g _ _ _ HS.o.symm eg.symm) 1;have hW0:Below B w (w1.alloc (.cells #[.int .u64 (v0.toNat:Int),.int .u64 (v1.toNat:Int),.int .u64 (v2.toNat:Int),.int .u64 (v3.toNat:Int)] 235)).drew:=below_drewN (HW.o.alloc (by rw[EB.o];exact HW.o.size) _) 1;have hg:B<=g:=by rw[eg,EB.o];exact HW.o.size
 rw[<-eg];generalize (w1.alloc (.cells #[.int .u64 (v0.toNat:Int),.int .u64 (v1.toNat:Int),.int .u64 (v2.toNat:Int),.int .u64 (v3.toNat:Int)] 235)).drew=w2 at hB0 hW0⊢;have HB0:=I hB0;clear hB0;have HW0:=I hW0;clear hW0;have HGB:=I hg;clear hg;clear HS HW eg x0 x1 x2 x3;have l5:(n:Int)<=100000:=by omega
 have c0:(n:Int)<=(c:Int):=by omega
 have hcm:c<=9223372036854775807:=by have:=HM.o;unfold maxLen at this;omega
 have hcm2:(c:Int)<=9223372036854775807:=by omega
 go_wp2_with fail
 go_loopw [8] (fun iv wr=>∃u:Nat,u<=n/\u % 8=0/\iv=.int .i64 (u:Int)/\Below B w wr/\Blk wr g 235 (Ds (full ks l (u / 8)))) (fun iv _=>n - (intOf iv).toNat)
 case atStart=>exact⟨0,Nat.zero_le _,rfl,rfl,HW0.o,HB0.o⟩
 case round=>
  clear HB0 HW0;obtain⟨u,hu,hu8,rfl,hW,hB⟩:=hrel;have HW:=I hW;clear hW;have HB:=I hB;clear hB;have HU8:=I hu8;clear hu8;have d0:(0:Int)<=(u:Int):=by omega
  have d1:(u:Int)<=(n:Int):=by omega
  by_cases hx:n - u<8
  ·have hj:u / 8=n / 8:=by have:=HU8.o;omega
   have t1:(n:Int) - (u:Int)<8:=by omega
   have HX:=I hx;clear hx;have HJ:=I hj;clear hj;obtain⟨k,ek⟩:=Ak (n % 256);have hand:bits .and .i64 (n:Int) 255=(k:Int):=by rw[RB,ek];omega
   have k1:(k:Int)<256:=by omega
   have k2:(0:Int)<=(k:Int):=by omega
   have hwk:IntKind.u64.wrap (k:Int)=(k:Int):=by rw[IntKind.wrap_u64];omega
   have hu0:u=8*(l.length / 8):=by have:=HU8.o;have:=HN.o;have:=HX.o;omega
   have hll:(l.drop u).length=n - u:=by rw[List.length_drop,HN.o]
   obtain⟨mw,emw⟩:∃m,m=wd (BH (l.drop u)):=⟨_,rfl⟩;obtain⟨lw,elw⟩:∃m,m=PI (stOf ks l):=⟨_,rfl⟩;have hmw:mw.toNat=BH (l.drop u):=by rw[emw];exact JU _ (KL (by have:=HX.o;omega))
   have hx1:bits .or .u64 (mw.toNat:Int) (IntKind.u64.wrap ((k:Int)*72057594037927936))=(lw.toNat:Int):=by
    have h:=RE ks l;rw[<-hu0,<-hmw,<-HN.o,<-ek,<-elw] at h;exact h
   have hx2:bits .or .u64 (mw.toNat:Int) ((k:Int)*72057594037927936)=(lw.toNat:Int):=by
    rw[<-hx1,IntKind.wrap_u64];congr 1;omega
   have cA:=MX (some (x.add u)) (n - u) (c - u) (l.drop u) wr B hll.symm (by have:=HX.o;omega) (Rd.drop (HR.o.below HW.o) u);have cB:u=c->Calls Tryz.prog 125 #[.slice (some x) 0 0] wr fun e w'=>e=.returned (wv (wd (BH (l.drop u))))/\w'=wr:=fun h=>MX (some x) 0 0 (l.drop u) wr B (by omega) (by decide) (.inl (by rw[List.eq_nil_of_length_eq_zero (l:=l.drop u) (by omega)];rfl))
   rw[<-emw] at cA;rw[<-emw] at cB;obtain⟨⟨a,b,cc,d⟩,e1⟩:∃t,t=addM (full ks l (u / 8)) lw:=⟨_,rfl⟩;obtain⟨c1,ec⟩:∃x,x=cc ^^^ 255#64:=⟨_,rfl⟩;obtain⟨V0,eV⟩:∃x:V,x=⟨a,b,c1,d⟩:=⟨_,rfl⟩;obtain⟨⟨a2,b2,c2,d2⟩,e2⟩:∃t,t=rnds 4 V0:=⟨_,rfl⟩;obtain⟨q1,eq1⟩:∃x,x=a2 ^^^ b2:=⟨_,rfl⟩;obtain⟨q2,eq2⟩:∃x,x=q1 ^^^ c2:=⟨_,rfl⟩;obtain⟨q3,eq3⟩:∃x,x=q2 ^^^ d2:=⟨_,rfl⟩;have hall:Ho ks l=q3:=by
    have hv:(stOf ks l).v=full ks l (u / 8):=by rw[FP,HJ.o,HN.o]
    rw[Ho,finS,<-elw,hv,<-e1,fin,<-ec,<-eV,<-e2,allX,<-eq1,<-eq2,<-eq3]
   have x0:bits .xor .u64 (cc.toNat:Int) 255=(c1.toNat:Int):=by rw[ec];exact Br cc 255#64
   have x1:bits .xor .u64 (a2.toNat:Int) (b2.toNat:Int)=(q1.toNat:Int):=by rw[eq1];exact Br _ _
   have x2:bits .xor .u64 (q1.toNat:Int) (c2.toNat:Int)=(q2.toNat:Int):=by rw[eq2];exact Br _ _
   have x3:bits .xor .u64 (q2.toNat:Int) (d2.toNat:Int)=(q3.toNat:Int):=by rw[eq3];exact Br _ _
   have ct:=Xg g (full ks l (u / 8)) lw wr HB.o;rw[<-e1] at ct;have HALL:=I hall;clear hall;have EV:=I eV;clear eV;have E2:=I e2;clear e2;have HX0:=I x0;clear x0;have HX1:=I x1;clear x1;have HX2:=I x2;clear x2;have HX3:=I x3;clear x3;have HSZ:=I (Blk.lt HB.o);clear e1 ec eq1 eq2 eq3 hmw emw elw hll hu0 ek HJ HU8
   go_upto_region 7 with fail
   go_cut [] from 39 to 50 (fun wx=>Below B w wx/\Blk wx g 235 (Ds ⟨a,b,cc,d⟩))
   case first=>
    have hcu:u=c\/u<c:=by omega
    rcases hcu with hcu | hcu
    ·have cB0:=cB hcu;clear cB
     clear cA;subst hcu
     go_wp2_with (first
      |(go_at_call 125;refine Aj cB0 ?_;rintro w' hw;have hw:=hw.symm;subst hw;clear cB0)
      |(go_at_call 126;refine Aj ct ?_;rintro v1 ⟨hB1,hG1⟩;clear ct;have HB1:=I hB1;have HW1:=I (Av HW.o hG1 (by have:=HSZ.o;have:=HGB.o;omega) HGB.o);clear hB1 hG1))
     go_meet
     exact⟨HW1.o,HB1.o⟩
    ·clear cB
     have hcu2:(u:Int)<(c:Int):=by omega
     go_wp2_with (first
      |(go_at_call 125;refine Aj cA ?_;rintro w' hw;have hw:=hw.symm;subst hw;clear cA)
      |(go_at_call 126;refine Aj ct ?_;rintro v1 ⟨hB1,hG1⟩;clear ct;have HB1:=I hB1;have HW1:=I (Av HW.o hG1 (by have:=HSZ.o;have:=HGB.o;omega) HGB.o);clear hB1 hG1))
     go_meet
     exact⟨HW1.o,HB1.o⟩
   case rest=>
    obtain⟨hW1,hB1⟩:=hcut;have HB1:=I hB1;clear hB1;have HW1:=I hW1;clear hW1;have k2:wc.cell? ⟨g,2,none⟩=some (.int .u64 (cc.toNat:Int)):=by rw[HB1.o.cell];rfl
    have fz:=HB1.o.frozen;have x0:=HX0.o;clear HX0 hand hwk hx1 hx2 cA cB ct
    go_upto_region 8 with fail
    refine wp_region_still_tail 8 (by kernel_rfl) (by kernel_rfl) ?_;simp only[List.take_succ_cons,List.take_zero,List.drop_succ_cons,List.drop_zero];change wpStill _ _ wc.drew _ _ _
    repeat still_step
    refine wpStill_nil ?_;change wpList _ _ _ _ _ wc.drew
    go_upto_region 9 with fail
    have hB2:Blk (wc.setCell ⟨g,2,none⟩ (.int .u64 (c1.toNat:Int))).drew g 235 (Ds V0):=by rw[EV.o];exact Blk.set HB1.o 2 (wv c1)
    have hW2:Below B w (wc.setCell ⟨g,2,none⟩ (.int .u64 (c1.toNat:Int))).drew:=below_drewN (Ay HW1.o HGB.o _) 1;generalize (wc.setCell ⟨g,2,none⟩ (.int .u64 (c1.toNat:Int))).drew=v2 at hB2 hW2⊢;have HB2:=I hB2;clear hB2;have HW2:=I hW2;clear hW2;clear k2 fz x0 HB1 HW1 HSZ HB HW
    go_wp2_with fail
    go_loopw [9] (fun iv wr=>∃i:Nat,i<=4/\iv=.int .i64 (i:Int)/\Below B w wr/\Blk wr g 235 (Ds (rnds i V0))) (fun iv _=>4 - (intOf iv).toNat)
    case atStart=>exact⟨0,by decide,rfl,HW2.o,HB2.o⟩
    case round=>
     obtain⟨i,hi,rfl,hW3,hB3⟩:=hrel;clear HB2 HW2;have HB3:=I hB3;clear hB3;have HW3:=I hW3;clear hW3
     by_cases hi4:i=4
     ·subst hi4
      have hb3:=HB3.o;rw[<-E2.o] at hb3;have k0:wr.cell? ⟨g,0,none⟩=some (.int .u64 (a2.toNat:Int)):=by rw[hb3.cell];rfl
      have k1:wr.cell? ⟨g,1,none⟩=some (.int .u64 (b2.toNat:Int)):=by rw[hb3.cell];rfl
      have k2:wr.cell? ⟨g,2,none⟩=some (.int .u64 (c2.toNat:Int)):=by rw[hb3.cell];rfl
      have k3:wr.cell? ⟨g,3,none⟩=some (.int .u64 (d2.toNat:Int)):=by rw[hb3.cell];rfl
      have x1:=HX1.o;have x2:=HX2.o;have x3:=HX3.o;clear hb3
      go_upto_region 13 with fail
      refine wp_region_still_lit (by kernel_rfl) (by kernel_rfl) ?_;change wpStill _ _ wr.drew _ _ _
      repeat still_step
      refine wpStill_nil ?_
      try change _ wr.drew
      go_wp2_with fail
      go_ret;exact⟨by rw[HALL.o];rfl,by rw[<-EB.o];exact below_drewN HW3.o 1⟩
     ·have j1:(i:Int)<4:=by omega
      have j2:(0:Int)<=(i:Int):=by omega
      have cr:=Ok g (rnds i V0) wr HB3.o;have HSZ:=I (Blk.lt HB3.o);have HI4:=I hi4;clear hi4
      go_wp2_with (go_at_call 127;refine Aj cr ?_;rintro v4 ⟨hB4,hG4⟩;clear cr;have HB4:=I hB4;have HG4:=I hG4;clear hB4 hG4)
      go_roundw
      case rel=>exact⟨i+1,by have:=HI4.o;omega,by go_num,Av HW3.o HG4.o (by have:=HSZ.o;have:=HGB.o;omega) HGB.o,HB4.o⟩
      case measure=>simp [intOf];omega
  ·have t1:(8:Int)<=(n:Int) - (u:Int):=by omega
   have t2:(u:Int)+8<=(n:Int):=by omega
   have t3:u+8<=n:=by omega
   have HX:=I hx;clear hx;have hj:(u+8) / 8=u / 8+1:=by omega
   have hu0:u=8*(u / 8):=by have:=HU8.o;omega
   have hl8:((l.drop u).take 8).length=8:=by rw[List.length_take,List.length_drop,<-HN.o];omega
   have cA:=MX (some (x.add u)) 8 (c - u) ((l.drop u).take 8) wr B hl8.symm (by decide) (Rd.take (Rd.drop (HR.o.below HW.o) u) 8);obtain⟨mw,emw⟩:∃m,m=wd (BH ((l.drop u).take 8)):=⟨_,rfl⟩;rw[<-emw] at cA;have hfull:addM (full ks l (u / 8)) mw=full ks l ((u+8) / 8):=by rw[hj,full,<-hu0,<-emw]
   have ct:=Xg g (full ks l (u / 8)) mw wr HB.o;rw[hfull] at ct;have HSZ:=I (Blk.lt HB.o);clear hj hu0 hl8 emw hfull
   go_wp2_with (first
    |(go_at_call 125;refine Aj cA ?_;rintro w' hw;have hw:=hw.symm;subst hw;clear cA)
    |(go_at_call 126;refine Aj ct ?_;rintro v1 ⟨hB1,hG1⟩;clear ct;have HB1:=I hB1;have HW1:=I (Av HW.o hG1 (by have:=HSZ.o;have:=HGB.o;omega) HGB.o);clear hB1 hG1))
   go_roundw
   case rel=>exact⟨u+8,by omega,by have:=HU8.o;omega,by go_num,HW1.o,HB1.o⟩
   case measure=>simp [intOf];omega
theorem RG (ks:Nat->UInt8) (n c:Nat) (l:List UInt8) (w:World) (hn:n=l.length) (hl:n<=100000) (hc:n<=c) (hm:c<=maxLen) (h0:n=0) :
  Calls Tryz.prog 79 #[.agg (AI ks),.slice none n c] w fun e w'=>e=.returned (wv (Ho ks l))/\Below w.heap.size w w':=by
 obtain⟨B,eB⟩:=Ak (w.heap.size);have EB:=I eB;have H0:=I h0;clear h0;have HN:=I hn;clear hn;have hkk:AI ks=#[.int .u8 ((ks 0).toNat:Int),.int .u8 ((ks 1).toNat:Int),.int .u8 ((ks 2).toNat:Int),.int .u8 ((ks 3).toNat:Int),.int .u8 ((ks 4).toNat:Int),.int .u8 ((ks 5).toNat:Int),.int .u8 ((ks 6).toNat:Int),.int .u8 ((ks 7).toNat:Int),.int .u8 ((ks 8).toNat:Int),.int .u8 ((ks 9).toNat:Int),.int .u8 ((ks 10).toNat:Int),.int .u8 ((ks 11).toNat:Int),.int .u8 ((ks 12).toNat:Int),.int .u8 ((ks 13).toNat:Int),.int .u8 ((ks 14).toNat:Int),.int .u8 ((ks 15).toNat:Int)]:=rfl;have hsz:stcV ks=#[wv (start ks).a,wv (start ks).b,wv (start ks).c,wv (start ks).d]:=rfl;obtain⟨p,ep⟩:∃x,x=kA ks:=⟨_,rfl⟩;obtain⟨q,eq⟩:∃x,x=kB ks:=⟨_,rfl⟩;obtain⟨v0,e0⟩:∃x,x=0x736f6d6570736575#64 ^^^ p:=⟨_,rfl⟩;obtain⟨v1,e1⟩:∃x,x=0x646f72616e646f6d#64 ^^^ q:=⟨_,rfl⟩;obtain⟨v2,e2⟩:∃x,x=0x6c7967656e657261#64 ^^^ p:=⟨_,rfl⟩;obtain⟨v3,e3⟩:∃x,x=0x7465646279746573#64 ^^^ q:=⟨_,rfl⟩;have x0:bits .xor .u64 8317987319222330741 (p.toNat:Int)=(v0.toNat:Int):=by rw[e0];exact Br 0x736f6d6570736575#64 p
 have x1:bits .xor .u64 7237128888997146477 (q.toNat:Int)=(v1.toNat:Int):=by rw[e1];exact Br 0x646f72616e646f6d#64 q
 have x2:bits .xor .u64 7816392313619706465 (p.toNat:Int)=(v2.toNat:Int):=by rw[e2];exact Br 0x6c7967656e657261#64 p
 have x3:bits .xor .u64 8387220255154660723 (q.toNat:Int)=(v3.toNat:Int):=by rw[e3];exact Br 0x7465646279746573#64 q
 have hs:stcV ks=#[.int .u64 (v0.toNat:Int),.int .u64 (v1.toNat:Int),.int .u64 (v2.toNat:Int),.int .u64 (v3.toNat:Int)]:=by
  rw[hsz,e0,e1,e2,e3,ep,eq];rfl
 have HS:=I hs;clear hs;obtain⟨kz,ekz⟩:=Ak (AI ks);rw[<-ekz];have EKZ:=I ekz;have hK:Blk (w.alloc (.cells kz 168)) B 168 (AI ks):=Blk.new_of w B _ _ _ ekz eB.symm;have hW:Below B w (w.alloc (.cells kz 168)):=by rw[eB];exact(Below.refl _ w).alloc Ag _
 clear hsz e0 e1 e2 e3;have cA:=VR (hK.drewN 1);have cB:=VS (hK.drewN 1);rw[<-ep] at cA;rw[<-eq] at cB;have HW:=I hW;clear hW;clear hkk ekz ep eq hK;go_enter Tryz.func79,Tryz.ntmps79
 go_upto_region 1 with fail
 rw[<-eB];clear eB;have HM:=I hm;clear hm;generalize w.alloc (.cells kz 168)=w1 at cA cB HW⊢;refine wp_region_still_lit (by kernel_rfl) (by kernel_rfl) ?_;change wpStill _ _ w1.drew _ _ _
 repeat still_step
 still_call cA
 repeat still_step
 still_call cB
 repeat still_step
 refine wpStill_nil ?_
 try change _ w1.drew
 clear cA cB
 go_upto_region 3 with fail
 obtain⟨g,eg⟩:=Ak (w1.heap.size);have hB0:Blk (w1.alloc (.cells #[.int .u64 (v0.toNat:Int),.int .u64 (v1.toNat:Int),.int .u64 (v2.toNat:Int),.int .u64 (v3.toNat:Int)] 235)).drew g 235 (Ds (full ks l (0 / 8))):=Blk.drewN (Blk.new_of w1 g _ _ _ HS.o.symm eg.symm) 1;have hW0:Below B w (w1.alloc (.cells #[.int .u64 (v0.toNat:Int),.int .u64 (v1.toNat:Int),.int .u64 (v2.toNat:Int),.int .u64 (v3.toNat:Int)] 235)).drew:=below_drewN (HW.o.alloc (by rw[EB.o];exact HW.o.size) _) 1;have hg:B<=g:=by rw[eg,EB.o];exact HW.o.size
 rw[<-eg];generalize (w1.alloc (.cells #[.int .u64 (v0.toNat:Int),.int .u64 (v1.toNat:Int),.int .u64 (v2.toNat:Int),.int .u64 (v3.toNat:Int)] 235)).drew=w2 at hB0 hW0⊢;have HB0:=I hB0;clear hB0;have HW0:=I hW0;clear hW0;have HGB:=I hg;clear hg;clear HS HW eg x0 x1 x2 x3;have l5:(n:Int)<=100000:=by omega
 have c0:(n:Int)<=(c:Int):=by omega
 have hcm:c<=9223372036854775807:=by have:=HM.o;unfold maxLen at this;omega
 have hcm2:(c:Int)<=9223372036854775807:=by omega
 go_wp2_with fail
 go_loopw [8] (fun iv wr=>∃u:Nat,u<=n/\u % 8=0/\iv=.int .i64 (u:Int)/\Below B w wr/\Blk wr g 235 (Ds (full ks l (u / 8)))) (fun iv _=>n - (intOf iv).toNat)
 case atStart=>exact⟨0,Nat.zero_le _,rfl,rfl,HW0.o,HB0.o⟩
 case round=>
  clear HB0 HW0;obtain⟨u,hu,hu8,rfl,hW,hB⟩:=hrel;have HW:=I hW;clear hW;have HB:=I hB;clear hB;have HU8:=I hu8;clear hu8;have d0:(0:Int)<=(u:Int):=by omega
  have d1:(u:Int)<=(n:Int):=by omega
  by_cases hx:n - u<8
  ·have hj:u / 8=n / 8:=by have:=HU8.o;omega
   have t1:(n:Int) - (u:Int)<8:=by omega
   have HX:=I hx;clear hx;have HJ:=I hj;clear hj;obtain⟨k,ek⟩:=Ak (n % 256);have hand:bits .and .i64 (n:Int) 255=(k:Int):=by rw[RB,ek];omega
   have k1:(k:Int)<256:=by omega
   have k2:(0:Int)<=(k:Int):=by omega
   have hwk:IntKind.u64.wrap (k:Int)=(k:Int):=by rw[IntKind.wrap_u64];omega
   have hu0:u=8*(l.length / 8):=by have:=HU8.o;have:=HN.o;have:=HX.o;omega
   have hll:(l.drop u).length=n - u:=by rw[List.length_drop,HN.o]
   obtain⟨mw,emw⟩:∃m,m=wd (BH (l.drop u)):=⟨_,rfl⟩;obtain⟨lw,elw⟩:∃m,m=PI (stOf ks l):=⟨_,rfl⟩;have hmw:mw.toNat=BH (l.drop u):=by rw[emw];exact JU _ (KL (by have:=HX.o;omega))
   have hx1:bits .or .u64 (mw.toNat:Int) (IntKind.u64.wrap ((k:Int)*72057594037927936))=(lw.toNat:Int):=by
    have h:=RE ks l;rw[<-hu0,<-hmw,<-HN.o,<-ek,<-elw] at h;exact h
   have hx2:bits .or .u64 (mw.toNat:Int) ((k:Int)*72057594037927936)=(lw.toNat:Int):=by
    rw[<-hx1,IntKind.wrap_u64];congr 1;omega
   have cA:=MX none (n - u) (c - u) (l.drop u) wr B hll.symm (by have:=HX.o;omega) (.inl (by rw[List.eq_nil_of_length_eq_zero (l:=l.drop u) (by have:=H0.o;omega)];rfl));have cB:u=c->Calls Tryz.prog 125 #[.slice none 0 0] wr fun e w'=>e=.returned (wv (wd (BH (l.drop u))))/\w'=wr:=fun h=>MX none 0 0 (l.drop u) wr B (by omega) (by decide) (.inl (by rw[List.eq_nil_of_length_eq_zero (l:=l.drop u) (by omega)];rfl))
   rw[<-emw] at cA;rw[<-emw] at cB;obtain⟨⟨a,b,cc,d⟩,e1⟩:∃t,t=addM (full ks l (u / 8)) lw:=⟨_,rfl⟩;obtain⟨c1,ec⟩:∃x,x=cc ^^^ 255#64:=⟨_,rfl⟩;obtain⟨V0,eV⟩:∃x:V,x=⟨a,b,c1,d⟩:=⟨_,rfl⟩;obtain⟨⟨a2,b2,c2,d2⟩,e2⟩:∃t,t=rnds 4 V0:=⟨_,rfl⟩;obtain⟨q1,eq1⟩:∃x,x=a2 ^^^ b2:=⟨_,rfl⟩;obtain⟨q2,eq2⟩:∃x,x=q1 ^^^ c2:=⟨_,rfl⟩;obtain⟨q3,eq3⟩:∃x,x=q2 ^^^ d2:=⟨_,rfl⟩;have hall:Ho ks l=q3:=by
    have hv:(stOf ks l).v=full ks l (u / 8):=by rw[FP,HJ.o,HN.o]
    rw[Ho,finS,<-elw,hv,<-e1,fin,<-ec,<-eV,<-e2,allX,<-eq1,<-eq2,<-eq3]
   have x0:bits .xor .u64 (cc.toNat:Int) 255=(c1.toNat:Int):=by rw[ec];exact Br cc 255#64
   have x1:bits .xor .u64 (a2.toNat:Int) (b2.toNat:Int)=(q1.toNat:Int):=by rw[eq1];exact Br _ _
   have x2:bits .xor .u64 (q1.toNat:Int) (c2.toNat:Int)=(q2.toNat:Int):=by rw[eq2];exact Br _ _
   have x3:bits .xor .u64 (q2.toNat:Int) (d2.toNat:Int)=(q3.toNat:Int):=by rw[eq3];exact Br _ _
   have ct:=Xg g (full ks l (u / 8)) lw wr HB.o;rw[<-e1] at ct;have HALL:=I hall;clear hall;have EV:=I eV;clear eV;have E2:=I e2;clear e2;have HX0:=I x0;clear x0;have HX1:=I x1;clear x1;have HX2:=I x2;clear x2;have HX3:=I x3;clear x3;have HSZ:=I (Blk.lt HB.o);clear e1 ec eq1 eq2 eq3 hmw emw elw hll hu0 ek HJ HU8
   go_upto_region 7 with fail
   go_cut [] from 39 to 50 (fun wx=>Below B w wx/\Blk wx g 235 (Ds ⟨a,b,cc,d⟩))
   case first=>
    have hcu:u=c\/u<c:=by omega
    rcases hcu with hcu | hcu
    ·have cB0:=cB hcu;clear cB
     clear cA;subst hcu
     go_wp2_with (first
      |(go_at_call 125;refine Aj cB0 ?_;rintro w' hw;have hw:=hw.symm;subst hw;clear cB0)
      |(go_at_call 126;refine Aj ct ?_;rintro v1 ⟨hB1,hG1⟩;clear ct;have HB1:=I hB1;have HW1:=I (Av HW.o hG1 (by have:=HSZ.o;have:=HGB.o;omega) HGB.o);clear hB1 hG1))
     go_meet
     exact⟨HW1.o,HB1.o⟩
    ·clear cB
     have hcu2:(u:Int)<(c:Int):=by omega
     go_wp2_with (first
      |(go_at_call 125;refine Aj cA ?_;rintro w' hw;have hw:=hw.symm;subst hw;clear cA)
      |(go_at_call 126;refine Aj ct ?_;rintro v1 ⟨hB1,hG1⟩;clear ct;have HB1:=I hB1;have HW1:=I (Av HW.o hG1 (by have:=HSZ.o;have:=HGB.o;omega) HGB.o);clear hB1 hG1))
     go_meet
     exact⟨HW1.o,HB1.o⟩
   case rest=>
    obtain⟨hW1,hB1⟩:=hcut;have HB1:=I hB1;clear hB1;have HW1:=I hW1;clear hW1;have k2:wc.cell? ⟨g,2,none⟩=some (.int .u64 (cc.toNat:Int)):=by rw[HB1.o.cell];rfl
    have fz:=HB1.o.frozen;have x0:=HX0.o;clear HX0 hand hwk hx1 hx2 cA cB ct
    go_upto_region 8 with fail
    refine wp_region_still_tail 8 (by kernel_rfl) (by kernel_rfl) ?_;simp only[List.take_succ_cons,List.take_zero,List.drop_succ_cons,List.drop_zero];change wpStill _ _ wc.drew _ _ _
    repeat still_step
    refine wpStill_nil ?_;change wpList _ _ _ _ _ wc.drew
    go_upto_region 9 with fail
    have hB2:Blk (wc.setCell ⟨g,2,none⟩ (.int .u64 (c1.toNat:Int))).drew g 235 (Ds V0):=by rw[EV.o];exact Blk.set HB1.o 2 (wv c1)
    have hW2:Below B w (wc.setCell ⟨g,2,none⟩ (.int .u64 (c1.toNat:Int))).drew:=below_drewN (Ay HW1.o HGB.o _) 1;generalize (wc.setCell ⟨g,2,none⟩ (.int .u64 (c1.toNat:Int))).drew=v2 at hB2 hW2⊢;have HB2:=I hB2;clear hB2;have HW2:=I hW2;clear hW2;clear k2 fz x0 HB1 HW1 HSZ HB HW
    go_wp2_with fail
    go_loopw [9] (fun iv wr=>∃i:Nat,i<=4/\iv=.int .i64 (i:Int)/\Below B w wr/\Blk wr g 235 (Ds (rnds i V0))) (fun iv _=>4 - (intOf iv).toNat)
    case atStart=>exact⟨0,by decide,rfl,HW2.o,HB2.o⟩
    case round=>
     obtain⟨i,hi,rfl,hW3,hB3⟩:=hrel;clear HB2 HW2;have HB3:=I hB3;clear hB3;have HW3:=I hW3;clear hW3
     by_cases hi4:i=4
     ·subst hi4
      have hb3:=HB3.o;rw[<-E2.o] at hb3;have k0:wr.cell? ⟨g,0,none⟩=some (.int .u64 (a2.toNat:Int)):=by rw[hb3.cell];rfl
      have k1:wr.cell? ⟨g,1,none⟩=some (.int .u64 (b2.toNat:Int)):=by rw[hb3.cell];rfl
      have k2:wr.cell? ⟨g,2,none⟩=some (.int .u64 (c2.toNat:Int)):=by rw[hb3.cell];rfl
      have k3:wr.cell? ⟨g,3,none⟩=some (.int .u64 (d2.toNat:Int)):=by rw[hb3.cell];rfl
      have x1:=HX1.o;have x2:=HX2.o;have x3:=HX3.o;clear hb3
      go_upto_region 13 with fail
      refine wp_region_still_lit (by kernel_rfl) (by kernel_rfl) ?_;change wpStill _ _ wr.drew _ _ _
      repeat still_step
      refine wpStill_nil ?_
      try change _ wr.drew
      go_wp2_with fail
      go_ret;exact⟨by rw[HALL.o];rfl,by rw[<-EB.o];exact below_drewN HW3.o 1⟩
     ·have j1:(i:Int)<4:=by omega
      have j2:(0:Int)<=(i:Int):=by omega
      have cr:=Ok g (rnds i V0) wr HB3.o;have HSZ:=I (Blk.lt HB3.o);have HI4:=I hi4;clear hi4
      go_wp2_with (go_at_call 127;refine Aj cr ?_;rintro v4 ⟨hB4,hG4⟩;clear cr;have HB4:=I hB4;have HG4:=I hG4;clear hB4 hG4)
      go_roundw
      case rel=>exact⟨i+1,by have:=HI4.o;omega,by go_num,Av HW3.o HG4.o (by have:=HSZ.o;have:=HGB.o;omega) HGB.o,HB4.o⟩
      case measure=>simp [intOf];omega
  ·have t1:(8:Int)<=(n:Int) - (u:Int):=by omega
   exact absurd H0.o (by omega)
theorem Ux (ks:Nat->UInt8) (A:Option Addr) (n c:Nat) (l:List UInt8) (w:World) (hn:n=l.length) (hl:n<=100000) (hc:n<=c) (hm:c<=maxLen) (hr:Rd w w.heap.size A (bvs l)) :
  Calls Tryz.prog 79 #[.agg (AI ks),.slice A n c] w fun e w'=>e=.returned (wv (Ho ks l))/\Below w.heap.size w w':=by
 cases A with
 |some x=>exact RF ks x n c l w hn hl hc hm hr
 |none=>
  refine RG ks n c l w hn hl hc hm ?_;rcases hr with h | ⟨b,o,h1,_,_⟩
  ·rw[hn,List.map_eq_nil_iff.1 h];rfl
  ·cases h1
theorem BP:(Tryz.prog.info? 5).map (fun i=>(i.zero,i.size,i.bytes))=some (some (.int .u8 0),1,1):=by kernel_rfl
theorem FO (w:World) (t:TypeId) (cs:Array Value) (l:List Value) (h:cs.toList=l) (N:Nat) (hN:w.heap.size=N):Rd (w.alloc (.cells cs t)) (N+1) (some ⟨N,0,none⟩) l:=by
 subst hN;refine .inr ⟨w.heap.size,0,rfl,by omega,fun i u hu=>?_⟩;rw[Nat.zero_add,(Blk.new w t cs).cell i];rw[<-h] at hu
 simpa using hu
theorem DF {w w':World} {base:Nat} {t:TypeId} {v:Value} {n:Nat} {xs:List Value} {o:Obj} (h:w.ownsRow base t 1 v n xs) (e:w'.heap=w.heap.push o):w'.ownsRow base t 1 v n xs:=by
 obtain⟨hl,h | ⟨g,cap,cur,hv,hg,hcur,hr⟩⟩:=h
 ·exact⟨hl,.inl h⟩
 ·refine⟨hl,.inr ⟨g,cap,cur,hv,hg,?_,hr⟩⟩
  have hlt:=Blk.lt (t:=t) (cs:=cur) hcur;rw[e,Array.getElem?_push_lt hlt,<-Array.getElem?_eq_getElem hlt];exact hcur
theorem PO {w:World} (t:TypeId) (vs:List Value) (rows:List (List UInt8)) (cs:Array Value) (hc:cs.toList=vs) (hl:vs.length=rows.length)
  (h:∀i (h:i<rows.length),∃(Ai:Option Addr) (ci:Nat),vs[i]? = some (.slice Ai (rows[i]).length ci)/\Rd w w.heap.size Ai (bvs rows[i])):Rows (w.alloc (.cells cs t)) (w.alloc (.cells cs t)).heap.size (some ⟨w.heap.size,0,none⟩) rows:=by
 refine⟨vs,hl,(FO w t cs vs hc w.heap.size rfl).more (by simp),fun i hi=>?_⟩;obtain⟨Ai,ci,h1,h2⟩:=h i hi;exact⟨Ai,ci,h1,(h2.alloc Ag _).more (by simp)⟩
def cnt (n:Nat):List UInt8:=(List.range n).map UInt8.ofNat
end Si
end Go.Proofs.YtlchkbpffaclmaaGreat
