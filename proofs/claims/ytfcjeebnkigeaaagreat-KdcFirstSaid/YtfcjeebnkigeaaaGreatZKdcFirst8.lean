import Derived.Test.YtfcjeebnkigeaaaGreatZKdcFirst7
set_option maxHeartbeats 25600000
set_option maxRecDepth 100000
set_option linter.unusedVariables false
set_option linter.unusedSimpArgs false
namespace Go.Proofs.YtfcjeebnkigeaaaGreat
section
namespace Si
open Go.RowKit Af
def stc (s:St):Array Value:=Iu s.v (.int .u64 (s.r:Int)) (.int .u64 (s.n:Int))
theorem Mj (g:Nat) (s:St) (y:UInt8) (w:World) (hn:s.n<100000) (hr:s.r<256 ^ (s.n % 8)) (hB:Blk w g 361 (stc s)) :
  Calls Tryz.prog 283 #[.pointer (some ⟨g,0,none⟩),.int .u8 (y.toNat:Int)] w fun e w'=>e = .returned (.tuple #[])∧Blk w' g 361 (stc (addB s y))∧w.grownBy w' (some g):=by
 obtain⟨⟨a,b,c,d⟩,r,n⟩:=s;have hn:n<100000:=hn;have hr:r<256 ^ (n % 8):=hr;obtain⟨r2,e2⟩:∃x,x=r+y.toNat*256 ^ (n % 8):=⟨_,rfl⟩;have hx:∀K:Int,K=((256 ^ (n % 8):Nat):Int)→bits .or .u64 (r:Int) (IntKind.u64.wrap ((y.toNat:Int)*K))=(r2:Int):=fun K hK=>by
  rw[e2];refine Ke r y (n % 8) (by omega) hr _ ?_;have h1:=TD (n % 8) (by omega);have h2:=y.toNat_lt;have h3:y.toNat*256 ^ (n % 8)≤255*72057594037927936:=Nat.mul_le_mul (by omega) h1;rw[hK,IntKind.wrap_u64,←Int.natCast_mul];omega
 have hr2:r2<18446744073709551616:=by
  have h1:=NA r y (n % 8) hr;have h2:(256:Nat) ^ (n % 8+1)≤256 ^ 8:=Nat.pow_le_pow_right (by decide) (by omega);have h3:(256:Nat) ^ 8=18446744073709551616:=by decide
  omega
 have hin:¬(n+1) % 8=0→stc (addB ⟨⟨a,b,c,d⟩,r,n⟩ y)=#[wv a,wv b,wv c,wv d,.int .u64 (r2:Int),.int .u64 ((n:Int)+1)]:=fun h=>by
  rw[QI _ _ h,e2]
  rfl
 have hend:(n+1) % 8=0→stc (addB ⟨⟨a,b,c,d⟩,r,n⟩ y)=Iu (addM ⟨a,b,c,d⟩ (wd r2)) (.int .u64 0) (.int .u64 ((n:Int)+1)):=fun h=>by
  rw[Nz _ _ h,e2]
  rfl
 have HIN:=I hin;clear hin;have HEND:=I hend;clear hend;have HR2:=I hr2;clear hr2;have hy:IntKind.u64.wrap (y.toNat:Int)=(y.toNat:Int):=by rw[IntKind.wrap_u64];have:=y.toNat_lt;omega
 have fz:=hB.frozen;have k4:w.cell? ⟨g,4,none⟩=some (.int .u64 (r:Int)):=by rw[hB.cell];rfl
 have k5:w.cell? ⟨g,5,none⟩=some (.int .u64 (n:Int)):=by rw[hB.cell];rfl
 have HB:=I (show Blk w g 361 #[wv a,wv b,wv c,wv d,.int .u64 (r:Int),.int .u64 (n:Int)] from hB);clear hB;have HG:=I (World.grownBy.refl w (some g));have HN:=I hn;clear e2 hr;have hk:n % 8=0∨n % 8=1∨n % 8=2∨n % 8=3∨n % 8=4∨n % 8=5∨n % 8=6∨n % 8=7:=by omega
 have n0:(0:Int)≤(n:Int):=by omega
 have n1:(n:Int)<100000:=by omega
 clear hn;rcases hk with hk | hk | hk | hk | hk | hk | hk | hk
 ·have hx:=hx 1 (by rw[hk];decide)
  rw[Int.mul_one,hy] at hx;have m1:(n:Int).tmod 8=0:=by rw[Int.tmod_eq_emod_of_nonneg n0];omega
  have m2:((n:Int)+1).tmod 8=1:=by rw[Int.tmod_eq_emod_of_nonneg (by omega)];omega
  have m3:n % 8=0:=hk;have hw:IntKind.u64.wrap 0=0:=by kernel_rfl
  have m4:(n:Int) % 8=0:=by omega
  have m5:(n+1) % 8=1:=by omega
  have M5:=I m5;clear m5;clear hk;go_enter Tryz.func283,Tryz.ntmps283
  go_upto_region 0 with fail
  refine wp_region_still_tail 16 (by kernel_rfl) (by kernel_rfl) ?_;simp only[List.take_succ_cons,List.take_zero,List.drop_succ_cons,List.drop_zero];change wpStill _ _ w.drew _ _ _
  repeat still_step
  refine wpStill_nil ?_;change wpList _ _ _ _ _ w.drew
  go_upto_region 1 with fail
  have hB1:Blk (w.setCell ⟨g,4,none⟩ (.int .u64 (r2:Int))).drew g 361 #[wv a,wv b,wv c,wv d,.int .u64 (r2:Int),.int .u64 (n:Int)]:=Blk.set HB.o 4 (.int .u64 (r2:Int));have hG1:w.grownBy (w.setCell ⟨g,4,none⟩ (.int .u64 (r2:Int))).drew (some g):=AQ (Ay HG.o (.inl rfl) _);generalize (w.setCell ⟨g,4,none⟩ (.int .u64 (r2:Int))).drew=v1 at hB1 hG1⊢;clear fz k4 k5 HB HG hx m1 m3 m4 hw hy;have fz:=hB1.frozen;have k5:v1.cell? ⟨g,5,none⟩=some (.int .u64 (n:Int)):=by rw[hB1.cell];rfl
  have HB1:=I hB1;clear hB1;have HG1:=I hG1;clear hG1
  go_upto_region 2 with fail
  have hB2:Blk (v1.setCell ⟨g,5,none⟩ (.int .u64 ((n:Int)+1))) g 361 #[wv a,wv b,wv c,wv d,.int .u64 (r2:Int),.int .u64 ((n:Int)+1)]:=Blk.set HB1.o 5 (.int .u64 ((n:Int)+1));have hG2:w.grownBy (v1.setCell ⟨g,5,none⟩ (.int .u64 ((n:Int)+1))) (some g):=Ay HG1.o (.inl rfl) _;generalize (v1.setCell ⟨g,5,none⟩ (.int .u64 ((n:Int)+1)))=v2 at hB2 hG2⊢;clear fz k5 HB1 HG1;have fz:=hB2.frozen;have k4:v2.cell? ⟨g,4,none⟩=some (.int .u64 (r2:Int)):=by rw[hB2.cell];rfl
  have k5:v2.cell? ⟨g,5,none⟩=some (.int .u64 ((n:Int)+1)):=by rw[hB2.cell];rfl
  have HB2:=I hB2;clear hB2;have HG2:=I hG2;clear hG2
  go_wp2_with fail
  go_end0
  exact⟨rfl,by rw[HIN.o (by have:=M5.o;omega)];exact HB2.o,HG2.o⟩
 ·have hx:=hx 256 (by rw[hk];decide)
  have m1:(n:Int).tmod 8=1:=by rw[Int.tmod_eq_emod_of_nonneg n0];omega
  have m2:((n:Int)+1).tmod 8=2:=by rw[Int.tmod_eq_emod_of_nonneg (by omega)];omega
  have m3:n % 8=1:=hk;have hw:IntKind.u64.wrap 8=8:=by kernel_rfl
  have m4:(n:Int) % 8=1:=by omega
  have m5:(n+1) % 8=2:=by omega
  have M5:=I m5;clear m5;clear hk;go_enter Tryz.func283,Tryz.ntmps283
  go_upto_region 0 with fail
  refine wp_region_still_tail 16 (by kernel_rfl) (by kernel_rfl) ?_;simp only[List.take_succ_cons,List.take_zero,List.drop_succ_cons,List.drop_zero];change wpStill _ _ w.drew _ _ _
  repeat still_step
  refine wpStill_nil ?_;change wpList _ _ _ _ _ w.drew
  go_upto_region 1 with fail
  have hB1:Blk (w.setCell ⟨g,4,none⟩ (.int .u64 (r2:Int))).drew g 361 #[wv a,wv b,wv c,wv d,.int .u64 (r2:Int),.int .u64 (n:Int)]:=Blk.set HB.o 4 (.int .u64 (r2:Int));have hG1:w.grownBy (w.setCell ⟨g,4,none⟩ (.int .u64 (r2:Int))).drew (some g):=AQ (Ay HG.o (.inl rfl) _);generalize (w.setCell ⟨g,4,none⟩ (.int .u64 (r2:Int))).drew=v1 at hB1 hG1⊢;clear fz k4 k5 HB HG hx m1 m3 m4 hw hy;have fz:=hB1.frozen;have k5:v1.cell? ⟨g,5,none⟩=some (.int .u64 (n:Int)):=by rw[hB1.cell];rfl
  have HB1:=I hB1;clear hB1;have HG1:=I hG1;clear hG1
  go_upto_region 2 with fail
  have hB2:Blk (v1.setCell ⟨g,5,none⟩ (.int .u64 ((n:Int)+1))) g 361 #[wv a,wv b,wv c,wv d,.int .u64 (r2:Int),.int .u64 ((n:Int)+1)]:=Blk.set HB1.o 5 (.int .u64 ((n:Int)+1));have hG2:w.grownBy (v1.setCell ⟨g,5,none⟩ (.int .u64 ((n:Int)+1))) (some g):=Ay HG1.o (.inl rfl) _;generalize (v1.setCell ⟨g,5,none⟩ (.int .u64 ((n:Int)+1)))=v2 at hB2 hG2⊢;clear fz k5 HB1 HG1;have fz:=hB2.frozen;have k4:v2.cell? ⟨g,4,none⟩=some (.int .u64 (r2:Int)):=by rw[hB2.cell];rfl
  have k5:v2.cell? ⟨g,5,none⟩=some (.int .u64 ((n:Int)+1)):=by rw[hB2.cell];rfl
  have HB2:=I hB2;clear hB2;have HG2:=I hG2;clear hG2
  go_wp2_with fail
  go_end0
  exact⟨rfl,by rw[HIN.o (by have:=M5.o;omega)];exact HB2.o,HG2.o⟩
 ·have hx:=hx 65536 (by rw[hk];decide)
  have m1:(n:Int).tmod 8=2:=by rw[Int.tmod_eq_emod_of_nonneg n0];omega
  have m2:((n:Int)+1).tmod 8=3:=by rw[Int.tmod_eq_emod_of_nonneg (by omega)];omega
  have m3:n % 8=2:=hk;have hw:IntKind.u64.wrap 16=16:=by kernel_rfl
  have m4:(n:Int) % 8=2:=by omega
  have m5:(n+1) % 8=3:=by omega
  have M5:=I m5;clear m5;clear hk;go_enter Tryz.func283,Tryz.ntmps283
  go_upto_region 0 with fail
  refine wp_region_still_tail 16 (by kernel_rfl) (by kernel_rfl) ?_;simp only[List.take_succ_cons,List.take_zero,List.drop_succ_cons,List.drop_zero];change wpStill _ _ w.drew _ _ _
  repeat still_step
  refine wpStill_nil ?_;change wpList _ _ _ _ _ w.drew
  go_upto_region 1 with fail
  have hB1:Blk (w.setCell ⟨g,4,none⟩ (.int .u64 (r2:Int))).drew g 361 #[wv a,wv b,wv c,wv d,.int .u64 (r2:Int),.int .u64 (n:Int)]:=Blk.set HB.o 4 (.int .u64 (r2:Int));have hG1:w.grownBy (w.setCell ⟨g,4,none⟩ (.int .u64 (r2:Int))).drew (some g):=AQ (Ay HG.o (.inl rfl) _);generalize (w.setCell ⟨g,4,none⟩ (.int .u64 (r2:Int))).drew=v1 at hB1 hG1⊢;clear fz k4 k5 HB HG hx m1 m3 m4 hw hy;have fz:=hB1.frozen;have k5:v1.cell? ⟨g,5,none⟩=some (.int .u64 (n:Int)):=by rw[hB1.cell];rfl
  have HB1:=I hB1;clear hB1;have HG1:=I hG1;clear hG1
  go_upto_region 2 with fail
  have hB2:Blk (v1.setCell ⟨g,5,none⟩ (.int .u64 ((n:Int)+1))) g 361 #[wv a,wv b,wv c,wv d,.int .u64 (r2:Int),.int .u64 ((n:Int)+1)]:=Blk.set HB1.o 5 (.int .u64 ((n:Int)+1));have hG2:w.grownBy (v1.setCell ⟨g,5,none⟩ (.int .u64 ((n:Int)+1))) (some g):=Ay HG1.o (.inl rfl) _;generalize (v1.setCell ⟨g,5,none⟩ (.int .u64 ((n:Int)+1)))=v2 at hB2 hG2⊢;clear fz k5 HB1 HG1;have fz:=hB2.frozen;have k4:v2.cell? ⟨g,4,none⟩=some (.int .u64 (r2:Int)):=by rw[hB2.cell];rfl
  have k5:v2.cell? ⟨g,5,none⟩=some (.int .u64 ((n:Int)+1)):=by rw[hB2.cell];rfl
  have HB2:=I hB2;clear hB2;have HG2:=I hG2;clear hG2
  go_wp2_with fail
  go_end0
  exact⟨rfl,by rw[HIN.o (by have:=M5.o;omega)];exact HB2.o,HG2.o⟩
 ·have hx:=hx 16777216 (by rw[hk];decide)
  have m1:(n:Int).tmod 8=3:=by rw[Int.tmod_eq_emod_of_nonneg n0];omega
  have m2:((n:Int)+1).tmod 8=4:=by rw[Int.tmod_eq_emod_of_nonneg (by omega)];omega
  have m3:n % 8=3:=hk;have hw:IntKind.u64.wrap 24=24:=by kernel_rfl
  have m4:(n:Int) % 8=3:=by omega
  have m5:(n+1) % 8=4:=by omega
  have M5:=I m5;clear m5;clear hk;go_enter Tryz.func283,Tryz.ntmps283
  go_upto_region 0 with fail
  refine wp_region_still_tail 16 (by kernel_rfl) (by kernel_rfl) ?_;simp only[List.take_succ_cons,List.take_zero,List.drop_succ_cons,List.drop_zero];change wpStill _ _ w.drew _ _ _
  repeat still_step
  refine wpStill_nil ?_;change wpList _ _ _ _ _ w.drew
  go_upto_region 1 with fail
  have hB1:Blk (w.setCell ⟨g,4,none⟩ (.int .u64 (r2:Int))).drew g 361 #[wv a,wv b,wv c,wv d,.int .u64 (r2:Int),.int .u64 (n:Int)]:=Blk.set HB.o 4 (.int .u64 (r2:Int));have hG1:w.grownBy (w.setCell ⟨g,4,none⟩ (.int .u64 (r2:Int))).drew (some g):=AQ (Ay HG.o (.inl rfl) _);generalize (w.setCell ⟨g,4,none⟩ (.int .u64 (r2:Int))).drew=v1 at hB1 hG1⊢;clear fz k4 k5 HB HG hx m1 m3 m4 hw hy;have fz:=hB1.frozen;have k5:v1.cell? ⟨g,5,none⟩=some (.int .u64 (n:Int)):=by rw[hB1.cell];rfl
  have HB1:=I hB1;clear hB1;have HG1:=I hG1;clear hG1
  go_upto_region 2 with fail
  have hB2:Blk (v1.setCell ⟨g,5,none⟩ (.int .u64 ((n:Int)+1))) g 361 #[wv a,wv b,wv c,wv d,.int .u64 (r2:Int),.int .u64 ((n:Int)+1)]:=Blk.set HB1.o 5 (.int .u64 ((n:Int)+1));have hG2:w.grownBy (v1.setCell ⟨g,5,none⟩ (.int .u64 ((n:Int)+1))) (some g):=Ay HG1.o (.inl rfl) _;generalize (v1.setCell ⟨g,5,none⟩ (.int .u64 ((n:Int)+1)))=v2 at hB2 hG2⊢;clear fz k5 HB1 HG1;have fz:=hB2.frozen;have k4:v2.cell? ⟨g,4,none⟩=some (.int .u64 (r2:Int)):=by rw[hB2.cell];rfl
  have k5:v2.cell? ⟨g,5,none⟩=some (.int .u64 ((n:Int)+1)):=by rw[hB2.cell];rfl
  have HB2:=I hB2;clear hB2;have HG2:=I hG2;clear hG2
  go_wp2_with fail
  go_end0
  exact⟨rfl,by rw[HIN.o (by have:=M5.o;omega)];exact HB2.o,HG2.o⟩
 ·have hx:=hx 4294967296 (by rw[hk];decide)
  have m1:(n:Int).tmod 8=4:=by rw[Int.tmod_eq_emod_of_nonneg n0];omega
  have m2:((n:Int)+1).tmod 8=5:=by rw[Int.tmod_eq_emod_of_nonneg (by omega)];omega
  have m3:n % 8=4:=hk;have hw:IntKind.u64.wrap 32=32:=by kernel_rfl
  have m4:(n:Int) % 8=4:=by omega
  have m5:(n+1) % 8=5:=by omega
  have M5:=I m5;clear m5;clear hk;go_enter Tryz.func283,Tryz.ntmps283
  go_upto_region 0 with fail
  refine wp_region_still_tail 16 (by kernel_rfl) (by kernel_rfl) ?_;simp only[List.take_succ_cons,List.take_zero,List.drop_succ_cons,List.drop_zero];change wpStill _ _ w.drew _ _ _
  repeat still_step
  refine wpStill_nil ?_;change wpList _ _ _ _ _ w.drew
  go_upto_region 1 with fail
  have hB1:Blk (w.setCell ⟨g,4,none⟩ (.int .u64 (r2:Int))).drew g 361 #[wv a,wv b,wv c,wv d,.int .u64 (r2:Int),.int .u64 (n:Int)]:=Blk.set HB.o 4 (.int .u64 (r2:Int));have hG1:w.grownBy (w.setCell ⟨g,4,none⟩ (.int .u64 (r2:Int))).drew (some g):=AQ (Ay HG.o (.inl rfl) _);generalize (w.setCell ⟨g,4,none⟩ (.int .u64 (r2:Int))).drew=v1 at hB1 hG1⊢;clear fz k4 k5 HB HG hx m1 m3 m4 hw hy;have fz:=hB1.frozen;have k5:v1.cell? ⟨g,5,none⟩=some (.int .u64 (n:Int)):=by rw[hB1.cell];rfl
  have HB1:=I hB1;clear hB1;have HG1:=I hG1;clear hG1
  go_upto_region 2 with fail
  have hB2:Blk (v1.setCell ⟨g,5,none⟩ (.int .u64 ((n:Int)+1))) g 361 #[wv a,wv b,wv c,wv d,.int .u64 (r2:Int),.int .u64 ((n:Int)+1)]:=Blk.set HB1.o 5 (.int .u64 ((n:Int)+1));have hG2:w.grownBy (v1.setCell ⟨g,5,none⟩ (.int .u64 ((n:Int)+1))) (some g):=Ay HG1.o (.inl rfl) _;generalize (v1.setCell ⟨g,5,none⟩ (.int .u64 ((n:Int)+1)))=v2 at hB2 hG2⊢;clear fz k5 HB1 HG1;have fz:=hB2.frozen;have k4:v2.cell? ⟨g,4,none⟩=some (.int .u64 (r2:Int)):=by rw[hB2.cell];rfl
  have k5:v2.cell? ⟨g,5,none⟩=some (.int .u64 ((n:Int)+1)):=by rw[hB2.cell];rfl
  have HB2:=I hB2;clear hB2;have HG2:=I hG2;clear hG2
  go_wp2_with fail
  go_end0
  exact⟨rfl,by rw[HIN.o (by have:=M5.o;omega)];exact HB2.o,HG2.o⟩
 ·have hx:=hx 1099511627776 (by rw[hk];decide)
  have m1:(n:Int).tmod 8=5:=by rw[Int.tmod_eq_emod_of_nonneg n0];omega
  have m2:((n:Int)+1).tmod 8=6:=by rw[Int.tmod_eq_emod_of_nonneg (by omega)];omega
  have m3:n % 8=5:=hk;have hw:IntKind.u64.wrap 40=40:=by kernel_rfl
  have m4:(n:Int) % 8=5:=by omega
  have m5:(n+1) % 8=6:=by omega
  have M5:=I m5;clear m5;clear hk;go_enter Tryz.func283,Tryz.ntmps283
  go_upto_region 0 with fail
  refine wp_region_still_tail 16 (by kernel_rfl) (by kernel_rfl) ?_;simp only[List.take_succ_cons,List.take_zero,List.drop_succ_cons,List.drop_zero];change wpStill _ _ w.drew _ _ _
  repeat still_step
  refine wpStill_nil ?_;change wpList _ _ _ _ _ w.drew
  go_upto_region 1 with fail
  have hB1:Blk (w.setCell ⟨g,4,none⟩ (.int .u64 (r2:Int))).drew g 361 #[wv a,wv b,wv c,wv d,.int .u64 (r2:Int),.int .u64 (n:Int)]:=Blk.set HB.o 4 (.int .u64 (r2:Int));have hG1:w.grownBy (w.setCell ⟨g,4,none⟩ (.int .u64 (r2:Int))).drew (some g):=AQ (Ay HG.o (.inl rfl) _);generalize (w.setCell ⟨g,4,none⟩ (.int .u64 (r2:Int))).drew=v1 at hB1 hG1⊢;clear fz k4 k5 HB HG hx m1 m3 m4 hw hy;have fz:=hB1.frozen;have k5:v1.cell? ⟨g,5,none⟩=some (.int .u64 (n:Int)):=by rw[hB1.cell];rfl
  have HB1:=I hB1;clear hB1;have HG1:=I hG1;clear hG1
  go_upto_region 2 with fail
  have hB2:Blk (v1.setCell ⟨g,5,none⟩ (.int .u64 ((n:Int)+1))) g 361 #[wv a,wv b,wv c,wv d,.int .u64 (r2:Int),.int .u64 ((n:Int)+1)]:=Blk.set HB1.o 5 (.int .u64 ((n:Int)+1));have hG2:w.grownBy (v1.setCell ⟨g,5,none⟩ (.int .u64 ((n:Int)+1))) (some g):=Ay HG1.o (.inl rfl) _;generalize (v1.setCell ⟨g,5,none⟩ (.int .u64 ((n:Int)+1)))=v2 at hB2 hG2⊢;clear fz k5 HB1 HG1;have fz:=hB2.frozen;have k4:v2.cell? ⟨g,4,none⟩=some (.int .u64 (r2:Int)):=by rw[hB2.cell];rfl
  have k5:v2.cell? ⟨g,5,none⟩=some (.int .u64 ((n:Int)+1)):=by rw[hB2.cell];rfl
  have HB2:=I hB2;clear hB2;have HG2:=I hG2;clear hG2
  go_wp2_with fail
  go_end0
  exact⟨rfl,by rw[HIN.o (by have:=M5.o;omega)];exact HB2.o,HG2.o⟩
 ·have hx:=hx 281474976710656 (by rw[hk];decide)
  have m1:(n:Int).tmod 8=6:=by rw[Int.tmod_eq_emod_of_nonneg n0];omega
  have m2:((n:Int)+1).tmod 8=7:=by rw[Int.tmod_eq_emod_of_nonneg (by omega)];omega
  have m3:n % 8=6:=hk;have hw:IntKind.u64.wrap 48=48:=by kernel_rfl
  have m4:(n:Int) % 8=6:=by omega
  have m5:(n+1) % 8=7:=by omega
  have M5:=I m5;clear m5;clear hk;go_enter Tryz.func283,Tryz.ntmps283
  go_upto_region 0 with fail
  refine wp_region_still_tail 16 (by kernel_rfl) (by kernel_rfl) ?_;simp only[List.take_succ_cons,List.take_zero,List.drop_succ_cons,List.drop_zero];change wpStill _ _ w.drew _ _ _
  repeat still_step
  refine wpStill_nil ?_;change wpList _ _ _ _ _ w.drew
  go_upto_region 1 with fail
  have hB1:Blk (w.setCell ⟨g,4,none⟩ (.int .u64 (r2:Int))).drew g 361 #[wv a,wv b,wv c,wv d,.int .u64 (r2:Int),.int .u64 (n:Int)]:=Blk.set HB.o 4 (.int .u64 (r2:Int));have hG1:w.grownBy (w.setCell ⟨g,4,none⟩ (.int .u64 (r2:Int))).drew (some g):=AQ (Ay HG.o (.inl rfl) _);generalize (w.setCell ⟨g,4,none⟩ (.int .u64 (r2:Int))).drew=v1 at hB1 hG1⊢;clear fz k4 k5 HB HG hx m1 m3 m4 hw hy;have fz:=hB1.frozen;have k5:v1.cell? ⟨g,5,none⟩=some (.int .u64 (n:Int)):=by rw[hB1.cell];rfl
  have HB1:=I hB1;clear hB1;have HG1:=I hG1;clear hG1
  go_upto_region 2 with fail
  have hB2:Blk (v1.setCell ⟨g,5,none⟩ (.int .u64 ((n:Int)+1))) g 361 #[wv a,wv b,wv c,wv d,.int .u64 (r2:Int),.int .u64 ((n:Int)+1)]:=Blk.set HB1.o 5 (.int .u64 ((n:Int)+1));have hG2:w.grownBy (v1.setCell ⟨g,5,none⟩ (.int .u64 ((n:Int)+1))) (some g):=Ay HG1.o (.inl rfl) _;generalize (v1.setCell ⟨g,5,none⟩ (.int .u64 ((n:Int)+1)))=v2 at hB2 hG2⊢;clear fz k5 HB1 HG1;have fz:=hB2.frozen;have k4:v2.cell? ⟨g,4,none⟩=some (.int .u64 (r2:Int)):=by rw[hB2.cell];rfl
  have k5:v2.cell? ⟨g,5,none⟩=some (.int .u64 ((n:Int)+1)):=by rw[hB2.cell];rfl
  have HB2:=I hB2;clear hB2;have HG2:=I hG2;clear hG2
  go_wp2_with fail
  go_end0
  exact⟨rfl,by rw[HIN.o (by have:=M5.o;omega)];exact HB2.o,HG2.o⟩
 ·have hx:=hx 72057594037927936 (by rw[hk];decide)
  have m1:(n:Int).tmod 8=7:=by rw[Int.tmod_eq_emod_of_nonneg n0];omega
  have m2:((n:Int)+1).tmod 8=0:=by rw[Int.tmod_eq_emod_of_nonneg (by omega)];omega
  have m3:n % 8=7:=hk;have hw:IntKind.u64.wrap 56=56:=by kernel_rfl
  have m4:(n:Int) % 8=7:=by omega
  have m5:(n+1) % 8=0:=by omega
  have M5:=I m5;clear m5;clear hk;go_enter Tryz.func283,Tryz.ntmps283
  go_upto_region 0 with fail
  refine wp_region_still_tail 16 (by kernel_rfl) (by kernel_rfl) ?_;simp only[List.take_succ_cons,List.take_zero,List.drop_succ_cons,List.drop_zero];change wpStill _ _ w.drew _ _ _
  repeat still_step
  refine wpStill_nil ?_;change wpList _ _ _ _ _ w.drew
  go_upto_region 1 with fail
  have hB1:Blk (w.setCell ⟨g,4,none⟩ (.int .u64 (r2:Int))).drew g 361 #[wv a,wv b,wv c,wv d,.int .u64 (r2:Int),.int .u64 (n:Int)]:=Blk.set HB.o 4 (.int .u64 (r2:Int));have hG1:w.grownBy (w.setCell ⟨g,4,none⟩ (.int .u64 (r2:Int))).drew (some g):=AQ (Ay HG.o (.inl rfl) _);generalize (w.setCell ⟨g,4,none⟩ (.int .u64 (r2:Int))).drew=v1 at hB1 hG1⊢;clear fz k4 k5 HB HG hx m1 m3 m4 hw hy;have fz:=hB1.frozen;have k5:v1.cell? ⟨g,5,none⟩=some (.int .u64 (n:Int)):=by rw[hB1.cell];rfl
  have HB1:=I hB1;clear hB1;have HG1:=I hG1;clear hG1
  go_upto_region 2 with fail
  have hB2:Blk (v1.setCell ⟨g,5,none⟩ (.int .u64 ((n:Int)+1))) g 361 #[wv a,wv b,wv c,wv d,.int .u64 (r2:Int),.int .u64 ((n:Int)+1)]:=Blk.set HB1.o 5 (.int .u64 ((n:Int)+1));have hG2:w.grownBy (v1.setCell ⟨g,5,none⟩ (.int .u64 ((n:Int)+1))) (some g):=Ay HG1.o (.inl rfl) _;generalize (v1.setCell ⟨g,5,none⟩ (.int .u64 ((n:Int)+1)))=v2 at hB2 hG2⊢;clear fz k5 HB1 HG1;have fz:=hB2.frozen;have k4:v2.cell? ⟨g,4,none⟩=some (.int .u64 (r2:Int)):=by rw[hB2.cell];rfl
  have k5:v2.cell? ⟨g,5,none⟩=some (.int .u64 ((n:Int)+1)):=by rw[hB2.cell];rfl
  have HB2:=I hB2;clear hB2;have HG2:=I hG2;clear hG2;have c1:=Iv g ⟨a,b,c,d⟩ (.int .u64 (r2:Int)) (.int .u64 ((n:Int)+1)) (wd r2) v2 HB2.o;rw[wv,Jt r2 HR2.o] at c1
  go_wp2_with (go_at_call 300;refine Calls.mono c1 ?_;rintro e v3 ⟨rfl,hB3,hG3⟩;clear c1;have k4:v3.cell? ⟨g,4,none⟩=some (.int .u64 (r2:Int)):=by{rw[hB3.cell];rfl};have fz:=hB3.frozen;have HB3:=I hB3;have HG3:=I hG3;clear hB3 hG3)
  go_end0
  exact⟨rfl,by rw[HEND.o M5.o];exact Blk.set HB3.o 4 (.int .u64 0),Ay (World.grownBy.trans HG2.o HG3.o) (.inl rfl) _⟩
theorem Lb (s:St) (hr:s.r<72057594037927936):(OY s).toNat=s.r+s.n % 256*72057594037927936:=Jt _ (by omega)
theorem VW (g:Nat) (s:St) (w:World) (hr:s.r<72057594037927936) (hB:Blk w g 361 (stc s)) :
  Calls Tryz.prog 284 #[.pointer (some ⟨g,0,none⟩)] w fun e w'=>e = .returned (wv (finS s))∧w.grownBy w' (some g):=by
 have hl:=Lb s hr;have hx:=NB s.r s.n hr;rw[←hl,←IntKind.wrap_u64] at hx;obtain⟨lw,el⟩:∃x,x=OY s:=⟨_,rfl⟩;obtain⟨⟨a,b,c,d⟩,e1⟩:∃t,t=addM s.v lw:=⟨_,rfl⟩;obtain⟨c1,ec⟩:∃x,x=c ^^^ 255#64:=⟨_,rfl⟩;obtain⟨⟨a2,b2,c2,d2⟩,e2⟩:∃t,t=rnds 4 ⟨a,b,c1,d⟩:=⟨_,rfl⟩;obtain⟨q1,eq1⟩:∃x,x=a2 ^^^ b2:=⟨_,rfl⟩;obtain⟨q2,eq2⟩:∃x,x=q1 ^^^ c2:=⟨_,rfl⟩;obtain⟨q3,eq3⟩:∃x,x=q2 ^^^ d2:=⟨_,rfl⟩;have hall:finS s=q3:=by rw[finS,←el,←e1,fin,←ec,←e2,allX,←eq1,←eq2,←eq3]
 have x0:bits .xor .u64 (c.toNat:Int) 255=(c1.toNat:Int):=by rw[ec];exact Bj c 255#64
 have x1:bits .xor .u64 (a2.toNat:Int) (b2.toNat:Int)=(q1.toNat:Int):=by rw[eq1];exact Bj _ _
 have x2:bits .xor .u64 (q1.toNat:Int) (c2.toNat:Int)=(q2.toNat:Int):=by rw[eq2];exact Bj _ _
 have x3:bits .xor .u64 (q2.toNat:Int) (d2.toNat:Int)=(q3.toNat:Int):=by rw[eq3];exact Bj _ _
 rw[←el] at hx;obtain⟨v,r,n⟩:=s;have hx:bits .or .u64 (r:Int) (IntKind.u64.wrap ((n:Int)*72057594037927936))=(lw.toNat:Int):=hx;have e1:⟨a,b,c,d⟩=addM v lw:=e1;have ca:=Iv g v (.int .u64 (r:Int)) (.int .u64 (n:Int)) lw w.drew (Blk.drewN hB 1);rw[←e1] at ca;have HALL:=I hall;clear hall;have E2:=I e2;clear e2;have k4:w.cell? ⟨g,4,none⟩=some (.int .u64 (r:Int)):=by rw[hB.cell];rfl
 have k5:w.cell? ⟨g,5,none⟩=some (.int .u64 (n:Int)):=by rw[hB.cell];rfl
 have fz:=hB.frozen;have HX0:=I x0;clear x0;have HX1:=I x1;clear x1;have HX2:=I x2;clear x2;have HX3:=I x3;clear x3;clear el e1 ec eq1 eq2 eq3 hl hr hB;go_enter Tryz.func284,Tryz.ntmps284
 go_upto_region 1 with fail
 refine wp_region_still_tail 11 (by kernel_rfl) (by kernel_rfl) ?_;simp only[List.take_succ_cons,List.take_zero,List.drop_succ_cons,List.drop_zero];change wpStill _ _ w.drew _ _ _
 repeat still_step
 refine wpStill_nil ?_;change wpList _ _ _ _ _ w.drew;clear hx k4 k5 fz
 go_upto_region 2 with(go_at_call 300;refine Calls.mono ca ?_;rintro e v1 ⟨rfl,hB1,hG1⟩;clear ca;have hG1:w.grownBy v1 (some g):=⟨hG1.os,hG1.tape,hG1.output,hG1.size,hG1.block⟩;have k2:v1.cell? ⟨g,2,none⟩=some (.int .u64 (c.toNat:Int)):=by{rw[hB1.cell];rfl};have fz:=hB1.frozen;have HB1:=I hB1;have HG1:=I hG1;clear hB1 hG1)
 have x0:=HX0.o;clear HX0
 go_upto_region 3 with fail
 have hB2:Blk (v1.setCell ⟨g,2,none⟩ (.int .u64 (c1.toNat:Int))) g 361 #[wv a,wv b,wv c1,wv d,.int .u64 (r:Int),.int .u64 (n:Int)]:=Blk.set HB1.o 2 (wv c1);have hG2:w.grownBy (v1.setCell ⟨g,2,none⟩ (.int .u64 (c1.toNat:Int))) (some g):=Ay HG1.o (.inl rfl) _;generalize (v1.setCell ⟨g,2,none⟩ (.int .u64 (c1.toNat:Int)))=v2 at hB2 hG2⊢;have c1':=Ju g 4 ⟨a,b,c1,d⟩ (.int .u64 (r:Int)) (.int .u64 (n:Int)) v2 (by decide) hB2;rw[←E2.o] at c1';have HG2:=I hG2;clear hB2 hG2 fz k2 HB1 HG1 x0
 go_upto_region 4 with(go_at_call 301;refine Calls.mono c1' ?_;rintro e v3 ⟨rfl,hB3,hG3⟩;clear c1';have HB3:=I hB3;have HG3:=I hG3;clear hB3 hG3)
 have k0:v3.cell? ⟨g,0,none⟩=some (.int .u64 (a2.toNat:Int)):=by rw[HB3.o.cell];rfl
 have k1:v3.cell? ⟨g,1,none⟩=some (.int .u64 (b2.toNat:Int)):=by rw[HB3.o.cell];rfl
 have k2:v3.cell? ⟨g,2,none⟩=some (.int .u64 (c2.toNat:Int)):=by rw[HB3.o.cell];rfl
 have k3:v3.cell? ⟨g,3,none⟩=some (.int .u64 (d2.toNat:Int)):=by rw[HB3.o.cell];rfl
 have x1:=HX1.o;have x2:=HX2.o;have x3:=HX3.o;refine wp_region_still_lit (by kernel_rfl) (by kernel_rfl) ?_;change wpStill _ _ v3.drew _ _ _
 repeat still_step
 refine wpStill_nil ?_
 try change _ v3.drew
 go_wp2_with fail
 go_ret;exact⟨by rw[HALL.o];rfl,AQ (World.grownBy.trans HG2.o HG3.o)⟩
end Si
end
section
namespace Si
open Go.RowKit Af
theorem Blk.new_of (w:World) (g:Nat) (t:TypeId) (cs cs':Array Value) (e:cs=cs') (hg:w.heap.size=g):Blk (w.alloc (.cells cs t)) g t cs':=hg▸e▸Blk.new w t cs
theorem Am {B:Nat} {a w:World} (h:Below B a w) {p:Addr} (hp:B≤p.block) (u:Value):Below B a (w.setCell p u):=
 ⟨h.os,h.tape,h.output,by simpa [World.setCell] using h.size,fun i hi=>(Below.heap_setCell w p u i (by omega)).trans (h.block i hi)⟩
theorem An {P:Program} {fn:Func} {tmps:Array Value} {w:World} {v:Value} (t:Nat) (ty:TypeId) (a:Addr) (hres:fn.results=#[.cell t ty]) (ht:tmps.getD t undef = .pointer (some a)) (hl:(loadVar ty a).run P w = .ok v w) :
  (results fn tmps).run P w = .ok v w:=by
 have ht':tmps[t]?.getD undef = .pointer (some a):=by simpa using ht
 simp [results,hres,ht',asAddr,hl]
theorem Ak {P:Program} {w:World} {g:Nat} {t ty:TypeId} {cs:Array Value} {d:TypeDesc} (h:Blk w g t cs) (hu:P.underlying ty=some d) (hd:d.isRow=true) (hi:(P.info? ty).map (·.size)=some cs.size) :
  (loadVar ty ⟨g,0,none⟩).run P w = .ok (.agg cs) w:=by
 have hc:w.rangeAt g 0 cs.toList:=fun j v hv=>by rw[Nat.zero_add,h.cell];simpa using hv
 have:=run_loadVar_mid (P:=P) w g 0 ty cs.toList d hc hu hd (by simpa using hi)
 simpa using this
def AD (ks:Nat→UInt8):Array Value:=((List.range 16).map (fun i=>bv (ks i))).toArray
theorem Blk.far {w:World} {g:Nat} {t:TypeId} {cs:Array Value} (h:Blk w g t cs) (p:Addr) (u:Value) (hp:p.block≠g):Blk (w.setCell p u) g t cs:=
 (Below.heap_setCell w p u g (fun e=>hp e.symm)).trans h
theorem Ag {w:World} {g:Nat} {t:TypeId} {cs:Array Value} (h:Blk w g t cs):w.rangeAt g 0 cs.toList:=fun j v hv=>by
 rw[Nat.zero_add,h.cell];simpa using hv
theorem Ao {w:World} {g:Nat} {t:TypeId} {cs:Array Value} (h:Blk w g t cs):w.there g 0 cs.size:=fun j hj=>by
 rw[Nat.zero_add];exact⟨by rw[h.cell,Array.getElem?_eq_getElem hj];rfl,h.frozen j⟩
theorem Bh {B:Nat} {a:World} (b:Nat) (hb:B≤b):∀(vs:List Value) (o:Nat) (w:World),Below B a w→Below B a (w.setCells b o vs)
 | [],_,_,h=>h
 |v :: r,o,w,h=>Bh b hb r (o+1) _ (Am h hb v)
def ksOf (l:List UInt8) (i:Nat):UInt8:=l.getD i 0
theorem Fk (f:Nat→UInt8) (j:Nat) (hj:j<16):(AD f)[j]? = some (bv (f j)):=by
 rw[AD,List.getElem?_toArray];simp [hj]
theorem FN {f g:Nat→UInt8} (h:∀j,j<16→f j=g j):AD f=AD g:=by
 unfold AD
 congr 1
 apply List.map_congr_left;intro j hj;rw[h j (by simpa using hj)]
end Si
end
section
namespace Si
open Go.RowKit Af
theorem k16 {w':World} {B:Nat} {t:TypeId} {ks:Nat→UInt8} (h:Blk w' B t (AD ks)):w'.cell? ⟨B,0,none⟩=some (.int .u8 ((ks 0).toNat:Int))∧w'.cell? ⟨B,1,none⟩=some (.int .u8 ((ks 1).toNat:Int))∧w'.cell? ⟨B,2,none⟩=some (.int .u8 ((ks 2).toNat:Int))∧w'.cell? ⟨B,3,none⟩=some (.int .u8 ((ks 3).toNat:Int))∧w'.cell? ⟨B,4,none⟩=some (.int .u8 ((ks 4).toNat:Int))∧w'.cell? ⟨B,5,none⟩=some (.int .u8 ((ks 5).toNat:Int))∧w'.cell? ⟨B,6,none⟩=some (.int .u8 ((ks 6).toNat:Int))∧w'.cell? ⟨B,7,none⟩=some (.int .u8 ((ks 7).toNat:Int))∧w'.cell? ⟨B,8,none⟩=some (.int .u8 ((ks 8).toNat:Int))∧w'.cell? ⟨B,9,none⟩=some (.int .u8 ((ks 9).toNat:Int))∧w'.cell? ⟨B,10,none⟩=some (.int .u8 ((ks 10).toNat:Int))∧w'.cell? ⟨B,11,none⟩=some (.int .u8 ((ks 11).toNat:Int))∧w'.cell? ⟨B,12,none⟩=some (.int .u8 ((ks 12).toNat:Int))∧w'.cell? ⟨B,13,none⟩=some (.int .u8 ((ks 13).toNat:Int))∧w'.cell? ⟨B,14,none⟩=some (.int .u8 ((ks 14).toNat:Int))∧w'.cell? ⟨B,15,none⟩=some (.int .u8 ((ks 15).toNat:Int)):=by
 refine⟨?_,?_,?_,?_,?_,?_,?_,?_,?_,?_,?_,?_,?_,?_,?_,?_⟩<;>(rw[h.cell];rfl)
theorem Lc (w:World) (g:Nat) (a b c d e f:Value):w.setCells g 0 [a,b,c,d,e,f]=(((((w.setCell ⟨g,0,none⟩ a).setCell ⟨g,1,none⟩ b).setCell ⟨g,2,none⟩ c).setCell ⟨g,3,none⟩ d).setCell ⟨g,4,none⟩ e).setCell ⟨g,5,none⟩ f:=rfl
theorem Blk.set6 {w:World} {g:Nat} {t:TypeId} {a b c d e f a' b' c' d' e' f':Value} (h:Blk w g t #[a',b',c',d',e',f']):Blk (w.setCells g 0 [a,b,c,d,e,f]) g t #[a,b,c,d,e,f]:=by
 rw[Lc];have:=(((((h.set 0 a).set 1 b).set 2 c).set 3 d).set 4 e).set 5 f
 simpa using this
def Xx:Array Value:=#[.int .u64 0,.int .u64 0,.int .u64 0,.int .u64 0,.int .u64 0,.int .u64 0]
theorem Gk (ks:Nat→UInt8) (w:World):Calls Tryz.prog 282 #[.agg (AD ks)] w fun e w'=>e = .returned (.agg (stc ⟨start ks,0,0⟩))∧Below w.heap.size w w':=by
 have hk:AD ks=#[.int .u8 ((ks 0).toNat:Int),.int .u8 ((ks 1).toNat:Int),.int .u8 ((ks 2).toNat:Int),.int .u8 ((ks 3).toNat:Int),.int .u8 ((ks 4).toNat:Int),.int .u8 ((ks 5).toNat:Int),.int .u8 ((ks 6).toNat:Int),.int .u8 ((ks 7).toNat:Int),.int .u8 ((ks 8).toNat:Int),.int .u8 ((ks 9).toNat:Int),.int .u8 ((ks 10).toNat:Int),.int .u8 ((ks 11).toNat:Int),.int .u8 ((ks 12).toNat:Int),.int .u8 ((ks 13).toNat:Int),.int .u8 ((ks 14).toNat:Int),.int .u8 ((ks 15).toNat:Int)]:=rfl;have cA:∀w,Calls Tryz.prog 299 #[.agg #[.int .u8 ((ks 0).toNat:Int),.int .u8 ((ks 1).toNat:Int),.int .u8 ((ks 2).toNat:Int),.int .u8 ((ks 3).toNat:Int),.int .u8 ((ks 4).toNat:Int),.int .u8 ((ks 5).toNat:Int),.int .u8 ((ks 6).toNat:Int),.int .u8 ((ks 7).toNat:Int)]] w fun e w'=>e = .returned (wv (kA ks))∧Below w.heap.size w w':=fun w=>Di ks w
 have cB:∀w,Calls Tryz.prog 299 #[.agg #[.int .u8 ((ks 8).toNat:Int),.int .u8 ((ks 9).toNat:Int),.int .u8 ((ks 10).toNat:Int),.int .u8 ((ks 11).toNat:Int),.int .u8 ((ks 12).toNat:Int),.int .u8 ((ks 13).toNat:Int),.int .u8 ((ks 14).toNat:Int),.int .u8 ((ks 15).toNat:Int)]] w fun e w'=>e = .returned (wv (kB ks))∧Below w.heap.size w w':=fun w=>Di (fun i=>ks (8+i)) w
 obtain⟨p,ep⟩:∃x,x=kA ks:=⟨_,rfl⟩;obtain⟨q,eq⟩:∃x,x=kB ks:=⟨_,rfl⟩;obtain⟨v0,e0⟩:∃x,x=0x736f6d6570736575#64 ^^^ p:=⟨_,rfl⟩;obtain⟨v1,e1⟩:∃x,x=0x646f72616e646f6d#64 ^^^ q:=⟨_,rfl⟩;obtain⟨v2,e2⟩:∃x,x=0x6c7967656e657261#64 ^^^ p:=⟨_,rfl⟩;obtain⟨v3,e3⟩:∃x,x=0x7465646279746573#64 ^^^ q:=⟨_,rfl⟩;have x0:bits .xor .u64 8317987319222330741 (p.toNat:Int)=(v0.toNat:Int):=by rw[e0];exact Bj 0x736f6d6570736575#64 p
 have x1:bits .xor .u64 7237128888997146477 (q.toNat:Int)=(v1.toNat:Int):=by rw[e1];exact Bj 0x646f72616e646f6d#64 q
 have x2:bits .xor .u64 7816392313619706465 (p.toNat:Int)=(v2.toNat:Int):=by rw[e2];exact Bj 0x6c7967656e657261#64 p
 have x3:bits .xor .u64 8387220255154660723 (q.toNat:Int)=(v3.toNat:Int):=by rw[e3];exact Bj 0x7465646279746573#64 q
 have hs:stc ⟨start ks,0,0⟩=#[wv v0,wv v1,wv v2,wv v3,.int .u64 0,.int .u64 0]:=by
  rw[e0,e1,e2,e3,ep,eq];rfl
 rw[←ep] at cA;rw[←eq] at cB;rw[hs];clear hs ep eq e0 e1 e2 e3;obtain⟨B,eB⟩:∃B,B=w.heap.size:=⟨_,rfl⟩;have EB:=I eB;rw[hk];clear hk;go_enter Tryz.func282,Tryz.ntmps282
 go_upto_region 1 with fail
 rw[←eB];clear eB;have hs1:∀w:World,(Instr.arrayAt 377 (.slice (some ⟨B,0,none⟩) 8 16)).run Tryz.prog w = .ok (.pointer (some ⟨B,0,none⟩)) w:=fun _=>by kernel_rfl
 have hs2:∀w:World,(Instr.arrayAt 377 (.slice (some ⟨B,8,none⟩) 8 8)).run Tryz.prog w = .ok (.pointer (some ⟨B,8,none⟩)) w:=fun _=>by kernel_rfl
 have hK:Blk ((w.alloc (.cells #[.int .u8 ((ks 0).toNat:Int),.int .u8 ((ks 1).toNat:Int),.int .u8 ((ks 2).toNat:Int),.int .u8 ((ks 3).toNat:Int),.int .u8 ((ks 4).toNat:Int),.int .u8 ((ks 5).toNat:Int),.int .u8 ((ks 6).toNat:Int),.int .u8 ((ks 7).toNat:Int),.int .u8 ((ks 8).toNat:Int),.int .u8 ((ks 9).toNat:Int),.int .u8 ((ks 10).toNat:Int),.int .u8 ((ks 11).toNat:Int),.int .u8 ((ks 12).toNat:Int),.int .u8 ((ks 13).toNat:Int),.int .u8 ((ks 14).toNat:Int),.int .u8 ((ks 15).toNat:Int)] 233)).alloc (.cells #[.int .u64 0,.int .u64 0,.int .u64 0,.int .u64 0,.int .u64 0,.int .u64 0] 361)) B 233 (AD ks):=Blk.alloc (Blk.new_of w B _ _ (AD ks) rfl EB.o.symm) _;have hZ:Blk ((w.alloc (.cells #[.int .u8 ((ks 0).toNat:Int),.int .u8 ((ks 1).toNat:Int),.int .u8 ((ks 2).toNat:Int),.int .u8 ((ks 3).toNat:Int),.int .u8 ((ks 4).toNat:Int),.int .u8 ((ks 5).toNat:Int),.int .u8 ((ks 6).toNat:Int),.int .u8 ((ks 7).toNat:Int),.int .u8 ((ks 8).toNat:Int),.int .u8 ((ks 9).toNat:Int),.int .u8 ((ks 10).toNat:Int),.int .u8 ((ks 11).toNat:Int),.int .u8 ((ks 12).toNat:Int),.int .u8 ((ks 13).toNat:Int),.int .u8 ((ks 14).toNat:Int),.int .u8 ((ks 15).toNat:Int)] 233)).alloc (.cells #[.int .u64 0,.int .u64 0,.int .u64 0,.int .u64 0,.int .u64 0,.int .u64 0] 361)) (B+1) 361 Xx:=Blk.new_of (w.alloc _) (B+1) _ _ Xx rfl (by have:=EB.o;simp;omega);have hW:Below w.heap.size w ((w.alloc (.cells #[.int .u8 ((ks 0).toNat:Int),.int .u8 ((ks 1).toNat:Int),.int .u8 ((ks 2).toNat:Int),.int .u8 ((ks 3).toNat:Int),.int .u8 ((ks 4).toNat:Int),.int .u8 ((ks 5).toNat:Int),.int .u8 ((ks 6).toNat:Int),.int .u8 ((ks 7).toNat:Int),.int .u8 ((ks 8).toNat:Int),.int .u8 ((ks 9).toNat:Int),.int .u8 ((ks 10).toNat:Int),.int .u8 ((ks 11).toNat:Int),.int .u8 ((ks 12).toNat:Int),.int .u8 ((ks 13).toNat:Int),.int .u8 ((ks 14).toNat:Int),.int .u8 ((ks 15).toNat:Int)] 233)).alloc (.cells #[.int .u64 0,.int .u64 0,.int .u64 0,.int .u64 0,.int .u64 0,.int .u64 0] 361)):=((Below.refl w.heap.size w).alloc (Nat.le_refl _) _).alloc (by simp) _;have HX0:=I x0;clear x0;have HX1:=I x1;clear x1;have HX2:=I x2;clear x2;have HX3:=I x3;clear x3;generalize ((w.alloc (.cells #[.int .u8 ((ks 0).toNat:Int),.int .u8 ((ks 1).toNat:Int),.int .u8 ((ks 2).toNat:Int),.int .u8 ((ks 3).toNat:Int),.int .u8 ((ks 4).toNat:Int),.int .u8 ((ks 5).toNat:Int),.int .u8 ((ks 6).toNat:Int),.int .u8 ((ks 7).toNat:Int),.int .u8 ((ks 8).toNat:Int),.int .u8 ((ks 9).toNat:Int),.int .u8 ((ks 10).toNat:Int),.int .u8 ((ks 11).toNat:Int),.int .u8 ((ks 12).toNat:Int),.int .u8 ((ks 13).toNat:Int),.int .u8 ((ks 14).toNat:Int),.int .u8 ((ks 15).toNat:Int)] 233)).alloc (.cells #[.int .u64 0,.int .u64 0,.int .u64 0,.int .u64 0,.int .u64 0,.int .u64 0] 361))=W1 at hK hZ hW⊢;have hK:Blk W1.drew B 233 (AD ks):=hK;have hZ:Blk W1.drew (B+1) 361 #[.int .u64 0,.int .u64 0,.int .u64 0,.int .u64 0,.int .u64 0,.int .u64 0]:=hZ;have hW:Below w.heap.size w W1.drew:=below_drewN hW 1
 go_region_held3 (fun w'=>w'.cell? ⟨B,0,none⟩=some (.int .u8 ((ks 0).toNat:Int))∧w'.cell? ⟨B,1,none⟩=some (.int .u8 ((ks 1).toNat:Int))∧w'.cell? ⟨B,2,none⟩=some (.int .u8 ((ks 2).toNat:Int))∧w'.cell? ⟨B,3,none⟩=some (.int .u8 ((ks 3).toNat:Int))∧w'.cell? ⟨B,4,none⟩=some (.int .u8 ((ks 4).toNat:Int))∧w'.cell? ⟨B,5,none⟩=some (.int .u8 ((ks 5).toNat:Int))∧w'.cell? ⟨B,6,none⟩=some (.int .u8 ((ks 6).toNat:Int))∧w'.cell? ⟨B,7,none⟩=some (.int .u8 ((ks 7).toNat:Int))∧w'.cell? ⟨B,8,none⟩=some (.int .u8 ((ks 8).toNat:Int))∧w'.cell? ⟨B,9,none⟩=some (.int .u8 ((ks 9).toNat:Int))∧w'.cell? ⟨B,10,none⟩=some (.int .u8 ((ks 10).toNat:Int))∧w'.cell? ⟨B,11,none⟩=some (.int .u8 ((ks 11).toNat:Int))∧w'.cell? ⟨B,12,none⟩=some (.int .u8 ((ks 12).toNat:Int))∧w'.cell? ⟨B,13,none⟩=some (.int .u8 ((ks 13).toNat:Int))∧w'.cell? ⟨B,14,none⟩=some (.int .u8 ((ks 14).toNat:Int))∧w'.cell? ⟨B,15,none⟩=some (.int .u8 ((ks 15).toNat:Int))) (exact k16 hK) (first | (go_at_call 299;refine Calls.mono (cA _) ?_;rintro e wq ⟨rfl,hb⟩;clear cA;have hK2:=Blk.below hK hb;have hZ2:=Blk.below hZ hb;have hW2:=bt hW hb;clear hK hZ hW;have hK:=hK2;have hZ:=hZ2;have hW:=hW2;clear hK2 hZ2 hW2 hb) | (go_at_call 299;refine Calls.mono (cB _) ?_;rintro e wq ⟨rfl,hb⟩;clear cB;have hK2:=Blk.below hK hb;have hZ2:=Blk.below hZ hb;have hW2:=bt hW hb;clear hK hZ hW;have hK:=hK2;have hZ:=hZ2;have hW:=hW2;clear hK2 hZ2 hW2 hb))
 all_goals
  have x0:=HX0.o;have x1:=HX1.o;have x2:=HX2.o;have x3:=HX3.o;have HZ:=I hZ;clear hZ;have HW:=I hW;clear hW;clear hK HX0 HX1 HX2 HX3
 all_goals
  have c0:wq.cell? ⟨B+1,0,none⟩=some (.int .u64 0):=by rw[HZ.o.cell];rfl
  have c1:wq.cell? ⟨B+1,1,none⟩=some (.int .u64 0):=by rw[HZ.o.cell];rfl
  have c2:wq.cell? ⟨B+1,2,none⟩=some (.int .u64 0):=by rw[HZ.o.cell];rfl
  have c3:wq.cell? ⟨B+1,3,none⟩=some (.int .u64 0):=by rw[HZ.o.cell];rfl
  have c4:wq.cell? ⟨B+1,4,none⟩=some (.int .u64 0):=by rw[HZ.o.cell];rfl
  have c5:wq.cell? ⟨B+1,5,none⟩=some (.int .u64 0):=by rw[HZ.o.cell];rfl
  have fz:=HZ.o.frozen;clear hs1 hs2
 all_goals go_wp2_with fail
 all_goals
  have hE:=Blk.set6 (a:=wv v0) (b:=wv v1) (c:=wv v2) (d:=wv v3) (e:=.int .u64 0) (f:=.int .u64 0) HZ.o;rw[Lc] at hE;have hq:=Ak (P:=Tryz.prog) hE Tryz.underlying361 rfl (by kernel_rfl);refine bodyPost_ret (v:=.agg #[wv v0,wv v1,wv v2,wv v3,.int .u64 0,.int .u64 0]) ?_ ?_ ?_
  ·exact An 2 361 ⟨B+1,0,none⟩ Tryz.results282 rfl hq
  ·rfl
  refine⟨rfl,?_⟩;have hle:w.heap.size≤B+1:=by have:=EB.o;omega
  repeat (refine Am ?_ hle _)
  exact HW.o
end Si
end
section
namespace Si
open Go.RowKit Af
def Rows (w:World) (B:Nat) (A:Option Addr) (rows:List (List UInt8)):Prop:=
 ∃vs:List Value,vs.length=rows.length∧Rd w B A vs∧∀i (h:i<rows.length),∃(Ai:Option Addr) (ci:Nat),vs[i]? = some (.slice Ai (rows[i]).length ci)∧Rd w B Ai (bvs rows[i])
theorem Rows.below {w w':World} {B:Nat} {A:Option Addr} {rows:List (List UInt8)} (h:Rows w B A rows) (hb:Below B w w'):Rows w' B A rows:=by
 obtain⟨vs,h1,h2,h3⟩:=h;refine⟨vs,h1,h2.below hb,fun i hi=>?_⟩;obtain⟨Ai,ci,h4,h5⟩:=h3 i hi;exact⟨Ai,ci,h4,h5.below hb⟩
theorem Rows.more {w:World} {B B':Nat} {A:Option Addr} {rows:List (List UInt8)} (h:Rows w B A rows) (hB:B≤B'):Rows w B' A rows:=by
 obtain⟨vs,h1,h2,h3⟩:=h;refine⟨vs,h1,h2.more hB,fun i hi=>?_⟩;obtain⟨Ai,ci,h4,h5⟩:=h3 i hi;exact⟨Ai,ci,h4,h5.more hB⟩
def flat (rows:List (List UInt8)):List UInt8:=rows.flatten
theorem QK (rows:List (List UInt8)) (i:Nat) (h:i<rows.length):flat (rows.take (i+1))=flat (rows.take i)++rows[i]:=by
 unfold flat;rw[List.take_succ_eq_append_getElem h,List.flatten_append];simp
theorem Ij (rows:List (List UInt8)) (i:Nat):(flat (rows.take i)).length≤(flat rows).length:=by
 have h:rows=rows.take i++rows.drop i:=(List.take_append_drop i rows).symm;have h2:flat rows=flat (rows.take i)++flat (rows.drop i):=by
  unfold flat;rw[←List.flatten_append,List.take_append_drop]
 rw[h2,List.length_append];omega
def Mk (ks:Nat→UInt8) (l:List UInt8):Array Value:=stc (stOf ks l)
theorem Pb (g:Nat) (ks:Nat→UInt8) (l:List UInt8) (y:UInt8) (w:World) (hn:l.length<100000) (hB:Blk w g 361 (Mk ks l)) :
  Calls Tryz.prog 283 #[.pointer (some ⟨g,0,none⟩),.int .u8 (y.toNat:Int)] w fun e w'=>e = .returned (.tuple #[])∧Blk w' g 361 (Mk ks (l++[y]))∧w.grownBy w' (some g):=by
 have h:=Mj g (stOf ks l) y w (by rw[Xs];exact hn) (UG ks l) hB;rw[←KY] at h;exact h
theorem Xy (g:Nat) (ks:Nat→UInt8) (l:List UInt8) (w:World) (hB:Blk w g 361 (Mk ks l)) :
  Calls Tryz.prog 284 #[.pointer (some ⟨g,0,none⟩)] w fun e w'=>e = .returned (wv (GO ks l))∧w.grownBy w' (some g):=
 VW g (stOf ks l) w (Nat.lt_of_lt_of_le (UG ks l) (TD _ (by omega))) hB
theorem QL (l:List UInt8) (j:Nat) (h:j<l.length):l.take (j+1)=l.take j++[l[j]]:=List.take_succ_eq_append_getElem h
theorem VX (ks:Nat→UInt8) (A:Option Addr) (n c:Nat) (rows:List (List UInt8)) (w:World) (hn:n=rows.length) (hn5:n≤100000) (hl:(flat rows).length<100000) (hr:Rows w w.heap.size A rows) :
  Calls Tryz.prog 259 #[.agg (AD ks),.slice A n c] w fun e w'=>e = .returned (wv (GO ks (flat rows)))∧Below w.heap.size w w':=by
 obtain⟨vs,hv,hrd,hrows⟩:=hr;obtain⟨B,eB⟩:∃B,B=w.heap.size:=⟨_,rfl⟩;rw[←eB] at hrd hrows;have EB:=I eB;have HRD:=I hrd;clear hrd;have HROWS:=I hrows;clear hrows;have HN:=I hn;clear hn;have e5:(n:Int)≤100000:=by omega
 clear hn5;have HL:=I hl;clear hl;have HV:=I hv;clear hv;have hk:AD ks=#[.int .u8 ((ks 0).toNat:Int),.int .u8 ((ks 1).toNat:Int),.int .u8 ((ks 2).toNat:Int),.int .u8 ((ks 3).toNat:Int),.int .u8 ((ks 4).toNat:Int),.int .u8 ((ks 5).toNat:Int),.int .u8 ((ks 6).toNat:Int),.int .u8 ((ks 7).toNat:Int),.int .u8 ((ks 8).toNat:Int),.int .u8 ((ks 9).toNat:Int),.int .u8 ((ks 10).toNat:Int),.int .u8 ((ks 11).toNat:Int),.int .u8 ((ks 12).toNat:Int),.int .u8 ((ks 13).toNat:Int),.int .u8 ((ks 14).toNat:Int),.int .u8 ((ks 15).toNat:Int)]:=rfl;have cb:=Gk ks;rw[hk] at cb⊢;have hs:stc ⟨start ks,0,0⟩=#[wv (start ks).a,wv (start ks).b,wv (start ks).c,wv (start ks).d,.int .u64 0,.int .u64 0]:=rfl;rw[hs] at cb;have hs0:Mk ks []=#[wv (start ks).a,wv (start ks).b,wv (start ks).c,wv (start ks).d,.int .u64 0,.int .u64 0]:=rfl;obtain⟨p0,e0⟩:∃x,x=(start ks).a:=⟨_,rfl⟩;obtain⟨p1,e1⟩:∃x,x=(start ks).b:=⟨_,rfl⟩;obtain⟨p2,e2⟩:∃x,x=(start ks).c:=⟨_,rfl⟩;obtain⟨p3,e3⟩:∃x,x=(start ks).d:=⟨_,rfl⟩;rw[←e0,←e1,←e2,←e3] at hs0 cb;have HS0:=I hs0;clear hs0;clear hk hs e0 e1 e2 e3;go_enter Tryz.func259,Tryz.ntmps259
 go_upto_region 2 with(go_at_call 282;refine Calls.mono (cb _) ?_;rintro e w1 ⟨rfl,hb1⟩;have hW1:Below w.heap.size w w1:=((Below.refl w.heap.size w).alloc (Nat.le_refl _) _).trans (hb1.mono (by simp));have HW1:=I hW1;clear hW1 hb1 cb)
 clear eB;obtain⟨g,eg⟩:∃g,g=w1.heap.size:=⟨_,rfl⟩;have hB0:Blk (w1.alloc (.cells #[.int .u64 (p0.toNat:Int),.int .u64 (p1.toNat:Int),.int .u64 (p2.toNat:Int),.int .u64 (p3.toNat:Int),.int .u64 0,.int .u64 0] 361)) g 361 (Mk ks []):=Blk.new_of w1 g _ _ _ HS0.o.symm eg.symm;have hW0:Below B w (w1.alloc (.cells #[.int .u64 (p0.toNat:Int),.int .u64 (p1.toNat:Int),.int .u64 (p2.toNat:Int),.int .u64 (p3.toNat:Int),.int .u64 0,.int .u64 0] 361)):=by rw[EB.o];exact HW1.o.alloc HW1.o.size _
 have hg:B≤g:=by rw[eg,EB.o];exact HW1.o.size
 rw[←eg];generalize w1.alloc (.cells #[.int .u64 (p0.toNat:Int),.int .u64 (p1.toNat:Int),.int .u64 (p2.toNat:Int),.int .u64 (p3.toNat:Int),.int .u64 0,.int .u64 0] 361)=w2 at hB0 hW0⊢;have HB0:=I hB0;clear hB0;have HW0:=I hW0;clear hW0;have HGB:=I hg;clear hg;clear HS0 HW1 eg
 go_wp2_with fail
 go_loopw [14] (fun iv wr=>∃i:Nat,i≤n∧iv = .int .i64 (i:Int)∧Below B w wr∧Blk wr g 361 (Mk ks (flat (rows.take i)))) (fun iv _=>n - (intOf iv).toNat)
 case atStart=>exact⟨0,Nat.zero_le _,rfl,HW0.o,by rw[List.take_zero];exact HB0.o⟩
 case round=>
  clear HB0 HW0;obtain⟨i,hi,rfl,hW,hB⟩:=hrel;have HW:=I hW;clear hW;have HB:=I hB;clear hB
  by_cases hx:i=n
  ·have he:rows.take i=rows:=List.take_of_length_le (by have:=HN.o;omega)
   have ce:=Xy g ks (flat (rows.take i)) wr HB.o;rw[he] at ce;subst hx;clear he
   go_wp2_with (go_at_call 284;refine Calls.mono ce ?_;rintro e w3 ⟨rfl,hg3⟩;clear ce;have HG3:=I hg3;clear hg3)
   go_ret;exact⟨rfl,by rw[←EB.o];exact Al HW.o HG3.o (by have:=HW.o.size;have:=Blk.lt HB.o;have:=HGB.o;omega) HGB.o⟩
  ·have hlt:i<n:=by omega
   have hll:i<rows.length:=by have:=HN.o;omega
   have e1:(i:Int)<(n:Int):=by omega
   have e2:(0:Int)≤(i:Int):=by omega
   obtain⟨row,erow⟩:∃r,r=rows[i]:=⟨_,rfl⟩;obtain⟨pre,epre⟩:∃r,r=flat (rows.take i):=⟨_,rfl⟩;have enext:flat (rows.take (i+1))=pre++row:=by rw[epre,erow];exact QK rows i hll
   have hlen:(pre++row).length<100000:=by rw[←enext];exact Nat.lt_of_le_of_lt (Ij rows (i+1)) HL.o
   obtain⟨Ai,ci,hvi,hri⟩:=HROWS.o i hll;rw[←erow] at hvi hri;have HB':=HB.o;rw[←epre] at HB';have HB2:=I HB';clear HB' HB;obtain⟨b,o,rfl,hbB,hcell⟩:=HRD.o.at_ hvi;obtain⟨m,em⟩:∃m,m=row.length:=⟨_,rfl⟩;rw[←em] at hcell;have hc:wr.cell? ⟨b,o+i,none⟩=some (.slice Ai m ci):=(HW.o.cell (p:=⟨b,o+i,none⟩) hbB).trans hcell;have HEN:=I enext;clear enext;have HRI:=I hri;clear hri;have HX:=I hx;clear hx;have HI:=I hi;clear hi;have e6:(m:Int)<100000:=by have:=hlen;rw[List.length_append] at this;omega
   have HM:=I em;clear em;have HLE:=I hlen;clear hlen;have HLL:=I hll;clear hvi hcell erow epre hll
   go_wp2_with fail
   go_loopw [20] (fun jv wx=>∃j:Nat,j≤m∧jv = .int .i64 (j:Int)∧Below B w wx∧Blk wx g 361 (Mk ks (pre++row.take j))) (fun jv _=>m - (intOf jv).toNat)
   case atStart=>exact⟨0,Nat.zero_le _,rfl,HW.o,by rw[List.take_zero,List.append_nil];exact HB2.o⟩
   case round=>
    clear hc HW HB2;obtain⟨j,hj,rfl,hWx,hBx⟩:=hrel;have HWX:=I hWx;clear hWx;have HBX:=I hBx;clear hBx
    by_cases hy:j=m
    ·have he:row.take j=row:=List.take_of_length_le (by have:=HM.o;omega)
     have HE:=I he;clear he;subst hy
     go_wp2_with fail
     go_roundw
     case rel=>exact⟨i+1,by omega,by go_num,HWX.o,by rw[HEN.o];have:=HBX.o;rw[HE.o] at this;exact this⟩
     case measure=>simp [intOf];omega
    ·have hjm:j<m:=by omega
     have hjl:j<row.length:=by have:=HM.o;omega
     have f1:(j:Int)<(m:Int):=by omega
     have f2:(0:Int)≤(j:Int):=by omega
     obtain⟨b2,o2,rfl,hb2,hcell2⟩:=HRI.o.at_ (Dw hjl);obtain⟨y,ey⟩:∃y,y=row[j]:=⟨_,rfl⟩;rw[←ey] at hcell2;have hc2:wr.cell? ⟨b2,o2+j,none⟩=some (.int .u8 (y.toNat:Int)):=(HWX.o.cell (p:=⟨b2,o2+j,none⟩) hb2).trans hcell2;have hsn:(pre++row.take j)++[y]=pre++row.take (j+1):=by rw[QL row j hjl,←ey,List.append_assoc]
     have ca:=Pb g ks (pre++row.take j) y wr (by have:=HLE.o;rw[List.length_append] at this⊢;have:(row.take j).length≤row.length:=by{rw[List.length_take];omega};omega) HBX.o;rw[hsn] at ca;have HY:=I hy;clear hy;have HJ:=I hj;clear hj;have HSZ:=I (Blk.lt HBX.o);clear hcell2 ey hsn hjl
     go_wp2_with (go_at_call 283;refine Calls.mono ca ?_;rintro e w4 ⟨rfl,hB4,hG4⟩;clear ca;have HB4:=I hB4;have HG4:=I hG4;clear hB4 hG4)
     go_roundw
     case rel=>exact⟨j+1,by omega,by go_num,Al HWX.o HG4.o (by have:=HSZ.o;have:=HGB.o;omega) HGB.o,HB4.o⟩
     case measure=>simp [intOf];omega
end Si
end
section
namespace Si
open Go.RowKit Af
theorem QM (n:Int):bits .and .i64 n 255=n % 256:=by
 have h127:(BitVec.ofInt 64 255).toNat=2 ^ 8 - 1:=by decide
 have key:(BitVec.ofInt 64 n &&& BitVec.ofInt 64 255).toNat=(n % ((2 ^ 64:Nat):Int)).toNat % 2 ^ 8:=by
  rw[BitVec.toNat_and,BitVec.toNat_ofInt,h127,Nat.and_two_pow_sub_one_eq_mod]
 show IntKind.i64.wrap ((BitVec.ofInt 64 n &&& BitVec.ofInt 64 255).toNat:Nat)=n % 256;rw[key,IntKind.wrap_i64];omega
theorem Rd.drop {w:World} {B:Nat} {x:Addr} {l:List UInt8} (h:Rd w B (some x) (bvs l)) (p:Nat):Rd w B (some (x.add p)) (bvs (l.drop p)):=by
 rcases h with h | ⟨b,o,h1,h2,h3⟩
 ·left
  have:l = []:=List.map_eq_nil_iff.1 h;rw[this];simp [bvs]
 ·injection h1 with h1
  subst h1;rw[addr_add];refine .inr ⟨b,o+p,rfl,h2,fun i u hu=>?_⟩;have:(bvs l)[p+i]? = some u:=by
   rw[←hu];simp [bvs,List.getElem?_drop]
  have:=h3 _ _ this
  rwa [Nat.add_assoc]
theorem Rd.take {w:World} {B:Nat} {A:Option Addr} {l:List UInt8} (h:Rd w B A (bvs l)) (k:Nat):Rd w B A (bvs (l.take k)):=by
 rcases h with h | ⟨b,o,h1,h2,h3⟩
 ·left
  have:l = []:=List.map_eq_nil_iff.1 h;rw[this];simp [bvs]
 ·refine .inr ⟨b,o,h1,h2,fun i u hu=>h3 i u ?_⟩
  rw[←hu];have hi:i<k:=by
   rcases Nat.lt_or_ge i k with g | g
   ·exact g
   ·rw[List.getElem?_eq_none (by simp [bvs];omega)] at hu;cases hu
  simp [bvs,hi]
theorem rd_key {w:World} {B:Nat} {t:TypeId} {ks:Nat→UInt8} (h:Blk w B t (AD ks)) (o:Nat) (ho:o+8≤16):Rd w (B+1) (some ⟨B,o,none⟩) (bvs ((List.range 8).map fun i=>ks (o+i))):=by
 refine .inr ⟨B,o,rfl,by omega,fun i u hu=>?_⟩;have hi:i<8:=by
  rcases Nat.lt_or_ge i 8 with g | g
  ·exact g
  ·rw[List.getElem?_eq_none (by simp [bvs];omega)] at hu;cases hu
 rw[h.cell,Fk _ _ (by omega)];rw[←hu];simp [bvs,hi]
theorem UI {w:World} {B:Nat} {t:TypeId} {ks:Nat→UInt8} (h:Blk w B t (AD ks)):Calls Tryz.prog 201 #[.slice (some ⟨B,0,none⟩) 8 16] w fun e w'=>e = .returned (wv (kA ks))∧w'=w:=by
 have h1:=rd_key h 0 (by decide);have:=Mi (some ⟨B,0,none⟩) 8 16 _ w (B+1) (by simp) (by decide) h1;have e:((List.range 8).map fun i=>ks (0+i))=(List.range 8).map ks:=by simp
 rw[e] at this;exact this
theorem UJ {w:World} {B:Nat} {t:TypeId} {ks:Nat→UInt8} (h:Blk w B t (AD ks)):Calls Tryz.prog 201 #[.slice (some ⟨B,8,none⟩) 8 8] w fun e w'=>e = .returned (wv (kB ks))∧w'=w:=
 Mi (some ⟨B,8,none⟩) 8 8 _ w (B+1) (by simp) (by decide) (rd_key h 8 (by decide))
theorem QN (ks:Nat→UInt8) (l:List UInt8):bits .or .u64 (Bt (l.drop (8*(l.length / 8))):Nat) (IntKind.u64.wrap (((l.length % 256:Nat):Int)*72057594037927936))=((OY (stOf ks l)).toNat:Int):=by
 have hr:Bt (l.drop (8*(l.length / 8)))<72057594037927936:=QH (by rw[List.length_drop];omega);have h:=NB (Bt (l.drop (8*(l.length / 8)))) (l.length % 256) hr;rw[IntKind.wrap_u64,h,Nat.mod_mod];rw[Lb _ (by rw[Fo];exact hr),Fo]
def stcV (ks:Nat→UInt8):Array Value:=CY (start ks)
theorem QO (ks:Nat→UInt8) (x:Addr) (n c:Nat) (l:List UInt8) (w:World) (hn:n=l.length) (hl:n≤100000) (hc:n≤c) (hm:c≤maxLen) (hr:Rd w w.heap.size (some x) (bvs l)) :
  Calls Tryz.prog 132 #[.agg (AD ks),.slice (some x) n c] w fun e w'=>e = .returned (wv (GO ks l))∧Below w.heap.size w w':=by
 obtain⟨B,eB⟩:∃B,B=w.heap.size:=⟨_,rfl⟩;rw[←eB] at hr;have EB:=I eB;have HR:=I hr;clear hr;have HN:=I hn;clear hn;have hkk:AD ks=#[.int .u8 ((ks 0).toNat:Int),.int .u8 ((ks 1).toNat:Int),.int .u8 ((ks 2).toNat:Int),.int .u8 ((ks 3).toNat:Int),.int .u8 ((ks 4).toNat:Int),.int .u8 ((ks 5).toNat:Int),.int .u8 ((ks 6).toNat:Int),.int .u8 ((ks 7).toNat:Int),.int .u8 ((ks 8).toNat:Int),.int .u8 ((ks 9).toNat:Int),.int .u8 ((ks 10).toNat:Int),.int .u8 ((ks 11).toNat:Int),.int .u8 ((ks 12).toNat:Int),.int .u8 ((ks 13).toNat:Int),.int .u8 ((ks 14).toNat:Int),.int .u8 ((ks 15).toNat:Int)]:=rfl;have hsz:stcV ks=#[wv (start ks).a,wv (start ks).b,wv (start ks).c,wv (start ks).d]:=rfl;obtain⟨p,ep⟩:∃x,x=kA ks:=⟨_,rfl⟩;obtain⟨q,eq⟩:∃x,x=kB ks:=⟨_,rfl⟩;obtain⟨v0,e0⟩:∃x,x=0x736f6d6570736575#64 ^^^ p:=⟨_,rfl⟩;obtain⟨v1,e1⟩:∃x,x=0x646f72616e646f6d#64 ^^^ q:=⟨_,rfl⟩;obtain⟨v2,e2⟩:∃x,x=0x6c7967656e657261#64 ^^^ p:=⟨_,rfl⟩;obtain⟨v3,e3⟩:∃x,x=0x7465646279746573#64 ^^^ q:=⟨_,rfl⟩;have x0:bits .xor .u64 8317987319222330741 (p.toNat:Int)=(v0.toNat:Int):=by rw[e0];exact Bj 0x736f6d6570736575#64 p
 have x1:bits .xor .u64 7237128888997146477 (q.toNat:Int)=(v1.toNat:Int):=by rw[e1];exact Bj 0x646f72616e646f6d#64 q
 have x2:bits .xor .u64 7816392313619706465 (p.toNat:Int)=(v2.toNat:Int):=by rw[e2];exact Bj 0x6c7967656e657261#64 p
 have x3:bits .xor .u64 8387220255154660723 (q.toNat:Int)=(v3.toNat:Int):=by rw[e3];exact Bj 0x7465646279746573#64 q
 have hs:stcV ks=#[.int .u64 (v0.toNat:Int),.int .u64 (v1.toNat:Int),.int .u64 (v2.toNat:Int),.int .u64 (v3.toNat:Int)]:=by
  rw[hsz,e0,e1,e2,e3,ep,eq];rfl
 have HS:=I hs;clear hs;obtain⟨kz,ekz⟩:∃z,z=AD ks:=⟨_,rfl⟩;rw[←ekz];have EKZ:=I ekz;have hK:Blk (w.alloc (.cells kz 233)) B 233 (AD ks):=Blk.new_of w B _ _ _ ekz eB.symm;have hW:Below B w (w.alloc (.cells kz 233)):=by rw[eB];exact(Below.refl _ w).alloc (Nat.le_refl _) _
 clear hsz e0 e1 e2 e3;have cA:=UI (hK.drewN 1);have cB:=UJ (hK.drewN 1);rw[←ep] at cA;rw[←eq] at cB;have HW:=I hW;clear hW;clear hkk ekz ep eq hK;go_enter Tryz.func132,Tryz.ntmps132
 go_upto_region 1 with fail
 rw[←eB];clear eB;have HM:=I hm;clear hm;generalize w.alloc (.cells kz 233)=w1 at cA cB HW⊢;refine wp_region_still_lit (by kernel_rfl) (by kernel_rfl) ?_;change wpStill _ _ w1.drew _ _ _
 repeat still_step
 still_call cA
 repeat still_step
 still_call cB
 repeat still_step
 refine wpStill_nil ?_
 try change _ w1.drew
 clear cA cB
 go_upto_region 3 with fail
 obtain⟨g,eg⟩:∃g,g=w1.heap.size:=⟨_,rfl⟩;have hB0:Blk (w1.alloc (.cells #[.int .u64 (v0.toNat:Int),.int .u64 (v1.toNat:Int),.int .u64 (v2.toNat:Int),.int .u64 (v3.toNat:Int)] 318)).drew g 318 (CY (full ks l (0 / 8))):=Blk.drewN (Blk.new_of w1 g _ _ _ HS.o.symm eg.symm) 1;have hW0:Below B w (w1.alloc (.cells #[.int .u64 (v0.toNat:Int),.int .u64 (v1.toNat:Int),.int .u64 (v2.toNat:Int),.int .u64 (v3.toNat:Int)] 318)).drew:=below_drewN (HW.o.alloc (by rw[EB.o];exact HW.o.size) _) 1;have hg:B≤g:=by rw[eg,EB.o];exact HW.o.size
 rw[←eg];generalize (w1.alloc (.cells #[.int .u64 (v0.toNat:Int),.int .u64 (v1.toNat:Int),.int .u64 (v2.toNat:Int),.int .u64 (v3.toNat:Int)] 318)).drew=w2 at hB0 hW0⊢;have HB0:=I hB0;clear hB0;have HW0:=I hW0;clear hW0;have HGB:=I hg;clear hg;clear HS HW eg x0 x1 x2 x3;have l5:(n:Int)≤100000:=by omega
 have c0:(n:Int)≤(c:Int):=by omega
 have hcm:c≤9223372036854775807:=by have:=HM.o;unfold maxLen at this;omega
 have hcm2:(c:Int)≤9223372036854775807:=by omega
 go_wp2_with fail
 go_loopw [8] (fun iv wr=>∃u:Nat,u≤n∧u % 8=0∧iv = .int .i64 (u:Int)∧Below B w wr∧Blk wr g 318 (CY (full ks l (u / 8)))) (fun iv _=>n - (intOf iv).toNat)
 case atStart=>exact⟨0,Nat.zero_le _,rfl,rfl,HW0.o,HB0.o⟩
 case round=>
  clear HB0 HW0;obtain⟨u,hu,hu8,rfl,hW,hB⟩:=hrel;have HW:=I hW;clear hW;have HB:=I hB;clear hB;have HU8:=I hu8;clear hu8;have d0:(0:Int)≤(u:Int):=by omega
  have d1:(u:Int)≤(n:Int):=by omega
  by_cases hx:n - u<8
  ·have hj:u / 8=n / 8:=by have:=HU8.o;omega
   have t1:(n:Int) - (u:Int)<8:=by omega
   have HX:=I hx;clear hx;have HJ:=I hj;clear hj;obtain⟨k,ek⟩:∃k,k=n % 256:=⟨_,rfl⟩;have hand:bits .and .i64 (n:Int) 255=(k:Int):=by rw[QM,ek];omega
   have k1:(k:Int)<256:=by omega
   have k2:(0:Int)≤(k:Int):=by omega
   have hwk:IntKind.u64.wrap (k:Int)=(k:Int):=by rw[IntKind.wrap_u64];omega
   have hu0:u=8*(l.length / 8):=by have:=HU8.o;have:=HN.o;have:=HX.o;omega
   have hll:(l.drop u).length=n - u:=by rw[List.length_drop,HN.o]
   obtain⟨mw,emw⟩:∃m,m=wd (Bt (l.drop u)):=⟨_,rfl⟩;obtain⟨lw,elw⟩:∃m,m=OY (stOf ks l):=⟨_,rfl⟩;have hmw:mw.toNat=Bt (l.drop u):=by rw[emw];exact Jt _ (Kc (by have:=HX.o;omega))
   have hx1:bits .or .u64 (mw.toNat:Int) (IntKind.u64.wrap ((k:Int)*72057594037927936))=(lw.toNat:Int):=by
    have h:=QN ks l;rw[←hu0,←hmw,←HN.o,←ek,←elw] at h;exact h
   have hx2:bits .or .u64 (mw.toNat:Int) ((k:Int)*72057594037927936)=(lw.toNat:Int):=by
    rw[←hx1,IntKind.wrap_u64];congr 1;omega
   have cA:=Mi (some (x.add u)) (n - u) (c - u) (l.drop u) wr B hll.symm (by have:=HX.o;omega) (Rd.drop (HR.o.below HW.o) u);have cB:u=c→Calls Tryz.prog 201 #[.slice (some x) 0 0] wr fun e w'=>e = .returned (wv (wd (Bt (l.drop u))))∧w'=wr:=fun h=>Mi (some x) 0 0 (l.drop u) wr B (by omega) (by decide) (.inl (by rw[List.eq_nil_of_length_eq_zero (l:=l.drop u) (by omega)];rfl))
   rw[←emw] at cA;rw[←emw] at cB;obtain⟨⟨a,b,cc,d⟩,e1⟩:∃t,t=addM (full ks l (u / 8)) lw:=⟨_,rfl⟩;obtain⟨c1,ec⟩:∃x,x=cc ^^^ 255#64:=⟨_,rfl⟩;obtain⟨V0,eV⟩:∃x:V,x=⟨a,b,c1,d⟩:=⟨_,rfl⟩;obtain⟨⟨a2,b2,c2,d2⟩,e2⟩:∃t,t=rnds 4 V0:=⟨_,rfl⟩;obtain⟨q1,eq1⟩:∃x,x=a2 ^^^ b2:=⟨_,rfl⟩;obtain⟨q2,eq2⟩:∃x,x=q1 ^^^ c2:=⟨_,rfl⟩;obtain⟨q3,eq3⟩:∃x,x=q2 ^^^ d2:=⟨_,rfl⟩;have hall:GO ks l=q3:=by
    have hv:(stOf ks l).v=full ks l (u / 8):=by rw[Fo,HJ.o,HN.o]
    rw[GO,finS,←elw,hv,←e1,fin,←ec,←eV,←e2,allX,←eq1,←eq2,←eq3]
   have x0:bits .xor .u64 (cc.toNat:Int) 255=(c1.toNat:Int):=by rw[ec];exact Bj cc 255#64
   have x1:bits .xor .u64 (a2.toNat:Int) (b2.toNat:Int)=(q1.toNat:Int):=by rw[eq1];exact Bj _ _
   have x2:bits .xor .u64 (q1.toNat:Int) (c2.toNat:Int)=(q2.toNat:Int):=by rw[eq2];exact Bj _ _
   have x3:bits .xor .u64 (q2.toNat:Int) (d2.toNat:Int)=(q3.toNat:Int):=by rw[eq3];exact Bj _ _
   have ct:=VV g (full ks l (u / 8)) lw wr HB.o;rw[←e1] at ct;have HALL:=I hall;clear hall;have EV:=I eV;clear eV;have E2:=I e2;clear e2;have HX0:=I x0;clear x0;have HX1:=I x1;clear x1;have HX2:=I x2;clear x2;have HX3:=I x3;clear x3;have HSZ:=I (Blk.lt HB.o);clear e1 ec eq1 eq2 eq3 hmw emw elw hll hu0 ek HJ HU8
   go_upto_region 7 with fail
   go_cut [] from 39 to 50 (fun wx=>Below B w wx∧Blk wx g 318 (CY ⟨a,b,cc,d⟩))
   case first=>
    have hcu:u=c∨u<c:=by omega
    rcases hcu with hcu | hcu
    ·have cB0:=cB hcu;clear cB
     clear cA;subst hcu
     go_wp2_with (first
      |(go_at_call 201;refine Calls.mono cB0 ?_;rintro e w' ⟨rfl,hw⟩;have hw:=hw.symm;subst hw;clear cB0)
      |(go_at_call 202;refine Calls.mono ct ?_;rintro e v1 ⟨rfl,hB1,hG1⟩;clear ct;have HB1:=I hB1;have HW1:=I (Al HW.o hG1 (by have:=HSZ.o;have:=HGB.o;omega) HGB.o);clear hB1 hG1))
     go_meet
     exact⟨HW1.o,HB1.o⟩
    ·clear cB
     have hcu2:(u:Int)<(c:Int):=by omega
     go_wp2_with (first
      |(go_at_call 201;refine Calls.mono cA ?_;rintro e w' ⟨rfl,hw⟩;have hw:=hw.symm;subst hw;clear cA)
      |(go_at_call 202;refine Calls.mono ct ?_;rintro e v1 ⟨rfl,hB1,hG1⟩;clear ct;have HB1:=I hB1;have HW1:=I (Al HW.o hG1 (by have:=HSZ.o;have:=HGB.o;omega) HGB.o);clear hB1 hG1))
     go_meet
     exact⟨HW1.o,HB1.o⟩
   case rest=>
    obtain⟨hW1,hB1⟩:=hcut;have HB1:=I hB1;clear hB1;have HW1:=I hW1;clear hW1;have k2:wc.cell? ⟨g,2,none⟩=some (.int .u64 (cc.toNat:Int)):=by rw[HB1.o.cell];rfl
    have fz:=HB1.o.frozen;have x0:=HX0.o;clear HX0 hand hwk hx1 hx2 cA cB ct
    go_upto_region 8 with fail
    refine wp_region_still_tail 8 (by kernel_rfl) (by kernel_rfl) ?_;simp only[List.take_succ_cons,List.take_zero,List.drop_succ_cons,List.drop_zero];change wpStill _ _ wc.drew _ _ _
    repeat still_step
    refine wpStill_nil ?_;change wpList _ _ _ _ _ wc.drew
    go_upto_region 9 with fail
    have hB2:Blk (wc.setCell ⟨g,2,none⟩ (.int .u64 (c1.toNat:Int))).drew g 318 (CY V0):=by rw[EV.o];exact Blk.set HB1.o 2 (wv c1)
    have hW2:Below B w (wc.setCell ⟨g,2,none⟩ (.int .u64 (c1.toNat:Int))).drew:=below_drewN (Am HW1.o HGB.o _) 1;generalize (wc.setCell ⟨g,2,none⟩ (.int .u64 (c1.toNat:Int))).drew=v2 at hB2 hW2⊢;have HB2:=I hB2;clear hB2;have HW2:=I hW2;clear hW2;clear k2 fz x0 HB1 HW1 HSZ HB HW
    go_wp2_with fail
    go_loopw [9] (fun iv wr=>∃i:Nat,i≤4∧iv = .int .i64 (i:Int)∧Below B w wr∧Blk wr g 318 (CY (rnds i V0))) (fun iv _=>4 - (intOf iv).toNat)
    case atStart=>exact⟨0,by decide,rfl,HW2.o,HB2.o⟩
    case round=>
     obtain⟨i,hi,rfl,hW3,hB3⟩:=hrel;clear HB2 HW2;have HB3:=I hB3;clear hB3;have HW3:=I hW3;clear hW3
     by_cases hi4:i=4
     ·subst hi4
      have hb3:=HB3.o;rw[←E2.o] at hb3;have k0:wr.cell? ⟨g,0,none⟩=some (.int .u64 (a2.toNat:Int)):=by rw[hb3.cell];rfl
      have k1:wr.cell? ⟨g,1,none⟩=some (.int .u64 (b2.toNat:Int)):=by rw[hb3.cell];rfl
      have k2:wr.cell? ⟨g,2,none⟩=some (.int .u64 (c2.toNat:Int)):=by rw[hb3.cell];rfl
      have k3:wr.cell? ⟨g,3,none⟩=some (.int .u64 (d2.toNat:Int)):=by rw[hb3.cell];rfl
      have x1:=HX1.o;have x2:=HX2.o;have x3:=HX3.o;clear hb3
      go_upto_region 13 with fail
      refine wp_region_still_lit (by kernel_rfl) (by kernel_rfl) ?_;change wpStill _ _ wr.drew _ _ _
      repeat still_step
      refine wpStill_nil ?_
      try change _ wr.drew
      go_wp2_with fail
      go_ret;exact⟨by rw[HALL.o];rfl,by rw[←EB.o];exact below_drewN HW3.o 1⟩
     ·have j1:(i:Int)<4:=by omega
      have j2:(0:Int)≤(i:Int):=by omega
      have cr:=NC g (rnds i V0) wr HB3.o;have HSZ:=I (Blk.lt HB3.o);have HI4:=I hi4;clear hi4
      go_wp2_with (go_at_call 203;refine Calls.mono cr ?_;rintro e v4 ⟨rfl,hB4,hG4⟩;clear cr;have HB4:=I hB4;have HG4:=I hG4;clear hB4 hG4)
      go_roundw
      case rel=>exact⟨i+1,by have:=HI4.o;omega,by go_num,Al HW3.o HG4.o (by have:=HSZ.o;have:=HGB.o;omega) HGB.o,HB4.o⟩
      case measure=>simp [intOf];omega
  ·have t1:(8:Int)≤(n:Int) - (u:Int):=by omega
   have t2:(u:Int)+8≤(n:Int):=by omega
   have t3:u+8≤n:=by omega
   have HX:=I hx;clear hx;have hj:(u+8) / 8=u / 8+1:=by omega
   have hu0:u=8*(u / 8):=by have:=HU8.o;omega
   have hl8:((l.drop u).take 8).length=8:=by rw[List.length_take,List.length_drop,←HN.o];omega
   have cA:=Mi (some (x.add u)) 8 (c - u) ((l.drop u).take 8) wr B hl8.symm (by decide) (Rd.take (Rd.drop (HR.o.below HW.o) u) 8);obtain⟨mw,emw⟩:∃m,m=wd (Bt ((l.drop u).take 8)):=⟨_,rfl⟩;rw[←emw] at cA;have hfull:addM (full ks l (u / 8)) mw=full ks l ((u+8) / 8):=by rw[hj,full,←hu0,←emw]
   have ct:=VV g (full ks l (u / 8)) mw wr HB.o;rw[hfull] at ct;have HSZ:=I (Blk.lt HB.o);clear hj hu0 hl8 emw hfull
   go_wp2_with (first
    |(go_at_call 201;refine Calls.mono cA ?_;rintro e w' ⟨rfl,hw⟩;have hw:=hw.symm;subst hw;clear cA)
    |(go_at_call 202;refine Calls.mono ct ?_;rintro e v1 ⟨rfl,hB1,hG1⟩;clear ct;have HB1:=I hB1;have HW1:=I (Al HW.o hG1 (by have:=HSZ.o;have:=HGB.o;omega) HGB.o);clear hB1 hG1))
   go_roundw
   case rel=>exact⟨u+8,by omega,by have:=HU8.o;omega,by go_num,HW1.o,HB1.o⟩
   case measure=>simp [intOf];omega
end Si
end
section
namespace Si
open Go.RowKit Af
theorem QQ (ks:Nat→UInt8) (n c:Nat) (l:List UInt8) (w:World) (hn:n=l.length) (hl:n≤100000) (hc:n≤c) (hm:c≤maxLen) (h0:n=0) :
  Calls Tryz.prog 132 #[.agg (AD ks),.slice none n c] w fun e w'=>e = .returned (wv (GO ks l))∧Below w.heap.size w w':=by
 obtain⟨B,eB⟩:∃B,B=w.heap.size:=⟨_,rfl⟩;have EB:=I eB;have H0:=I h0;clear h0;have HN:=I hn;clear hn;have hkk:AD ks=#[.int .u8 ((ks 0).toNat:Int),.int .u8 ((ks 1).toNat:Int),.int .u8 ((ks 2).toNat:Int),.int .u8 ((ks 3).toNat:Int),.int .u8 ((ks 4).toNat:Int),.int .u8 ((ks 5).toNat:Int),.int .u8 ((ks 6).toNat:Int),.int .u8 ((ks 7).toNat:Int),.int .u8 ((ks 8).toNat:Int),.int .u8 ((ks 9).toNat:Int),.int .u8 ((ks 10).toNat:Int),.int .u8 ((ks 11).toNat:Int),.int .u8 ((ks 12).toNat:Int),.int .u8 ((ks 13).toNat:Int),.int .u8 ((ks 14).toNat:Int),.int .u8 ((ks 15).toNat:Int)]:=rfl;have hsz:stcV ks=#[wv (start ks).a,wv (start ks).b,wv (start ks).c,wv (start ks).d]:=rfl;obtain⟨p,ep⟩:∃x,x=kA ks:=⟨_,rfl⟩;obtain⟨q,eq⟩:∃x,x=kB ks:=⟨_,rfl⟩;obtain⟨v0,e0⟩:∃x,x=0x736f6d6570736575#64 ^^^ p:=⟨_,rfl⟩;obtain⟨v1,e1⟩:∃x,x=0x646f72616e646f6d#64 ^^^ q:=⟨_,rfl⟩;obtain⟨v2,e2⟩:∃x,x=0x6c7967656e657261#64 ^^^ p:=⟨_,rfl⟩;obtain⟨v3,e3⟩:∃x,x=0x7465646279746573#64 ^^^ q:=⟨_,rfl⟩;have x0:bits .xor .u64 8317987319222330741 (p.toNat:Int)=(v0.toNat:Int):=by rw[e0];exact Bj 0x736f6d6570736575#64 p
 have x1:bits .xor .u64 7237128888997146477 (q.toNat:Int)=(v1.toNat:Int):=by rw[e1];exact Bj 0x646f72616e646f6d#64 q
 have x2:bits .xor .u64 7816392313619706465 (p.toNat:Int)=(v2.toNat:Int):=by rw[e2];exact Bj 0x6c7967656e657261#64 p
 have x3:bits .xor .u64 8387220255154660723 (q.toNat:Int)=(v3.toNat:Int):=by rw[e3];exact Bj 0x7465646279746573#64 q
 have hs:stcV ks=#[.int .u64 (v0.toNat:Int),.int .u64 (v1.toNat:Int),.int .u64 (v2.toNat:Int),.int .u64 (v3.toNat:Int)]:=by
  rw[hsz,e0,e1,e2,e3,ep,eq];rfl
 have HS:=I hs;clear hs;obtain⟨kz,ekz⟩:∃z,z=AD ks:=⟨_,rfl⟩;rw[←ekz];have EKZ:=I ekz;have hK:Blk (w.alloc (.cells kz 233)) B 233 (AD ks):=Blk.new_of w B _ _ _ ekz eB.symm;have hW:Below B w (w.alloc (.cells kz 233)):=by rw[eB];exact(Below.refl _ w).alloc (Nat.le_refl _) _
 clear hsz e0 e1 e2 e3;have cA:=UI (hK.drewN 1);have cB:=UJ (hK.drewN 1);rw[←ep] at cA;rw[←eq] at cB;have HW:=I hW;clear hW;clear hkk ekz ep eq hK;go_enter Tryz.func132,Tryz.ntmps132
 go_upto_region 1 with fail
 rw[←eB];clear eB;have HM:=I hm;clear hm;generalize w.alloc (.cells kz 233)=w1 at cA cB HW⊢;refine wp_region_still_lit (by kernel_rfl) (by kernel_rfl) ?_;change wpStill _ _ w1.drew _ _ _
 repeat still_step
 still_call cA
 repeat still_step
 still_call cB
 repeat still_step
 refine wpStill_nil ?_
 try change _ w1.drew
 clear cA cB
 go_upto_region 3 with fail
 obtain⟨g,eg⟩:∃g,g=w1.heap.size:=⟨_,rfl⟩;have hB0:Blk (w1.alloc (.cells #[.int .u64 (v0.toNat:Int),.int .u64 (v1.toNat:Int),.int .u64 (v2.toNat:Int),.int .u64 (v3.toNat:Int)] 318)).drew g 318 (CY (full ks l (0 / 8))):=Blk.drewN (Blk.new_of w1 g _ _ _ HS.o.symm eg.symm) 1;have hW0:Below B w (w1.alloc (.cells #[.int .u64 (v0.toNat:Int),.int .u64 (v1.toNat:Int),.int .u64 (v2.toNat:Int),.int .u64 (v3.toNat:Int)] 318)).drew:=below_drewN (HW.o.alloc (by rw[EB.o];exact HW.o.size) _) 1;have hg:B≤g:=by rw[eg,EB.o];exact HW.o.size
 rw[←eg];generalize (w1.alloc (.cells #[.int .u64 (v0.toNat:Int),.int .u64 (v1.toNat:Int),.int .u64 (v2.toNat:Int),.int .u64 (v3.toNat:Int)] 318)).drew=w2 at hB0 hW0⊢;have HB0:=I hB0;clear hB0;have HW0:=I hW0;clear hW0;have HGB:=I hg;clear hg;clear HS HW eg x0 x1 x2 x3;have l5:(n:Int)≤100000:=by omega
 have c0:(n:Int)≤(c:Int):=by omega
 have hcm:c≤9223372036854775807:=by have:=HM.o;unfold maxLen at this;omega
 have hcm2:(c:Int)≤9223372036854775807:=by omega
 go_wp2_with fail
 go_loopw [8] (fun iv wr=>∃u:Nat,u≤n∧u % 8=0∧iv = .int .i64 (u:Int)∧Below B w wr∧Blk wr g 318 (CY (full ks l (u / 8)))) (fun iv _=>n - (intOf iv).toNat)
 case atStart=>exact⟨0,Nat.zero_le _,rfl,rfl,HW0.o,HB0.o⟩
 case round=>
  clear HB0 HW0;obtain⟨u,hu,hu8,rfl,hW,hB⟩:=hrel;have HW:=I hW;clear hW;have HB:=I hB;clear hB;have HU8:=I hu8;clear hu8;have d0:(0:Int)≤(u:Int):=by omega
  have d1:(u:Int)≤(n:Int):=by omega
  by_cases hx:n - u<8
  ·have hj:u / 8=n / 8:=by have:=HU8.o;omega
   have t1:(n:Int) - (u:Int)<8:=by omega
   have HX:=I hx;clear hx;have HJ:=I hj;clear hj;obtain⟨k,ek⟩:∃k,k=n % 256:=⟨_,rfl⟩;have hand:bits .and .i64 (n:Int) 255=(k:Int):=by rw[QM,ek];omega
   have k1:(k:Int)<256:=by omega
   have k2:(0:Int)≤(k:Int):=by omega
   have hwk:IntKind.u64.wrap (k:Int)=(k:Int):=by rw[IntKind.wrap_u64];omega
   have hu0:u=8*(l.length / 8):=by have:=HU8.o;have:=HN.o;have:=HX.o;omega
   have hll:(l.drop u).length=n - u:=by rw[List.length_drop,HN.o]
   obtain⟨mw,emw⟩:∃m,m=wd (Bt (l.drop u)):=⟨_,rfl⟩;obtain⟨lw,elw⟩:∃m,m=OY (stOf ks l):=⟨_,rfl⟩;have hmw:mw.toNat=Bt (l.drop u):=by rw[emw];exact Jt _ (Kc (by have:=HX.o;omega))
   have hx1:bits .or .u64 (mw.toNat:Int) (IntKind.u64.wrap ((k:Int)*72057594037927936))=(lw.toNat:Int):=by
    have h:=QN ks l;rw[←hu0,←hmw,←HN.o,←ek,←elw] at h;exact h
   have hx2:bits .or .u64 (mw.toNat:Int) ((k:Int)*72057594037927936)=(lw.toNat:Int):=by
    rw[←hx1,IntKind.wrap_u64];congr 1;omega
   have cA:=Mi none (n - u) (c - u) (l.drop u) wr B hll.symm (by have:=HX.o;omega) (.inl (by rw[List.eq_nil_of_length_eq_zero (l:=l.drop u) (by have:=H0.o;omega)];rfl));have cB:u=c→Calls Tryz.prog 201 #[.slice none 0 0] wr fun e w'=>e = .returned (wv (wd (Bt (l.drop u))))∧w'=wr:=fun h=>Mi none 0 0 (l.drop u) wr B (by omega) (by decide) (.inl (by rw[List.eq_nil_of_length_eq_zero (l:=l.drop u) (by omega)];rfl))
   rw[←emw] at cA;rw[←emw] at cB;obtain⟨⟨a,b,cc,d⟩,e1⟩:∃t,t=addM (full ks l (u / 8)) lw:=⟨_,rfl⟩;obtain⟨c1,ec⟩:∃x,x=cc ^^^ 255#64:=⟨_,rfl⟩;obtain⟨V0,eV⟩:∃x:V,x=⟨a,b,c1,d⟩:=⟨_,rfl⟩;obtain⟨⟨a2,b2,c2,d2⟩,e2⟩:∃t,t=rnds 4 V0:=⟨_,rfl⟩;obtain⟨q1,eq1⟩:∃x,x=a2 ^^^ b2:=⟨_,rfl⟩;obtain⟨q2,eq2⟩:∃x,x=q1 ^^^ c2:=⟨_,rfl⟩;obtain⟨q3,eq3⟩:∃x,x=q2 ^^^ d2:=⟨_,rfl⟩;have hall:GO ks l=q3:=by
    have hv:(stOf ks l).v=full ks l (u / 8):=by rw[Fo,HJ.o,HN.o]
    rw[GO,finS,←elw,hv,←e1,fin,←ec,←eV,←e2,allX,←eq1,←eq2,←eq3]
   have x0:bits .xor .u64 (cc.toNat:Int) 255=(c1.toNat:Int):=by rw[ec];exact Bj cc 255#64
   have x1:bits .xor .u64 (a2.toNat:Int) (b2.toNat:Int)=(q1.toNat:Int):=by rw[eq1];exact Bj _ _
   have x2:bits .xor .u64 (q1.toNat:Int) (c2.toNat:Int)=(q2.toNat:Int):=by rw[eq2];exact Bj _ _
   have x3:bits .xor .u64 (q2.toNat:Int) (d2.toNat:Int)=(q3.toNat:Int):=by rw[eq3];exact Bj _ _
   have ct:=VV g (full ks l (u / 8)) lw wr HB.o;rw[←e1] at ct;have HALL:=I hall;clear hall;have EV:=I eV;clear eV;have E2:=I e2;clear e2;have HX0:=I x0;clear x0;have HX1:=I x1;clear x1;have HX2:=I x2;clear x2;have HX3:=I x3;clear x3;have HSZ:=I (Blk.lt HB.o);clear e1 ec eq1 eq2 eq3 hmw emw elw hll hu0 ek HJ HU8
   go_upto_region 7 with fail
   go_cut [] from 39 to 50 (fun wx=>Below B w wx∧Blk wx g 318 (CY ⟨a,b,cc,d⟩))
   case first=>
    have hcu:u=c∨u<c:=by omega
    rcases hcu with hcu | hcu
    ·have cB0:=cB hcu;clear cB
     clear cA;subst hcu
     go_wp2_with (first
      |(go_at_call 201;refine Calls.mono cB0 ?_;rintro e w' ⟨rfl,hw⟩;have hw:=hw.symm;subst hw;clear cB0)
      |(go_at_call 202;refine Calls.mono ct ?_;rintro e v1 ⟨rfl,hB1,hG1⟩;clear ct;have HB1:=I hB1;have HW1:=I (Al HW.o hG1 (by have:=HSZ.o;have:=HGB.o;omega) HGB.o);clear hB1 hG1))
     go_meet
     exact⟨HW1.o,HB1.o⟩
    ·clear cB
     have hcu2:(u:Int)<(c:Int):=by omega
     go_wp2_with (first
      |(go_at_call 201;refine Calls.mono cA ?_;rintro e w' ⟨rfl,hw⟩;have hw:=hw.symm;subst hw;clear cA)
      |(go_at_call 202;refine Calls.mono ct ?_;rintro e v1 ⟨rfl,hB1,hG1⟩;clear ct;have HB1:=I hB1;have HW1:=I (Al HW.o hG1 (by have:=HSZ.o;have:=HGB.o;omega) HGB.o);clear hB1 hG1))
     go_meet
     exact⟨HW1.o,HB1.o⟩
   case rest=>
    obtain⟨hW1,hB1⟩:=hcut;have HB1:=I hB1;clear hB1;have HW1:=I hW1;clear hW1;have k2:wc.cell? ⟨g,2,none⟩=some (.int .u64 (cc.toNat:Int)):=by rw[HB1.o.cell];rfl
    have fz:=HB1.o.frozen;have x0:=HX0.o;clear HX0 hand hwk hx1 hx2 cA cB ct
    go_upto_region 8 with fail
    refine wp_region_still_tail 8 (by kernel_rfl) (by kernel_rfl) ?_;simp only[List.take_succ_cons,List.take_zero,List.drop_succ_cons,List.drop_zero];change wpStill _ _ wc.drew _ _ _
    repeat still_step
    refine wpStill_nil ?_;change wpList _ _ _ _ _ wc.drew
    go_upto_region 9 with fail
    have hB2:Blk (wc.setCell ⟨g,2,none⟩ (.int .u64 (c1.toNat:Int))).drew g 318 (CY V0):=by rw[EV.o];exact Blk.set HB1.o 2 (wv c1)
    have hW2:Below B w (wc.setCell ⟨g,2,none⟩ (.int .u64 (c1.toNat:Int))).drew:=below_drewN (Am HW1.o HGB.o _) 1;generalize (wc.setCell ⟨g,2,none⟩ (.int .u64 (c1.toNat:Int))).drew=v2 at hB2 hW2⊢;have HB2:=I hB2;clear hB2;have HW2:=I hW2;clear hW2;clear k2 fz x0 HB1 HW1 HSZ HB HW
    go_wp2_with fail
    go_loopw [9] (fun iv wr=>∃i:Nat,i≤4∧iv = .int .i64 (i:Int)∧Below B w wr∧Blk wr g 318 (CY (rnds i V0))) (fun iv _=>4 - (intOf iv).toNat)
    case atStart=>exact⟨0,by decide,rfl,HW2.o,HB2.o⟩
    case round=>
     obtain⟨i,hi,rfl,hW3,hB3⟩:=hrel;clear HB2 HW2;have HB3:=I hB3;clear hB3;have HW3:=I hW3;clear hW3
     by_cases hi4:i=4
     ·subst hi4
      have hb3:=HB3.o;rw[←E2.o] at hb3;have k0:wr.cell? ⟨g,0,none⟩=some (.int .u64 (a2.toNat:Int)):=by rw[hb3.cell];rfl
      have k1:wr.cell? ⟨g,1,none⟩=some (.int .u64 (b2.toNat:Int)):=by rw[hb3.cell];rfl
      have k2:wr.cell? ⟨g,2,none⟩=some (.int .u64 (c2.toNat:Int)):=by rw[hb3.cell];rfl
      have k3:wr.cell? ⟨g,3,none⟩=some (.int .u64 (d2.toNat:Int)):=by rw[hb3.cell];rfl
      have x1:=HX1.o;have x2:=HX2.o;have x3:=HX3.o;clear hb3
      go_upto_region 13 with fail
      refine wp_region_still_lit (by kernel_rfl) (by kernel_rfl) ?_;change wpStill _ _ wr.drew _ _ _
      repeat still_step
      refine wpStill_nil ?_
      try change _ wr.drew
      go_wp2_with fail
      go_ret;exact⟨by rw[HALL.o];rfl,by rw[←EB.o];exact below_drewN HW3.o 1⟩
     ·have j1:(i:Int)<4:=by omega
      have j2:(0:Int)≤(i:Int):=by omega
      have cr:=NC g (rnds i V0) wr HB3.o;have HSZ:=I (Blk.lt HB3.o);have HI4:=I hi4;clear hi4
      go_wp2_with (go_at_call 203;refine Calls.mono cr ?_;rintro e v4 ⟨rfl,hB4,hG4⟩;clear cr;have HB4:=I hB4;have HG4:=I hG4;clear hB4 hG4)
      go_roundw
      case rel=>exact⟨i+1,by have:=HI4.o;omega,by go_num,Al HW3.o HG4.o (by have:=HSZ.o;have:=HGB.o;omega) HGB.o,HB4.o⟩
      case measure=>simp [intOf];omega
  ·have t1:(8:Int)≤(n:Int) - (u:Int):=by omega
   exact absurd H0.o (by omega)
theorem TH (ks:Nat→UInt8) (A:Option Addr) (n c:Nat) (l:List UInt8) (w:World) (hn:n=l.length) (hl:n≤100000) (hc:n≤c) (hm:c≤maxLen) (hr:Rd w w.heap.size A (bvs l)) :
  Calls Tryz.prog 132 #[.agg (AD ks),.slice A n c] w fun e w'=>e = .returned (wv (GO ks l))∧Below w.heap.size w w':=by
 cases A with
 |some x=>exact QO ks x n c l w hn hl hc hm hr
 |none=>
  refine QQ ks n c l w hn hl hc hm ?_;rcases hr with h | ⟨b,o,h1,_,_⟩
  ·rw[hn,List.map_eq_nil_iff.1 h];rfl
  ·cases h1
end Si
end
section
namespace Si
open Go.RowKit Af
theorem BD:(Tryz.prog.info? 5).map (fun i=>(i.zero,i.size,i.bytes))=some (some (.int .u8 0),1,1):=by kernel_rfl
theorem Fm (w:World) (t:TypeId) (cs:Array Value) (l:List Value) (h:cs.toList=l) (N:Nat) (hN:w.heap.size=N):Rd (w.alloc (.cells cs t)) (N+1) (some ⟨N,0,none⟩) l:=by
 subst hN;refine .inr ⟨w.heap.size,0,rfl,by omega,fun i u hu=>?_⟩;rw[Nat.zero_add,(Blk.new w t cs).cell i];rw[←h] at hu
 simpa using hu
theorem Dk {w w':World} {base:Nat} {t:TypeId} {v:Value} {n:Nat} {xs:List Value} {o:Obj} (h:w.ownsRow base t 1 v n xs) (e:w'.heap=w.heap.push o):w'.ownsRow base t 1 v n xs:=by
 obtain⟨hl,h | ⟨g,cap,cur,hv,hg,hcur,hr⟩⟩:=h
 ·exact⟨hl,.inl h⟩
 ·refine⟨hl,.inr ⟨g,cap,cur,hv,hg,?_,hr⟩⟩
  have hlt:=Blk.lt (t:=t) (cs:=cur) hcur;rw[e,Array.getElem?_push_lt hlt,←Array.getElem?_eq_getElem hlt];exact hcur
theorem Pc {w:World} (t:TypeId) (vs:List Value) (rows:List (List UInt8)) (cs:Array Value) (hc:cs.toList=vs) (hl:vs.length=rows.length)
  (h:∀i (h:i<rows.length),∃(Ai:Option Addr) (ci:Nat),vs[i]? = some (.slice Ai (rows[i]).length ci)∧Rd w w.heap.size Ai (bvs rows[i])):Rows (w.alloc (.cells cs t)) (w.alloc (.cells cs t)).heap.size (some ⟨w.heap.size,0,none⟩) rows:=by
 refine⟨vs,hl,(Fm w t cs vs hc w.heap.size rfl).more (by simp),fun i hi=>?_⟩;obtain⟨Ai,ci,h1,h2⟩:=h i hi;exact⟨Ai,ci,h1,(h2.alloc (Nat.le_refl _) _).more (by simp)⟩
def cnt (n:Nat):List UInt8:=(List.range n).map UInt8.ofNat
end Si
end
end Go.Proofs.YtfcjeebnkigeaaaGreat
