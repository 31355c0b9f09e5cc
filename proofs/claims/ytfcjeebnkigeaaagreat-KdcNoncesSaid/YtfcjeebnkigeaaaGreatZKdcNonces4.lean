import Derived.Deep.CutBlock
import Derived.Test.YtfcjeebnkigeaaaGreatProg
import Derived.StillTailTactics
import Derived.Test.YtfcjeebnkigeaaaGreatZKdcNonces1
import Derived.Test.YtfcjeebnkigeaaaGreatZKdcNonces2
import Derived.Test.YtfcjeebnkigeaaaGreatZKdcNonces3
section
set_option linter.unusedVariables false
namespace Go.Proofs.YtfcjeebnkigeaaaGreat.Sp
open Go.RowKit Go.Proofs.YtfcjeebnkigeaaaGreat.Mem
def scells (K:Nat→Wd) (up lo:Wd) (n m:Nat):Array Value:=((List.range n).map fun i=>if i<m then bv (sbyte K up lo i) else bv 0).toArray
theorem scells_at (K:Nat→Wd) (up lo:Wd) (n m i:Nat) (h:i<n):(scells K up lo n m)[i]? = some (if i<m then bv (sbyte K up lo i) else bv 0):=by
 rw[scells,List.getElem?_toArray];simp [h]
theorem scells_zero (K:Nat→Wd) (up lo:Wd) (n:Nat):zeros n=scells K up lo n 0:=by
 unfold zeros scells
 congr 1
 apply List.ext_getElem?
 intro j
 rw[List.getElem?_map]
 rcases Nat.lt_or_ge j n with h | h
 ·simp [h]
 ·rw[List.getElem?_eq_none (by simpa using h),List.getElem?_eq_none (by simpa using h)];rfl
theorem scells_set (K:Nat→Wd) (up lo:Wd) (n m:Nat) (h:m<n):(scells K up lo n m).setIfInBounds m (bv (sbyte K up lo m))=scells K up lo n (m+1):=by
 unfold scells
 rw[List.setIfInBounds_toArray]
 congr 1
 apply List.ext_getElem?
 intro j
 rw[List.getElem?_set,List.getElem?_map,List.getElem?_map]
 by_cases hj:m=j
 ·subst hj;simp [h]
 ·rw[if_neg hj]
  rcases Nat.lt_or_ge j n with h2 | h2
  ·have e:(j<m)=(j<m+1):=propext ⟨by omega,by omega⟩
   simp [h2,e]
  ·rw[List.getElem?_eq_none (by simpa using h2)];rfl
theorem scells_all (K:Nat→Wd) (up lo:Wd) (n m:Nat) (h:n≤m):scells K up lo n m=(bvs (strm K up lo n)).toArray:=by
 unfold scells strm bvs
 rw[List.map_map]
 congr 1
 apply List.map_congr_left
 intro j hj
 rw[if_pos (by have:=List.mem_range.1 hj;omega)];rfl
theorem blk64_lt (K:Nat→Wd) (up lo:Wd) (i:Nat):blk64 K up lo i<18446744073709551616:=by
 have h1:=wd_lt (blockK K (up,lo+BitVec.ofNat 32 i)).1
 have h2:=wd_lt (blockK K (up,lo+BitVec.ofNat 32 i)).2
 unfold blk64;omega
set_option maxRecDepth 100000 in
set_option maxHeartbeats 1600000 in
theorem put_any (K:Nat→Wd) (up lo:Wd) (n j g c:Nat) (w:World) (h8:8*j<n) (hn:n≤2147483647) (hB:Blk w g 5 (scells K up lo n (8*j))) :
  Calls Tryz.prog 264 #[.slice (some ⟨g,8*j,none⟩) (n - 8*j) c,.int .u64 (blk64 K up lo j:Nat)] w fun e w'=>e = .returned (.tuple #[])∧Blk w' g 5 (scells K up lo n (min (8*j+8) n))∧w.grownBy w' (some g):=by
 obtain⟨X,eX⟩:∃X,X=blk64 K up lo j:=⟨_,rfl⟩
 obtain⟨L,eL⟩:∃L,L=n - 8*j:=⟨_,rfl⟩
 obtain⟨M,eM⟩:∃M,M=min L 8:=⟨_,rfl⟩
 obtain⟨o,eo⟩:∃o,o=8*j:=⟨_,rfl⟩
 rw[←eX,←eL,←eo]
 rw[←eo] at hB
 have hX:X<18446744073709551616:=eX▸blk64_lt K up lo j
 have hmin:min (L:Int) 8=(M:Int):=by omega
 have EX:=Lib.hid eX;clear eX
 have EL:=Lib.hid eL;clear eL
 have EM:=Lib.hid eM;clear eM
 have EO:=Lib.hid eo;clear eo
 have HB:=Lib.hid hB;clear hB
 have H8:=Lib.hid h8;clear h8
 have HN:=Lib.hid hn;clear hn
 go_enter Tryz.func264,Tryz.ntmps264
 go_upto_region 0 with fail
 go_cut [7,8] from 5 to 8 (fun mv zv wx=>mv = .int .i64 (M:Int)∧zv = .int .i64 0∧wx=w)
 case first=>
  go_wp2_with fail
  all_goals go_meet
  all_goals exact⟨congrArg (Value.int .i64) (by omega),rfl,rfl⟩
 obtain⟨rfl,rfl,rfl⟩:=hcut
 clear hmin
 go_wp2_with fail
 go_loopw [8] (fun iv wr=>∃i:Nat,i≤M∧iv = .int .i64 (i:Int)∧Blk wr g 5 (scells K up lo n (o+i))∧wc.grownBy wr (some g)) (fun iv _=>M - (intOf iv).toNat)
 case atStart=>exact⟨0,Nat.zero_le _,rfl,HB.out,World.grownBy.refl _ _⟩
 case round=>
  obtain⟨i,hi,rfl,hB,hg⟩:=hrel
  by_cases hM:i=M
  ·have e1:decide ((i:Int)<(M:Int))=false:=by simp;omega
   have e2:¬i<M:=by omega
   have HB1:=Lib.hid hB;clear hB
   have HG1:=Lib.hid hg;clear hg
   have HM:=Lib.hid hM;clear hM
   go_wp2_with fail
   go_end0
   refine⟨rfl,?_,HG1.out⟩
   have e:o+i=min (o+8) n:=by have:=EM.out;have:=EL.out;have:=EO.out;have:=H8.out;have:=HM.out;omega
   rw[←e]
   exact HB1.out
  ·have e1:(i:Int)<(M:Int):=by omega
   have e2:i<M:=by omega
   have e3:i<L:=by have:=EM.out;omega
   have e4:(i:Int)<(L:Int):=by omega
   have e5:(0:Int)≤(i:Int):=by omega
   have e6:i<8:=by have:=EM.out;omega
   have hon:o+i<n:=by have:=EM.out;have:=EL.out;have:=EO.out;omega
   have hy:=hB.cell (o+i)
   rw[scells_at _ _ _ _ _ _ hon,if_neg (by omega)] at hy
   simp only[bv] at hy
   have fz:=hB.frozen
   have HB1:=Lib.hid hB;clear hB
   have HG1:=Lib.hid hg;clear hg
   clear hM
   go_wp2_with fail
   go_roundw
   case rel=>
    refine⟨i+1,by omega,by go_num,?_,g_set HG1.out (.inl rfl) _⟩
    have hs:=HB1.out.set (o+i) (bv (sbyte K up lo (o+i)))
    rw[scells_set K up lo n (o+i) hon] at hs
    have hv:bv (sbyte K up lo (o+i)) = .int .u8 ((X:Int) / 2 ^ (8*i) % 256):=by
     have q1:(o+i) / 8=j:=by have:=EO.out;omega
     have q2:(o+i) % 8=i:=by have:=EO.out;omega
     have q3:(2:Nat) ^ (8*i)=256 ^ i:=by rw[Nat.pow_mul]
     unfold bv sbyte
     rw[q1,q2,←EX.out,UInt8.toNat_ofNat',←q3]
     congr 1
    rw[hv] at hs
    exact hs
   case measure=>simp [intOf];omega
theorem stream_nil (b:Option Addr) (N:Int) (n:Int) (w:World) (h:b=none∨n<1) :
  Calls Tryz.prog 227 #[.pointer b,.int .u64 N,.int .i64 n] w fun e w'=>e = .returned (.slice none 0 0)∧w'=w:=by
 by_cases hb:b=none
 ·subst hb
  clear h
  go_enter Tryz.func227,Tryz.ntmps227
  go_wp2
  go_ret
  exact⟨rfl,rfl⟩
 ·have hn:n<1:=h.resolve_left hb
  have e1:decide (n<1)=true:=by simpa using hn
  cases b with
  |none=>exact absurd rfl hb
  |some a=>
   clear hb h
   go_enter Tryz.func227,Tryz.ntmps227
   go_wp2
   go_ret
   exact⟨rfl,rfl⟩
theorem u8_info:(Tryz.prog.info? 5).map (fun i=>(i.zero,i.size,i.bytes))=some (some (.int .u8 0),1,1):=by kernel_rfl
def upW (N:Nat):Wd:=BitVec.ofNat 32 (N / 4294967296)
def loW (N:Nat):Wd:=BitVec.ofNat 32 N
theorem blk64_or (x y:Wd):bits .or .u64 ((y.toNat:Int)*4294967296 % 18446744073709551616) (x.toNat:Int)=((x.toNat+4294967296*y.toNat:Nat):Int):=by
 have hx:=wd_lt x;have hy:=wd_lt y
 have e:(y.toNat:Int)*4294967296 % 18446744073709551616=((y.toNat*4294967296:Nat):Int):=by omega
 rw[e,u64_or_nat _ _ (by omega) (by omega),nat_join 32 (y.toNat*4294967296) x.toNat (by omega) (by omega)]
 omega
set_option maxRecDepth 100000 in
set_option maxHeartbeats 1600000 in
theorem stream_any (b:Nat) (ks:Nat→UInt8) (m:Bool) (N n:Nat) (nv:Int) (w:World) (hnv:nv=(n:Int)) (hn1:1≤n) (hn2:n≤1000000) (hN:N<18446744073709551616) (hK:Key w b ks m) :
  Calls Tryz.prog 227 #[.pointer (some ⟨b,0,none⟩),.int .u64 (N:Int),.int .i64 nv] w fun e w'=>∃g,e = .returned (.slice (some ⟨g,0,none⟩) n n)∧w.heap.size≤g∧
   Blk w' g 5 (bvs (strm (kw ks) (upW N) (loW N) n)).toArray∧Key w' b ks true∧w.grownBy w' (some b)∧(m=true→Below w.heap.size w w'):=by
 subst hnv
 have cn:=need_any b ks m w hK
 have hblt:=hK.lt
 have i1:decide ((n:Int)<1)=false:=by simp;omega
 have i2:decide (2147483647<(n:Int))=false:=by simp;omega
 have i3:¬(n:Int)<1:=by omega
 have i4:¬2147483647<(n:Int):=by omega
 have hup:(N:Int) / 4294967296 % 4294967296=((upW N).toNat:Int):=by rw[upW,BitVec.toNat_ofNat];omega
 have hlo:(N:Int) % 4294967296=((loW N).toNat:Int):=by rw[loW,BitVec.toNat_ofNat];omega
 obtain⟨up,eup⟩:∃up,up=upW N:=⟨_,rfl⟩
 obtain⟨lo,elo⟩:∃lo,lo=loW N:=⟨_,rfl⟩
 rw[←eup] at hup
 rw[←elo] at hlo
 rw[←eup,←elo]
 obtain⟨it,hi0,hz0,hs0,hb0⟩:=info_parts u8_info
 have hmk:=fun W=>run_make_bytes (P:=Tryz.prog) (t:=30) (e:=5) Tryz.underlying30 hi0 hz0 hs0 hb0 (n:Int) n rfl (by omega) W
 have N1:=Lib.hid hn1;clear hn1
 have N2:=Lib.hid hn2;clear hn2
 have BL:=Lib.hid hblt;clear hblt
 clear hK hN eup elo
 go_enter Tryz.func227,Tryz.ntmps227
 go_wp2_with (first | (go_at_call 262;refine Calls.mono cn ?_;rintro e w2 ⟨rfl,hK2,hg2,he2⟩;have HK2:=Lib.hid hK2;clear hK2;have HG2:=Lib.hid hg2;clear hg2;have HE2:=Lib.hid he2;clear he2))
 rw[hup,hlo]
 clear hup hlo
 obtain⟨g,eg⟩:∃g,g=w2.heap.size:=⟨_,rfl⟩
 rw[←eg]
 have EG:=Lib.hid eg;clear eg
 go_loopw [9,10] (fun lv iv wr=>∃j:Nat,8*j<n+8∧iv = .int .i64 ((8*j:Nat):Int)∧lv=wv (lo+BitVec.ofNat 32 j)∧Blk wr g 5 (scells (kw ks) up lo n (min (8*j) n))∧Below g w2 wr) (fun _ iv _=>n+8 - (intOf iv).toNat)
 case atStart=>
  refine⟨0,by omega,rfl,?_,?_,?_⟩
  ·show Value.int .u32 _=_
   simp
  ·have:=scells_zero (kw ks) up lo n
   rw[show min (8*0) n=0 by omega,←this,EG.out]
   exact Blk.new w2 _ _
  ·rw[EG.out];exact(Below.refl _ _).alloc (Nat.le_refl _) _
 case round=>
  obtain⟨j,hj,rfl,rfl,hB,hb⟩:=hrel
  obtain⟨o,eo⟩:∃o,o=8*j:=⟨_,rfl⟩
  rw[←eo] at hB hj⊢
  obtain⟨l0,el0⟩:∃l0,l0=lo+BitVec.ofNat 32 j:=⟨_,rfl⟩
  rw[←el0]
  by_cases hd:n≤o
  ·have e1:decide ((o:Int)<(n:Int))=false:=by simp;omega
   have e2:¬o<n:=by omega
   have HB1:=Lib.hid hB;clear hB
   have HB2:=Lib.hid hb;clear hb
   clear hj hd el0
   go_wp2_with fail
   go_ret
   have hKE:Key wr b ks true:=HK2.out.below (EG.out▸HB2.out)
   have hgE:w.grownBy wr (some b):=g_then HG2.out (EG.out▸HB2.out)
   refine⟨g,rfl,?_,?_,hKE,hgE,?_⟩
   ·rw[EG.out];exact HG2.out.size
   ·have:=HB1.out
    rw[Nat.min_eq_right (by omega),scells_all _ _ _ _ _ (Nat.le_refl _)] at this
    exact this
   ·intro hm
    have h2:=HE2.out hm
    subst h2
    exact EG.out▸HB2.out
  ·have e1:(o:Int)<(n:Int):=by omega
   have e2:o<n:=by omega
   have e3:(0:Int)≤(o:Int):=by omega
   have e4:(o:Int)≤(n:Int):=by omega
   have e5:o≤n:=by omega
   obtain⟨x0,ex⟩:∃x0,x0=(blockK (kw ks) (up,l0)).1:=⟨_,rfl⟩
   obtain⟨y0,ey⟩:∃y0,y0=(blockK (kw ks) (up,l0)).2:=⟨_,rfl⟩
   obtain⟨l1,el1⟩:∃l1,l1=lo+BitVec.ofNat 32 (j+1):=⟨_,rfl⟩
   have hX:blk64 (kw ks) up lo j=x0.toNat+4294967296*y0.toNat:=by rw[blk64,←el0,←ex,←ey]
   obtain⟨X,eX⟩:∃X:Nat,X=blk64 (kw ks) up lo j:=⟨_,rfl⟩
   have hKr:Key wr b ks true:=HK2.out.below (EG.out▸hb)
   have ct:=turn_any b ks up l0 wr hKr
   rw[←ex,←ey] at ct
   have hBo:Blk wr g 5 (scells (kw ks) up lo n (8*j)):=by rw[Nat.min_eq_left e5,eo] at hB;exact hB
   have cp:=put_any (kw ks) up lo n j g (n - 8*j) wr (eo▸e2) (by have:=N2.out;omega) hBo
   rw[←eo,←eX] at cp
   have cy:(y0.toNat:Int) % 18446744073709551616=(y0.toNat:Int):=by have:=wd_lt y0;omega
   have cx:(x0.toNat:Int) % 18446744073709551616=(x0.toNat:Int):=by have:=wd_lt x0;omega
   have cor:bits .or .u64 ((y0.toNat:Int)*4294967296 % 18446744073709551616) (x0.toNat:Int)=(X:Int):=by rw[eX,hX];exact blk64_or x0 y0
   have cor2:bits .or .u64 ((y0.toNat:Int)*4294967296) (x0.toNat:Int)=(X:Int):=by
    have hm:(y0.toNat:Int)*4294967296 % 18446744073709551616=(y0.toNat:Int)*4294967296:=by have:=wd_lt y0;omega
    rw[←hm];exact cor
   have cl:((l0.toNat:Int)+1) % 4294967296=(l1.toNat:Int):=by
    rw[el1,el0,BitVec.toNat_add,BitVec.toNat_add,BitVec.toNat_ofNat,BitVec.toNat_ofNat];omega
   have HB1:=Lib.hid hB;clear hB
   have HB2:=Lib.hid hb;clear hb
   have HX:=Lib.hid eX;clear eX
   have HL1:=Lib.hid el1;clear el1
   have HO:=Lib.hid eo;clear eo
   have HO2:=Lib.hid e5
   clear hX hKr hBo ex ey el0 hj hd
   go_wp2_with (first | (go_at_call 263;refine Calls.mono ct ?_;rintro e w' ⟨rfl,rfl⟩) | (go_at_call 264;refine Calls.mono cp ?_;rintro e w3 ⟨rfl,hb3,hg3⟩;have HB3:=Lib.hid hb3;clear hb3;have HG3:=Lib.hid hg3;clear hg3))
   go_roundw
   case rel=>
    refine⟨j+1,by have:=HO.out;omega,?_,by rw[←HL1.out];exact congrArg (Value.int .u32) cl,?_,?_⟩
    ·exact congrArg (Value.int .i64) (by have:=HO.out;omega)
    ·have:=HB3.out
     rw[show o+8=8*(j+1) by have:=HO.out;omega] at this
     exact this
    ·exact Below.grown HB2.out HG3.out (by rw[EG.out];exact HB2.out.size) (fun k hk=>by injection hk with hk;omega)
   case measure=>have:=HO.out;simp [intOf];omega
end Go.Proofs.YtfcjeebnkigeaaaGreat.Sp
end

section
set_option linter.unusedVariables false
namespace Go.Proofs.YtfcjeebnkigeaaaGreat.Si
open Go.RowKit Go.Proofs.YtfcjeebnkigeaaaGreat.Mem
theorem rotL13 (v:Wd) (w:World):Calls Tryz.prog 314 #[wv v,.int .i64 13] w fun e w'=>e = .returned (wv (rot v 13))∧w'=w:=by
 have hand:bits .and .u64 13 63=13:=by kernel_rfl
 have hr:=or13 v
 rw[←IntKind.wrap_u64] at hr
 go_enter Tryz.func314,Tryz.ntmps314
 go_wp2
 go_ret
 exact⟨rfl,rfl⟩
theorem rotL32 (v:Wd) (w:World):Calls Tryz.prog 314 #[wv v,.int .i64 32] w fun e w'=>e = .returned (wv (rot v 32))∧w'=w:=by
 have hand:bits .and .u64 32 63=32:=by kernel_rfl
 have hr:=or32 v
 rw[←IntKind.wrap_u64] at hr
 go_enter Tryz.func314,Tryz.ntmps314
 go_wp2
 go_ret
 exact⟨rfl,rfl⟩
theorem rotL16 (v:Wd) (w:World):Calls Tryz.prog 314 #[wv v,.int .i64 16] w fun e w'=>e = .returned (wv (rot v 16))∧w'=w:=by
 have hand:bits .and .u64 16 63=16:=by kernel_rfl
 have hr:=or16 v
 rw[←IntKind.wrap_u64] at hr
 go_enter Tryz.func314,Tryz.ntmps314
 go_wp2
 go_ret
 exact⟨rfl,rfl⟩
theorem rotL21 (v:Wd) (w:World):Calls Tryz.prog 314 #[wv v,.int .i64 21] w fun e w'=>e = .returned (wv (rot v 21))∧w'=w:=by
 have hand:bits .and .u64 21 63=21:=by kernel_rfl
 have hr:=or21 v
 rw[←IntKind.wrap_u64] at hr
 go_enter Tryz.func314,Tryz.ntmps314
 go_wp2
 go_ret
 exact⟨rfl,rfl⟩
theorem rotL17 (v:Wd) (w:World):Calls Tryz.prog 314 #[wv v,.int .i64 17] w fun e w'=>e = .returned (wv (rot v 17))∧w'=w:=by
 have hand:bits .and .u64 17 63=17:=by kernel_rfl
 have hr:=or17 v
 rw[←IntKind.wrap_u64] at hr
 go_enter Tryz.func314,Tryz.ntmps314
 go_wp2
 go_ret
 exact⟨rfl,rfl⟩
def key8 (f:Nat→UInt8):Array Value:=#[.int .u8 (f 0).toNat,.int .u8 (f 1).toNat,.int .u8 (f 2).toNat,.int .u8 (f 3).toNat,.int .u8 (f 4).toNat,.int .u8 (f 5).toNat,.int .u8 (f 6).toNat,.int .u8 (f 7).toNat]
def wordF (f:Nat→UInt8) (i:Nat):Nat:=wordN ((List.range i).map f)
theorem wordF_next (f:Nat→UInt8) (i:Nat):wordF f (i+1)=wordF f i+(f i).toNat*256 ^ i:=by
 unfold wordF
 rw[List.range_succ,List.map_append,List.map_singleton,wordN_snoc];simp
theorem wordF_lt (f:Nat→UInt8) (i:Nat):wordF f i<256 ^ i:=by
 have:=wordN_lt ((List.range i).map f)
 simpa [wordF] using this
theorem or_at (f:Nat→UInt8) (i:Nat) (K:Int) (hi:i≤7) (hK:K=((256 ^ i:Nat):Int)):bits .or .u64 (wordF f i:Nat) (IntKind.u64.wrap (((f i).toNat:Int)*K))=(wordF f (i+1):Nat):=by
 rw[wordF_next]
 refine or_place _ _ i hi (wordF_lt f i) _ ?_
 have h1:=pow_8 i hi
 have h2:=(f i).toNat_lt
 have h3:(f i).toNat*256 ^ i≤255*72057594037927936:=Nat.mul_le_mul (by omega) h1
 rw[hK,IntKind.wrap_u64,←Int.natCast_mul]
 omega
set_option maxHeartbeats 1600000 in
theorem word_any (f:Nat→UInt8) (w:World) :
  Calls Tryz.prog 299 #[.agg (key8 f)] w fun e w'=>e = .returned (wv (wd (wordF f 8)))∧Below w.heap.size w w':=by
 unfold key8
 go_enter Tryz.func299,Tryz.ntmps299
 go_wp2_with fail
 go_loop [3,7] (fun mv iv=>∃j:Nat,j≤8∧iv = .int .i64 (j:Int)∧mv = .int .u64 (wordF f j:Nat)) (fun _ iv=>8 - (intOf iv).toNat)
 case atStart=>exact⟨0,by decide,rfl,rfl⟩
 case round=>
  obtain⟨j,hj,rfl,rfl⟩:=hrel
  obtain⟨M,eM⟩:∃M,M=wordF f j:=⟨_,rfl⟩
  obtain⟨M2,eM2⟩:∃M,M=wordF f (j+1):=⟨_,rfl⟩
  have hx:∀K:Int,j≤7→K=((256 ^ j:Nat):Int)→bits .or .u64 (M:Int) (IntKind.u64.wrap (((f j).toNat:Int)*K))=(M2:Int):=fun K h1 h2=>by rw[eM,eM2];exact or_at f j K h1 h2
  rw[←eM]
  have EM:=Lib.hid eM;clear eM
  have EM2:=Lib.hid eM2;clear eM2
  have hs:j=0∨j=1∨j=2∨j=3∨j=4∨j=5∨j=6∨j=7∨j=8:=by omega
  clear hj
  rcases hs with rfl | rfl | rfl | rfl | rfl | rfl | rfl | rfl | rfl
  ·have hx:=hx 1 (by decide) (by decide)
   have hy:IntKind.u64.wrap ((f 0).toNat:Int)=((f 0).toNat:Int):=by rw[IntKind.wrap_u64];have:=(f 0).toNat_lt;omega
   rw[Int.mul_one,hy] at hx
   have hi:∀w:World,(Instr.index 377 (.agg #[.int .u8 (f 0).toNat,.int .u8 (f 1).toNat,.int .u8 (f 2).toNat,.int .u8 (f 3).toNat,.int .u8 (f 4).toNat,.int .u8 (f 5).toNat,.int .u8 (f 6).toNat,.int .u8 (f 7).toNat]) (.int .i64 0)).run Tryz.prog w = .ok (.int .u8 (f 0).toNat) w:=fun _=>by kernel_rfl
   go_wp2_with fail
   go_round
   case rel=>exact⟨1,by decide,by go_num,by rw[EM2.out]⟩
   case measure=>simp [intOf]
  ·have hx:=hx 256 (by decide) (by decide)
   have hy:IntKind.u64.wrap ((f 1).toNat:Int)=((f 1).toNat:Int):=by rw[IntKind.wrap_u64];have:=(f 1).toNat_lt;omega
   have hi:∀w:World,(Instr.index 377 (.agg #[.int .u8 (f 0).toNat,.int .u8 (f 1).toNat,.int .u8 (f 2).toNat,.int .u8 (f 3).toNat,.int .u8 (f 4).toNat,.int .u8 (f 5).toNat,.int .u8 (f 6).toNat,.int .u8 (f 7).toNat]) (.int .i64 1)).run Tryz.prog w = .ok (.int .u8 (f 1).toNat) w:=fun _=>by kernel_rfl
   go_wp2_with fail
   go_round
   case rel=>exact⟨2,by decide,by go_num,by rw[EM2.out]⟩
   case measure=>simp [intOf]
  ·have hx:=hx 65536 (by decide) (by decide)
   have hy:IntKind.u64.wrap ((f 2).toNat:Int)=((f 2).toNat:Int):=by rw[IntKind.wrap_u64];have:=(f 2).toNat_lt;omega
   have hi:∀w:World,(Instr.index 377 (.agg #[.int .u8 (f 0).toNat,.int .u8 (f 1).toNat,.int .u8 (f 2).toNat,.int .u8 (f 3).toNat,.int .u8 (f 4).toNat,.int .u8 (f 5).toNat,.int .u8 (f 6).toNat,.int .u8 (f 7).toNat]) (.int .i64 2)).run Tryz.prog w = .ok (.int .u8 (f 2).toNat) w:=fun _=>by kernel_rfl
   go_wp2_with fail
   go_round
   case rel=>exact⟨3,by decide,by go_num,by rw[EM2.out]⟩
   case measure=>simp [intOf]
  ·have hx:=hx 16777216 (by decide) (by decide)
   have hy:IntKind.u64.wrap ((f 3).toNat:Int)=((f 3).toNat:Int):=by rw[IntKind.wrap_u64];have:=(f 3).toNat_lt;omega
   have hi:∀w:World,(Instr.index 377 (.agg #[.int .u8 (f 0).toNat,.int .u8 (f 1).toNat,.int .u8 (f 2).toNat,.int .u8 (f 3).toNat,.int .u8 (f 4).toNat,.int .u8 (f 5).toNat,.int .u8 (f 6).toNat,.int .u8 (f 7).toNat]) (.int .i64 3)).run Tryz.prog w = .ok (.int .u8 (f 3).toNat) w:=fun _=>by kernel_rfl
   go_wp2_with fail
   go_round
   case rel=>exact⟨4,by decide,by go_num,by rw[EM2.out]⟩
   case measure=>simp [intOf]
  ·have hx:=hx 4294967296 (by decide) (by decide)
   have hy:IntKind.u64.wrap ((f 4).toNat:Int)=((f 4).toNat:Int):=by rw[IntKind.wrap_u64];have:=(f 4).toNat_lt;omega
   have hi:∀w:World,(Instr.index 377 (.agg #[.int .u8 (f 0).toNat,.int .u8 (f 1).toNat,.int .u8 (f 2).toNat,.int .u8 (f 3).toNat,.int .u8 (f 4).toNat,.int .u8 (f 5).toNat,.int .u8 (f 6).toNat,.int .u8 (f 7).toNat]) (.int .i64 4)).run Tryz.prog w = .ok (.int .u8 (f 4).toNat) w:=fun _=>by kernel_rfl
   go_wp2_with fail
   go_round
   case rel=>exact⟨5,by decide,by go_num,by rw[EM2.out]⟩
   case measure=>simp [intOf]
  ·have hx:=hx 1099511627776 (by decide) (by decide)
   have hy:IntKind.u64.wrap ((f 5).toNat:Int)=((f 5).toNat:Int):=by rw[IntKind.wrap_u64];have:=(f 5).toNat_lt;omega
   have hi:∀w:World,(Instr.index 377 (.agg #[.int .u8 (f 0).toNat,.int .u8 (f 1).toNat,.int .u8 (f 2).toNat,.int .u8 (f 3).toNat,.int .u8 (f 4).toNat,.int .u8 (f 5).toNat,.int .u8 (f 6).toNat,.int .u8 (f 7).toNat]) (.int .i64 5)).run Tryz.prog w = .ok (.int .u8 (f 5).toNat) w:=fun _=>by kernel_rfl
   go_wp2_with fail
   go_round
   case rel=>exact⟨6,by decide,by go_num,by rw[EM2.out]⟩
   case measure=>simp [intOf]
  ·have hx:=hx 281474976710656 (by decide) (by decide)
   have hy:IntKind.u64.wrap ((f 6).toNat:Int)=((f 6).toNat:Int):=by rw[IntKind.wrap_u64];have:=(f 6).toNat_lt;omega
   have hi:∀w:World,(Instr.index 377 (.agg #[.int .u8 (f 0).toNat,.int .u8 (f 1).toNat,.int .u8 (f 2).toNat,.int .u8 (f 3).toNat,.int .u8 (f 4).toNat,.int .u8 (f 5).toNat,.int .u8 (f 6).toNat,.int .u8 (f 7).toNat]) (.int .i64 6)).run Tryz.prog w = .ok (.int .u8 (f 6).toNat) w:=fun _=>by kernel_rfl
   go_wp2_with fail
   go_round
   case rel=>exact⟨7,by decide,by go_num,by rw[EM2.out]⟩
   case measure=>simp [intOf]
  ·have hx:=hx 72057594037927936 (by decide) (by decide)
   have hy:IntKind.u64.wrap ((f 7).toNat:Int)=((f 7).toNat:Int):=by rw[IntKind.wrap_u64];have:=(f 7).toNat_lt;omega
   have hi:∀w:World,(Instr.index 377 (.agg #[.int .u8 (f 0).toNat,.int .u8 (f 1).toNat,.int .u8 (f 2).toNat,.int .u8 (f 3).toNat,.int .u8 (f 4).toNat,.int .u8 (f 5).toNat,.int .u8 (f 6).toNat,.int .u8 (f 7).toNat]) (.int .i64 7)).run Tryz.prog w = .ok (.int .u8 (f 7).toNat) w:=fun _=>by kernel_rfl
   go_wp2_with fail
   go_round
   case rel=>exact⟨8,by decide,by go_num,by rw[EM2.out]⟩
   case measure=>simp [intOf]
  ·have hx:=wd_nat (wordF f 8) (wordN_8 (by simp))
   have hz:M=(wd (wordF f 8)).toNat:=by rw[hx];exact EM.out
   have HZ:=Lib.hid hz;clear hz
   clear hx
   go_wp2_with fail
   go_ret
   exact⟨by rw[wv,←HZ.out];rfl,(Below.refl w.heap.size w).alloc (Nat.le_refl _) _⟩
end Go.Proofs.YtfcjeebnkigeaaaGreat.Si
end

section
set_option linter.unusedVariables false
namespace Go.Proofs.YtfcjeebnkigeaaaGreat.Si
open Go.RowKit Go.Proofs.YtfcjeebnkigeaaaGreat.Mem
def cells6 (s:V) (R N:Value):Array Value:=#[wv s.a,wv s.b,wv s.c,wv s.d,R,N]
set_option maxRecDepth 100000 in
set_option maxHeartbeats 3200000 in
theorem rounds_any (g n:Nat) (s:V) (R N:Value) (w:World) (hn:n≤4) (hB:Blk w g 361 (cells6 s R N)) :
  Calls Tryz.prog 301 #[.pointer (some ⟨g,0,none⟩),.int .i64 (n:Int)] w fun e w'=>e = .returned (.tuple #[])∧Blk w' g 361 (cells6 (rnds n s) R N)∧w.grownBy w' (some g):=by
 have HB:=Lib.hid hB;clear hB
 go_enter Tryz.func301,Tryz.ntmps301
 go_wp2_with fail
 go_loopw [5] (fun iv wr=>∃i:Nat,i≤n∧iv = .int .i64 (i:Int)∧Blk wr g 361 (cells6 (rnds i s) R N)∧w.grownBy wr (some g)) (fun iv _=>n - (intOf iv).toNat)
 case atStart=>exact⟨0,Nat.zero_le _,rfl,HB.out,World.grownBy.refl w _⟩
 case round=>
  obtain⟨i,hi,rfl,hB,hG⟩:=hrel
  by_cases hx:i=n
  ·subst hx
   have HB':=Lib.hid hB;clear hB
   have HG':=Lib.hid hG;clear hG
   go_wp2_with fail
   go_end0
   exact⟨rfl,HB'.out,HG'.out⟩
  ·have hlt:i<n:=by omega
   have e1:(i:Int)<(n:Int):=by omega
   have e2:(0:Int)≤(i:Int):=by omega
   have e3:(i:Int)<4:=by omega
   have HX:=Lib.hid hx;clear hx
   have HI:=Lib.hid hi;clear hi
   obtain⟨⟨a,b,c,d⟩,es⟩:∃t,t=rnds i s:=⟨_,rfl⟩
   rw[←es] at hB
   have ES:=Lib.hid es;clear es
   have HB':=Lib.hid (show Blk wr g 361 #[wv a,wv b,wv c,wv d,R,N] from hB);clear hB
   have HG':=Lib.hid hG;clear hG
   go_upto_region 2 with fail
   obtain⟨a1,ea1⟩:∃x,x=a+b:=⟨_,rfl⟩
   obtain⟨q1,eq1⟩:∃x,x=rot b 13:=⟨_,rfl⟩
   obtain⟨b1,eb1⟩:∃x,x=q1 ^^^ a1:=⟨_,rfl⟩
   obtain⟨a2,ea2⟩:∃x,x=rot a1 32:=⟨_,rfl⟩
   obtain⟨c1,ec1⟩:∃x,x=c+d:=⟨_,rfl⟩
   obtain⟨q4,eq4⟩:∃x,x=rot d 16:=⟨_,rfl⟩
   obtain⟨d1,ed1⟩:∃x,x=q4 ^^^ c1:=⟨_,rfl⟩
   obtain⟨a3,ea3⟩:∃x,x=a2+d1:=⟨_,rfl⟩
   obtain⟨q6,eq6⟩:∃x,x=rot d1 21:=⟨_,rfl⟩
   obtain⟨d2,ed2⟩:∃x,x=q6 ^^^ a3:=⟨_,rfl⟩
   obtain⟨c2,ec2⟩:∃x,x=c1+b1:=⟨_,rfl⟩
   obtain⟨q8,eq8⟩:∃x,x=rot b1 17:=⟨_,rfl⟩
   obtain⟨b2,eb2⟩:∃x,x=q8 ^^^ c2:=⟨_,rfl⟩
   obtain⟨c3,ec3⟩:∃x,x=rot c2 32:=⟨_,rfl⟩
   have hall:rnd ⟨a,b,c,d⟩=⟨a3,b2,c3,d2⟩:=by subst ea1 eq1 eb1 ea2 ec1 eq4 ed1 ea3 eq6 ed2 ec2 eq8 eb2 ec3;rfl
   have HALL:=Lib.hid hall;clear hall
   have x0:IntKind.u64.wrap ((a.toNat:Int)+(b.toNat:Int))=(a1.toNat:Int):=by rw[ea1];exact add_ww _ _
   have y0:((a.toNat:Int)+(b.toNat:Int)) % 18446744073709551616=(a1.toNat:Int):=by rw[ea1];exact add_w _ _
   have X0:=Lib.hid x0;clear x0
   have Y0:=Lib.hid y0;clear y0
   have x1:bits .xor .u64 (q1.toNat:Int) (a1.toNat:Int)=(b1.toNat:Int):=by rw[eb1];exact xor_w _ _
   have X1:=Lib.hid x1;clear x1
   have l1:=rotL13 b
   rw[←eq1] at l1
   have l2:=rotL32 a1
   rw[←ea2] at l2
   have x3:IntKind.u64.wrap ((c.toNat:Int)+(d.toNat:Int))=(c1.toNat:Int):=by rw[ec1];exact add_ww _ _
   have y3:((c.toNat:Int)+(d.toNat:Int)) % 18446744073709551616=(c1.toNat:Int):=by rw[ec1];exact add_w _ _
   have X3:=Lib.hid x3;clear x3
   have Y3:=Lib.hid y3;clear y3
   have x4:bits .xor .u64 (q4.toNat:Int) (c1.toNat:Int)=(d1.toNat:Int):=by rw[ed1];exact xor_w _ _
   have X4:=Lib.hid x4;clear x4
   have l4:=rotL16 d
   rw[←eq4] at l4
   have x5:IntKind.u64.wrap ((a2.toNat:Int)+(d1.toNat:Int))=(a3.toNat:Int):=by rw[ea3];exact add_ww _ _
   have y5:((a2.toNat:Int)+(d1.toNat:Int)) % 18446744073709551616=(a3.toNat:Int):=by rw[ea3];exact add_w _ _
   have X5:=Lib.hid x5;clear x5
   have Y5:=Lib.hid y5;clear y5
   have x6:bits .xor .u64 (q6.toNat:Int) (a3.toNat:Int)=(d2.toNat:Int):=by rw[ed2];exact xor_w _ _
   have X6:=Lib.hid x6;clear x6
   have l6:=rotL21 d1
   rw[←eq6] at l6
   have x7:IntKind.u64.wrap ((c1.toNat:Int)+(b1.toNat:Int))=(c2.toNat:Int):=by rw[ec2];exact add_ww _ _
   have y7:((c1.toNat:Int)+(b1.toNat:Int)) % 18446744073709551616=(c2.toNat:Int):=by rw[ec2];exact add_w _ _
   have X7:=Lib.hid x7;clear x7
   have Y7:=Lib.hid y7;clear y7
   have x8:bits .xor .u64 (q8.toNat:Int) (c2.toNat:Int)=(b2.toNat:Int):=by rw[eb2];exact xor_w _ _
   have X8:=Lib.hid x8;clear x8
   have l8:=rotL17 b1
   rw[←eq8] at l8
   have l9:=rotL32 c2
   rw[←ec3] at l9
   clear ea1 eq1 eb1 ea2 ec1 eq4 ed1 ea3 eq6 ed2 ec2 eq8 eb2 ec3
   have fz0:=Blk.frozen HB'.out
   have k0_0:wr.cell? ⟨g,0,none⟩=some (.int .u64 (a.toNat:Int)):=by rw[Blk.cell HB'.out];rfl
   have k0_1:wr.cell? ⟨g,1,none⟩=some (.int .u64 (b.toNat:Int)):=by rw[Blk.cell HB'.out];rfl
   have k0_2:wr.cell? ⟨g,2,none⟩=some (.int .u64 (c.toNat:Int)):=by rw[Blk.cell HB'.out];rfl
   have k0_3:wr.cell? ⟨g,3,none⟩=some (.int .u64 (d.toNat:Int)):=by rw[Blk.cell HB'.out];rfl
   have x0:=X0.out
   have y0:=Y0.out
   refine wp_region_still_tail 11 (by kernel_rfl) (by kernel_rfl) ?_
   simp only[List.take_succ_cons,List.take_zero,List.drop_succ_cons,List.drop_zero]
   change wpStill _ _ wr.drew _ _ _
   repeat still_step
   refine wpStill_nil ?_
   change wpList _ _ _ _ _ wr.drew
   go_upto_region 3 with fail
   have hB0:Blk (wr.setCell ⟨g,0,none⟩ (.int .u64 (a1.toNat:Int))).drew g 361 #[wv a1,wv b,wv c,wv d,R,N]:=Blk.set HB'.out 0 (wv a1)
   have hG0:w.grownBy (wr.setCell ⟨g,0,none⟩ (.int .u64 (a1.toNat:Int))).drew (some g):=g_drew (g_set HG'.out (.inl rfl) _)
   generalize (wr.setCell ⟨g,0,none⟩ (.int .u64 (a1.toNat:Int))).drew=v1 at hB0 hG0⊢
   clear fz0 k0_0 k0_1 k0_2 k0_3 x0 y0 X0 Y0
   have HB0:=Lib.hid hB0;clear hB0
   have HG0:=Lib.hid hG0;clear hG0
   have fz1:=Blk.frozen HB0.out
   have k1_0:v1.cell? ⟨g,0,none⟩=some (.int .u64 (a1.toNat:Int)):=by rw[Blk.cell HB0.out];rfl
   have k1_1:v1.cell? ⟨g,1,none⟩=some (.int .u64 (b.toNat:Int)):=by rw[Blk.cell HB0.out];rfl
   have k1_2:v1.cell? ⟨g,2,none⟩=some (.int .u64 (c.toNat:Int)):=by rw[Blk.cell HB0.out];rfl
   have k1_3:v1.cell? ⟨g,3,none⟩=some (.int .u64 (d.toNat:Int)):=by rw[Blk.cell HB0.out];rfl
   have x1:=X1.out
   refine wp_region_still_tail 13 (by kernel_rfl) (by kernel_rfl) ?_
   simp only[List.take_succ_cons,List.take_zero,List.drop_succ_cons,List.drop_zero]
   change wpStill _ _ v1.drew _ _ _
   repeat still_step
   still_call (l1 v1.drew)
   repeat still_step
   refine wpStill_nil ?_
   change wpList _ _ _ _ _ v1.drew
   go_upto_region 4 with fail
   have hB1:Blk (v1.setCell ⟨g,1,none⟩ (.int .u64 (b1.toNat:Int))).drew g 361 #[wv a1,wv b1,wv c,wv d,R,N]:=Blk.set HB0.out 1 (wv b1)
   have hG1:w.grownBy (v1.setCell ⟨g,1,none⟩ (.int .u64 (b1.toNat:Int))).drew (some g):=g_drew (g_set HG0.out (.inl rfl) _)
   generalize (v1.setCell ⟨g,1,none⟩ (.int .u64 (b1.toNat:Int))).drew=v2 at hB1 hG1⊢
   clear fz1 k1_0 k1_1 k1_2 k1_3 x1 X1 l1
   clear HB0 HG0
   have HB1:=Lib.hid hB1;clear hB1
   have HG1:=Lib.hid hG1;clear hG1
   have fz2:=Blk.frozen HB1.out
   have k2_0:v2.cell? ⟨g,0,none⟩=some (.int .u64 (a1.toNat:Int)):=by rw[Blk.cell HB1.out];rfl
   have k2_1:v2.cell? ⟨g,1,none⟩=some (.int .u64 (b1.toNat:Int)):=by rw[Blk.cell HB1.out];rfl
   have k2_2:v2.cell? ⟨g,2,none⟩=some (.int .u64 (c.toNat:Int)):=by rw[Blk.cell HB1.out];rfl
   have k2_3:v2.cell? ⟨g,3,none⟩=some (.int .u64 (d.toNat:Int)):=by rw[Blk.cell HB1.out];rfl
   go_upto_region 5 with(go_at_call 314;refine Calls.mono (l2 _) ?_;rintro e w' ⟨rfl,hw⟩;have hw:=hw.symm;subst hw)
   have hB2:Blk (v2.setCell ⟨g,0,none⟩ (.int .u64 (a2.toNat:Int))) g 361 #[wv a2,wv b1,wv c,wv d,R,N]:=Blk.set HB1.out 0 (wv a2)
   have hG2:w.grownBy (v2.setCell ⟨g,0,none⟩ (.int .u64 (a2.toNat:Int))) (some g):=(g_set HG1.out (.inl rfl) _)
   generalize (v2.setCell ⟨g,0,none⟩ (.int .u64 (a2.toNat:Int)))=v3 at hB2 hG2⊢
   clear fz2 k2_0 k2_1 k2_2 k2_3 l2
   clear HB1 HG1
   have HB2:=Lib.hid hB2;clear hB2
   have HG2:=Lib.hid hG2;clear hG2
   have fz3:=Blk.frozen HB2.out
   have k3_0:v3.cell? ⟨g,0,none⟩=some (.int .u64 (a2.toNat:Int)):=by rw[Blk.cell HB2.out];rfl
   have k3_1:v3.cell? ⟨g,1,none⟩=some (.int .u64 (b1.toNat:Int)):=by rw[Blk.cell HB2.out];rfl
   have k3_2:v3.cell? ⟨g,2,none⟩=some (.int .u64 (c.toNat:Int)):=by rw[Blk.cell HB2.out];rfl
   have k3_3:v3.cell? ⟨g,3,none⟩=some (.int .u64 (d.toNat:Int)):=by rw[Blk.cell HB2.out];rfl
   have x3:=X3.out
   have y3:=Y3.out
   refine wp_region_still_tail 11 (by kernel_rfl) (by kernel_rfl) ?_
   simp only[List.take_succ_cons,List.take_zero,List.drop_succ_cons,List.drop_zero]
   change wpStill _ _ v3.drew _ _ _
   repeat still_step
   refine wpStill_nil ?_
   change wpList _ _ _ _ _ v3.drew
   go_upto_region 6 with fail
   have hB3:Blk (v3.setCell ⟨g,2,none⟩ (.int .u64 (c1.toNat:Int))).drew g 361 #[wv a2,wv b1,wv c1,wv d,R,N]:=Blk.set HB2.out 2 (wv c1)
   have hG3:w.grownBy (v3.setCell ⟨g,2,none⟩ (.int .u64 (c1.toNat:Int))).drew (some g):=g_drew (g_set HG2.out (.inl rfl) _)
   generalize (v3.setCell ⟨g,2,none⟩ (.int .u64 (c1.toNat:Int))).drew=v4 at hB3 hG3⊢
   clear fz3 k3_0 k3_1 k3_2 k3_3 x3 y3 X3 Y3
   clear HB2 HG2
   have HB3:=Lib.hid hB3;clear hB3
   have HG3:=Lib.hid hG3;clear hG3
   have fz4:=Blk.frozen HB3.out
   have k4_0:v4.cell? ⟨g,0,none⟩=some (.int .u64 (a2.toNat:Int)):=by rw[Blk.cell HB3.out];rfl
   have k4_1:v4.cell? ⟨g,1,none⟩=some (.int .u64 (b1.toNat:Int)):=by rw[Blk.cell HB3.out];rfl
   have k4_2:v4.cell? ⟨g,2,none⟩=some (.int .u64 (c1.toNat:Int)):=by rw[Blk.cell HB3.out];rfl
   have k4_3:v4.cell? ⟨g,3,none⟩=some (.int .u64 (d.toNat:Int)):=by rw[Blk.cell HB3.out];rfl
   have x4:=X4.out
   refine wp_region_still_tail 13 (by kernel_rfl) (by kernel_rfl) ?_
   simp only[List.take_succ_cons,List.take_zero,List.drop_succ_cons,List.drop_zero]
   change wpStill _ _ v4.drew _ _ _
   repeat still_step
   still_call (l4 v4.drew)
   repeat still_step
   refine wpStill_nil ?_
   change wpList _ _ _ _ _ v4.drew
   go_upto_region 7 with fail
   have hB4:Blk (v4.setCell ⟨g,3,none⟩ (.int .u64 (d1.toNat:Int))).drew g 361 #[wv a2,wv b1,wv c1,wv d1,R,N]:=Blk.set HB3.out 3 (wv d1)
   have hG4:w.grownBy (v4.setCell ⟨g,3,none⟩ (.int .u64 (d1.toNat:Int))).drew (some g):=g_drew (g_set HG3.out (.inl rfl) _)
   generalize (v4.setCell ⟨g,3,none⟩ (.int .u64 (d1.toNat:Int))).drew=v5 at hB4 hG4⊢
   clear fz4 k4_0 k4_1 k4_2 k4_3 x4 X4 l4
   clear HB3 HG3
   have HB4:=Lib.hid hB4;clear hB4
   have HG4:=Lib.hid hG4;clear hG4
   have fz5:=Blk.frozen HB4.out
   have k5_0:v5.cell? ⟨g,0,none⟩=some (.int .u64 (a2.toNat:Int)):=by rw[Blk.cell HB4.out];rfl
   have k5_1:v5.cell? ⟨g,1,none⟩=some (.int .u64 (b1.toNat:Int)):=by rw[Blk.cell HB4.out];rfl
   have k5_2:v5.cell? ⟨g,2,none⟩=some (.int .u64 (c1.toNat:Int)):=by rw[Blk.cell HB4.out];rfl
   have k5_3:v5.cell? ⟨g,3,none⟩=some (.int .u64 (d1.toNat:Int)):=by rw[Blk.cell HB4.out];rfl
   have x5:=X5.out
   have y5:=Y5.out
   refine wp_region_still_tail 11 (by kernel_rfl) (by kernel_rfl) ?_
   simp only[List.take_succ_cons,List.take_zero,List.drop_succ_cons,List.drop_zero]
   change wpStill _ _ v5.drew _ _ _
   repeat still_step
   refine wpStill_nil ?_
   change wpList _ _ _ _ _ v5.drew
   go_upto_region 8 with fail
   have hB5:Blk (v5.setCell ⟨g,0,none⟩ (.int .u64 (a3.toNat:Int))).drew g 361 #[wv a3,wv b1,wv c1,wv d1,R,N]:=Blk.set HB4.out 0 (wv a3)
   have hG5:w.grownBy (v5.setCell ⟨g,0,none⟩ (.int .u64 (a3.toNat:Int))).drew (some g):=g_drew (g_set HG4.out (.inl rfl) _)
   generalize (v5.setCell ⟨g,0,none⟩ (.int .u64 (a3.toNat:Int))).drew=v6 at hB5 hG5⊢
   clear fz5 k5_0 k5_1 k5_2 k5_3 x5 y5 X5 Y5
   clear HB4 HG4
   have HB5:=Lib.hid hB5;clear hB5
   have HG5:=Lib.hid hG5;clear hG5
   have fz6:=Blk.frozen HB5.out
   have k6_0:v6.cell? ⟨g,0,none⟩=some (.int .u64 (a3.toNat:Int)):=by rw[Blk.cell HB5.out];rfl
   have k6_1:v6.cell? ⟨g,1,none⟩=some (.int .u64 (b1.toNat:Int)):=by rw[Blk.cell HB5.out];rfl
   have k6_2:v6.cell? ⟨g,2,none⟩=some (.int .u64 (c1.toNat:Int)):=by rw[Blk.cell HB5.out];rfl
   have k6_3:v6.cell? ⟨g,3,none⟩=some (.int .u64 (d1.toNat:Int)):=by rw[Blk.cell HB5.out];rfl
   have x6:=X6.out
   refine wp_region_still_tail 13 (by kernel_rfl) (by kernel_rfl) ?_
   simp only[List.take_succ_cons,List.take_zero,List.drop_succ_cons,List.drop_zero]
   change wpStill _ _ v6.drew _ _ _
   repeat still_step
   still_call (l6 v6.drew)
   repeat still_step
   refine wpStill_nil ?_
   change wpList _ _ _ _ _ v6.drew
   go_upto_region 9 with fail
   have hB6:Blk (v6.setCell ⟨g,3,none⟩ (.int .u64 (d2.toNat:Int))).drew g 361 #[wv a3,wv b1,wv c1,wv d2,R,N]:=Blk.set HB5.out 3 (wv d2)
   have hG6:w.grownBy (v6.setCell ⟨g,3,none⟩ (.int .u64 (d2.toNat:Int))).drew (some g):=g_drew (g_set HG5.out (.inl rfl) _)
   generalize (v6.setCell ⟨g,3,none⟩ (.int .u64 (d2.toNat:Int))).drew=v7 at hB6 hG6⊢
   clear fz6 k6_0 k6_1 k6_2 k6_3 x6 X6 l6
   clear HB5 HG5
   have HB6:=Lib.hid hB6;clear hB6
   have HG6:=Lib.hid hG6;clear hG6
   have fz7:=Blk.frozen HB6.out
   have k7_0:v7.cell? ⟨g,0,none⟩=some (.int .u64 (a3.toNat:Int)):=by rw[Blk.cell HB6.out];rfl
   have k7_1:v7.cell? ⟨g,1,none⟩=some (.int .u64 (b1.toNat:Int)):=by rw[Blk.cell HB6.out];rfl
   have k7_2:v7.cell? ⟨g,2,none⟩=some (.int .u64 (c1.toNat:Int)):=by rw[Blk.cell HB6.out];rfl
   have k7_3:v7.cell? ⟨g,3,none⟩=some (.int .u64 (d2.toNat:Int)):=by rw[Blk.cell HB6.out];rfl
   have x7:=X7.out
   have y7:=Y7.out
   refine wp_region_still_tail 11 (by kernel_rfl) (by kernel_rfl) ?_
   simp only[List.take_succ_cons,List.take_zero,List.drop_succ_cons,List.drop_zero]
   change wpStill _ _ v7.drew _ _ _
   repeat still_step
   refine wpStill_nil ?_
   change wpList _ _ _ _ _ v7.drew
   go_upto_region 10 with fail
   have hB7:Blk (v7.setCell ⟨g,2,none⟩ (.int .u64 (c2.toNat:Int))).drew g 361 #[wv a3,wv b1,wv c2,wv d2,R,N]:=Blk.set HB6.out 2 (wv c2)
   have hG7:w.grownBy (v7.setCell ⟨g,2,none⟩ (.int .u64 (c2.toNat:Int))).drew (some g):=g_drew (g_set HG6.out (.inl rfl) _)
   generalize (v7.setCell ⟨g,2,none⟩ (.int .u64 (c2.toNat:Int))).drew=v8 at hB7 hG7⊢
   clear fz7 k7_0 k7_1 k7_2 k7_3 x7 y7 X7 Y7
   clear HB6 HG6
   have HB7:=Lib.hid hB7;clear hB7
   have HG7:=Lib.hid hG7;clear hG7
   have fz8:=Blk.frozen HB7.out
   have k8_0:v8.cell? ⟨g,0,none⟩=some (.int .u64 (a3.toNat:Int)):=by rw[Blk.cell HB7.out];rfl
   have k8_1:v8.cell? ⟨g,1,none⟩=some (.int .u64 (b1.toNat:Int)):=by rw[Blk.cell HB7.out];rfl
   have k8_2:v8.cell? ⟨g,2,none⟩=some (.int .u64 (c2.toNat:Int)):=by rw[Blk.cell HB7.out];rfl
   have k8_3:v8.cell? ⟨g,3,none⟩=some (.int .u64 (d2.toNat:Int)):=by rw[Blk.cell HB7.out];rfl
   have x8:=X8.out
   refine wp_region_still_tail 13 (by kernel_rfl) (by kernel_rfl) ?_
   simp only[List.take_succ_cons,List.take_zero,List.drop_succ_cons,List.drop_zero]
   change wpStill _ _ v8.drew _ _ _
   repeat still_step
   still_call (l8 v8.drew)
   repeat still_step
   refine wpStill_nil ?_
   change wpList _ _ _ _ _ v8.drew
   go_upto_region 11 with fail
   have hB8:Blk (v8.setCell ⟨g,1,none⟩ (.int .u64 (b2.toNat:Int))).drew g 361 #[wv a3,wv b2,wv c2,wv d2,R,N]:=Blk.set HB7.out 1 (wv b2)
   have hG8:w.grownBy (v8.setCell ⟨g,1,none⟩ (.int .u64 (b2.toNat:Int))).drew (some g):=g_drew (g_set HG7.out (.inl rfl) _)
   generalize (v8.setCell ⟨g,1,none⟩ (.int .u64 (b2.toNat:Int))).drew=v9 at hB8 hG8⊢
   clear fz8 k8_0 k8_1 k8_2 k8_3 x8 X8 l8
   clear HB7 HG7
   have HB8:=Lib.hid hB8;clear hB8
   have HG8:=Lib.hid hG8;clear hG8
   have fz9:=Blk.frozen HB8.out
   have k9_0:v9.cell? ⟨g,0,none⟩=some (.int .u64 (a3.toNat:Int)):=by rw[Blk.cell HB8.out];rfl
   have k9_1:v9.cell? ⟨g,1,none⟩=some (.int .u64 (b2.toNat:Int)):=by rw[Blk.cell HB8.out];rfl
   have k9_2:v9.cell? ⟨g,2,none⟩=some (.int .u64 (c2.toNat:Int)):=by rw[Blk.cell HB8.out];rfl
   have k9_3:v9.cell? ⟨g,3,none⟩=some (.int .u64 (d2.toNat:Int)):=by rw[Blk.cell HB8.out];rfl
   go_upto_region 12 with(go_at_call 314;refine Calls.mono (l9 _) ?_;rintro e w' ⟨rfl,hw⟩;have hw:=hw.symm;subst hw)
   have hB9:Blk (v9.setCell ⟨g,2,none⟩ (.int .u64 (c3.toNat:Int))) g 361 #[wv a3,wv b2,wv c3,wv d2,R,N]:=Blk.set HB8.out 2 (wv c3)
   have hG9:w.grownBy (v9.setCell ⟨g,2,none⟩ (.int .u64 (c3.toNat:Int))) (some g):=(g_set HG8.out (.inl rfl) _)
   generalize (v9.setCell ⟨g,2,none⟩ (.int .u64 (c3.toNat:Int)))=v10 at hB9 hG9⊢
   clear fz9 k9_0 k9_1 k9_2 k9_3 l9
   clear HB8 HG8
   have HB9:=Lib.hid hB9;clear hB9
   have HG9:=Lib.hid hG9;clear hG9
   go_wp2_with fail
   go_roundw
   case rel=>exact⟨i+1,by omega,by go_num,by rw[rnds,←ES.out,HALL.out];exact HB9.out,HG9.out⟩
   case measure=>simp [intOf];omega
end Go.Proofs.YtfcjeebnkigeaaaGreat.Si
end

section
set_option linter.unusedVariables false
namespace Go.Proofs.YtfcjeebnkigeaaaGreat.Si
open Go.RowKit Go.Proofs.YtfcjeebnkigeaaaGreat.Mem
set_option maxRecDepth 100000 in
set_option maxHeartbeats 1600000 in
theorem addWord_any (g:Nat) (s:V) (R N:Value) (m:Wd) (w:World) (hB:Blk w g 361 (cells6 s R N)) :
  Calls Tryz.prog 300 #[.pointer (some ⟨g,0,none⟩),wv m] w fun e w'=>e = .returned (.tuple #[])∧Blk w' g 361 (cells6 (addM s m) R N)∧w.grownBy w' (some g):=by
 obtain⟨a,b,c,d⟩:=s
 obtain⟨d1,ed⟩:∃x,x=d ^^^ m:=⟨_,rfl⟩
 obtain⟨⟨a2,b2,c2,d2⟩,e2⟩:∃t,t=rnds 2 ⟨a,b,c,d1⟩:=⟨_,rfl⟩
 obtain⟨a3,ea⟩:∃x,x=a2 ^^^ m:=⟨_,rfl⟩
 have hall:addM ⟨a,b,c,d⟩ m=⟨a3,b2,c2,d2⟩:=by simp only[addM,←ed,←e2,←ea]
 have x1:bits .xor .u64 (d.toNat:Int) (m.toNat:Int)=(d1.toNat:Int):=by rw[ed];exact xor_w _ _
 have x2:bits .xor .u64 (a2.toNat:Int) (m.toNat:Int)=(a3.toNat:Int):=by rw[ea];exact xor_w _ _
 have HALL:=Lib.hid hall;clear hall
 have E2:=Lib.hid e2;clear e2
 clear ed ea
 have fz:=hB.frozen
 have k3:w.cell? ⟨g,3,none⟩=some (.int .u64 (d.toNat:Int)):=by rw[hB.cell];rfl
 have HB:=Lib.hid (show Blk w g 361 #[wv a,wv b,wv c,wv d,R,N] from hB);clear hB
 have HG:=Lib.hid (World.grownBy.refl w (some g))
 go_enter Tryz.func300,Tryz.ntmps300
 go_upto_region 1 with fail
 have hB1:Blk (w.setCell ⟨g,3,none⟩ (.int .u64 (d1.toNat:Int))) g 361 #[wv a,wv b,wv c,wv d1,R,N]:=Blk.set HB.out 3 (wv d1)
 have hG1:w.grownBy (w.setCell ⟨g,3,none⟩ (.int .u64 (d1.toNat:Int))) (some g):=g_set HG.out (.inl rfl) _
 generalize w.setCell ⟨g,3,none⟩ (.int .u64 (d1.toNat:Int))=v1 at hB1 hG1⊢
 have c1:=rounds_any g 2 ⟨a,b,c,d1⟩ R N v1 (by decide) hB1
 rw[←E2.out] at c1
 have HG1:=Lib.hid hG1
 clear hB1 hG1 fz k3 HB HG x1
 go_upto_region 2 with(go_at_call 301;refine Calls.mono c1 ?_;rintro e v2 ⟨rfl,hB2,hG2⟩;clear c1;have k0:v2.cell? ⟨g,0,none⟩=some (.int .u64 (a2.toNat:Int)):=by{rw[hB2.cell];rfl};have fz2:=hB2.frozen;have HB2:=Lib.hid hB2;have HG2:=Lib.hid hG2;clear hB2 hG2)
 go_wp2_with fail
 go_end0
 exact⟨rfl,by rw[HALL.out];exact Blk.set HB2.out 0 (wv a3),g_set (World.grownBy.trans HG1.out HG2.out) (.inl rfl) _⟩
end Go.Proofs.YtfcjeebnkigeaaaGreat.Si
end
