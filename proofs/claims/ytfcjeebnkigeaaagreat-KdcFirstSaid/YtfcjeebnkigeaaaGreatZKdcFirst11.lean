import Derived.Test.YtfcjeebnkigeaaaGreatZKdcFirst10
set_option maxHeartbeats 25600000
set_option maxRecDepth 100000
set_option linter.unusedVariables false
set_option linter.unusedSimpArgs false
namespace Go.Proofs.YtfcjeebnkigeaaaGreat
section
namespace Se
open Go.RowKit Af
def hk (f:Nat→UInt8) (i j:Nat):UInt8:=if j<i then f j else 0
theorem Fk (f:Nat→UInt8) (j:Nat) (hj:j<16):(Sp.AD f)[j]? = some (bv (f j)):=Sp.Fk f j hj
theorem UO (f:Nat→UInt8) (i:Nat) (hi:i<16):(Sp.AD (hk f i)).setIfInBounds i (bv (f i))=Sp.AD (hk f (i+1)):=by
 unfold Sp.AD;rw[List.setIfInBounds_toArray]
 congr 1
 apply List.ext_getElem?;intro j;rw[List.getElem?_set,List.getElem?_map,List.getElem?_map]
 by_cases hj:i=j
 ·subst hj;simp [hi,hk]
 ·rw[if_neg hj]
  rcases Nat.lt_or_ge j 16 with h | h
  ·have e:(j<i)=(j<i+1):=propext ⟨by omega,by omega⟩
   simp [h,hk,e]
  ·rw[List.getElem?_eq_none (by simpa using h)];rfl
theorem XO (f:Nat→UInt8):Sp.AD (hk f 16)=Sp.AD f:=Sp.FN fun j hj=>if_pos hj
theorem Rl (f:Nat→UInt8):Sp.AD (hk f 0)=Sp.AD (fun _=>0):=Sp.FN fun j hj=>rfl
theorem key32_at' (f:Nat→UInt8) (j:Nat) (hj:j<32):(AP f)[j]? = some (bv (f j)):=by
 rw[AP,List.getElem?_toArray];simp [hj]
theorem Mn {P:Program} {fn:Func} {tmps:Array Value} {w:World} {v1 v2:Value} (t1 t2:Nat) (ty1 ty2:TypeId) (a1 a2:Addr) (hres:fn.results=#[.cell t1 ty1,.cell t2 ty2]) (ht1:tmps.getD t1 undef = .pointer (some a1)) (ht2:tmps.getD t2 undef = .pointer (some a2)) (hl1:(loadVar ty1 a1).run P w = .ok v1 w) (hl2:(loadVar ty2 a2).run P w = .ok v2 w) :
  (results fn tmps).run P w = .ok (.tuple #[v1,v2]) w:=by
 have h1:tmps[t1]?.getD undef = .pointer (some a1):=by simpa using ht1
 have h2:tmps[t2]?.getD undef = .pointer (some a2):=by simpa using ht2
 simp [results,hres,h1,h2,asAddr,hl1,hl2]
theorem Rm (ks:Nat→UInt8) (w:World):Calls Tryz.prog 131 #[.agg (AP ks)] w fun e w'=>e = .returned (.tuple #[.agg (Sp.AD ks),.agg (Sp.AD (k2 ks))])∧Below w.heap.size w w':=by
 obtain⟨B,eB⟩:∃B,B=w.heap.size:=⟨_,rfl⟩;have EB:=I eB;have hz16:Sp.AD (fun _=>0)=#[.int .u8 0,.int .u8 0,.int .u8 0,.int .u8 0,.int .u8 0,.int .u8 0,.int .u8 0,.int .u8 0,.int .u8 0,.int .u8 0,.int .u8 0,.int .u8 0,.int .u8 0,.int .u8 0,.int .u8 0,.int .u8 0]:=rfl;have HZ:=I hz16;clear hz16;obtain⟨kc,ekc⟩:∃kc,kc=AP ks:=⟨_,rfl⟩;rw[←ekc];have EK:=I ekc;clear ekc;go_enter Tryz.func131,Tryz.ntmps131
 go_wp2_with fail
 rw[←eB];clear eB
 go_loopw [6] (fun iv wr=>∃i:Nat,i≤16∧iv = .int .i64 (i:Int)∧Below B w wr∧wr.heap.size=B+5∧Blk wr B 47 kc∧Blk wr (B+1) 233 (Sp.AD (fun _=>0))∧Blk wr (B+2) 233 (Sp.AD (fun _=>0))∧Blk wr (B+3) 233 (Sp.AD (hk ks i))∧Blk wr (B+4) 233 (Sp.AD (hk (k2 ks) i))) (fun iv _=>16 - (intOf iv).toNat)
 case atStart=>
  have z1:Blk (w.alloc (.cells kc 47)) B 47 kc:=EB.o▸Blk.new w _ _;have q0:(w.alloc (.cells kc 47)).heap.size=B+1:=by rw[EB.o];simp
  have b0:Below B w (w.alloc (.cells kc 47)):=EB.o▸(Below.refl w.heap.size w).alloc (Nat.le_refl _) _;have key:∀(w1:World) (n:Nat),w1.heap.size=n→Blk (w1.alloc (.cells (Sp.AD fun _=>0) 233)) n 233 (Sp.AD fun _=>0)∧(w1.alloc (.cells (Sp.AD fun _=>0) 233)).heap.size=n+1:=fun w1 n h=>⟨h▸Blk.new w1 _ _,by rw[←h];simp⟩
  obtain⟨k1,q1⟩:=key _ _ q0;obtain⟨k2',q2⟩:=key _ _ q1;obtain⟨k3,q3⟩:=key _ _ q2;obtain⟨k4,q4⟩:=key _ _ q3;refine⟨0,by decide,rfl,?_,q4,(((z1.alloc _).alloc _).alloc _).alloc _,((k1.alloc _).alloc _).alloc _,(k2'.alloc _).alloc _,?_,?_⟩
  ·exact(((b0.alloc (by have:=EB.o;simp;omega) _).alloc (by have:=EB.o;simp;omega) _).alloc (by have:=EB.o;simp;omega) _).alloc (by have:=EB.o;simp;omega) _
  ·rw[Rl];exact k3.alloc _
  ·rw[Rl];exact k4
 case round=>
  obtain⟨i,hi,rfl,hb,hsz,h0,h1,h2,h3,h4⟩:=hrel;have HB:=I hb;clear hb;have HS:=I hsz;clear hsz
  by_cases hx:i=16
  ·subst hx
   rw[XO] at h3 h4;obtain⟨cs,ecs⟩:∃cs,cs=(List.range 16).map (fun j=>bv (ks j)):=⟨_,rfl⟩;obtain⟨ds,eds⟩:∃ds,ds=(List.range 16).map (fun j=>bv (k2 ks j)):=⟨_,rfl⟩;have n3:cs.length=16:=by rw[ecs];simp
   have n4:ds.length=16:=by rw[eds];simp
   have o3:∀v∈cs,v.oneCell'=true:=by rw[ecs];intro v hv;obtain⟨j,_,rfl⟩:=List.mem_map.1 hv;rfl
   have o4:∀v∈ds,v.oneCell'=true:=by rw[eds];intro v hv;obtain⟨j,_,rfl⟩:=List.mem_map.1 hv;rfl
   have h3:Blk wr (B+3) 233 cs.toArray:=by rw[ecs];exact h3
   have h4:Blk wr (B+4) 233 ds.toArray:=by rw[eds];exact h4
   have r3:wr.drew.rangeAt (B+1+1+1) 0 cs:=by have:=Si.Ag h3;simpa using this
   have r4:wr.drew.rangeAt (B+1+1+1+1) 0 ds:=by have:=Si.Ag h4;simpa using this
   have t1:wr.drew.there (B+1) 0 16:=by have:=Si.Ao h1;rwa [AW] at this
   have t2:wr.drew.there (B+1+1) 0 16:=by have:=Si.Ao h2;rwa [AW] at this
   have u3:(Tryz.prog.info? 233).map (·.size)=some cs.length:=by rw[n3];kernel_rfl
   have u4:(Tryz.prog.info? 233).map (·.size)=some ds.length:=by rw[n4];kernel_rfl
   have hu16:=Tryz.underlying233;have EC:=I ecs;clear ecs;have ED:=I eds;clear eds;clear h0 h1 h2 h3 h4
   go_wp2_with fail
   refine wp_region_held_drew (S:=fun w'=>w'.rangeAt (B+1+1+1) 0 cs∧w'.rangeAt (B+1+1+1+1) 0 ds∧w'.there (B+1) 0 16∧w'.there (B+1+1) 0 16) (by kernel_rfl) ⟨r3,r4,t1,t2⟩ (fun hHeld=>?_);refine wpAnyH_take (i:=0) (v:=.agg cs.toArray) rfl (by kernel_rfl) (by kernel_rfl) (by kernel_rfl) (fun _ _ _ h=>h) (yieldsIf_load_mid (by rfl) 233 (.tmp 4) rfl (B+1+1+1) 0 rfl cs _ (fun _ h=>h.1) hu16 rfl u3) hHeld ?_;refine wpAnyH_take (i:=1) (v:=.agg ds.toArray) rfl (by kernel_rfl) (by kernel_rfl) (by kernel_rfl) (fun _ _ _ h=>h) (yieldsIf_load_mid (by rfl) 233 (.tmp 5) rfl (B+1+1+1+1) 0 rfl ds _ (fun _ h=>h.2.1) hu16 rfl u4) hHeld ?_;refine wpAnyH_ready (rs:=[2]) (by kernel_rfl) (by simp) ?_;refine AllReadyH.cons (o:=_) rfl (fun K hK=>?_) AllReadyH.nil;rw[if_pos (by rfl)];refine wp_store_mid 233 _ _ rfl (B+1) 0 cs.toArray rfl rfl (by rw[List.size_toArray,n3];exact hHeld.2.2.1) (by rw[List.size_toArray];exact u3) (all_oneCell_toArray o3) ?_;refine hK.o _ _ ⟨World.rangeAt_setCells_apart hHeld.1 _ _ _ (.inl (by omega)),World.rangeAt_setCells_apart hHeld.2.1 _ _ _ (.inl (by omega)),World.there_setCells hHeld.2.2.1 _ _ _,World.there_setCells hHeld.2.2.2 _ _ _⟩ (fun hHeld2=>?_);clear hK K;refine wpAnyH_ready (rs:=[3]) (by kernel_rfl) (by simp) ?_;refine AllReadyH.cons (o:=_) rfl (fun K hK=>?_) AllReadyH.nil;rw[if_pos (by rfl)];refine wp_store_mid 233 _ _ rfl (B+1+1) 0 ds.toArray rfl rfl (by rw[List.size_toArray,n4];exact hHeld2.2.2.2) (by rw[List.size_toArray];exact u4) (all_oneCell_toArray o4) ?_;refine hK.o _ _ ⟨World.rangeAt_setCells_apart hHeld2.1 _ _ _ (.inl (by omega)),World.rangeAt_setCells_apart hHeld2.2.1 _ _ _ (.inl (by omega)),World.there_setCells hHeld2.2.2.1 _ _ _,World.there_setCells hHeld2.2.2.2 _ _ _⟩ (fun hHeld3=>?_);clear hK K;refine wpAnyH_done (by kernel_rfl) ?_ _;have hR1:((wr.drew.setCells (B+1) 0 cs).setCells (B+1+1) 0 ds).rangeAt (B+1) 0 cs:=World.rangeAt_setCells_apart (World.rangeAt_setCells_same _ _ _ _ (by rw[n3];exact t1)) _ _ _ (.inl (by omega));have hR2:((wr.drew.setCells (B+1) 0 cs).setCells (B+1+1) 0 ds).rangeAt (B+1+1) 0 ds:=World.rangeAt_setCells_same _ _ _ _ (by rw[n4];exact hHeld2.2.2.2);have hBW:Below B w ((wr.drew.setCells (B+1) 0 cs).setCells (B+1+1) 0 ds):=Si.Bh _ (by omega) _ _ _ (Si.Bh _ (by omega) _ _ _ (below_drewN HB.o 1));change Exit.then _ _ Exit.normal _ ((wr.drew.setCells (B+1) 0 cs).setCells (B+1+1) 0 ds)
   generalize (wr.drew.setCells (B+1) 0 cs).setCells (B+1+1) 0 ds=W3 at hR1 hR2 hBW⊢;clear hHeld hHeld2 hHeld3 r3 r4 t1 t2;have q1:=run_loadVar_mid (P:=Tryz.prog) W3 (B+1) 0 233 cs _ hR1 hu16 rfl u3;have q2:=run_loadVar_mid (P:=Tryz.prog) W3 (B+1+1) 0 233 ds _ hR2 hu16 rfl u4;have Q1:=I q1;clear q1;have Q2:=I q2;clear q2;have BW:=I hBW;clear hBW;clear hR1 hR2 u3 u4 hu16 n3 n4 o3 o4 h3 h4
   go_wp2_with fail
   refine bodyPost_ret (v:=.tuple #[.agg cs.toArray,.agg ds.toArray]) (Mn 2 3 233 233 ⟨B+1,0,none⟩ ⟨B+1+1,0,none⟩ Tryz.results131 (by rfl) (by rfl) Q1.o Q2.o) (by rfl) ?_;exact⟨by rw[EC.o,ED.o];rfl,EB.o▸BW.o⟩
  ·have e1:(i:Int)<16:=by omega
   have e2:(0:Int)≤(i:Int):=by omega
   have e3:i<16:=by omega
   have e4:(16:Int)+(i:Int)<32:=by omega
   have e5:(0:Int)≤(16:Int)+(i:Int):=by omega
   have e6:16+i<32:=by omega
   have e7:i<32:=by omega
   obtain⟨x,ex⟩:∃x,x=ks i:=⟨_,rfl⟩;obtain⟨y,ey⟩:∃y,y=ks (16+i):=⟨_,rfl⟩;have g0:wr.cell? ⟨B,i,none⟩=some (.int .u8 (x.toNat:Int)):=by rw[h0.cell,EK.o,key32_at' ks i e7,ex];rfl
   have g1:wr.cell? ⟨B,16+i,none⟩=some (.int .u8 (y.toNat:Int)):=by rw[h0.cell,EK.o,key32_at' ks (16+i) e6,ey];rfl
   have f3:=h3.frozen;have f4:=h4.frozen;have c3:=h3.cell i;have c4:=h4.cell i;rw[Fk _ _ e3] at c3 c4;simp only[bv] at c3 c4;have H0:=I h0;clear h0;have H1:=I h1;clear h1;have H2:=I h2;clear h2;have H3:=I h3;clear h3;have H4:=I h4;clear h4;have hw:IntKind.i64.wrap ((16:Int)+(i:Int))=(16:Int)+(i:Int):=by rw[IntKind.wrap_i64];omega
   have EX:=I ex;clear ex;have EY:=I ey;clear ey;have HX:=I hx;clear hx;have HI:=I hi;clear hi
   go_wp2_with fail
   go_region
   all_goals go_wp2_with fail
   all_goals
    go_roundw
    case rel=>
     have s3:=H3.o.set i (bv x);rw[EX.o,UO ks i e3,←EX.o] at s3;have s4:=(Si.Blk.far H4.o ⟨B+3,i,none⟩ (bv x) (by simp)).set i (bv y);rw[EY.o,show ks (16+i)=k2 ks i from rfl,UO (k2 ks) i e3] at s4;refine⟨i+1,by omega,by go_num,?_,?_,?_,?_,?_,?_,?_⟩
     ·exact below_drewN (Si.Am (Si.Am HB.o (by simp;omega) _) (by simp;omega) _) 1
     ·simpa [World.setCell] using HS.o
     ·exact Si.Blk.far (Si.Blk.far H0.o ⟨B+3,i,none⟩ _ (show B+3≠B by omega)) ⟨B+4,i,none⟩ _ (show B+4≠B by omega)
     ·exact Si.Blk.far (Si.Blk.far H1.o ⟨B+3,i,none⟩ _ (show B+3≠B+1 by omega)) ⟨B+4,i,none⟩ _ (show B+4≠B+1 by omega)
     ·exact Si.Blk.far (Si.Blk.far H2.o ⟨B+3,i,none⟩ _ (show B+3≠B+2 by omega)) ⟨B+4,i,none⟩ _ (show B+4≠B+2 by omega)
     ·exact Si.Blk.far s3 ⟨B+4,i,none⟩ _ (show B+4≠B+3 by omega)
     ·exact(by have e:=s4;rw[show bv (k2 ks i)=bv y from by rw[EY.o];rfl] at e;exact e)
    case measure=>simp [intOf];omega
end Se
end
section
namespace Se
open Go.RowKit Af
theorem dbig (N:Nat) (w:World) (hN:N<18446744073709551616) :
  Calls Tryz.prog 98 #[.int .u64 (N:Int)] w fun e w'=>∃v,e = .returned v∧w'.ownsRow w.heap.size 5 1 v 8 (bvs (w8 N))∧Below w.heap.size w w':=by
 obtain⟨ib,hi0,hz0,hs0,hb0⟩:=info_parts Si.BD;obtain⟨B,eB⟩:∃B,B=w.heap.size:=⟨_,rfl⟩;have EB:=I eB;clear eB;have HN:=I hN;clear hN;go_enter Tryz.func98,Tryz.ntmps98
 go_wp2_with fail
 go_loopw [3,4] (fun bv_ iv wr=>∃j:Nat,j≤8∧iv = .int .i64 (7 - (j:Int))∧wr.ownsRow B 5 1 bv_ j (laid [] N j)∧Below B w wr) (fun _ iv _=>(intOf iv+1).toNat)
 case atStart=>exact⟨0,by decide,rfl,⟨rfl,.inl ⟨rfl,rfl⟩⟩,Below.refl _ _⟩
 case round=>
  obtain⟨j,hj,rfl,hown,hbl⟩:=hrel;have HR:=I hown;clear hown;have HW:=I hbl;clear hbl
  by_cases hx:j=8
  ·subst hx
   go_wp2_with fail
   go_ret;exact⟨_,rfl,by have:=HR.o;rw[UK,List.nil_append] at this;exact EB.o▸this,EB.o▸HW.o⟩
  ·obtain⟨k,ek⟩:∃k:Nat,k=7 - j:=⟨_,rfl⟩
   obtain⟨m,em⟩:∃m:Nat,m=56 - 8*j:=⟨_,rfl⟩;have hk:(7:Int) - (j:Int)=(k:Int):=by omega
   rw[hk];have hx3:j<8:=by omega
   have hm8:(8:Int)*(k:Int)=(m:Int):=by omega
   have hx4:m<64:=by omega
   have hx5:(m:Int)<64:=by omega
   have hx6:(0:Int)≤(m:Int):=by omega
   have hx7:min m 64=m:=by omega
   have hx8:(0:Int)≤(k:Int):=by omega
   have hx9:(k:Int)≤7:=by omega
   have hnx:=Lf [] N j hx3;have hv:bv (UInt8.ofNat (N / 2 ^ (56 - 8*j))) = .int .u8 ((N:Int) / 2 ^ m % 256):=by
    unfold bv;rw[UInt8.toNat_ofNat',←em];congr 1
   rw[hv] at hnx;have NX:=I hnx;clear hnx;have EM:=I em;clear em;have EK:=I ek;clear ek;have HX:=I hx;clear hx;have HJ:=I hj;clear hj;have HX3:=I hx3;clear hx3;clear hk hv
   go_wp2_with (first | (at_builtin;refine Au _ (by rfl) (.tmp 9) (.tmp 16) 30 (by rfl) B 5 ib _ 1 Tryz.underlying30 hi0 hz0 hs0 hb0 (by rfl) _ j (laid [] N j) (by rfl) (Dk HR.o (by rfl)) (wr.heap.size+1) (some ⟨wr.heap.size,0,none⟩) 1 1 [.int .u8 ((N:Int) / 2 ^ m % 256)] (by rfl) (by rfl) (Si.Fm wr 5 _ [.int .u8 ((N:Int) / 2 ^ m % 256)] (by rfl) _ rfl) (by simp [Value.oneCell']) (by have:=HX3.o;unfold maxLen;omega) (by have:=HX3.o;omega) (by have:=EB.o;have:=HW.o.size;simp;omega) ?_;intro v6 w6 hown6 hgrow6 hat6;have O6:=I hown6;have G6:=I hgrow6;clear hown6 hgrow6 hat6) | fail)
   go_roundw
   case rel=>
    refine⟨j+1,by have:=HX3.o;omega,?_,by rw[←NX.o];exact O6.o,?_⟩
    ·exact congrArg (Value.int .i64) (by have:=EK.o;have:=HX3.o;omega)
    ·exact(HW.o.alloc (by have:=EB.o;have:=HW.o.size;omega) _).grown G6.o (by have:=EB.o;have:=HW.o.size;simp;omega) (fun q hq=>(HR.o.lt q hq).1)
   case measure=>simp [intOf]
theorem Rn (B:Nat) (A:Option Addr) (n c:Nat) (l:List UInt8) (w:World) (hn:n=l.length) (h8:8≤n) (hr:Rd w B A (bvs l)) :
  Calls Tryz.prog 71 #[.slice A n c] w fun e w'=>e = .returned (.int .u64 (n8 l:Int))∧w'=w:=by
 obtain⟨b,o,rfl,hb,hcell⟩:∃b o,A=some ⟨b,o,none⟩∧b<B∧∀i (h:i<l.length),w.cell? ⟨b,o+i,none⟩=some (bv l[i]):=by
  rcases hr with h | ⟨b,o,h1,h2,h3⟩
  ·have:=Aj l;rw[h] at this;simp at this;omega
  ·exact⟨b,o,h1,h2,fun i hi=>h3 i _ (Dw hi)⟩
 have HC:=I hcell;clear hcell;have hn8:(8:Int)≤(n:Int):=by omega
 have HN:=I hn;clear hn;have H8:=I h8;clear h8;clear hr hb;go_enter Tryz.func71,Tryz.ntmps71
 go_wp2_with fail
 go_loop [3,4] (fun wv_ iv=>∃i:Nat,i≤8∧iv = .int .i64 (i:Int)∧wv_ = .int .u64 (big 0 (l.take i):Nat)) (fun _ iv=>8 - (intOf iv).toNat)
 case atStart=>exact⟨0,by decide,rfl,rfl⟩
 case round=>
  obtain⟨i,hi,rfl,rfl⟩:=hrel
  by_cases hx:i=8
  ·subst hx
   go_wp2_with fail
   go_ret;exact⟨rfl,rfl⟩
  ·have e1:(i:Int)<8:=by omega
   have e2:(0:Int)≤(i:Int):=by omega
   have e3:i<8:=by omega
   have hl:i<l.length:=by have:=HN.o;have:=H8.o;omega
   have e4:i<n:=by have:=H8.o;omega
   have e5:(i:Int)<(n:Int):=by omega
   obtain⟨y,ey⟩:∃y,y=l[i]:=⟨_,rfl⟩;have hcc:=HC.o i hl;rw[←ey] at hcc;simp only[bv] at hcc;have hy:=y.toNat_lt;obtain⟨v,ev⟩:∃v,v=big 0 (l.take i):=⟨_,rfl⟩;obtain⟨u,eu⟩:∃u,u=v*256+y.toNat:=⟨_,rfl⟩;rw[←ev];have hv:v<72057594037927936:=by
    have:=Ix l i;rw[←ev] at this;exact Nat.lt_of_lt_of_le this (Nat.pow_le_pow_right (by decide) (by omega):256 ^ i≤256 ^ 7)
   have hw1:(v:Int)*256 % 18446744073709551616=(v:Int)*256:=by omega
   have hw2:(y.toNat:Int) % 18446744073709551616=(y.toNat:Int):=by omega
   have hw3:IntKind.u64.wrap (y.toNat:Int)=(y.toNat:Int):=by rw[IntKind.wrap_u64];exact hw2
   have hw4:IntKind.u64.wrap ((v:Int)*256)=(v:Int)*256:=by rw[IntKind.wrap_u64];exact hw1
   have hor:bits .or .u64 ((v:Int)*256) (y.toNat:Int)=(u:Int):=by rw[eu];exact Ra v y.toNat hy hv
   have hnx:u=big 0 (l.take (i+1)):=by rw[NF l i hl,←ey,←ev,eu]
   have NX:=I hnx;clear hnx;have HI:=I hi;clear hi;have HX:=I hx;clear hx;have HV:=I hv;clear hv;clear eu ev ey
   go_wp2_with fail
   go_round
   case rel=>exact⟨i+1,by omega,by go_num,by rw[←NX.o]⟩
   case measure=>simp [intOf];omega
end Se
end
section
namespace Se
open Go.RowKit Af
theorem Ro (ks:Nat→UInt8) (u n:Nat) (p:List UInt8) (i:Nat) (h:i<p.length) (h2:i<(Cu ks u n p.length).length):bvs ((mixL ks u n p).take i)++[bv (p[i] ^^^ (Cu ks u n p.length)[i])]=bvs ((mixL ks u n p).take (i+1)):=by
 rw[List.take_add_one,QU ks u n p i h h2,Bx];rfl
theorem XP (y x:UInt8):bits .xor .u8 (y.toNat:Int) (x.toNat:Int)=((y ^^^ x).toNat:Int):=by
 rw[u8_xor_nat _ _ y.toNat_lt x.toNat_lt,UInt8.toNat_xor]
def twoW (w1:World) (z:Array Value) (t:TypeId) (cs ds:Array Value):World:=(((w1.alloc (.cells z t)).alloc (.cells z t)).setCells w1.heap.size 0 cs.toList).setCells (w1.heap.size+1) 0 ds.toList
theorem Jw (w1:World) (z:Array Value) (t:TypeId) (cs ds:Array Value) (h1:z.size=cs.size) (h2:z.size=ds.size) :
  (twoW w1 z t cs ds).rangeAt w1.heap.size 0 cs.toList∧(twoW w1 z t cs ds).rangeAt (w1.heap.size+1) 0 ds.toList∧Below w1.heap.size w1 (twoW w1 z t cs ds)∧w1.heap.size+2≤(twoW w1 z t cs ds).heap.size:=by
 have t1:((w1.alloc (.cells z t)).alloc (.cells z t)).there w1.heap.size 0 cs.toList.length:=by
  have:=World.there_alloc (Si.Ao (Blk.new w1 t z)) (.cells z t)
  rwa [h1,←Array.length_toList] at this
 have t2:((w1.alloc (.cells z t)).alloc (.cells z t)).there (w1.heap.size+1) 0 ds.toList.length:=by
  have:=Si.Ao (Si.Blk.new_of (w1.alloc (.cells z t)) (w1.heap.size+1) t z z rfl (by simp))
  rwa [h2,←Array.length_toList] at this
 refine⟨World.rangeAt_setCells_apart (World.rangeAt_setCells_same _ _ _ _ t1) _ _ _ (.inl (by omega)),World.rangeAt_setCells_same _ _ _ _ (World.there_setCells t2 _ _ _),?_,?_⟩
 ·exact Si.Bh _ (by omega) _ _ _ (Si.Bh _ (Nat.le_refl _) _ _ _ (((Below.refl _ _).alloc (Nat.le_refl _) _).alloc (by simp) _))
 ·unfold twoW;rw[SpL.DW,SpL.DW];simp
theorem dmix (ks:Nat→UInt8) (u n:Nat) (A:Option Addr) (m c:Nat) (p:List UInt8) (w:World) (hu:u≤255) (hn:n<18446744073709551616) (hm:m=p.length) (hm2:m≤1000) (hr:Rd w w.heap.size A (bvs p)) :
  Calls Tryz.prog 73 #[.agg (AP ks),.int .i64 (u:Int),.int .u64 (n:Int),.slice A m c] w fun e w'=>∃v,e = .returned v∧w'.ownsRow w.heap.size 5 1 v m (bvs (mixL ks u n p))∧Below w.heap.size w w':=by
 obtain⟨ib,hi0,hz0,hs0,hb0⟩:=info_parts Si.BD;obtain⟨B,eB⟩:∃B,B=w.heap.size:=⟨_,rfl⟩;obtain⟨N,eN⟩:∃N,N=sn u n:=⟨_,rfl⟩;have hsn:=Rc u n hu;have hsn2:=XI u n hu;have hsnlt:=XJ u n;rw[←eN] at hsn hsn2 hsnlt;have hu1:(u:Int) % 18446744073709551616=(u:Int):=by omega
 have hstr:Sp.strm (Sp.kw ks) (Sp.upW N) (Sp.loW N) m=Cu ks u n m:=by rw[eN];rfl
 have ch:=fun w1=>Rm ks w1
 have cw:=fun w1=>Sp.Xq ks w1
 have cst:=fun w1=>SpL.Wg (Sp.kw ks) N m (m:Int) w1 hsnlt hm2 (by simp)
 rw[hstr] at cst;have i32:=EH ks;have i16:=Iy ks;have i16b:=Iy (k2 ks);have o16:=QZ ks;have o16b:=QZ (k2 ks);have z16:=AW ks;have z16b:=AW (k2 ks);obtain⟨kc,ekc⟩:∃kc,kc=AP ks:=⟨_,rfl⟩;obtain⟨cs,ecs⟩:∃cs,cs=Sp.AD ks:=⟨_,rfl⟩;obtain⟨ds,eds⟩:∃ds,ds=Sp.AD (k2 ks):=⟨_,rfl⟩;obtain⟨xs,exs⟩:∃xs,xs=Sp.AO (Sp.kw ks):=⟨_,rfl⟩;rw[←ekc] at ch i32⊢;rw[←ecs] at ch cw i16 o16 z16;rw[←eds] at ch i16b o16b z16b;rw[←exs] at cw cst;have hz:Sp.AD (fun _=>0)=#[.int .u8 0,.int .u8 0,.int .u8 0,.int .u8 0,.int .u8 0,.int .u8 0,.int .u8 0,.int .u8 0,.int .u8 0,.int .u8 0,.int .u8 0,.int .u8 0,.int .u8 0,.int .u8 0,.int .u8 0,.int .u8 0]:=rfl;have EB:=I eB;have HR:=I (eB▸hr);clear hr;have HM:=I hm;clear hm;have q3:(m:Int)≤1000:=by omega
 have HM2:=I hm2;clear hm2;have I32:=I i32;clear i32;have I16:=I i16;clear i16;have I16B:=I i16b;clear i16b;have O16:=I o16;clear o16;have O16B:=I o16b;clear o16b;have Z16:=I z16;clear z16;have Z16B:=I z16b;clear z16b;have HZ:=I hz;clear hz;have CST:=I cst;clear cst;have HSN:=I hsn;clear hsn;have HSN2:=I hsn2;have HSN3:Hid (((n:Int)*256+(u:Int)) % 18446744073709551616=(N:Int)):=by rw[←hsn2];show _=_;omega
 have HSN4:Hid (IntKind.u64.wrap (IntKind.u64.wrap ((n:Int)*256)+(u:Int))=(N:Int)):=by rw[IntKind.wrap_u64,IntKind.wrap_u64];omega
 clear hsn2;have h0:Blk (w.alloc (.cells kc 47)) B 47 kc:=eB▸Blk.new w _ _;have hb0':Below B w (w.alloc (.cells kc 47)):=eB▸(Below.refl w.heap.size w).alloc (Nat.le_refl _) _;have H0:=I h0;clear h0;have HB0:=I hb0';clear hb0';clear hu hn hstr hsnlt eN ekc ecs eds exs eB;go_enter Tryz.func73,Tryz.ntmps73
 go_upto_region 2 with(first
  |(refine Ae (by rfl) 47 (.tmp 4) (by rfl) w.heap.size 0 (by rfl) kc _ (Si.Ag (Blk.new w 47 kc)) Tryz.underlying47 (by rfl) I32.o ?_)
  |(go_at_call 131;refine Calls.mono (ch _) ?_;rintro e w1 ⟨rfl,hb1⟩;clear ch;have hb1:=HB0.o.trans (hb1.mono (by have:=EB.o;simp;omega));have H1:=I hb1;clear hb1)
  |(refine wpList_store_mid (by rfl) 233 (.tmp 9) (.tmp 17) (by rfl) w1.heap.size 0 cs (by rfl) (by rfl) (by rw[Z16.o];exact World.there_alloc (by have:=Si.Ao (Blk.new w1 233 (Sp.AD fun _=>0));rwa [AW] at this) _) I16.o O16.o ?_)
  |(refine wpList_store_mid (by rfl) 233 (.tmp 10) (.tmp 18) (by rfl) (w1.heap.size+1) 0 ds (by rfl) (by rfl) (by rw[Z16B.o];exact World.there_setCells (by have:=Si.Ao (Si.Blk.new_of (w1.alloc (.cells (Sp.AD fun _=>0) 233)) (w1.heap.size+1) 233 _ (Sp.AD fun _=>0) rfl (by simp));rwa [AW] at this) _ _ _) I16B.o O16B.o ?_)
  |fail)
 have h2:=Jw w1 (Sp.AD fun _=>0) 233 cs ds (by rw[AW,Z16.o]) (by rw[AW,Z16B.o]);change Code.wp _ _ _ _ (twoW w1 (Sp.AD fun _=>0) 233 cs ds);generalize twoW w1 (Sp.AD fun _=>0) 233 cs ds=W2 at h2⊢;have hb2:=H1.o.trans (h2.2.2.1.mono (by have:=H1.o.size;have:=EB.o;omega));have HB2:=I hb2;clear hb2;have HA2:=I h2.1;clear h2;have cw2:=cw W2;clear cw
 go_wp2_with (first
  |(refine Ae (by rfl) 233 (.tmp 9) (by rfl) w1.heap.size 0 (by rfl) cs _ HA2.o Tryz.underlying233 (by rfl) I16.o ?_)
  |(go_at_call 134;refine Calls.mono cw2 ?_;rintro e w3 ⟨rfl,hb3⟩;clear cw2;have hb3:=HB2.o.trans (hb3.mono (by have:=HB2.o.size;have:=EB.o;omega));have c4:=CST.o w3;have H3:=I hb3;clear hb3)
  |(go_at_call 133;(first | rw[HSN2.o] | rw[HSN.o] | rw[HSN3.o] | rw[HSN4.o]);refine Calls.mono c4 ?_;rintro e w5 ⟨As,sc,rfl,hsc,hrs,hb5⟩;clear c4;have hb5:=H3.o.trans (hb5.mono (by have:=H3.o.size;have:=EB.o;omega));have H5:=I hb5;have RS:=I hrs;clear hb5 hrs)
  |fail)
 obtain⟨N0,eN0⟩:∃N0,N0=w5.heap.size:=⟨_,rfl⟩;have EN:=I eN0;clear eN0;have hsm:(Cu ks u n m).length=m:=Bu ks u n m;have HSM:=I hsm;clear hsm
 go_loopw [12,13] (fun bv_ iv wr=>∃i:Nat,i≤m∧iv = .int .i64 (i:Int)∧wr.ownsRow N0 5 1 bv_ i (bvs ((mixL ks u n p).take i))∧Below N0 w5 wr) (fun _ iv _=>m - (intOf iv).toNat)
 case atStart=>exact⟨0,Nat.zero_le _,rfl,⟨rfl,.inl ⟨rfl,rfl⟩⟩,Below.refl _ _⟩
 case round=>
  obtain⟨i,hi,rfl,hown,hbl⟩:=hrel;have HO:=I hown;clear hown;have HW:=I hbl;clear hbl
  by_cases hx:i=m
  ·subst hx
   go_wp2_with fail
   go_ret;have h9:=HO.o;rw[List.take_of_length_le (by rw[Bq,HM.o];exact Nat.le_refl _)] at h9;refine⟨_,rfl,h9.mono (by have:=EN.o;have:=H5.o.size;omega),?_⟩;rw[←EB.o];exact H5.o.trans (HW.o.mono (by have:=EN.o;have:=H5.o.size;have:=EB.o;omega))
  ·have hlt:i<m:=by omega
   have hlp:i<p.length:=by have:=HM.o;omega
   have e1:(i:Int)<(m:Int):=by omega
   have e2:(0:Int)≤(i:Int):=by omega
   have e3:(i:Int)<1000:=by omega
   have hls:i<(Cu ks u n p.length).length:=by rw[Bu];exact hlp
   have hls2:i<(Cu ks u n m).length:=by rw[Bu];exact hlt
   obtain⟨y,ey⟩:∃y,y=p[i]:=⟨_,rfl⟩;obtain⟨x,ex⟩:∃x,x=(Cu ks u n p.length)[i]:=⟨_,rfl⟩;obtain⟨z,ez⟩:∃z,z=y ^^^ x:=⟨_,rfl⟩;obtain⟨b1,o1,rfl,hb1',hc1⟩:=HR.o.at_ (Dw hlp);obtain⟨b2,o2,rfl,hb2',hc2⟩:=RS.o.at_ (Dw hls2);rw[←ey] at hc1;have hex:(Cu ks u n m)[i]=x:=by
    rw[ex];have:=HM.o;subst this
    rfl
   rw[hex] at hc2;have hb1n:b1<N0:=by have:=EN.o;have:=H5.o.size;have:=EB.o;omega
   have hb2n:b2<N0:=by have:=EN.o;omega
   have d1:wr.cell? ⟨b1,o1+i,none⟩=some (.int .u8 (y.toNat:Int)):=(HW.o.cell (p:=⟨b1,o1+i,none⟩) hb1n).trans ((H5.o.cell (p:=⟨b1,o1+i,none⟩) hb1').trans hc1);have d2:wr.cell? ⟨b2,o2+i,none⟩=some (.int .u8 (x.toNat:Int)):=(HW.o.cell (p:=⟨b2,o2+i,none⟩) hb2n).trans hc2;have hxo:bits .xor .u8 (y.toNat:Int) (x.toNat:Int)=(z.toNat:Int):=by rw[ez];exact XP y x
   have hnx:=Ro ks u n p i hlp hls;rw[←ey,←ex,←ez] at hnx;have NX:=I hnx;clear hnx;have HX:=I hx;clear hx;have HI:=I hi;clear hi;clear ey ex ez hc1 hc2 hex hls hls2 hb1' hb2' hb1n hb2n
   go_wp2_with fail
   go_region_law (refine step_append_lies _ (by rfl) (.tmp 35) (.tmp 45) 30 (by rfl) N0 5 ib _ 1 1 Tryz.underlying30 hi0 hz0 hs0 hb0 (by rfl) (by decide) u12 i (bvs ((mixL ks u n p).take i)) (by rfl) (Dk HO.o (by rfl)) ⟨wr.heap.size,0,none⟩ 1 1 [.int .u8 (z.toNat:Int)] (by rfl) (by rfl) (Sp.KX (by rfl)) (by simp [Value.oneCell']) (by decide) (by have:=HI.o;have:=HM2.o;unfold maxLen;omega) (by have:=HI.o;have:=HM2.o;omega) (by have:=EN.o;have:=HW.o.size;simp;omega) (wr.heap.size+1) (by simp) ?_;intro g2 cap2 w2 hown2 hgrow hat hlt)
   all_goals (
    have hg2:(wr.alloc (.cells #[.int .u8 (z.toNat:Int)] 5)).grownBy w2 u12.ownBlock:=⟨hgrow.os,hgrow.tape,hgrow.output,hgrow.size,hgrow.block⟩;have hb2:=(HW.o.alloc (by have:=EN.o;have:=HW.o.size;omega) (Obj.cells #[.int .u8 (z.toNat:Int)] 5)).grown hg2 (by have:=EN.o;have:=HW.o.size;simp;omega) (fun q hq=>(HO.o.lt q hq).1);have O6:=I hown2;clear hown2;have B6:=I hb2;clear hb2;clear hgrow hat hlt hg2 d1 d2
    go_wp2_with fail
    go_roundw
    case rel=>exact⟨i+1,by omega,by go_num,by rw[←NX.o];exact O6.o,B6.o⟩
    case measure=>simp [intOf];omega)
end Se
end
section
namespace Se
open Go.RowKit Af
theorem IH {w w':World} {b o:Nat} {cs:List Value} {row:Option Nat} (h:w.rangeAt b o cs) (hb:b<w.heap.size) (hg:w.grownBy w' row) (hr:row≠some b):w'.rangeAt b o cs:=fun j v hv=>
 (World.cell?_of_block (a:=⟨b,o+j,none⟩) (hg.block b hb (fun e=>hr e.symm))).trans (h j v hv)
theorem CZ {w w':World} {b o:Nat} {cs:List Value} (h:w.rangeAt b o cs) (hb:b<w.heap.size) (hg:Below w.heap.size w w'):w'.rangeAt b o cs:=IH h hb (Bk hg none) (by simp)
theorem dtag (ks:Nat→UInt8) (u:Nat) (A:Option Addr) (m c:Nat) (l:List UInt8) (w:World) (hu:u≤255) (hm:m=l.length) (hm2:m≤1000) (hr:Rd w w.heap.size A (bvs l)) :
  Calls Tryz.prog 72 #[.agg (AP ks),.int .i64 (u:Int),.slice A m c] w fun e w'=>∃v,e = .returned v∧w'.ownsRow w.heap.size 5 1 v 8 (bvs (w8 (tagL ks u l)))∧Below w.heap.size w w':=by
 obtain⟨ib,hi0,hz0,hs0,hb0⟩:=info_parts Si.BD;obtain⟨B,eB⟩:∃B,B=w.heap.size:=⟨_,rfl⟩;have ch:=fun w1=>Rm ks w1
 have i32:=EH ks;have i16:=Iy ks;have i16b:=Iy (k2 ks);have o16:=QZ ks;have o16b:=QZ (k2 ks);have z16:=AW ks;have z16b:=AW (k2 ks);obtain⟨T,eT⟩:∃T,T=tagL ks u l:=⟨_,rfl⟩;have hTL:T<18446744073709551616:=by rw[eT];exact Kf _ _ _
 have csum:=fun(w4:World) (A4:Option Addr) (c4:Nat) (h1:1+m≤c4) (h2:c4≤maxLen) (h3:Rd w4 w4.heap.size A4 (bvs (UInt8.ofNat u :: l)))=>Si.TH (k2 ks) A4 (1+m) c4 (UInt8.ofNat u :: l) w4 (by rw[List.length_cons,hm,Nat.add_comm]) (by omega) h1 h2 h3
 have hT:∀e,e=Ending.returned (Si.wv (Si.GO (k2 ks) (UInt8.ofNat u :: l)))→e = .returned (.int .u64 (T:Int)):=fun e h=>by rw[h,eT];rfl
 have hbu:[Value.int .u8 (u:Int)]++bvs l=bvs (UInt8.ofNat u :: l):=by
  show [Value.int .u8 (u:Int)]++bvs l=bv (UInt8.ofNat u) :: bvs l;rw[UL u hu];rfl
 obtain⟨kc,ekc⟩:∃kc,kc=AP ks:=⟨_,rfl⟩;obtain⟨cs,ecs⟩:∃cs,cs=Sp.AD ks:=⟨_,rfl⟩;have hds:∃dl:List Value,dl.toArray=Sp.AD (k2 ks):=⟨_,rfl⟩;obtain⟨dl,edl⟩:=hds;obtain⟨L,eL⟩:∃L,L=UInt8.ofNat u :: l:=⟨_,rfl⟩;rw[←ekc] at ch i32⊢;rw[←ecs] at ch i16 o16 z16;rw[←edl] at ch i16b o16b z16b;have hkk:Si.AD (k2 ks)=Sp.AD (k2 ks):=rfl;rw[hkk,←edl] at csum;rw[←eL] at csum hT hbu;rw[←eT];have u16:(Tryz.prog.info? 233).map (·.size)=some dl.length:=by rw[←List.size_toArray];exact i16b
 have hu16:=Tryz.underlying233;have hu1:(u:Int)≤255:=by omega
 have hu2:(0:Int)≤(u:Int):=by omega
 have hu3:(u:Int) % 256=(u:Int):=by omega
 have hu4:IntKind.u8.wrap (u:Int)=(u:Int):=by rw[IntKind.wrap_u8'];exact hu3
 have EB:=I eB;have HR:=I (eB▸hr);clear hr;have HM:=I hm;clear hm;have q3:(m:Int)≤1000:=by omega
 have HM2:=I hm2;clear hm2;have I32:=I i32;clear i32;have I16:=I i16;clear i16;have I16B:=I i16b;clear i16b;have O16:=I o16;clear o16;have O16B:=I o16b;clear o16b;have Z16:=I z16;clear z16;have Z16B:=I z16b;clear z16b;have CSUM:=I csum;clear csum;have HT:=I hT;clear hT;have HBU:=I hbu;clear hbu;have TL:=I hTL;clear hTL;have U16:=I u16;clear u16;have HU16:=I hu16;clear hu16;have hb0':Below B w (w.alloc (.cells kc 47)):=eB▸(Below.refl w.heap.size w).alloc (Nat.le_refl _) _;have HB0:=I hb0';clear hb0';clear hu ekc ecs edl eT eL hkk eB;go_enter Tryz.func72,Tryz.ntmps72
 go_upto_region 2 with(first
  |(refine Ae (by rfl) 47 (.tmp 3) (by rfl) w.heap.size 0 (by rfl) kc _ (Si.Ag (Blk.new w 47 kc)) Tryz.underlying47 (by rfl) I32.o ?_)
  |(go_at_call 131;refine Calls.mono (ch _) ?_;rintro e w1 ⟨rfl,hb1⟩;clear ch;have hb1:=HB0.o.trans (hb1.mono (by have:=EB.o;simp;omega));have H1:=I hb1;clear hb1)
  |(refine wpList_store_mid (by rfl) 233 (.tmp 7) (.tmp 12) (by rfl) w1.heap.size 0 cs (by rfl) (by rfl) (by rw[Z16.o];exact World.there_alloc (by have:=Si.Ao (Blk.new w1 233 (Sp.AD fun _=>0));rwa [AW] at this) _) I16.o O16.o ?_)
  |(refine wpList_store_mid (by rfl) 233 (.tmp 8) (.tmp 13) (by rfl) (w1.heap.size+1) 0 dl.toArray (by rfl) (by rfl) (by rw[Z16B.o];exact World.there_setCells (by have:=Si.Ao (Si.Blk.new_of (w1.alloc (.cells (Sp.AD fun _=>0) 233)) (w1.heap.size+1) 233 _ (Sp.AD fun _=>0) rfl (by simp));rwa [AW] at this) _ _ _) I16B.o O16B.o ?_)
  |fail)
 have h2:=Jw w1 (Sp.AD fun _=>0) 233 cs dl.toArray (by rw[AW,Z16.o]) (by rw[AW,Z16B.o]);change Code.wp _ _ _ _ (twoW w1 (Sp.AD fun _=>0) 233 cs dl.toArray);generalize twoW w1 (Sp.AD fun _=>0) 233 cs dl.toArray=W2 at h2⊢;have hb2:=H1.o.trans (h2.2.2.1.mono (by have:=H1.o.size;have:=EB.o;omega));have HB2:Hid (Below B w W2.drew):=below_drewN hb2 1;have hra:W2.drew.rangeAt (w1.heap.size+1) 0 dl:=by have:=h2.2.1;simpa using this
 have HSZ:=I (show w1.heap.size+2≤W2.drew.heap.size from h2.2.2.2);clear h2 hb2;have hu16:=HU16.o;have u16:=U16.o;simp only[Act.put];have LIT:Hid ((W2.alloc (.cells #[.int .u8 (u:Int)] 5)).drew.ownsRow W2.heap.size 5 1 (.slice (some ⟨W2.heap.size,0,none⟩) 1 1) 1 [.int .u8 (u:Int)]):=World.ownsRow_lit (base:=W2.heap.size) (e:=5) (size:=1) W2.drew #[.int .u8 (u:Int)] 1 (Nat.le_refl _) (by decide) (by rfl);have hBW:B≤W2.drew.heap.size:=by have:=HB2.o.size;have:=EB.o;omega
 have HB3:Hid (Below B w (W2.alloc (.cells #[.int .u8 (u:Int)] 5)).drew):=HB2.o.alloc hBW (.cells #[.int .u8 (u:Int)] 5);have HRD:Hid (Rd (W2.alloc (.cells #[.int .u8 (u:Int)] 5)).drew B A (bvs l)):=HR.o.below HB3.o;have hra3:(W2.alloc (.cells #[.int .u8 (u:Int)] 5)).drew.rangeAt (w1.heap.size+1) 0 dl:=World.rangeAt_alloc hra (.cells #[.int .u8 (u:Int)] 5);have HSZ3:Hid ((W2.alloc (.cells #[.int .u8 (u:Int)] 5)).drew.heap.size=W2.heap.size+1):=by show(W2.alloc _).heap.size=_;simp
 have HSZ2:Hid (w1.heap.size+2≤W2.heap.size):=HSZ.o;have HBS:Hid (B≤W2.heap.size):=hBW;clear hBW
 go_region_held3 (fun w'=>w'.rangeAt (w1.heap.size+1) 0 dl) (first | exact hra | exact hra3 | exact hS4 | exact hS5 | exact hS6) (first
  |(rw[if_pos (by rfl)];refine GZ _ (.tmp 17) (.tmp 18) 30 (by rfl) W2.heap.size 5 ib _ 1 Tryz.underlying30 hi0 hz0 hs0 hb0 (by rfl) _ 1 [.int .u8 (u:Int)] (by rfl) LIT.o B A m c (bvs l) (by rfl) (by rw[Aj];exact HM.o) HRD.o (Bf _) (by have:=HM2.o;unfold maxLen;omega) (by have:=HM2.o;omega) (by have:=HSZ3.o;omega) ?_;intro v4 w4 hown4 hgrow4 hat4;rw[HBU.o] at hown4;have hS4:w4.rangeAt (w1.heap.size+1) 0 dl:=IH hra3 (by have:=HSZ3.o;have:=HSZ2.o;omega) hgrow4 (by have:=HSZ2.o;simp [Value.ownBlock];omega);have hb4:Below B w w4:=HB3.o.grown hgrow4 (by have:=HSZ3.o;have:=HBS.o;omega) (fun k hk=>by have:=HBS.o;simp [Value.ownBlock] at hk;omega);obtain⟨A4,c4,hv4,hc4,hm4,hr4⟩:=IB (S:=fun _=>False) hown4 (fun _ _ x=>x);subst hv4;have csum4:=CSUM.o w4 A4 c4 hc4 hm4 hr4.rd;have H4:=I hb4;have Z4:=I hgrow4.size;clear hown4 hgrow4 hat4 hb4 hc4 hm4 hr4)
  |(go_at_call 132;refine Calls.mono csum4 ?_;rintro e w5 ⟨he,hb5⟩;have he:=HT.o e he;subst he;clear csum4;have hS5:w5.rangeAt (w1.heap.size+1) 0 dl:=CZ hS4 (by have:=Z4.o;have:=HSZ3.o;have:=HSZ2.o;omega) hb5;have Z5:=I hb5.size;have hb5:=H4.o.trans (hb5.mono (by have:=H4.o.size;have:=EB.o;omega));have cbig:=dbig T w5 TL.o;have H5:=I hb5;clear hb5)
  |(go_at_call 98;refine Calls.mono cbig ?_;rintro e w6 ⟨v6,rfl,hown6,hb6⟩;clear cbig;have hS6:w6.rangeAt (w1.heap.size+1) 0 dl:=CZ hS5 (by have:=Z4.o;have:=Z5.o;have:=HSZ3.o;have:=HSZ2.o;omega) hb6;have hb6:=H5.o.trans (hb6.mono (by have:=H5.o.size;have:=EB.o;omega));have H6:=I hb6;have O6:=I hown6;have Z6:=I H5.o.size;clear hb6 hown6))
 all_goals (
  clear hra hra3 hS4 hS5 hS6
  go_wp2_with fail
  go_ret;exact⟨_,rfl,O6.o.mono (by have:=Z6.o;have:=EB.o;omega),EB.o▸H6.o⟩)
end Se
end
end Go.Proofs.YtfcjeebnkigeaaaGreat
