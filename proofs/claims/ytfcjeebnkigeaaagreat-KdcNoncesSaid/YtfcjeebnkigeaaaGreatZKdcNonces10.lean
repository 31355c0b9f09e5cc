import Derived.DeepKeys
import Derived.Deep.RegionHeld3
import Derived.Deep.LoopGhost
import Derived.StillTailTactics
import Derived.Laws.OwnMore
import Derived.Test.YtfcjeebnkigeaaaGreatZKdcNonces1
import Derived.Test.YtfcjeebnkigeaaaGreatZKdcNonces2
import Derived.Test.YtfcjeebnkigeaaaGreatZKdcNonces3
import Derived.Test.YtfcjeebnkigeaaaGreatZKdcNonces4
import Derived.Test.YtfcjeebnkigeaaaGreatZKdcNonces5
import Derived.Test.YtfcjeebnkigeaaaGreatZKdcNonces6
import Derived.Test.YtfcjeebnkigeaaaGreatZKdcNonces7
import Derived.Test.YtfcjeebnkigeaaaGreatZKdcNonces8
import Derived.Test.YtfcjeebnkigeaaaGreatZKdcNonces9
section
set_option linter.unusedVariables false
namespace Go.Proofs.YtfcjeebnkigeaaaGreat.Rt
open Go.RowKit Go.Proofs.YtfcjeebnkigeaaaGreat.Mem Go.Proofs.YtfcjeebnkigeaaaGreat.Nm
def ixP (x:Pr) (K:List Pr):Int:=if x∈K then ((K.findIdx fun y=>decide (y=x):Nat):Int) else -1
theorem ixp_found {K:List Pr} {x:Pr} {i:Nat} (hi:i<K.length) (h:kl K i=x) (hn:∀k,k<i→kl K k≠x):ixP x K=(i:Int):=by
 have hm:x∈K:=by rw[←h];exact kl_mem hi
 rw[ixP,if_pos hm]
 congr 1
 rcases Nat.lt_trichotomy (K.findIdx fun y=>decide (y=x)) i with g | g | g
 ·have:=List.findIdx_getElem (p:=fun y=>decide (y=x)) (w:=(by omega:(K.findIdx fun y=>decide (y=x))<K.length))
  exact absurd (by rw[kl_lt (by omega)];simpa using this) (hn _ g)
 ·exact g
 ·have:=List.not_of_lt_findIdx g
  rw[kl_lt hi] at h
  simp [h] at this
theorem ixp_none {K:List Pr} {x:Pr} (hn:∀k,k<K.length→kl K k≠x):ixP x K = -1:=by
 rw[ixP,if_neg]
 intro hm
 obtain⟨i,hi,e⟩:=mem_kl hm
 exact hn i hi e
theorem ixp_ge (x:Pr) (K:List Pr):decide (0≤ixP x K)=decide (x∈K):=by
 rw[ixP]
 by_cases h:x∈K
 ·rw[if_pos h];simp [h]
 ·rw[if_neg h];simp [h]
theorem part_str (xs:Array Value) (i:Nat) (u:L) (h:xs[i]? = some (.string ⟨u.toArray⟩)) (w:World):(part 9 xs (i*Tryz.prog.cellsOf 9)).run Tryz.prog w = .ok (.string ⟨u.toArray⟩) w:=by
 have c9:Tryz.prog.cellsOf 9=1:=by kernel_rfl
 have u9:=Tryz.underlying9
 rw[c9,Nat.mul_one]
 unfold part
 go_simp
theorem eql_str (a b:L) (w:World):(Op.equalIn 9999 9 (.string ⟨a.toArray⟩) (.string ⟨b.toArray⟩)).run Tryz.prog w = .ok (decide (a=b)) w:=by
 rw[show(9999:Nat)=9998+1 from rfl,run_equalIn_string w 9998 _ _ _ Tryz.underlying9]
 congr 1
 rw[ByteArray.toList_eq,ByteArray.toList_eq]
 by_cases h:a=b<;>simp [h]
theorem eql_pair (x y:Pr) (w:World):(Op.equalIn 10000 196 (.agg #[.string ⟨x.1.toArray⟩,.string ⟨x.2.toArray⟩]) (.agg #[.string ⟨y.1.toArray⟩,.string ⟨y.2.toArray⟩])).run Tryz.prog w = .ok (decide (x=y)) w:=by
 obtain⟨i0,hi0,_,_,_⟩:=info_parts str_info
 rw[run_equalIn_array w 9999 _ _ Tryz.underlying196 hi0]
 show(Op.eqItems 9999 9 (Tryz.prog.cellsOf 9) _ _ [0,1]).run Tryz.prog w=_
 have p1:=part_str #[.string ⟨x.1.toArray⟩,.string ⟨x.2.toArray⟩] 0 x.1 rfl
 have p2:=part_str #[.string ⟨x.1.toArray⟩,.string ⟨x.2.toArray⟩] 1 x.2 rfl
 have p3:=part_str #[.string ⟨y.1.toArray⟩,.string ⟨y.2.toArray⟩] 0 y.1 rfl
 have p4:=part_str #[.string ⟨y.1.toArray⟩,.string ⟨y.2.toArray⟩] 1 y.2 rfl
 obtain⟨a,b⟩:=x
 obtain⟨c,d⟩:=y
 simp only at p1 p2 p3 p4
 simp only[Op.eqItems,Sem.run_bind,p1,p2,p3,p4,Result.andThen_ok,eql_str,Sem.run_ite,Sem.run_pure]
 by_cases h1:a=c<;>by_cases h2:b=d<;>simp [h1,h2]
theorem eql_yes (x y:Pr) (h:x=y):∀w,(Op.equalIn 10000 196 (.agg #[.string ⟨x.1.toArray⟩,.string ⟨x.2.toArray⟩]) (.agg #[.string ⟨y.1.toArray⟩,.string ⟨y.2.toArray⟩])).run Tryz.prog w = .ok true w:=fun w=>by rw[eql_pair,decide_eq_true h]
theorem eql_no (x y:Pr) (h:x≠y):∀w,(Op.equalIn 10000 196 (.agg #[.string ⟨x.1.toArray⟩,.string ⟨x.2.toArray⟩]) (.agg #[.string ⟨y.1.toArray⟩,.string ⟨y.2.toArray⟩])).run Tryz.prog w = .ok false w:=fun w=>by rw[eql_pair,decide_eq_false h]
set_option maxHeartbeats 400000 in
theorem pindex_any (K:List Pr) (A:Option Addr) (c B:Nat) (x:Pr) (w:World) (hl:K.length≤1000000) (hr:RdP w B A K) (hB:B≤w.heap.size) :
  Calls Tryz.prog 270 #[.slice A K.length c,stp x] w fun e w'=>e = .returned (.int .i64 (ixP x K))∧Below w.heap.size w w':=by
 have HR:=Lib.hid hr;clear hr
 obtain⟨n,en⟩:∃n,n=K.length:=⟨_,rfl⟩
 rw[←en] at hl⊢
 have EN:=Lib.hid en;clear en
 rw[stp,st,st]
 go_enter Tryz.func270,Tryz.ntmps270
 go_wp2
 have HK:=Lib.hid (Blk.new w 196 #[.string ⟨x.1.toArray⟩,.string ⟨x.2.toArray⟩])
 obtain⟨W,eW⟩:∃W,W=w.alloc (.cells #[.string ⟨x.1.toArray⟩,.string ⟨x.2.toArray⟩] 196):=⟨_,rfl⟩
 rw[←eW] at HK⊢
 have HB:=Lib.hid (show Below w.heap.size w W by rw[eW];exact(Below.refl _ _).alloc (Nat.le_refl _) _)
 have HG:=Lib.hid (show w.heap.size≤W.heap.size from HB.out.size)
 obtain⟨g,eg⟩:∃g,g=w.heap.size:=⟨_,rfl⟩
 rw[←eg] at HK HB hB HG⊢
 replace HR:=Lib.hid ((HR.out.below (HB.out.mono hB)))
 have EG:=Lib.hid eg
 clear eW eg hB
 go_loopw [8] (fun iv wr=>∃i:Nat,i≤n∧iv = .int .i64 (i:Int)∧(∀k,k<i→kl K k≠x)∧Drawn W wr) (fun iv _=>n - (intOf iv).toNat)
 case atStart=>exact⟨0,Nat.zero_le _,rfl,fun k h=>absurd h (Nat.not_lt_zero k),Drawn.refl _⟩
 case round=>
  obtain⟨i,hi,rfl,hn,hd⟩:=hrel
  have HN:=Lib.hid hn;clear hn
  have hrr:RdP wr B A K:=HR.out.keep fun b o _=>by obtain⟨m,rfl⟩:=hd;rfl
  have hk0:wr.cell? ⟨g,0,none⟩=some (.string ⟨x.1.toArray⟩):=by obtain⟨m,rfl⟩:=hd;exact HK.out.cell 0
  have hk1:wr.cell? ⟨g,1,none⟩=some (.string ⟨x.2.toArray⟩):=by obtain⟨m,rfl⟩:=hd;exact HK.out.cell 1
  have HDR:=Lib.hid hd;clear hd
  by_cases hlt:i<n
  ·have e1:(i:Int)<(n:Int):=by omega
   have e2:(0:Int)≤(i:Int):=by omega
   obtain⟨b,o,rfl,_,h1,h2⟩:=rdp_at hrr (i:=i) (by rw[←EN.out];exact hlt)
   by_cases hx:kl K i=x
   ·have t1:=eql_yes x (kl K i) hx.symm
    have E:=Lib.hid (ixp_found (by rw[←EN.out];exact hlt) hx HN.out)
    clear hx
    go_wp2
    go_quiet (fail)
    go_wp2
    go_ret
    exact⟨by rw[E.out];rfl,by rw[←EG.out];exact HB.out.trans ((HDR.out.trans ⟨_,rfl⟩).below.mono HG.out)⟩
   ·have t1:=eql_no x (kl K i) fun g=>hx g.symm
    have HX:=Lib.hid hx;clear hx
    go_wp2
    go_quiet (fail)
    go_wp2
    go_roundw
    case rel=>exact⟨i+1,by omega,by go_num,fun k hk=>by
     by_cases q:k=i
     ·rw[q];exact HX.out
     ·exact HN.out k (by omega),HDR.out.trans ⟨_,rfl⟩⟩
    case measure=>simp [intOf];omega
  ·have e1:¬(i:Int)<(n:Int):=by omega
   have E:=Lib.hid (ixp_none (K:=K) (x:=x) fun k hk=>HN.out k (by have:=EN.out;omega))
   go_wp2
   go_ret
   exact⟨by rw[E.out];rfl,by rw[←EG.out];exact HB.out.trans (HDR.out.below.mono HG.out)⟩
set_option maxHeartbeats 400000 in
theorem pcontains_any (K:List Pr) (A:Option Addr) (c B:Nat) (x:Pr) (w:World) (hl:K.length≤1000000) (hr:RdP w B A K) (hB:B≤w.heap.size) :
  Calls Tryz.prog 237 #[.slice A K.length c,stp x] w fun e w'=>e = .returned (.bool (decide (x∈K)))∧Below w.heap.size w w':=by
 have hb:=(Below.refl w.heap.size w).alloc (Nat.le_refl _) (.cells #[.string ⟨x.1.toArray⟩,.string ⟨x.2.toArray⟩] 196)
 have c1:=pindex_any K A c B x _ hl (hr.below (hb.mono hB)) (Nat.le_trans hB hb.size)
 have H:=Lib.hid hb;clear hb
 have E:=Lib.hid (ixp_ge x K)
 obtain⟨z,ez⟩:∃z,z=ixP x K:=⟨_,rfl⟩
 rw[←ez] at c1
 have EZ:=Lib.hid ez;clear ez hr
 rw[stp,st,st] at c1⊢
 go_enter Tryz.func237,Tryz.ntmps237
 go_wp2_with (go_at_call 270;refine Calls.mono c1 ?_;rintro e w1 ⟨rfl,hb⟩;replace H:=Lib.hid (H.out.trans (hb.mono H.out.size));clear hb)
 go_ret
 exact⟨by rw[←E.out,←EZ.out];rfl,H.out⟩
set_option maxHeartbeats 400000 in
theorem once_any (ls:List L) (A:Option Addr) (c B:Nat) (w:World) (hl:ls.length≤1000000) (hc:ls.length≤c) (hr:Rd w B A (strs ls)) :
  Calls Tryz.prog 209 #[.slice A ls.length c] w fun e w'=>e = .returned (.bool (decide ls.Nodup))∧w=w':=by
 have HR:=Lib.hid hr;clear hr
 have C1:=Lib.hid (fun(i:Nat) (hi:i<ls.length) w1 (h:Rd w1 B A (strs ls))=>Tr.contains_any (ls.take i) A c B (pl ls i) w1 (by simp;omega) (rd_take h (by omega)))
 obtain⟨n,en⟩:∃n,n=ls.length:=⟨_,rfl⟩
 rw[←en] at hl hc⊢
 have EN:=Lib.hid en;clear en
 go_enter Tryz.func209,Tryz.ntmps209
 go_wp2
 go_loop [7] (fun iv=>∃i:Nat,i≤n∧iv = .int .i64 (i:Int)∧(ls.take i).Nodup) (fun iv=>n - (intOf iv).toNat)
 case atStart=>exact⟨0,Nat.zero_le _,rfl,by simp⟩
 case round=>
  obtain⟨i,hi,rfl,hn⟩:=hrel
  have HN:=Lib.hid hn;clear hn
  by_cases hlt:i<n
  ·have e1:(i:Int)<(n:Int):=by omega
   have e2:(0:Int)≤(i:Int):=by omega
   have e3:(i:Int)≤(c:Int):=by omega
   have him:i<ls.length:=by rw[←EN.out];exact hlt
   have c1:=C1.out i him w HR.out
   have hlen:(ls.take i).length=i:=by simp;omega
   rw[hlen] at c1
   have hs:=nodup_succ him
   rw[←pl_lt him] at hs
   obtain⟨b,o,rfl,_,h1⟩:=rd_txt HR.out him
   by_cases hx:pl ls i∈ls.take i
   ·rw[decide_eq_true hx] at c1
    have E:=Lib.hid (show decide ls.Nodup=false by
     rw[decide_eq_false_iff_not];intro hn
     exact(hs.1 (nodup_take hn)).2 hx)
    clear hx hs hlen him
    go_wp2_with (go_at_call 93;refine Calls.mono c1 ?_;rintro e w1 ⟨rfl,rfl⟩;clear c1)
    go_ret
    exact⟨by rw[E.out];rfl,rfl⟩
   ·rw[decide_eq_false hx] at c1
    have E:=Lib.hid (hs.2 ⟨HN.out,hx⟩)
    clear hx hs hlen him
    go_wp2_with (go_at_call 93;refine Calls.mono c1 ?_;rintro e w1 ⟨rfl,rfl⟩;clear c1)
    go_round
    case rel=>exact⟨i+1,by omega,by go_num,E.out⟩
    case measure=>simp [intOf];omega
  ·have e1:¬(i:Int)<(n:Int):=by omega
   have E:=Lib.hid (show decide ls.Nodup=true by
    have h:=HN.out
    rw[List.take_of_length_le (by have:=EN.out;omega)] at h
    exact decide_eq_true h)
   go_wp2
   go_ret
   exact⟨by rw[E.out];rfl,rfl⟩
set_option maxHeartbeats 400000 in
theorem ponce_any (K:List Pr) (A:Option Addr) (c B:Nat) (w:World) (hl:K.length≤1000000) (hc:K.length≤c) (hr:RdP w B A K) (hB:B≤w.heap.size) :
  Calls Tryz.prog 210 #[.slice A K.length c] w fun e w'=>e = .returned (.bool (decide K.Nodup))∧Below w.heap.size w w':=by
 obtain⟨N,eN⟩:∃N,N=w.heap.size:=⟨_,rfl⟩
 rw[←eN] at hB⊢
 have HB0:=Lib.hid (show Below N w w from Below.refl _ _)
 have EN0:=Lib.hid eN;clear eN
 have HSZ:=Lib.hid (show ∀w1:World,Below N w w1→N≤w1.heap.size from fun w1 h=>by have:=h.size;have:=EN0.out;omega)
 have HR:=Lib.hid hr;clear hr
 have C1:=Lib.hid (fun(i:Nat) (hi:i<K.length) w1 (h:RdP w1 B A K) (hB1:B≤w1.heap.size)=>pcontains_any (K.take i) A c B (kl K i) w1 (by simp;omega) (rdp_take h) hB1)
 obtain⟨n,en⟩:∃n,n=K.length:=⟨_,rfl⟩
 rw[←en] at hl hc⊢
 have EN:=Lib.hid en;clear en
 go_enter Tryz.func210,Tryz.ntmps210
 go_wp2
 go_loopw [7] (fun iv wr=>∃i:Nat,i≤n∧iv = .int .i64 (i:Int)∧(K.take i).Nodup∧Below N w wr) (fun iv _=>n - (intOf iv).toNat)
 case atStart=>exact⟨0,Nat.zero_le _,rfl,by simp,HB0.out⟩
 case round=>
  obtain⟨i,hi,rfl,hn,hb⟩:=hrel
  have HN:=Lib.hid hn;clear hn
  have HB:=Lib.hid hb;clear hb
  by_cases hlt:i<n
  ·have e1:(i:Int)<(n:Int):=by omega
   have e2:(0:Int)≤(i:Int):=by omega
   have e3:(i:Int)≤(c:Int):=by omega
   have him:i<K.length:=by rw[←EN.out];exact hlt
   have hs:=nodup_succ him
   rw[←kl_lt him] at hs
   have hrw:=HR.out.below (HB.out.mono hB)
   obtain⟨b,o,rfl,_,h1,h2⟩:=rdp_at hrw him
   have hlen:(K.take i).length=i:=by simp;omega
   have HK:=Lib.hid (show Blk (wr.alloc (.cells #[.string ⟨(kl K i).1.toArray⟩,.string ⟨(kl K i).2.toArray⟩] 196)).drew wr.heap.size 196 #[.string ⟨(kl K i).1.toArray⟩,.string ⟨(kl K i).2.toArray⟩] from(Blk.new wr 196 _).drewN 1)
   have H:=Lib.hid (show Below N w (wr.alloc (.cells #[.string ⟨(kl K i).1.toArray⟩,.string ⟨(kl K i).2.toArray⟩] 196)).drew from below_drewN (HB.out.alloc (by have:=HB.out.size;have:=EN0.out;omega) _) 1)
   have c1:=C1.out i him _ (HR.out.below (H.out.mono hB)) (Nat.le_trans hB (by have:=H.out.size;have:=EN0.out;omega))
   rw[hlen] at c1
   rw[stp,st,st] at c1
   by_cases hx:kl K i∈K.take i
   ·rw[decide_eq_true hx] at c1
    have E:=Lib.hid (show decide K.Nodup=false by
     rw[decide_eq_false_iff_not];intro hn
     exact(hs.1 (nodup_take hn)).2 hx)
    clear hx hs hlen him
    go_wp2
    go_region_held3 (fun w'=>w'.cell? ⟨wr.heap.size,0,none⟩=some (.string ⟨(kl K i).1.toArray⟩)∧w'.cell? ⟨wr.heap.size,1,none⟩=some (.string ⟨(kl K i).2.toArray⟩)) (exact⟨HK.out.cell 0,HK.out.cell 1⟩) ((go_at_call 237;refine Calls.mono c1 ?_;rintro e w1 ⟨rfl,hb⟩;clear c1;have H1:=Lib.hid (H.out.trans (hb.mono (HSZ.out _ H.out)));replace HK:=Lib.hid (HK.out.below hb);clear hb))
    go_wp2
    go_ret
    exact⟨by rw[E.out];rfl,H1.out⟩
   ·rw[decide_eq_false hx] at c1
    have E:=Lib.hid (hs.2 ⟨HN.out,hx⟩)
    clear hx hs hlen him
    go_wp2
    go_region_held3 (fun w'=>w'.cell? ⟨wr.heap.size,0,none⟩=some (.string ⟨(kl K i).1.toArray⟩)∧w'.cell? ⟨wr.heap.size,1,none⟩=some (.string ⟨(kl K i).2.toArray⟩)) (exact⟨HK.out.cell 0,HK.out.cell 1⟩) ((go_at_call 237;refine Calls.mono c1 ?_;rintro e w1 ⟨rfl,hb⟩;clear c1;have H1:=Lib.hid (H.out.trans (hb.mono (HSZ.out _ H.out)));replace HK:=Lib.hid (HK.out.below hb);clear hb))
    go_wp2
    go_roundw
    case rel=>exact⟨i+1,by omega,by go_num,E.out,H1.out⟩
    case measure=>simp [intOf];omega
  ·have e1:¬(i:Int)<(n:Int):=by omega
   have E:=Lib.hid (show decide K.Nodup=true by
    have h:=HN.out
    rw[List.take_of_length_le (by have:=EN.out;omega)] at h
    exact decide_eq_true h)
   go_wp2
   go_ret
   exact⟨by rw[E.out];rfl,HB.out⟩
end Go.Proofs.YtfcjeebnkigeaaaGreat.Rt
end

section
set_option linter.unusedVariables false
namespace Go.Proofs.YtfcjeebnkigeaaaGreat.Rt
open Go.RowKit Go.Proofs.YtfcjeebnkigeaaaGreat.Mem Go.Proofs.YtfcjeebnkigeaaaGreat.Nm
def prs (K:List Pr):List Value:=K.flatMap fun p=>[st p.1,st p.2]
theorem prs_append (K M:List Pr):prs (K++M)=prs K++prs M:=by simp [prs]
theorem prs_one (K:List Pr):∀u∈prs K,u.oneCell'=true:=by
 intro u hu
 obtain⟨p,_,h⟩:=List.mem_flatMap.1 hu
 rcases List.mem_cons.1 h with h | h
 ·subst h;rfl
 ·rw[List.mem_singleton] at h;subst h;rfl
theorem prs_at:∀{K:List Pr} {i:Nat},i<K.length→(prs K)[i*2]? = some (st (kl K i).1)∧(prs K)[i*2+1]? = some (st (kl K i).2)
 | [],i,h=>by simp at h
 |a :: t,0,_=>⟨rfl,rfl⟩
 |a :: t,i+1,h=>by
  have:=prs_at (K:=t) (i:=i) (by simpa using h)
  have e:prs (a :: t)=st a.1 :: st a.2 :: prs t:=rfl
  rw[e,show(i+1)*2=i*2+2 by omega]
  exact this
theorem pair_info:(Tryz.prog.info? 196).map (fun i=>(i.zero,i.size,i.bytes))=some (some (.agg #[.string ⟨#[]⟩,.string ⟨#[]⟩]),2,32):=by kernel_rfl
def OwnP (w:World) (base:Nat) (v:Value) (K:List Pr):Prop:=w.ownsRow base 196 2 v K.length (prs K)
theorem OwnP.nil (w:World) (base:Nat):OwnP w base (.slice none 0 0) []:=World.ownsRow_nil w base _ 2
theorem OwnP.below {w w':World} {base:Nat} {v:Value} {K:List Pr} (h:OwnP w base v K) (hb:Below w.heap.size w w'):OwnP w' base v K:=own_kept h hb
theorem OwnP.slice {w:World} {base:Nat} {v:Value} {K:List Pr} (h:OwnP w base v K):SlP w w.heap.size v K:=by
 have h':=h
 rcases h.2 with⟨h1,h2⟩ | ⟨g,cap,cur,h1,hg,hh,hc,_⟩
 ·have e:K = []:=List.eq_nil_of_length_eq_zero h2
  subst e
  exact⟨none,0,h1,Nat.le_refl _,.inl rfl⟩
 ·subst h1
  refine⟨_,cap,rfl,hc,.inr ⟨g,0,rfl,(Array.getElem?_eq_some_iff.1 hh).1,fun i hi=>?_⟩⟩
  have h1:=h'.cells (g:=g) rfl
  have h2:=prs_at hi
  have a1:=h1 _ _ h2.1
  have a2:=h1 _ _ h2.2
  rw[addr_add] at a1 a2
  rw[Nat.add_assoc]
  exact⟨a1,a2⟩
theorem OwnP.lt {w:World} {base:Nat} {v:Value} {K:List Pr} (h:OwnP w base v K):∀k,v.ownBlock=some k→base≤k∧k<w.heap.size:=World.ownsRow.lt h
section
variable {w:World} {ops:Array Oper} {rest:List Oper} {o:Oper} {a:Act} {Q:Exit→Act→World→Prop}
theorem papp_one (hgd : o.guard = none) (s x : Operand) (ho : o.op = .call { callee := .builtin .append, args := #[s, x], argTypes := #[57, 57] })
    (base : Nat) (v : Value) (K : List Pr) (hs : a.eval s = v) (hown : OwnP w base v K) (p : Pr) (hx : a.eval x = .slice (some ⟨w.heap.size, 0, none⟩) 1 1)
    (hl : K.length + 1 ≤ 1000000) (hb : base ≤ w.heap.size)
    (h : ∀ v' w', OwnP w' base v' (K ++ [p]) → Below base w w' → wpList Tryz.prog ops Q rest (a.put o.dst v') w') : wpList Tryz.prog ops Q (o :: rest) a (w.alloc (.cells #[.string ⟨p.1.toArray⟩, .string ⟨p.2.toArray⟩] 196)) := by
  obtain ⟨i0, hi0, hz0, hs0, hb0⟩ := info_parts pair_info
  have hb1 : Below w.heap.size w (w.alloc (.cells #[.string ⟨p.1.toArray⟩, .string ⟨p.2.toArray⟩] 196)) := (Below.refl _ _).alloc (Nat.le_refl _) _
  obtain ⟨v', w', hrun, h2, h3, _, _⟩ := run_append_own_at (P := Tryz.prog) (w.alloc (.cells #[.string ⟨p.1.toArray⟩, .string ⟨p.2.toArray⟩] 196)) base 57 o.type 196 i0 _ 2 32 Tryz.underlying57 hi0 hz0 hs0 hb0 rfl (by omega) v K.length (prs K) (hown.below hb1) ⟨w.heap.size, 0, none⟩ 1 1 (prs [p]) rfl (fun j u hu => by
      rw [addr_add, Nat.zero_add, (Blk.new w 196 _).cell j]
      have e : prs [p] = #[Value.string ⟨p.1.toArray⟩, .string ⟨p.2.toArray⟩].toList := rfl
      rw [e] at hu
      simpa using hu) (prs_one _) (by unfold maxLen; omega) (by omega) (Nat.le_trans hb hb1.size)
  refine wpList_plain hgd fun J hJ => ?_
  unfold Oper.wp execOp
  simp only [ho, resolve, invoke, builtin, Sem.run_bind, Sem.run_pure, Result.andThen_ok, List.map_toArray, List.map_cons, List.map_nil, hs, hx, hrun]
  refine hJ _ _ (h v' w' (by rw [OwnP, List.length_append, prs_append]; exact h2) ?_)
  exact (hb1.mono hb).grown h3 (Nat.le_trans hb hb1.size) (fun k hk => (hown.lt k hk).1)
end
end Go.Proofs.YtfcjeebnkigeaaaGreat.Rt
end

section
set_option linter.unusedVariables false
namespace Go.Proofs.YtfcjeebnkigeaaaGreat.Rt
open Go.RowKit Go.Proofs.YtfcjeebnkigeaaaGreat.Mem Go.Proofs.YtfcjeebnkigeaaaGreat.Nm
set_option maxHeartbeats 400000 in
theorem realms_any (ls:List L) (A:Option Addr) (c B:Nat) (w:World) (hl:ls.length≤1000000) (hc:ls.length≤c) (hr:Rd w B A (strs ls)) (hs:∀i,i<ls.length→(pl ls i).length≤1000000000) :
  Calls Tryz.prog 143 #[.slice A ls.length c] w fun e w'=>e = .returned (.bool (realmsB ls))∧Drawn w w':=by
 have HR:=Lib.hid hr;clear hr
 have IS:=Lib.hid (fun(i:Nat) (h:i<ls.length) w1=>is_any (pl ls i) w1 (hs i h))
 have C1:=Lib.hid (fun w1 h=>once_any ls A c B w1 hl hc h)
 obtain⟨n,en⟩:∃n,n=ls.length:=⟨_,rfl⟩
 rw[←en] at hl hc C1⊢
 have EN:=Lib.hid en;clear en hs
 have HD:=Lib.hid (Drawn.refl w)
 go_enter Tryz.func143,Tryz.ntmps143
 go_wp2
 go_loopw [7] (fun iv wr=>∃i:Nat,i≤n∧iv = .int .i64 (i:Int)∧(ls.take i).all isL=true∧Drawn w wr) (fun iv _=>n - (intOf iv).toNat)
 case atStart=>exact⟨0,Nat.zero_le _,rfl,by simp,HD.out⟩
 case round=>
  obtain⟨i,hi,rfl,hn,hd⟩:=hrel
  have HN:=Lib.hid hn;clear hn
  have hrr:Rd wr B A (strs ls):=by obtain⟨m,rfl⟩:=hd;exact HR.out.drewN m
  have HDR:=Lib.hid hd;clear hd
  by_cases hlt:i<n
  ·have e1:(i:Int)<(n:Int):=by omega
   have e2:(0:Int)≤(i:Int):=by omega
   have him:i<ls.length:=by rw[←EN.out];exact hlt
   have c1:=IS.out i him wr
   have hal:=all_succ (p:=isL) him
   rw[HN.out,Bool.true_and,←pl_lt him] at hal
   obtain⟨b,o,rfl,_,h1⟩:=rd_txt hrr him
   cases hx:isL (pl ls i) with
   |false=>
    rw[hx] at c1
    have E:=Lib.hid (show realmsB ls=false by
     rw[realmsB,all_false him (by rw[←pl_lt him];exact hx)];rfl)
    clear hx hal him
    go_wp2_with (go_at_call 149;refine Calls.mono c1 ?_;rintro e w1 ⟨rfl,hd⟩;clear c1;have HD2:=Lib.hid (HDR.out.trans hd);clear hd)
    go_ret
    exact⟨by rw[E.out];rfl,HD2.out⟩
   |true=>
    rw[hx] at c1
    have E:=Lib.hid (hal.trans hx)
    clear hx hal him
    go_wp2_with (go_at_call 149;refine Calls.mono c1 ?_;rintro e w1 ⟨rfl,hd⟩;clear c1;have HD2:=Lib.hid (HDR.out.trans hd);clear hd)
    go_roundw
    case rel=>exact⟨i+1,by omega,by go_num,E.out,HD2.out⟩
    case measure=>simp [intOf];omega
  ·have e1:¬(i:Int)<(n:Int):=by omega
   have E:=Lib.hid (show realmsB ls=decide ls.Nodup by
    rw[realmsB,all_take (by have:=EN.out;omega) HN.out];rfl)
   have c1:=C1.out wr hrr
   go_wp2_with (go_at_call 209;refine Calls.mono c1 ?_;rintro e w1 ⟨rfl,rfl⟩;clear c1)
   go_ret
   exact⟨by rw[E.out];rfl,HDR.out⟩
set_option maxHeartbeats 800000 in
theorem pairs_any (K:List Pr) (R:List L) (A A2:Option Addr) (c c2 B:Nat) (w:World) (hl:K.length≤1000000) (hc:K.length≤c) (hl2:R.length≤1000000) (hr:RdP w B A K) (hr2:Rd w B A2 (strs R)) (hB:B≤w.heap.size) :
  Calls Tryz.prog 144 #[.slice A K.length c,.slice A2 R.length c2] w fun e w'=>e = .returned (.bool (pairsB K R))∧Below w.heap.size w w':=by
 obtain⟨N,eN⟩:∃N,N=w.heap.size:=⟨_,rfl⟩
 rw[←eN] at hB⊢
 have HB0:=Lib.hid (show Below N w w from Below.refl _ _)
 have EN0:=Lib.hid eN;clear eN
 have HSZ:=Lib.hid (show ∀w1:World,Below N w w1→N≤w1.heap.size from fun w1 h=>by have:=h.size;have:=EN0.out;omega)
 have HR:=Lib.hid hr;clear hr
 have HR2:=Lib.hid hr2;clear hr2
 have C1:=Lib.hid (fun x w1 (h:Rd w1 B A2 (strs R))=>Tr.contains_any R A2 c2 B x w1 (by omega) h)
 have C2:=Lib.hid (fun w1 h hB1=>ponce_any K A c B w1 hl hc h hB1)
 obtain⟨n,en⟩:∃n,n=K.length:=⟨_,rfl⟩
 obtain⟨m,em⟩:∃m,m=R.length:=⟨_,rfl⟩
 rw[←en] at hl hc C2⊢
 rw[←em] at hl2 C1⊢
 have EN:=Lib.hid en;clear en em
 go_enter Tryz.func144,Tryz.ntmps144
 go_wp2
 go_loopw [11] (fun iv wr=>∃i:Nat,i≤n∧iv = .int .i64 (i:Int)∧(K.take i).all (pairB R)=true∧Below N w wr) (fun iv _=>n - (intOf iv).toNat)
 case atStart=>exact⟨0,Nat.zero_le _,rfl,by simp,HB0.out⟩
 case round=>
  obtain⟨i,hi,rfl,hn,hb⟩:=hrel
  have HN:=Lib.hid hn;clear hn
  have HB:=Lib.hid hb;clear hb
  have hrw:=HR.out.below (HB.out.mono hB)
  by_cases hlt:i<n
  ·have e1:(i:Int)<(n:Int):=by omega
   have e2:(0:Int)≤(i:Int):=by omega
   have him:i<K.length:=by rw[←EN.out];exact hlt
   have hal:=all_succ (p:=pairB R) him
   have haf:=all_false (p:=pairB R) him
   rw[HN.out,Bool.true_and,←kl_lt him] at hal
   rw[←kl_lt him] at haf
   obtain⟨b,o,rfl,_,h1,h2⟩:=rdp_at hrw him
   obtain⟨x,ex⟩:∃x,x=kl K i:=⟨_,rfl⟩
   rw[←ex] at hal haf h1 h2
   clear ex him
   have HK:=Lib.hid (show Blk (wr.alloc (.cells #[.string ⟨x.1.toArray⟩,.string ⟨x.2.toArray⟩] 196)).drew wr.heap.size 196 #[.string ⟨x.1.toArray⟩,.string ⟨x.2.toArray⟩] from(Blk.new wr 196 _).drewN 1)
   have H:=Lib.hid (show Below N w (wr.alloc (.cells #[.string ⟨x.1.toArray⟩,.string ⟨x.2.toArray⟩] 196)) from HB.out.alloc (HSZ.out _ HB.out) _)
   have HRW2:=Lib.hid (HR2.out.below (H.out.mono hB))
   obtain⟨W,eW⟩:∃W,W=wr.alloc (.cells #[.string ⟨x.1.toArray⟩,.string ⟨x.2.toArray⟩] 196):=⟨_,rfl⟩
   go_wp2
   rw[←eW] at HK H HRW2⊢
   clear eW
   have k0:W.cell? ⟨wr.heap.size,0,none⟩=some (.string ⟨x.1.toArray⟩):=HK.out.cell 0
   have k1:W.cell? ⟨wr.heap.size,1,none⟩=some (.string ⟨x.2.toArray⟩):=HK.out.cell 1
   go_quiet (fail)
   by_cases q1:x.1=x.2
   ·have t1:(x.1==x.2)=true:=by simpa using q1
    have E:=Lib.hid (show pairsB K R=false by
     rw[pairsB,haf (by rw[pairB,decide_eq_false (fun h=>h q1)];rfl)];rfl)
    clear q1 hal haf
    go_wp2_with fail
    go_ret
    exact⟨by rw[E.out];rfl,below_drewN H.out _⟩
   ·have t1:(x.1==x.2)=false:=by simpa using q1
    by_cases q2:x.1∈R
    ·have c1:=fun k=>C1.out x.1 (W.drewN k) (HRW2.out.drewN k)
     rw[decide_eq_true q2] at c1
     by_cases q3:x.2∈R
     ·have c3:=fun k=>C1.out x.2 (W.drewN k) (HRW2.out.drewN k)
      rw[decide_eq_true q3] at c3
      have E:=Lib.hid (show((K.take (i+1)).all (pairB R)=true) by
       rw[hal,pairB,decide_eq_true q1,decide_eq_true q2,decide_eq_true q3];rfl)
      clear q1 q2 q3 hal haf
      go_wp2_with (first
       |(go_at_call 93;with_reducible refine Calls.mono (c1 _) ?_;rintro e w1 ⟨rfl,rfl⟩;clear c1)
       |(go_at_call 93;with_reducible refine Calls.mono (c3 _) ?_;rintro e w1 ⟨rfl,rfl⟩;clear c3))
      go_roundw
      case rel=>exact⟨i+1,by omega,by go_num,E.out,below_drewN H.out _⟩
      case measure=>simp [intOf];omega
     ·have c3:=fun k=>C1.out x.2 (W.drewN k) (HRW2.out.drewN k)
      rw[decide_eq_false q3] at c3
      have E:=Lib.hid (show pairsB K R=false by
       rw[pairsB,haf (by rw[pairB,decide_eq_false q3];simp)];rfl)
      clear q1 q2 q3 hal haf
      go_wp2_with (first
       |(go_at_call 93;with_reducible refine Calls.mono (c1 _) ?_;rintro e w1 ⟨rfl,rfl⟩;clear c1)
       |(go_at_call 93;with_reducible refine Calls.mono (c3 _) ?_;rintro e w1 ⟨rfl,rfl⟩;clear c3))
      go_ret
      exact⟨by rw[E.out];rfl,below_drewN H.out _⟩
    ·have c1:=fun k=>C1.out x.1 (W.drewN k) (HRW2.out.drewN k)
     rw[decide_eq_false q2] at c1
     have E:=Lib.hid (show pairsB K R=false by
      rw[pairsB,haf (by rw[pairB,decide_eq_false q2];simp)];rfl)
     clear q1 q2 hal haf
     go_wp2_with (go_at_call 93;with_reducible refine Calls.mono (c1 _) ?_;rintro e w1 ⟨rfl,rfl⟩;clear c1)
     go_ret
     exact⟨by rw[E.out];rfl,below_drewN H.out _⟩
  ·have e1:¬(i:Int)<(n:Int):=by omega
   have E:=Lib.hid (show pairsB K R=decide K.Nodup by
    rw[pairsB,all_take (by have:=EN.out;omega) HN.out];rfl)
   have c1:=C2.out wr hrw (Nat.le_trans hB (HSZ.out _ HB.out))
   go_wp2_with (go_at_call 210;refine Calls.mono c1 ?_;rintro e w1 ⟨rfl,hb⟩;clear c1;replace HB:=Lib.hid (HB.out.trans (hb.mono (HSZ.out _ HB.out)));clear hb)
   go_ret
   exact⟨by rw[E.out];rfl,HB.out⟩
end Go.Proofs.YtfcjeebnkigeaaaGreat.Rt
end

section
set_option linter.unusedVariables false
namespace Go.Proofs.YtfcjeebnkigeaaaGreat.Rt
open Go.RowKit Go.Proofs.YtfcjeebnkigeaaaGreat.Mem Go.Proofs.YtfcjeebnkigeaaaGreat.Nm
set_option maxHeartbeats 800000 in
theorem via_any (p:Pa) (R:List L) (u:Value) (A2:Option Addr) (c2 B:Nat) (w:World) (hl:p.v.length≤1000000) (hl2:R.length≤1000000) (hr:SlV w B u p.v) (hr2:Rd w B A2 (strs R)) (hB:B≤w.heap.size) :
  Calls Tryz.prog 211 #[.agg #[.string ⟨p.f.toArray⟩,.string ⟨p.t.toArray⟩,u],.slice A2 R.length c2] w fun e w'=>e = .returned (.bool (viaB R p))∧Below w.heap.size w w':=by
 obtain⟨A,c,rfl,hc,hr⟩:=hr
 have HB0:=Lib.hid ((Below.refl w.heap.size w).alloc (Nat.le_refl _) (.cells #[.string ⟨p.f.toArray⟩,.string ⟨p.t.toArray⟩,.slice A p.v.length c] 273))
 have HK:=Lib.hid (Blk.new w 273 #[.string ⟨p.f.toArray⟩,.string ⟨p.t.toArray⟩,.slice A p.v.length c])
 have HR:=Lib.hid (hr.below (HB0.out.mono hB));clear hr
 have HR2:=Lib.hid (hr2.below (HB0.out.mono hB));clear hr2
 have C1:=Lib.hid (fun x w1 (h:Rd w1 B A2 (strs R))=>Tr.contains_any R A2 c2 B x w1 (by omega) h)
 have C2:=Lib.hid (fun w1 h=>once_any p.v A c B w1 hl hc h)
 obtain⟨n,en⟩:∃n,n=p.v.length:=⟨_,rfl⟩
 obtain⟨m,em⟩:∃m,m=R.length:=⟨_,rfl⟩
 rw[←en] at hl hc C2 HB0 HK HR HR2⊢
 rw[←em] at hl2 C1⊢
 have EN:=Lib.hid en;clear en em
 by_cases h4:n≤4
 ·have g4:decide (4<(n:Int))=false:=by simp;omega
  have H4:=Lib.hid h4
  go_enter Tryz.func211,Tryz.ntmps211
  go_wp2
  obtain⟨W,eW⟩:∃W,W=w.alloc (.cells #[.string ⟨p.f.toArray⟩,.string ⟨p.t.toArray⟩,.slice A n c] 273):=⟨_,rfl⟩
  rw[←eW] at HB0 HK HR HR2⊢
  clear eW
  have k0:W.cell? ⟨w.heap.size,0,none⟩=some (.string ⟨p.f.toArray⟩):=HK.out.cell 0
  have k1:W.cell? ⟨w.heap.size,1,none⟩=some (.string ⟨p.t.toArray⟩):=HK.out.cell 1
  have k2:W.cell? ⟨w.heap.size,2,none⟩=some (.slice A n c):=HK.out.cell 2
  go_loop [14] (fun iv=>∃i:Nat,i≤n∧iv = .int .i64 (i:Int)∧(p.v.take i).all (onB R p)=true) (fun iv=>n - (intOf iv).toNat)
  case atStart=>exact⟨0,Nat.zero_le _,rfl,by simp⟩
  case round=>
   obtain⟨i,hi,rfl,hn⟩:=hrel
   have HN:=Lib.hid hn;clear hn
   by_cases hlt:i<n
   ·have e1:(i:Int)<(n:Int):=by omega
    have e2:(0:Int)≤(i:Int):=by omega
    have him:i<p.v.length:=by rw[←EN.out];exact hlt
    have hal:=all_succ (p:=onB R p) him
    have haf:=all_false (p:=onB R p) him
    rw[HN.out,Bool.true_and,←pl_lt him] at hal
    rw[←pl_lt him] at haf
    obtain⟨b,o,rfl,_,h1⟩:=rd_txt HR.out him
    obtain⟨x,ex⟩:∃x,x=pl p.v i:=⟨_,rfl⟩
    rw[←ex] at hal haf h1
    clear ex him
    by_cases q1:x=p.f
    ·have t1:(x==p.f)=true:=by simpa using q1
     have E:=Lib.hid (show viaB R p=false by
      rw[viaB,haf (by rw[onB,decide_eq_false (fun h=>h q1)];rfl)];simp)
     clear q1 hal haf
     go_wp2_with fail
     go_ret
     exact⟨by rw[E.out];rfl,HB0.out⟩
    ·have t1:(x==p.f)=false:=by simpa using q1
     by_cases q2:x=p.t
     ·have t2:(x==p.t)=true:=by simpa using q2
      have E:=Lib.hid (show viaB R p=false by
       rw[viaB,haf (by rw[onB,decide_eq_false (p:=x≠p.t) (fun h=>h q2)];simp)];simp)
      clear q1 q2 hal haf
      go_wp2_with fail
      go_ret
      exact⟨by rw[E.out];rfl,HB0.out⟩
     ·have t2:(x==p.t)=false:=by simpa using q2
      have c3:=C1.out x W HR2.out
      by_cases q3:x∈R
      ·rw[decide_eq_true q3] at c3
       have E:=Lib.hid (show((p.v.take (i+1)).all (onB R p)=true) by
        rw[hal,onB,decide_eq_true q1,decide_eq_true q2,decide_eq_true q3];rfl)
       clear q1 q2 q3 hal haf
       go_wp2_with (go_at_call 93;refine Calls.mono c3 ?_;rintro e w1 ⟨rfl,rfl⟩;clear c3)
       go_round
       case rel=>exact⟨i+1,by omega,by go_num,E.out⟩
       case measure=>simp [intOf];omega
      ·rw[decide_eq_false q3] at c3
       have E:=Lib.hid (show viaB R p=false by
        rw[viaB,haf (by rw[onB,decide_eq_false q3];simp)];simp)
       clear q1 q2 q3 hal haf
       go_wp2_with (go_at_call 93;refine Calls.mono c3 ?_;rintro e w1 ⟨rfl,rfl⟩;clear c3)
       go_ret
       exact⟨by rw[E.out];rfl,HB0.out⟩
   ·have e1:¬(i:Int)<(n:Int):=by omega
    have E:=Lib.hid (show viaB R p=decide p.v.Nodup by
     rw[viaB,all_take (by have:=EN.out;omega) HN.out,decide_eq_true (by rw[←EN.out];exact H4.out)];rfl)
    have c1:=C2.out W HR.out
    go_wp2_with (go_at_call 209;refine Calls.mono c1 ?_;rintro e w1 ⟨rfl,rfl⟩;clear c1)
    go_ret
    exact⟨by rw[E.out];rfl,HB0.out⟩
 ·have g4:decide (4<(n:Int))=true:=by simp;omega
  have E:=Lib.hid (show viaB R p=false by
   rw[viaB,decide_eq_false (by rw[←EN.out];exact h4)];rfl)
  go_enter Tryz.func211,Tryz.ntmps211
  go_wp2
  go_ret
  exact⟨by rw[E.out];rfl,HB0.out⟩
theorem ends_succ {P:List Pa} {i:Nat} (h:i<P.length):endsL (P.take (i+1))=endsL (P.take i)++[((al P i).f,(al P i).t)]:=by
 rw[take_succ h,al_lt h,endsL,List.map_append];rfl
theorem ends_length (P:List Pa):(endsL P).length=P.length:=by simp [endsL]
set_option maxHeartbeats 800000 in
theorem paths_any (P:List Pa) (R:List L) (A A2:Option Addr) (c c2 B:Nat) (w:World) (hl:P.length≤100000) (hl2:R.length≤1000000) (hv:∀p∈P,p.v.length≤1000000) (hr:RdA w B A P) (hr2:Rd w B A2 (strs R)) (hB:B≤w.heap.size) :
  Calls Tryz.prog 145 #[.slice A P.length c,.slice A2 R.length c2] w fun e w'=>e = .returned (.bool (pathsB P R))∧Below w.heap.size w w':=by
 obtain⟨N,eN⟩:∃N,N=w.heap.size:=⟨_,rfl⟩
 rw[←eN] at hB⊢
 have HB0:=Lib.hid (show Below N w w from Below.refl _ _)
 have EN0:=Lib.hid eN;clear eN
 have HSZ:=Lib.hid (show ∀w1:World,Below N w w1→N≤w1.heap.size from fun w1 h=>by have:=h.size;have:=EN0.out;omega)
 have HR:=Lib.hid hr;clear hr
 have HR2:=Lib.hid hr2;clear hr2
 have C1:=Lib.hid (fun(i:Nat) (hi:i<P.length) u w1 (h:SlV w1 B u (al P i).v) (h2:Rd w1 B A2 (strs R)) hB1=>via_any (al P i) R u A2 c2 B w1 (hv _ (al_mem hi)) hl2 h h2 hB1)
 have C2:=Lib.hid (fun A c w1 h1 h2 h3 h4=>pairs_any (endsL P) R A A2 c c2 w1.heap.size w1 (by rw[ends_length];omega) h1 hl2 h2 h3 h4)
 rw[ends_length] at C2
 obtain⟨n,en⟩:∃n,n=P.length:=⟨_,rfl⟩
 obtain⟨m,em⟩:∃m,m=R.length:=⟨_,rfl⟩
 rw[←en] at hl C2⊢
 rw[←em] at hl2 C1 C2⊢
 have EN:=Lib.hid en;clear en em hv
 go_enter Tryz.func145,Tryz.ntmps145
 go_wp2
 go_loopw [5,10] (fun ev iv wr=>∃i:Nat,i≤n∧iv = .int .i64 (i:Int)∧(P.take i).all (viaB R)=true∧OwnP wr N ev (endsL (P.take i))∧Below N w wr) (fun _ iv _=>n - (intOf iv).toNat)
 case atStart=>exact⟨0,Nat.zero_le _,rfl,by simp,OwnP.nil _ _,HB0.out⟩
 case round=>
  obtain⟨i,hi,rfl,hn,ho,hb⟩:=hrel
  have HN:=Lib.hid hn;clear hn
  have HB:=Lib.hid hb;clear hb
  have HO:=Lib.hid ho;clear ho
  have hrw:=HR.out.below (HB.out.mono hB)
  by_cases hlt:i<n
  ·have e1:(i:Int)<(n:Int):=by omega
   have e2:(0:Int)≤(i:Int):=by omega
   have him:i<P.length:=by rw[←EN.out];exact hlt
   have hal:=all_succ (p:=viaB R) him
   have haf:=all_false (p:=viaB R) him
   have hes:=ends_succ him
   have hel:=ends_length (P.take i)
   rw[HN.out,Bool.true_and,←al_lt him] at hal
   rw[←al_lt him] at haf
   have hlen:(P.take i).length=i:=by simp;omega
   rw[hlen] at hel
   have c1:=C1.out i him
   obtain⟨b,o,rfl,_,h1,h2,u,h3,h4⟩:=rda_at hrw him
   obtain⟨x,ex⟩:∃x,x=al P i:=⟨_,rfl⟩
   obtain⟨F,eF⟩:∃F,F=endsL (P.take i):=⟨_,rfl⟩
   rw[←ex] at hal haf h1 h2 h4 hes c1
   rw[←eF] at hes hel HO
   have HES:=Lib.hid hes;have HEL:=Lib.hid hel;clear hes hel
   clear ex eF him hlen
   have h4':=h4
   obtain⟨A5,c5,eu,_⟩:=h4'
   subst eu
   obtain⟨k5,ek5⟩:∃k,k=x.v.length:=⟨_,rfl⟩
   rw[←ek5] at h3 h4
   have HK:=Lib.hid (Blk.new wr 273 #[.string ⟨x.f.toArray⟩,.string ⟨x.t.toArray⟩,.slice A5 k5 c5])
   have HA:=Lib.hid ((Below.refl wr.heap.size wr).alloc (Nat.le_refl _) (.cells #[.string ⟨x.f.toArray⟩,.string ⟨x.t.toArray⟩,.slice A5 k5 c5] 273))
   have H:=Lib.hid (HB.out.trans (HA.out.mono (HSZ.out _ HB.out)))
   have c2:=c1 _ _ (h4.below (HA.out.mono (Nat.le_trans hB (HSZ.out _ HB.out)))) (HR2.out.below (H.out.mono hB)) (Nat.le_trans hB (HSZ.out _ H.out))
   clear c1 h4 ek5
   cases hx:viaB R x with
   |false=>
    rw[hx] at c2
    have E:=Lib.hid (show pathsB P R=false by rw[pathsB,haf hx];rfl)
    clear hx hal haf
    go_wp2_with (go_at_call 211;refine Calls.mono c2 ?_;rintro e w1 ⟨rfl,hb⟩;clear c2;have H1:=Lib.hid (H.out.trans (hb.mono (HSZ.out _ H.out)));clear hb)
    go_ret
    exact⟨by rw[E.out];rfl,H1.out⟩
   |true=>
    rw[hx] at c2
    have E:=Lib.hid (hal.trans hx)
    clear hx hal haf
    go_wp2_with (first
     |(go_at_call 211;refine Calls.mono c2 ?_;rintro e w1 ⟨rfl,hb⟩;clear c2;have H1:=Lib.hid (H.out.trans (hb.mono (HSZ.out _ H.out)));have HK1:=Lib.hid (HK.out.below hb);have HO1:=Lib.hid ((HO.out.below HA.out).below hb);clear hb HO HK;have k0:=HK1.out.cell 0;have k1:=HK1.out.cell 1;simp only[List.getElem?_toArray,List.getElem?_cons_zero,List.getElem?_cons_succ] at k0 k1)
     |(at_builtin;refine papp_one rfl (.tmp 18) (.tmp 24) rfl N _ F rfl HO1.out (x.f,x.t) rfl (by have:=HEL.out;omega) (HSZ.out _ H1.out) ?_;intro v2 w2 ho2 hb2;have HO2:=Lib.hid ho2;have H2:=Lib.hid (H1.out.trans hb2);clear ho2 hb2))
    go_roundw
    case rel=>exact⟨i+1,by omega,by go_num,E.out,by rw[HES.out];exact HO2.out,H2.out⟩
    case measure=>simp [intOf];omega
  ·have e1:¬(i:Int)<(n:Int):=by omega
   have hiP:P.length≤i:=by have:=EN.out;omega
   have E:=Lib.hid (show pathsB P R=pairsB (endsL P) R by
    rw[pathsB,all_take hiP HN.out];rfl)
   rw[List.take_of_length_le hiP] at HO
   obtain⟨A3,c3,rfl,q1,q2⟩:=HO.out.slice
   rw[ends_length,←EN.out] at q1
   have c1:=C2.out A3 c3 wr q1 q2 ((HR2.out.below (HB.out.mono hB)).more (Nat.le_trans hB (HSZ.out _ HB.out))) (Nat.le_refl _)
   have en2:(endsL P).length=n:=by rw[ends_length,←EN.out]
   rw[en2]
   clear q1 q2 hiP
   go_wp2_with (go_at_call 144;refine Calls.mono c1 ?_;rintro e w1 ⟨rfl,hb⟩;clear c1;replace HB:=Lib.hid (HB.out.trans (hb.mono (HSZ.out _ HB.out)));clear hb)
   go_ret
   exact⟨by rw[E.out];rfl,HB.out⟩
end Go.Proofs.YtfcjeebnkigeaaaGreat.Rt
end

section
set_option linter.unusedVariables false
namespace Go.Proofs.YtfcjeebnkigeaaaGreat.Rt
open Go.RowKit Go.Proofs.YtfcjeebnkigeaaaGreat.Mem Go.Proofs.YtfcjeebnkigeaaaGreat.Nm
structure Sm (T:Tp):Prop where
 r:T.R.length≤3000
 k:T.K.length≤3000
 p:T.P.length≤3000
 rt:∀x∈T.R,x.length≤3000
 v:∀q∈T.P,q.v.length≤3000
 vt:∀q∈T.P,∀x∈q.v,x.length≤3000
theorem ist_a {T:Tp} (h:¬1≤T.R.length):isT T=false:=by rw[isT,decide_eq_false h];rfl
theorem ist_b {T:Tp} (h:¬T.R.length≤6):isT T=false:=by rw[isT,decide_eq_false h];simp
theorem ist_c {T:Tp} (h:¬T.K.length≤20):isT T=false:=by rw[isT,decide_eq_false h];simp
theorem ist_d {T:Tp} (h:¬T.P.length≤8):isT T=false:=by rw[isT,decide_eq_false h];simp
theorem ist_e {T:Tp} (h:realmsB T.R=false):isT T=false:=by rw[isT,h];simp
theorem ist_f {T:Tp} (h:pairsB T.K T.R=false):isT T=false:=by rw[isT,h];simp
theorem ist_g {T:Tp} (h1:1≤T.R.length) (h2:T.R.length≤6) (h3:T.K.length≤20) (h4:T.P.length≤8) (h5:realmsB T.R=true) (h6:pairsB T.K T.R=true):isT T=pathsB T.P T.R:=by
 rw[isT,decide_eq_true h1,decide_eq_true h2,decide_eq_true h3,decide_eq_true h4,h5,h6];rfl
set_option maxHeartbeats 1600000 in
theorem ist_any (T:Tp) (v:Value) (B:Nat) (w:World) (hs:Sm T) (hv:TpV w B v T) (hB:B≤w.heap.size) :
  Calls Tryz.prog 92 #[v] w fun e w'=>e = .returned (.bool (isT T))∧Below w.heap.size w w':=by
 obtain⟨v1,v2,v3,rfl,⟨A1,c1,rfl,hc1,r1⟩,⟨A2,c2,rfl,hc2,r2⟩,⟨A3,c3,rfl,hc3,r3⟩⟩:=hv
 have H:=Lib.hid ((Below.refl w.heap.size w).alloc (Nat.le_refl _) (.cells #[.slice A1 T.R.length c1,.slice A2 T.K.length c2,.slice A3 T.P.length c3] 60))
 have HK:=Lib.hid (Blk.new w 60 #[.slice A1 T.R.length c1,.slice A2 T.K.length c2,.slice A3 T.P.length c3])
 obtain⟨W,eW⟩:∃W,W=w.alloc (.cells #[.slice A1 T.R.length c1,.slice A2 T.K.length c2,.slice A3 T.P.length c3] 60):=⟨_,rfl⟩
 rw[←eW] at H HK
 have hb:=H.out.mono hB
 have C1:=Lib.hid (realms_any T.R A1 c1 B W (by have:=hs.r;omega) hc1 (r1.below hb) (fun i hi=>by have:=hs.rt _ (pl_mem hi);omega))
 have C2:=Lib.hid (fun w1 (hk:Below B W w1) hsz=>pairs_any T.K T.R A2 A1 c2 c1 B w1 (by have:=hs.k;omega) hc2 (by have:=hs.r;omega) ((r2.below hb).below hk) ((r1.below hb).below hk) hsz)
 have C3:=Lib.hid (fun w1 (hk:Below B W w1) hsz=>paths_any T.P T.R A3 A1 c3 c1 B w1 (by have:=hs.p;omega) (by have:=hs.r;omega) (fun q hq=>by have:=hs.v q hq;omega) ((r3.below hb).below hk) ((r1.below hb).below hk) hsz)
 have HSZ:=Lib.hid (show B≤W.heap.size from Nat.le_trans hB H.out.size)
 clear hb r1 r2 r3 hB hc1 hc2 hc3
 have A5:=Lib.hid (@ist_a T);have B5:=Lib.hid (@ist_b T);have C5:=Lib.hid (@ist_c T);have D5:=Lib.hid (@ist_d T);have E5:=Lib.hid (@ist_e T);have F5:=Lib.hid (@ist_f T);have G5:=Lib.hid (@ist_g T)
 have s1:=hs.r;have s2:=hs.k;have s3:=hs.p
 obtain⟨n,en⟩:∃n,n=T.R.length:=⟨_,rfl⟩
 obtain⟨m,em⟩:∃m,m=T.K.length:=⟨_,rfl⟩
 obtain⟨k,ek⟩:∃k,k=T.P.length:=⟨_,rfl⟩
 rw[←en,←em,←ek] at eW HK
 rw[←en] at C1 C2 C3 s1 A5 B5 G5
 rw[←em] at C2 s2 C5 G5
 rw[←ek] at C3 s3 D5 G5
 rw[←en,←em,←ek]
 clear en em ek hs
 subst eW
 by_cases q1:1≤n
 ·have t1:decide ((n:Int)<1)=false:=by simp;omega
  by_cases q2:n≤6
  ·have t2:decide (6<(n:Int))=false:=by simp;omega
   by_cases q3:m≤20
   ·have t3:decide (20<(m:Int))=false:=by simp;omega
    by_cases q4:k≤8
    ·have t4:decide (8<(k:Int))=false:=by simp;omega
     cases q5:realmsB T.R with
     |false=>
      have E:=Lib.hid (E5.out q5)
      rw[q5] at C1
      have c4:=C1.out
      clear C1 C2 C3 q5
      go_enter Tryz.func92,Tryz.ntmps92
      go_wp2_with (go_at_call 143;refine Calls.mono c4 ?_;rintro e w1 ⟨rfl,hd⟩;clear c4;have H1:=Lib.hid (H.out.trans (hd.below.mono H.out.size));clear hd)
      go_ret
      exact⟨by rw[E.out];rfl,H1.out⟩
     |true=>
      rw[q5] at C1
      have c4:=C1.out
      cases q6:pairsB T.K T.R with
      |false=>
       have E:=Lib.hid (F5.out q6)
       rw[q6] at C2
       clear C1 C3 q5 q6
       go_enter Tryz.func92,Tryz.ntmps92
       go_wp2_with (first
        |(go_at_call 143;refine Calls.mono c4 ?_;rintro e w1 ⟨rfl,hd⟩;clear c4;have H1:=Lib.hid (H.out.trans (hd.below.mono H.out.size));replace HK:=Lib.hid (HK.out.below hd.below);have k0:=HK.out.cell 0;have k1:=HK.out.cell 1;have k2:=HK.out.cell 2;simp only[List.getElem?_toArray,List.getElem?_cons_zero,List.getElem?_cons_succ] at k0 k1 k2;have c5:=C2.out w1 (hd.below.mono HSZ.out) (Nat.le_trans HSZ.out hd.below.size);clear hd)
        |(go_at_call 144;refine Calls.mono c5 ?_;rintro e w2 ⟨rfl,hb⟩;clear c5;replace H1:=Lib.hid (H1.out.trans (hb.mono H1.out.size));clear hb))
       go_ret
       exact⟨by rw[E.out];rfl,H1.out⟩
      |true=>
       have E:=Lib.hid (G5.out q1 q2 q3 q4 q5 q6)
       rw[q6] at C2
       clear C1 q5 q6
       go_enter Tryz.func92,Tryz.ntmps92
       go_wp2_with (first
        |(go_at_call 143;refine Calls.mono c4 ?_;rintro e w1 ⟨rfl,hd⟩;clear c4;have H1:=Lib.hid (H.out.trans (hd.below.mono H.out.size));replace HK:=Lib.hid (HK.out.below hd.below);have k0:=HK.out.cell 0;have k1:=HK.out.cell 1;have k2:=HK.out.cell 2;simp only[List.getElem?_toArray,List.getElem?_cons_zero,List.getElem?_cons_succ] at k0 k1 k2;have c5:=C2.out w1 (hd.below.mono HSZ.out) (Nat.le_trans HSZ.out hd.below.size);have HH:=Lib.hid hd.below;clear hd)
        |(go_at_call 144;refine Calls.mono c5 ?_;rintro e w2 ⟨rfl,hb⟩;clear c5 k0 k1 k2;replace H1:=Lib.hid (H1.out.trans (hb.mono H1.out.size));replace HK:=Lib.hid (HK.out.below hb);have k0:=HK.out.cell 0;have k1:=HK.out.cell 1;have k2:=HK.out.cell 2;simp only[List.getElem?_toArray,List.getElem?_cons_zero,List.getElem?_cons_succ] at k0 k1 k2;replace HH:=Lib.hid (HH.out.trans (hb.mono HH.out.size));have c6:=C3.out w2 (HH.out.mono HSZ.out) (Nat.le_trans HSZ.out HH.out.size);clear hb)
        |(go_at_call 145;refine Calls.mono c6 ?_;rintro e w3 ⟨rfl,hb⟩;clear c6;replace H1:=Lib.hid (H1.out.trans (hb.mono H1.out.size));clear hb))
       go_ret
       exact⟨by rw[E.out];rfl,H1.out⟩
    ·have t4:decide (8<(k:Int))=true:=by simp;omega
     have E:=Lib.hid (D5.out q4)
     go_enter Tryz.func92,Tryz.ntmps92
     go_wp2
     go_ret
     exact⟨by rw[E.out];rfl,H.out⟩
   ·have t3:decide (20<(m:Int))=true:=by simp;omega
    have E:=Lib.hid (C5.out q3)
    go_enter Tryz.func92,Tryz.ntmps92
    go_wp2
    go_ret
    exact⟨by rw[E.out];rfl,H.out⟩
  ·have t2:decide (6<(n:Int))=true:=by simp;omega
   have E:=Lib.hid (B5.out q2)
   go_enter Tryz.func92,Tryz.ntmps92
   go_wp2
   go_ret
   exact⟨by rw[E.out];rfl,H.out⟩
 ·have t1:decide ((n:Int)<1)=true:=by simp;omega
  have E:=Lib.hid (A5.out q1)
  go_enter Tryz.func92,Tryz.ntmps92
  go_wp2
  go_ret
  exact⟨by rw[E.out];rfl,H.out⟩
end Go.Proofs.YtfcjeebnkigeaaaGreat.Rt
end

section
set_option linter.unusedVariables false
namespace Go.Proofs.YtfcjeebnkigeaaaGreat.Kd
open Go.Proofs.YtfcjeebnkigeaaaGreat.Mem Go.Proofs.YtfcjeebnkigeaaaGreat.Se
open Go.Proofs.YtfcjeebnkigeaaaGreat.Nm (krb L)
open Go.Proofs.YtfcjeebnkigeaaaGreat.Rg (It lastI lastN numO Num)
open Go.Proofs.YtfcjeebnkigeaaaGreat.Rt (Tp isT Sm)
abbrev Pr:=L×L
def rA:L:=[65,46,69,68,85]
def rE:L:=[69,68,85]
def rB:L:=[66,46,69,68,85]
def pAnn:Pr:=(rA,[97,110,110])
def pMail:Pr:=(rA,[109,97,105,108])
def pWeb:Pr:=(rE,[119,101,98])
def kq (n:UInt8):Nat→UInt8:=fun i=>if i=0 then n else if i=1 then 7 else 0
def kb (n:UInt8):L:=(List.range 32).map (kq n)
def tT:Tp:=⟨[rA,rE,rB],[(rA,rE),(rE,rA),(rE,rB),(rB,rE)],[]⟩
def itA:List It:=[⟨kr rA rA,1,kq 10⟩,⟨kr rA rE,1,kq 99⟩,⟨kr rE rA,1,kq 12⟩,⟨pAnn,1,kq 13⟩,⟨pMail,1,kq 14⟩]
def itE:List It:=[⟨kr rE rE,1,kq 10⟩,⟨kr rA rE,1,kq 99⟩,⟨kr rE rB,1,kq 12⟩,⟨pWeb,1,kq 13⟩]
def itX (above:Bool):List It:=if above then itE else itA
def rX (above:Bool):L:=if above then rE else rA
theorem kb_len (n:UInt8):(kb n).length=32:=by simp [kb]
theorem bvs_kb (n:UInt8):(bvs (kb n)).toArray=key32 (kq n):=by simp [bvs,kb,key32]
theorem tT_is:isT tT=true:=by decide +kernel
theorem tT_sm:Sm tT:=⟨by decide,by decide,by decide,by decide,by decide,by decide⟩
theorem numA:Num itA:=by
 intro j i h
 match j,h with
 |0,h=>injection h with h;subst h;decide +kernel
 |1,h=>injection h with h;subst h;decide +kernel
 |2,h=>injection h with h;subst h;decide +kernel
 |3,h=>injection h with h;subst h;decide +kernel
 |4,h=>injection h with h;subst h;decide +kernel
 |j+5,h=>simp [itA] at h
theorem numE:Num itE:=by
 intro j i h
 match j,h with
 |0,h=>injection h with h;subst h;decide +kernel
 |1,h=>injection h with h;subst h;decide +kernel
 |2,h=>injection h with h;subst h;decide +kernel
 |3,h=>injection h with h;subst h;decide +kernel
 |j+4,h=>simp [itE] at h
theorem numX (a:Bool):Num (itX a):=by cases a<;>first | exact numA | exact numE
end Go.Proofs.YtfcjeebnkigeaaaGreat.Kd
end
