import Derived.Lib.MinMax
import Derived.Deep.LoopGhost
import Derived.StillTailTactics
import Derived.Laws.OwnMore
import Derived.IntWalk
import Derived.Laws.AppendOwn
import Derived.Test.YtfcjeebnkigeaaaGreatZKdcNonces1
import Derived.Test.YtfcjeebnkigeaaaGreatZKdcNonces2
import Derived.Test.YtfcjeebnkigeaaaGreatZKdcNonces3
import Derived.Test.YtfcjeebnkigeaaaGreatZKdcNonces4
import Derived.Test.YtfcjeebnkigeaaaGreatZKdcNonces5
import Derived.Test.YtfcjeebnkigeaaaGreatZKdcNonces6
import Derived.Test.YtfcjeebnkigeaaaGreatZKdcNonces7
import Derived.Test.YtfcjeebnkigeaaaGreatZKdcNonces8
section
set_option linter.unusedVariables false
namespace Go.Proofs.YtfcjeebnkigeaaaGreat.DerR
open Go.RowKit Go.Proofs.YtfcjeebnkigeaaaGreat.Mem Go.Proofs.YtfcjeebnkigeaaaGreat.DerP
theorem text_any (l:L) (w:World) (hl:l.length≤65535) :
  Calls Tryz.prog 139 #[.string ⟨l.toArray⟩] w (Gives w (elem 27 l)):=by
 have hcv:=fun(W:World)=>Lib.run_convert_string_bytes (P:=Tryz.prog) W 9 30 5 ⟨l.toArray⟩ Tryz.underlying9 Tryz.underlying30 Tryz.underlying5
 have he:∀(c:Nat),Calls Tryz.prog 137 #[.int .u8 27,.slice (some ⟨w.heap.size,0,none⟩) l.length c] (Lib.bytesWorld w 5 ⟨l.toArray⟩) (Gives (Lib.bytesWorld w 5 ⟨l.toArray⟩) (elem 27 l)):=
  fun c=>elem_any 27 l _ _ c _ _ (bytes_fresh w 5 l).rd rfl (Nat.le_refl _) hl
 have HE:=Lib.hid he
 have HB:=Lib.hid (bytes_below w 5 ⟨l.toArray⟩)
 clear he hl
 go_enter Tryz.func139,Tryz.ntmps139
 go_wp2_with (go_at_call 137;refine(Calls.mono (HE.out _) ?_);rintro e w1 ⟨⟨g1,c1,rfl,hg1,hc1,hrd1⟩,hb1⟩)
 go_ret
 exact⟨⟨g1,c1,rfl,Nat.le_trans HB.out.size hg1,hc1,hrd1⟩,bt HB.out hb1⟩
theorem digK_cons (j m:Nat):digK (j+1) m=UInt8.ofNat (m / 256 ^ j) :: digK j m:=by
 induction j generalizing m with
 |zero=>simp [digK]
 |succ j ih=>
  rw[digK,ih (m / 256)]
  rw[Nat.div_div_eq_div_mul,Nat.mul_comm,←Nat.pow_succ]
  rfl
theorem dig_plain (m j:Nat) (hm:m≤4611686018427387904) (hj:1≤j) (h1:j=1∨256 ^ (j - 1)≤m) (h2:m / 256 ^ (j - 1)<128):dig m=digK j m:=by
 have hp:0<256 ^ (j - 1):=Nat.pow_pos (by omega)
 have hup:m<128*256 ^ (j - 1):=by rw[Nat.div_lt_iff_lt_mul hp] at h2;exact h2
 have hj8:j≤8:=by
  rcases Nat.lt_or_ge 8 j with g | g
  ·exfalso
   rcases h1 with h | h
   ·omega
   ·have:256 ^ 8≤256 ^ (j - 1):=Nat.pow_le_pow_right (by omega) (by omega)
    have e:(256:Nat) ^ 8=18446744073709551616:=by decide
    omega
  ·exact g
 have hup':m<2 ^ (8*(j - 1)+7):=by
  rw[Nat.pow_add,←pow256,Nat.mul_comm];simpa using hup
 have hb:=bitLen_bound m _ (by omega) hup'
 have hk:Lib.bitLen m / 8+1=j:=by
  rcases h1 with h | h
  ·omega
  ·have h3:2 ^ (8*(j - 1))≤m:=by rw[←pow256];exact h
   have:=bitLen_ge m (by omega) _ h3
   omega
 rw[dig,hk]
theorem dig_nought (m j:Nat) (hm:m≤4611686018427387904) (hj:1≤j) (h0:m / 256 ^ j=0) (h2:128≤m / 256 ^ (j - 1)):dig m=0 :: digK j m:=by
 have hp:0<256 ^ (j - 1):=Nat.pow_pos (by omega)
 have hlo:128*256 ^ (j - 1)≤m:=by rw[Nat.le_div_iff_mul_le hp] at h2;exact h2
 have hpj:0<256 ^ j:=Nat.pow_pos (by omega)
 have hup:m<256 ^ j:=by
  rcases Nat.lt_or_ge m (256 ^ j) with g | g
  ·exact g
  ·have:=Nat.div_pos g hpj;omega
 have hlo':2 ^ (8*(j - 1)+7)≤m:=by
  rw[Nat.pow_add,←pow256,Nat.mul_comm];simpa using hlo
 have h3:=bitLen_ge m (by omega) _ hlo'
 have h62:=bitLen_62 m hm
 have h4:=bitLen_bound m (8*j) (by omega) (by rw[←pow256];exact hup)
 have hk:Lib.bitLen m / 8+1=j+1:=by omega
 rw[dig,hk,digK_cons,h0]
 rfl
theorem first_digit (m j:Nat) (hj:1≤j) (h0:m / 256 ^ j=0):m / 256 ^ (j - 1)<256:=by
 have hp:0<256 ^ (j - 1):=Nat.pow_pos (by omega)
 have hpj:0<256 ^ j:=Nat.pow_pos (by omega)
 rw[Nat.div_lt_iff_lt_mul hp,Nat.mul_comm,←Nat.pow_succ,show(j - 1).succ=j by omega]
 rcases Nat.lt_or_ge m (256 ^ j) with g | g
 ·exact g
 ·have:=Nat.div_pos g hpj;omega
theorem first_cell {w:World} {g j m:Nat} (hj:1≤j) (h0:m / 256 ^ j=0) (h:Rd w w.heap.size (some ⟨g,0,none⟩) (bvs (digK j m))):w.cell? ⟨g,0,none⟩=some (.int .u8 ((m / 256 ^ (j - 1):Nat):Int)):=by
 have ha:=digK_at j m 0 (by omega)
 obtain⟨b,o,e,_,hc⟩:=h.at_ (i:=0) (u:=bv (UInt8.ofNat (m / 256 ^ (j - 1)))) (by simp only[bvs,List.getElem?_map,ha];rfl)
 injection e with e
 injection e with e1 e2
 subst e1 e2
 have hf:=first_digit m j hj h0
 rw[show(0+0:Nat)=0 from rfl] at hc
 rw[hc,DerW.byte_nat _ hf]
def Left (m:Nat) (W:World) (n p:Value) (w:World):Prop:=
 ∃j g cap,1≤j∧(j=1∨256 ^ (j - 1)≤m)∧j≤9∧n = .int .i64 ((m / 256 ^ j:Nat):Int)∧p = .slice (some ⟨g,0,none⟩) j cap∧Rd w w.heap.size (some ⟨g,0,none⟩) (bvs (digK j m))∧Below W.heap.size W w
set_option maxRecDepth 100000 in
set_option maxHeartbeats 1000000 in
theorem int_any (n : Int) (w : World) :
    Calls Tryz.prog 89 #[.int .i64 n] w (Gives w (encI n)) := by
  obtain ⟨i0, hi0, hz0, hs0, hb0⟩ := info_parts DerW.u8_info
  have hcl := clampN_int n
  have hm := clampN_le n
  have E : Hid (encI n = elem 2 (dig (clampN n))) := rfl
  generalize clampN n = m at *
  have HM := Lib.hid hm
  have hm' : (m : Int) ≤ 4611686018427387904 := by omega
  have hml := Lib.hid DerW.ml
  have hlast := Lib.hid (show [Value.int .u8 ((m : Int) % 256)] = bvs (digK 1 m) by simp [bvs, bv, digK])
  have hcl' := hcl.symm
  clear hcl hm
  go_enter Tryz.func89, Tryz.ntmps89
  go_wp2
  go_loopw [0, 3] (fun nv p wr => Left m w nv p wr) (fun nv _ _ => (intOf nv).toNat)
  case atStart =>
    refine ⟨1, w.heap.size, 1, Nat.le_refl _, .inl rfl, by omega, by simp, rfl, ?_, (Below.refl _ _).alloc (Nat.le_refl _) _⟩
    have := DerW.rd_lit w 5 #[Value.int .u8 ((m : Int) % 256)] (digK 1 m) hlast.out _ rfl
    simpa using this
  case round =>
    obtain ⟨j, g, cap, hj1, hjm, hj9, rfl, rfl, hrd, hbel⟩ := hrel
    by_cases h0 : m / 256 ^ j = 0
    · have hcell := first_cell hj1 h0 hrd
      have hf := first_digit m j hj1 h0
      have HRD := Lib.hid hrd
      have HJ := Lib.hid hj1
      have HJM := Lib.hid hjm
      have H0 := Lib.hid h0
      rw [h0]
      have HN := Lib.hid (first_digit m j hj1 h0)
      by_cases h128 : m / 256 ^ (j - 1) < 128
      · have G := Lib.hid (dig_plain m j HM.out hj1 hjm h128)
        have he : ∀ W : World, Rd W W.heap.size (some ⟨g, 0, none⟩) (bvs (digK j m)) → Calls Tryz.prog 137 #[.int .u8 2, .slice (some ⟨g, 0, none⟩) j cap] W (Gives W (elem 2 (digK j m))) :=
          fun W hW => elem_any 2 (digK j m) _ j cap _ W hW (length_digK j m).symm (Nat.le_refl _) (by rw [length_digK]; omega)
        have HEL := Lib.hid he
        have g5 : decide ((128 : Int) ≤ ((m / 256 ^ (j - 1) : Nat) : Int)) = false := by simp only [decide_eq_false_iff_not]; omega
        clear he hrd hf h128 hj1 hjm h0
        generalize m / 256 ^ (j - 1) = a at *
        have hj9' : (j : Int) ≤ 9 := by omega
        have hj1' : 0 < j := HJ.out
        go_wp2_with (go_at_call 137; refine (Calls.mono (HEL.out _ HRD.out) ?_); rintro e w1 ⟨⟨g1, c1, rfl, hg1, hc1, hrd1⟩, hb1⟩)
        go_ret
        rw [E.out, G.out]
        exact ⟨⟨g1, c1, rfl, Nat.le_trans hbel.size hg1, hc1, hrd1⟩, bt hbel hb1⟩
      · have G := Lib.hid (dig_nought m j HM.out hj1 h0 (by omega))
        have he : ∀ (W : World) (g' c' : Nat), Rd W W.heap.size (some ⟨g', 0, none⟩) (bvs (0 :: digK j m)) → Calls Tryz.prog 137 #[.int .u8 2, .slice (some ⟨g', 0, none⟩) (0 :: digK j m).length c'] W (Gives W (elem 2 (0 :: digK j m))) :=
          fun W g' c' hW => elem_any 2 (0 :: digK j m) _ _ c' _ W hW rfl (Nat.le_refl _) (by simp only [List.length_cons, length_digK]; omega)
        have HEL := Lib.hid he
        have g5 : decide ((128 : Int) ≤ ((m / 256 ^ (j - 1) : Nat) : Int)) = true := by simp only [decide_eq_true_eq]; omega
        have hown0 : Hid ((wr.alloc (.cells #[.int .u8 0] 5)).ownsRow wr.heap.size 5 1 (.slice (some ⟨wr.heap.size, 0, none⟩) 1 1) 1 (bvs [0])) := World.ownsRow_lit wr #[.int .u8 0] 1 (Nat.le_refl _) (DerW.ml 1 (by omega)) rfl
        clear he hrd hf h128 hj1 hjm h0
        generalize m / 256 ^ (j - 1) = a at *
        have hj9' : (j : Int) ≤ 9 := by omega
        have hj1' : 0 < j := HJ.out
        go_wp2_with (first
          | (at_builtin
             refine wpList_append_rd _ rfl (.tmp 25) (.tmp 26) 30 rfl wr.heap.size 5 i0 _ 1 Tryz.underlying30 hi0 hz0 hs0 hb0 rfl (.slice (some ⟨wr.heap.size, 0, none⟩) 1 1) 1 (bvs [0]) rfl hown0.out wr.heap.size (some ⟨g, 0, none⟩) j cap (bvs (digK j m)) rfl (by rw [bvs_length, length_digK]) (HRD.out.alloc (Nat.le_refl _) _) (bvs_one _) (hml.out _ (by omega)) (by omega) (by simp) ?_
             intro v2 w2 hown2 hg2 hat2
             rw [← bvs_append, List.singleton_append] at hown2
             obtain ⟨g3, cap3, rfl, hg3, hcap3, hrd3⟩ := DerK.own_slice hown2 (by simp)
             have hbe2 : Below wr.heap.size wr w2 := ((Below.refl wr.heap.size wr).alloc (Nat.le_refl _) _).grown hg2 (by simp) (fun k hk => by simp [Value.ownBlock] at hk; omega)
             clear hown2 hat2)
          | (go_at_call 137; refine (Calls.mono (HEL.out _ _ _ hrd3) ?_); rintro e w1 ⟨⟨g1, c1, rfl, hg1, hc1, hrd1⟩, hb1⟩))
        go_ret
        rw [E.out, G.out]
        exact ⟨⟨g1, c1, rfl, Nat.le_trans (Nat.le_trans hbel.size hbe2.size) hg1, hc1, hrd1⟩, bt (bt hbel hbe2) hb1⟩
    · have hle : 256 ^ j ≤ m := by
        have hpj : 0 < 256 ^ j := Nat.pow_pos (by omega)
        rcases Nat.lt_or_ge m (256 ^ j) with g' | g'
        · exact absurd (Nat.div_eq_of_lt g') h0
        · exact g'
      have hj8 : j < 8 := by
        rcases Nat.lt_or_ge j 8 with g' | g'
        · exact g'
        · exfalso
          have : 256 ^ 8 ≤ 256 ^ j := Nat.pow_le_pow_right (by omega) g'
          have e : (256 : Nat) ^ 8 = 18446744073709551616 := by decide
          have := HM.out
          omega
      have hnext := Lib.hid (show m / 256 ^ j / 256 = m / 256 ^ (j + 1) by rw [Nat.div_div_eq_div_mul, ← Nat.pow_succ])
      have hcons := Lib.hid (digK_cons j m)
      have hy : m / 256 ^ j ≤ m := Nat.div_le_self _ _
      have HRD := Lib.hid hrd
      have HLE := Lib.hid hle
      clear hrd hle hjm
      generalize m / 256 ^ j = y at *
      have g6 : decide ((0 : Int) < (y : Int)) = true := by simp; omega
      have hy' : (y : Int) ≤ 4611686018427387904 := by omega
      have hown0 : Hid ((wr.alloc (.cells #[.int .u8 ((y : Int) % 256)] 5)).ownsRow wr.heap.size 5 1 (.slice (some ⟨wr.heap.size, 0, none⟩) 1 1) 1 (bvs [UInt8.ofNat y])) := by
        have := World.ownsRow_lit (base := wr.heap.size) (e := 5) (size := 1) wr #[.int .u8 ((y : Int) % 256)] 1 (Nat.le_refl _) (DerW.ml 1 (by omega)) rfl
        rw [show (#[Value.int .u8 ((y : Int) % 256)] : Array Value).toList = bvs [UInt8.ofNat y] by simp [bvs, bv]] at this
        exact this
      have HY := Lib.hid (show 0 < y by omega)
      clear h0 hy
      go_wp2_with (at_builtin
                   refine wpList_append_rd _ rfl (.tmp 18) (.tmp 19) 30 rfl wr.heap.size 5 i0 _ 1 Tryz.underlying30 hi0 hz0 hs0 hb0 rfl (.slice (some ⟨wr.heap.size, 0, none⟩) 1 1) 1 (bvs [UInt8.ofNat y]) rfl hown0.out wr.heap.size (some ⟨g, 0, none⟩) j cap (bvs (digK j m)) rfl (by rw [bvs_length, length_digK]) (HRD.out.alloc (Nat.le_refl _) _) (bvs_one _) (hml.out _ (by omega)) (by omega) (by simp) ?_
                   intro v2 w2 hown2 hg2 hat2
                   rw [← bvs_append, List.singleton_append, ← hcons.out] at hown2
                   obtain ⟨g3, cap3, rfl, hg3, hcap3, hrd3⟩ := DerK.own_slice hown2 (by rw [length_digK]; omega)
                   rw [length_digK]
                   have hbe2 : Below wr.heap.size wr w2 := ((Below.refl wr.heap.size wr).alloc (Nat.le_refl _) _).grown hg2 (by simp) (fun k hk => by simp [Value.ownBlock] at hk; omega)
                   clear hown2 hat2)
      refine ⟨⟨j + 1, g3, cap3, by omega, .inr (by simpa using HLE.out), by omega, ?_, rfl, hrd3, bt hbel hbe2⟩, ?_⟩
      · rw [← hnext.out]; rfl
      · have := HY.out; simp [intOf]; omega
end Go.Proofs.YtfcjeebnkigeaaaGreat.DerR
end

section
set_option linter.unusedVariables false
namespace Go.Proofs.YtfcjeebnkigeaaaGreat.DerR
open Go.RowKit Go.Proofs.YtfcjeebnkigeaaaGreat.Mem Go.Proofs.YtfcjeebnkigeaaaGreat.DerP
theorem own_any {w:World} {base n:Nat} {t:TypeId} {v:Value} {l:L} (h:w.ownsRow base t 1 v n (bvs l)) :
  ∃A cap,v = .slice A l.length cap∧Rd w w.heap.size A (bvs l):=by
 have hn:n=l.length:=by have:=h.1;rw[bvs_length] at this;omega
 subst hn
 rcases h.2 with⟨h1,h2⟩ | ⟨g,cap,cur,rfl,hg,_,hc,_⟩
 ·subst h1
  have:l = []:=List.eq_nil_of_length_eq_zero h2
  subst this
  exact⟨none,0,rfl,.inl rfl⟩
 ·exact⟨_,cap,rfl,Rd.of_own h⟩
def flatTo (ls:List L) (k:Nat):L:=(ls.take k).flatten
theorem flatTo_succ (ls:List L) (k:Nat) (l:L) (h:ls[k]? = some l):flatTo ls (k+1)=flatTo ls k++l:=DerW.flat_snoc ls k l h
theorem flatTo_le (ls:List L) (k:Nat):(flatTo ls k).length≤ls.flatten.length:=DerW.flat_le ls k
theorem flatTo_all (ls:List L):flatTo ls ls.length=ls.flatten:=by rw[flatTo,List.take_of_length_le (Nat.le_refl _)]
set_option maxHeartbeats 1000000 in
theorem wrap_any (t : UInt8) (ls : List L) (A : Option Addr) (m c B : Nat) (w : World) (hr : DerW.Rds w B A ls) (hm : m = ls.length) (hB : B ≤ w.heap.size) (hl : ls.flatten.length ≤ 65535) (hc : ls.length ≤ 1000000) :
    Calls Tryz.prog 87 #[.int .u8 t.toNat, .slice A m c] w (Gives w (elem t ls.flatten)) := by
  obtain ⟨i0, hi0, hz0, hs0, hb0⟩ := info_parts DerW.u8_info
  have HR := Lib.hid hr
  have hfl := Lib.hid (fun k => Nat.le_trans (flatTo_le ls k) hl)
  have hfa := Lib.hid (flatTo_all ls)
  have hml := Lib.hid DerW.ml
  have hc' : (m : Int) ≤ 1000000 := by omega
  have HM := Lib.hid hm
  have HL := Lib.hid hl
  have h00 := Lib.hid (World.ownsRow_nil w w.heap.size 5 1)
  clear hr hm hc hl
  go_enter Tryz.func87, Tryz.ntmps87
  go_wp2
  go_loopw [5, 6] (fun v i wr => ∃ k : Nat, k ≤ m ∧ i = .int .i64 (k : Int) ∧ wr.ownsRow w.heap.size 5 1 v (flatTo ls k).length (bvs (flatTo ls k)) ∧ Below w.heap.size w wr) (fun _ i _ => m - (intOf i).toNat)
  case atStart => exact ⟨0, by omega, rfl, h00.out, Below.refl _ _⟩
  case round =>
    obtain ⟨k, hk, rfl, hown, hbel⟩ := hrel
    by_cases hlt : k < m
    · obtain ⟨l, hx⟩ : ∃ l, ls[k]? = some l := ⟨_, List.getElem?_eq_getElem (by have := HM.out; omega)⟩
      obtain ⟨b, o, rfl, hb, A', c', hcell, hrd⟩ := (HR.out.below (hbel.mono hB)).at_ hx
      have hs := flatTo_succ ls k l hx
      have hf2 := hfl.out (k + 1)
      have hs1 := congrArg List.length hs
      rw [List.length_append] at hs1
      have HS := Lib.hid hs
      have hsum : (flatTo ls k).length + l.length ≤ 65535 := by omega
      have HO := Lib.hid hown
      have HQ := Lib.hid hrd
      clear hs hs1 hx hf2 hown hrd
      go_wp2_with (at_builtin
                   refine wpList_append_rd _ rfl (.tmp 13) (.tmp 17) 30 rfl w.heap.size 5 i0 _ 1 Tryz.underlying30 hi0 hz0 hs0 hb0 rfl _ (flatTo ls k).length (bvs (flatTo ls k)) rfl HO.out B A' l.length c' (bvs l) rfl (bvs_length l).symm HQ.out (bvs_one _) (hml.out _ (by omega)) (by omega) hbel.size ?_
                   intro v2 w2 hown2 hg2 hat2)
      refine ⟨⟨k + 1, by omega, by go_num, ?_, hbel.grown hg2 hbel.size (fun i hi => (HO.out.lt i hi).1)⟩, by simp [intOf]; omega⟩
      rw [HS.out, bvs_append, List.length_append]
      exact hown2
    · obtain rfl : k = m := by omega
      have e : flatTo ls k = ls.flatten := by rw [HM.out]; exact hfa.out
      rw [e] at hown
      obtain ⟨A2, cap2, rfl, hrd2⟩ := own_any hown
      have HQ := Lib.hid hrd2
      have HE := Lib.hid (elem_any t ls.flatten A2 ls.flatten.length cap2 _ wr hrd2 rfl (Nat.le_refl _) HL.out)
      clear hk hlt e hown hrd2
      generalize ls.flatten.length = q at *
      go_wp2_with (go_at_call 137; refine (Calls.mono HE.out ?_); rintro e w1 ⟨⟨g1, c1, rfl, hg1, hc1, hrd1⟩, hb1⟩)
      go_ret
      exact ⟨⟨g1, c1, rfl, Nat.le_trans hbel.size hg1, hc1, hrd1⟩, bt hbel hb1⟩
end Go.Proofs.YtfcjeebnkigeaaaGreat.DerR
end

section
set_option linter.unusedVariables false
namespace Go.Proofs.YtfcjeebnkigeaaaGreat.Reg
open Go.RowKit Go.Proofs.YtfcjeebnkigeaaaGreat.Mem
section
variable {P:Program} {ops:Array Oper} {Q:Exit→Act→World→Prop} {md:Region.Mode}
def Eff (P:Program) (md:Region.Mode) (ops:Array Oper) (Q:Exit→Act→World→Prop) (S:World→Prop) (fuel:Nat) (listed:Array Bool) (a:Act) (w:World) (i:Nat):Prop:=
 ∃(dst:Option Tmp) (op:Op) (ty:TypeId) (pos:String) (after:Array _) (guard:Option (Nat×Bool)) (v:Value) (w':World),ops[i]? = some ⟨dst,op,ty,pos,after,guard⟩∧Region.wanted ⟨dst,op,ty,pos,after,guard⟩ (yielded ops a.tmps)=true∧(execOp a.eval ⟨dst,op,ty,pos,after,guard⟩).run P w = .ok (.value v) w'∧S w'∧wpAnyH P md ops Q S fuel (listed.setIfInBounds i true) (a.put dst v) w'
theorem eff_all (is:List Nat) {S:World→Prop} {fuel:Nat} {listed:Array Bool} {a:Act} {w:World} (hr:Region.ready md ops listed=is) (hne:is≠[]) (h:∀j∈is,Eff P md ops Q S fuel listed a w j):wpAnyH P md ops Q S (fuel+1) listed a w:=by
 refine wpAnyH_all hr hne fun j hj=>?_
 obtain⟨dst,op,ty,pos,after,guard,v,w',hi,hw,hx,hs,hh⟩:=h j hj
 unfold wpOp
 simp only[hi]
 rw[if_pos hw]
 left
 unfold Oper.wp
 rw[hx]
 exact⟨hs,hh⟩
end
end Go.Proofs.YtfcjeebnkigeaaaGreat.Reg
end

section
set_option linter.unusedVariables false
namespace Go.Proofs.YtfcjeebnkigeaaaGreat.Ms
open Go.RowKit Go.Proofs.YtfcjeebnkigeaaaGreat.Mem Go.Proofs.YtfcjeebnkigeaaaGreat.DerP
abbrev prV (p:Pr):Value:=.agg #[.string ⟨p.1.toArray⟩,.string ⟨p.2.toArray⟩]
def SlB (w:World) (B:Nat) (v:Value) (l:L):Prop:=∃A c,v = .slice A l.length c∧l.length≤c∧Rd w B A (bvs l)
theorem SlB.keep {w w':World} {B:Nat} {v:Value} {l:L} (h:SlB w B v l) (hb:Below B w w'):SlB w' B v l:=by
 obtain⟨A,c,h1,h2,h3⟩:=h
 exact⟨A,c,h1,h2,h3.below hb⟩
theorem SlB.more {w:World} {B B':Nat} {v:Value} {l:L} (h:SlB w B v l) (hB:B≤B'):SlB w B' v l:=by
 obtain⟨A,c,h1,h2,h3⟩:=h
 exact⟨A,c,h1,h2,h3.more hB⟩
theorem SlB.nil (w:World) (B:Nat):SlB w B (.slice none 0 0) []:=⟨none,0,rfl,Nat.le_refl _,.inl rfl⟩
def prC (p:Pr):List Value:=[.string ⟨p.1.toArray⟩,.string ⟨p.2.toArray⟩]
def tkC (t:Tk) (b:Value):List Value:=[.string ⟨t.s.1.toArray⟩,.string ⟨t.s.2.toArray⟩,.int .i64 t.k,b]
def asC (q:As):List Value:=[.string ⟨q.c.1.toArray⟩,.string ⟨q.c.2.toArray⟩,.string ⟨q.s.1.toArray⟩,.string ⟨q.s.2.toArray⟩,.int .i64 q.t,.int .i64 q.no]
def tgC (q:Tg) (b a:Value):List Value:=tkC q.t b++[a,.string ⟨q.s.1.toArray⟩,.string ⟨q.s.2.toArray⟩,.int .i64 q.u,.int .i64 q.no]
def reC (q:Re) (b d:Value):List Value:=prC q.c++(tkC q.t b++[d])
def apC (q:Ap) (b a:Value):List Value:=tkC q.t b++[a]
def faC (q:Fa):List Value:=[.int .i64 q.e,.int .i64 q.no]
def ptC (p:Pt):List Value:=prC p.c++(bvs p.ss++[.string ⟨p.tr.toArray⟩,.int .i64 p.st,.int .i64 p.en])
def rpC (p:Rp):List Value:=bvs p.ss++(prC p.s++[.int .i64 p.st,.int .i64 p.en,.int .i64 p.no])
structure Six where
 b1:Value
 a1:Value
 b2:Value
 d2:Value
 b3:Value
 a3:Value
structure SixR (w:World) (B:Nat) (m:Mg) (s:Six):Prop where
 b1:SlB w B s.b1 m.tg.t.b
 a1:SlB w B s.a1 m.tg.a
 b2:SlB w B s.b2 m.re.t.b
 d2:SlB w B s.d2 m.re.b
 b3:SlB w B s.b3 m.ap.t.b
 a3:SlB w B s.a3 m.ap.a
theorem SixR.keep {w w':World} {B:Nat} {m:Mg} {s:Six} (h:SixR w B m s) (hb:Below B w w'):SixR w' B m s:=⟨h.b1.keep hb,h.a1.keep hb,h.b2.keep hb,h.d2.keep hb,h.b3.keep hb,h.a3.keep hb⟩
theorem rd_on {w w':World} {A:Option Addr} {l:L} (h:Rd w w.heap.size A (bvs l)) (hb:Below w.heap.size w w'):Rd w' w'.heap.size A (bvs l):=(h.below hb).more hb.size
section
variable {w:World} {t:TypeId} {A1 A2 A3 A4 A5:Option Addr} {l1 l2 l3 l4 l5:L} {c1 c2 c3 c4 c5:Nat}
theorem lay_two (h1:Rd w w.heap.size A1 (bvs l1)) (h2:Rd w w.heap.size A2 (bvs l2)) :
  DerW.Rds (w.alloc (.cells #[.slice A1 l1.length c1,.slice A2 l2.length c2] t)) (w.heap.size+1) (some ⟨w.heap.size,0,none⟩) [l1,l2]:=by
 refine .inr ⟨w.heap.size,0,rfl,by omega,fun i l hi=>?_⟩
 match i,hi with
 |0,hi=>injection hi with hi;subst hi;exact⟨A1,c1,(Blk.new w t _).cell 0,(h1.alloc (Nat.le_refl _) _).more (by omega)⟩
 |1,hi=>injection hi with hi;subst hi;exact⟨A2,c2,(Blk.new w t _).cell 1,(h2.alloc (Nat.le_refl _) _).more (by omega)⟩
 |i+2,hi=>rw[List.getElem?_eq_none (by simp)] at hi;cases hi
theorem lay_three (h1:Rd w w.heap.size A1 (bvs l1)) (h2:Rd w w.heap.size A2 (bvs l2)) (h3:Rd w w.heap.size A3 (bvs l3)) :
  DerW.Rds (w.alloc (.cells #[.slice A1 l1.length c1,.slice A2 l2.length c2,.slice A3 l3.length c3] t)) (w.heap.size+1) (some ⟨w.heap.size,0,none⟩) [l1,l2,l3]:=by
 refine .inr ⟨w.heap.size,0,rfl,by omega,fun i l hi=>?_⟩
 match i,hi with
 |0,hi=>injection hi with hi;subst hi;exact⟨A1,c1,(Blk.new w t _).cell 0,(h1.alloc (Nat.le_refl _) _).more (by omega)⟩
 |1,hi=>injection hi with hi;subst hi;exact⟨A2,c2,(Blk.new w t _).cell 1,(h2.alloc (Nat.le_refl _) _).more (by omega)⟩
 |2,hi=>injection hi with hi;subst hi;exact⟨A3,c3,(Blk.new w t _).cell 2,(h3.alloc (Nat.le_refl _) _).more (by omega)⟩
 |i+3,hi=>rw[List.getElem?_eq_none (by simp)] at hi;cases hi
theorem lay_four (h1:Rd w w.heap.size A1 (bvs l1)) (h2:Rd w w.heap.size A2 (bvs l2)) (h3:Rd w w.heap.size A3 (bvs l3)) (h4:Rd w w.heap.size A4 (bvs l4)) :
  DerW.Rds (w.alloc (.cells #[.slice A1 l1.length c1,.slice A2 l2.length c2,.slice A3 l3.length c3,.slice A4 l4.length c4] t)) (w.heap.size+1) (some ⟨w.heap.size,0,none⟩) [l1,l2,l3,l4]:=by
 refine .inr ⟨w.heap.size,0,rfl,by omega,fun i l hi=>?_⟩
 match i,hi with
 |0,hi=>injection hi with hi;subst hi;exact⟨A1,c1,(Blk.new w t _).cell 0,(h1.alloc (Nat.le_refl _) _).more (by omega)⟩
 |1,hi=>injection hi with hi;subst hi;exact⟨A2,c2,(Blk.new w t _).cell 1,(h2.alloc (Nat.le_refl _) _).more (by omega)⟩
 |2,hi=>injection hi with hi;subst hi;exact⟨A3,c3,(Blk.new w t _).cell 2,(h3.alloc (Nat.le_refl _) _).more (by omega)⟩
 |3,hi=>injection hi with hi;subst hi;exact⟨A4,c4,(Blk.new w t _).cell 3,(h4.alloc (Nat.le_refl _) _).more (by omega)⟩
 |i+4,hi=>rw[List.getElem?_eq_none (by simp)] at hi;cases hi
theorem lay_five (h1:Rd w w.heap.size A1 (bvs l1)) (h2:Rd w w.heap.size A2 (bvs l2)) (h3:Rd w w.heap.size A3 (bvs l3)) (h4:Rd w w.heap.size A4 (bvs l4)) (h5:Rd w w.heap.size A5 (bvs l5)) :
  DerW.Rds (w.alloc (.cells #[.slice A1 l1.length c1,.slice A2 l2.length c2,.slice A3 l3.length c3,.slice A4 l4.length c4,.slice A5 l5.length c5] t)) (w.heap.size+1) (some ⟨w.heap.size,0,none⟩) [l1,l2,l3,l4,l5]:=by
 refine .inr ⟨w.heap.size,0,rfl,by omega,fun i l hi=>?_⟩
 match i,hi with
 |0,hi=>injection hi with hi;subst hi;exact⟨A1,c1,(Blk.new w t _).cell 0,(h1.alloc (Nat.le_refl _) _).more (by omega)⟩
 |1,hi=>injection hi with hi;subst hi;exact⟨A2,c2,(Blk.new w t _).cell 1,(h2.alloc (Nat.le_refl _) _).more (by omega)⟩
 |2,hi=>injection hi with hi;subst hi;exact⟨A3,c3,(Blk.new w t _).cell 2,(h3.alloc (Nat.le_refl _) _).more (by omega)⟩
 |3,hi=>injection hi with hi;subst hi;exact⟨A4,c4,(Blk.new w t _).cell 3,(h4.alloc (Nat.le_refl _) _).more (by omega)⟩
 |4,hi=>injection hi with hi;subst hi;exact⟨A5,c5,(Blk.new w t _).cell 4,(h5.alloc (Nat.le_refl _) _).more (by omega)⟩
 |i+5,hi=>rw[List.getElem?_eq_none (by simp)] at hi;cases hi
end
end Go.Proofs.YtfcjeebnkigeaaaGreat.Ms
end

section
set_option linter.unusedVariables false
namespace Go.Proofs.YtfcjeebnkigeaaaGreat.Kd
open Go.Proofs.YtfcjeebnkigeaaaGreat.Mem Go.Proofs.YtfcjeebnkigeaaaGreat.Se
open Go.Proofs.YtfcjeebnkigeaaaGreat.Nm (krb L)
open Go.Proofs.YtfcjeebnkigeaaaGreat.Rg (It lastI lastN numO)
open Go.Proofs.YtfcjeebnkigeaaaGreat.Ms
open Go.Proofs.YtfcjeebnkigeaaaGreat.DerP (elem encI)
open Go.Proofs.YtfcjeebnkigeaaaGreat.SeL (sealR)
theorem seal_len {p:L} {n:Int} {u:Int} {ks:Nat→UInt8} (hp:p.length≤784) (hn:0≤n) (hn2:n≤1099511627776) (hu:0≤u) (hu2:u≤255):sealR ks u n p=(sealL ks u.toNat n.toNat p,0):=by
 rw[sealR,if_pos ⟨hu,hu2,hn,hn2,hp⟩]
theorem ptE_len {p:Pt} (hk:p.ss.length=32) (hx:ptB p=true):(ptE p).length≤500:=by
 obtain⟨_,h2,h3,_,_⟩:=pt_parts hx
 have l1:=(prE_len h2).1
 have l2:=elem_len 4 p.ss
 have l3:=elem_len 27 p.tr
 have l4:=encI_le p.st
 have l5:=encI_le p.en
 have l6:=elem_len 99 [prE p.c,elem 4 p.ss,elem 27 p.tr,encI p.st,encI p.en].flatten
 have l7:[prE p.c,elem 4 p.ss,elem 27 p.tr,encI p.st,encI p.en].flatten.length=(prE p.c).length+((elem 4 p.ss).length+((elem 27 p.tr).length+((encI p.st).length+(encI p.en).length))):=by simp
 rw[ptE];omega
theorem rpE_len {p:Rp} (hk:p.ss.length=32) (hx:rpB p=true):(rpE p).length≤500:=by
 have h':prB p.s=true∧tmB p.st=true∧tmB p.en=true∧tmB p.no=true:=by simpa [rpB] using hx
 have l1:=(prE_len h'.1).1
 have l2:=elem_len 4 p.ss
 have l4:=encI_le p.st
 have l5:=encI_le p.en
 have l6:=encI_le p.no
 have l7:=elem_len 122 [elem 4 p.ss,prE p.s,encI p.st,encI p.en,encI p.no].flatten
 have l8:[elem 4 p.ss,prE p.s,encI p.st,encI p.en,encI p.no].flatten.length=(elem 4 p.ss).length+((prE p.s).length+((encI p.st).length+((encI p.en).length+(encI p.no).length))):=by simp
 rw[rpE];omega
theorem ptO_yes {p:Pt} (hk:p.ss.length=32) (hx:ptB p=true):ptO p=some (ptE p):=by rw[ptO,limO,if_pos ⟨hx,by have:=ptE_len hk hx;omega⟩]
theorem rpO_yes {p:Rp} (hk:p.ss.length=32) (hx:rpB p=true):rpO p=some (rpE p):=by rw[rpO,limO,if_pos ⟨hx,by have:=rpE_len hk hx;omega⟩]
theorem ptO_no {p:Pt} (hx:ptB p=false):ptO p=none:=by rw[ptO,limO,hx];rfl
theorem rpO_no {p:Rp} (hx:rpB p=false):rpO p=none:=by rw[rpO,limO,hx];rfl
theorem ptO_is {p:Pt} (hk:p.ss.length=32):(ptO p).isSome=ptB p:=by
 cases h:ptB p with
 |true=>rw[ptO_yes hk h];rfl
 |false=>rw[ptO_no h];rfl
theorem rpO_is {p:Rp} (hk:p.ss.length=32):(rpO p).isSome=rpB p:=by
 cases h:rpB p with
 |true=>rw[rpO_yes hk h];rfl
 |false=>rw[rpO_no h];rfl
theorem ans_ok {l:List It} {n:Nat} {c s:Pr} {P:Pt} {no:Int} {ks:Nat→UInt8} {u:Int} (hk:P.ss.length=32) (hp:ptB P=true) (hr:rpB (rpOf P s no)=true) :
  ansL l n c s P no ks u=(0,⟨c,⟨s,lastN l s,(sealR (keyL l s) 2 ((n+1:Nat):Int) (ptE P)).1⟩,(sealR ks u ((n+1+1:Nat):Int) (rpE (rpOf P s no))).1⟩):=by
 have hk2:(rpOf P s no).ss.length=32:=hk
 rw[ansL,ptO_is hk,rpO_is hk2,hp,hr,ptO_yes hk hp,rpO_yes hk2 hr];rfl
end Go.Proofs.YtfcjeebnkigeaaaGreat.Kd
end

section
set_option linter.unusedVariables false
namespace Go.Proofs.YtfcjeebnkigeaaaGreat.Nm
open Go.RowKit Go.Proofs.YtfcjeebnkigeaaaGreat.Mem
def st (l:L):Value:=.string ⟨l.toArray⟩
def strs (ls:List L):List Value:=ls.map st
theorem strs_length (ls:List L):(strs ls).length=ls.length:=by simp [strs]
theorem strs_append (ls ms:List L):strs (ls++ms)=strs ls++strs ms:=by simp [strs]
theorem strs_one (ls:List L):∀u∈strs ls,u.oneCell'=true:=by
 intro u hu
 obtain⟨b,_,rfl⟩:=List.mem_map.1 hu
 rfl
theorem strs_at {ls:List L} {i:Nat} (h:i<ls.length):(strs ls)[i]? = some (st (pl ls i)):=by
 rw[strs,List.getElem?_map,List.getElem?_eq_getElem h,pl_lt h];rfl
theorem str_info:(Tryz.prog.info? 9).map (fun i=>(i.zero,i.size,i.bytes))=some (some (.string ⟨#[]⟩),1,16):=by kernel_rfl
def Own (w:World) (base:Nat) (v:Value) (ls:List L):Prop:=w.ownsRow base 9 1 v ls.length (strs ls)
theorem Own.nil (w:World) (base:Nat):Own w base (.slice none 0 0) []:=World.ownsRow_nil w base _ 1
theorem Own.below {w w':World} {base:Nat} {v:Value} {ls:List L} (h:Own w base v ls) (hb:Below w.heap.size w w'):Own w' base v ls:=own_kept h hb
theorem Own.slice {w:World} {base:Nat} {v:Value} {ls:List L} (h:Own w base v ls):∃A c,v = .slice A ls.length c∧Rd w w.heap.size A (strs ls):=by
 have h':=h
 rcases h.2 with⟨h1,h2⟩ | ⟨g,cap,cur,h1,_⟩
 ·have e:ls = []:=List.eq_nil_of_length_eq_zero h2
  subst e
  exact⟨none,0,h1,.inl rfl⟩
 ·subst h1
  exact⟨_,cap,rfl,Rd.of_own (n:=ls.length) (cap:=cap) h'⟩
theorem Own.lt {w:World} {base:Nat} {v:Value} {ls:List L} (h:Own w base v ls):∀k,v.ownBlock=some k→base≤k∧k<w.heap.size:=World.ownsRow.lt h
theorem rd_txt {w:World} {B:Nat} {A:Option Addr} {ls:List L} (h:Rd w B A (strs ls)) {i:Nat} (hi:i<ls.length):∃b o,A=some ⟨b,o,none⟩∧b<B∧w.cell? ⟨b,o+i,none⟩=some (.string ⟨(pl ls i).toArray⟩):=
 h.at_ (strs_at hi)
section
variable {w:World} {ops:Array Oper} {rest:List Oper} {o:Oper} {a:Act} {Q:Exit→Act→World→Prop}
theorem app_rd (hgd:o.guard=none) (s x:Operand) (ho:o.op = .call {callee:=.builtin .append,args:=#[s,x],argTypes:=#[56,56]})
  (base:Nat) (v:Value) (ls:List L) (hs:a.eval s=v) (hown:Own w base v ls) (B:Nat) (A:Option Addr) (c:Nat) (ms:List L) (hx:a.eval x = .slice A ms.length c) (hr:Rd w B A (strs ms))
  (hl:ls.length+ms.length≤8000000000000) (hb:base≤w.heap.size)
  (h:∀v' w',Own w' base v' (ls++ms)→Below base w w'→wpList Tryz.prog ops Q rest (a.put o.dst v') w'):wpList Tryz.prog ops Q (o :: rest) a w:=by
 obtain⟨i0,hi0,hz0,hs0,hb0⟩:=info_parts str_info
 refine wpList_append_rd w hgd s x 56 ho base 9 i0 _ 16 Tryz.underlying56 hi0 hz0 hs0 hb0 rfl v ls.length (strs ls) hs hown B A ms.length c (strs ms) hx (strs_length _).symm hr (strs_one _) (by unfold maxLen;omega) (by omega) hb ?_
 intro v' w' h1 h2 _
 refine h v' w' (by rw[Own,List.length_append,strs_append];exact h1) ?_
 exact(Below.refl _ _).grown h2 hb (fun k hk=>(hown.lt k hk).1)
theorem app_one (hgd:o.guard=none) (s x:Operand) (ho:o.op = .call {callee:=.builtin .append,args:=#[s,x],argTypes:=#[56,56]})
  (base:Nat) (v:Value) (ls:List L) (hs:a.eval s=v) (hown:Own w base v ls) (r:L) (hx:a.eval x = .slice (some ⟨w.heap.size,0,none⟩) 1 1)
  (hl:ls.length+1≤8000000000000) (hb:base≤w.heap.size)
  (h:∀v' w',Own w' base v' (ls++[r])→Below base w w'→wpList Tryz.prog ops Q rest (a.put o.dst v') w'):wpList Tryz.prog ops Q (o :: rest) a (w.alloc (.cells #[.string ⟨r.toArray⟩] 9)):=by
 refine app_rd hgd s x ho base v ls hs (hown.below ((Below.refl _ _).alloc (Nat.le_refl _) _)) (w.heap.size+1) _ 1 [r] hx ?_ hl (by simp;omega) ?_
 ·refine .inr ⟨w.heap.size,0,rfl,by omega,fun i u hu=>?_⟩
  cases i with
  |zero=>
   simp only[strs,List.map_cons,List.map_nil,List.getElem?_cons_zero,Option.some.injEq] at hu
   subst hu
   exact(Blk.new w 9 _).cell 0
  |succ i=>simp [strs] at hu
 ·intro v' w' h1 h2
  exact h v' w' h1 (((Below.refl _ _).alloc hb _).trans h2)
end
theorem Own.drew {w:World} {base:Nat} {v:Value} {ls:List L} (h:Own w base v ls):Own w.drew base v ls:=h
end Go.Proofs.YtfcjeebnkigeaaaGreat.Nm
end

section
set_option linter.unusedVariables false
namespace Go.Proofs.YtfcjeebnkigeaaaGreat.Tr
open Go.RowKit Go.Proofs.YtfcjeebnkigeaaaGreat.Mem Go.Proofs.YtfcjeebnkigeaaaGreat.Nm
attribute [local go_sem] mk_at List.getElem_cons_zero List.getElem_cons_succ ext_tail ext_drop ext_mid ext_take
theorem suf_drop {p l : L} {k : Nat} (h : l.length = k + p.length) : (l.drop k == p) = sufL p l := by
  rw [Bool.eq_iff_iff, suf_iff, beq_iff_eq]
  constructor
  · intro e
    exact ⟨l.take k, by conv => rhs; rw [← e]
                        exact (List.take_append_drop k l).symm⟩
  · rintro ⟨u, rfl⟩
    have : k = u.length := by simp at h; omega
    rw [this]; simp
theorem suf_len {p l:L} (h:sufL p l=true):p.length≤l.length:=by
 obtain⟨u,rfl⟩:=suf_iff.1 h
 simp
set_option maxHeartbeats 400000 in
theorem hassuffix_any (l p:L) (w:World) (hs:l.length≤1000000000) (hp:p.length≤1000000000):Calls Tryz.prog 293 #[.string ⟨l.toArray⟩,.string ⟨p.toArray⟩] w fun e w'=>
  e = .returned (.bool (sufL p l))∧w=w':=by
 by_cases h:p.length≤l.length
 ·obtain⟨k,hk⟩:∃k,l.length=k+p.length:=⟨l.length - p.length,by omega⟩
  have E:=Lib.hid (suf_drop hk)
  have e1:(p.length:Int)≤(l.length:Int):=by omega
  have e2:(l.length:Int) - (p.length:Int)=(k:Int):=by omega
  have e3:(k:Int)≤(l.length:Int):=by omega
  clear h hk
  go_enter Tryz.func293,Tryz.ntmps293
  go_wp2
  go_ret
  exact⟨by rw[←E.out];rfl,rfl⟩
 ·have E:=Lib.hid (show sufL p l=false by
   cases q:sufL p l with
   |false=>rfl
   |true=>exact absurd (suf_len q) h)
  have e1:¬(p.length:Int)≤(l.length:Int):=by omega
  clear h
  go_enter Tryz.func293,Tryz.ntmps293
  go_wp2
  go_ret
  exact⟨by rw[E.out];rfl,rfl⟩
theorem shassuffix_any (l p:L) (w:World) (hs:l.length≤1000000000) (hp:p.length≤1000000000):Calls Tryz.prog 272 #[.string ⟨l.toArray⟩,.string ⟨p.toArray⟩] w fun e w'=>
  e = .returned (.bool (sufL p l))∧w=w':=by
 have c1:=hassuffix_any l p w hs hp
 go_enter Tryz.func272,Tryz.ntmps272
 go_wp2_with (go_at_call 293;refine Calls.mono c1 ?_;rintro e w1 ⟨rfl,rfl⟩)
 go_ret
 exact⟨rfl,rfl⟩
theorem shasprefix_any (l p:L) (w:World) (hs:l.length≤1000000000) (hp:p.length≤1000000000):Calls Tryz.prog 273 #[.string ⟨l.toArray⟩,.string ⟨p.toArray⟩] w fun e w'=>
  e = .returned (.bool (preB p l))∧w=w':=by
 have c1:Calls Tryz.prog 280 #[.string ⟨l.toArray⟩,.string ⟨p.toArray⟩] w fun e w'=>e = .returned (.bool (preB p l))∧w=w':=hasprefix_any l p w hs hp
 go_enter Tryz.func273,Tryz.ntmps273
 go_wp2_with (go_at_call 280;refine Calls.mono c1 ?_;rintro e w1 ⟨rfl,rfl⟩)
 go_ret
 exact⟨rfl,rfl⟩
def tpL (p l:L):L:=if preB p l then l.drop p.length else l
theorem preB_len {p l:L} (h:preB p l=true):p.length≤l.length:=by
 obtain⟨u,rfl⟩:=preB_iff.1 h
 simp
set_option maxHeartbeats 400000 in
theorem litetrimprefix_any (l p:L) (w:World) (hs:l.length≤1000000000) (hp:p.length≤1000000000):Calls Tryz.prog 294 #[.string ⟨l.toArray⟩,.string ⟨p.toArray⟩] w fun e w'=>
  e = .returned (.string ⟨(tpL p l).toArray⟩)∧w=w':=by
 have c1:Calls Tryz.prog 280 #[.string ⟨l.toArray⟩,.string ⟨p.toArray⟩] w fun e w'=>e = .returned (.bool (preB p l))∧w=w':=hasprefix_any l p w hs hp
 by_cases h:preB p l=true
 ·have h1:=preB_len h
  have E:=Lib.hid (show tpL p l=l.drop p.length by rw[tpL,if_pos h])
  rw[h] at c1
  have e3:(p.length:Int)≤(l.length:Int):=by omega
  clear h h1
  go_enter Tryz.func294,Tryz.ntmps294
  go_wp2_with (go_at_call 280;refine Calls.mono c1 ?_;rintro e w1 ⟨rfl,rfl⟩)
  go_ret
  exact⟨by rw[E.out];rfl,rfl⟩
 ·have h:preB p l=false:=by simpa using h
  have E:=Lib.hid (show tpL p l=l by rw[tpL,if_neg (by simp [h])])
  rw[h] at c1
  clear h
  go_enter Tryz.func294,Tryz.ntmps294
  go_wp2_with (go_at_call 280;refine Calls.mono c1 ?_;rintro e w1 ⟨rfl,rfl⟩)
  go_ret
  exact⟨by rw[E.out];rfl,rfl⟩
theorem trimprefix_any (l p:L) (w:World) (hs:l.length≤1000000000) (hp:p.length≤1000000000):Calls Tryz.prog 274 #[.string ⟨l.toArray⟩,.string ⟨p.toArray⟩] w fun e w'=>
  e = .returned (.string ⟨(tpL p l).toArray⟩)∧w=w':=by
 have c1:=litetrimprefix_any l p w hs hp
 go_enter Tryz.func274,Tryz.ntmps274
 go_wp2_with (go_at_call 294;refine Calls.mono c1 ?_;rintro e w1 ⟨rfl,rfl⟩)
 go_ret
 exact⟨rfl,rfl⟩
def ixL (r:L) (ls:List L):Int:=if r∈ls then ((ls.findIdx fun x=>decide (x=r):Nat):Int) else -1
theorem ix_found {ls:List L} {r:L} {i:Nat} (hi:i<ls.length) (h:pl ls i=r) (hn:∀k,k<i→pl ls k≠r):ixL r ls=(i:Int):=by
 have hm:r∈ls:=by rw[←h];exact pl_mem hi
 rw[ixL,if_pos hm]
 congr 1
 rcases Nat.lt_trichotomy (ls.findIdx fun x=>decide (x=r)) i with g | g | g
 ·have:=List.findIdx_getElem (p:=fun x=>decide (x=r)) (w:=(by omega:(ls.findIdx fun x=>decide (x=r))<ls.length))
  exact absurd (by rw[pl_lt (by omega)];simpa using this) (hn _ g)
 ·exact g
 ·have:=List.not_of_lt_findIdx g
  rw[pl_lt hi] at h
  simp [h] at this
theorem ix_none {ls:List L} {r:L} (hn:∀k,k<ls.length→pl ls k≠r):ixL r ls = -1:=by
 rw[ixL,if_neg]
 intro hm
 obtain⟨i,hi,e⟩:=mem_pl hm
 exact hn i hi e
theorem ix_ge (r:L) (ls:List L):decide (0≤ixL r ls)=decide (r∈ls):=by
 rw[ixL]
 by_cases h:r∈ls
 ·rw[if_pos h];simp [h]
 ·rw[if_neg h];simp [h]
set_option maxHeartbeats 400000 in
theorem sindex_any (ls:List L) (A:Option Addr) (c B:Nat) (r:L) (w:World) (hl:ls.length≤9000000000000000) (hr:Rd w B A (strs ls)) :
  Calls Tryz.prog 146 #[.slice A ls.length c,.string ⟨r.toArray⟩] w fun e w'=>e = .returned (.int .i64 (ixL r ls))∧w=w':=by
 have HR:=Lib.hid hr;clear hr
 obtain⟨n,en⟩:∃n,n=ls.length:=⟨_,rfl⟩
 rw[←en] at hl⊢
 have EN:=Lib.hid en;clear en
 go_enter Tryz.func146,Tryz.ntmps146
 go_wp2
 go_loop [8] (fun iv=>∃i:Nat,i≤n∧iv = .int .i64 (i:Int)∧∀k,k<i→pl ls k≠r) (fun iv=>n - (intOf iv).toNat)
 case atStart=>exact⟨0,Nat.zero_le _,rfl,fun k h=>absurd h (Nat.not_lt_zero k)⟩
 case round=>
  obtain⟨i,hi,rfl,hn⟩:=hrel
  have HN:=Lib.hid hn;clear hn
  by_cases hlt:i<n
  ·have e1:(i:Int)<(n:Int):=by omega
   have e2:(0:Int)≤(i:Int):=by omega
   obtain⟨b,o,rfl,_,h1⟩:=rd_txt HR.out (i:=i) (by rw[←EN.out];exact hlt)
   by_cases hx:pl ls i=r
   ·have t1:(r==pl ls i)=true:=by simpa using hx.symm
    have E:=Lib.hid (ix_found (by rw[←EN.out];exact hlt) hx HN.out)
    clear hx
    go_wp2
    go_ret
    exact⟨by rw[E.out];rfl,rfl⟩
   ·have t1:(r==pl ls i)=false:=by simpa using fun g:r=pl ls i=>hx g.symm
    have HX:=Lib.hid hx;clear hx
    go_wp2
    go_round
    case rel=>exact⟨i+1,by omega,by go_num,fun k hk=>by
     by_cases q:k=i
     ·rw[q];exact HX.out
     ·exact HN.out k (by omega)⟩
    case measure=>simp [intOf];omega
  ·have e1:¬(i:Int)<(n:Int):=by omega
   have E:=Lib.hid (ix_none (ls:=ls) (r:=r) fun k hk=>HN.out k (by have:=EN.out;omega))
   go_wp2
   go_ret
   exact⟨by rw[E.out];rfl,rfl⟩
theorem contains_any (ls:List L) (A:Option Addr) (c B:Nat) (r:L) (w:World) (hl:ls.length≤9000000000000000) (hr:Rd w B A (strs ls)) :
  Calls Tryz.prog 93 #[.slice A ls.length c,.string ⟨r.toArray⟩] w fun e w'=>e = .returned (.bool (decide (r∈ls)))∧w=w':=by
 have c1:=sindex_any ls A c B r w hl hr
 have E:=Lib.hid (ix_ge r ls)
 obtain⟨z,ez⟩:∃z,z=ixL r ls:=⟨_,rfl⟩
 rw[←ez] at c1
 have EZ:=Lib.hid ez;clear ez hr
 go_enter Tryz.func93,Tryz.ntmps93
 go_wp2_with (go_at_call 146;refine Calls.mono c1 ?_;rintro e w1 ⟨rfl,rfl⟩)
 go_ret
 exact⟨by rw[←E.out,←EZ.out];rfl,rfl⟩
end Go.Proofs.YtfcjeebnkigeaaaGreat.Tr
end

section
set_option linter.unusedVariables false
namespace Go.Proofs.YtfcjeebnkigeaaaGreat.Tr
open Go.RowKit Go.Proofs.YtfcjeebnkigeaaaGreat.Mem Go.Proofs.YtfcjeebnkigeaaaGreat.Nm
def Far (w w':World) (v v':Value):Prop:=w.heap.size≤w'.heap.size∧∀b,b<w.heap.size→v.ownBlock≠some b→w'.heap[b]? = w.heap[b]?∧v'.ownBlock≠some b
theorem Far.refl (w:World) (v:Value):Far w w v v:=⟨Nat.le_refl _,fun _ _ h=>⟨rfl,h⟩⟩
theorem Far.trans {w w1 w2:World} {v v1 v2:Value} (h:Far w w1 v v1) (k:Far w1 w2 v1 v2):Far w w2 v v2:=by
 refine⟨Nat.le_trans h.1 k.1,fun b hb hn=>?_⟩
 obtain⟨a1,a2⟩:=h.2 b hb hn
 obtain⟨c1,c2⟩:=k.2 b (Nat.lt_of_lt_of_le hb h.1) a2
 exact⟨c1.trans a1,c2⟩
theorem Far.below {w w':World} (v:Value) (h:Below w.heap.size w w'):Far w w' v v:=⟨h.size,fun b hb hn=>⟨h.block b hb,hn⟩⟩
theorem cell_same {w w':World} {b:Nat} (h:w'.heap[b]? = w.heap[b]?) (o:Nat):w'.cell? ⟨b,o,none⟩=w.cell? ⟨b,o,none⟩:=by
 simp only[World.cell?,h]
def Off (A:Option Addr) (v:Value):Prop:=∀b o,A=some ⟨b,o,none⟩→v.ownBlock≠some b
theorem Far.rd {w w':World} {v v':Value} {A:Option Addr} {xs:List Value} (h:Far w w' v v') (hr:Rd w w.heap.size A xs) (ho:Off A v):Rd w' w'.heap.size A xs∧(xs = []∨Off A v'):=by
 rcases hr with g | ⟨b,o,rfl,hb,hc⟩
 ·exact⟨.inl g,.inl g⟩
 ·obtain⟨h1,h2⟩:=h.2 b hb (ho b o rfl)
  refine⟨.inr ⟨b,o,rfl,Nat.lt_of_lt_of_le hb h.1,fun i u hu=>(cell_same h1 _).trans (hc i u hu)⟩,.inr ?_⟩
  intro b' o' e
  injection e with e
  injection e with e1 e2
  subst e1
  exact h2
section
variable {w:World} {ops:Array Oper} {rest:List Oper} {o:Oper} {a:Act} {Q:Exit→Act→World→Prop}
end
end Go.Proofs.YtfcjeebnkigeaaaGreat.Tr
end

section
set_option linter.unusedVariables false
namespace Go.Proofs.YtfcjeebnkigeaaaGreat.Rt
open Go.RowKit Go.Proofs.YtfcjeebnkigeaaaGreat.Mem Go.Proofs.YtfcjeebnkigeaaaGreat.Nm
def stp (p:Pr):Value:=.agg #[st p.1,st p.2]
def SlV (w:World) (B:Nat) (v:Value) (ls:List L):Prop:=∃A c,v = .slice A ls.length c∧ls.length≤c∧Rd w B A (strs ls)
def RdP (w:World) (B:Nat) (A:Option Addr) (K:List Pr):Prop:=
 K = []∨∃b o,A=some ⟨b,o,none⟩∧b<B∧∀i,i<K.length→w.cell? ⟨b,o+i*2,none⟩=some (.string ⟨(kl K i).1.toArray⟩)∧w.cell? ⟨b,o+i*2+1,none⟩=some (.string ⟨(kl K i).2.toArray⟩)
def SlP (w:World) (B:Nat) (v:Value) (K:List Pr):Prop:=∃A c,v = .slice A K.length c∧K.length≤c∧RdP w B A K
def RdA (w:World) (B:Nat) (A:Option Addr) (P:List Pa):Prop:=
 P = []∨∃b o,A=some ⟨b,o,none⟩∧b<B∧∀i,i<P.length→w.cell? ⟨b,o+i*3,none⟩=some (.string ⟨(al P i).f.toArray⟩)∧w.cell? ⟨b,o+i*3+1,none⟩=some (.string ⟨(al P i).t.toArray⟩)∧
  ∃v,w.cell? ⟨b,o+i*3+2,none⟩=some v∧SlV w B v (al P i).v
def SlA (w:World) (B:Nat) (v:Value) (P:List Pa):Prop:=∃A c,v = .slice A P.length c∧P.length≤c∧RdA w B A P
def TpV (w:World) (B:Nat) (v:Value) (T:Tp):Prop:=∃v1 v2 v3,v = .agg #[v1,v2,v3]∧SlV w B v1 T.R∧SlP w B v2 T.K∧SlA w B v3 T.P
def PaV (w:World) (B:Nat) (v:Value) (p:Pa):Prop:=∃u,v = .agg #[.string ⟨p.f.toArray⟩,.string ⟨p.t.toArray⟩,u]∧SlV w B u p.v
section
variable {w w':World} {B B':Nat} {A:Option Addr} {v:Value} {ls:List L} {K:List Pr} {P:List Pa} {T:Tp} {p:Pa}
theorem SlV.keep (h:SlV w B v ls) (hk:∀b o,b<B→w'.cell? ⟨b,o,none⟩=w.cell? ⟨b,o,none⟩):SlV w' B v ls:=by
 obtain⟨A,c,h1,h2,h3⟩:=h
 exact⟨A,c,h1,h2,h3.keep hk⟩
theorem SlV.more (h:SlV w B v ls) (hB:B≤B'):SlV w B' v ls:=by
 obtain⟨A,c,h1,h2,h3⟩:=h
 exact⟨A,c,h1,h2,h3.more hB⟩
theorem RdP.keep (h:RdP w B A K) (hk:∀b o,b<B→w'.cell? ⟨b,o,none⟩=w.cell? ⟨b,o,none⟩):RdP w' B A K:=by
 rcases h with h | ⟨b,o,h1,h2,h3⟩
 ·exact .inl h
 ·exact .inr ⟨b,o,h1,h2,fun i hi=>⟨(hk _ _ h2).trans (h3 i hi).1,(hk _ _ h2).trans (h3 i hi).2⟩⟩
theorem RdP.more (h:RdP w B A K) (hB:B≤B'):RdP w B' A K:=by
 rcases h with h | ⟨b,o,h1,h2,h3⟩
 ·exact .inl h
 ·exact .inr ⟨b,o,h1,by omega,h3⟩
theorem SlP.keep (h:SlP w B v K) (hk:∀b o,b<B→w'.cell? ⟨b,o,none⟩=w.cell? ⟨b,o,none⟩):SlP w' B v K:=by
 obtain⟨A,c,h1,h2,h3⟩:=h
 exact⟨A,c,h1,h2,h3.keep hk⟩
theorem SlP.more (h:SlP w B v K) (hB:B≤B'):SlP w B' v K:=by
 obtain⟨A,c,h1,h2,h3⟩:=h
 exact⟨A,c,h1,h2,h3.more hB⟩
theorem RdA.keep (h:RdA w B A P) (hk:∀b o,b<B→w'.cell? ⟨b,o,none⟩=w.cell? ⟨b,o,none⟩):RdA w' B A P:=by
 rcases h with h | ⟨b,o,h1,h2,h3⟩
 ·exact .inl h
 ·refine .inr ⟨b,o,h1,h2,fun i hi=>⟨(hk _ _ h2).trans (h3 i hi).1,(hk _ _ h2).trans (h3 i hi).2.1,?_⟩⟩
  obtain⟨v,h4,h5⟩:=(h3 i hi).2.2
  exact⟨v,(hk _ _ h2).trans h4,h5.keep hk⟩
theorem RdA.more (h:RdA w B A P) (hB:B≤B'):RdA w B' A P:=by
 rcases h with h | ⟨b,o,h1,h2,h3⟩
 ·exact .inl h
 ·refine .inr ⟨b,o,h1,by omega,fun i hi=>⟨(h3 i hi).1,(h3 i hi).2.1,?_⟩⟩
  obtain⟨v,h4,h5⟩:=(h3 i hi).2.2
  exact⟨v,h4,h5.more hB⟩
theorem SlA.keep (h:SlA w B v P) (hk:∀b o,b<B→w'.cell? ⟨b,o,none⟩=w.cell? ⟨b,o,none⟩):SlA w' B v P:=by
 obtain⟨A,c,h1,h2,h3⟩:=h
 exact⟨A,c,h1,h2,h3.keep hk⟩
theorem SlA.more (h:SlA w B v P) (hB:B≤B'):SlA w B' v P:=by
 obtain⟨A,c,h1,h2,h3⟩:=h
 exact⟨A,c,h1,h2,h3.more hB⟩
theorem TpV.keep (h:TpV w B v T) (hk:∀b o,b<B→w'.cell? ⟨b,o,none⟩=w.cell? ⟨b,o,none⟩):TpV w' B v T:=by
 obtain⟨v1,v2,v3,h1,h2,h3,h4⟩:=h
 exact⟨v1,v2,v3,h1,h2.keep hk,h3.keep hk,h4.keep hk⟩
theorem TpV.more (h:TpV w B v T) (hB:B≤B'):TpV w B' v T:=by
 obtain⟨v1,v2,v3,h1,h2,h3,h4⟩:=h
 exact⟨v1,v2,v3,h1,h2.more hB,h3.more hB,h4.more hB⟩
theorem PaV.keep (h:PaV w B v p) (hk:∀b o,b<B→w'.cell? ⟨b,o,none⟩=w.cell? ⟨b,o,none⟩):PaV w' B v p:=by
 obtain⟨u,h1,h2⟩:=h
 exact⟨u,h1,h2.keep hk⟩
theorem PaV.more (h:PaV w B v p) (hB:B≤B'):PaV w B' v p:=by
 obtain⟨u,h1,h2⟩:=h
 exact⟨u,h1,h2.more hB⟩
theorem SlV.below (h:SlV w B v ls) (hb:Below B w w'):SlV w' B v ls:=h.keep fun _ _ hp=>hb.cell hp
theorem RdP.below (h:RdP w B A K) (hb:Below B w w'):RdP w' B A K:=h.keep fun _ _ hp=>hb.cell hp
theorem SlP.below (h:SlP w B v K) (hb:Below B w w'):SlP w' B v K:=h.keep fun _ _ hp=>hb.cell hp
theorem RdA.below (h:RdA w B A P) (hb:Below B w w'):RdA w' B A P:=h.keep fun _ _ hp=>hb.cell hp
theorem SlA.below (h:SlA w B v P) (hb:Below B w w'):SlA w' B v P:=h.keep fun _ _ hp=>hb.cell hp
theorem TpV.below (h:TpV w B v T) (hb:Below B w w'):TpV w' B v T:=h.keep fun _ _ hp=>hb.cell hp
theorem PaV.below (h:PaV w B v p) (hb:Below B w w'):PaV w' B v p:=h.keep fun _ _ hp=>hb.cell hp
theorem TpV.on (h:TpV w w.heap.size v T) (hb:Below w.heap.size w w'):TpV w' w'.heap.size v T:=(h.below hb).more hb.size
theorem SlV.on (h:SlV w w.heap.size v ls) (hb:Below w.heap.size w w'):SlV w' w'.heap.size v ls:=(h.below hb).more hb.size
theorem SlP.on (h:SlP w w.heap.size v K) (hb:Below w.heap.size w w'):SlP w' w'.heap.size v K:=(h.below hb).more hb.size
theorem SlA.on (h:SlA w w.heap.size v P) (hb:Below w.heap.size w w'):SlA w' w'.heap.size v P:=(h.below hb).more hb.size
theorem rd_take {i:Nat} (h:Rd w B A (strs ls)) (hi:i≤ls.length):Rd w B A (strs (ls.take i)):=by
 rcases h with h | ⟨b,o,h1,h2,h3⟩
 ·left
  have:ls = []:=List.map_eq_nil_iff.1 h
  subst this;simp [strs]
 ·refine .inr ⟨b,o,h1,h2,fun j u hu=>h3 j u ?_⟩
  simp only[strs,List.map_take,List.getElem?_take] at hu⊢
  split at hu
  ·exact hu
  ·cases hu
theorem kl_take {i j:Nat} (h:j<i) (h2:j<K.length):kl (K.take i) j=kl K j:=by
 rw[kl_lt (by simp;omega),kl_lt h2];simp
theorem rdp_take {i:Nat} (h:RdP w B A K):RdP w B A (K.take i):=by
 rcases h with h | ⟨b,o,h1,h2,h3⟩
 ·subst h;exact .inl (by simp)
 ·refine .inr ⟨b,o,h1,h2,fun j hj=>?_⟩
  simp only[List.length_take] at hj
  rw[kl_take (by omega) (by omega)]
  exact h3 j (by omega)
theorem rdp_at {i:Nat} (h:RdP w B A K) (hi:i<K.length):∃b o,A=some ⟨b,o,none⟩∧b<B∧w.cell? ⟨b,o+i*2,none⟩=some (.string ⟨(kl K i).1.toArray⟩)∧w.cell? ⟨b,o+i*2+1,none⟩=some (.string ⟨(kl K i).2.toArray⟩):=by
 rcases h with h | ⟨b,o,h1,h2,h3⟩
 ·subst h;simp at hi
 ·exact⟨b,o,h1,h2,h3 i hi⟩
theorem rda_at {i:Nat} (h:RdA w B A P) (hi:i<P.length):∃b o,A=some ⟨b,o,none⟩∧b<B∧w.cell? ⟨b,o+i*3,none⟩=some (.string ⟨(al P i).f.toArray⟩)∧w.cell? ⟨b,o+i*3+1,none⟩=some (.string ⟨(al P i).t.toArray⟩)∧
  ∃v,w.cell? ⟨b,o+i*3+2,none⟩=some v∧SlV w B v (al P i).v:=by
 rcases h with h | ⟨b,o,h1,h2,h3⟩
 ·subst h;simp at hi
 ·exact⟨b,o,h1,h2,h3 i hi⟩
end
end Go.Proofs.YtfcjeebnkigeaaaGreat.Rt
end
