import Derived.Test.YtfcjeebnkigeaaaGreatProg
import Derived.Lib.BitFns
import Derived.Lib.Walk
import Derived.Lib.Tables
import Derived.Test.YtfcjeebnkigeaaaGreatZKdcNonces1
import Derived.Test.YtfcjeebnkigeaaaGreatZKdcNonces2
import Derived.Test.YtfcjeebnkigeaaaGreatZKdcNonces7
section
namespace Go.Proofs.YtfcjeebnkigeaaaGreat.DerC
open Go.RowKit Go.Proofs.YtfcjeebnkigeaaaGreat.Mem Go.Proofs.YtfcjeebnkigeaaaGreat.DerP
attribute [local go_sem] mk_at List.getElem_cons_zero List.getElem_cons_succ ext_tail ext_drop ext_mid
def numV (p:Nat×Bool):Value:=.tuple #[.int .i64 (p.1:Int),.bool p.2]
set_option maxRecDepth 100000 in
theorem number_nil (w:World):Calls Tryz.prog 265 #[.string ⟨([]:List UInt8).toArray⟩] w fun e w'=>e = .returned (numV (numR []))∧Drawn w w':=by
 go_enter Tryz.func265,Tryz.ntmps265
 go_wp2
 go_ret2
 exact⟨rfl,Drawn.refl _⟩
set_option maxRecDepth 100000 in
theorem number_long (a:UInt8) (r:L) (h:7<r.length) (hs:(r.length:Int)≤100000) (w:World):Calls Tryz.prog 265 #[.string ⟨(a :: r).toArray⟩] w fun e w'=>e = .returned (numV (numR (a :: r)))∧Drawn w w':=by
 have g1:decide ((8:Int)<(r.length:Int)+1)=true:=by simp;omega
 have E:=Lib.hid (numR_long (a:=a) h)
 clear h
 go_enter Tryz.func265,Tryz.ntmps265
 go_wp2
 go_ret2
 exact⟨by rw[E.out];rfl,Drawn.refl _⟩
set_option maxRecDepth 100000 in
theorem number_high (a:UInt8) (r:L) (h:¬7<r.length) (h2:128≤a.toNat) (w:World):Calls Tryz.prog 265 #[.string ⟨(a :: r).toArray⟩] w fun e w'=>e = .returned (numV (numR (a :: r)))∧Drawn w w':=by
 have g1:decide ((8:Int)<(r.length:Int)+1)=false:=by simp;omega
 have g2:decide ((128:Int)≤(a.toNat:Int))=true:=by simp;omega
 have E:=Lib.hid (numR_high (r:=r) h2)
 have hr:(r.length:Int)≤7:=by omega
 clear h h2
 go_enter Tryz.func265,Tryz.ntmps265
 go_wp2
 go_ret2
 exact⟨by rw[E.out];rfl,Drawn.refl _⟩
set_option maxRecDepth 100000 in
theorem number_lead (a b:UInt8) (r:L) (h:¬7<(b :: r).length) (h2:a.toNat=0) (hb:b.toNat<128) (w:World):Calls Tryz.prog 265 #[.string ⟨(a :: b :: r).toArray⟩] w fun e w'=>e = .returned (numV (numR (a :: b :: r)))∧Drawn w w':=by
 simp only[List.length_cons] at h
 have g1:decide ((8:Int)<(r.length:Int)+1+1)=false:=by simp;omega
 have g2:decide ((128:Int)≤(a.toNat:Int))=false:=by simp;omega
 have g3:((a.toNat:Int)==0)=true:=by simp;omega
 have g4:decide ((b.toNat:Int)<128)=true:=by simp;omega
 have g5:decide ((1:Int)<(r.length:Int)+1+1)=true:=by simp;omega
 have E:=Lib.hid (numR_lead (r:=r) h2 hb)
 have hr:(r.length:Int)≤6:=by omega
 clear h h2 hb
 go_enter Tryz.func265,Tryz.ntmps265
 go_wp2
 go_ret2
 exact⟨by rw[E.out];rfl,Drawn.refl _⟩
set_option maxRecDepth 100000 in
theorem number_loop (s : L) (ha : 0 < s.length) (h8 : s.length ≤ 8) (ge : s.isEmpty = false)
    (a : UInt8) (r : L) (hs : s = a :: r) (h2 : a.toNat < 128) (h3 : ¬ (a.toNat = 0 ∧ headSmall r = true)) (w : World) : Calls Tryz.prog 265 #[.string ⟨s.toArray⟩] w fun e w' => e = .returned (numV (numR s)) ∧ Drawn w w' := by
  subst hs
  have hb : ∀ i, val ((a :: r).take i) < 9223372036854775808 := val_take_lt h2 (by simpa using h8)
  have g2 : decide ((128 : Int) ≤ (a.toNat : Int)) = false := by simp; omega
  have hr : (r.length : Int) ≤ 7 := by simp at h8; omega
  have H3 := Lib.hid h3
  have H2 := Lib.hid h2
  have HB := Lib.hid hb
  have g1 : decide ((8 : Int) < (r.length : Int) + 1) = false := by simp; omega
  clear ge ha h8 hb h2
  have key : decide ((1 : Int) < (r.length : Int) + 1) = false ∨ (decide ((1 : Int) < (r.length : Int) + 1) = true ∧ ((a.toNat : Int) == 0) = false) ∨
      (∃ h : 0 < r.length, decide ((1 : Int) < (r.length : Int) + 1) = true ∧ ((a.toNat : Int) == 0) = true ∧ decide (((r[0]'h).toNat : Int) < 128) = false) := by
    cases r with
    | nil => left; simp
    | cons b q =>
      right
      by_cases h0 : a.toNat = 0
      · right
        have : ¬ headSmall (b :: q) = true := fun g => h3 ⟨h0, g⟩
        simp only [headSmall, decide_eq_true_eq] at this
        refine ⟨by simp, by simp; omega, by simp; omega, ?_⟩
        simp; omega
      · left
        refine ⟨by simp; omega, by simp; omega⟩
  clear h3
  by_cases hbig : 4611686018427387904 < val (a :: r)
  · have B1 : decide ((4611686018427387904 : Int) < ((val (a :: r) : Nat) : Int)) = true := by simp; omega
    have E := Lib.hid (numR_great hbig)
    clear hbig
    rcases key with k1 | ⟨k1, k2⟩ | ⟨k0, k1, k2, k3⟩
    all_goals
      go_enter Tryz.func265, Tryz.ntmps265
      go_wp2
      go_loop [4, 33] (fun n i => ∃ k : Nat, k ≤ r.length + 1 ∧ i = .int .i64 (k : Int) ∧ n = .int .i64 ((val ((a :: r).take k) : Nat) : Int)) (fun _ i => r.length + 1 - (intOf i).toNat)
      case atStart => exact ⟨0, by omega, rfl, rfl⟩
      case round =>
        obtain ⟨k, hk, rfl, rfl⟩ := hrel
        by_cases hlt : k < r.length + 1
        · have hlt' : k < (a :: r).length := by simpa using hlt
          have V := Lib.hid (val_take_snoc (a :: r) k hlt')
          have hx1 := HB.out k
          have hx2 := HB.out (k + 1)
          rw [V.out] at hx2
          have hu := u8_le ((a :: r)[k])
          go_wp2
          refine ⟨⟨k + 1, by omega, by go_num, ?_⟩, by simp [intOf]; omega⟩
          rw [or_low _ _ (by omega) (by omega), V.out]
          go_num
        · obtain rfl : k = r.length + 1 := by omega
          have e : (a :: r).take (r.length + 1) = a :: r := List.take_of_length_le (by simp)
          rw [e]
          clear e hk hlt
          go_wp2
          go_ret2
          exact ⟨by rw [E.out]; rfl, Drawn.refl _⟩
  · have B1 : decide ((4611686018427387904 : Int) < ((val (a :: r) : Nat) : Int)) = false := by simp; omega
    have E := Lib.hid (numR_good (by omega) H2.out H3.out (by omega))
    clear hbig
    rcases key with k1 | ⟨k1, k2⟩ | ⟨k0, k1, k2, k3⟩
    all_goals
      go_enter Tryz.func265, Tryz.ntmps265
      go_wp2
      go_loop [4, 33] (fun n i => ∃ k : Nat, k ≤ r.length + 1 ∧ i = .int .i64 (k : Int) ∧ n = .int .i64 ((val ((a :: r).take k) : Nat) : Int)) (fun _ i => r.length + 1 - (intOf i).toNat)
      case atStart => exact ⟨0, by omega, rfl, rfl⟩
      case round =>
        obtain ⟨k, hk, rfl, rfl⟩ := hrel
        by_cases hlt : k < r.length + 1
        · have hlt' : k < (a :: r).length := by simpa using hlt
          have V := Lib.hid (val_take_snoc (a :: r) k hlt')
          have hx1 := HB.out k
          have hx2 := HB.out (k + 1)
          rw [V.out] at hx2
          have hu := u8_le ((a :: r)[k])
          go_wp2
          refine ⟨⟨k + 1, by omega, by go_num, ?_⟩, by simp [intOf]; omega⟩
          rw [or_low _ _ (by omega) (by omega), V.out]
          go_num
        · obtain rfl : k = r.length + 1 := by omega
          have e : (a :: r).take (r.length + 1) = a :: r := List.take_of_length_le (by simp)
          rw [e]
          clear e hk hlt
          go_wp2
          go_ret2
          exact ⟨by rw [E.out]; rfl, Drawn.refl _⟩
theorem number_any (s:L) (hs:(s.length:Int)≤100000) (w:World):Calls Tryz.prog 265 #[.string ⟨s.toArray⟩] w fun e w'=>e = .returned (numV (numR s))∧Drawn w w':=by
 cases s with
 |nil=>exact number_nil w
 |cons a r=>
  simp only[List.length_cons] at hs
  by_cases h1:7<r.length
  ·exact number_long a r h1 (by omega) w
  ·by_cases h2:128≤a.toNat
   ·exact number_high a r h1 h2 w
   ·by_cases h3:a.toNat=0∧headSmall r=true
    ·obtain⟨h3,h4⟩:=h3
     cases r with
     |nil=>simp [headSmall] at h4
     |cons b q=>exact number_lead a b q h1 h3 (by simpa [headSmall] using h4) w
    ·exact number_loop (a :: r) (by simp) (by simp;omega) rfl a r rfl (by omega) h3 w
end Go.Proofs.YtfcjeebnkigeaaaGreat.DerC
end

section
namespace Go.Proofs.YtfcjeebnkigeaaaGreat.DerC
open Go.RowKit Go.Proofs.YtfcjeebnkigeaaaGreat.Mem Go.Proofs.YtfcjeebnkigeaaaGreat.DerP
attribute [local go_sem] mk_at List.getElem_cons_zero List.getElem_cons_succ ext_tail ext_drop ext_mid
theorem int_any (g : Nat) (c : Option L) (w : World) (h : Cur w g c) (hs : ((c.getD []).length : Int) ≤ 100000) : Calls Tryz.prog 231 #[.pointer (some ⟨g, 0, none⟩)] w fun e w' =>
    e = .returned (.int .i64 ((intC c).1 : Int)) ∧ Cur w' g (intC c).2 ∧ w.grownBy w' (some g) := by
  have ht : ∀ W, Cur W g c → Calls Tryz.prog 244 #[.pointer (some ⟨g, 0, none⟩), .int .u8 2] W fun e w' =>
      e = .returned (.tuple #[.string ⟨((bodyC 2 c).getD []).toArray⟩, .bool (bodyC 2 c).isSome]) ∧ Cur w' g (nextC 2 c) ∧ W.grownBy w' (some g) := fun W hW => take_any 2 g c W hW hs
  have HT := Lib.hid ht; clear ht
  have hbl := (body_len 2 c).1
  cases hb : bodyC 2 c with
  | none =>
    have E := Lib.hid (show intC c = (0, none) by simp only [intC, hb])
    have hn := Lib.hid (body_next 2 c hb)
    rw [hb] at HT
    have HB := Lib.hid hb; clear hb hbl
    go_enter Tryz.func231, Tryz.ntmps231
    go_wp2_with (go_at_call 244; refine (HT.out _ h).mono ?_; rintro e w' ⟨rfl, hc, hg⟩)
    go_ret
    rw [E.out]
    exact ⟨rfl, by rw [← hn.out]; exact hc, hg⟩
  | some b =>
    rw [hb] at HT
    rw [hb] at hbl
    simp only [Option.getD_some] at hbl
    have hn : ∀ W, Calls Tryz.prog 265 #[.string ⟨b.toArray⟩] W fun e w' => e = .returned (numV (numR b)) ∧ Drawn W w' := fun W => number_any b (by omega) W
    cases hx : numL b with
    | none =>
      have E := Lib.hid (show intC c = (0, none) by simp only [intC, hb, hx])
      rw [numR_none hx] at hn
      simp only [numV] at hn
      have HN := Lib.hid hn; clear hn
      have HB := Lib.hid hb; clear hb hbl hx
      go_enter Tryz.func231, Tryz.ntmps231
      go_wp2_with (first
        | (go_at_call 244; refine (HT.out _ h).mono ?_; rintro e w1 ⟨rfl, hc, hg⟩)
        | (go_at_call 265; refine (HN.out _).mono ?_; rintro e w' ⟨rfl, q, rfl⟩)
        | (go_at_call 266; refine (fail_any _ _ _ (hc.drewN q)).mono ?_; rintro e w' ⟨rfl, hc1, hg1⟩))
      go_ret
      rw [E.out]
      exact ⟨rfl, hc1, (g_drewN hg q).trans hg1⟩
    | some n =>
      have E := Lib.hid (show intC c = (n, nextC 2 c) by simp only [intC, hb, hx])
      rw [numR, hx] at hn
      simp only [numV, Option.getD_some, Option.isSome_some] at hn
      have HN := Lib.hid hn; clear hn
      have HB := Lib.hid hb; clear hb hbl hx
      go_enter Tryz.func231, Tryz.ntmps231
      go_wp2_with (first
        | (go_at_call 244; refine (HT.out _ h).mono ?_; rintro e w1 ⟨rfl, hc, hg⟩)
        | (go_at_call 265; refine (HN.out _).mono ?_; rintro e w' ⟨rfl, q, rfl⟩))
      go_ret
      rw [E.out]
      exact ⟨rfl, hc.drewN q, g_drewN hg q⟩
theorem octets_any (g:Nat) (c:Option L) (w:World) (h:Cur w g c) (hs:((c.getD []).length:Int)≤100000):Calls Tryz.prog 246 #[.pointer (some ⟨g,0,none⟩)] w fun e w'=>
  (∃b cap,e = .returned (.slice (some ⟨b,0,none⟩) ((bodyC 4 c).getD []).length cap)∧((bodyC 4 c).getD []).length≤cap∧Fresh w' w.heap.size b ((bodyC 4 c).getD []))∧Cur w' g (nextC 4 c)∧w.grownBy w' (some g):=by
 have hcv:=fun(W:World)=>Lib.run_convert_string_bytes (P:=Tryz.prog) W 9 30 5 ⟨((bodyC 4 c).getD []).toArray⟩ Tryz.underlying9 Tryz.underlying30 Tryz.underlying5
 go_enter Tryz.func246,Tryz.ntmps246
 go_wp2_with (go_at_call 244;refine(take_any 4 g c _ h hs).mono ?_;rintro e w1 ⟨rfl,hc,hg⟩)
 go_ret
 exact⟨⟨_,_,rfl,grownCap_ge _ _ _ _,by have:=bytes_fresh w1 5 ((bodyC 4 c).getD []);exact⟨Nat.le_trans hg.size this.1,this.2⟩⟩,hc.below (bytes_below _ _ _),g_then hg (bytes_below _ _ _)⟩
theorem text_any (g:Nat) (c:Option L) (w:World) (h:Cur w g c) (hs:((c.getD []).length:Int)≤100000):Calls Tryz.prog 230 #[.pointer (some ⟨g,0,none⟩)] w fun e w'=>
  e = .returned (.string ⟨((bodyC 27 c).getD []).toArray⟩)∧Cur w' g (nextC 27 c)∧w.grownBy w' (some g):=by
 have hl:((bodyC 27 c).getD []).length≤1000000000:=by
  have:=(body_len 27 c).1
  omega
 have HL:=Lib.hid hl;clear hl
 go_enter Tryz.func230,Tryz.ntmps230
 go_wp2_with (first
  |(go_at_call 244;refine(take_any 27 g c _ h hs).mono ?_;rintro e w1 ⟨rfl,hc,hg⟩)
  |(go_at_call 94;refine(Nm.clone_any _ _ HL.out).mono ?_;rintro e w2 ⟨rfl,hb⟩))
 go_ret
 exact⟨rfl,hc.below hb,g_then hg hb⟩
end Go.Proofs.YtfcjeebnkigeaaaGreat.DerC
end

section
namespace Go.Proofs.YtfcjeebnkigeaaaGreat.DerLib
open Go.RowKit Go.Proofs.YtfcjeebnkigeaaaGreat.Mem
theorem tab_eq:(⟨((([0,1,2,2,3,3,3,3,4,4,4,4,4,4,4,4,5,5,5,5,5,5,5,5,5,5,5,5,5,5,5,5,6,6,6,6,6,6,6,6,6,6,6,6,6,6,6,6,6,6,6,6,6,6,6,6,6,6,6,6,6,6,6,6]:List UInt8).append [7,7,7,7,7,7,7,7,7,7,7,7,7,7,7,7,7,7,7,7,7,7,7,7,7,7,7,7,7,7,7,7,7,7,7,7,7,7,7,7,7,7,7,7,7,7,7,7,7,7,7,7,7,7,7,7,7,7,7,7,7,7,7,7]).append (([8,8,8,8,8,8,8,8,8,8,8,8,8,8,8,8,8,8,8,8,8,8,8,8,8,8,8,8,8,8,8,8,8,8,8,8,8,8,8,8,8,8,8,8,8,8,8,8,8,8,8,8,8,8,8,8,8,8,8,8,8,8,8,8]:List UInt8).append [8,8,8,8,8,8,8,8,8,8,8,8,8,8,8,8,8,8,8,8,8,8,8,8,8,8,8,8,8,8,8,8,8,8,8,8,8,8,8,8,8,8,8,8,8,8,8,8,8,8,8,8,8,8,8,8,8,8,8,8,8,8,8,8])).toArray⟩:ByteArray)=Lib.len8tab:=by kernel_rfl
theorem at_leaf (m k p:Nat) (x:Int) (hp:p=2 ^ k) (hx:x=((m / p:Nat):Int)) (hs:m / p<256) (hlo:p≤m∨k=0) (hm:m<18446744073709551616) :
  Lib.len8 x+(k:Int)=(Lib.bitLen m:Int)∧Lib.len8 x≤8∧0≤Lib.len8 x:=by
 have l:=Lib.bitLen_le8 ⟨m / p,hs⟩
 have v:=Lib.len8_eq ⟨m / p,hs⟩
 simp only at l v
 rw[hx,v]
 have hb:Lib.bitLen m=k+Lib.bitLen (m / p):=by
  rcases hlo with h | h
  ·rw[hp] at h⊢;exact Lib.bitLen_shift k m h hm
  ·subst h;rw[hp];simp
 omega
set_option maxHeartbeats 4000000 in
theorem len64_any (m:Nat) (w:World) (hm:m<9223372036854775808):Calls Tryz.prog 298 #[.int .u64 (m:Int)] w fun e w'=>e = .returned (.int .i64 (Lib.bitLen m:Int))∧w=w':=by
 by_cases h1:4294967296≤m
 ·by_cases h2:65536≤m / 4294967296
  ·by_cases h3:256≤m / 4294967296 / 65536
   ·have t1:decide ((4294967296:Int)≤(m:Int))=true:=decide_eq_true (by omega)
    have t2:decide ((65536:Int)≤(m:Int) / 4294967296)=true:=decide_eq_true (by omega)
    have t3:decide ((256:Int)≤(m:Int) / 4294967296 / 65536)=true:=decide_eq_true (by omega)
    have AL:=at_leaf m 56 72057594037927936 ((m:Int) / 4294967296 / 65536 / 256 % 256) rfl (by omega) (by omega) (by omega) (by omega)
    have AH:=Lib.hid AL
    clear AL hm h1 h2 h3
    go_enter Tryz.func298,Tryz.ntmps298
    rw[tab_eq]
    go_wp2
    go_ret
    have AL:=AH.out
    refine⟨congrArg Ending.returned (congrArg (Value.int IntKind.i64) ?_),rfl⟩
    (first | (unfold wrap64;omega) | omega | skip)
   ·have t1:decide ((4294967296:Int)≤(m:Int))=true:=decide_eq_true (by omega)
    have t2:decide ((65536:Int)≤(m:Int) / 4294967296)=true:=decide_eq_true (by omega)
    have t3:decide ((256:Int)≤(m:Int) / 4294967296 / 65536)=false:=decide_eq_false (by omega)
    have AL:=at_leaf m 48 281474976710656 ((m:Int) / 4294967296 / 65536 % 256) rfl (by omega) (by omega) (by omega) (by omega)
    have AH:=Lib.hid AL
    clear AL hm h1 h2 h3
    go_enter Tryz.func298,Tryz.ntmps298
    rw[tab_eq]
    go_wp2
    go_ret
    have AL:=AH.out
    refine⟨congrArg Ending.returned (congrArg (Value.int IntKind.i64) ?_),rfl⟩
    (first | (unfold wrap64;omega) | omega | skip)
  ·by_cases h3:256≤m / 4294967296
   ·have t1:decide ((4294967296:Int)≤(m:Int))=true:=decide_eq_true (by omega)
    have t2:decide ((65536:Int)≤(m:Int) / 4294967296)=false:=decide_eq_false (by omega)
    have t3:decide ((256:Int)≤(m:Int) / 4294967296)=true:=decide_eq_true (by omega)
    have AL:=at_leaf m 40 1099511627776 ((m:Int) / 4294967296 / 256 % 256) rfl (by omega) (by omega) (by omega) (by omega)
    have AH:=Lib.hid AL
    clear AL hm h1 h2 h3
    go_enter Tryz.func298,Tryz.ntmps298
    rw[tab_eq]
    go_wp2
    go_ret
    have AL:=AH.out
    refine⟨congrArg Ending.returned (congrArg (Value.int IntKind.i64) ?_),rfl⟩
    (first | (unfold wrap64;omega) | omega | skip)
   ·have t1:decide ((4294967296:Int)≤(m:Int))=true:=decide_eq_true (by omega)
    have t2:decide ((65536:Int)≤(m:Int) / 4294967296)=false:=decide_eq_false (by omega)
    have t3:decide ((256:Int)≤(m:Int) / 4294967296)=false:=decide_eq_false (by omega)
    have AL:=at_leaf m 32 4294967296 ((m:Int) / 4294967296 % 256) rfl (by omega) (by omega) (by omega) (by omega)
    have AH:=Lib.hid AL
    clear AL hm h1 h2 h3
    go_enter Tryz.func298,Tryz.ntmps298
    rw[tab_eq]
    go_wp2
    go_ret
    have AL:=AH.out
    refine⟨congrArg Ending.returned (congrArg (Value.int IntKind.i64) ?_),rfl⟩
    (first | (unfold wrap64;omega) | omega | skip)
 ·by_cases h2:65536≤m
  ·by_cases h3:256≤m / 65536
   ·have t1:decide ((4294967296:Int)≤(m:Int))=false:=decide_eq_false (by omega)
    have t2:decide ((65536:Int)≤(m:Int))=true:=decide_eq_true (by omega)
    have t3:decide ((256:Int)≤(m:Int) / 65536)=true:=decide_eq_true (by omega)
    have AL:=at_leaf m 24 16777216 ((m:Int) / 65536 / 256 % 256) rfl (by omega) (by omega) (by omega) (by omega)
    have AH:=Lib.hid AL
    clear AL hm h1 h2 h3
    go_enter Tryz.func298,Tryz.ntmps298
    rw[tab_eq]
    go_wp2
    go_ret
    have AL:=AH.out
    refine⟨congrArg Ending.returned (congrArg (Value.int IntKind.i64) ?_),rfl⟩
    (first | (unfold wrap64;omega) | omega | skip)
   ·have t1:decide ((4294967296:Int)≤(m:Int))=false:=decide_eq_false (by omega)
    have t2:decide ((65536:Int)≤(m:Int))=true:=decide_eq_true (by omega)
    have t3:decide ((256:Int)≤(m:Int) / 65536)=false:=decide_eq_false (by omega)
    have AL:=at_leaf m 16 65536 ((m:Int) / 65536 % 256) rfl (by omega) (by omega) (by omega) (by omega)
    have AH:=Lib.hid AL
    clear AL hm h1 h2 h3
    go_enter Tryz.func298,Tryz.ntmps298
    rw[tab_eq]
    go_wp2
    go_ret
    have AL:=AH.out
    refine⟨congrArg Ending.returned (congrArg (Value.int IntKind.i64) ?_),rfl⟩
    (first | (unfold wrap64;omega) | omega | skip)
  ·by_cases h3:256≤m
   ·have t1:decide ((4294967296:Int)≤(m:Int))=false:=decide_eq_false (by omega)
    have t2:decide ((65536:Int)≤(m:Int))=false:=decide_eq_false (by omega)
    have t3:decide ((256:Int)≤(m:Int))=true:=decide_eq_true (by omega)
    have AL:=at_leaf m 8 256 ((m:Int) / 256 % 256) rfl (by omega) (by omega) (by omega) (by omega)
    have AH:=Lib.hid AL
    clear AL hm h1 h2 h3
    go_enter Tryz.func298,Tryz.ntmps298
    rw[tab_eq]
    go_wp2
    go_ret
    have AL:=AH.out
    refine⟨congrArg Ending.returned (congrArg (Value.int IntKind.i64) ?_),rfl⟩
    (first | (unfold wrap64;omega) | omega | skip)
   ·have t1:decide ((4294967296:Int)≤(m:Int))=false:=decide_eq_false (by omega)
    have t2:decide ((65536:Int)≤(m:Int))=false:=decide_eq_false (by omega)
    have t3:decide ((256:Int)≤(m:Int))=false:=decide_eq_false (by omega)
    have AL:=at_leaf m 0 1 ((m:Int) % 256) rfl (by omega) (by omega) (by omega) (by omega)
    have AH:=Lib.hid AL
    clear AL hm h1 h2 h3
    go_enter Tryz.func298,Tryz.ntmps298
    rw[tab_eq]
    go_wp2
    go_ret
    have AL:=AH.out
    refine⟨congrArg Ending.returned (congrArg (Value.int IntKind.i64) ?_),rfl⟩
    (first | (unfold wrap64;omega) | omega | skip)
theorem bits_len (m:Nat) (w:World) (hm:m<9223372036854775808):Calls Tryz.prog 281 #[.int .u64 (m:Int)] w fun e w'=>e = .returned (.int .i64 (Lib.bitLen m:Int))∧w=w':=by
 have c1:=len64_any m w hm
 clear hm
 go_enter Tryz.func281,Tryz.ntmps281
 go_wp2_with (go_at_call 298;refine Calls.mono c1 ?_;rintro e w' ⟨rfl,rfl⟩)
 go_ret
 exact⟨rfl,rfl⟩
end Go.Proofs.YtfcjeebnkigeaaaGreat.DerLib
end

section
namespace Go.Proofs.YtfcjeebnkigeaaaGreat.DerW
open Go.RowKit Go.Proofs.YtfcjeebnkigeaaaGreat.Mem Go.Proofs.YtfcjeebnkigeaaaGreat.DerP
theorem u8_info:(Tryz.prog.info? 5).map (fun i=>(i.zero,i.size,i.bytes))=some (some (.int .u8 0),1,1):=by kernel_rfl
def filled (K m j:Nat):Array Value:=(List.replicate j (bv 0)++bvs ((digK K m).drop j)).toArray
theorem filled_start (K m:Nat):filled K m K=zeros K:=by
 rw[filled,List.drop_of_length_le (by rw[length_digK];exact Nat.le_refl _)]
 simp [zeros,bvs]
theorem filled_end (K m:Nat):filled K m 0=(bvs (digK K m)).toArray:=by simp [filled]
theorem filled_set (K m j:Nat) (hj:j<K):(filled K m (j+1)).setIfInBounds j (bv (UInt8.ofNat (m / 256 ^ (K - 1 - j))))=filled K m j:=by
 have h:=drop_step (digK K m) j _ (digK_at K m j hj)
 apply Array.toList_inj.1
 simp only[filled,Array.toList_setIfInBounds]
 rw[h]
 rw[List.set_append_left _ _ (by simp)]
 rw[List.replicate_succ',List.set_append_right _ _ (by simp)]
 simp [bvs]
set_option maxHeartbeats 400000 in
theorem digits_any (m:Nat) (hm:m≤4611686018427387904) (w:World):Calls Tryz.prog 258 #[.int .i64 (m:Int)] w fun e w'=>
  ∃g,e = .returned (.slice (some ⟨g,0,none⟩) (dig m).length (dig m).length)∧w.heap.size≤g∧Blk w' g 5 (bvs (dig m)).toArray∧Below w.heap.size w w':=by
 obtain⟨i0,hi0,hz0,hs0,hb0⟩:=info_parts u8_info
 have hbl:=bitLen_62 m hm
 have hL:(dig m).length=Lib.bitLen m / 8+1:=length_dig m
 have hD:dig m=digK (Lib.bitLen m / 8+1) m:=rfl
 rw[hL,hD]
 have hc:∀W,Calls Tryz.prog 281 #[.int .u64 (m:Int)] W fun e w'=>e = .returned (.int .i64 (Lib.bitLen m:Int))∧W=w':=by
  intro W
  exact DerLib.bits_len m W (by omega)
 clear hL hD
 generalize hq:Lib.bitLen m=q at *
 have hmk:=run_make_bytes (P:=Tryz.prog) Tryz.underlying30 hi0 hz0 hs0 hb0 ((q:Int) / 8+1) (q / 8+1) (by omega) (by omega)
 have HC:=Lib.hid hc;clear hc
 have HQ:=Lib.hid hq;clear hq
 have hm':(m:Int)≤4611686018427387904:=by omega
 have hq':(q:Int)≤63:=by omega
 clear hm hbl hi0 hz0 hs0 hb0
 go_enter Tryz.func258,Tryz.ntmps258
 go_wp2_with (go_at_call 281;refine(HC.out _).mono ?_;rintro e w' ⟨rfl,rfl⟩)
 go_loopw [0,4] (fun n i wr=>∃j:Nat,j≤q / 8+1∧i = .int .i64 ((j:Int) - 1)∧n = .int .i64 ((m / 256 ^ (q / 8+1 - j):Nat):Int)∧Blk wr w.heap.size 5 (filled (q / 8+1) m j)∧Below w.heap.size w wr) (fun _ i _=>(intOf i+1).toNat)
 case atStart=>
  refine⟨q / 8+1,Nat.le_refl _,by congr 1;omega,by simp,?_,(Below.refl _ _).alloc (Nat.le_refl _) _⟩
  rw[filled_start]
  exact Blk.new _ _ _
 case round=>
  obtain⟨j,hj,rfl,rfl,hB,hbel⟩:=hrel
  cases j with
  |zero=>
   have e:((0:Nat):Int) - 1 = -1:=rfl
   rw[e]
   go_wp2
   go_ret
   rw[filled_end] at hB
   exact⟨_,rfl,Nat.le_refl _,hB,hbel⟩
  |succ j=>
   have e:((j+1:Nat):Int) - 1=(j:Int):=by omega
   rw[e]
   clear e
   have hf:=hB.frozen j
   have hset:=hB.set j (bv (UInt8.ofNat (m / 256 ^ (q / 8+1 - 1 - j))))
   rw[filled_set _ _ _ (by omega)] at hset
   have hcell:∃u,(filled (q / 8+1) m (j+1))[j]? = some u:=by
    have:j<(filled (q / 8+1) m (j+1)).size:=by simp [filled,bvs,length_digK];omega
    exact⟨_,Array.getElem?_eq_getElem this⟩
   obtain⟨u,hu⟩:=hcell
   have hcu:=(hB.cell j).trans hu
   have hdiv:m / 256 ^ (q / 8+1 - (j+1))≤m:=Nat.div_le_self _ _
   have hdiv':((m / 256 ^ (q / 8+1 - (j+1)):Nat):Int)≤4611686018427387904:=by omega
   have hnx:=Lib.hid (show m / 256 ^ (q / 8+1 - (j+1)) / 256=m / 256 ^ (q / 8+1 - j) by
    rw[Nat.div_div_eq_div_mul,←Nat.pow_succ];congr 2;omega)
   have hpw:=Lib.hid (show q / 8+1 - 1 - j=q / 8+1 - (j+1) by omega)
   rw[hpw.out] at hset
   generalize m / 256 ^ (q / 8+1 - (j+1))=y at *
   have HS:=Lib.hid hset;clear hset hu
   go_wp2
   refine⟨⟨j,by omega,rfl,?_,?_,hbel.setCell (Nat.le_refl _) _⟩,by simp [intOf]⟩
   ·rw[←hnx.out];rfl
   ·have e:bv (UInt8.ofNat y) = .int .u8 ((y:Int) % 256):=by simp [bv]
    rw[←e]
    exact HS.out
theorem ml (n:Nat) (h:n≤1000000):n≤maxLen:=by unfold maxLen;omega
theorem rd_lit (w:World) (t:TypeId) (cs:Array Value) (l:L) (h:cs.toList=bvs l) (N:Nat) (hN:w.heap.size=N):Rd (w.alloc (.cells cs t)) (N+1) (some ⟨N,0,none⟩) (bvs l):=by
 subst hN
 refine .inr ⟨w.heap.size,0,rfl,by omega,fun i u hu=>?_⟩
 rw[Nat.zero_add,(Blk.new w t cs).cell i]
 rw[←h] at hu
 simpa using hu
theorem byte_nat (n:Nat) (h:n<256):bv (UInt8.ofNat n) = .int .u8 (n:Int):=by simp [bv];omega
set_option maxRecDepth 100000 in
set_option maxHeartbeats 400000 in
theorem head_small (t : UInt8) (n : Nat) (h1 : n < 128) (w : World) : Calls Tryz.prog 257 #[.int .u8 t.toNat, .int .i64 (n : Int)] w fun e w' =>
    ∃ v, e = .returned v ∧ w'.ownsRow w.heap.size 5 1 v (1 + (szL n).length) (bvs (t :: szL n)) ∧ Below w.heap.size w w' := by
  obtain ⟨i0, hi0, hz0, hs0, hb0⟩ := info_parts u8_info
  have hmk := run_make_room (P := Tryz.prog) Tryz.underlying30 hi0 hz0 hs0 hb0 ((n : Int) + 4) (n + 4) (by omega) (by omega)
  have E := Lib.hid (show szL n = [UInt8.ofNat n] by simp [szL, h1])
  have g1 : decide ((n : Int) < 128) = true := by simp; omega
  have hn : (n : Int) ≤ 127 := by omega
  have hown0 : Hid (∀ o, (World.alloc (World.alloc w (.cells (zeros (n + 4)) 5)) o).ownsRow w.heap.size 5 1 (.slice (some ⟨w.heap.size, 0, none⟩) 0 (n + 4)) 0 []) := fun o => (World.ownsRow_made w (zeros (n + 4)) (n + 4) (Nat.le_refl _) (ml _ (by omega)) (by rw [zeros_size]; omega)).alloc o
  have hm1 := Lib.hid (ml 1 (by omega))
  have hm2 := Lib.hid (ml 2 (by omega))
  have hbn := Lib.hid (byte_nat n (by omega))
  clear h1
  go_enter Tryz.func257, Tryz.ntmps257
  go_wp2_with (first
    | (at_builtin
       refine wpList_append_rd _ rfl (.tmp 8) (.tmp 10) 30 rfl w.heap.size 5 i0 _ 1 Tryz.underlying30 hi0 hz0 hs0 hb0 rfl (.slice (some ⟨w.heap.size, 0, none⟩) 0 (n + 4)) 0 [] rfl (hown0.out _) _ _ 1 1 (bvs [t]) rfl rfl (rd_lit _ 5 _ [t] rfl _ (by simp)) (bvs_one _) hm1.out (by omega) (by simp; omega) ?_
       intro v1 w1 hown1 hg1 hat1)
    | (at_builtin
       refine wpList_append_rd _ rfl (.tmp 15) (.tmp 18) 30 rfl w.heap.size 5 i0 _ 1 Tryz.underlying30 hi0 hz0 hs0 hb0 rfl v1 (0 + 1) ([] ++ bvs [t]) rfl (hown1.alloc _) _ _ 1 1 (bvs [UInt8.ofNat n]) rfl rfl (rd_lit w1 5 _ [UInt8.ofNat n] (by simp [bvs, hbn.out]) _ rfl) (bvs_one _) hm2.out (by omega) (by simp; have := hg1.size; simp at this; omega) ?_
       intro v2 w2 hown2 hg2 hat2))
  go_ret
  have b1 : Below w.heap.size w w1 := (((Below.refl w.heap.size w).alloc (Nat.le_refl _) _).alloc (by simp) _).grown hg1 (by simp; omega) (by intro k hk; simp [Value.ownBlock] at hk; omega)
  have b2 := (b1.alloc b1.size _).grown hg2 (by have := b1.size; simp; omega) (fun k hk => (hown1.lt k hk).1)
  exact ⟨v2, rfl, by rw [E.out]; simpa [bvs] using hown2, b2⟩
set_option maxRecDepth 100000 in
set_option maxHeartbeats 400000 in
theorem head_mid (t : UInt8) (n : Nat) (h1 : ¬ n < 128) (h2 : n ≤ 255) (w : World) : Calls Tryz.prog 257 #[.int .u8 t.toNat, .int .i64 (n : Int)] w fun e w' =>
    ∃ v, e = .returned v ∧ w'.ownsRow w.heap.size 5 1 v (1 + (szL n).length) (bvs (t :: szL n)) ∧ Below w.heap.size w w' := by
  obtain ⟨i0, hi0, hz0, hs0, hb0⟩ := info_parts u8_info
  have hmk := run_make_room (P := Tryz.prog) Tryz.underlying30 hi0 hz0 hs0 hb0 ((n : Int) + 4) (n + 4) (by omega) (by omega)
  have E := Lib.hid (show szL n = [129, UInt8.ofNat n] by simp [szL, h1, h2])
  have g1 : decide ((n : Int) < 128) = false := by simp; omega
  have g2 : decide ((n : Int) ≤ 255) = true := by simp; omega
  have hn : (n : Int) ≤ 255 := by omega
  have hown0 : Hid (∀ o, (World.alloc (World.alloc w (.cells (zeros (n + 4)) 5)) o).ownsRow w.heap.size 5 1 (.slice (some ⟨w.heap.size, 0, none⟩) 0 (n + 4)) 0 []) := fun o => (World.ownsRow_made w (zeros (n + 4)) (n + 4) (Nat.le_refl _) (ml _ (by omega)) (by rw [zeros_size]; omega)).alloc o
  have hm1 := Lib.hid (ml 1 (by omega))
  have hm2 := Lib.hid (ml 3 (by omega))
  have hbn := Lib.hid (byte_nat n (by omega))
  clear h1 h2
  go_enter Tryz.func257, Tryz.ntmps257
  go_wp2_with (first
    | (at_builtin
       refine wpList_append_rd _ rfl (.tmp 8) (.tmp 10) 30 rfl w.heap.size 5 i0 _ 1 Tryz.underlying30 hi0 hz0 hs0 hb0 rfl (.slice (some ⟨w.heap.size, 0, none⟩) 0 (n + 4)) 0 [] rfl (hown0.out _) _ _ 1 1 (bvs [t]) rfl rfl (rd_lit _ 5 _ [t] rfl _ (by simp)) (bvs_one _) hm1.out (by omega) (by simp; omega) ?_
       intro v1 w1 hown1 hg1 hat1)
    | (at_builtin
       refine wpList_append_rd _ rfl (.tmp 23) (.tmp 26) 30 rfl w.heap.size 5 i0 _ 1 Tryz.underlying30 hi0 hz0 hs0 hb0 rfl v1 (0 + 1) ([] ++ bvs [t]) rfl (hown1.alloc _) _ _ 2 2 (bvs [129, UInt8.ofNat n]) rfl rfl (rd_lit w1 5 _ [129, UInt8.ofNat n] (by simp [bvs, hbn.out]; rfl) _ rfl) (bvs_one _) hm2.out (by omega) (by simp; have := hg1.size; simp at this; omega) ?_
       intro v2 w2 hown2 hg2 hat2))
  go_ret
  have b1 : Below w.heap.size w w1 := (((Below.refl w.heap.size w).alloc (Nat.le_refl _) _).alloc (by simp) _).grown hg1 (by simp; omega) (by intro k hk; simp [Value.ownBlock] at hk; omega)
  have b2 := (b1.alloc b1.size _).grown hg2 (by have := b1.size; simp; omega) (fun k hk => (hown1.lt k hk).1)
  exact ⟨v2, rfl, by rw [E.out]; simpa [bvs] using hown2, b2⟩
set_option maxRecDepth 100000 in
set_option maxHeartbeats 400000 in
theorem head_big (t : UInt8) (n : Nat) (h1 : ¬ n < 128) (h2 : ¬ n ≤ 255) (h3 : n ≤ 65535) (w : World) : Calls Tryz.prog 257 #[.int .u8 t.toNat, .int .i64 (n : Int)] w fun e w' =>
    ∃ v, e = .returned v ∧ w'.ownsRow w.heap.size 5 1 v (1 + (szL n).length) (bvs (t :: szL n)) ∧ Below w.heap.size w w' := by
  obtain ⟨i0, hi0, hz0, hs0, hb0⟩ := info_parts u8_info
  have hmk := run_make_room (P := Tryz.prog) Tryz.underlying30 hi0 hz0 hs0 hb0 ((n : Int) + 4) (n + 4) (by omega) (by omega)
  have E := Lib.hid (show szL n = [130, UInt8.ofNat (n / 256), UInt8.ofNat n] by simp [szL, h1, h2])
  have g1 : decide ((n : Int) < 128) = false := by simp; omega
  have g2 : decide ((n : Int) ≤ 255) = false := by simp; omega
  have hn : (n : Int) ≤ 65535 := by omega
  have hown0 : Hid (∀ o, (World.alloc (World.alloc w (.cells (zeros (n + 4)) 5)) o).ownsRow w.heap.size 5 1 (.slice (some ⟨w.heap.size, 0, none⟩) 0 (n + 4)) 0 []) := fun o => (World.ownsRow_made w (zeros (n + 4)) (n + 4) (Nat.le_refl _) (ml _ (by omega)) (by rw [zeros_size]; omega)).alloc o
  have hm1 := Lib.hid (ml 1 (by omega))
  have hm2 := Lib.hid (ml 4 (by omega))
  have hbn := Lib.hid (show bvs [130, UInt8.ofNat (n / 256), UInt8.ofNat n] = [.int .u8 130, .int .u8 ((n : Int) / 256), .int .u8 ((n : Int) % 256)] by simp [bvs, bv]; omega)
  clear h1 h2 h3
  go_enter Tryz.func257, Tryz.ntmps257
  go_wp2_with (first
    | (at_builtin
       refine wpList_append_rd _ rfl (.tmp 8) (.tmp 10) 30 rfl w.heap.size 5 i0 _ 1 Tryz.underlying30 hi0 hz0 hs0 hb0 rfl (.slice (some ⟨w.heap.size, 0, none⟩) 0 (n + 4)) 0 [] rfl (hown0.out _) _ _ 1 1 (bvs [t]) rfl rfl (rd_lit _ 5 _ [t] rfl _ (by simp)) (bvs_one _) hm1.out (by omega) (by simp; omega) ?_
       intro v1 w1 hown1 hg1 hat1)
    | (at_builtin
       refine wpList_append_rd _ rfl (.tmp 28) (.tmp 34) 30 rfl w.heap.size 5 i0 _ 1 Tryz.underlying30 hi0 hz0 hs0 hb0 rfl v1 (0 + 1) ([] ++ bvs [t]) rfl (hown1.alloc _) _ _ 3 3 (bvs [130, UInt8.ofNat (n / 256), UInt8.ofNat n]) rfl rfl (rd_lit w1 5 _ [130, UInt8.ofNat (n / 256), UInt8.ofNat n] (by rw [hbn.out]) _ rfl) (bvs_one _) hm2.out (by omega) (by simp; have := hg1.size; simp at this; omega) ?_
       intro v2 w2 hown2 hg2 hat2))
  go_ret
  have b1 : Below w.heap.size w w1 := (((Below.refl w.heap.size w).alloc (Nat.le_refl _) _).alloc (by simp) _).grown hg1 (by simp; omega) (by intro k hk; simp [Value.ownBlock] at hk; omega)
  have b2 := (b1.alloc b1.size _).grown hg2 (by have := b1.size; simp; omega) (fun k hk => (hown1.lt k hk).1)
  exact ⟨v2, rfl, by rw [E.out]; simpa [bvs] using hown2, b2⟩
theorem head_any (t:UInt8) (n:Nat) (h:n≤65535) (w:World):Calls Tryz.prog 257 #[.int .u8 t.toNat,.int .i64 (n:Int)] w fun e w'=>
  ∃v,e = .returned v∧w'.ownsRow w.heap.size 5 1 v (1+(szL n).length) (bvs (t :: szL n))∧Below w.heap.size w w':=by
 by_cases h1:n<128
 ·exact head_small t n h1 w
 ·by_cases h2:n≤255
  ·exact head_mid t n h1 h2 w
  ·exact head_big t n h1 h2 h w
end Go.Proofs.YtfcjeebnkigeaaaGreat.DerW
end

section
namespace Go.Proofs.YtfcjeebnkigeaaaGreat.DerW
open Go.RowKit Go.Proofs.YtfcjeebnkigeaaaGreat.Mem Go.Proofs.YtfcjeebnkigeaaaGreat.DerP
def Rds (w:World) (B:Nat) (A:Option Addr) (ls:List L):Prop:=
 ls = []∨∃b o,A=some ⟨b,o,none⟩∧b<B∧∀i l,ls[i]? = some l→∃A' c',w.cell? ⟨b,o+i,none⟩=some (.slice A' l.length c')∧Rd w B A' (bvs l)
theorem Rds.at_ {w:World} {B:Nat} {A:Option Addr} {ls:List L} (h:Rds w B A ls) {i:Nat} {l:L} (hi:ls[i]? = some l) :
  ∃b o,A=some ⟨b,o,none⟩∧b<B∧∃A' c',w.cell? ⟨b,o+i,none⟩=some (.slice A' l.length c')∧Rd w B A' (bvs l):=by
 rcases h with h | ⟨b,o,h1,h2,h3⟩
 ·subst h;simp at hi
 ·exact⟨b,o,h1,h2,h3 i l hi⟩
theorem Rds.below {w w':World} {B:Nat} {A:Option Addr} {ls:List L} (h:Rds w B A ls) (hb:Below B w w'):Rds w' B A ls:=by
 rcases h with h | ⟨b,o,h1,h2,h3⟩
 ·exact .inl h
 ·refine .inr ⟨b,o,h1,h2,fun i l hl=>?_⟩
  obtain⟨A',c',g1,g2⟩:=h3 i l hl
  exact⟨A',c',(hb.cell (p:=⟨b,o+i,none⟩) h2).trans g1,g2.below hb⟩
theorem flat_snoc (ls:List L) (k:Nat) (l:L) (h:ls[k]? = some l):(ls.take (k+1)).flatten=(ls.take k).flatten++l:=by
 obtain⟨hk,e⟩:=List.getElem?_eq_some_iff.1 h
 rw[List.take_succ_eq_append_getElem hk,e];simp
theorem flat_le (ls:List L) (k:Nat):(ls.take k).flatten.length≤ls.flatten.length:=by
 conv=>rhs;rw[←List.take_append_drop k ls,List.flatten_append,List.length_append]
 omega
def pre (ls:List L) (k:Nat):Nat:=(ls.take k).flatten.length
def built (t:UInt8) (ls:List L) (k:Nat):L:=t :: szL ls.flatten.length++(ls.take k).flatten
theorem pre_succ (ls:List L) (k:Nat) (l:L) (h:ls[k]? = some l):pre ls (k+1)=pre ls k+l.length:=by
 rw[pre,flat_snoc ls k l h,List.length_append];rfl
theorem pre_le (ls:List L) (k:Nat):pre ls k≤ls.flatten.length:=flat_le ls k
theorem pre_all (ls:List L):pre ls ls.length=ls.flatten.length:=by rw[pre,List.take_of_length_le (Nat.le_refl _)]
theorem built_succ (t:UInt8) (ls:List L) (k:Nat) (l:L) (h:ls[k]? = some l):built t ls (k+1)=built t ls k++l:=by
 rw[built,flat_snoc ls k l h,built,List.append_assoc]
theorem built_all (t:UInt8) (ls:List L):built t ls ls.length=elem t ls.flatten:=by
 rw[built,List.take_of_length_le (Nat.le_refl _)];rfl
theorem built_le (t:UInt8) (ls:List L) (k:Nat) (h:ls.flatten.length≤65535):(built t ls k).length≤65539:=by
 have h1:=flat_le ls k
 have h2:=length_szL ls.flatten.length
 have h3:(szL ls.flatten.length).length≤3:=by rw[h2];split<;>(try split)<;>omega
 rw[built,List.length_append,List.length_cons];omega
set_option maxRecDepth 100000 in
set_option maxHeartbeats 1000000 in
theorem wrap_any (t : UInt8) (ls : List L) (A : Option Addr) (m c B : Nat) (w : World) (hr : Rds w B A ls) (hm : m = ls.length) (hB : B ≤ w.heap.size) (hl : ls.flatten.length ≤ 65535) (hc : ls.length ≤ 1000000) :
    Calls Tryz.prog 217 #[.int .u8 t.toNat, .slice A m c] w fun e w' =>
      ∃ v, e = .returned v ∧ w'.ownsRow w.heap.size 5 1 v (elem t ls.flatten).length (bvs (elem t ls.flatten)) ∧ Below w.heap.size w w' := by
  obtain ⟨i0, hi0, hz0, hs0, hb0⟩ := info_parts u8_info
  have hpa := pre_all ls
  have hh : ∀ W, Calls Tryz.prog 257 #[.int .u8 t.toNat, .int .i64 ((pre ls m : Nat) : Int)] W fun e w' =>
    ∃ v, e = .returned v ∧ w'.ownsRow W.heap.size 5 1 v (built t ls 0).length (bvs (built t ls 0)) ∧ Below W.heap.size W w' := by
    intro W
    have := head_any t _ hl W
    have e1 : built t ls 0 = t :: szL ls.flatten.length := by simp [built]
    rw [e1, hm, hpa, List.length_cons, Nat.add_comm]
    exact this
  have HH := Lib.hid hh; clear hh
  have hpl := Lib.hid (fun k => Nat.le_trans (pre_le ls k) hl)
  have hbl := Lib.hid (fun k => built_le t ls k hl)
  have hba := Lib.hid (built_all t ls)
  have hml := Lib.hid ml
  have HR := Lib.hid hr; clear hr
  have hc' : (m : Int) ≤ 1000000 := by omega
  have HM := Lib.hid hm
  clear hm hc hl hpa
  go_enter Tryz.func217, Tryz.ntmps217
  go_wp2
  go_loop [5, 13] (fun n i => ∃ k : Nat, k ≤ m ∧ i = .int .i64 (k : Int) ∧ n = .int .i64 ((pre ls k : Nat) : Int)) (fun _ i => m - (intOf i).toNat)
  case atStart => exact ⟨0, by omega, rfl, rfl⟩
  case round =>
    obtain ⟨k, hk, rfl, rfl⟩ := hrel
    by_cases hlt : k < m
    · obtain ⟨l, hx⟩ : ∃ l, ls[k]? = some l := ⟨_, List.getElem?_eq_getElem (by have := HM.out; omega)⟩
      obtain ⟨b, o, rfl, hb, A', c', hcell, hrd⟩ := HR.out.at_ hx
      have hf1 := hpl.out k
      have hf2 := hpl.out (k + 1)
      have hs := pre_succ ls k l hx
      have HS := Lib.hid hs
      have g1 : decide ((65535 : Int) < ((pre ls k : Nat) : Int) + (l.length : Int)) = false := by simp only [decide_eq_false_iff_not]; omega
      have hll : (l.length : Int) ≤ 65535 := by omega
      have hf1' : ((pre ls k : Nat) : Int) ≤ 65535 := by omega
      clear hs hf1 hf2 hx hrd
      go_wp2
      exact ⟨⟨k + 1, by omega, by go_num, by rw [HS.out]; go_num⟩, by simp [intOf]; omega⟩
    · obtain rfl : k = m := by omega
      clear hk hlt
      go_wp2_with (go_at_call 257; refine (HH.out _).mono ?_; rintro e w1 ⟨v, rfl, hown, hbel⟩)
      go_loopw [8, 29] (fun v i wr => ∃ j : Nat, j ≤ k ∧ i = .int .i64 (j : Int) ∧ wr.ownsRow w.heap.size 5 1 v (built t ls j).length (bvs (built t ls j)) ∧ Below w.heap.size w wr) (fun _ i _ => k - (intOf i).toNat)
      case atStart => exact ⟨0, by omega, rfl, hown, hbel⟩
      case round =>
        obtain ⟨j, hj, rfl, hown1, hbel1⟩ := hrel
        by_cases hlt : j < k
        · obtain ⟨l, hx⟩ : ∃ l, ls[j]? = some l := ⟨_, List.getElem?_eq_getElem (by have := HM.out; omega)⟩
          obtain ⟨b, o, rfl, hb, A', c', hcell, hrd⟩ := (HR.out.below (hbel1.mono hB)).at_ hx
          have hs := built_succ t ls j l hx
          have hf1 := hbl.out j
          have hf2 := hbl.out (j + 1)
          have hs1 := congrArg List.length hs
          rw [List.length_append] at hs1
          have HS := Lib.hid hs
          have hsum : (built t ls j).length + l.length ≤ 65539 := by omega
          have HO := Lib.hid hown1
          have HQ := Lib.hid hrd
          clear hs hs1 hx hf1 hf2 hown1 hrd hown
          go_wp2_with (at_builtin
                       refine wpList_append_rd _ rfl (.tmp 33) (.tmp 34) 30 rfl w.heap.size 5 i0 _ 1 Tryz.underlying30 hi0 hz0 hs0 hb0 rfl _ (built t ls j).length (bvs (built t ls j)) rfl HO.out B A' l.length c' (bvs l) rfl (bvs_length l).symm HQ.out (bvs_one _) (hml.out _ (by omega)) (by omega) hbel1.size ?_
                       intro v2 w2 hown2 hg2 hat2)
          refine ⟨⟨j + 1, by omega, by go_num, ?_, hbel1.grown hg2 hbel1.size (fun i hi => (HO.out.lt i hi).1)⟩, by simp [intOf]; omega⟩
          rw [HS.out, bvs_append, List.length_append]
          exact hown2
        · obtain rfl : j = k := by omega
          clear hj hlt
          go_wp2
          go_ret
          have e : built t ls j = elem t ls.flatten := by rw [HM.out]; exact hba.out
          rw [e] at hown1
          exact ⟨_, rfl, hown1, hbel1⟩
end Go.Proofs.YtfcjeebnkigeaaaGreat.DerW
end

section
namespace Go.Proofs.YtfcjeebnkigeaaaGreat.DerW
open Go.RowKit Go.Proofs.YtfcjeebnkigeaaaGreat.Mem Go.Proofs.YtfcjeebnkigeaaaGreat.DerP
theorem rds_one (w:World) (t:TypeId) (B:Nat) (A:Option Addr) (l:L) (n c:Nat) (hn:n=l.length) (h:Rd w B A (bvs l)) (hB:B≤w.heap.size) :
  Rds (w.alloc (.cells #[.slice A n c] t)) (w.heap.size+1) (some ⟨w.heap.size,0,none⟩) [l]:=by
 subst hn
 refine .inr ⟨w.heap.size,0,rfl,by omega,fun i l' hi=>?_⟩
 have hi0:i=0:=by
  rcases Nat.eq_zero_or_pos i with g | g
  ·exact g
  ·rw[List.getElem?_eq_none (by simp;omega)] at hi;cases hi
 subst hi0
 injection hi with hi
 subst hi
 exact⟨A,c,(Blk.new w t _).cell 0,(h.alloc hB _).more (by omega)⟩
theorem octets_any (l:L) (A:Option Addr) (n c B:Nat) (w:World) (hr:Rd w B A (bvs l)) (hn:n=l.length) (hB:B≤w.heap.size) (hl:l.length≤65535) :
  Calls Tryz.prog 219 #[.slice A n c] w fun e w'=>
   ∃v,e = .returned v∧w'.ownsRow w.heap.size 5 1 v (elem 4 l).length (bvs (elem 4 l))∧Below w.heap.size w w':=by
 have hrs:=rds_one w 30 B A l n c hn hr hB
 have hw:=wrap_any 4 [l] (some ⟨w.heap.size,0,none⟩) 1 1 (w.heap.size+1) (w.alloc (.cells #[.slice A n c] 30)) hrs rfl (by simp) (by simpa using hl) (by simp)
 have e:[l].flatten=l:=by simp
 rw[e] at hw
 have HW:=Lib.hid hw
 clear hw hrs hr hn hl e
 go_enter Tryz.func219,Tryz.ntmps219
 go_wp2_with (go_at_call 217;refine HW.out.mono ?_;rintro e w1 ⟨v,rfl,hown,hbel⟩)
 go_ret
 refine⟨_,rfl,?_,(Below.refl w.heap.size w).alloc (Nat.le_refl _) _ |>.trans (hbel.mono (by simp))⟩
 exact hown.mono (by simp)
theorem int_any (n : Int) (w : World) :
    Calls Tryz.prog 221 #[.int .i64 n] w fun e w' =>
      ∃ v, e = .returned v ∧ w'.ownsRow w.heap.size 5 1 v (encI n).length (bvs (encI n)) ∧ Below w.heap.size w w' := by
  have hd := digits_any (clampN n) (clampN_le n)
  rw [clampN_int] at hd
  have hw : ∀ (W : World) (g : Nat), Blk W g 5 (bvs (dig (clampN n))).toArray → Calls Tryz.prog 217 #[.int .u8 2, .slice (some ⟨W.heap.size, 0, none⟩) 1 1] (W.alloc (.cells #[.slice (some ⟨g, 0, none⟩) (dig (clampN n)).length (dig (clampN n)).length] 30)) fun e w' =>
      ∃ v, e = .returned v ∧ w'.ownsRow W.heap.size 5 1 v (encI n).length (bvs (encI n)) ∧ Below W.heap.size W w' := by
    intro W g hB
    have hr : Rd W W.heap.size (some ⟨g, 0, none⟩) (bvs (dig (clampN n))) := .inr ⟨g, 0, rfl, hB.lt, fun i u hu => by
      rw [Nat.zero_add, hB.cell i]; simpa using hu⟩
    have hrs := rds_one W 30 W.heap.size _ _ _ (dig (clampN n)).length rfl hr (Nat.le_refl _)
    have hd8 := encI_len n
    have h := wrap_any 2 [dig (clampN n)] (some ⟨W.heap.size, 0, none⟩) 1 1 (W.heap.size + 1) _ hrs rfl (by simp) (by simp; omega) (by simp)
    have e : [dig (clampN n)].flatten = dig (clampN n) := by simp
    rw [e] at h
    refine h.mono ?_
    rintro e w' ⟨v, rfl, hown, hbel⟩
    exact ⟨v, rfl, hown.mono (by simp), (Below.refl W.heap.size W).alloc (Nat.le_refl _) _ |>.trans (hbel.mono (by simp))⟩
  have HD := Lib.hid hd
  have HW := Lib.hid hw
  clear hd hw
  go_enter Tryz.func221, Tryz.ntmps221
  go_wp2_with (first
    | (go_at_call 258; refine (HD.out _).mono ?_; rintro e w1 ⟨g, rfl, hg, hB, hbel⟩)
    | (go_at_call 217; refine (HW.out _ _ hB).mono ?_; rintro e w2 ⟨v, rfl, hown, hbel2⟩))
  go_ret
  exact ⟨_, rfl, hown.mono hbel.size, hbel.trans (hbel2.mono hbel.size)⟩
theorem text_any (l : L) (w : World) (hl : l.length ≤ 65535) :
    Calls Tryz.prog 220 #[.string ⟨l.toArray⟩] w fun e w' =>
      ∃ v, e = .returned v ∧ w'.ownsRow w.heap.size 5 1 v (elem 27 l).length (bvs (elem 27 l)) ∧ Below w.heap.size w w' := by
  have hcv := fun (W : World) => Lib.run_convert_string_bytes (P := Tryz.prog) W 9 30 5 ⟨l.toArray⟩ Tryz.underlying9 Tryz.underlying30 Tryz.underlying5
  have hw : ∀ (W : World) (c : Nat), Calls Tryz.prog 217 #[.int .u8 27, .slice (some ⟨W.heap.size + 1, 0, none⟩) 1 1] ((Lib.bytesWorld W 5 ⟨l.toArray⟩).alloc (.cells #[.slice (some ⟨W.heap.size, 0, none⟩) l.length c] 30)) fun e w' =>
      ∃ v, e = .returned v ∧ w'.ownsRow W.heap.size 5 1 v (elem 27 l).length (bvs (elem 27 l)) ∧ Below W.heap.size W w' := by
    intro W c
    have hs := Lib.bytesWorld_size W 5 ⟨l.toArray⟩
    have hr := (bytes_fresh W 5 l).rd
    have hrs := rds_one _ 30 _ _ _ l.length c rfl hr (Nat.le_refl _)
    rw [hs] at hrs
    have h := wrap_any 27 [l] (some ⟨W.heap.size + 1, 0, none⟩) 1 1 (W.heap.size + 1 + 1) _ hrs rfl (by simp [hs]) (by simpa using hl) (by simp)
    have e : [l].flatten = l := by simp
    rw [e] at h
    refine h.mono ?_
    rintro e w' ⟨v, rfl, hown, hbel⟩
    refine ⟨v, rfl, hown.mono (by simp [hs]; omega), ?_⟩
    exact ((bytes_below W _ _).alloc (by rw [hs]; omega) _).trans (hbel.mono (by simp [hs]; omega))
  have HW := Lib.hid hw
  clear hw hl
  have hsz := fun (W : World) => Lib.bytesWorld_size W 5 ⟨l.toArray⟩
  go_enter Tryz.func220, Tryz.ntmps220
  go_wp2_with (go_at_call 217; refine (HW.out _ _).mono ?_; rintro e w2 ⟨v, rfl, hown, hbel2⟩)
  go_ret
  exact ⟨_, rfl, hown, hbel2⟩
end Go.Proofs.YtfcjeebnkigeaaaGreat.DerW
end

section
namespace Go.Proofs.YtfcjeebnkigeaaaGreat.DerK
open Go.RowKit Go.Proofs.YtfcjeebnkigeaaaGreat.Mem Go.Proofs.YtfcjeebnkigeaaaGreat.DerP
attribute [local go_sem] mk_at List.getElem_cons_zero List.getElem_cons_succ
theorem own_slice {w:World} {base n:Nat} {t:TypeId} {v:Value} {l:L} (h:w.ownsRow base t 1 v n (bvs l)) (hl:0<l.length) :
  ∃g cap,v = .slice (some ⟨g,0,none⟩) l.length cap∧base≤g∧l.length≤cap∧Rd w w.heap.size (some ⟨g,0,none⟩) (bvs l):=by
 have hn:n=l.length:=by have:=h.1;rw[bvs_length] at this;omega
 subst hn
 rcases h.2 with⟨_,h2⟩ | ⟨g,cap,cur,rfl,hg,_,hc,_⟩
 ·omega
 ·exact⟨g,cap,rfl,hg,hc,Rd.of_own h⟩
end Go.Proofs.YtfcjeebnkigeaaaGreat.DerK
end

section
set_option linter.unusedVariables false
namespace Go.Proofs.YtfcjeebnkigeaaaGreat.DerR
open Go.RowKit Go.Proofs.YtfcjeebnkigeaaaGreat.Mem Go.Proofs.YtfcjeebnkigeaaaGreat.DerP
def Gives (w:World) (l:L) (e:Ending) (w':World):Prop:=
 (∃g cap,e = .returned (.slice (some ⟨g,0,none⟩) l.length cap)∧w.heap.size≤g∧l.length≤cap∧Rd w' w'.heap.size (some ⟨g,0,none⟩) (bvs l))∧Below w.heap.size w w'
theorem gives_own {w w':World} {v:Value} {n:Nat} {t:TypeId} {l:L} (h:w'.ownsRow w.heap.size t 1 v n (bvs l)) (hl:0<l.length) (hb:Below w.heap.size w w'):Gives w l (.returned v) w':=by
 obtain⟨g,cap,rfl,h1,h2,h3⟩:=DerK.own_slice h hl
 exact⟨⟨g,cap,rfl,h1,h2,h3⟩,hb⟩
theorem gives_lit (w:World) (t:TypeId) (cs:Array Value) (l:L) (h:cs.toList=bvs l) (n:Nat) (hn:n=l.length):Gives w l (.returned (.slice (some ⟨w.heap.size,0,none⟩) n n)) (w.alloc (.cells cs t)):=by
 subst hn
 refine⟨⟨_,_,rfl,Nat.le_refl _,Nat.le_refl _,?_⟩,(Below.refl _ _).alloc (Nat.le_refl _) _⟩
 have:=DerW.rd_lit w t cs l h _ rfl
 simpa using this
theorem size_any (n:Nat) (h:n≤65535) (w:World):Calls Tryz.prog 207 #[.int .i64 (n:Int)] w (Gives w (szL n)):=by
 by_cases h1:n<128
 ·have g1:decide ((n:Int)<128)=true:=by simp;omega
  have E:=Lib.hid (show szL n = [UInt8.ofNat n] by simp [szL,h1])
  have hb:=Lib.hid (DerW.byte_nat n (by omega))
  have hn:(n:Int)≤127:=by omega
  clear h h1
  go_enter Tryz.func207,Tryz.ntmps207
  go_wp2
  go_ret
  rw[E.out]
  exact gives_lit w 5 _ _ (by simp [bvs,hb.out]) _ rfl
 ·have g1:decide ((n:Int)<128)=false:=by simp;omega
  by_cases h2:n≤255
  ·have g2:decide ((n:Int)<256)=true:=by simp;omega
   have E:=Lib.hid (show szL n = [129,UInt8.ofNat n] by simp [szL,h1,h2])
   have hb:=Lib.hid (DerW.byte_nat n (by omega))
   have hn:(n:Int)≤255:=by omega
   clear h h1 h2
   go_enter Tryz.func207,Tryz.ntmps207
   go_wp2
   go_ret
   rw[E.out]
   exact gives_lit w 5 _ _ (by simp [bvs,hb.out];rfl) _ rfl
  ·have g2:decide ((n:Int)<256)=false:=by simp;omega
   have E:=Lib.hid (show szL n = [130,UInt8.ofNat (n / 256),UInt8.ofNat n] by simp [szL,h1,h2])
   have hb:=Lib.hid (show bvs [130,UInt8.ofNat (n / 256),UInt8.ofNat n] = [.int .u8 130,.int .u8 ((n:Int) / 256),.int .u8 ((n:Int) % 256)] by simp [bvs,bv];omega)
   have hn:(n:Int)≤65535:=by omega
   clear h h1 h2
   go_enter Tryz.func207,Tryz.ntmps207
   go_wp2
   go_ret
   rw[E.out]
   exact gives_lit w 5 _ _ (by rw[hb.out]) _ rfl
theorem szL_le (n:Nat):(szL n).length≤3:=by rw[length_szL];split<;>(try split)<;>omega
theorem elem_any (t : UInt8) (p : L) (A : Option Addr) (n c B : Nat) (w : World) (hr : Rd w B A (bvs p)) (hn : n = p.length) (hB : B ≤ w.heap.size) (hp : p.length ≤ 65535) :
    Calls Tryz.prog 137 #[.int .u8 t.toNat, .slice A n c] w (Gives w (elem t p)) := by
  obtain ⟨i0, hi0, hz0, hs0, hb0⟩ := info_parts DerW.u8_info
  have hsz : ∀ W : World, Calls Tryz.prog 207 #[.int .i64 (n : Int)] W (Gives W (szL n)) := fun W => size_any n (by omega) W
  have HS := Lib.hid hsz
  have HR := Lib.hid hr
  have HN := Lib.hid hn
  have HP := Lib.hid hp
  have h3 := Lib.hid (szL_le n)
  have hml := Lib.hid DerW.ml
  have hown0 : Hid ((w.alloc (.cells #[.int .u8 (t.toNat : Int)] 5)).ownsRow w.heap.size 5 1 (.slice (some ⟨w.heap.size, 0, none⟩) 1 1) 1 (bvs [t])) := World.ownsRow_lit w #[.int .u8 (t.toNat : Int)] 1 (Nat.le_refl _) (DerW.ml 1 (by omega)) rfl
  clear hsz hr hn hp
  go_enter Tryz.func137, Tryz.ntmps137
  go_wp2_with (first
    | (go_at_call 207; refine (HS.out _).mono ?_; rintro e w1 ⟨⟨g1, c1, rfl, hg1, hc1, hrd1⟩, hb1⟩
       have hB1 : Below w.heap.size w w1 := ((Below.refl w.heap.size w).alloc (Nat.le_refl _) _).trans (hb1.mono (by simp))
       have HO1 := Lib.hid (own_kept hown0.out hb1)
       have HQ1 := Lib.hid hrd1
       clear hrd1)
    | (at_builtin
       refine wpList_append_rd _ rfl (.tmp 6) (.tmp 9) 30 rfl w.heap.size 5 i0 _ 1 Tryz.underlying30 hi0 hz0 hs0 hb0 rfl (.slice (some ⟨w.heap.size, 0, none⟩) 1 1) 1 (bvs [t]) rfl HO1.out w1.heap.size _ (szL n).length c1 (bvs (szL n)) rfl (bvs_length _).symm HQ1.out (bvs_one _) (hml.out _ (by have := h3.out; omega)) (by have := h3.out; omega) hB1.size ?_
       intro v2 w2 hown2 hg2 hat2
       have hB2 := hB1.grown hg2 hB1.size (fun k hk => (HO1.out.lt k hk).1)
       have HO2 := Lib.hid hown2
       clear hown2 hat2)
    | (at_builtin
       refine wpList_append_rd _ rfl (.tmp 10) (.tmp 11) 30 rfl w.heap.size 5 i0 _ 1 Tryz.underlying30 hi0 hz0 hs0 hb0 rfl v2 (1 + (szL n).length) (bvs [t] ++ bvs (szL n)) rfl HO2.out B A n c (bvs p) rfl (by rw [bvs_length]; exact HN.out) (HR.out.below (hB2.mono hB)) (bvs_one _) (hml.out _ (by have := h3.out; have := HN.out; have := HP.out; omega)) (by have := h3.out; have := HN.out; have := HP.out; omega) hB2.size ?_
       intro v3 w3 hown3 hg3 hat3
       have hB3 := hB2.grown hg3 hB2.size (fun k hk => (HO2.out.lt k hk).1)
       have HO3 := Lib.hid hown3
       clear hown3 hat3))
  go_ret
  have hown := HO3.out
  rw [HN.out, ← bvs_append, ← bvs_append, show [t] ++ szL p.length ++ p = elem t p from rfl] at hown
  exact gives_own hown (by rw [length_elem]; omega) hB3
theorem octets_any (p:L) (A:Option Addr) (n c B:Nat) (w:World) (hr:Rd w B A (bvs p)) (hn:n=p.length) (hB:B≤w.heap.size) (hp:p.length≤65535) :
  Calls Tryz.prog 91 #[.slice A n c] w (Gives w (elem 4 p)):=by
 have H:=Lib.hid (elem_any 4 p A n c B w hr hn hB hp)
 clear hr hn hB hp
 go_enter Tryz.func91,Tryz.ntmps91
 go_wp2_with (go_at_call 137;refine(Calls.mono H.out ?_);rintro e w1 ⟨⟨g1,c1,rfl,hg1,hc1,hrd1⟩,hb1⟩)
 go_ret
 exact⟨⟨g1,c1,rfl,hg1,hc1,hrd1⟩,hb1⟩
end Go.Proofs.YtfcjeebnkigeaaaGreat.DerR
end
