import Derived.Laws.StructEq
import Derived.Deep.LoopGhost
import Derived.Deep.CutBlock
import Derived.Deep.RegionHeld3
import Derived.Test.YtcjibpjdfhhhkaaZRingNumbers1
import Derived.Test.YtcjibpjdfhhhkaaZRingNumbers2
import Derived.Test.YtcjibpjdfhhhkaaZRingNumbers3
import Derived.Test.YtcjibpjdfhhhkaaZRingNumbers4
import Derived.Test.YtcjibpjdfhhhkaaZRingNumbers5
section
set_option linter.unusedVariables false
set_option linter.unusedSimpArgs false
namespace Go.Proofs.Ytcjibpjdfhhhkaa.Rg
open Go.RowKit Go.Proofs.Ytcjibpjdfhhhkaa.Mem Go.Proofs.Ytcjibpjdfhhhkaa.Se

theorem eql_pr (x y : Pr) (w : World) : (Op.equalIn 10000 25 (.agg #[.string ⟨x.1.toArray⟩, .string ⟨x.2.toArray⟩]) (.agg #[.string ⟨y.1.toArray⟩, .string ⟨y.2.toArray⟩])).run Try.prog w = .ok (decide (x = y)) w := by
  obtain ⟨a, b⟩ := x
  obtain ⟨c, d⟩ := y
  simp only
  by_cases h0 : a = c
  · subst h0
    by_cases h1 : b = d
    · subst h1
      rw [decide_eq_true rfl]
      go_simp
    · rw [decide_eq_false (fun h => h1 (congrArg (fun z => z.2) h))]
      go_simp
  · rw [decide_eq_false (fun h => h0 (congrArg (fun z => z.1) h))]
    go_simp
theorem eql_pr_yes {x y : Pr} (h : x = y) : ∀ w, (Op.equalIn 10000 25 (.agg #[.string ⟨x.1.toArray⟩, .string ⟨x.2.toArray⟩]) (.agg #[.string ⟨y.1.toArray⟩, .string ⟨y.2.toArray⟩])).run Try.prog w = .ok true w := fun w => by rw [eql_pr, decide_eq_true h]
theorem eql_pr_no {x y : Pr} (h : x ≠ y) : ∀ w, (Op.equalIn 10000 25 (.agg #[.string ⟨x.1.toArray⟩, .string ⟨x.2.toArray⟩]) (.agg #[.string ⟨y.1.toArray⟩, .string ⟨y.2.toArray⟩])).run Try.prog w = .ok false w := fun w => by rw [eql_pr, decide_eq_false h]
theorem ent_info : (Try.prog.info? 60).map (·.size) = some 36 := by kernel_rfl
theorem pr_info : (Try.prog.info? 25).map (·.size) = some 2 := by kernel_rfl
def zeroE : Array Value := #[.string ⟨#[]⟩, .string ⟨#[]⟩, .int .i64 0, .int .u8 0, .int .u8 0, .int .u8 0, .int .u8 0, .int .u8 0, .int .u8 0, .int .u8 0, .int .u8 0, .int .u8 0, .int .u8 0, .int .u8 0, .int .u8 0, .int .u8 0, .int .u8 0, .int .u8 0, .int .u8 0, .int .u8 0, .int .u8 0, .int .u8 0, .int .u8 0, .int .u8 0, .int .u8 0, .int .u8 0, .int .u8 0, .int .u8 0, .int .u8 0, .int .u8 0, .int .u8 0, .int .u8 0, .int .u8 0, .int .u8 0, .int .u8 0, .pointer none]
def eA (e : Ent) : Array Value := (eC e).toArray
theorem eA_size (e : Ent) : (eA e).size = 36 := by simp [eA, eC_length]
theorem eA_one (e : Ent) : (eA e).all (·.oneCell') = true := by
  rw [Array.all_eq_true_iff_forall_mem]
  intro u hu
  exact eC_one e u (by simpa [eA] using hu)
theorem eA_toList (e : Ent) : (eA e).toList = eC e := by simp [eA]
theorem eA_pr {w : World} {g : Nat} {t : TypeId} {e : Ent} (h : Blk w g t (eA e)) : w.rangeAt g 0 (#[.string ⟨e.it.p.1.toArray⟩, .string ⟨e.it.p.2.toArray⟩] : Array Value).toList :=
  Wh.range_at (pre := []) (post := (eC e).drop 2) h (by rw [eA_toList]; rfl) 0 rfl
theorem eA_n {w : World} {g : Nat} {t : TypeId} {e : Ent} (h : Blk w g t (eA e)) : w.cell? ⟨g, 2, none⟩ = some (.int .i64 (e.it.n : Int)) := by
  rw [h.cell, eA, List.getElem?_toArray]; rfl
theorem eA_b {w : World} {g : Nat} {t : TypeId} {e : Ent} (h : Blk w g t (eA e)) : w.cell? ⟨g, 35, none⟩ = some (.pointer (some ⟨e.b, 0, none⟩)) := by
  rw [h.cell, eA, List.getElem?_toArray, eC, List.getElem?_append_right (by simp [iC_length]), iC_length]; rfl
def entC (es : List Ent) : Option Nat → Array Value
  | none => zeroE
  | some j => match es[j]? with
    | some e => eA e
    | none => zeroE
theorem entC_some {es : List Ent} {j : Nat} : entC es (some j) = match es[j]? with
    | some e => eA e
    | none => zeroE := rfl
theorem entC_cases (es : List Ent) (o : Option Nat) : entC es o = zeroE ∨ ∃ e, entC es o = eA e := by
  cases o with
  | none => exact .inl rfl
  | some j =>
    rw [entC_some]
    cases es[j]? with
    | none => exact .inl rfl
    | some e => exact .inr ⟨e, rfl⟩
theorem entC_size (es : List Ent) (o : Option Nat) : (entC es o).size = 36 := by
  rcases entC_cases es o with h | ⟨e, h⟩
  · rw [h]; rfl
  · rw [h]; exact eA_size _
theorem zeroE_one : zeroE.all (·.oneCell') = true := by
  have h : ∀ u ∈ zeroE.toList, u.oneCell' = true := by
    unfold zeroE
    simp only [List.forall_mem_cons]
    simp [Value.oneCell']
  rw [Array.all_eq_true_iff_forall_mem]
  exact fun u hu => h u (Array.mem_def.1 hu)
theorem entC_one (es : List Ent) (o : Option Nat) : (entC es o).all (·.oneCell') = true := by
  rcases entC_cases es o with h | ⟨e, h⟩
  · rw [h]; exact zeroE_one
  · rw [h]; exact eA_one _
theorem entC_at {es : List Ent} {i : Nat} {e : Ent} (h : es[i]? = some e) : entC es (some i) = eA e := by simp [entC, h]
theorem lastTo_hit {es : List Ent} {i : Nat} {e : Ent} {p : Pr} (h : es[i]? = some e) (hp : e.it.p = p) : lastTo (its es) p (i + 1) = some i := by
  rw [lastTo, if_pos (by rw [its_at h, ← hp]; rfl)]
theorem lastTo_miss {es : List Ent} {i : Nat} {e : Ent} {p : Pr} (h : es[i]? = some e) (hp : e.it.p ≠ p) : lastTo (its es) p (i + 1) = lastTo (its es) p i := by
  rw [lastTo, if_neg]
  rw [its_at h]
  intro x
  injection x with x
  exact hp x

set_option maxHeartbeats 1600000 in
theorem last_any (B r : Nat) (v : Value) (es : List Ent) (p : Pr) (w : World) (h : Ring w B r v es) (hl : es.length ≤ 1000) :
    Calls Try.prog 20 #[.pointer (some ⟨r, 0, none⟩), prV p] w fun e w' => e = .returned (.agg (entC es (lastI (its es) p))) ∧ Below w.heap.size w w' := by
  obtain ⟨A, c, rfl, hc, hm, hr⟩ := h.num
  have hlast : lastI (its es) p = lastTo (its es) p es.length := by rw [lastI, its_length]
  rw [hlast]
  have hb0 := h.blk
  obtain ⟨n, en⟩ : ∃ n, n = es.length := ⟨_, rfl⟩
  rw [← en] at hb0 hc hl ⊢
  have k0 : w.cell? ⟨r, 0, none⟩ = some (.slice A n c) := hb0.cell 0
  have hrl := hb0.lt
  have HB0 := Lib.hid hb0; clear hb0
  have HR := Lib.hid hr; clear hr
  have EN := Lib.hid en; clear en hlast h
  obtain ⟨W, eW⟩ : ∃ W, W = ((w.alloc (.cells #[.string ⟨p.1.toArray⟩, .string ⟨p.2.toArray⟩] 25)).alloc (.cells zeroE 60)).alloc (.cells zeroE 60) := ⟨_, rfl⟩
  have hb : Below w.heap.size w W := eW ▸ (((Below.refl _ _).alloc (Nat.le_refl _) _).alloc (by simp) _).alloc (by simp; omega) _
  have HP := Lib.hid (show Blk W w.heap.size 25 #[.string ⟨p.1.toArray⟩, .string ⟨p.2.toArray⟩] from eW ▸ ((Blk.new w _ _).alloc _).alloc _)
  have HRES := Lib.hid (show Blk W (w.heap.size + 1) 60 zeroE by have := Blk.new (w.alloc (.cells #[.string ⟨p.1.toArray⟩, .string ⟨p.2.toArray⟩] 25)) 60 zeroE; simp only [World.size_alloc] at this; exact eW ▸ this.alloc _)
  have HLA := Lib.hid (show Blk W (w.heap.size + 1 + 1) 60 zeroE by have := Blk.new ((w.alloc (.cells #[.string ⟨p.1.toArray⟩, .string ⟨p.2.toArray⟩] 25)).alloc (.cells zeroE 60)) 60 zeroE; simp only [World.size_alloc] at this; exact eW ▸ this)
  have HB := Lib.hid hb
  replace k0 : W.cell? ⟨r, 0, none⟩ = some (.slice A n c) := (hb.cell (p := ⟨r, 0, none⟩) hrl).trans k0
  replace HR := Lib.hid ((HR.out.keep hb))
  clear hb
  go_enter Try.func20, Try.ntmps20
  go_upto_region 2 with fail
  change Code.wp _ _ _ _ (((w.alloc (.cells #[.string ⟨p.1.toArray⟩, .string ⟨p.2.toArray⟩] 25)).alloc (.cells zeroE 60)).alloc (.cells zeroE 60))
  rw [← eW]
  obtain ⟨N, eN⟩ : ∃ N, N = w.heap.size := ⟨_, rfl⟩
  rw [← eN] at HP HRES HLA HB HR hrl ⊢
  have EN2 := Lib.hid eN
  clear eW eN
  go_wp2
  go_loopw [13] (fun iv wr => ∃ i : Nat, i ≤ n ∧ iv = .int .i64 (i : Int) ∧ Below N w wr ∧ Blk wr N 25 #[.string ⟨p.1.toArray⟩, .string ⟨p.2.toArray⟩] ∧ Blk wr (N + 1) 60 zeroE ∧ Blk wr (N + 1 + 1) 60 (entC es (lastTo (its es) p i)) ∧ RdR wr N A eC 36 es) (fun iv _ => n - (intOf iv).toNat)
  case atStart => exact ⟨0, Nat.zero_le _, rfl, HB.out, HP.out, HRES.out, HLA.out, HR.out⟩
  case round =>
    clear HB HP HRES HLA HR k0
    obtain ⟨i, hi, rfl, hb, hp, hres, hla, hr⟩ := hrel
    have HB := Lib.hid hb; have HP := Lib.hid hp; have HRES := Lib.hid hres; have HLA := Lib.hid hla
    have HSZ := Lib.hid hla.lt
    by_cases hlt : i < n
    · have e1 : (i : Int) < (n : Int) := by omega
      have e2 : (0 : Int) ≤ (i : Int) := by omega
      obtain ⟨x, hx⟩ : ∃ x, es[i]? = some x := ⟨es[i]'(by rw [← EN.out]; exact hlt), List.getElem?_eq_getElem _⟩
      obtain ⟨g, rfl, hgN, hra⟩ := hr.at_ hx
      have HR := Lib.hid hr
      rw [← eA_toList] at hra
      have HRA := Lib.hid hra
      have ha1 := eA_one x
      have HA1 := Lib.hid ha1
      have his := ent_info
      rw [← eA_size x] at his
      have HIS := Lib.hid his
      have HX := Lib.hid hx
      have kp0 := hp.cell 0
      have kp1 := hp.cell 1
      obtain ⟨cs, ecs⟩ : ∃ cs, cs = eA x := ⟨_, rfl⟩
      rw [← ecs] at HRA HA1 HIS
      have ECS := Lib.hid ecs
      clear hra ha1 his hx hr hb hp hres hla ecs kp0 kp1
      by_cases hq : x.it.p = p
      · have t1 := eql_pr_yes hq
        have HQ := Lib.hid hq; clear hq
        go_wp2_with (first
          | (refine Wh.load_g (by rfl) 60 (.tmp 15) (by rfl) g _ (by rfl) cs _ HRA.out Try.underlying60 (by rfl) HIS.out ?_)
          | (refine Wh.store_new (by rfl) 60 (.tmp 7) (.tmp 16) (by rfl) 60 rfl cs (by rfl) (by rfl) (by rw [ECS.out, eA_size]; rfl) HIS.out HA1.out ?_; rintro V hV hb; have HV := Lib.hid hV; replace HB := Lib.hid (HB.out.trans (hb.mono (by have := HSZ.out; omega))); replace HP := Lib.hid (HP.out.below hb); replace HRES := Lib.hid (HRES.out.below hb); replace HLA := Lib.hid (HLA.out.below hb); replace HR := Lib.hid (HR.out.keep (hb.mono (by have := HSZ.out; omega))); have kp0 : V.cell? ⟨N, 0, none⟩ = some (.string ⟨p.1.toArray⟩) := HP.out.cell 0; have kp1 : V.cell? ⟨N, 1, none⟩ = some (.string ⟨p.2.toArray⟩) := HP.out.cell 1; have HPR := Lib.hid (eA_pr (ECS.out ▸ hV)); have HNG := Lib.hid (Nat.lt_of_lt_of_le HSZ.out (Nat.le_refl _)); clear hV hb)
          | (refine Wh.load_g (by rfl) 25 (.tmp 17) (by rfl) _ 0 (by rfl) _ _ HPR.out Try.underlying25 (by rfl) pr_info ?_)
          | (refine Wh.load_g (by rfl) 60 (.tmp 7) (by rfl) _ 0 (by rfl) cs _ (Wh.range_blk HV.out) Try.underlying60 (by rfl) HIS.out ?_)
          | (refine Wh.store_over (by rfl) 60 (.tmp 5) (.tmp 21) (by rfl) (N + 1 + 1) 60 _ HLA.out cs (by rfl) (by rfl) (by rw [entC_size, ECS.out, eA_size]) HIS.out HA1.out ?_; rintro V2 hV2 hg; replace HB := Lib.hid (below_g HB.out hg (by have := HRES.out.lt; omega) (by omega)); replace HP := Lib.hid (HP.out.grown hg (by intro h; injection h with h; omega)); replace HRES := Lib.hid (HRES.out.grown hg (by intro h; injection h with h; omega)); replace HR := Lib.hid (HR.out.keep ((Below.refl N V).grown hg (by have := HRES.out.lt; have := HLA.out.lt; omega) (fun k hk => by injection hk with hk; omega))); have HL2 := Lib.hid hV2; clear hV2 hg kp0 kp1 HLA)
          | fail)
        go_roundw
        case rel => exact ⟨i + 1, by omega, by go_num, HB.out, HP.out, HRES.out, by rw [lastTo_hit HX.out HQ.out, entC_at HX.out, ← ECS.out]; exact HL2.out, HR.out⟩
        case measure => simp [intOf]; omega
      · have t1 := eql_pr_no hq
        have HQ := Lib.hid hq; clear hq
        go_wp2_with (first
          | (refine Wh.load_g (by rfl) 60 (.tmp 15) (by rfl) g _ (by rfl) cs _ HRA.out Try.underlying60 (by rfl) HIS.out ?_)
          | (refine Wh.store_new (by rfl) 60 (.tmp 7) (.tmp 16) (by rfl) 60 rfl cs (by rfl) (by rfl) (by rw [ECS.out, eA_size]; rfl) HIS.out HA1.out ?_; rintro V hV hb; have HV := Lib.hid hV; replace HB := Lib.hid (HB.out.trans (hb.mono (by have := HSZ.out; omega))); replace HP := Lib.hid (HP.out.below hb); replace HRES := Lib.hid (HRES.out.below hb); replace HLA := Lib.hid (HLA.out.below hb); replace HR := Lib.hid (HR.out.keep (hb.mono (by have := HSZ.out; omega))); have kp0 : V.cell? ⟨N, 0, none⟩ = some (.string ⟨p.1.toArray⟩) := HP.out.cell 0; have kp1 : V.cell? ⟨N, 1, none⟩ = some (.string ⟨p.2.toArray⟩) := HP.out.cell 1; have HPR := Lib.hid (eA_pr (ECS.out ▸ hV)); have HNG := Lib.hid (Nat.lt_of_lt_of_le HSZ.out (Nat.le_refl _)); clear hV hb)
          | (refine Wh.load_g (by rfl) 25 (.tmp 17) (by rfl) _ 0 (by rfl) _ _ HPR.out Try.underlying25 (by rfl) pr_info ?_)
          | fail)
        go_roundw
        case rel => exact ⟨i + 1, by omega, by go_num, HB.out, HP.out, HRES.out, by rw [lastTo_miss HX.out HQ.out]; exact HLA.out, HR.out⟩
        case measure => simp [intOf]; omega
    · have e1 : ¬ (i : Int) < (n : Int) := by omega
      obtain rfl : n = i := by omega
      have ha1 := entC_one es (lastTo (its es) p n)
      have his := ent_info
      rw [← entC_size es (lastTo (its es) p n)] at his
      have hss := entC_size es (lastTo (its es) p n)
      obtain ⟨cs, ecs⟩ : ∃ cs, cs = entC es (lastTo (its es) p n) := ⟨_, rfl⟩
      rw [← ecs] at ha1 his hss hla
      have ECC := Lib.hid ecs
      have HA1 := Lib.hid ha1; have HIS := Lib.hid his; have HSS := Lib.hid hss
      have HC := Lib.hid hla
      clear ha1 his hss hla HLA hr hb hp hres hi ecs
      go_wp2_with (first
        | (refine Wh.load_g (by rfl) 60 (.tmp 5) (by rfl) _ 0 (by rfl) cs _ (Wh.range_blk HC.out) Try.underlying60 (by rfl) HIS.out ?_)
        | (refine Wh.store_over (by rfl) 60 (.tmp 4) (.tmp 23) (by rfl) (N + 1) 60 _ HRES.out cs (by rfl) (by rfl) (by rw [HSS.out]; rfl) HIS.out HA1.out ?_; rintro V2 hV2 hg; have HB2 := Lib.hid (below_g HB.out hg (by have := HSZ.out; omega) (by omega)); have HR2 := Lib.hid hV2; clear hV2 hg)
        | fail)
      refine bodyPost_ret (v := .agg cs) ?_ ?_ ?_
      · exact Wh.results_cell (v := .agg cs) 4 60 ⟨N + 1, 0, none⟩ Try.results20 (by rfl) (Wh.load_blk HR2.out Try.underlying60 (by rfl) HIS.out)
      · rfl
      · exact ⟨by rw [ECC.out], by rw [← EN2.out]; exact HB2.out⟩
end Go.Proofs.Ytcjibpjdfhhhkaa.Rg
end

section
set_option linter.unusedVariables false
set_option linter.unusedSimpArgs false
namespace Go.Proofs.Ytcjibpjdfhhhkaa.Rg
open Go.RowKit Go.Proofs.Ytcjibpjdfhhhkaa.Mem Go.Proofs.Ytcjibpjdfhhhkaa.Se

theorem ring_new (B : Nat) (w : World) (hB : B ≤ w.heap.size) : Calls Try.prog 8 #[] w fun e w' => ∃ r, e = .returned (.pointer (some ⟨r, 0, none⟩)) ∧ w.heap.size ≤ r ∧ Ring w' B r (.slice none 0 0) [] ∧ Below w.heap.size w w' := by
  have hb := (Below.refl w.heap.size w).alloc (Nat.le_refl _) (.cells #[.slice none 0 0] 58)
  have hk := Blk.new w 58 #[.slice none 0 0]
  have HB := Lib.hid hb; clear hb
  have HK := Lib.hid hk; clear hk
  go_enter Try.func8, Try.ntmps8
  go_wp2
  go_ret
  exact ⟨_, rfl, Nat.le_refl _, ⟨HK.out, World.ownsRow_nil _ _ _ _, hB, by simp [Value.ownBlock], fun i e h => by simp at h, fun i e h => by simp at h, fun i j e f h => by simp at h⟩, HB.out⟩
theorem len_any (B r : Nat) (v : Value) (es : List Ent) (w : World) (h : Ring w B r v es) :
    Calls Try.prog 17 #[.pointer (some ⟨r, 0, none⟩)] w fun e w' => e = .returned (.int .i64 (es.length : Int)) ∧ w' = w := by
  obtain ⟨A, c, rfl, hc, hm, hr⟩ := h.num
  have k0 : w.cell? ⟨r, 0, none⟩ = some (.slice A es.length c) := h.blk.cell 0
  clear h hr
  obtain ⟨n, en⟩ : ∃ n, n = es.length := ⟨_, rfl⟩
  rw [← en] at k0 ⊢
  clear en hc
  go_enter Try.func17, Try.ntmps17
  go_wp2
  go_ret
  exact ⟨rfl, rfl⟩
set_option maxHeartbeats 1600000 in
theorem lastp_hit {B r : Nat} {v : Value} {es : List Ent} {p : Pr} {w : World} {i : Nat} {x : Ent} (h : Ring w B r v es) (hl : es.length ≤ 1000) (hf : lastI (its es) p = some i) (hx : es[i]? = some x) :
    Calls Try.prog 12 #[.pointer (some ⟨r, 0, none⟩), prV p] w fun e w' => e = .returned (.tuple #[.pointer (some ⟨x.b, 0, none⟩), .int .i64 (x.it.n : Int), .int .i64 0]) ∧ Below w.heap.size w w' := by
  have hb := (Below.refl w.heap.size w).alloc (Nat.le_refl _) (.cells #[.string ⟨p.1.toArray⟩, .string ⟨p.2.toArray⟩] 25)
  have c1 := last_any B r v es p _ (h.below hb) hl
  rw [hf, entC_at hx] at c1
  have HA1 := Lib.hid (eA_one x)
  have HSS := Lib.hid (eA_size x)
  have his := ent_info
  rw [← eA_size x] at his
  have HIS := Lib.hid his
  obtain ⟨cs, ecs⟩ : ∃ cs, cs = eA x := ⟨_, rfl⟩
  rw [← ecs] at c1 HA1 HIS HSS
  have ECS := Lib.hid ecs
  have HB := Lib.hid hb
  clear h hf hx hb his ecs
  go_enter Try.func12, Try.ntmps12
  go_wp2_with (first
    | (go_at_call 20; refine Calls.mono c1 ?_; rintro e w1 ⟨rfl, hb1⟩; replace HB := Lib.hid (HB.out.trans (hb1.mono HB.out.size)); clear c1 hb1)
    | (refine Wh.store_new (by rfl) 60 (.tmp 7) (.tmp 12) (by rfl) 60 rfl cs (by rfl) (by rfl) (by rw [HSS.out]; rfl) HIS.out HA1.out ?_; rintro V hV hb; replace HB := Lib.hid (HB.out.trans (hb.mono HB.out.size)); have kn := eA_n (ECS.out ▸ hV); have kb := eA_b (ECS.out ▸ hV); clear hV hb)
    | fail)
  go_quiet (fail)
  go_wp2
  go_ret3
  exact ⟨rfl, below_drewN HB.out _⟩
set_option maxHeartbeats 1600000 in
theorem lastp_miss {B r : Nat} {v : Value} {es : List Ent} {p : Pr} {w : World} (h : Ring w B r v es) (hl : es.length ≤ 1000) (hf : lastI (its es) p = none) :
    Calls Try.prog 12 #[.pointer (some ⟨r, 0, none⟩), prV p] w fun e w' => e = .returned (.tuple #[.pointer none, .int .i64 0, .int .i64 4]) ∧ Below w.heap.size w w' := by
  have hb := (Below.refl w.heap.size w).alloc (Nat.le_refl _) (.cells #[.string ⟨p.1.toArray⟩, .string ⟨p.2.toArray⟩] 25)
  have c1 := last_any B r v es p _ (h.below hb) hl
  rw [hf, show entC es none = zeroE from rfl] at c1
  have HA1 := Lib.hid zeroE_one
  have HSS := Lib.hid (show zeroE.size = 36 from rfl)
  have his := ent_info
  rw [← HSS.out] at his
  have HIS := Lib.hid his
  obtain ⟨cs, ecs⟩ : ∃ cs, cs = zeroE := ⟨_, rfl⟩
  rw [← ecs] at c1 HA1 HIS HSS
  have ECS := Lib.hid ecs
  have HB := Lib.hid hb
  clear h hf hb his ecs
  go_enter Try.func12, Try.ntmps12
  go_wp2_with (first
    | (go_at_call 20; refine Calls.mono c1 ?_; rintro e w1 ⟨rfl, hb1⟩; replace HB := Lib.hid (HB.out.trans (hb1.mono HB.out.size)); clear c1 hb1)
    | (refine Wh.store_new (by rfl) 60 (.tmp 7) (.tmp 12) (by rfl) 60 rfl cs (by rfl) (by rfl) (by rw [HSS.out]; rfl) HIS.out HA1.out ?_; rintro V hV hb; replace HB := Lib.hid (HB.out.trans (hb.mono HB.out.size)); have kb : V.cell? ⟨w1.heap.size, 35, none⟩ = some (.pointer none) := by { rw [hV.cell, ECS.out]; rfl }; clear hV hb)
    | fail)
  go_ret3
  exact ⟨rfl, HB.out⟩
set_option maxHeartbeats 1600000 in
theorem clone_pr (p : Pr) (w : World) (h1 : p.1.length ≤ 1000000000) (h2 : p.2.length ≤ 1000000000) : Calls Try.prog 21 #[prV p] w fun e w' => e = .returned (prV p) ∧ Below w.heap.size w w' := by
  have C1 := Lib.hid (fun w1 => Nm.clone_any p.1 w1 h1)
  have C2 := Lib.hid (fun w1 => Nm.clone_any p.2 w1 h2)
  go_enter Try.func21, Try.ntmps21
  go_upto_region 1 with fail
  obtain ⟨W, eW⟩ : ∃ W, W = (w.alloc (.cells #[.string ⟨p.1.toArray⟩, .string ⟨p.2.toArray⟩] 25)).alloc (.cells #[.string ⟨#[]⟩, .string ⟨#[]⟩] 25) := ⟨_, rfl⟩
  have hq := Blk.new (w.alloc (.cells #[.string ⟨p.1.toArray⟩, .string ⟨p.2.toArray⟩] 25)) 25 #[.string ⟨#[]⟩, .string ⟨#[]⟩]
  rw [show (w.alloc (.cells #[.string ⟨p.1.toArray⟩, .string ⟨p.2.toArray⟩] 25)).heap.size = w.heap.size + 1 by simp, ← eW] at hq
  have HK := Lib.hid (show Blk W w.heap.size 25 #[.string ⟨p.1.toArray⟩, .string ⟨p.2.toArray⟩] by rw [eW]; exact (Blk.new _ _ _).alloc _)
  have HZ := Lib.hid hq
  have HB := Lib.hid (show Below w.heap.size w W by rw [eW]; exact ((Below.refl _ _).alloc (Nat.le_refl _) _).alloc (by simp) _)
  rw [← eW]
  clear eW hq
  replace HK := Lib.hid (show Blk W.drew _ _ _ from HK.out.drewN 1)
  replace HZ := Lib.hid (show Blk W.drew _ _ _ from HZ.out.drewN 1)
  replace HB := Lib.hid (show Below _ _ W.drew from below_drewN HB.out 1)
  go_region_held3 (fun w' => w'.cell? ⟨w.heap.size, 0, none⟩ = some (.string ⟨p.1.toArray⟩) ∧ w'.cell? ⟨w.heap.size, 1, none⟩ = some (.string ⟨p.2.toArray⟩)) (first | exact ⟨HK.out.cell 0, HK.out.cell 1⟩ | exact ⟨(Si.Blk.far (Si.Blk.far HK.out _ _ (by simp)) _ _ (by simp)).cell 0, (Si.Blk.far (Si.Blk.far HK.out _ _ (by simp)) _ _ (by simp)).cell 1⟩) ((first
    | (go_at_call 38; (with_reducible refine Calls.mono (C1.out _) ?_); rintro e w1 ⟨rfl, hb⟩; clear C1; replace HK := Lib.hid (HK.out.below hb); replace HZ := Lib.hid (HZ.out.below hb); replace HB := Lib.hid (HB.out.trans (hb.mono HB.out.size)); have kz0 : w1.cell? ⟨w.heap.size + 1, 0, none⟩ = some (.string ⟨#[]⟩) := HZ.out.cell 0; have kz1 : w1.cell? ⟨w.heap.size + 1, 1, none⟩ = some (.string ⟨#[]⟩) := HZ.out.cell 1; have fz := HZ.out.frozen; clear hb)
    | (go_at_call 38; (with_reducible refine Calls.mono (C2.out _) ?_); rintro e w2 ⟨rfl, hb⟩; clear C2 kz0 kz1 fz; replace HK := Lib.hid (HK.out.below hb); replace HZ := Lib.hid (HZ.out.below hb); replace HB := Lib.hid (HB.out.trans (hb.mono HB.out.size)); have kz0 : w2.cell? ⟨w.heap.size + 1, 0, none⟩ = some (.string ⟨#[]⟩) := HZ.out.cell 0; have kz1 : w2.cell? ⟨w.heap.size + 1, 1, none⟩ = some (.string ⟨#[]⟩) := HZ.out.cell 1; have fz := HZ.out.frozen; clear hb)))
  go_wp2
  have hz := (HZ.out.set 0 (.string ⟨p.1.toArray⟩)).set 1 (.string ⟨p.2.toArray⟩)
  rw [show (((#[.string ⟨#[]⟩, .string ⟨#[]⟩] : Array Value).setIfInBounds 0 (.string ⟨p.1.toArray⟩)).setIfInBounds 1 (.string ⟨p.2.toArray⟩)) = #[.string ⟨p.1.toArray⟩, .string ⟨p.2.toArray⟩] from rfl] at hz
  refine bodyPost_ret (v := prV p) ?_ ?_ ?_
  · exact Wh.results_cell (v := prV p) 2 25 ⟨w.heap.size + 1, 0, none⟩ Try.results21 (by rfl) (Wh.load_blk hz Try.underlying25 (by rfl) pr_info)
  · rfl
  · exact ⟨rfl, Si.below_set (Si.below_set HB.out (by simp) _) (by simp) _⟩
end Go.Proofs.Ytcjibpjdfhhhkaa.Rg
end

section
set_option linter.unusedVariables false
set_option linter.unusedSimpArgs false
namespace Go.Proofs.Ytcjibpjdfhhhkaa.Rg
open Go.RowKit Go.Proofs.Ytcjibpjdfhhhkaa.Mem Go.Proofs.Ytcjibpjdfhhhkaa.Se

def kC (k : Nat → UInt8) : List Value := (key32 k).toList
def OwnK (w : World) (base : Nat) (v : Value) (K : List (Nat → UInt8)) : Prop := w.ownsRow base 30 32 v K.length (K.flatMap kC)
theorem OwnK.below {w w' : World} {base : Nat} {v : Value} {K : List (Nat → UInt8)} (h : OwnK w base v K) (hb : Below w.heap.size w w') : OwnK w' base v K := own_kept h hb
end Go.Proofs.Ytcjibpjdfhhhkaa.Rg
end

section
set_option linter.unusedVariables false
namespace Go.Proofs.Ytcjibpjdfhhhkaa.Reg
open Go.RowKit Go.Proofs.Ytcjibpjdfhhhkaa.Mem

section
variable {P : Program} {ops : Array Oper} {Q : Exit → Act → World → Prop} {md : Region.Mode}

theorem held_mono {S1 S2 : World → Prop} (hS : ∀ w, S2 w → S1 w) : ∀ (f : Nat) (l : Array Bool) (a : Act) (w : World), wpAnyH P md ops Q S2 f l a w → wpAnyH P md ops Q S1 f l a w
  | 0, _, _, _, h => h
  | f + 1, _, _, _, h => ⟨h.1, fun i hi => wpOp_mono (fun a' w' hh => ⟨hS w' hh.1, held_mono hS f _ a' w' hh.2⟩) (h.2 i hi)⟩

end

end Go.Proofs.Ytcjibpjdfhhhkaa.Reg
end

section
set_option linter.unusedVariables false
namespace Go.Proofs.Ytcjibpjdfhhhkaa.Reg
open Go.RowKit Go.Proofs.Ytcjibpjdfhhhkaa.Mem

section
variable {P : Program} {ops : Array Oper} {Q : Exit → Act → World → Prop} {md : Region.Mode}
def Eff (P : Program) (md : Region.Mode) (ops : Array Oper) (Q : Exit → Act → World → Prop) (S : World → Prop) (fuel : Nat) (listed : Array Bool) (a : Act) (w : World) (i : Nat) : Prop :=
  ∃ (dst : Option Tmp) (op : Op) (ty : TypeId) (pos : String) (after : Array _) (guard : Option (Nat × Bool)) (v : Value) (w' : World), ops[i]? = some ⟨dst, op, ty, pos, after, guard⟩ ∧ Region.wanted ⟨dst, op, ty, pos, after, guard⟩ (yielded ops a.tmps) = true ∧ (execOp a.eval ⟨dst, op, ty, pos, after, guard⟩).run P w = .ok (.value v) w' ∧ S w' ∧ wpAnyH P md ops Q S fuel (listed.setIfInBounds i true) (a.put dst v) w'
end
end Go.Proofs.Ytcjibpjdfhhhkaa.Reg
end

section
set_option linter.unusedVariables false
namespace Go.Proofs.Ytcjibpjdfhhhkaa.Reg
open Go.RowKit Go.Proofs.Ytcjibpjdfhhhkaa.Mem

section
variable {P : Program} {ops : Array Oper} {Q : Exit → Act → World → Prop} {md : Region.Mode} {S : World → Prop}
theorem any_begin (S : World → Prop) (n : Nat) {id : Nat} {a : Act} {w : World} (hn : ops.size = n) (hm : P.follows .mixedOrders = true) (hS : S w.drew) (h : wpAnyH P .any ops Q S n (Array.replicate n false) a w.drew) : (Code.region id ops true).wp P Q a w := by
  subst hn
  exact wp_region_held_drew hm hS (fun _ => h)
theorem any_take (i : Nat) {dst : Option Tmp} {op : Op} {ty : TypeId} {pos : String} {after : Array _} {guard : Option (Nat × Bool)} {v : Value} {fuel : Nat} {listed : Array Bool} {a : Act} {w : World} (hi : ops[i]? = some ⟨dst, op, ty, pos, after, guard⟩)
    (hs : Region.noSelect ops = true) (hf : Region.free md ops listed i = true) (hr : (Region.ready md ops listed).contains i = true)
    (hQ : ∀ c a w, Q (.panic c) (a.put dst v) w → Q (.panic c) a w) (hS : S w)
    (hw : Region.wanted ⟨dst, op, ty, pos, after, guard⟩ (yielded ops a.tmps) = true) (hy : ∀ w', S w' → (execOp a.eval ⟨dst, op, ty, pos, after, guard⟩).run P w' = .ok (.value v) w')
    (h : wpAnyH P md ops Q S fuel (listed.setIfInBounds i true) (a.put dst v) w) : wpAnyH P md ops Q S (fuel + 1) listed a w :=
  wpAnyH_take hi hs hf hr hQ (.inl ⟨hw, hy⟩) hS h
theorem any_store (i : Nat) {dst : Option Tmp} {op : Op} {ty : TypeId} {pos : String} {after : Array _} {guard : Option (Nat × Bool)} {fuel : Nat} {listed : Array Bool} {a : Act} {w : World} (w' : World) (hi : ops[i]? = some ⟨dst, op, ty, pos, after, guard⟩)
    (hr : Region.ready md ops listed = [i]) (hw : Region.wanted ⟨dst, op, ty, pos, after, guard⟩ (yielded ops a.tmps) = true) (hx : (execOp a.eval ⟨dst, op, ty, pos, after, guard⟩).run P w = .ok .skip w') (hS : S w')
    (h : wpAnyH P md ops Q S fuel (listed.setIfInBounds i true) (a.put dst undef) w') : wpAnyH P md ops Q S (fuel + 1) listed a w := by
  refine wpAnyH_all hr (by simp) fun j hj => ?_
  obtain rfl : j = i := by simpa using hj
  unfold wpOp
  simp only [hi]
  rw [if_pos hw]
  left
  unfold Oper.wp
  rw [hx]
  exact ⟨hS, h⟩
end
end Go.Proofs.Ytcjibpjdfhhhkaa.Reg
end

section
set_option linter.unusedVariables false
namespace Go.Proofs.Ytcjibpjdfhhhkaa.Reg
open Go.RowKit Go.Proofs.Ytcjibpjdfhhhkaa.Mem

section
variable {P : Program} {ops : Array Oper} {Q : Exit → Act → World → Prop} {md : Region.Mode}
def Ent (P : Program) (md : Region.Mode) (ops : Array Oper) (Q : Exit → Act → World → Prop) (S : World → Prop) (fuel : Nat) (listed : Array Bool) (a : Act) (w : World) (i : Nat) : Prop :=
  ∃ (dst : Option Tmp) (op : Op) (ty : TypeId) (pos : String) (after : Array _) (guard : Option (Nat × Bool)) (f : FuncId) (args : Array Value), ops[i]? = some ⟨dst, op, ty, pos, after, guard⟩ ∧ Region.wanted ⟨dst, op, ty, pos, after, guard⟩ (yielded ops a.tmps) = true ∧ (execOp a.eval ⟨dst, op, ty, pos, after, guard⟩).run P w = .ok (.enter f args) w ∧
    Calls P f args w fun e w' => ∃ v, e = .returned v ∧ S w' ∧ wpAnyH P md ops Q S fuel (listed.setIfInBounds i true) (a.put dst v) w'
theorem both_all (is : List Nat) {S : World → Prop} {fuel : Nat} {listed : Array Bool} {a : Act} {w : World} (hr : Region.ready md ops listed = is) (hne : is ≠ []) (h : ∀ j ∈ is, Eff P md ops Q S fuel listed a w j ∨ Ent P md ops Q S fuel listed a w j) : wpAnyH P md ops Q S (fuel + 1) listed a w := by
  refine wpAnyH_all hr hne fun j hj => ?_
  rcases h j hj with ⟨dst, op, ty, pos, after, guard, v, w', hi, hw, hx, hs, hh⟩ | ⟨dst, op, ty, pos, after, guard, f, args, hi, hw, hx, hh⟩
  · unfold wpOp
    simp only [hi]
    rw [if_pos hw]
    left
    unfold Oper.wp
    rw [hx]
    exact ⟨hs, hh⟩
  · unfold wpOp
    simp only [hi]
    rw [if_pos hw]
    left
    unfold Oper.wp
    rw [hx]
    refine hh.mono ?_
    rintro e w' ⟨v, rfl, hs, hh⟩
    exact ⟨hs, hh⟩
end
end Go.Proofs.Ytcjibpjdfhhhkaa.Reg
end
