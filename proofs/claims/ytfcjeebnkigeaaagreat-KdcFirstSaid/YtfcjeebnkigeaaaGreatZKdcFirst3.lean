import Derived.Test.YtfcjeebnkigeaaaGreatZKdcFirst2
set_option maxHeartbeats 25600000
set_option maxRecDepth 100000
set_option linter.unusedVariables false
set_option linter.unusedSimpArgs false
namespace Go.Proofs.YtfcjeebnkigeaaaGreat
section
namespace DerW
open Go.RowKit Af DerP
theorem LU (w:World) (t:TypeId) (B:Nat) (A:Option Addr) (l:L) (n c:Nat) (hn:n=l.length) (h:Rd w B A (bvs l)) (hB:B≤w.heap.size) :
  Rds (w.alloc (.cells #[.slice A n c] t)) (w.heap.size+1) (some ⟨w.heap.size,0,none⟩) [l]:=by
 subst hn;refine .inr ⟨w.heap.size,0,rfl,by omega,fun i l' hi=>?_⟩;have hi0:i=0:=by
  rcases Nat.eq_zero_or_pos i with g | g
  ·exact g
  ·rw[List.getElem?_eq_none (by simp;omega)] at hi;cases hi
 subst hi0;injection hi with hi;subst hi;exact⟨A,c,(Blk.new w t _).cell 0,(h.alloc hB _).more (by omega)⟩
theorem Dy (l:L) (A:Option Addr) (n c B:Nat) (w:World) (hr:Rd w B A (bvs l)) (hn:n=l.length) (hB:B≤w.heap.size) (hl:l.length≤65535) :
  Calls Tryz.prog 219 #[.slice A n c] w fun e w'=>
   ∃v,e = .returned v∧w'.ownsRow w.heap.size 5 1 v (elem 4 l).length (bvs (elem 4 l))∧Below w.heap.size w w':=by
 have hrs:=LU w 30 B A l n c hn hr hB;have hw:=Df 4 [l] (some ⟨w.heap.size,0,none⟩) 1 1 (w.heap.size+1) (w.alloc (.cells #[.slice A n c] 30)) hrs rfl (by simp) (by simpa using hl) (by simp);have e:[l].flatten=l:=by simp
 rw[e] at hw;have HW:=I hw;clear hw hrs hr hn hl e;go_enter Tryz.func219,Tryz.ntmps219
 go_wp2_with (go_at_call 217;refine HW.o.mono ?_;rintro e w1 ⟨v,rfl,hown,hbel⟩)
 go_ret;refine⟨_,rfl,?_,(Below.refl w.heap.size w).alloc (Nat.le_refl _) _ |>.trans (hbel.mono (by simp))⟩;exact hown.mono (by simp)
theorem Dq (n : Int) (w : World) :
    Calls Tryz.prog 221 #[.int .i64 n] w fun e w'=>
      ∃v,e = .returned v∧w'.ownsRow w.heap.size 5 1 v (encI n).length (bvs (encI n))∧Below w.heap.size w w':=by
  have hd:=OA (BC n) (El n);rw[Jp] at hd;have hw : ∀ (W : World) (g : Nat), Blk W g 5 (bvs (dig (BC n))).toArray → Calls Tryz.prog 217 #[.int .u8 2, .slice (some ⟨W.heap.size, 0, none⟩) 1 1] (W.alloc (.cells #[.slice (some ⟨g, 0, none⟩) (dig (BC n)).length (dig (BC n)).length] 30)) fun e w' =>
      ∃v,e = .returned v∧w'.ownsRow W.heap.size 5 1 v (encI n).length (bvs (encI n))∧Below W.heap.size W w':=by
    intro W g hB;have hr:Rd W W.heap.size (some ⟨g,0,none⟩) (bvs (dig (BC n))):=.inr ⟨g,0,rfl,hB.lt,fun i u hu=>by
      rw[Nat.zero_add,hB.cell i];simpa using hu⟩
    have hrs:=LU W 30 W.heap.size _ _ _ (dig (BC n)).length rfl hr (Nat.le_refl _);have hd8:=Hl n;have h:=Df 2 [dig (BC n)] (some ⟨W.heap.size,0,none⟩) 1 1 (W.heap.size+1) _ hrs rfl (by simp) (by simp;omega) (by simp);have e:[dig (BC n)].flatten=dig (BC n):=by simp
    rw[e] at h;refine h.mono ?_;rintro e w' ⟨v,rfl,hown,hbel⟩;exact⟨v,rfl,hown.mono (by simp),(Below.refl W.heap.size W).alloc (Nat.le_refl _) _ |>.trans (hbel.mono (by simp))⟩
  have HD:=I hd;have HW:=I hw;clear hd hw;go_enter Tryz.func221,Tryz.ntmps221
  go_wp2_with (first
    |(go_at_call 258;refine(HD.o _).mono ?_;rintro e w1 ⟨g,rfl,hg,hB,hbel⟩)
    |(go_at_call 217;refine(HW.o _ _ hB).mono ?_;rintro e w2 ⟨v,rfl,hown,hbel2⟩))
  go_ret;exact⟨_,rfl,hown.mono hbel.size,hbel.trans (hbel2.mono hbel.size)⟩
theorem Fi (l : L) (w : World) (hl : l.length ≤ 65535) :
    Calls Tryz.prog 220 #[.string ⟨l.toArray⟩] w fun e w'=>
      ∃v,e = .returned v∧w'.ownsRow w.heap.size 5 1 v (elem 27 l).length (bvs (elem 27 l))∧Below w.heap.size w w':=by
  have hcv:=fun(W:World)=>Lib.run_convert_string_bytes (P:=Tryz.prog) W 9 30 5 ⟨l.toArray⟩ Tryz.underlying9 Tryz.underlying30 Tryz.underlying5
  have hw : ∀ (W : World) (c : Nat), Calls Tryz.prog 217 #[.int .u8 27, .slice (some ⟨W.heap.size + 1, 0, none⟩) 1 1] ((Lib.bytesWorld W 5 ⟨l.toArray⟩).alloc (.cells #[.slice (some ⟨W.heap.size, 0, none⟩) l.length c] 30)) fun e w' =>
      ∃v,e = .returned v∧w'.ownsRow W.heap.size 5 1 v (elem 27 l).length (bvs (elem 27 l))∧Below W.heap.size W w':=by
    intro W c;have hs:=Lib.bytesWorld_size W 5 ⟨l.toArray⟩;have hr:=(FG W 5 l).rd;have hrs:=LU _ 30 _ _ _ l.length c rfl hr (Nat.le_refl _);rw[hs] at hrs;have h:=Df 27 [l] (some ⟨W.heap.size+1,0,none⟩) 1 1 (W.heap.size+1+1) _ hrs rfl (by simp [hs]) (by simpa using hl) (by simp);have e:[l].flatten=l:=by simp
    rw[e] at h;refine h.mono ?_;rintro e w' ⟨v,rfl,hown,hbel⟩;refine⟨v,rfl,hown.mono (by simp [hs];omega),?_⟩;exact((DL W _ _).alloc (by rw[hs];omega) _).trans (hbel.mono (by simp [hs];omega))
  have HW:=I hw;clear hw hl;have hsz:=fun(W:World)=>Lib.bytesWorld_size W 5 ⟨l.toArray⟩
  go_enter Tryz.func220,Tryz.ntmps220
  go_wp2_with (go_at_call 217;refine(HW.o _ _).mono ?_;rintro e w2 ⟨v,rfl,hown,hbel2⟩)
  go_ret;exact⟨_,rfl,hown,hbel2⟩
end DerW
end
section
namespace DerK
open Go.RowKit Af DerP
attribute [local go_sem] Eg List.getElem_cons_zero List.getElem_cons_succ
theorem Ik {w:World} {base n:Nat} {t:TypeId} {v:Value} {l:L} (h:w.ownsRow base t 1 v n (bvs l)) (hl:0<l.length) :
  ∃g cap,v = .slice (some ⟨g,0,none⟩) l.length cap∧base≤g∧l.length≤cap∧Rd w w.heap.size (some ⟨g,0,none⟩) (bvs l):=by
 have hn:n=l.length:=by have:=h.1;rw[Aj] at this;omega
 subst hn;rcases h.2 with⟨_,h2⟩ | ⟨g,cap,cur,rfl,hg,_,hc,_⟩
 ·omega
 ·exact⟨g,cap,rfl,hg,hc,Rd.of_own h⟩
end DerK
end
section
namespace DerR
open Go.RowKit Af DerP
def BE (w:World) (l:L) (e:Ending) (w':World):Prop:=
 (∃g cap,e = .returned (.slice (some ⟨g,0,none⟩) l.length cap)∧w.heap.size≤g∧l.length≤cap∧Rd w' w'.heap.size (some ⟨g,0,none⟩) (bvs l))∧Below w.heap.size w w'
theorem Ev {w w':World} {v:Value} {n:Nat} {t:TypeId} {l:L} (h:w'.ownsRow w.heap.size t 1 v n (bvs l)) (hl:0<l.length) (hb:Below w.heap.size w w'):BE w l (.returned v) w':=by
 obtain⟨g,cap,rfl,h1,h2,h3⟩:=DerK.Ik h hl;exact⟨⟨g,cap,rfl,h1,h2,h3⟩,hb⟩
theorem Il (w:World) (t:TypeId) (cs:Array Value) (l:L) (h:cs.toList=bvs l) (n:Nat) (hn:n=l.length):BE w l (.returned (.slice (some ⟨w.heap.size,0,none⟩) n n)) (w.alloc (.cells cs t)):=by
 subst hn;refine⟨⟨_,_,rfl,Nat.le_refl _,Nat.le_refl _,?_⟩,(Below.refl _ _).alloc (Nat.le_refl _) _⟩;have:=DerW.Hd w t cs l h _ rfl
 simpa using this
theorem Ni (n:Nat) (h:n≤65535) (w:World):Calls Tryz.prog 207 #[.int .i64 (n:Int)] w (BE w (szL n)):=by
 by_cases h1:n<128
 ·have g1:decide ((n:Int)<128)=true:=by simp;omega
  have E:=I (show szL n = [UInt8.ofNat n] by simp [szL,h1]);have hb:=I (DerW.Gd n (by omega));have hn:(n:Int)≤127:=by omega
  clear h h1;go_enter Tryz.func207,Tryz.ntmps207
  go_wp2
  go_ret;rw[E.o];exact Il w 5 _ _ (by simp [bvs,hb.o]) _ rfl
 ·have g1:decide ((n:Int)<128)=false:=by simp;omega
  by_cases h2:n≤255
  ·have g2:decide ((n:Int)<256)=true:=by simp;omega
   have E:=I (show szL n = [129,UInt8.ofNat n] by simp [szL,h1,h2]);have hb:=I (DerW.Gd n (by omega));have hn:(n:Int)≤255:=by omega
   clear h h1 h2;go_enter Tryz.func207,Tryz.ntmps207
   go_wp2
   go_ret;rw[E.o];exact Il w 5 _ _ (by simp [bvs,hb.o];rfl) _ rfl
  ·have g2:decide ((n:Int)<256)=false:=by simp;omega
   have E:=I (show szL n = [130,UInt8.ofNat (n / 256),UInt8.ofNat n] by simp [szL,h1,h2]);have hb:=I (show bvs [130,UInt8.ofNat (n / 256),UInt8.ofNat n] = [.int .u8 130,.int .u8 ((n:Int) / 256),.int .u8 ((n:Int) % 256)] by simp [bvs,bv];omega);have hn:(n:Int)≤65535:=by omega
   clear h h1 h2;go_enter Tryz.func207,Tryz.ntmps207
   go_wp2
   go_ret;rw[E.o];exact Il w 5 _ _ (by rw[hb.o]) _ rfl
theorem Xf (n:Nat):(szL n).length≤3:=by rw[BI];split<;>(try split)<;>omega
theorem DR (t : UInt8) (p : L) (A : Option Addr) (n c B : Nat) (w : World) (hr : Rd w B A (bvs p)) (hn : n = p.length) (hB : B ≤ w.heap.size) (hp : p.length ≤ 65535) :
    Calls Tryz.prog 137 #[.int .u8 t.toNat,.slice A n c] w (BE w (elem t p)):=by
  obtain⟨i0,hi0,hz0,hs0,hb0⟩:=info_parts DerW.BD;have hsz:∀W:World,Calls Tryz.prog 207 #[.int .i64 (n:Int)] W (BE W (szL n)):=fun W=>Ni n (by omega) W
  have HS:=I hsz;have HR:=I hr;have HN:=I hn;have HP:=I hp;have h3:=I (Xf n);have hml:=I DerW.ml;have hown0:Hid ((w.alloc (.cells #[.int .u8 (t.toNat:Int)] 5)).ownsRow w.heap.size 5 1 (.slice (some ⟨w.heap.size,0,none⟩) 1 1) 1 (bvs [t])):=World.ownsRow_lit w #[.int .u8 (t.toNat:Int)] 1 (Nat.le_refl _) (DerW.ml 1 (by omega)) rfl;clear hsz hr hn hp;go_enter Tryz.func137,Tryz.ntmps137
  go_wp2_with (first
    | (go_at_call 207; refine (HS.o _).mono ?_; rintro e w1 ⟨⟨g1, c1, rfl, hg1, hc1, hrd1⟩, hb1⟩
       have hB1:Below w.heap.size w w1:=((Below.refl w.heap.size w).alloc (Nat.le_refl _) _).trans (hb1.mono (by simp));have HO1:=I (Ff hown0.o hb1);have HQ1:=I hrd1;clear hrd1)
    | (at_builtin
       refine Au _ rfl (.tmp 6) (.tmp 9) 30 rfl w.heap.size 5 i0 _ 1 Tryz.underlying30 hi0 hz0 hs0 hb0 rfl (.slice (some ⟨w.heap.size,0,none⟩) 1 1) 1 (bvs [t]) rfl HO1.o w1.heap.size _ (szL n).length c1 (bvs (szL n)) rfl (Aj _).symm HQ1.o (Bf _) (hml.o _ (by have:=h3.o;omega)) (by have:=h3.o;omega) hB1.size ?_;intro v2 w2 hown2 hg2 hat2;have hB2:=hB1.grown hg2 hB1.size (fun k hk=>(HO1.o.lt k hk).1);have HO2:=I hown2;clear hown2 hat2)
    | (at_builtin
       refine Au _ rfl (.tmp 10) (.tmp 11) 30 rfl w.heap.size 5 i0 _ 1 Tryz.underlying30 hi0 hz0 hs0 hb0 rfl v2 (1+(szL n).length) (bvs [t]++bvs (szL n)) rfl HO2.o B A n c (bvs p) rfl (by rw[Aj];exact HN.o) (HR.o.below (hB2.mono hB)) (Bf _) (hml.o _ (by have:=h3.o;have:=HN.o;have:=HP.o;omega)) (by have:=h3.o;have:=HN.o;have:=HP.o;omega) hB2.size ?_;intro v3 w3 hown3 hg3 hat3;have hB3:=hB2.grown hg3 hB2.size (fun k hk=>(HO2.o.lt k hk).1);have HO3:=I hown3;clear hown3 hat3))
  go_ret;have hown:=HO3.o;rw[HN.o,←Bx,←Bx,show [t]++szL p.length++p=elem t p from rfl] at hown;exact Ev hown (by rw[DQ];omega) hB3
theorem Dy (p:L) (A:Option Addr) (n c B:Nat) (w:World) (hr:Rd w B A (bvs p)) (hn:n=p.length) (hB:B≤w.heap.size) (hp:p.length≤65535) :
  Calls Tryz.prog 91 #[.slice A n c] w (BE w (elem 4 p)):=by
 have H:=I (DR 4 p A n c B w hr hn hB hp);clear hr hn hB hp;go_enter Tryz.func91,Tryz.ntmps91
 go_wp2_with (go_at_call 137;refine(Calls.mono H.o ?_);rintro e w1 ⟨⟨g1,c1,rfl,hg1,hc1,hrd1⟩,hb1⟩)
 go_ret;exact⟨⟨g1,c1,rfl,hg1,hc1,hrd1⟩,hb1⟩
end DerR
end
section
namespace DerR
open Go.RowKit Af DerP
theorem Fi (l:L) (w:World) (hl:l.length≤65535) :
  Calls Tryz.prog 139 #[.string ⟨l.toArray⟩] w (BE w (elem 27 l)):=by
 have hcv:=fun(W:World)=>Lib.run_convert_string_bytes (P:=Tryz.prog) W 9 30 5 ⟨l.toArray⟩ Tryz.underlying9 Tryz.underlying30 Tryz.underlying5
 have he:∀(c:Nat),Calls Tryz.prog 137 #[.int .u8 27,.slice (some ⟨w.heap.size,0,none⟩) l.length c] (Lib.bytesWorld w 5 ⟨l.toArray⟩) (BE (Lib.bytesWorld w 5 ⟨l.toArray⟩) (elem 27 l)):=
  fun c=>DR 27 l _ _ c _ _ (FG w 5 l).rd rfl (Nat.le_refl _) hl
 have HE:=I he;have HB:=I (DL w 5 ⟨l.toArray⟩);clear he hl;go_enter Tryz.func139,Tryz.ntmps139
 go_wp2_with (go_at_call 137;refine(Calls.mono (HE.o _) ?_);rintro e w1 ⟨⟨g1,c1,rfl,hg1,hc1,hrd1⟩,hb1⟩)
 go_ret;exact⟨⟨g1,c1,rfl,Nat.le_trans HB.o.size hg1,hc1,hrd1⟩,bt HB.o hb1⟩
theorem Kz (j m:Nat):digK (j+1) m=UInt8.ofNat (m / 256 ^ j) :: digK j m:=by
 induction j generalizing m with
 |zero=>simp [digK]
 |succ j ih=>
  rw[digK,ih (m / 256)];rw[Nat.div_div_eq_div_mul,Nat.mul_comm,←Nat.pow_succ]
  rfl
theorem Qe (m j:Nat) (hm:m≤4611686018427387904) (hj:1≤j) (h1:j=1∨256 ^ (j - 1)≤m) (h2:m / 256 ^ (j - 1)<128):dig m=digK j m:=by
 have hp:0<256 ^ (j - 1):=Nat.pow_pos (by omega);have hup:m<128*256 ^ (j - 1):=by rw[Nat.div_lt_iff_lt_mul hp] at h2;exact h2
 have hj8:j≤8:=by
  rcases Nat.lt_or_ge 8 j with g | g
  ·exfalso
   rcases h1 with h | h
   ·omega
   ·have:256 ^ 8≤256 ^ (j - 1):=Nat.pow_le_pow_right (by omega) (by omega)
    have e:(256:Nat) ^ 8=18446744073709551616:=by decide
    omega
  ·exact g
 have hup':m<2 ^ (8*(j - 1)+7):=by
  rw[Nat.pow_add,←Fx,Nat.mul_comm];simpa using hup
 have hb:=Cs m _ (by omega) hup';have hk:Lib.bitLen m / 8+1=j:=by
  rcases h1 with h | h
  ·omega
  ·have h3:2 ^ (8*(j - 1))≤m:=by rw[←Fx];exact h
   have:=Em m (by omega) _ h3;omega
 rw[dig,hk]
theorem OD (m j:Nat) (hm:m≤4611686018427387904) (hj:1≤j) (h0:m / 256 ^ j=0) (h2:128≤m / 256 ^ (j - 1)):dig m=0 :: digK j m:=by
 have hp:0<256 ^ (j - 1):=Nat.pow_pos (by omega);have hlo:128*256 ^ (j - 1)≤m:=by rw[Nat.le_div_iff_mul_le hp] at h2;exact h2
 have hpj:0<256 ^ j:=Nat.pow_pos (by omega);have hup:m<256 ^ j:=by
  rcases Nat.lt_or_ge m (256 ^ j) with g | g
  ·exact g
  ·have:=Nat.div_pos g hpj;omega
 have hlo':2 ^ (8*(j - 1)+7)≤m:=by
  rw[Nat.pow_add,←Fx,Nat.mul_comm];simpa using hlo
 have h3:=Em m (by omega) _ hlo';have h62:=Ga m hm;have h4:=Cs m (8*j) (by omega) (by rw[←Fx];exact hup);have hk:Lib.bitLen m / 8+1=j+1:=by omega
 rw[dig,hk,Kz,h0]
 rfl
theorem FI (m j:Nat) (hj:1≤j) (h0:m / 256 ^ j=0):m / 256 ^ (j - 1)<256:=by
 have hp:0<256 ^ (j - 1):=Nat.pow_pos (by omega);have hpj:0<256 ^ j:=Nat.pow_pos (by omega);rw[Nat.div_lt_iff_lt_mul hp,Nat.mul_comm,←Nat.pow_succ,show(j - 1).succ=j by omega];rcases Nat.lt_or_ge m (256 ^ j) with g | g
 ·exact g
 ·have:=Nat.div_pos g hpj;omega
theorem OE {w:World} {g j m:Nat} (hj:1≤j) (h0:m / 256 ^ j=0) (h:Rd w w.heap.size (some ⟨g,0,none⟩) (bvs (digK j m))):w.cell? ⟨g,0,none⟩=some (.int .u8 ((m / 256 ^ (j - 1):Nat):Int)):=by
 have ha:=PJ j m 0 (by omega);obtain⟨b,o,e,_,hc⟩:=h.at_ (i:=0) (u:=bv (UInt8.ofNat (m / 256 ^ (j - 1)))) (by simp only[bvs,List.getElem?_map,ha];rfl);injection e with e;injection e with e1 e2;subst e1 e2;have hf:=FI m j hj h0;rw[show(0+0:Nat)=0 from rfl] at hc;rw[hc,DerW.Gd _ hf]
def Left (m:Nat) (W:World) (n p:Value) (w:World):Prop:=
 ∃j g cap,1≤j∧(j=1∨256 ^ (j - 1)≤m)∧j≤9∧n = .int .i64 ((m / 256 ^ j:Nat):Int)∧p = .slice (some ⟨g,0,none⟩) j cap∧Rd w w.heap.size (some ⟨g,0,none⟩) (bvs (digK j m))∧Below W.heap.size W w
theorem Dq (n : Int) (w : World) :
    Calls Tryz.prog 89 #[.int .i64 n] w (BE w (encI n)):=by
  obtain⟨i0,hi0,hz0,hs0,hb0⟩:=info_parts DerW.BD;have hcl:=Jp n;have hm:=El n;have E:Hid (encI n=elem 2 (dig (BC n))):=rfl;generalize BC n=m at *;have HM:=I hm;have hm':(m:Int)≤4611686018427387904:=by omega
  have hml:=I DerW.ml;have hlast:=I (show [Value.int .u8 ((m:Int) % 256)]=bvs (digK 1 m) by simp [bvs,bv,digK]);have hcl':=hcl.symm;clear hcl hm;go_enter Tryz.func89,Tryz.ntmps89
  go_wp2
  go_loopw [0,3] (fun nv p wr=>Left m w nv p wr) (fun nv _ _=>(intOf nv).toNat)
  case atStart=>
    refine⟨1,w.heap.size,1,Nat.le_refl _,.inl rfl,by omega,by simp,rfl,?_,(Below.refl _ _).alloc (Nat.le_refl _) _⟩;have:=DerW.Hd w 5 #[Value.int .u8 ((m:Int) % 256)] (digK 1 m) hlast.o _ rfl
    simpa using this
  case round=>
    obtain⟨j,g,cap,hj1,hjm,hj9,rfl,rfl,hrd,hbel⟩:=hrel
    by_cases h0:m / 256 ^ j=0
    · have hcell := OE hj1 h0 hrd
      have hf:=FI m j hj1 h0;have HRD:=I hrd;have HJ:=I hj1;have HJM:=I hjm;have H0:=I h0;rw[h0];have HN:=I (FI m j hj1 h0)
      by_cases h128:m / 256 ^ (j - 1)<128
      · have G := I (Qe m j HM.o hj1 hjm h128)
        have he:∀W:World,Rd W W.heap.size (some ⟨g,0,none⟩) (bvs (digK j m))→Calls Tryz.prog 137 #[.int .u8 2,.slice (some ⟨g,0,none⟩) j cap] W (BE W (elem 2 (digK j m))):=
          fun W hW=>DR 2 (digK j m) _ j cap _ W hW (AY j m).symm (Nat.le_refl _) (by rw[AY];omega)
        have HEL:=I he;have g5:decide ((128:Int)≤((m / 256 ^ (j - 1):Nat):Int))=false:=by simp only[decide_eq_false_iff_not];omega
        clear he hrd hf h128 hj1 hjm h0;generalize m / 256 ^ (j - 1)=a at *;have hj9':(j:Int)≤9:=by omega
        have hj1':0<j:=HJ.o
        go_wp2_with (go_at_call 137;refine(Calls.mono (HEL.o _ HRD.o) ?_);rintro e w1 ⟨⟨g1,c1,rfl,hg1,hc1,hrd1⟩,hb1⟩)
        go_ret;rw[E.o,G.o];exact⟨⟨g1,c1,rfl,Nat.le_trans hbel.size hg1,hc1,hrd1⟩,bt hbel hb1⟩
      · have G := I (OD m j HM.o hj1 h0 (by omega))
        have he:∀(W:World) (g' c':Nat),Rd W W.heap.size (some ⟨g',0,none⟩) (bvs (0 :: digK j m))→Calls Tryz.prog 137 #[.int .u8 2,.slice (some ⟨g',0,none⟩) (0 :: digK j m).length c'] W (BE W (elem 2 (0 :: digK j m))):=
          fun W g' c' hW=>DR 2 (0 :: digK j m) _ _ c' _ W hW rfl (Nat.le_refl _) (by simp only[List.length_cons,AY];omega)
        have HEL:=I he;have g5:decide ((128:Int)≤((m / 256 ^ (j - 1):Nat):Int))=true:=by simp only[decide_eq_true_eq];omega
        have hown0:Hid ((wr.alloc (.cells #[.int .u8 0] 5)).ownsRow wr.heap.size 5 1 (.slice (some ⟨wr.heap.size,0,none⟩) 1 1) 1 (bvs [0])):=World.ownsRow_lit wr #[.int .u8 0] 1 (Nat.le_refl _) (DerW.ml 1 (by omega)) rfl;clear he hrd hf h128 hj1 hjm h0;generalize m / 256 ^ (j - 1)=a at *;have hj9':(j:Int)≤9:=by omega
        have hj1':0<j:=HJ.o
        go_wp2_with (first
          | (at_builtin
             refine Au _ rfl (.tmp 25) (.tmp 26) 30 rfl wr.heap.size 5 i0 _ 1 Tryz.underlying30 hi0 hz0 hs0 hb0 rfl (.slice (some ⟨wr.heap.size,0,none⟩) 1 1) 1 (bvs [0]) rfl hown0.o wr.heap.size (some ⟨g,0,none⟩) j cap (bvs (digK j m)) rfl (by rw[Aj,AY]) (HRD.o.alloc (Nat.le_refl _) _) (Bf _) (hml.o _ (by omega)) (by omega) (by simp) ?_;intro v2 w2 hown2 hg2 hat2;rw[←Bx,List.singleton_append] at hown2;obtain⟨g3,cap3,rfl,hg3,hcap3,hrd3⟩:=DerK.Ik hown2 (by simp);have hbe2:Below wr.heap.size wr w2:=((Below.refl wr.heap.size wr).alloc (Nat.le_refl _) _).grown hg2 (by simp) (fun k hk=>by simp [Value.ownBlock] at hk;omega);clear hown2 hat2)
          |(go_at_call 137;refine(Calls.mono (HEL.o _ _ _ hrd3) ?_);rintro e w1 ⟨⟨g1,c1,rfl,hg1,hc1,hrd1⟩,hb1⟩))
        go_ret;rw[E.o,G.o];exact⟨⟨g1,c1,rfl,Nat.le_trans (Nat.le_trans hbel.size hbe2.size) hg1,hc1,hrd1⟩,bt (bt hbel hbe2) hb1⟩
    · have hle : 256 ^ j ≤ m := by
        have hpj:0<256 ^ j:=Nat.pow_pos (by omega);rcases Nat.lt_or_ge m (256 ^ j) with g' | g'
        · exact absurd (Nat.div_eq_of_lt g') h0
        · exact g'
      have hj8:j<8:=by
        rcases Nat.lt_or_ge j 8 with g' | g'
        · exact g'
        · exfalso
          have:256 ^ 8≤256 ^ j:=Nat.pow_le_pow_right (by omega) g';have e:(256:Nat) ^ 8=18446744073709551616:=by decide
          have:=HM.o;omega
      have hnext:=I (show m / 256 ^ j / 256=m / 256 ^ (j+1) by rw[Nat.div_div_eq_div_mul,←Nat.pow_succ]);have hcons:=I (Kz j m);have hy:m / 256 ^ j≤m:=Nat.div_le_self _ _;have HRD:=I hrd;have HLE:=I hle;clear hrd hle hjm;generalize m / 256 ^ j=y at *;have g6:decide ((0:Int)<(y:Int))=true:=by simp;omega
      have hy':(y:Int)≤4611686018427387904:=by omega
      have hown0:Hid ((wr.alloc (.cells #[.int .u8 ((y:Int) % 256)] 5)).ownsRow wr.heap.size 5 1 (.slice (some ⟨wr.heap.size,0,none⟩) 1 1) 1 (bvs [UInt8.ofNat y])):=by
        have:=World.ownsRow_lit (base:=wr.heap.size) (e:=5) (size:=1) wr #[.int .u8 ((y:Int) % 256)] 1 (Nat.le_refl _) (DerW.ml 1 (by omega)) rfl;rw[show(#[Value.int .u8 ((y:Int) % 256)]:Array Value).toList=bvs [UInt8.ofNat y] by simp [bvs,bv]] at this;exact this
      have HY:=I (show 0<y by omega);clear h0 hy
      go_wp2_with (at_builtin
                   refine Au _ rfl (.tmp 18) (.tmp 19) 30 rfl wr.heap.size 5 i0 _ 1 Tryz.underlying30 hi0 hz0 hs0 hb0 rfl (.slice (some ⟨wr.heap.size,0,none⟩) 1 1) 1 (bvs [UInt8.ofNat y]) rfl hown0.o wr.heap.size (some ⟨g,0,none⟩) j cap (bvs (digK j m)) rfl (by rw[Aj,AY]) (HRD.o.alloc (Nat.le_refl _) _) (Bf _) (hml.o _ (by omega)) (by omega) (by simp) ?_;intro v2 w2 hown2 hg2 hat2;rw[←Bx,List.singleton_append,←hcons.o] at hown2;obtain⟨g3,cap3,rfl,hg3,hcap3,hrd3⟩:=DerK.Ik hown2 (by rw[AY];omega);rw[AY];have hbe2:Below wr.heap.size wr w2:=((Below.refl wr.heap.size wr).alloc (Nat.le_refl _) _).grown hg2 (by simp) (fun k hk=>by simp [Value.ownBlock] at hk;omega);clear hown2 hat2)
      refine⟨⟨j+1,g3,cap3,by omega,.inr (by simpa using HLE.o),by omega,?_,rfl,hrd3,bt hbel hbe2⟩,?_⟩
      · rw [← hnext.o]; rfl
      · have := HY.o; simp [intOf]; omega
end DerR
end
section
namespace DerR
open Go.RowKit Af DerP
theorem Vx {w:World} {base n:Nat} {t:TypeId} {v:Value} {l:L} (h:w.ownsRow base t 1 v n (bvs l)) :
  ∃A cap,v = .slice A l.length cap∧Rd w w.heap.size A (bvs l):=by
 have hn:n=l.length:=by have:=h.1;rw[Aj] at this;omega
 subst hn;rcases h.2 with⟨h1,h2⟩ | ⟨g,cap,cur,rfl,hg,_,hc,_⟩
 ·subst h1
  have:l = []:=List.eq_nil_of_length_eq_zero h2;subst this;exact⟨none,0,rfl,.inl rfl⟩
 ·exact⟨_,cap,rfl,Rd.of_own h⟩
def Ew (ls:List L) (k:Nat):L:=(ls.take k).flatten
theorem LV (ls:List L) (k:Nat) (l:L) (h:ls[k]? = some l):Ew ls (k+1)=Ew ls k++l:=DerW.Ii ls k l h
theorem Qf (ls:List L) (k:Nat):(Ew ls k).length≤ls.flatten.length:=DerW.Ij ls k
theorem OF (ls:List L):Ew ls ls.length=ls.flatten:=by rw[Ew,List.take_of_length_le (Nat.le_refl _)]
theorem Df (t : UInt8) (ls : List L) (A : Option Addr) (m c B : Nat) (w : World) (hr : DerW.Rds w B A ls) (hm : m = ls.length) (hB : B ≤ w.heap.size) (hl : ls.flatten.length ≤ 65535) (hc : ls.length ≤ 1000000) :
    Calls Tryz.prog 87 #[.int .u8 t.toNat,.slice A m c] w (BE w (elem t ls.flatten)):=by
  obtain⟨i0,hi0,hz0,hs0,hb0⟩:=info_parts DerW.BD;have HR:=I hr;have hfl:=I (fun k=>Nat.le_trans (Qf ls k) hl);have hfa:=I (OF ls);have hml:=I DerW.ml;have hc':(m:Int)≤1000000:=by omega
  have HM:=I hm;have HL:=I hl;have h00:=I (World.ownsRow_nil w w.heap.size 5 1);clear hr hm hc hl;go_enter Tryz.func87,Tryz.ntmps87
  go_wp2
  go_loopw [5,6] (fun v i wr=>∃k:Nat,k≤m∧i = .int .i64 (k:Int)∧wr.ownsRow w.heap.size 5 1 v (Ew ls k).length (bvs (Ew ls k))∧Below w.heap.size w wr) (fun _ i _=>m - (intOf i).toNat)
  case atStart=>exact⟨0,by omega,rfl,h00.o,Below.refl _ _⟩
  case round=>
    obtain⟨k,hk,rfl,hown,hbel⟩:=hrel
    by_cases hlt:k<m
    · obtain ⟨l, hx⟩ : ∃ l, ls[k]? = some l := ⟨_, List.getElem?_eq_getElem (by have := HM.o; omega)⟩
      obtain⟨b,o,rfl,hb,A',c',hcell,hrd⟩:=(HR.o.below (hbel.mono hB)).at_ hx;have hs:=LV ls k l hx;have hf2:=hfl.o (k+1);have hs1:=congrArg List.length hs;rw[List.length_append] at hs1;have HS:=I hs;have hsum:(Ew ls k).length+l.length≤65535:=by omega
      have HO:=I hown;have HQ:=I hrd;clear hs hs1 hx hf2 hown hrd
      go_wp2_with (at_builtin
                   refine Au _ rfl (.tmp 13) (.tmp 17) 30 rfl w.heap.size 5 i0 _ 1 Tryz.underlying30 hi0 hz0 hs0 hb0 rfl _ (Ew ls k).length (bvs (Ew ls k)) rfl HO.o B A' l.length c' (bvs l) rfl (Aj l).symm HQ.o (Bf _) (hml.o _ (by omega)) (by omega) hbel.size ?_;intro v2 w2 hown2 hg2 hat2)
      refine⟨⟨k+1,by omega,by go_num,?_,hbel.grown hg2 hbel.size (fun i hi=>(HO.o.lt i hi).1)⟩,by simp [intOf];omega⟩;rw[HS.o,Bx,List.length_append];exact hown2
    · obtain rfl : k = m := by omega
      have e:Ew ls k=ls.flatten:=by rw[HM.o];exact hfa.o
      rw[e] at hown;obtain⟨A2,cap2,rfl,hrd2⟩:=Vx hown;have HQ:=I hrd2;have HE:=I (DR t ls.flatten A2 ls.flatten.length cap2 _ wr hrd2 rfl (Nat.le_refl _) HL.o);clear hk hlt e hown hrd2;generalize ls.flatten.length=q at *
      go_wp2_with (go_at_call 137;refine(Calls.mono HE.o ?_);rintro e w1 ⟨⟨g1,c1,rfl,hg1,hc1,hrd1⟩,hb1⟩)
      go_ret;exact⟨⟨g1,c1,rfl,Nat.le_trans hbel.size hg1,hc1,hrd1⟩,bt hbel hb1⟩
end DerR
end
section
namespace DerR
open Go.RowKit Af DerP
def cutA (A:Option Addr) (c k:Nat):Option Addr:=if c=k then A else A.map (·.add k)
theorem Ex {P:Program} {t e:TypeId} (ht:P.underlying t=some (.slice e)) (hz:∀w:World,(sizeOf e).run P w = .ok 1 w) (A:Option Addr) (n c k:Nat) (K:Int) (hK:K=(k:Int)) (hk:k≤n) (w:World) :
  (Instr.slice t (.slice A n c) (some (.int .i64 K)) none none).run P w = .ok (.slice (cutA A c k) (n - k) (c - k)) w:=by
 subst hK;simp [Instr.slice,run_underlying ht,Instr.sliceBounds,run_sliceBound,hz,cutA,Result.andThen,(by omega:(k:Int)≤(n:Int))]
theorem FJ {P:Program} {t e:TypeId} (ht:P.underlying t=some (.slice e)) (hz:∀w:World,(sizeOf e).run P w = .ok 1 w) (A:Option Addr) (n c k m:Nat) (K M:Int) (hK:K=(k:Int)) (hM:M=(k:Int)+(m:Int)) (hm:k+m≤c) (w:World) :
  (Instr.slice t (.slice A n c) (some (.int .i64 K)) (some (.int .i64 M)) none).run P w = .ok (.slice (cutA A c k) m (c - k)) w:=by
 subst hK hM;have he:P.elem t=e:=by simp [Program.elem,ht]
 have ht':P.underlying t=some (.slice (P.elem t)):=by rw[he];exact ht
 rw[run_slice_lh w t A n c ht' .i64 .i64 (k:Int) ((k:Int)+(m:Int)) (by omega) (by omega) (by omega),he,hz];simp only[Result.andThen,sliced,Nat.mul_one,cutA,Int.toNat_natCast];have e2:((k:Int)+(m:Int)).toNat - k=m:=by omega
 rw[e2]
theorem Uz {w:World} {B:Nat} {A:Option Addr} {l:L} {c:Nat} (h:Rd w B A (bvs l)) (k:Nat) (hl:l.length≤c):Rd w B (cutA A c k) (bvs (l.drop k)):=by
 unfold cutA
 by_cases hc:c=k
 ·rw[if_pos hc,List.drop_of_length_le (by omega)]
  exact .inl rfl
 ·rw[if_neg hc]
  rcases h with h | ⟨b,o,h1,h2,h3⟩
  ·have:l = []:=List.map_eq_nil_iff.1 h
   subst this;exact .inl (by simp [bvs])
  ·subst h1
   refine .inr ⟨b,o+k,by simp [addr_add],h2,fun i u hu=>?_⟩;rw[Nat.add_assoc];refine h3 (k+i) u ?_;rw[←hu];simp [bvs,List.getElem?_map,List.getElem?_drop]
theorem Im {w:World} {B:Nat} {A:Option Addr} {l:L} (h:Rd w B A (bvs l)) (m:Nat):Rd w B A (bvs (l.take m)):=by
 rcases h with h | ⟨b,o,h1,h2,h3⟩
 ·have:l = []:=List.map_eq_nil_iff.1 h
  subst this;exact .inl (by simp [bvs])
 ·refine .inr ⟨b,o,h1,h2,fun i u hu=>h3 i u ?_⟩
  by_cases hi:i<m
  ·rw[←hu];simp only[bvs,List.getElem?_map,List.getElem?_take,if_pos hi]
  ·rw[List.getElem?_eq_none (by rw[Aj,List.length_take];omega)] at hu;cases hu
def RS (w:World) (B:Nat) (A:Option Addr) (n cap:Nat) (e:Bool):Option L→Prop
 |none=>e=true
 |some l=>e=false∧n=l.length∧n≤cap∧Rd w B A (bvs l)
def RC (w:World) (B g:Nat) (c:Option L):Prop:=∃A n cap e,Blk w g 175 #[.slice A n cap,.bool e]∧RS w B A n cap e c
theorem RC.keep {w w':World} {B g:Nat} {c:Option L} (h:RC w B g c) {row:Option Nat} (hg:w.grownBy w' row) (hne:row≠some g) (hB:B≤w.heap.size) (hr:∀k,row=some k→B≤k):RC w' B g c:=by
 obtain⟨A,n,cap,e,h1,h2⟩:=h;refine⟨A,n,cap,e,h1.grown hg hne,?_⟩;cases c with
 |none=>exact h2
 |some l=>exact⟨h2.1,h2.2.1,h2.2.2.1,h2.2.2.2.grown hg hB hr⟩
def Took (w:World) (B g:Nat) (t:UInt8) (c:Option L) (e:Ending) (w':World):Prop:=
 (∃A' cap',e = .returned (.slice A' ((AF t c).getD []).length cap')∧((AF t c).getD []).length≤cap'∧Rd w' B A' (bvs ((AF t c).getD [])))∧RC w' B g (AZ t c)∧w.grownBy w' (some g)
theorem BK {w:World} {B g:Nat} {t:UInt8} {c:Option L} {A:Option Addr} {n cap:Nat} {e:Bool} (hb:Blk w g 175 #[.slice A n cap,.bool e]) (h:AF t c=none) {w0:World} (hg:w0.grownBy w (some g)) :
  Took w0 B g t c (.returned (.slice none 0 0)) (w.setCell ⟨g,1,none⟩ (.bool true)):=by
 have hn:=Gc t c h;unfold Took;rw[h,hn];exact⟨⟨none,0,rfl,Nat.le_refl _,.inl rfl⟩,⟨A,n,cap,true,hb.set 1 (.bool true),rfl⟩,Ay hg (.inl rfl) _⟩
theorem OG (t:UInt8) (B g:Nat) (w:World) (h:RC w B g none) :
  Calls Tryz.prog 135 #[.pointer (some ⟨g,0,none⟩),.int .u8 t.toNat] w (Took w B g t none):=by
 obtain⟨A,n,cap,e,hb,he⟩:=h;obtain rfl:e=true:=he;have h0:w.cell? ⟨g,0,none⟩=some (.slice A n cap):=hb.cell 0;have h1:w.cell? ⟨g,1,none⟩=some (.bool true):=hb.cell 1;have f1:=hb.frozen 1;have HB:=I hb;clear hb;go_enter Tryz.func135,Tryz.ntmps135
 go_wp2
 go_ret;exact BK HB.o rfl (World.grownBy.refl _ _)
theorem Io (t:UInt8) (B g:Nat) (A:Option Addr) (cap:Nat) (l:L) (w:World) (hb:Blk w g 175 #[.slice A l.length cap,.bool false]) (hl:l.length<2) :
  Calls Tryz.prog 135 #[.pointer (some ⟨g,0,none⟩),.int .u8 t.toNat] w (Took w B g t (some l)):=by
 have h0:w.cell? ⟨g,0,none⟩=some (.slice A l.length cap):=hb.cell 0;have h1:w.cell? ⟨g,1,none⟩=some (.bool false):=hb.cell 1;have f1:=hb.frozen 1;have HB:=I hb;have g1:decide ((l.length:Int)<2)=true:=by simp only[decide_eq_true_eq];omega
 have E:=I (show AF t (some l)=none by
  refine(Bd ?_).1;rcases l with _ | ⟨a,_ | ⟨b,r⟩⟩
  ·rfl
  ·simp [Ba,lenR]
  ·simp at hl;omega)
 clear hb hl;go_enter Tryz.func135,Tryz.ntmps135
 go_wp2
 go_ret;exact BK HB.o E.o (World.grownBy.refl _ _)
end DerR
end
section
namespace DerR
open Go.RowKit Af DerP
theorem Ci {w:World} {B:Nat} {A:Option Addr} {l:L} (h:Rd w B A (bvs l)) (hl:0<l.length):∃b o,A=some ⟨b,o,none⟩∧b<B∧∀i (hi:i<l.length),w.cell? ⟨b,o+i,none⟩=some (.int .u8 ((l[i]).toNat:Int)):=by
 obtain⟨b,o,h1,h2,_⟩:=h.at_ (Dw hl);refine⟨b,o,h1,h2,fun i hi=>?_⟩;obtain⟨b',o',e,_,hc⟩:=h.at_ (Dw hi);rw[h1] at e;injection e with e;injection e with e1 e2;subst e1 e2;exact hc
theorem FR {t:UInt8} {s:L} {m k:Nat} (h:lenR s=(m,k,true)) (hf:m+k≤s.length):Ba t (t :: s)=some (((t :: s).drop (k+1)).take m,(t :: s).drop (k+1+m)):=by
 rw[Ba,h,if_pos ⟨rfl,rfl,hf⟩]
 congr 2
 rw[List.drop_drop,show k+1+m=(k+m)+1 by omega]
 rfl
theorem BU {t:UInt8} {s:L} {m k:Nat} {ok:Bool} (h:lenR s=(m,k,ok)) (hf:ok=false∨¬m+k≤s.length):Ba t (t :: s)=none:=by
 rw[Ba,h];refine if_neg fun hh=>?_
 rcases hf with rfl | hf
 ·exact absurd hh.2.1 (by simp)
 ·exact hf hh.2.2
theorem GI (n k:Nat) (h:n≤65535) (hk:(szL n).length=k) (w:World):Calls Tryz.prog 207 #[.int .i64 (n:Int)] w fun e w'=>(∃g cap,e = .returned (.slice (some ⟨g,0,none⟩) k cap))∧Below w.heap.size w w':=by
 subst hk;exact(Ni n h w).mono fun e w' ⟨⟨g,cap,he,_⟩,hb⟩=>⟨⟨g,cap,he⟩,hb⟩
theorem Dz:∀w:World,(sizeOf 5).run Tryz.prog w = .ok 1 w:=fun w=>by kernel_rfl
theorem LW {w w1:World} {B g:Nat} {t:UInt8} {l:L} {A:Option Addr} {cap p m:Nat} (hc:l.length≤cap) (hs:Ba t l=some ((l.drop p).take m,l.drop (p+m))) (hf:p+m≤l.length)
  (hr:Rd w B A (bvs l)) (hb:Blk w1 g 175 #[.slice A l.length cap,.bool false]) (hg:w.grownBy w1 (some g)) (hB:B≤w.heap.size) (hBg:B≤g) :
  Took w B g t (some l) (.returned (.slice (cutA A cap p) m (cap - p))) (w1.setCell ⟨g,0,none⟩ (.slice (cutA A cap (p+m)) (l.length - (p+m)) (cap - (p+m)))):=by
 obtain⟨e1,e2⟩:=CX hs;have hg':=Ay (p:=⟨g,0,none⟩) hg (.inl rfl) (.slice (cutA A cap (p+m)) (l.length - (p+m)) (cap - (p+m)));have hk:∀xs A',Rd w B A' xs→Rd (w1.setCell ⟨g,0,none⟩ (.slice (cutA A cap (p+m)) (l.length - (p+m)) (cap - (p+m)))) B A' xs:=fun xs A' h=>h.grown hg' hB (fun k hk=>by injection hk with hk;omega)
 have hlen:((l.drop p).take m).length=m:=by rw[List.length_take,List.length_drop];omega
 unfold Took;rw[e1,e2];simp only[Option.getD_some];refine⟨⟨cutA A cap p,cap - p,by rw[hlen],by rw[hlen];omega,hk _ _ (Im (Uz hr p hc) m)⟩,⟨_,_,_,false,hb.set 0 _,rfl,by rw[List.length_drop],by omega,hk _ _ (Uz hr (p+m) hc)⟩,hg'⟩
theorem Qg (B g:Nat) (A:Option Addr) (n cap:Nat) (t a x:UInt8) (r:L) (w:World) (hb:Blk w g 175 #[.slice A n cap,.bool false]) (hn:n=(a :: x :: r).length) (hc:n≤cap) (hr:Rd w B A (bvs (a :: x :: r))) (hB:B≤w.heap.size) (hBg:B≤g) (hu:n≤100000) (hne:a≠t) :
  Calls Tryz.prog 135 #[.pointer (some ⟨g,0,none⟩),.int .u8 t.toNat] w (Took w B g t (some (a :: x :: r))):=by
 have h0:w.cell? ⟨g,0,none⟩=some (.slice A n cap):=hb.cell 0;have h1:w.cell? ⟨g,1,none⟩=some (.bool false):=hb.cell 1;have f0:=hb.frozen 0;have f1:=hb.frozen 1;obtain⟨b,o,rfl,hbB,hcell⟩:=Ci hr (by simp);have hnl:=hn;simp only[List.length_cons] at hnl;have c0:w.cell? ⟨b,o,none⟩=some (.int .u8 ((a).toNat:Int)):=hcell 0 (by simp);have E:=I ((Bd (PZ (s:=x :: r) hne)).1);have q1:((a.toNat:Int)==(t.toNat:Int))=false:=by simp;exact fun e=>hne (UInt8.toNat_inj.1 (by omega))
 have q2:((a.toNat:Int) != (t.toNat:Int))=true:=by simp;exact fun e=>hne (UInt8.toNat_inj.1 (by omega))
 have hn2:(2:Int)≤(n:Int):=by omega
 have hnu:(n:Int)≤100000:=by omega
 have g0:decide ((n:Int)<2)=false:=by simp only[decide_eq_false_iff_not];omega
 have HB:=I hb;have HN:=I hn;have HC:=I hc;have HR:=I hr;have HBB:=I hB;have HBG:=I hBg;clear hb hn hc hr hB hBg hu hnl hcell;clear hne;go_enter Tryz.func135,Tryz.ntmps135
 go_wp2
 go_ret;exact BK HB.o E.o (World.grownBy.refl _ _)
theorem Jc (B g : Nat) (A : Option Addr) (n cap : Nat) (t x : UInt8) (r : L) (w : World) (hb : Blk w g 175 #[.slice A n cap, .bool false]) (hn : n = (t :: x :: r).length) (hc : n ≤ cap) (hr : Rd w B A (bvs (t :: x :: r))) (hB : B ≤ w.heap.size) (hBg : B ≤ g) (hu : n ≤ 100000) (hx1 : x.toNat < 128) (hf : x.toNat ≤ r.length) :
    Calls Tryz.prog 135 #[.pointer (some ⟨g,0,none⟩),.int .u8 t.toNat] w (Took w B g t (some (t :: x :: r))):=by
  have h0:w.cell? ⟨g,0,none⟩=some (.slice A n cap):=hb.cell 0;have h1:w.cell? ⟨g,1,none⟩=some (.bool false):=hb.cell 1;have f0:=hb.frozen 0;have f1:=hb.frozen 1;obtain⟨b,o,rfl,hbB,hcell⟩:=Ci hr (by simp);have hnl:=hn;simp only[List.length_cons] at hnl;have c0:w.cell? ⟨b,o,none⟩=some (.int .u8 ((t).toNat:Int)):=hcell 0 (by simp);have c1:w.cell? ⟨b,o+1,none⟩=some (.int .u8 ((x).toNat:Int)):=hcell 1 (by simp);have hx255:=Br x;have q0129:((x.toNat:Int)==129)=false:=by simp;omega
  have q0130:((x.toNat:Int)==130)=false:=by simp;omega
  have q3:decide ((128:Int)≤(x.toNat:Int))=false:=by simp only[decide_eq_false_iff_not];omega
  have q4:decide ((n:Int) - 2<(x.toNat:Int))=false:=by simp only[decide_eq_false_iff_not];omega
  have hsz:=I (fun W=>GI (x.toNat) 1 (by omega) (by rw[BI];rw[if_pos (by omega)]) W);have hmu:(x.toNat:Int)≤65535:=by omega
  have HS:=I (FR (t:=t) (Fg (r:=r) hx1) (by simp only[List.length_cons];omega));have HF:=I (show 2+x.toNat≤(t :: x :: r).length by simp only[List.length_cons];omega);have hcf:=Ex (P:=Tryz.prog) Tryz.underlying30 Dz (some ⟨b,o,none⟩) n cap (2+x.toNat) (2+(x.toNat:Int)) (by omega) (by omega);have hcm:=FJ (P:=Tryz.prog) Tryz.underlying30 Dz (some ⟨b,o,none⟩) n cap 2 x.toNat 2 (2+(x.toNat:Int)) rfl rfl (by omega);have hn2:(2:Int)≤(n:Int):=by omega
  have hnu:(n:Int)≤100000:=by omega
  have g0:decide ((n:Int)<2)=false:=by simp only[decide_eq_false_iff_not];omega
  have HB:=I hb;have HN:=I hn;have HC:=I hc;have HR:=I hr;have HBB:=I hB;have HBG:=I hBg;clear hb hn hc hr hB hBg hu hnl hcell;clear hx1 hf;go_enter Tryz.func135,Tryz.ntmps135
  go_wp2_with (go_at_call 207; refine (hsz.o _).mono ?_; rintro e w1 ⟨⟨g1, cap1, rfl⟩, hb1⟩
               have HB1:=I (HB.o.below hb1);have k0:w1.cell? ⟨g,0,none⟩=some (.slice (some ⟨b,o,none⟩) n cap):=HB1.o.cell 0;have k1:w1.cell? ⟨g,1,none⟩=some (.bool false):=HB1.o.cell 1;have kf0:=HB1.o.frozen 0;have kf1:=HB1.o.frozen 1)
  go_ret;have hn:=HN.o;subst hn;exact LW HC.o HS.o HF.o HR.o HB1.o (Bk hb1 _) HBB.o HBG.o
theorem Jd (B g:Nat) (A:Option Addr) (n cap:Nat) (t x:UInt8) (r:L) (w:World) (hb:Blk w g 175 #[.slice A n cap,.bool false]) (hn:n=(t :: x :: r).length) (hc:n≤cap) (hr:Rd w B A (bvs (t :: x :: r))) (hB:B≤w.heap.size) (hBg:B≤g) (hu:n≤100000) (hx1:x.toNat<128) (hf:¬x.toNat≤r.length) :
  Calls Tryz.prog 135 #[.pointer (some ⟨g,0,none⟩),.int .u8 t.toNat] w (Took w B g t (some (t :: x :: r))):=by
 have h0:w.cell? ⟨g,0,none⟩=some (.slice A n cap):=hb.cell 0;have h1:w.cell? ⟨g,1,none⟩=some (.bool false):=hb.cell 1;have f0:=hb.frozen 0;have f1:=hb.frozen 1;obtain⟨b,o,rfl,hbB,hcell⟩:=Ci hr (by simp);have hnl:=hn;simp only[List.length_cons] at hnl;have c0:w.cell? ⟨b,o,none⟩=some (.int .u8 ((t).toNat:Int)):=hcell 0 (by simp);have c1:w.cell? ⟨b,o+1,none⟩=some (.int .u8 ((x).toNat:Int)):=hcell 1 (by simp);have hx255:=Br x;have q0129:((x.toNat:Int)==129)=false:=by simp;omega
 have q0130:((x.toNat:Int)==130)=false:=by simp;omega
 have q3:decide ((128:Int)≤(x.toNat:Int))=false:=by simp only[decide_eq_false_iff_not];omega
 have E:=I ((Bd (BU (t:=t) (Fg (r:=r) hx1) (.inr (by simp only[List.length_cons];omega)))).1);have q4:decide ((n:Int) - 2<(x.toNat:Int))=true:=by simp only[decide_eq_true_eq];omega
 have hn2:(2:Int)≤(n:Int):=by omega
 have hnu:(n:Int)≤100000:=by omega
 have g0:decide ((n:Int)<2)=false:=by simp only[decide_eq_false_iff_not];omega
 have HB:=I hb;have HN:=I hn;have HC:=I hc;have HR:=I hr;have HBB:=I hB;have HBG:=I hBg;clear hb hn hc hr hB hBg hu hnl hcell;clear hx1 hf;go_enter Tryz.func135,Tryz.ntmps135
 go_wp2
 go_ret;exact BK HB.o E.o (World.grownBy.refl _ _)
theorem JP (B g:Nat) (A:Option Addr) (n cap:Nat) (t x:UInt8)  (w:World) (hb:Blk w g 175 #[.slice A n cap,.bool false]) (hn:n=(t :: x :: []).length) (hc:n≤cap) (hr:Rd w B A (bvs (t :: x :: []))) (hB:B≤w.heap.size) (hBg:B≤g) (hu:n≤100000) (hx1:x.toNat=129) :
  Calls Tryz.prog 135 #[.pointer (some ⟨g,0,none⟩),.int .u8 t.toNat] w (Took w B g t (some (t :: x :: []))):=by
 have h0:w.cell? ⟨g,0,none⟩=some (.slice A n cap):=hb.cell 0;have h1:w.cell? ⟨g,1,none⟩=some (.bool false):=hb.cell 1;have f0:=hb.frozen 0;have f1:=hb.frozen 1;obtain⟨b,o,rfl,hbB,hcell⟩:=Ci hr (by simp);have hnl:=hn;simp only[List.length_cons,List.length_nil] at hnl;have c0:w.cell? ⟨b,o,none⟩=some (.int .u8 ((t).toNat:Int)):=hcell 0 (by simp);have c1:w.cell? ⟨b,o+1,none⟩=some (.int .u8 ((x).toNat:Int)):=hcell 1 (by simp);have hx255:=Br x;have q0129:((x.toNat:Int)==129)=true:=by simp;omega
 have q0130:((x.toNat:Int)==130)=false:=by simp;omega
 have q3:decide ((128:Int)≤(x.toNat:Int))=true:=by simp only[decide_eq_true_eq];omega
 have ql3:decide ((3:Int)≤(n:Int))=false:=by simp only[decide_eq_false_iff_not];omega
 have E:=I ((Bd (BU (t:=t) (Er hx1) (.inl rfl))).1);have hn2:(2:Int)≤(n:Int):=by omega
 have hnu:(n:Int)≤100000:=by omega
 have g0:decide ((n:Int)<2)=false:=by simp only[decide_eq_false_iff_not];omega
 have HB:=I hb;have HN:=I hn;have HC:=I hc;have HR:=I hr;have HBB:=I hB;have HBG:=I hBg;clear hb hn hc hr hB hBg hu hnl hcell;clear hx1;go_enter Tryz.func135,Tryz.ntmps135
 go_wp2
 go_ret;exact BK HB.o E.o (World.grownBy.refl _ _)
theorem KC (B g:Nat) (A:Option Addr) (n cap:Nat) (t x:UInt8) (y:UInt8) (r:L) (w:World) (hb:Blk w g 175 #[.slice A n cap,.bool false]) (hn:n=(t :: x :: y :: r).length) (hc:n≤cap) (hr:Rd w B A (bvs (t :: x :: y :: r))) (hB:B≤w.heap.size) (hBg:B≤g) (hu:n≤100000) (hx1:x.toNat=129) (hf:¬y.toNat≤r.length) :
  Calls Tryz.prog 135 #[.pointer (some ⟨g,0,none⟩),.int .u8 t.toNat] w (Took w B g t (some (t :: x :: y :: r))):=by
 have h0:w.cell? ⟨g,0,none⟩=some (.slice A n cap):=hb.cell 0;have h1:w.cell? ⟨g,1,none⟩=some (.bool false):=hb.cell 1;have f0:=hb.frozen 0;have f1:=hb.frozen 1;obtain⟨b,o,rfl,hbB,hcell⟩:=Ci hr (by simp);have hnl:=hn;simp only[List.length_cons] at hnl;have c0:w.cell? ⟨b,o,none⟩=some (.int .u8 ((t).toNat:Int)):=hcell 0 (by simp);have c1:w.cell? ⟨b,o+1,none⟩=some (.int .u8 ((x).toNat:Int)):=hcell 1 (by simp);have hlt2:(2:Int)<(n:Int):=by omega
 have c2:w.cell? ⟨b,o+2,none⟩=some (.int .u8 ((y).toNat:Int)):=hcell 2 (by simp);have hy255:=Br y;have hx255:=Br x;have q0129:((x.toNat:Int)==129)=true:=by simp;omega
 have q0130:((x.toNat:Int)==130)=false:=by simp;omega
 have q3:decide ((128:Int)≤(x.toNat:Int))=true:=by simp only[decide_eq_true_eq];omega
 have ql3:decide ((3:Int)≤(n:Int))=true:=by simp only[decide_eq_true_eq];omega
 have E:=I ((Bd (BU (t:=t) (Gb (b:=y) (r:=r) hx1) (.inr (by simp only[List.length_cons];omega)))).1);have q4:decide ((n:Int) - 3<(y.toNat:Int))=true:=by simp only[decide_eq_true_eq];omega
 have hn2:(2:Int)≤(n:Int):=by omega
 have hnu:(n:Int)≤100000:=by omega
 have g0:decide ((n:Int)<2)=false:=by simp only[decide_eq_false_iff_not];omega
 have HB:=I hb;have HN:=I hn;have HC:=I hc;have HR:=I hr;have HBB:=I hB;have HBG:=I hBg;clear hb hn hc hr hB hBg hu hnl hcell;clear hx1 hf;go_enter Tryz.func135,Tryz.ntmps135
 go_wp2
 go_ret;exact BK HB.o E.o (World.grownBy.refl _ _)
theorem Je (B g : Nat) (A : Option Addr) (n cap : Nat) (t x : UInt8) (y : UInt8) (r : L) (w : World) (hb : Blk w g 175 #[.slice A n cap, .bool false]) (hn : n = (t :: x :: y :: r).length) (hc : n ≤ cap) (hr : Rd w B A (bvs (t :: x :: y :: r))) (hB : B ≤ w.heap.size) (hBg : B ≤ g) (hu : n ≤ 100000) (hx1 : x.toNat = 129) (hf : y.toNat ≤ r.length) (hy : y.toNat < 128) :
    Calls Tryz.prog 135 #[.pointer (some ⟨g,0,none⟩),.int .u8 t.toNat] w (Took w B g t (some (t :: x :: y :: r))):=by
  have h0:w.cell? ⟨g,0,none⟩=some (.slice A n cap):=hb.cell 0;have h1:w.cell? ⟨g,1,none⟩=some (.bool false):=hb.cell 1;have f0:=hb.frozen 0;have f1:=hb.frozen 1;obtain⟨b,o,rfl,hbB,hcell⟩:=Ci hr (by simp);have hnl:=hn;simp only[List.length_cons] at hnl;have c0:w.cell? ⟨b,o,none⟩=some (.int .u8 ((t).toNat:Int)):=hcell 0 (by simp);have c1:w.cell? ⟨b,o+1,none⟩=some (.int .u8 ((x).toNat:Int)):=hcell 1 (by simp);have hlt2:(2:Int)<(n:Int):=by omega
  have c2:w.cell? ⟨b,o+2,none⟩=some (.int .u8 ((y).toNat:Int)):=hcell 2 (by simp);have hy255:=Br y;have hx255:=Br x;have q0129:((x.toNat:Int)==129)=true:=by simp;omega
  have q0130:((x.toNat:Int)==130)=false:=by simp;omega
  have q3:decide ((128:Int)≤(x.toNat:Int))=true:=by simp only[decide_eq_true_eq];omega
  have ql3:decide ((3:Int)≤(n:Int))=true:=by simp only[decide_eq_true_eq];omega
  have q4:decide ((n:Int) - 3<(y.toNat:Int))=false:=by simp only[decide_eq_false_iff_not];omega
  have hsz:=I (fun W=>GI (y.toNat) 1 (by omega) (by rw[BI];rw[if_pos (by omega)]) W);have hmu:(y.toNat:Int)≤65535:=by omega
  have E:=I ((Bd (BU (t:=t) (Gb (b:=y) (r:=r) hx1) (.inl (by simp;omega)))).1);have hn2:(2:Int)≤(n:Int):=by omega
  have hnu:(n:Int)≤100000:=by omega
  have g0:decide ((n:Int)<2)=false:=by simp only[decide_eq_false_iff_not];omega
  have HB:=I hb;have HN:=I hn;have HC:=I hc;have HR:=I hr;have HBB:=I hB;have HBG:=I hBg;clear hb hn hc hr hB hBg hu hnl hcell;clear hx1 hf hy;go_enter Tryz.func135,Tryz.ntmps135
  go_wp2_with (go_at_call 207; refine (hsz.o _).mono ?_; rintro e w1 ⟨⟨g1, cap1, rfl⟩, hb1⟩
               have HB1:=I (HB.o.below hb1);have k0:w1.cell? ⟨g,0,none⟩=some (.slice (some ⟨b,o,none⟩) n cap):=HB1.o.cell 0;have k1:w1.cell? ⟨g,1,none⟩=some (.bool false):=HB1.o.cell 1;have kf0:=HB1.o.frozen 0;have kf1:=HB1.o.frozen 1)
  go_ret;exact BK HB1.o E.o (Bk hb1 _)
theorem KE (B g : Nat) (A : Option Addr) (n cap : Nat) (t x : UInt8) (y : UInt8) (r : L) (w : World) (hb : Blk w g 175 #[.slice A n cap, .bool false]) (hn : n = (t :: x :: y :: r).length) (hc : n ≤ cap) (hr : Rd w B A (bvs (t :: x :: y :: r))) (hB : B ≤ w.heap.size) (hBg : B ≤ g) (hu : n ≤ 100000) (hx1 : x.toNat = 129) (hf : y.toNat ≤ r.length) (hy : ¬ y.toNat < 128) :
    Calls Tryz.prog 135 #[.pointer (some ⟨g,0,none⟩),.int .u8 t.toNat] w (Took w B g t (some (t :: x :: y :: r))):=by
  have h0:w.cell? ⟨g,0,none⟩=some (.slice A n cap):=hb.cell 0;have h1:w.cell? ⟨g,1,none⟩=some (.bool false):=hb.cell 1;have f0:=hb.frozen 0;have f1:=hb.frozen 1;obtain⟨b,o,rfl,hbB,hcell⟩:=Ci hr (by simp);have hnl:=hn;simp only[List.length_cons] at hnl;have c0:w.cell? ⟨b,o,none⟩=some (.int .u8 ((t).toNat:Int)):=hcell 0 (by simp);have c1:w.cell? ⟨b,o+1,none⟩=some (.int .u8 ((x).toNat:Int)):=hcell 1 (by simp);have hlt2:(2:Int)<(n:Int):=by omega
  have c2:w.cell? ⟨b,o+2,none⟩=some (.int .u8 ((y).toNat:Int)):=hcell 2 (by simp);have hy255:=Br y;have hx255:=Br x;have q0129:((x.toNat:Int)==129)=true:=by simp;omega
  have q0130:((x.toNat:Int)==130)=false:=by simp;omega
  have q3:decide ((128:Int)≤(x.toNat:Int))=true:=by simp only[decide_eq_true_eq];omega
  have ql3:decide ((3:Int)≤(n:Int))=true:=by simp only[decide_eq_true_eq];omega
  have q4:decide ((n:Int) - 3<(y.toNat:Int))=false:=by simp only[decide_eq_false_iff_not];omega
  have hsz:=I (fun W=>GI (y.toNat) 2 (by omega) (by rw[BI];rw[if_neg (by omega),if_pos (by omega)]) W);have hmu:(y.toNat:Int)≤65535:=by omega
  have HS:=I (FR (t:=t) ((Gb (b:=y) (r:=r) hx1).trans (by rw[decide_eq_true (show 128≤y.toNat by omega)])) (by simp only[List.length_cons];omega));have HF:=I (show 3+y.toNat≤(t :: x :: y :: r).length by simp only[List.length_cons];omega);have hcf:=Ex (P:=Tryz.prog) Tryz.underlying30 Dz (some ⟨b,o,none⟩) n cap (3+y.toNat) (3+(y.toNat:Int)) (by omega) (by omega);have hcm:=FJ (P:=Tryz.prog) Tryz.underlying30 Dz (some ⟨b,o,none⟩) n cap 3 y.toNat 3 (3+(y.toNat:Int)) rfl rfl (by omega);have hn2:(2:Int)≤(n:Int):=by omega
  have hnu:(n:Int)≤100000:=by omega
  have g0:decide ((n:Int)<2)=false:=by simp only[decide_eq_false_iff_not];omega
  have HB:=I hb;have HN:=I hn;have HC:=I hc;have HR:=I hr;have HBB:=I hB;have HBG:=I hBg;clear hb hn hc hr hB hBg hu hnl hcell;clear hx1 hf hy;go_enter Tryz.func135,Tryz.ntmps135
  go_wp2_with (go_at_call 207; refine (hsz.o _).mono ?_; rintro e w1 ⟨⟨g1, cap1, rfl⟩, hb1⟩
               have HB1:=I (HB.o.below hb1);have k0:w1.cell? ⟨g,0,none⟩=some (.slice (some ⟨b,o,none⟩) n cap):=HB1.o.cell 0;have k1:w1.cell? ⟨g,1,none⟩=some (.bool false):=HB1.o.cell 1;have kf0:=HB1.o.frozen 0;have kf1:=HB1.o.frozen 1)
  go_ret;have hn:=HN.o;subst hn;exact LW HC.o HS.o HF.o HR.o HB1.o (Bk hb1 _) HBB.o HBG.o
theorem JQ (B g:Nat) (A:Option Addr) (n cap:Nat) (t x:UInt8)  (w:World) (hb:Blk w g 175 #[.slice A n cap,.bool false]) (hn:n=(t :: x :: []).length) (hc:n≤cap) (hr:Rd w B A (bvs (t :: x :: []))) (hB:B≤w.heap.size) (hBg:B≤g) (hu:n≤100000) (hx1:x.toNat=130) :
  Calls Tryz.prog 135 #[.pointer (some ⟨g,0,none⟩),.int .u8 t.toNat] w (Took w B g t (some (t :: x :: []))):=by
 have h0:w.cell? ⟨g,0,none⟩=some (.slice A n cap):=hb.cell 0;have h1:w.cell? ⟨g,1,none⟩=some (.bool false):=hb.cell 1;have f0:=hb.frozen 0;have f1:=hb.frozen 1;obtain⟨b,o,rfl,hbB,hcell⟩:=Ci hr (by simp);have hnl:=hn;simp only[List.length_cons,List.length_nil] at hnl;have c0:w.cell? ⟨b,o,none⟩=some (.int .u8 ((t).toNat:Int)):=hcell 0 (by simp);have c1:w.cell? ⟨b,o+1,none⟩=some (.int .u8 ((x).toNat:Int)):=hcell 1 (by simp);have hx255:=Br x;have q0129:((x.toNat:Int)==129)=false:=by simp;omega
 have q0130:((x.toNat:Int)==130)=true:=by simp;omega
 have q3:decide ((128:Int)≤(x.toNat:Int))=true:=by simp only[decide_eq_true_eq];omega
 have ql4:decide ((4:Int)≤(n:Int))=false:=by simp only[decide_eq_false_iff_not];omega
 have E:=I ((Bd (BU (t:=t) (Es hx1) (.inl rfl))).1);have hn2:(2:Int)≤(n:Int):=by omega
 have hnu:(n:Int)≤100000:=by omega
 have g0:decide ((n:Int)<2)=false:=by simp only[decide_eq_false_iff_not];omega
 have HB:=I hb;have HN:=I hn;have HC:=I hc;have HR:=I hr;have HBB:=I hB;have HBG:=I hBg;clear hb hn hc hr hB hBg hu hnl hcell;clear hx1;go_enter Tryz.func135,Tryz.ntmps135
 go_wp2
 go_ret;exact BK HB.o E.o (World.grownBy.refl _ _)
theorem JR (B g:Nat) (A:Option Addr) (n cap:Nat) (t x:UInt8) (y:UInt8) (w:World) (hb:Blk w g 175 #[.slice A n cap,.bool false]) (hn:n=(t :: x :: y :: []).length) (hc:n≤cap) (hr:Rd w B A (bvs (t :: x :: y :: []))) (hB:B≤w.heap.size) (hBg:B≤g) (hu:n≤100000) (hx1:x.toNat=130) :
  Calls Tryz.prog 135 #[.pointer (some ⟨g,0,none⟩),.int .u8 t.toNat] w (Took w B g t (some (t :: x :: y :: []))):=by
 have h0:w.cell? ⟨g,0,none⟩=some (.slice A n cap):=hb.cell 0;have h1:w.cell? ⟨g,1,none⟩=some (.bool false):=hb.cell 1;have f0:=hb.frozen 0;have f1:=hb.frozen 1;obtain⟨b,o,rfl,hbB,hcell⟩:=Ci hr (by simp);have hnl:=hn;simp only[List.length_cons,List.length_nil] at hnl;have c0:w.cell? ⟨b,o,none⟩=some (.int .u8 ((t).toNat:Int)):=hcell 0 (by simp);have c1:w.cell? ⟨b,o+1,none⟩=some (.int .u8 ((x).toNat:Int)):=hcell 1 (by simp);have hx255:=Br x;have q0129:((x.toNat:Int)==129)=false:=by simp;omega
 have q0130:((x.toNat:Int)==130)=true:=by simp;omega
 have q3:decide ((128:Int)≤(x.toNat:Int))=true:=by simp only[decide_eq_true_eq];omega
 have ql4:decide ((4:Int)≤(n:Int))=false:=by simp only[decide_eq_false_iff_not];omega
 have E:=I ((Bd (BU (t:=t) (Et (b:=y) hx1) (.inl rfl))).1);have hn2:(2:Int)≤(n:Int):=by omega
 have hnu:(n:Int)≤100000:=by omega
 have g0:decide ((n:Int)<2)=false:=by simp only[decide_eq_false_iff_not];omega
 have HB:=I hb;have HN:=I hn;have HC:=I hc;have HR:=I hr;have HBB:=I hB;have HBG:=I hBg;clear hb hn hc hr hB hBg hu hnl hcell;clear hx1;go_enter Tryz.func135,Tryz.ntmps135
 go_wp2
 go_ret;exact BK HB.o E.o (World.grownBy.refl _ _)
theorem KF (B g:Nat) (A:Option Addr) (n cap:Nat) (t x:UInt8) (y z:UInt8) (r:L) (w:World) (hb:Blk w g 175 #[.slice A n cap,.bool false]) (hn:n=(t :: x :: y :: z :: r).length) (hc:n≤cap) (hr:Rd w B A (bvs (t :: x :: y :: z :: r))) (hB:B≤w.heap.size) (hBg:B≤g) (hu:n≤100000) (hx1:x.toNat=130) (hf:¬y.toNat*256+z.toNat≤r.length) :
  Calls Tryz.prog 135 #[.pointer (some ⟨g,0,none⟩),.int .u8 t.toNat] w (Took w B g t (some (t :: x :: y :: z :: r))):=by
 have h0:w.cell? ⟨g,0,none⟩=some (.slice A n cap):=hb.cell 0;have h1:w.cell? ⟨g,1,none⟩=some (.bool false):=hb.cell 1;have f0:=hb.frozen 0;have f1:=hb.frozen 1;obtain⟨b,o,rfl,hbB,hcell⟩:=Ci hr (by simp);have hnl:=hn;simp only[List.length_cons] at hnl;have c0:w.cell? ⟨b,o,none⟩=some (.int .u8 ((t).toNat:Int)):=hcell 0 (by simp);have c1:w.cell? ⟨b,o+1,none⟩=some (.int .u8 ((x).toNat:Int)):=hcell 1 (by simp);have hlt2:(2:Int)<(n:Int):=by omega
 have hlt3:(3:Int)<(n:Int):=by omega
 have c2:w.cell? ⟨b,o+2,none⟩=some (.int .u8 ((y).toNat:Int)):=hcell 2 (by simp);have hy255:=Br y;have c3:w.cell? ⟨b,o+3,none⟩=some (.int .u8 ((z).toNat:Int)):=hcell 3 (by simp);have hz255:=Br z;have hx255:=Br x;have q0129:((x.toNat:Int)==129)=false:=by simp;omega
 have q0130:((x.toNat:Int)==130)=true:=by simp;omega
 have q3:decide ((128:Int)≤(x.toNat:Int))=true:=by simp only[decide_eq_true_eq];omega
 have ql4:decide ((4:Int)≤(n:Int))=true:=by simp only[decide_eq_true_eq];omega
 obtain⟨m,hm⟩:∃m:Nat,y.toNat*256+z.toNat=m:=⟨_,rfl⟩;have hor:bits .or .i64 ((y.toNat:Int)*256) (z.toNat:Int)=(m:Int):=by rw[GY y.toNat z.toNat z.toNat_lt (by omega)];omega
 have hm0:(0:Int)≤(m:Int):=by omega
 have E:=I ((Bd (BU (t:=t) (Fh (b:=y) (c:=z) (r:=r) hx1) (.inr (by simp only[List.length_cons];omega)))).1);have q4:decide ((n:Int) - 4<(m:Int))=true:=by simp only[decide_eq_true_eq];omega
 have hn2:(2:Int)≤(n:Int):=by omega
 have hnu:(n:Int)≤100000:=by omega
 have g0:decide ((n:Int)<2)=false:=by simp only[decide_eq_false_iff_not];omega
 have HB:=I hb;have HN:=I hn;have HC:=I hc;have HR:=I hr;have HBB:=I hB;have HBG:=I hBg;clear hb hn hc hr hB hBg hu hnl hcell;clear hx1 hf;go_enter Tryz.func135,Tryz.ntmps135
 go_wp2
 go_quiet (fail)
 go_wp2
 go_ret;exact BK (HB.o.drewN _) E.o (FE (World.grownBy.refl _ _) _)
theorem KG (B g : Nat) (A : Option Addr) (n cap : Nat) (t x : UInt8) (y z : UInt8) (r : L) (w : World) (hb : Blk w g 175 #[.slice A n cap, .bool false]) (hn : n = (t :: x :: y :: z :: r).length) (hc : n ≤ cap) (hr : Rd w B A (bvs (t :: x :: y :: z :: r))) (hB : B ≤ w.heap.size) (hBg : B ≤ g) (hu : n ≤ 100000) (hx1 : x.toNat = 130) (hf : y.toNat * 256 + z.toNat ≤ r.length) (hy : y.toNat * 256 + z.toNat < 128) :
    Calls Tryz.prog 135 #[.pointer (some ⟨g,0,none⟩),.int .u8 t.toNat] w (Took w B g t (some (t :: x :: y :: z :: r))):=by
  have h0:w.cell? ⟨g,0,none⟩=some (.slice A n cap):=hb.cell 0;have h1:w.cell? ⟨g,1,none⟩=some (.bool false):=hb.cell 1;have f0:=hb.frozen 0;have f1:=hb.frozen 1;obtain⟨b,o,rfl,hbB,hcell⟩:=Ci hr (by simp);have hnl:=hn;simp only[List.length_cons] at hnl;have c0:w.cell? ⟨b,o,none⟩=some (.int .u8 ((t).toNat:Int)):=hcell 0 (by simp);have c1:w.cell? ⟨b,o+1,none⟩=some (.int .u8 ((x).toNat:Int)):=hcell 1 (by simp);have hlt2:(2:Int)<(n:Int):=by omega
  have hlt3:(3:Int)<(n:Int):=by omega
  have c2:w.cell? ⟨b,o+2,none⟩=some (.int .u8 ((y).toNat:Int)):=hcell 2 (by simp);have hy255:=Br y;have c3:w.cell? ⟨b,o+3,none⟩=some (.int .u8 ((z).toNat:Int)):=hcell 3 (by simp);have hz255:=Br z;have hx255:=Br x;have q0129:((x.toNat:Int)==129)=false:=by simp;omega
  have q0130:((x.toNat:Int)==130)=true:=by simp;omega
  have q3:decide ((128:Int)≤(x.toNat:Int))=true:=by simp only[decide_eq_true_eq];omega
  have ql4:decide ((4:Int)≤(n:Int))=true:=by simp only[decide_eq_true_eq];omega
  obtain⟨m,hm⟩:∃m:Nat,y.toNat*256+z.toNat=m:=⟨_,rfl⟩;have hor:bits .or .i64 ((y.toNat:Int)*256) (z.toNat:Int)=(m:Int):=by rw[GY y.toNat z.toNat z.toNat_lt (by omega)];omega
  have hm0:(0:Int)≤(m:Int):=by omega
  have q4:decide ((n:Int) - 4<(m:Int))=false:=by simp only[decide_eq_false_iff_not];omega
  have hsz:=I (fun W=>GI (m) 1 (by omega) (by rw[BI];rw[if_pos (by omega)]) W);have hmu:(m:Int)≤65535:=by omega
  have E:=I ((Bd (BU (t:=t) (Fh (b:=y) (c:=z) (r:=r) hx1) (.inl (by simp;omega)))).1);have hn2:(2:Int)≤(n:Int):=by omega
  have hnu:(n:Int)≤100000:=by omega
  have g0:decide ((n:Int)<2)=false:=by simp only[decide_eq_false_iff_not];omega
  have HB:=I hb;have HN:=I hn;have HC:=I hc;have HR:=I hr;have HBB:=I hB;have HBG:=I hBg;clear hb hn hc hr hB hBg hu hnl hcell;clear hx1 hf hy;go_enter Tryz.func135,Tryz.ntmps135
  go_wp2
  go_quiet (fail)
  go_wp2_with (go_at_call 207; refine (hsz.o _).mono ?_; rintro e w1 ⟨⟨g1, cap1, rfl⟩, hb1⟩
               have HB1:=I ((HB.o.drewN _).below hb1);have k0:w1.cell? ⟨g,0,none⟩=some (.slice (some ⟨b,o,none⟩) n cap):=HB1.o.cell 0;have k1:w1.cell? ⟨g,1,none⟩=some (.bool false):=HB1.o.cell 1;have kf0:=HB1.o.frozen 0;have kf1:=HB1.o.frozen 1)
  go_ret;exact BK HB1.o E.o (Bk ((below_drewN (Below.refl _ _) _).trans hb1) _)
theorem KH (B g : Nat) (A : Option Addr) (n cap : Nat) (t x : UInt8) (y z : UInt8) (r : L) (w : World) (hb : Blk w g 175 #[.slice A n cap, .bool false]) (hn : n = (t :: x :: y :: z :: r).length) (hc : n ≤ cap) (hr : Rd w B A (bvs (t :: x :: y :: z :: r))) (hB : B ≤ w.heap.size) (hBg : B ≤ g) (hu : n ≤ 100000) (hx1 : x.toNat = 130) (hf : y.toNat * 256 + z.toNat ≤ r.length) (hy : ¬ y.toNat * 256 + z.toNat < 128) (hy2 : y.toNat * 256 + z.toNat ≤ 255) :
    Calls Tryz.prog 135 #[.pointer (some ⟨g,0,none⟩),.int .u8 t.toNat] w (Took w B g t (some (t :: x :: y :: z :: r))):=by
  have h0:w.cell? ⟨g,0,none⟩=some (.slice A n cap):=hb.cell 0;have h1:w.cell? ⟨g,1,none⟩=some (.bool false):=hb.cell 1;have f0:=hb.frozen 0;have f1:=hb.frozen 1;obtain⟨b,o,rfl,hbB,hcell⟩:=Ci hr (by simp);have hnl:=hn;simp only[List.length_cons] at hnl;have c0:w.cell? ⟨b,o,none⟩=some (.int .u8 ((t).toNat:Int)):=hcell 0 (by simp);have c1:w.cell? ⟨b,o+1,none⟩=some (.int .u8 ((x).toNat:Int)):=hcell 1 (by simp);have hlt2:(2:Int)<(n:Int):=by omega
  have hlt3:(3:Int)<(n:Int):=by omega
  have c2:w.cell? ⟨b,o+2,none⟩=some (.int .u8 ((y).toNat:Int)):=hcell 2 (by simp);have hy255:=Br y;have c3:w.cell? ⟨b,o+3,none⟩=some (.int .u8 ((z).toNat:Int)):=hcell 3 (by simp);have hz255:=Br z;have hx255:=Br x;have q0129:((x.toNat:Int)==129)=false:=by simp;omega
  have q0130:((x.toNat:Int)==130)=true:=by simp;omega
  have q3:decide ((128:Int)≤(x.toNat:Int))=true:=by simp only[decide_eq_true_eq];omega
  have ql4:decide ((4:Int)≤(n:Int))=true:=by simp only[decide_eq_true_eq];omega
  obtain⟨m,hm⟩:∃m:Nat,y.toNat*256+z.toNat=m:=⟨_,rfl⟩;have hor:bits .or .i64 ((y.toNat:Int)*256) (z.toNat:Int)=(m:Int):=by rw[GY y.toNat z.toNat z.toNat_lt (by omega)];omega
  have hm0:(0:Int)≤(m:Int):=by omega
  have q4:decide ((n:Int) - 4<(m:Int))=false:=by simp only[decide_eq_false_iff_not];omega
  have hsz:=I (fun W=>GI (m) 2 (by omega) (by rw[BI];rw[if_neg (by omega),if_pos (by omega)]) W);have hmu:(m:Int)≤65535:=by omega
  have E:=I ((Bd (BU (t:=t) (Fh (b:=y) (c:=z) (r:=r) hx1) (.inl (by simp;omega)))).1);have hn2:(2:Int)≤(n:Int):=by omega
  have hnu:(n:Int)≤100000:=by omega
  have g0:decide ((n:Int)<2)=false:=by simp only[decide_eq_false_iff_not];omega
  have HB:=I hb;have HN:=I hn;have HC:=I hc;have HR:=I hr;have HBB:=I hB;have HBG:=I hBg;clear hb hn hc hr hB hBg hu hnl hcell;clear hx1 hf hy hy2;go_enter Tryz.func135,Tryz.ntmps135
  go_wp2
  go_quiet (fail)
  go_wp2_with (go_at_call 207; refine (hsz.o _).mono ?_; rintro e w1 ⟨⟨g1, cap1, rfl⟩, hb1⟩
               have HB1:=I ((HB.o.drewN _).below hb1);have k0:w1.cell? ⟨g,0,none⟩=some (.slice (some ⟨b,o,none⟩) n cap):=HB1.o.cell 0;have k1:w1.cell? ⟨g,1,none⟩=some (.bool false):=HB1.o.cell 1;have kf0:=HB1.o.frozen 0;have kf1:=HB1.o.frozen 1)
  go_ret;exact BK HB1.o E.o (Bk ((below_drewN (Below.refl _ _) _).trans hb1) _)
theorem KI (B g : Nat) (A : Option Addr) (n cap : Nat) (t x : UInt8) (y z : UInt8) (r : L) (w : World) (hb : Blk w g 175 #[.slice A n cap, .bool false]) (hn : n = (t :: x :: y :: z :: r).length) (hc : n ≤ cap) (hr : Rd w B A (bvs (t :: x :: y :: z :: r))) (hB : B ≤ w.heap.size) (hBg : B ≤ g) (hu : n ≤ 100000) (hx1 : x.toNat = 130) (hf : y.toNat * 256 + z.toNat ≤ r.length) (hy : ¬ y.toNat * 256 + z.toNat ≤ 255) :
    Calls Tryz.prog 135 #[.pointer (some ⟨g,0,none⟩),.int .u8 t.toNat] w (Took w B g t (some (t :: x :: y :: z :: r))):=by
  have h0:w.cell? ⟨g,0,none⟩=some (.slice A n cap):=hb.cell 0;have h1:w.cell? ⟨g,1,none⟩=some (.bool false):=hb.cell 1;have f0:=hb.frozen 0;have f1:=hb.frozen 1;obtain⟨b,o,rfl,hbB,hcell⟩:=Ci hr (by simp);have hnl:=hn;simp only[List.length_cons] at hnl;have c0:w.cell? ⟨b,o,none⟩=some (.int .u8 ((t).toNat:Int)):=hcell 0 (by simp);have c1:w.cell? ⟨b,o+1,none⟩=some (.int .u8 ((x).toNat:Int)):=hcell 1 (by simp);have hlt2:(2:Int)<(n:Int):=by omega
  have hlt3:(3:Int)<(n:Int):=by omega
  have c2:w.cell? ⟨b,o+2,none⟩=some (.int .u8 ((y).toNat:Int)):=hcell 2 (by simp);have hy255:=Br y;have c3:w.cell? ⟨b,o+3,none⟩=some (.int .u8 ((z).toNat:Int)):=hcell 3 (by simp);have hz255:=Br z;have hx255:=Br x;have q0129:((x.toNat:Int)==129)=false:=by simp;omega
  have q0130:((x.toNat:Int)==130)=true:=by simp;omega
  have q3:decide ((128:Int)≤(x.toNat:Int))=true:=by simp only[decide_eq_true_eq];omega
  have ql4:decide ((4:Int)≤(n:Int))=true:=by simp only[decide_eq_true_eq];omega
  obtain⟨m,hm⟩:∃m:Nat,y.toNat*256+z.toNat=m:=⟨_,rfl⟩;have hor:bits .or .i64 ((y.toNat:Int)*256) (z.toNat:Int)=(m:Int):=by rw[GY y.toNat z.toNat z.toNat_lt (by omega)];omega
  have hm0:(0:Int)≤(m:Int):=by omega
  have q4:decide ((n:Int) - 4<(m:Int))=false:=by simp only[decide_eq_false_iff_not];omega
  have hsz:=I (fun W=>GI (m) 3 (by omega) (by rw[BI];rw[if_neg (by omega),if_neg (by omega)]) W);have hmu:(m:Int)≤65535:=by omega
  have HS:=I (FR (t:=t) ((Fh (b:=y) (c:=z) (r:=r) hx1).trans (by rw[hm,decide_eq_true (show 255<m by omega)])) (by simp only[List.length_cons];omega));have HF:=I (show 4+m≤(t :: x :: y :: z :: r).length by simp only[List.length_cons];omega);have hcf:=Ex (P:=Tryz.prog) Tryz.underlying30 Dz (some ⟨b,o,none⟩) n cap (4+m) (4+(m:Int)) (by omega) (by omega);have hcm:=FJ (P:=Tryz.prog) Tryz.underlying30 Dz (some ⟨b,o,none⟩) n cap 4 m 4 (4+(m:Int)) rfl rfl (by omega);have hn2:(2:Int)≤(n:Int):=by omega
  have hnu:(n:Int)≤100000:=by omega
  have g0:decide ((n:Int)<2)=false:=by simp only[decide_eq_false_iff_not];omega
  have HB:=I hb;have HN:=I hn;have HC:=I hc;have HR:=I hr;have HBB:=I hB;have HBG:=I hBg;clear hb hn hc hr hB hBg hu hnl hcell;clear hx1 hf hy;go_enter Tryz.func135,Tryz.ntmps135
  go_wp2
  go_quiet (fail)
  go_wp2_with (go_at_call 207; refine (hsz.o _).mono ?_; rintro e w1 ⟨⟨g1, cap1, rfl⟩, hb1⟩
               have HB1:=I ((HB.o.drewN _).below hb1);have k0:w1.cell? ⟨g,0,none⟩=some (.slice (some ⟨b,o,none⟩) n cap):=HB1.o.cell 0;have k1:w1.cell? ⟨g,1,none⟩=some (.bool false):=HB1.o.cell 1;have kf0:=HB1.o.frozen 0;have kf1:=HB1.o.frozen 1)
  go_ret;have hn:=HN.o;subst hn;exact LW HC.o HS.o HF.o HR.o HB1.o (Bk ((below_drewN (Below.refl _ _) _).trans hb1) _) HBB.o HBG.o
theorem OH (B g:Nat) (A:Option Addr) (n cap:Nat) (t x:UInt8) (r:L) (w:World) (hb:Blk w g 175 #[.slice A n cap,.bool false]) (hn:n=(t :: x :: r).length) (hc:n≤cap) (hr:Rd w B A (bvs (t :: x :: r))) (hB:B≤w.heap.size) (hBg:B≤g) (hu:n≤100000) (hx1:¬x.toNat<128) (hx2:¬x.toNat=129) (hx3:¬x.toNat=130) :
  Calls Tryz.prog 135 #[.pointer (some ⟨g,0,none⟩),.int .u8 t.toNat] w (Took w B g t (some (t :: x :: r))):=by
 have h0:w.cell? ⟨g,0,none⟩=some (.slice A n cap):=hb.cell 0;have h1:w.cell? ⟨g,1,none⟩=some (.bool false):=hb.cell 1;have f0:=hb.frozen 0;have f1:=hb.frozen 1;obtain⟨b,o,rfl,hbB,hcell⟩:=Ci hr (by simp);have hnl:=hn;simp only[List.length_cons] at hnl;have c0:w.cell? ⟨b,o,none⟩=some (.int .u8 ((t).toNat:Int)):=hcell 0 (by simp);have c1:w.cell? ⟨b,o+1,none⟩=some (.int .u8 ((x).toNat:Int)):=hcell 1 (by simp);have hx255:=Br x;have q0129:((x.toNat:Int)==129)=false:=by simp;omega
 have q0130:((x.toNat:Int)==130)=false:=by simp;omega
 have q3:decide ((128:Int)≤(x.toNat:Int))=true:=by simp only[decide_eq_true_eq];omega
 have E:=I ((Bd (BU (t:=t) (Ie (r:=r) hx1 hx2 hx3) (.inl rfl))).1);have hn2:(2:Int)≤(n:Int):=by omega
 have hnu:(n:Int)≤100000:=by omega
 have g0:decide ((n:Int)<2)=false:=by simp only[decide_eq_false_iff_not];omega
 have HB:=I hb;have HN:=I hn;have HC:=I hc;have HR:=I hr;have HBB:=I hB;have HBG:=I hBg;clear hb hn hc hr hB hBg hu hnl hcell;clear hx1 hx2 hx3;go_enter Tryz.func135,Tryz.ntmps135
 go_wp2
 go_ret;exact BK HB.o E.o (World.grownBy.refl _ _)
end DerR
end
section
namespace DerR
open Go.RowKit Af DerP
theorem Ey (t:UInt8) (B g:Nat) (w:World) (c:Option L) (h:RC w B g c) (hB:B≤w.heap.size) (hBg:B≤g) (hu:(c.getD []).length≤100000) :
  Calls Tryz.prog 135 #[.pointer (some ⟨g,0,none⟩),.int .u8 t.toNat] w (Took w B g t c):=by
 cases c with
 |none=>exact OG t B g w h
 |some l=>
  obtain⟨A,n,cap,e,hb,rfl,hn,hc,hr⟩:=h;rw[Option.getD_some] at hu
  match l,hn,hr,hu with
  | [],hn,hr,hu=>subst hn;exact Io t B g A cap [] w hb (by simp)
  | [a],hn,hr,hu=>subst hn;exact Io t B g A cap [a] w hb (by simp)
  |a :: x :: r,hn,hr,hu=>
   have hu':n≤100000:=by rw[hn];exact hu
   by_cases hne:a=t
   ·subst hne
    by_cases h1:x.toNat<128
    ·by_cases hf:x.toNat≤r.length
     ·exact Jc B g A n cap a x r w hb hn hc hr hB hBg hu' h1 hf
     ·exact Jd B g A n cap a x r w hb hn hc hr hB hBg hu' h1 hf
    ·by_cases h2:x.toNat=129
     ·match r,hn,hr with
      | [],hn,hr=>exact JP B g A n cap a x w hb hn hc hr hB hBg hu' h2
      |y :: q,hn,hr=>
       by_cases hf:y.toNat≤q.length
       ·by_cases hy:y.toNat<128
        ·exact Je B g A n cap a x y q w hb hn hc hr hB hBg hu' h2 hf hy
        ·exact KE B g A n cap a x y q w hb hn hc hr hB hBg hu' h2 hf hy
       ·exact KC B g A n cap a x y q w hb hn hc hr hB hBg hu' h2 hf
     ·by_cases h3:x.toNat=130
      ·match r,hn,hr with
       | [],hn,hr=>exact JQ B g A n cap a x w hb hn hc hr hB hBg hu' h3
       | [y],hn,hr=>exact JR B g A n cap a x y w hb hn hc hr hB hBg hu' h3
       |y :: z :: q,hn,hr=>
        by_cases hf:y.toNat*256+z.toNat≤q.length
        ·by_cases hy:y.toNat*256+z.toNat≤255
         ·by_cases hy1:y.toNat*256+z.toNat<128
          ·exact KG B g A n cap a x y z q w hb hn hc hr hB hBg hu' h3 hf hy1
          ·exact KH B g A n cap a x y z q w hb hn hc hr hB hBg hu' h3 hf hy1 hy
         ·exact KI B g A n cap a x y z q w hb hn hc hr hB hBg hu' h3 hf hy
        ·exact KF B g A n cap a x y z q w hb hn hc hr hB hBg hu' h3 hf
      ·exact OH B g A n cap a x r w hb hn hc hr hB hBg hu' h1 h2 h3
   ·exact Qg B g A n cap t a x r w hb hn hc hr hB hBg hu' hne
end DerR
end
end Go.Proofs.YtfcjeebnkigeaaaGreat
