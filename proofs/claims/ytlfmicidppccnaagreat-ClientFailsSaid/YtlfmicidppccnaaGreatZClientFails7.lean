import Derived.Test.YtlfmicidppccnaaGreatZClientFails6
set_option maxHeartbeats 25600000
set_option maxRecDepth 100000
set_option linter.unusedVariables false
set_option linter.unusedSimpArgs false
namespace Go.Proofs.YtlfmicidppccnaaGreat
namespace DerR
open Go.RowKit Ad DerP
theorem BB {w:World} {B:Nat} {A:Option Addr} {l:L} (h:Rd w B A (bvs l)) (hl:0<l.length):∃b o,A=some ⟨b,o,none⟩∧b<B∧∀i (hi:i<l.length),w.cell? ⟨b,o+i,none⟩=some (.int .u8 ((l[i]).toNat:Int)):=by
 obtain⟨b,o,h1,h2,_⟩:=h.at_ (EW hl);refine⟨b,o,h1,h2,fun i hi=>?_⟩;obtain⟨b',o',e,_,hc⟩:=h.at_ (EW hi);rw[h1] at e;injection e with e;injection e with e1 e2;subst e1 e2;exact hc
theorem DH {t:UInt8} {s:L} {m k:Nat} (h:lenR s=(m,k,true)) (hf:m+k≤s.length):AP t (t :: s)=some (((t :: s).drop (k+1)).take m,(t :: s).drop (k+1+m)):=by
 rw[AP,h,if_pos ⟨rfl,rfl,hf⟩]
 congr 2
 rw[List.drop_drop,show k+1+m=(k+m)+1 by omega]
 rfl
theorem Bv {t:UInt8} {s:L} {m k:Nat} {ok:Bool} (h:lenR s=(m,k,ok)) (hf:ok=false∨¬m+k≤s.length):AP t (t :: s)=none:=by
 rw[AP,h];refine if_neg fun hh=>?_
 rcases hf with rfl | hf
 ·exact absurd hh.2.1 (by simp)
 ·exact hf hh.2.2
theorem Ej (n k:Nat) (h:n≤65535) (hk:(szL n).length=k) (w:World):Calls Tryz.prog 152 #[.int .i64 (n:Int)] w fun e w'=>(∃g cap,e = .returned (.slice (some ⟨g,0,none⟩) k cap))∧Below w.heap.size w w':=by
 subst hk;exact(Io n h w).mono fun e w' ⟨⟨g,cap,he,_⟩,hb⟩=>⟨⟨g,cap,he⟩,hb⟩
theorem Cn:∀w:World,(sizeOf 5).run Tryz.prog w = .ok 1 w:=fun w=>by kernel_rfl
theorem Hk {w w1:World} {B g:Nat} {t:UInt8} {l:L} {A:Option Addr} {cap p m:Nat} (hc:l.length≤cap) (hs:AP t l=some ((l.drop p).take m,l.drop (p+m))) (hf:p+m≤l.length)
  (hr:Rd w B A (bvs l)) (hb:Blk w1 g 134 #[.slice A l.length cap,.bool false]) (hg:w.grownBy w1 (some g)) (hB:B≤w.heap.size) (hBg:B≤g) :
  Took w B g t (some l) (.returned (.slice (cutA A cap p) m (cap - p))) (w1.setCell ⟨g,0,none⟩ (.slice (cutA A cap (p+m)) (l.length - (p+m)) (cap - (p+m)))):=by
 obtain⟨e1,e2⟩:=BV hs;have hg':=Av (p:=⟨g,0,none⟩) hg (.inl rfl) (.slice (cutA A cap (p+m)) (l.length - (p+m)) (cap - (p+m)));have hk:∀xs A',Rd w B A' xs→Rd (w1.setCell ⟨g,0,none⟩ (.slice (cutA A cap (p+m)) (l.length - (p+m)) (cap - (p+m)))) B A' xs:=fun xs A' h=>h.grown hg' hB (fun k hk=>by injection hk with hk;omega)
 have hlen:((l.drop p).take m).length=m:=by rw[List.length_take,List.length_drop];omega
 unfold Took;rw[e1,e2];simp only[Option.getD_some];refine⟨⟨cutA A cap p,cap - p,by rw[hlen],by rw[hlen];omega,hk _ _ (No (Mt hr p hc) m)⟩,⟨_,_,_,false,hb.set 0 _,rfl,by rw[List.length_drop],by omega,hk _ _ (Mt hr (p+m) hc)⟩,hg'⟩
theorem Ka (B g:Nat) (A:Option Addr) (n cap:Nat) (t a x:UInt8) (r:L) (w:World) (hb:Blk w g 134 #[.slice A n cap,.bool false]) (hn:n=(a :: x :: r).length) (hc:n≤cap) (hr:Rd w B A (bvs (a :: x :: r))) (hB:B≤w.heap.size) (hBg:B≤g) (hu:n≤100000) (hne:a≠t) :
  Calls Tryz.prog 103 #[.pointer (some ⟨g,0,none⟩),.int .u8 t.toNat] w (Took w B g t (some (a :: x :: r))):=by
 have h0:w.cell? ⟨g,0,none⟩=some (.slice A n cap):=hb.cell 0;have h1:w.cell? ⟨g,1,none⟩=some (.bool false):=hb.cell 1;have f0:=hb.frozen 0;have f1:=hb.frozen 1;obtain⟨b,o,rfl,hbB,hcell⟩:=BB hr (by simp);have hnl:=hn;simp only[List.length_cons] at hnl;have c0:w.cell? ⟨b,o,none⟩=some (.int .u8 ((a).toNat:Int)):=hcell 0 (by simp);have E:=I ((AT (Jx (s:=x :: r) hne)).1);have q1:((a.toNat:Int)==(t.toNat:Int))=false:=by simp;exact fun e=>hne (UInt8.toNat_inj.1 (by omega))
 have q2:((a.toNat:Int) != (t.toNat:Int))=true:=by simp;exact fun e=>hne (UInt8.toNat_inj.1 (by omega))
 have hn2:(2:Int)≤(n:Int):=by omega
 have hnu:(n:Int)≤100000:=by omega
 have g0:decide ((n:Int)<2)=false:=by simp only[decide_eq_false_iff_not];omega
 have HB:=I hb;have HN:=I hn;have HC:=I hc;have HR:=I hr;have HBB:=I hB;have HBG:=I hBg;clear hb hn hc hr hB hBg hu hnl hcell;clear hne;go_enter Tryz.func103,Tryz.ntmps103
 go_wp2
 go_ret;exact Br HB.o E.o (World.grownBy.refl _ _)
theorem Fw (B g : Nat) (A : Option Addr) (n cap : Nat) (t x : UInt8) (r : L) (w : World) (hb : Blk w g 134 #[.slice A n cap, .bool false]) (hn : n = (t :: x :: r).length) (hc : n ≤ cap) (hr : Rd w B A (bvs (t :: x :: r))) (hB : B ≤ w.heap.size) (hBg : B ≤ g) (hu : n ≤ 100000) (hx1 : x.toNat < 128) (hf : x.toNat ≤ r.length) :
    Calls Tryz.prog 103 #[.pointer (some ⟨g,0,none⟩),.int .u8 t.toNat] w (Took w B g t (some (t :: x :: r))):=by
  have h0:w.cell? ⟨g,0,none⟩=some (.slice A n cap):=hb.cell 0;have h1:w.cell? ⟨g,1,none⟩=some (.bool false):=hb.cell 1;have f0:=hb.frozen 0;have f1:=hb.frozen 1;obtain⟨b,o,rfl,hbB,hcell⟩:=BB hr (by simp);have hnl:=hn;simp only[List.length_cons] at hnl;have c0:w.cell? ⟨b,o,none⟩=some (.int .u8 ((t).toNat:Int)):=hcell 0 (by simp);have c1:w.cell? ⟨b,o+1,none⟩=some (.int .u8 ((x).toNat:Int)):=hcell 1 (by simp);have hx255:=Ba x;have q0129:((x.toNat:Int)==129)=false:=by simp;omega
  have q0130:((x.toNat:Int)==130)=false:=by simp;omega
  have q3:decide ((128:Int)≤(x.toNat:Int))=false:=by simp only[decide_eq_false_iff_not];omega
  have q4:decide ((n:Int) - 2<(x.toNat:Int))=false:=by simp only[decide_eq_false_iff_not];omega
  have hsz:=I (fun W=>Ej (x.toNat) 1 (by omega) (by rw[Bm];rw[if_pos (by omega)]) W);have hmu:(x.toNat:Int)≤65535:=by omega
  have HS:=I (DH (t:=t) (Dl (r:=r) hx1) (by simp only[List.length_cons];omega));have HF:=I (show 2+x.toNat≤(t :: x :: r).length by simp only[List.length_cons];omega);have hcf:=Dh (P:=Tryz.prog) Tryz.underlying27 Cn (some ⟨b,o,none⟩) n cap (2+x.toNat) (2+(x.toNat:Int)) (by omega) (by omega);have hcm:=DA (P:=Tryz.prog) Tryz.underlying27 Cn (some ⟨b,o,none⟩) n cap 2 x.toNat 2 (2+(x.toNat:Int)) rfl rfl (by omega);have hn2:(2:Int)≤(n:Int):=by omega
  have hnu:(n:Int)≤100000:=by omega
  have g0:decide ((n:Int)<2)=false:=by simp only[decide_eq_false_iff_not];omega
  have HB:=I hb;have HN:=I hn;have HC:=I hc;have HR:=I hr;have HBB:=I hB;have HBG:=I hBg;clear hb hn hc hr hB hBg hu hnl hcell;clear hx1 hf;go_enter Tryz.func103,Tryz.ntmps103
  go_wp2_with (go_at_call 152; refine (hsz.o _).mono ?_; rintro e w1 ⟨⟨g1, cap1, rfl⟩, hb1⟩
               have HB1:=I (HB.o.below hb1);have k0:w1.cell? ⟨g,0,none⟩=some (.slice (some ⟨b,o,none⟩) n cap):=HB1.o.cell 0;have k1:w1.cell? ⟨g,1,none⟩=some (.bool false):=HB1.o.cell 1;have kf0:=HB1.o.frozen 0;have kf1:=HB1.o.frozen 1)
  go_ret;have hn:=HN.o;subst hn;exact Hk HC.o HS.o HF.o HR.o HB1.o (Bn hb1 _) HBB.o HBG.o
theorem Fx (B g:Nat) (A:Option Addr) (n cap:Nat) (t x:UInt8) (r:L) (w:World) (hb:Blk w g 134 #[.slice A n cap,.bool false]) (hn:n=(t :: x :: r).length) (hc:n≤cap) (hr:Rd w B A (bvs (t :: x :: r))) (hB:B≤w.heap.size) (hBg:B≤g) (hu:n≤100000) (hx1:x.toNat<128) (hf:¬x.toNat≤r.length) :
  Calls Tryz.prog 103 #[.pointer (some ⟨g,0,none⟩),.int .u8 t.toNat] w (Took w B g t (some (t :: x :: r))):=by
 have h0:w.cell? ⟨g,0,none⟩=some (.slice A n cap):=hb.cell 0;have h1:w.cell? ⟨g,1,none⟩=some (.bool false):=hb.cell 1;have f0:=hb.frozen 0;have f1:=hb.frozen 1;obtain⟨b,o,rfl,hbB,hcell⟩:=BB hr (by simp);have hnl:=hn;simp only[List.length_cons] at hnl;have c0:w.cell? ⟨b,o,none⟩=some (.int .u8 ((t).toNat:Int)):=hcell 0 (by simp);have c1:w.cell? ⟨b,o+1,none⟩=some (.int .u8 ((x).toNat:Int)):=hcell 1 (by simp);have hx255:=Ba x;have q0129:((x.toNat:Int)==129)=false:=by simp;omega
 have q0130:((x.toNat:Int)==130)=false:=by simp;omega
 have q3:decide ((128:Int)≤(x.toNat:Int))=false:=by simp only[decide_eq_false_iff_not];omega
 have E:=I ((AT (Bv (t:=t) (Dl (r:=r) hx1) (.inr (by simp only[List.length_cons];omega)))).1);have q4:decide ((n:Int) - 2<(x.toNat:Int))=true:=by simp only[decide_eq_true_eq];omega
 have hn2:(2:Int)≤(n:Int):=by omega
 have hnu:(n:Int)≤100000:=by omega
 have g0:decide ((n:Int)<2)=false:=by simp only[decide_eq_false_iff_not];omega
 have HB:=I hb;have HN:=I hn;have HC:=I hc;have HR:=I hr;have HBB:=I hB;have HBG:=I hBg;clear hb hn hc hr hB hBg hu hnl hcell;clear hx1 hf;go_enter Tryz.func103,Tryz.ntmps103
 go_wp2
 go_ret;exact Br HB.o E.o (World.grownBy.refl _ _)
theorem Gg (B g:Nat) (A:Option Addr) (n cap:Nat) (t x:UInt8)  (w:World) (hb:Blk w g 134 #[.slice A n cap,.bool false]) (hn:n=(t :: x :: []).length) (hc:n≤cap) (hr:Rd w B A (bvs (t :: x :: []))) (hB:B≤w.heap.size) (hBg:B≤g) (hu:n≤100000) (hx1:x.toNat=129) :
  Calls Tryz.prog 103 #[.pointer (some ⟨g,0,none⟩),.int .u8 t.toNat] w (Took w B g t (some (t :: x :: []))):=by
 have h0:w.cell? ⟨g,0,none⟩=some (.slice A n cap):=hb.cell 0;have h1:w.cell? ⟨g,1,none⟩=some (.bool false):=hb.cell 1;have f0:=hb.frozen 0;have f1:=hb.frozen 1;obtain⟨b,o,rfl,hbB,hcell⟩:=BB hr (by simp);have hnl:=hn;simp only[List.length_cons,List.length_nil] at hnl;have c0:w.cell? ⟨b,o,none⟩=some (.int .u8 ((t).toNat:Int)):=hcell 0 (by simp);have c1:w.cell? ⟨b,o+1,none⟩=some (.int .u8 ((x).toNat:Int)):=hcell 1 (by simp);have hx255:=Ba x;have q0129:((x.toNat:Int)==129)=true:=by simp;omega
 have q0130:((x.toNat:Int)==130)=false:=by simp;omega
 have q3:decide ((128:Int)≤(x.toNat:Int))=true:=by simp only[decide_eq_true_eq];omega
 have ql3:decide ((3:Int)≤(n:Int))=false:=by simp only[decide_eq_false_iff_not];omega
 have E:=I ((AT (Bv (t:=t) (CU hx1) (.inl rfl))).1);have hn2:(2:Int)≤(n:Int):=by omega
 have hnu:(n:Int)≤100000:=by omega
 have g0:decide ((n:Int)<2)=false:=by simp only[decide_eq_false_iff_not];omega
 have HB:=I hb;have HN:=I hn;have HC:=I hc;have HR:=I hr;have HBB:=I hB;have HBG:=I hBg;clear hb hn hc hr hB hBg hu hnl hcell;clear hx1;go_enter Tryz.func103,Tryz.ntmps103
 go_wp2
 go_ret;exact Br HB.o E.o (World.grownBy.refl _ _)
theorem GA (B g:Nat) (A:Option Addr) (n cap:Nat) (t x:UInt8) (y:UInt8) (r:L) (w:World) (hb:Blk w g 134 #[.slice A n cap,.bool false]) (hn:n=(t :: x :: y :: r).length) (hc:n≤cap) (hr:Rd w B A (bvs (t :: x :: y :: r))) (hB:B≤w.heap.size) (hBg:B≤g) (hu:n≤100000) (hx1:x.toNat=129) (hf:¬y.toNat≤r.length) :
  Calls Tryz.prog 103 #[.pointer (some ⟨g,0,none⟩),.int .u8 t.toNat] w (Took w B g t (some (t :: x :: y :: r))):=by
 have h0:w.cell? ⟨g,0,none⟩=some (.slice A n cap):=hb.cell 0;have h1:w.cell? ⟨g,1,none⟩=some (.bool false):=hb.cell 1;have f0:=hb.frozen 0;have f1:=hb.frozen 1;obtain⟨b,o,rfl,hbB,hcell⟩:=BB hr (by simp);have hnl:=hn;simp only[List.length_cons] at hnl;have c0:w.cell? ⟨b,o,none⟩=some (.int .u8 ((t).toNat:Int)):=hcell 0 (by simp);have c1:w.cell? ⟨b,o+1,none⟩=some (.int .u8 ((x).toNat:Int)):=hcell 1 (by simp);have hlt2:(2:Int)<(n:Int):=by omega
 have c2:w.cell? ⟨b,o+2,none⟩=some (.int .u8 ((y).toNat:Int)):=hcell 2 (by simp);have hy255:=Ba y;have hx255:=Ba x;have q0129:((x.toNat:Int)==129)=true:=by simp;omega
 have q0130:((x.toNat:Int)==130)=false:=by simp;omega
 have q3:decide ((128:Int)≤(x.toNat:Int))=true:=by simp only[decide_eq_true_eq];omega
 have ql3:decide ((3:Int)≤(n:Int))=true:=by simp only[decide_eq_true_eq];omega
 have E:=I ((AT (Bv (t:=t) (DE (b:=y) (r:=r) hx1) (.inr (by simp only[List.length_cons];omega)))).1);have q4:decide ((n:Int) - 3<(y.toNat:Int))=true:=by simp only[decide_eq_true_eq];omega
 have hn2:(2:Int)≤(n:Int):=by omega
 have hnu:(n:Int)≤100000:=by omega
 have g0:decide ((n:Int)<2)=false:=by simp only[decide_eq_false_iff_not];omega
 have HB:=I hb;have HN:=I hn;have HC:=I hc;have HR:=I hr;have HBB:=I hB;have HBG:=I hBg;clear hb hn hc hr hB hBg hu hnl hcell;clear hx1 hf;go_enter Tryz.func103,Tryz.ntmps103
 go_wp2
 go_ret;exact Br HB.o E.o (World.grownBy.refl _ _)
theorem Fy (B g : Nat) (A : Option Addr) (n cap : Nat) (t x : UInt8) (y : UInt8) (r : L) (w : World) (hb : Blk w g 134 #[.slice A n cap, .bool false]) (hn : n = (t :: x :: y :: r).length) (hc : n ≤ cap) (hr : Rd w B A (bvs (t :: x :: y :: r))) (hB : B ≤ w.heap.size) (hBg : B ≤ g) (hu : n ≤ 100000) (hx1 : x.toNat = 129) (hf : y.toNat ≤ r.length) (hy : y.toNat < 128) :
    Calls Tryz.prog 103 #[.pointer (some ⟨g,0,none⟩),.int .u8 t.toNat] w (Took w B g t (some (t :: x :: y :: r))):=by
  have h0:w.cell? ⟨g,0,none⟩=some (.slice A n cap):=hb.cell 0;have h1:w.cell? ⟨g,1,none⟩=some (.bool false):=hb.cell 1;have f0:=hb.frozen 0;have f1:=hb.frozen 1;obtain⟨b,o,rfl,hbB,hcell⟩:=BB hr (by simp);have hnl:=hn;simp only[List.length_cons] at hnl;have c0:w.cell? ⟨b,o,none⟩=some (.int .u8 ((t).toNat:Int)):=hcell 0 (by simp);have c1:w.cell? ⟨b,o+1,none⟩=some (.int .u8 ((x).toNat:Int)):=hcell 1 (by simp);have hlt2:(2:Int)<(n:Int):=by omega
  have c2:w.cell? ⟨b,o+2,none⟩=some (.int .u8 ((y).toNat:Int)):=hcell 2 (by simp);have hy255:=Ba y;have hx255:=Ba x;have q0129:((x.toNat:Int)==129)=true:=by simp;omega
  have q0130:((x.toNat:Int)==130)=false:=by simp;omega
  have q3:decide ((128:Int)≤(x.toNat:Int))=true:=by simp only[decide_eq_true_eq];omega
  have ql3:decide ((3:Int)≤(n:Int))=true:=by simp only[decide_eq_true_eq];omega
  have q4:decide ((n:Int) - 3<(y.toNat:Int))=false:=by simp only[decide_eq_false_iff_not];omega
  have hsz:=I (fun W=>Ej (y.toNat) 1 (by omega) (by rw[Bm];rw[if_pos (by omega)]) W);have hmu:(y.toNat:Int)≤65535:=by omega
  have E:=I ((AT (Bv (t:=t) (DE (b:=y) (r:=r) hx1) (.inl (by simp;omega)))).1);have hn2:(2:Int)≤(n:Int):=by omega
  have hnu:(n:Int)≤100000:=by omega
  have g0:decide ((n:Int)<2)=false:=by simp only[decide_eq_false_iff_not];omega
  have HB:=I hb;have HN:=I hn;have HC:=I hc;have HR:=I hr;have HBB:=I hB;have HBG:=I hBg;clear hb hn hc hr hB hBg hu hnl hcell;clear hx1 hf hy;go_enter Tryz.func103,Tryz.ntmps103
  go_wp2_with (go_at_call 152; refine (hsz.o _).mono ?_; rintro e w1 ⟨⟨g1, cap1, rfl⟩, hb1⟩
               have HB1:=I (HB.o.below hb1);have k0:w1.cell? ⟨g,0,none⟩=some (.slice (some ⟨b,o,none⟩) n cap):=HB1.o.cell 0;have k1:w1.cell? ⟨g,1,none⟩=some (.bool false):=HB1.o.cell 1;have kf0:=HB1.o.frozen 0;have kf1:=HB1.o.frozen 1)
  go_ret;exact Br HB1.o E.o (Bn hb1 _)
theorem GB (B g : Nat) (A : Option Addr) (n cap : Nat) (t x : UInt8) (y : UInt8) (r : L) (w : World) (hb : Blk w g 134 #[.slice A n cap, .bool false]) (hn : n = (t :: x :: y :: r).length) (hc : n ≤ cap) (hr : Rd w B A (bvs (t :: x :: y :: r))) (hB : B ≤ w.heap.size) (hBg : B ≤ g) (hu : n ≤ 100000) (hx1 : x.toNat = 129) (hf : y.toNat ≤ r.length) (hy : ¬ y.toNat < 128) :
    Calls Tryz.prog 103 #[.pointer (some ⟨g,0,none⟩),.int .u8 t.toNat] w (Took w B g t (some (t :: x :: y :: r))):=by
  have h0:w.cell? ⟨g,0,none⟩=some (.slice A n cap):=hb.cell 0;have h1:w.cell? ⟨g,1,none⟩=some (.bool false):=hb.cell 1;have f0:=hb.frozen 0;have f1:=hb.frozen 1;obtain⟨b,o,rfl,hbB,hcell⟩:=BB hr (by simp);have hnl:=hn;simp only[List.length_cons] at hnl;have c0:w.cell? ⟨b,o,none⟩=some (.int .u8 ((t).toNat:Int)):=hcell 0 (by simp);have c1:w.cell? ⟨b,o+1,none⟩=some (.int .u8 ((x).toNat:Int)):=hcell 1 (by simp);have hlt2:(2:Int)<(n:Int):=by omega
  have c2:w.cell? ⟨b,o+2,none⟩=some (.int .u8 ((y).toNat:Int)):=hcell 2 (by simp);have hy255:=Ba y;have hx255:=Ba x;have q0129:((x.toNat:Int)==129)=true:=by simp;omega
  have q0130:((x.toNat:Int)==130)=false:=by simp;omega
  have q3:decide ((128:Int)≤(x.toNat:Int))=true:=by simp only[decide_eq_true_eq];omega
  have ql3:decide ((3:Int)≤(n:Int))=true:=by simp only[decide_eq_true_eq];omega
  have q4:decide ((n:Int) - 3<(y.toNat:Int))=false:=by simp only[decide_eq_false_iff_not];omega
  have hsz:=I (fun W=>Ej (y.toNat) 2 (by omega) (by rw[Bm];rw[if_neg (by omega),if_pos (by omega)]) W);have hmu:(y.toNat:Int)≤65535:=by omega
  have HS:=I (DH (t:=t) ((DE (b:=y) (r:=r) hx1).trans (by rw[decide_eq_true (show 128≤y.toNat by omega)])) (by simp only[List.length_cons];omega));have HF:=I (show 3+y.toNat≤(t :: x :: y :: r).length by simp only[List.length_cons];omega);have hcf:=Dh (P:=Tryz.prog) Tryz.underlying27 Cn (some ⟨b,o,none⟩) n cap (3+y.toNat) (3+(y.toNat:Int)) (by omega) (by omega);have hcm:=DA (P:=Tryz.prog) Tryz.underlying27 Cn (some ⟨b,o,none⟩) n cap 3 y.toNat 3 (3+(y.toNat:Int)) rfl rfl (by omega);have hn2:(2:Int)≤(n:Int):=by omega
  have hnu:(n:Int)≤100000:=by omega
  have g0:decide ((n:Int)<2)=false:=by simp only[decide_eq_false_iff_not];omega
  have HB:=I hb;have HN:=I hn;have HC:=I hc;have HR:=I hr;have HBB:=I hB;have HBG:=I hBg;clear hb hn hc hr hB hBg hu hnl hcell;clear hx1 hf hy;go_enter Tryz.func103,Tryz.ntmps103
  go_wp2_with (go_at_call 152; refine (hsz.o _).mono ?_; rintro e w1 ⟨⟨g1, cap1, rfl⟩, hb1⟩
               have HB1:=I (HB.o.below hb1);have k0:w1.cell? ⟨g,0,none⟩=some (.slice (some ⟨b,o,none⟩) n cap):=HB1.o.cell 0;have k1:w1.cell? ⟨g,1,none⟩=some (.bool false):=HB1.o.cell 1;have kf0:=HB1.o.frozen 0;have kf1:=HB1.o.frozen 1)
  go_ret;have hn:=HN.o;subst hn;exact Hk HC.o HS.o HF.o HR.o HB1.o (Bn hb1 _) HBB.o HBG.o
theorem Gh (B g:Nat) (A:Option Addr) (n cap:Nat) (t x:UInt8)  (w:World) (hb:Blk w g 134 #[.slice A n cap,.bool false]) (hn:n=(t :: x :: []).length) (hc:n≤cap) (hr:Rd w B A (bvs (t :: x :: []))) (hB:B≤w.heap.size) (hBg:B≤g) (hu:n≤100000) (hx1:x.toNat=130) :
  Calls Tryz.prog 103 #[.pointer (some ⟨g,0,none⟩),.int .u8 t.toNat] w (Took w B g t (some (t :: x :: []))):=by
 have h0:w.cell? ⟨g,0,none⟩=some (.slice A n cap):=hb.cell 0;have h1:w.cell? ⟨g,1,none⟩=some (.bool false):=hb.cell 1;have f0:=hb.frozen 0;have f1:=hb.frozen 1;obtain⟨b,o,rfl,hbB,hcell⟩:=BB hr (by simp);have hnl:=hn;simp only[List.length_cons,List.length_nil] at hnl;have c0:w.cell? ⟨b,o,none⟩=some (.int .u8 ((t).toNat:Int)):=hcell 0 (by simp);have c1:w.cell? ⟨b,o+1,none⟩=some (.int .u8 ((x).toNat:Int)):=hcell 1 (by simp);have hx255:=Ba x;have q0129:((x.toNat:Int)==129)=false:=by simp;omega
 have q0130:((x.toNat:Int)==130)=true:=by simp;omega
 have q3:decide ((128:Int)≤(x.toNat:Int))=true:=by simp only[decide_eq_true_eq];omega
 have ql4:decide ((4:Int)≤(n:Int))=false:=by simp only[decide_eq_false_iff_not];omega
 have E:=I ((AT (Bv (t:=t) (CV hx1) (.inl rfl))).1);have hn2:(2:Int)≤(n:Int):=by omega
 have hnu:(n:Int)≤100000:=by omega
 have g0:decide ((n:Int)<2)=false:=by simp only[decide_eq_false_iff_not];omega
 have HB:=I hb;have HN:=I hn;have HC:=I hc;have HR:=I hr;have HBB:=I hB;have HBG:=I hBg;clear hb hn hc hr hB hBg hu hnl hcell;clear hx1;go_enter Tryz.func103,Tryz.ntmps103
 go_wp2
 go_ret;exact Br HB.o E.o (World.grownBy.refl _ _)
theorem Gi (B g:Nat) (A:Option Addr) (n cap:Nat) (t x:UInt8) (y:UInt8) (w:World) (hb:Blk w g 134 #[.slice A n cap,.bool false]) (hn:n=(t :: x :: y :: []).length) (hc:n≤cap) (hr:Rd w B A (bvs (t :: x :: y :: []))) (hB:B≤w.heap.size) (hBg:B≤g) (hu:n≤100000) (hx1:x.toNat=130) :
  Calls Tryz.prog 103 #[.pointer (some ⟨g,0,none⟩),.int .u8 t.toNat] w (Took w B g t (some (t :: x :: y :: []))):=by
 have h0:w.cell? ⟨g,0,none⟩=some (.slice A n cap):=hb.cell 0;have h1:w.cell? ⟨g,1,none⟩=some (.bool false):=hb.cell 1;have f0:=hb.frozen 0;have f1:=hb.frozen 1;obtain⟨b,o,rfl,hbB,hcell⟩:=BB hr (by simp);have hnl:=hn;simp only[List.length_cons,List.length_nil] at hnl;have c0:w.cell? ⟨b,o,none⟩=some (.int .u8 ((t).toNat:Int)):=hcell 0 (by simp);have c1:w.cell? ⟨b,o+1,none⟩=some (.int .u8 ((x).toNat:Int)):=hcell 1 (by simp);have hx255:=Ba x;have q0129:((x.toNat:Int)==129)=false:=by simp;omega
 have q0130:((x.toNat:Int)==130)=true:=by simp;omega
 have q3:decide ((128:Int)≤(x.toNat:Int))=true:=by simp only[decide_eq_true_eq];omega
 have ql4:decide ((4:Int)≤(n:Int))=false:=by simp only[decide_eq_false_iff_not];omega
 have E:=I ((AT (Bv (t:=t) (CW (b:=y) hx1) (.inl rfl))).1);have hn2:(2:Int)≤(n:Int):=by omega
 have hnu:(n:Int)≤100000:=by omega
 have g0:decide ((n:Int)<2)=false:=by simp only[decide_eq_false_iff_not];omega
 have HB:=I hb;have HN:=I hn;have HC:=I hc;have HR:=I hr;have HBB:=I hB;have HBG:=I hBg;clear hb hn hc hr hB hBg hu hnl hcell;clear hx1;go_enter Tryz.func103,Tryz.ntmps103
 go_wp2
 go_ret;exact Br HB.o E.o (World.grownBy.refl _ _)
theorem GC (B g:Nat) (A:Option Addr) (n cap:Nat) (t x:UInt8) (y z:UInt8) (r:L) (w:World) (hb:Blk w g 134 #[.slice A n cap,.bool false]) (hn:n=(t :: x :: y :: z :: r).length) (hc:n≤cap) (hr:Rd w B A (bvs (t :: x :: y :: z :: r))) (hB:B≤w.heap.size) (hBg:B≤g) (hu:n≤100000) (hx1:x.toNat=130) (hf:¬y.toNat*256+z.toNat≤r.length) :
  Calls Tryz.prog 103 #[.pointer (some ⟨g,0,none⟩),.int .u8 t.toNat] w (Took w B g t (some (t :: x :: y :: z :: r))):=by
 have h0:w.cell? ⟨g,0,none⟩=some (.slice A n cap):=hb.cell 0;have h1:w.cell? ⟨g,1,none⟩=some (.bool false):=hb.cell 1;have f0:=hb.frozen 0;have f1:=hb.frozen 1;obtain⟨b,o,rfl,hbB,hcell⟩:=BB hr (by simp);have hnl:=hn;simp only[List.length_cons] at hnl;have c0:w.cell? ⟨b,o,none⟩=some (.int .u8 ((t).toNat:Int)):=hcell 0 (by simp);have c1:w.cell? ⟨b,o+1,none⟩=some (.int .u8 ((x).toNat:Int)):=hcell 1 (by simp);have hlt2:(2:Int)<(n:Int):=by omega
 have hlt3:(3:Int)<(n:Int):=by omega
 have c2:w.cell? ⟨b,o+2,none⟩=some (.int .u8 ((y).toNat:Int)):=hcell 2 (by simp);have hy255:=Ba y;have c3:w.cell? ⟨b,o+3,none⟩=some (.int .u8 ((z).toNat:Int)):=hcell 3 (by simp);have hz255:=Ba z;have hx255:=Ba x;have q0129:((x.toNat:Int)==129)=false:=by simp;omega
 have q0130:((x.toNat:Int)==130)=true:=by simp;omega
 have q3:decide ((128:Int)≤(x.toNat:Int))=true:=by simp only[decide_eq_true_eq];omega
 have ql4:decide ((4:Int)≤(n:Int))=true:=by simp only[decide_eq_true_eq];omega
 obtain⟨m,hm⟩:∃m:Nat,y.toNat*256+z.toNat=m:=⟨_,rfl⟩;have hor:bits .or .i64 ((y.toNat:Int)*256) (z.toNat:Int)=(m:Int):=by rw[Es y.toNat z.toNat z.toNat_lt (by omega)];omega
 have hm0:(0:Int)≤(m:Int):=by omega
 have E:=I ((AT (Bv (t:=t) (Dm (b:=y) (c:=z) (r:=r) hx1) (.inr (by simp only[List.length_cons];omega)))).1);have q4:decide ((n:Int) - 4<(m:Int))=true:=by simp only[decide_eq_true_eq];omega
 have hn2:(2:Int)≤(n:Int):=by omega
 have hnu:(n:Int)≤100000:=by omega
 have g0:decide ((n:Int)<2)=false:=by simp only[decide_eq_false_iff_not];omega
 have HB:=I hb;have HN:=I hn;have HC:=I hc;have HR:=I hr;have HBB:=I hB;have HBG:=I hBg;clear hb hn hc hr hB hBg hu hnl hcell;clear hx1 hf;go_enter Tryz.func103,Tryz.ntmps103
 go_wp2
 go_quiet (fail)
 go_wp2
 go_ret;exact Br (HB.o.drewN _) E.o (Dv (World.grownBy.refl _ _) _)
theorem GD (B g : Nat) (A : Option Addr) (n cap : Nat) (t x : UInt8) (y z : UInt8) (r : L) (w : World) (hb : Blk w g 134 #[.slice A n cap, .bool false]) (hn : n = (t :: x :: y :: z :: r).length) (hc : n ≤ cap) (hr : Rd w B A (bvs (t :: x :: y :: z :: r))) (hB : B ≤ w.heap.size) (hBg : B ≤ g) (hu : n ≤ 100000) (hx1 : x.toNat = 130) (hf : y.toNat * 256 + z.toNat ≤ r.length) (hy : y.toNat * 256 + z.toNat < 128) :
    Calls Tryz.prog 103 #[.pointer (some ⟨g,0,none⟩),.int .u8 t.toNat] w (Took w B g t (some (t :: x :: y :: z :: r))):=by
  have h0:w.cell? ⟨g,0,none⟩=some (.slice A n cap):=hb.cell 0;have h1:w.cell? ⟨g,1,none⟩=some (.bool false):=hb.cell 1;have f0:=hb.frozen 0;have f1:=hb.frozen 1;obtain⟨b,o,rfl,hbB,hcell⟩:=BB hr (by simp);have hnl:=hn;simp only[List.length_cons] at hnl;have c0:w.cell? ⟨b,o,none⟩=some (.int .u8 ((t).toNat:Int)):=hcell 0 (by simp);have c1:w.cell? ⟨b,o+1,none⟩=some (.int .u8 ((x).toNat:Int)):=hcell 1 (by simp);have hlt2:(2:Int)<(n:Int):=by omega
  have hlt3:(3:Int)<(n:Int):=by omega
  have c2:w.cell? ⟨b,o+2,none⟩=some (.int .u8 ((y).toNat:Int)):=hcell 2 (by simp);have hy255:=Ba y;have c3:w.cell? ⟨b,o+3,none⟩=some (.int .u8 ((z).toNat:Int)):=hcell 3 (by simp);have hz255:=Ba z;have hx255:=Ba x;have q0129:((x.toNat:Int)==129)=false:=by simp;omega
  have q0130:((x.toNat:Int)==130)=true:=by simp;omega
  have q3:decide ((128:Int)≤(x.toNat:Int))=true:=by simp only[decide_eq_true_eq];omega
  have ql4:decide ((4:Int)≤(n:Int))=true:=by simp only[decide_eq_true_eq];omega
  obtain⟨m,hm⟩:∃m:Nat,y.toNat*256+z.toNat=m:=⟨_,rfl⟩;have hor:bits .or .i64 ((y.toNat:Int)*256) (z.toNat:Int)=(m:Int):=by rw[Es y.toNat z.toNat z.toNat_lt (by omega)];omega
  have hm0:(0:Int)≤(m:Int):=by omega
  have q4:decide ((n:Int) - 4<(m:Int))=false:=by simp only[decide_eq_false_iff_not];omega
  have hsz:=I (fun W=>Ej (m) 1 (by omega) (by rw[Bm];rw[if_pos (by omega)]) W);have hmu:(m:Int)≤65535:=by omega
  have E:=I ((AT (Bv (t:=t) (Dm (b:=y) (c:=z) (r:=r) hx1) (.inl (by simp;omega)))).1);have hn2:(2:Int)≤(n:Int):=by omega
  have hnu:(n:Int)≤100000:=by omega
  have g0:decide ((n:Int)<2)=false:=by simp only[decide_eq_false_iff_not];omega
  have HB:=I hb;have HN:=I hn;have HC:=I hc;have HR:=I hr;have HBB:=I hB;have HBG:=I hBg;clear hb hn hc hr hB hBg hu hnl hcell;clear hx1 hf hy;go_enter Tryz.func103,Tryz.ntmps103
  go_wp2
  go_quiet (fail)
  go_wp2_with (go_at_call 152; refine (hsz.o _).mono ?_; rintro e w1 ⟨⟨g1, cap1, rfl⟩, hb1⟩
               have HB1:=I ((HB.o.drewN _).below hb1);have k0:w1.cell? ⟨g,0,none⟩=some (.slice (some ⟨b,o,none⟩) n cap):=HB1.o.cell 0;have k1:w1.cell? ⟨g,1,none⟩=some (.bool false):=HB1.o.cell 1;have kf0:=HB1.o.frozen 0;have kf1:=HB1.o.frozen 1)
  go_ret;exact Br HB1.o E.o (Bn ((below_drewN Af _).trans hb1) _)
theorem GF (B g : Nat) (A : Option Addr) (n cap : Nat) (t x : UInt8) (y z : UInt8) (r : L) (w : World) (hb : Blk w g 134 #[.slice A n cap, .bool false]) (hn : n = (t :: x :: y :: z :: r).length) (hc : n ≤ cap) (hr : Rd w B A (bvs (t :: x :: y :: z :: r))) (hB : B ≤ w.heap.size) (hBg : B ≤ g) (hu : n ≤ 100000) (hx1 : x.toNat = 130) (hf : y.toNat * 256 + z.toNat ≤ r.length) (hy : ¬ y.toNat * 256 + z.toNat < 128) (hy2 : y.toNat * 256 + z.toNat ≤ 255) :
    Calls Tryz.prog 103 #[.pointer (some ⟨g,0,none⟩),.int .u8 t.toNat] w (Took w B g t (some (t :: x :: y :: z :: r))):=by
  have h0:w.cell? ⟨g,0,none⟩=some (.slice A n cap):=hb.cell 0;have h1:w.cell? ⟨g,1,none⟩=some (.bool false):=hb.cell 1;have f0:=hb.frozen 0;have f1:=hb.frozen 1;obtain⟨b,o,rfl,hbB,hcell⟩:=BB hr (by simp);have hnl:=hn;simp only[List.length_cons] at hnl;have c0:w.cell? ⟨b,o,none⟩=some (.int .u8 ((t).toNat:Int)):=hcell 0 (by simp);have c1:w.cell? ⟨b,o+1,none⟩=some (.int .u8 ((x).toNat:Int)):=hcell 1 (by simp);have hlt2:(2:Int)<(n:Int):=by omega
  have hlt3:(3:Int)<(n:Int):=by omega
  have c2:w.cell? ⟨b,o+2,none⟩=some (.int .u8 ((y).toNat:Int)):=hcell 2 (by simp);have hy255:=Ba y;have c3:w.cell? ⟨b,o+3,none⟩=some (.int .u8 ((z).toNat:Int)):=hcell 3 (by simp);have hz255:=Ba z;have hx255:=Ba x;have q0129:((x.toNat:Int)==129)=false:=by simp;omega
  have q0130:((x.toNat:Int)==130)=true:=by simp;omega
  have q3:decide ((128:Int)≤(x.toNat:Int))=true:=by simp only[decide_eq_true_eq];omega
  have ql4:decide ((4:Int)≤(n:Int))=true:=by simp only[decide_eq_true_eq];omega
  obtain⟨m,hm⟩:∃m:Nat,y.toNat*256+z.toNat=m:=⟨_,rfl⟩;have hor:bits .or .i64 ((y.toNat:Int)*256) (z.toNat:Int)=(m:Int):=by rw[Es y.toNat z.toNat z.toNat_lt (by omega)];omega
  have hm0:(0:Int)≤(m:Int):=by omega
  have q4:decide ((n:Int) - 4<(m:Int))=false:=by simp only[decide_eq_false_iff_not];omega
  have hsz:=I (fun W=>Ej (m) 2 (by omega) (by rw[Bm];rw[if_neg (by omega),if_pos (by omega)]) W);have hmu:(m:Int)≤65535:=by omega
  have E:=I ((AT (Bv (t:=t) (Dm (b:=y) (c:=z) (r:=r) hx1) (.inl (by simp;omega)))).1);have hn2:(2:Int)≤(n:Int):=by omega
  have hnu:(n:Int)≤100000:=by omega
  have g0:decide ((n:Int)<2)=false:=by simp only[decide_eq_false_iff_not];omega
  have HB:=I hb;have HN:=I hn;have HC:=I hc;have HR:=I hr;have HBB:=I hB;have HBG:=I hBg;clear hb hn hc hr hB hBg hu hnl hcell;clear hx1 hf hy hy2;go_enter Tryz.func103,Tryz.ntmps103
  go_wp2
  go_quiet (fail)
  go_wp2_with (go_at_call 152; refine (hsz.o _).mono ?_; rintro e w1 ⟨⟨g1, cap1, rfl⟩, hb1⟩
               have HB1:=I ((HB.o.drewN _).below hb1);have k0:w1.cell? ⟨g,0,none⟩=some (.slice (some ⟨b,o,none⟩) n cap):=HB1.o.cell 0;have k1:w1.cell? ⟨g,1,none⟩=some (.bool false):=HB1.o.cell 1;have kf0:=HB1.o.frozen 0;have kf1:=HB1.o.frozen 1)
  go_ret;exact Br HB1.o E.o (Bn ((below_drewN Af _).trans hb1) _)
theorem GG (B g : Nat) (A : Option Addr) (n cap : Nat) (t x : UInt8) (y z : UInt8) (r : L) (w : World) (hb : Blk w g 134 #[.slice A n cap, .bool false]) (hn : n = (t :: x :: y :: z :: r).length) (hc : n ≤ cap) (hr : Rd w B A (bvs (t :: x :: y :: z :: r))) (hB : B ≤ w.heap.size) (hBg : B ≤ g) (hu : n ≤ 100000) (hx1 : x.toNat = 130) (hf : y.toNat * 256 + z.toNat ≤ r.length) (hy : ¬ y.toNat * 256 + z.toNat ≤ 255) :
    Calls Tryz.prog 103 #[.pointer (some ⟨g,0,none⟩),.int .u8 t.toNat] w (Took w B g t (some (t :: x :: y :: z :: r))):=by
  have h0:w.cell? ⟨g,0,none⟩=some (.slice A n cap):=hb.cell 0;have h1:w.cell? ⟨g,1,none⟩=some (.bool false):=hb.cell 1;have f0:=hb.frozen 0;have f1:=hb.frozen 1;obtain⟨b,o,rfl,hbB,hcell⟩:=BB hr (by simp);have hnl:=hn;simp only[List.length_cons] at hnl;have c0:w.cell? ⟨b,o,none⟩=some (.int .u8 ((t).toNat:Int)):=hcell 0 (by simp);have c1:w.cell? ⟨b,o+1,none⟩=some (.int .u8 ((x).toNat:Int)):=hcell 1 (by simp);have hlt2:(2:Int)<(n:Int):=by omega
  have hlt3:(3:Int)<(n:Int):=by omega
  have c2:w.cell? ⟨b,o+2,none⟩=some (.int .u8 ((y).toNat:Int)):=hcell 2 (by simp);have hy255:=Ba y;have c3:w.cell? ⟨b,o+3,none⟩=some (.int .u8 ((z).toNat:Int)):=hcell 3 (by simp);have hz255:=Ba z;have hx255:=Ba x;have q0129:((x.toNat:Int)==129)=false:=by simp;omega
  have q0130:((x.toNat:Int)==130)=true:=by simp;omega
  have q3:decide ((128:Int)≤(x.toNat:Int))=true:=by simp only[decide_eq_true_eq];omega
  have ql4:decide ((4:Int)≤(n:Int))=true:=by simp only[decide_eq_true_eq];omega
  obtain⟨m,hm⟩:∃m:Nat,y.toNat*256+z.toNat=m:=⟨_,rfl⟩;have hor:bits .or .i64 ((y.toNat:Int)*256) (z.toNat:Int)=(m:Int):=by rw[Es y.toNat z.toNat z.toNat_lt (by omega)];omega
  have hm0:(0:Int)≤(m:Int):=by omega
  have q4:decide ((n:Int) - 4<(m:Int))=false:=by simp only[decide_eq_false_iff_not];omega
  have hsz:=I (fun W=>Ej (m) 3 (by omega) (by rw[Bm];rw[if_neg (by omega),if_neg (by omega)]) W);have hmu:(m:Int)≤65535:=by omega
  have HS:=I (DH (t:=t) ((Dm (b:=y) (c:=z) (r:=r) hx1).trans (by rw[hm,decide_eq_true (show 255<m by omega)])) (by simp only[List.length_cons];omega));have HF:=I (show 4+m≤(t :: x :: y :: z :: r).length by simp only[List.length_cons];omega);have hcf:=Dh (P:=Tryz.prog) Tryz.underlying27 Cn (some ⟨b,o,none⟩) n cap (4+m) (4+(m:Int)) (by omega) (by omega);have hcm:=DA (P:=Tryz.prog) Tryz.underlying27 Cn (some ⟨b,o,none⟩) n cap 4 m 4 (4+(m:Int)) rfl rfl (by omega);have hn2:(2:Int)≤(n:Int):=by omega
  have hnu:(n:Int)≤100000:=by omega
  have g0:decide ((n:Int)<2)=false:=by simp only[decide_eq_false_iff_not];omega
  have HB:=I hb;have HN:=I hn;have HC:=I hc;have HR:=I hr;have HBB:=I hB;have HBG:=I hBg;clear hb hn hc hr hB hBg hu hnl hcell;clear hx1 hf hy;go_enter Tryz.func103,Tryz.ntmps103
  go_wp2
  go_quiet (fail)
  go_wp2_with (go_at_call 152; refine (hsz.o _).mono ?_; rintro e w1 ⟨⟨g1, cap1, rfl⟩, hb1⟩
               have HB1:=I ((HB.o.drewN _).below hb1);have k0:w1.cell? ⟨g,0,none⟩=some (.slice (some ⟨b,o,none⟩) n cap):=HB1.o.cell 0;have k1:w1.cell? ⟨g,1,none⟩=some (.bool false):=HB1.o.cell 1;have kf0:=HB1.o.frozen 0;have kf1:=HB1.o.frozen 1)
  go_ret;have hn:=HN.o;subst hn;exact Hk HC.o HS.o HF.o HR.o HB1.o (Bn ((below_drewN Af _).trans hb1) _) HBB.o HBG.o
theorem Jb (B g:Nat) (A:Option Addr) (n cap:Nat) (t x:UInt8) (r:L) (w:World) (hb:Blk w g 134 #[.slice A n cap,.bool false]) (hn:n=(t :: x :: r).length) (hc:n≤cap) (hr:Rd w B A (bvs (t :: x :: r))) (hB:B≤w.heap.size) (hBg:B≤g) (hu:n≤100000) (hx1:¬x.toNat<128) (hx2:¬x.toNat=129) (hx3:¬x.toNat=130) :
  Calls Tryz.prog 103 #[.pointer (some ⟨g,0,none⟩),.int .u8 t.toNat] w (Took w B g t (some (t :: x :: r))):=by
 have h0:w.cell? ⟨g,0,none⟩=some (.slice A n cap):=hb.cell 0;have h1:w.cell? ⟨g,1,none⟩=some (.bool false):=hb.cell 1;have f0:=hb.frozen 0;have f1:=hb.frozen 1;obtain⟨b,o,rfl,hbB,hcell⟩:=BB hr (by simp);have hnl:=hn;simp only[List.length_cons] at hnl;have c0:w.cell? ⟨b,o,none⟩=some (.int .u8 ((t).toNat:Int)):=hcell 0 (by simp);have c1:w.cell? ⟨b,o+1,none⟩=some (.int .u8 ((x).toNat:Int)):=hcell 1 (by simp);have hx255:=Ba x;have q0129:((x.toNat:Int)==129)=false:=by simp;omega
 have q0130:((x.toNat:Int)==130)=false:=by simp;omega
 have q3:decide ((128:Int)≤(x.toNat:Int))=true:=by simp only[decide_eq_true_eq];omega
 have E:=I ((AT (Bv (t:=t) (ES (r:=r) hx1 hx2 hx3) (.inl rfl))).1);have hn2:(2:Int)≤(n:Int):=by omega
 have hnu:(n:Int)≤100000:=by omega
 have g0:decide ((n:Int)<2)=false:=by simp only[decide_eq_false_iff_not];omega
 have HB:=I hb;have HN:=I hn;have HC:=I hc;have HR:=I hr;have HBB:=I hB;have HBG:=I hBg;clear hb hn hc hr hB hBg hu hnl hcell;clear hx1 hx2 hx3;go_enter Tryz.func103,Tryz.ntmps103
 go_wp2
 go_ret;exact Br HB.o E.o (World.grownBy.refl _ _)
theorem DQ (t:UInt8) (B g:Nat) (w:World) (c:Option L) (h:RC w B g c) (hB:B≤w.heap.size) (hBg:B≤g) (hu:(c.getD []).length≤100000) :
  Calls Tryz.prog 103 #[.pointer (some ⟨g,0,none⟩),.int .u8 t.toNat] w (Took w B g t c):=by
 cases c with
 |none=>exact Ja t B g w h
 |some l=>
  obtain⟨A,n,cap,e,hb,rfl,hn,hc,hr⟩:=h;rw[Option.getD_some] at hu
  match l,hn,hr,hu with
  | [],hn,hr,hu=>subst hn;exact Fj t B g A cap [] w hb (by simp)
  | [a],hn,hr,hu=>subst hn;exact Fj t B g A cap [a] w hb (by simp)
  |a :: x :: r,hn,hr,hu=>
   have hu':n≤100000:=by rw[hn];exact hu
   by_cases hne:a=t
   ·subst hne
    by_cases h1:x.toNat<128
    ·by_cases hf:x.toNat≤r.length
     ·exact Fw B g A n cap a x r w hb hn hc hr hB hBg hu' h1 hf
     ·exact Fx B g A n cap a x r w hb hn hc hr hB hBg hu' h1 hf
    ·by_cases h2:x.toNat=129
     ·match r,hn,hr with
      | [],hn,hr=>exact Gg B g A n cap a x w hb hn hc hr hB hBg hu' h2
      |y :: q,hn,hr=>
       by_cases hf:y.toNat≤q.length
       ·by_cases hy:y.toNat<128
        ·exact Fy B g A n cap a x y q w hb hn hc hr hB hBg hu' h2 hf hy
        ·exact GB B g A n cap a x y q w hb hn hc hr hB hBg hu' h2 hf hy
       ·exact GA B g A n cap a x y q w hb hn hc hr hB hBg hu' h2 hf
     ·by_cases h3:x.toNat=130
      ·match r,hn,hr with
       | [],hn,hr=>exact Gh B g A n cap a x w hb hn hc hr hB hBg hu' h3
       | [y],hn,hr=>exact Gi B g A n cap a x y w hb hn hc hr hB hBg hu' h3
       |y :: z :: q,hn,hr=>
        by_cases hf:y.toNat*256+z.toNat≤q.length
        ·by_cases hy:y.toNat*256+z.toNat≤255
         ·by_cases hy1:y.toNat*256+z.toNat<128
          ·exact GD B g A n cap a x y z q w hb hn hc hr hB hBg hu' h3 hf hy1
          ·exact GF B g A n cap a x y z q w hb hn hc hr hB hBg hu' h3 hf hy1 hy
         ·exact GG B g A n cap a x y z q w hb hn hc hr hB hBg hu' h3 hf hy
        ·exact GC B g A n cap a x y z q w hb hn hc hr hB hBg hu' h3 hf
      ·exact Jb B g A n cap a x r w hb hn hc hr hB hBg hu' h1 h2 h3
   ·exact Ka B g A n cap t a x r w hb hn hc hr hB hBg hu' hne
open Reg
def Ints (w:World) (B g:Nat) (c:Option L) (e:Ending) (w':World):Prop:=
 e = .returned (.int .i64 ((intC c).1:Int))∧RC w' B g (intC c).2∧w.grownBy w' (some g)
theorem Kb {c:Option L} (h:Ah 2 c=none∨∃p,Ah 2 c=some p∧numL p=none):intC c=(0,none):=by
 rcases h with h | ⟨p,h,h2⟩
 ·simp [intC,h]
 ·simp [intC,h,h2]
theorem DR {w0 w:World} {B g:Nat} {c:Option L} {A:Option Addr} {n cap:Nat} {e:Bool} (hb:Blk w g 134 #[.slice A n cap,.bool e]) (h:Ah 2 c=none∨∃p,Ah 2 c=some p∧numL p=none) (hg:w0.grownBy w (some g)) :
  Ints w0 B g c (.returned (.int .i64 0)) (w.setCell ⟨g,1,none⟩ (.bool true)):=by
 unfold Ints;rw[Kb h];exact⟨rfl,⟨A,n,cap,true,hb.set 1 (.bool true),rfl⟩,Av hg (.inl rfl) _⟩
theorem Kc (B g : Nat) (c : Option L) (w : World) (h : RC w B g c) (hB : B ≤ w.heap.size) (hBg : B ≤ g) (hu : (c.getD []).length ≤ 100000) (hn : Ah 2 c = none) :
    Calls Tryz.prog 57 #[.pointer (some ⟨g,0,none⟩)] w (Ints w B g c):=by
  have HT:=I (DQ 2 B g w c h hB hBg hu);have HN:=I hn;clear h hB hBg hu hn;go_enter Tryz.func57,Tryz.ntmps57
  go_wp2_with (go_at_call 103; refine HT.o.mono ?_; rintro e w1 ⟨⟨A', cap', rfl, hcap, hrd⟩, hrc, hg⟩
               rw[DF 2 c HN.o] at hrc;obtain⟨A,n,cap,e,hb,rfl⟩:=hrc;have HB:=I hb;have h1:w1.cell? ⟨g,1,none⟩=some (.bool true):=hb.cell 1;have f1:=hb.frozen 1;clear hb hcap hrd)
  go_ret;exact DR HB.o (.inl HN.o) hg
theorem FM (B g:Nat) (c:Option L) (w:World) (h:RC w B g c) (hB:B≤w.heap.size) (hBg:B≤g) (hu:(c.getD []).length≤100000) (p r:L) (hp:Ah 2 c=some p) (hr:Az 2 c=some r) :
  Calls Tryz.prog 103 #[.pointer (some ⟨g,0,none⟩),.int .u8 2] w fun e w'=>
   (∃A' cap' A n cap,e = .returned (.slice A' p.length cap')∧Rd w' B A' (bvs p)∧Blk w' g 134 #[.slice A n cap,.bool false]∧RS w' B A n cap false (some r))∧w.grownBy w' (some g):=by
 refine(DQ 2 B g w c h hB hBg hu).mono ?_;rintro e w' ⟨⟨A',cap',rfl,_,hrd⟩,hrc,hg⟩;rw[hp] at hrd;rw[hr] at hrc;obtain⟨A,n,cap,e,hb,rfl,h2⟩:=hrc;rw[hp];exact⟨⟨A',cap',A,n,cap,rfl,hrd,hb,rfl,h2⟩,hg⟩
theorem Ly (B g : Nat) (c : Option L) (w : World) (h : RC w B g c) (hB : B ≤ w.heap.size) (hBg : B ≤ g) (hu : (c.getD []).length ≤ 100000) (p r : L) (hp : Ah 2 c = some p) (hr : Az 2 c = some r) (hn : numL p = none) (hl : p.length = 0 ∨ 9 < p.length) :
    Calls Tryz.prog 57 #[.pointer (some ⟨g,0,none⟩)] w (Ints w B g c):=by
  have HT:=I (FM B g c w h hB hBg hu p r hp hr);have HN:=I (show Ah 2 c=none∨∃p,Ah 2 c=some p∧numL p=none from .inr ⟨p,hp,hn⟩);have go : ∀ b1 b2 : Bool, ((p.length : Int) == 0) = b1 → decide ((9 : Int) < (p.length : Int)) = b2 → (b1 || b2) = true →
      Calls Tryz.prog 57 #[.pointer (some ⟨g,0,none⟩)] w (Ints w B g c):=by
    intro b1 b2 g1 g2 hor;clear h hB hBg hu hn hp hr hl;cases b1<;>cases b2<;>first
      |(exact(Bool.false_ne_true hor).elim)
      | (clear hor
         go_enter Tryz.func57,Tryz.ntmps57
         go_wp2_with (go_at_call 103; refine HT.o.mono ?_; rintro e w1 ⟨⟨A', cap', A, n, cap, rfl, hrd, hb, hrs⟩, hg⟩
                      have HB:=I hb;have h1:w1.cell? ⟨g,1,none⟩=some (.bool false):=hb.cell 1;have f1:=hb.frozen 1;clear hb hrs hrd)
         go_ret;exact DR HB.o HN.o hg)
  refine go _ _ rfl rfl ?_;rcases hl with hl | hl
  · simp [hl]
  · simp; omega
theorem Fz {p:L} (h:numL p≠none) (i:Nat):val (p.take i)<9223372036854775808:=by
 cases p with
 |nil=>exact absurd rfl h
 |cons a r=>
  by_cases hc:7<r.length∨128≤a.toNat
  ·exact absurd (CN (.inl hc)) h
  ·exact EP (by omega) (by omega) i
theorem Ip (x y:Int) : -9223372036854775808≤bits .or .i64 x y∧bits .or .i64 x y≤9223372036854775807:=by
 show -9223372036854775808≤IntKind.i64.wrap _∧IntKind.i64.wrap _≤9223372036854775807;rw[IntKind.wrap_i64];omega
theorem Jc {p:L} {v:Int} (hp:p.length≤65535) (h0:0≤v) (h1:v≤4611686018427387904) (h:encI v=elem 2 p):numL p=some v.toNat:=by
 have e:=Hx (t:=2) (p:=dig (Bg v)) (q:=p) (r1:=[]) (r2:=[]) (by have:=EE v;omega) hp (by rw[List.append_nil,List.append_nil];exact h);rw[←e.1,Jr _ (CK v),EM v h0 h1]
theorem Ke (B g : Nat) (c : Option L) (w : World) (h : RC w B g c) (hB : B ≤ w.heap.size) (hBg : B ≤ g) (hu : (c.getD []).length ≤ 100000) (p r : L) (hp : Ah 2 c = some p) (hr : Az 2 c = some r) (hl0 : p.length ≠ 0) (hl : p.length ≤ 9) :
    Calls Tryz.prog 57 #[.pointer (some ⟨g,0,none⟩)] w (Ints w B g c):=by
  have HT:=I (FM B g c w h hB hBg hu p r hp hr);have HP:=I hp;have HRR:=I hr;have HBB:=I hB;have HBG:=I hBg;have HL:=I hl;have g1:((p.length:Int)==0)=false:=by simp only[beq_eq_false_iff_ne,ne_eq];omega
  have g2:decide ((9:Int)<(p.length:Int))=false:=by simp;omega
  have hlu:(p.length:Int)≤9:=by omega
  clear h hB hBg hu hp hr hl0 hl;go_enter Tryz.func57,Tryz.ntmps57
  go_wp2_with (go_at_call 103; refine HT.o.mono ?_; rintro e w1 ⟨⟨A', cap', A, n, cap, rfl, hrd, hb, hrs⟩, hg⟩
               have HB:=I hb;have HRD:=I hrd;have HRS:=I hrs;have h1:w1.cell? ⟨g,1,none⟩=some (.bool false):=hb.cell 1;have f1:=hb.frozen 1;clear hb hrs hrd)
  go_loop [4,5] (fun nv i=>∃(j:Nat) (v:Int),j≤p.length∧i = .int .i64 (j:Int)∧nv = .int .i64 v∧-9223372036854775808≤v∧v≤9223372036854775807∧(numL p≠none→v=(val (p.take j):Int))) (fun _ i=>p.length - (intOf i).toNat)
  case atStart=>exact⟨0,0,by omega,rfl,rfl,by omega,by omega,fun _=>by simp [val]⟩
  case round=>
    obtain⟨j,v,hj,rfl,rfl,hv0,hv1,hval⟩:=hrel;have HV:=I hval;clear hval
    by_cases hlt:j<p.length
    · obtain ⟨b, o, rfl, hbB, hcell⟩ := HRD.o.at_ (EW hlt)
      have hc1:w1.cell? ⟨b,o+j,none⟩=some (.int .u8 ((p[j]).toNat:Int)):=hcell;have hb255:=Ba p[j];have HSN:=I (Cq p j hlt);have HSM:=I (Fz (p:=p));have HLT:=I (p[j]).toNat_lt;clear hcell
      go_wp2
      refine⟨⟨j+1,_,by omega,by go_num,rfl,(Ip _ _).1,(Ip _ _).2,fun hne=>?_⟩,by simp [intOf];omega⟩;have e1:=HV.o hne;have e2:=HSM.o hne (j+1);have e3:=HSN.o;rw[e3] at e2⊢;have e4:=Es (val (p.take j)) (p[j]).toNat HLT.o (by omega);have e5:wrap64 (v*256)=((val (p.take j):Nat):Int)*256:=by
        rw[e1];exact IntWalk.wrap64_in _ (by omega)
      rw[e5,e4];omega
    · obtain rfl : j = p.length := by omega
      clear hj hlt;rw[List.take_length] at HV
      by_cases hneg:v<0
      · have g3 : decide (v < 0) = true := by simp only [decide_eq_true_eq]; omega
        have HN:=I (show Ah 2 c=none∨∃p,Ah 2 c=some p∧numL p=none from .inr ⟨p,HP.o,by
          cases hx:numL p with
          |none=>rfl
          |some y=>have:=HV.o (by rw[hx];simp);omega⟩)
        clear hneg
        go_wp2
        go_quiet (fail)
        go_wp2
        go_ret;exact DR (HB.o.drewN _) HN.o (Dv hg _)
      · have g3 : decide (v < 0) = false := by simp only [decide_eq_false_iff_not]; omega
        by_cases hbig:4611686018427387904<v
        · have g4 : decide (4611686018427387904 < v) = true := by simp only [decide_eq_true_eq]; omega
          have HN:=I (show Ah 2 c=none∨∃p,Ah 2 c=some p∧numL p=none from .inr ⟨p,HP.o,by
            cases hx:numL p with
            |none=>rfl
            |some y=>have:=HV.o (by rw[hx];simp);have:=(CR hx).1;have:=(CR hx).2.1;omega⟩)
          clear hneg hbig
          go_wp2
          go_quiet (fail)
          go_wp2
          go_ret;exact DR (HB.o.drewN _) HN.o (Dv hg _)
        · have g4 : decide (4611686018427387904 < v) = false := by simp only [decide_eq_false_iff_not]; omega
          by_cases heq:encI v=elem 2 p
          · have HEQ := I heq
            have HNUM:=I (Jc (by have:=HL.o;omega) (by omega) (by omega) heq);have HV0:=I (show ¬v<0 from hneg);clear heq
            go_wp2
            refine AF 15 rfl (by kernel_rfl) ?_;refine Ab 0 (v:=?ve0) rfl (by kernel_rfl) (by kernel_rfl) (by kernel_rfl) (fun _ _ _ h=>h) (by rfl) (fun w' hS=>?hye0) ?reste0
            case hye0=>go_simp;rfl
            simp only[Act.put,J,U,Aa];refine Ab 1 (v:=?ve1) rfl (by kernel_rfl) (by kernel_rfl) (by kernel_rfl) (fun _ _ _ h=>h) (by rfl) (fun w' hS=>?hye1) ?reste1
            case hye1=>go_simp;rfl
            simp only[Act.put,J,U,Aa];refine Ab 2 (v:=?ve2) rfl (by kernel_rfl) (by kernel_rfl) (by kernel_rfl) (fun _ _ _ h=>h) (by rfl) (fun w' hS=>?hye2) ?reste2
            case hye2=>go_simp;rfl
            simp only[Act.put,J,U,Aa];refine Ab 3 (v:=?ve3) rfl (by kernel_rfl) (by kernel_rfl) (by kernel_rfl) (fun _ _ _ h=>h) (by rfl) (fun w' hS=>?hye3) ?reste3
            case hye3=>go_simp;rfl
            simp only[Act.put,J,U,Aa];refine Ab 4 (v:=?ve4) rfl (by kernel_rfl) (by kernel_rfl) (by kernel_rfl) (fun _ _ _ h=>h) (by rfl) (fun w' hS=>?hye4) ?reste4
            case hye4=>go_simp;rfl
            simp only[Act.put,J,U,Aa];refine Ab 5 (v:=?ve5) rfl (by kernel_rfl) (by kernel_rfl) (by kernel_rfl) (fun _ _ _ h=>h) (by rfl) (fun w' hS=>?hye5) ?reste5
            case hye5=>go_simp;rfl
            simp only[Act.put,J,U,Aa];refine Ab 6 (v:=?ve6) rfl (by kernel_rfl) (by kernel_rfl) (by kernel_rfl) (fun _ _ _ h=>h) (by rfl) (fun w' hS=>?hye6) ?reste6
            case hye6=>go_simp;rfl
            simp only[Act.put,J,U,Aa];refine Ab 7 (v:=?ve7) rfl (by kernel_rfl) (by kernel_rfl) (by kernel_rfl) (fun _ _ _ h=>h) (by rfl) (fun w' hS=>?hye7) ?reste7
            case hye7=>go_simp;rfl
            simp only[Act.put,J,U,Aa];refine Ab 10 (v:=?ve10) rfl (by kernel_rfl) (by kernel_rfl) (by kernel_rfl) (fun _ _ _ h=>h) (by rfl) (fun w' hS=>?hye10) ?reste10
            case hye10=>go_simp;rfl
            simp only[Act.put,J,U,Aa];refine Bj 8 rfl (by kernel_rfl) (by rfl) 73 #[.int .i64 v] (by go_simp) ?_;refine Calls.mono (DerR.AZ v w1.drew) ?_;rintro e w2 ⟨⟨q2,d2,rfl,hq2,hd2,hrd2⟩,hb2⟩;refine⟨_,rfl,hb2,?_⟩;have HRD2:=I hrd2;have B2:Below w1.heap.size w1 w2:=bt Af.drew hb2;clear hrd2;simp only[Act.put,J,U,Aa];refine Ab 9 (v:=?ve9) rfl (by kernel_rfl) (by kernel_rfl) (by kernel_rfl) (fun _ _ _ h=>h) (by rfl) (fun w' hS=>?hye9) ?reste9
            case hye9=>have hh:=DO (P:=Tryz.prog) Tryz.underlying27 Tryz.underlying5 Tryz.underlying9 (n:=(encI v).length) (c:=d2) HRD2.o Ae rfl w' hS;go_simp;rfl
            simp only[Act.put,J,U,Aa];refine Bj 11 rfl (by kernel_rfl) (by rfl) 106 #[.int .u8 2,.slice A' p.length cap'] (by go_simp) ?_;refine Calls.mono (DerR.Cx 2 p A' p.length cap' B w2 (HRD.o.below (B2.mono (Nat.le_trans HBB.o hg.size))) rfl (Nat.le_trans (Nat.le_trans HBB.o hg.size) B2.size) (by have:=HL.o;omega)) ?_;rintro e w3 ⟨⟨q3,d3,rfl,hq3,hd3,hrd3⟩,hb3⟩;refine⟨_,rfl,hb3,?_⟩;have HRD3:=I hrd3;have B3:Below w1.heap.size w1 w3:=bt B2 hb3;clear hrd3;rw[←HEQ.o] at HRD3;rw[←HEQ.o];simp only[Act.put,J,U,Aa];refine Ab 12 (v:=?ve12) rfl (by kernel_rfl) (by kernel_rfl) (by kernel_rfl) (fun _ _ _ h=>h) (by rfl) (fun w' hS=>?hye12) ?reste12
            case hye12=>have hh:=DO (P:=Tryz.prog) Tryz.underlying27 Tryz.underlying5 Tryz.underlying9 (n:=(encI v).length) (c:=d3) HRD3.o Ae rfl w' hS;go_simp;rfl
            simp only[Act.put,J,U,Aa];refine Ab 13 (v:=?ve13) rfl (by kernel_rfl) (by kernel_rfl) (by kernel_rfl) (fun _ _ _ h=>h) (by rfl) (fun w' hS=>?hye13) ?reste13
            case hye13=>go_simp;rfl
            simp only[Act.put,J,U,Aa];refine Ab 14 (v:=?ve14) rfl (by kernel_rfl) (by kernel_rfl) (by kernel_rfl) (fun _ _ _ h=>h) (by rfl) (fun w' hS=>?hye14) ?reste14
            case hye14=>go_simp;rfl
            simp only[Act.put,J,U,Aa];refine wpAnyH_done (by kernel_rfl) ?_ _;have hc1:=HRS.o;have h1':w3.cell? ⟨g,1,none⟩=some (.bool false):=(HB.o.below B3).cell 1
            go_wp2
            go_ret;have hI:intC c=(v.toNat,some r):=by simp only[intC,HP.o,HNUM.o,HRR.o]
            unfold Ints;rw[hI];have hv0':=HV0.o;have hvv:((v.toNat:Nat):Int)=v:=by omega
            exact⟨by show Ending.returned (.int .i64 v) = .returned (.int .i64 ((v.toNat:Nat):Int));rw[hvv],⟨A,n,cap,false,HB.o.below B3,rfl,HRS.o.2.1,HRS.o.2.2.1,HRS.o.2.2.2.below (B3.mono (Nat.le_trans HBB.o hg.size))⟩,Hy hg B3⟩
          · have HNE := I heq
            have HN:=I (show Ah 2 c=none∨∃p,Ah 2 c=some p∧numL p=none from .inr ⟨p,HP.o,by
              cases hx:numL p with
              |none=>rfl
              |some y=>
                have e1:=HV.o (by rw[hx];simp);obtain⟨e2,e3,_⟩:=CR hx;refine absurd ?_ heq;rw[encI,EM v (by omega) (by omega),show v.toNat=y by omega,MF hx]⟩)
            have hbeq:(encI v==elem 2 p)=false:=by simp only[beq_eq_false_iff_ne,ne_eq];exact heq
            clear heq
            go_wp2
            refine AF 15 rfl (by kernel_rfl) ?_;refine Ab 0 (v:=?vf0) rfl (by kernel_rfl) (by kernel_rfl) (by kernel_rfl) (fun _ _ _ h=>h) (by rfl) (fun w' hS=>?hyf0) ?restf0
            case hyf0=>go_simp;rfl
            simp only[Act.put,J,U,Aa];refine Ab 1 (v:=?vf1) rfl (by kernel_rfl) (by kernel_rfl) (by kernel_rfl) (fun _ _ _ h=>h) (by rfl) (fun w' hS=>?hyf1) ?restf1
            case hyf1=>go_simp;rfl
            simp only[Act.put,J,U,Aa];refine Ab 2 (v:=?vf2) rfl (by kernel_rfl) (by kernel_rfl) (by kernel_rfl) (fun _ _ _ h=>h) (by rfl) (fun w' hS=>?hyf2) ?restf2
            case hyf2=>go_simp;rfl
            simp only[Act.put,J,U,Aa];refine Ab 3 (v:=?vf3) rfl (by kernel_rfl) (by kernel_rfl) (by kernel_rfl) (fun _ _ _ h=>h) (by rfl) (fun w' hS=>?hyf3) ?restf3
            case hyf3=>go_simp;rfl
            simp only[Act.put,J,U,Aa];refine Ab 4 (v:=?vf4) rfl (by kernel_rfl) (by kernel_rfl) (by kernel_rfl) (fun _ _ _ h=>h) (by rfl) (fun w' hS=>?hyf4) ?restf4
            case hyf4=>go_simp;rfl
            simp only[Act.put,J,U,Aa];refine Ab 5 (v:=?vf5) rfl (by kernel_rfl) (by kernel_rfl) (by kernel_rfl) (fun _ _ _ h=>h) (by rfl) (fun w' hS=>?hyf5) ?restf5
            case hyf5=>go_simp;rfl
            simp only[Act.put,J,U,Aa];refine Ab 6 (v:=?vf6) rfl (by kernel_rfl) (by kernel_rfl) (by kernel_rfl) (fun _ _ _ h=>h) (by rfl) (fun w' hS=>?hyf6) ?restf6
            case hyf6=>go_simp;rfl
            simp only[Act.put,J,U,Aa];refine Ab 7 (v:=?vf7) rfl (by kernel_rfl) (by kernel_rfl) (by kernel_rfl) (fun _ _ _ h=>h) (by rfl) (fun w' hS=>?hyf7) ?restf7
            case hyf7=>go_simp;rfl
            simp only[Act.put,J,U,Aa];refine Ab 10 (v:=?vf10) rfl (by kernel_rfl) (by kernel_rfl) (by kernel_rfl) (fun _ _ _ h=>h) (by rfl) (fun w' hS=>?hyf10) ?restf10
            case hyf10=>go_simp;rfl
            simp only[Act.put,J,U,Aa];refine Bj 8 rfl (by kernel_rfl) (by rfl) 73 #[.int .i64 v] (by go_simp) ?_;refine Calls.mono (DerR.AZ v w1.drew) ?_;rintro e w2 ⟨⟨q2,d2,rfl,hq2,hd2,hrd2⟩,hb2⟩;refine⟨_,rfl,hb2,?_⟩;have HRD2:=I hrd2;have B2:Below w1.heap.size w1 w2:=bt Af.drew hb2;clear hrd2;simp only[Act.put,J,U,Aa];refine Ab 9 (v:=?vf9) rfl (by kernel_rfl) (by kernel_rfl) (by kernel_rfl) (fun _ _ _ h=>h) (by rfl) (fun w' hS=>?hyf9) ?restf9
            case hyf9=>have hh:=DO (P:=Tryz.prog) Tryz.underlying27 Tryz.underlying5 Tryz.underlying9 (n:=(encI v).length) (c:=d2) HRD2.o Ae rfl w' hS;go_simp;rfl
            simp only[Act.put,J,U,Aa];refine Bj 11 rfl (by kernel_rfl) (by rfl) 106 #[.int .u8 2,.slice A' p.length cap'] (by go_simp) ?_;refine Calls.mono (DerR.Cx 2 p A' p.length cap' B w2 (HRD.o.below (B2.mono (Nat.le_trans HBB.o hg.size))) rfl (Nat.le_trans (Nat.le_trans HBB.o hg.size) B2.size) (by have:=HL.o;omega)) ?_;rintro e w3 ⟨⟨q3,d3,rfl,hq3,hd3,hrd3⟩,hb3⟩;refine⟨_,rfl,hb3,?_⟩;have HRD3:=I hrd3;have B3:Below w1.heap.size w1 w3:=bt B2 hb3;clear hrd3;simp only[Act.put,J,U,Aa];refine Ab 12 (v:=?vf12) rfl (by kernel_rfl) (by kernel_rfl) (by kernel_rfl) (fun _ _ _ h=>h) (by rfl) (fun w' hS=>?hyf12) ?restf12
            case hyf12=>have hh:=DO (P:=Tryz.prog) Tryz.underlying27 Tryz.underlying5 Tryz.underlying9 (n:=(elem 2 p).length) (c:=d3) HRD3.o Ae rfl w' hS;go_simp;rfl
            simp only[Act.put,J,U,Aa];refine Ab 13 (v:=?vf13) rfl (by kernel_rfl) (by kernel_rfl) (by kernel_rfl) (fun _ _ _ h=>h) (by rfl) (fun w' hS=>?hyf13) ?restf13
            case hyf13=>go_simp;rfl
            simp only[Act.put,J,U,Aa];refine Ab 14 (v:=?vf14) rfl (by kernel_rfl) (by kernel_rfl) (by kernel_rfl) (fun _ _ _ h=>h) (by rfl) (fun w' hS=>?hyf14) ?restf14
            case hyf14=>go_simp;rfl
            simp only[Act.put,J,U,Aa];refine wpAnyH_done (by kernel_rfl) ?_ _;have h1':w3.cell? ⟨g,1,none⟩=some (.bool false):=(HB.o.below B3).cell 1;have f1':=(HB.o.below B3).frozen 1
            go_wp2
            go_ret;exact DR (HB.o.below B3) HN.o (Hy hg B3)
theorem Iq (B g:Nat) (c:Option L) (w:World) (h:RC w B g c) (hB:B≤w.heap.size) (hBg:B≤g) (hu:(c.getD []).length≤100000) :
  Calls Tryz.prog 57 #[.pointer (some ⟨g,0,none⟩)] w (Ints w B g c):=by
 cases hp:Ah 2 c with
 |none=>exact Kc B g c w h hB hBg hu hp
 |some p=>
  obtain⟨r,hr⟩:∃r,Az 2 c=some r:=by
   cases c with
   |none=>simp [Ah] at hp
   |some s=>
    cases hs:AP 2 s with
    |none=>rw[(AT hs).1] at hp;cases hp
    |some x=>exact⟨_,(BV (b:=x.1) (r:=x.2) hs).2⟩
  by_cases hl:p.length=0∨9<p.length
  ·have hn:numL p=none:=by
    cases hx:numL p with
    |none=>rfl
    |some y=>obtain⟨_,_,h1,h2,_⟩:=CR hx;omega
   exact Ly B g c w h hB hBg hu p r hp hr hn hl
  ·exact Ke B g c w h hB hBg hu p r hp hr (by omega) (by omega)
theorem GH (B g : Nat) (c : Option L) (w : World) (h : RC w B g c) (hB : B ≤ w.heap.size) (hBg : B ≤ g) (hu : (c.getD []).length ≤ 100000) :
    Calls Tryz.prog 104 #[.pointer (some ⟨g,0,none⟩)] w fun e w'=>e = .returned (.string ⟨((Ah 27 c).getD []).toArray⟩)∧RC w' B g (Az 27 c)∧w.grownBy w' (some g):=by
  have HT:=I (DQ 27 B g w c h hB hBg hu);clear h hB hBg hu;go_enter Tryz.func104,Tryz.ntmps104
  go_wp2_with (go_at_call 103; refine HT.o.mono ?_; rintro e w1 ⟨⟨A', cap', rfl, hcap, hrd⟩, hrc, hg⟩
               have hcv:=AU (P:=Tryz.prog) w1 27 5 Tryz.underlying27 Tryz.underlying5 hrd ((Ah 27 c).getD []).length cap' rfl 9 Tryz.underlying9)
  go_ret;exact⟨rfl,hrc,hg⟩
theorem FA {t:UInt8} {c:Option L} {p:L} (h:Ah t c=some p):∃r,Az t c=some r:=by
 cases c with
 |none=>simp [Ah] at h
 |some s=>
  cases hs:AP t s with
  |none=>rw[(AT hs).1] at h;cases h
  |some x=>exact⟨_,(BV (b:=x.1) (r:=x.2) hs).2⟩
theorem GI (t : UInt8) (B g : Nat) (c : Option L) (w : World) (h : RC w B g c) (hB : B ≤ w.heap.size) (hBg : B ≤ g) (hu : (c.getD []).length ≤ 100000) :
    Calls Tryz.prog 55 #[.pointer (some ⟨g,0,none⟩),.int .u8 t.toNat] w fun e w'=>
      (∃g',e = .returned (.pointer (some ⟨g',0,none⟩))∧w.heap.size≤g'∧RC w' B g' (Ah t c))∧RC w' B g (Az t c)∧w.grownBy w' (some g):=by
  have HT:=I (DQ t B g w c h hB hBg hu);have HB:=I hB;cases hb:Ah t c with
  |none=>
    have hn:=DF t c hb;unfold Took at HT;rw[hb,hn] at HT;rw[hn];clear h hB hBg hu hb hn;go_enter Tryz.func55,Tryz.ntmps55
    go_wp2_with (go_at_call 103; refine HT.o.mono ?_; rintro e w1 ⟨⟨A', cap', rfl, hcap, hrd⟩, ⟨A, n, cap, e, hb, rfl⟩, hg⟩
                 have HBK:=I hb;have h1:w1.cell? ⟨g,1,none⟩=some (.bool true):=hb.cell 1;clear hb)
    go_ret;exact⟨⟨_,rfl,hg.size,_,_,_,true,Blk.new w1 _ _,rfl⟩,⟨A,n,cap,true,HBK.o.alloc _,rfl⟩,BL hg _⟩
  |some p=>
    obtain⟨r,hn⟩:=FA hb;unfold Took at HT;rw[hb,hn] at HT;rw[hn];clear h hB hBg hu hb hn;go_enter Tryz.func55,Tryz.ntmps55
    go_wp2_with (go_at_call 103; refine HT.o.mono ?_; rintro e w1 ⟨⟨A', cap', rfl, hcap, hrd⟩, ⟨A, n, cap, e, hb, rfl, hrs⟩, hg⟩
                 have HBK:=I hb;have HRS:=I hrs;have HRD:=I hrd;have HCP:=I hcap;have h1:w1.cell? ⟨g,1,none⟩=some (.bool false):=hb.cell 1;clear hb hrs hrd hcap)
    go_ret;have hs:=Nat.le_trans HB.o hg.size;exact⟨⟨_,rfl,hg.size,_,_,_,false,Blk.new w1 _ _,rfl,rfl,HCP.o,HRD.o.alloc hs _⟩,⟨A,n,cap,false,HBK.o.alloc _,rfl,HRS.o.1,HRS.o.2.1,HRS.o.2.2.alloc hs _⟩,BL hg _⟩
theorem Jd (B g:Nat) (c:Option L) (w:World) (h:RC w B g c):Calls Tryz.prog 105 #[.pointer (some ⟨g,0,none⟩)] w fun e w'=>e = .returned (.bool (DerC.Ik c))∧w=w':=by
 obtain⟨A,n,cap,e,hb,hrs⟩:=h;have h0:w.cell? ⟨g,0,none⟩=some (.slice A n cap):=hb.cell 0;have h1:w.cell? ⟨g,1,none⟩=some (.bool e):=hb.cell 1;cases c with
 |none=>
  obtain rfl:e=true:=hrs;clear hb;go_enter Tryz.func105,Tryz.ntmps105
  go_wp2
  go_ret;exact⟨rfl,rfl⟩
 |some l=>
  obtain⟨rfl,hn,_⟩:=hrs;clear hb
  by_cases hz:n=0
  ·have hl:DerC.Ik (some l)=true:=by
    have:l = []:=List.length_eq_zero_iff.1 (by omega);subst this;rfl
   subst hz;rw[hl];clear hl hn;go_enter Tryz.func105,Tryz.ntmps105
   go_wp2
   go_ret;exact⟨rfl,rfl⟩
  ·have hl:DerC.Ik (some l)=false:=by
    cases l with
    |nil=>exact absurd hn hz
    |cons a r=>rfl
   have g0:((n:Int)==0)=false:=by simp only[beq_eq_false_iff_ne,ne_eq];omega
   rw[hl];clear hl hn hz;go_enter Tryz.func105,Tryz.ntmps105
   go_wp2
   go_ret;exact⟨rfl,rfl⟩
end DerR
end Go.Proofs.YtlfmicidppccnaaGreat
