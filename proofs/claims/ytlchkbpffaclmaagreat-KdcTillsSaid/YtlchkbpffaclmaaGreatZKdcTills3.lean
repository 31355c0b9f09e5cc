import Derived.Test.YtlchkbpffaclmaaGreatZKdcTills2
set_option maxHeartbeats 25600000
set_option maxRecDepth 100000
set_option linter.unusedVariables false
set_option linter.unusedSimpArgs false
namespace Go.Proofs.YtlchkbpffaclmaaGreat
namespace DerR
open Go.RowKit Af DerP
theorem Ct {w:World} {B:Nat} {A:Option Addr} {l:L} (h:Rd w B A (bvs l)) (hl:0<l.length):∃b o,A=some ⟨b,o,none⟩/\b<B/\∀i (hi:i<l.length),w.cell? ⟨b,o+i,none⟩=some (.int .u8 ((l[i]).toNat:Int)):=by
 obtain⟨b,o,h1,h2,_⟩:=h.at_ (Dy hl);refine⟨b,o,h1,h2,fun i hi=>?_⟩;obtain⟨b',o',e,_,hc⟩:=h.at_ (Dy hi);rw[h1] at e;injection e with e;injection e with e1 e2;subst e1 e2;exact hc
theorem Gy {t:UInt8} {s:L} {m k:Nat} (h:lenR s=(m,k,true)) (hf:m+k<=s.length):Be t (t :: s)=some (((t :: s).drop (k+1)).take m,(t :: s).drop (k+1+m)):=by
 rw[Be,h,if_pos ⟨rfl,rfl,hf⟩]
 congr 2
 rw[List.drop_drop,show k+1+m=(k+m)+1 by omega]
 rfl
theorem Cg {t:UInt8} {s:L} {m k:Nat} {ok:Bool} (h:lenR s=(m,k,ok)) (hf:ok=false\/¬m+k<=s.length):Be t (t :: s)=none:=by
 rw[Be,h];refine if_neg fun hh=>?_
 rcases hf with rfl | hf
 ·exact absurd hh.2.1 (by simp)
 ·exact hf hh.2.2
theorem Hj (n k:Nat) (h:n<=65535) (hk:(szL n).length=k) (w:World):Calls Tryz.prog 131 #[.int .i64 (n:Int)] w fun e w'=>(∃g cap,e=.returned (.slice (some ⟨g,0,none⟩) k cap))/\Below w.heap.size w w':=by
 subst hk;exact(NW n h w).mono fun e w' ⟨⟨g,cap,he,_⟩,hb⟩=>⟨⟨g,cap,he⟩,hb⟩
theorem DX:∀w:World,(sizeOf 5).run Tryz.prog w=.ok 1 w:=fun w=>by kernel_rfl
theorem MO {w w1:World} {B g:Nat} {t:UInt8} {l:L} {A:Option Addr} {cap p m:Nat} (hc:l.length<=cap) (hs:Be t l=some ((l.drop p).take m,l.drop (p+m))) (hf:p+m<=l.length)
  (hr:Rd w B A (bvs l)) (hb:Blk w1 g 112 #[.slice A l.length cap,.bool false]) (hg:w.grownBy w1 (some g)) (hB:B<=w.heap.size) (hBg:B<=g) :
  Took w B g t (some l) (.returned (.slice (cutA A cap p) m (cap - p))) (w1.setCell ⟨g,0,none⟩ (.slice (cutA A cap (p+m)) (l.length - (p+m)) (cap - (p+m)))):=by
 obtain⟨e1,e2⟩:=Dr hs;have hg':=AE (p:=⟨g,0,none⟩) hg (.inl rfl) (.slice (cutA A cap (p+m)) (l.length - (p+m)) (cap - (p+m)));have hk:∀xs A',Rd w B A' xs->Rd (w1.setCell ⟨g,0,none⟩ (.slice (cutA A cap (p+m)) (l.length - (p+m)) (cap - (p+m)))) B A' xs:=fun xs A' h=>h.grown hg' hB (fun k hk=>by injection hk with hk;omega)
 have hlen:((l.drop p).take m).length=m:=by rw[List.length_take,List.length_drop];omega
 unfold Took;rw[e1,e2];simp only[Option.getD_some];refine⟨⟨cutA A cap p,cap - p,by rw[hlen],by rw[hlen];omega,hk _ _ (IZ (VF hr p hc) m)⟩,⟨_,_,_,false,hb.set 0 _,rfl,by rw[List.length_drop],by omega,hk _ _ (VF hr (p+m) hc)⟩,hg'⟩
theorem QU (B g:Nat) (A:Option Addr) (n cap:Nat) (t a x:UInt8) (r:L) (w:World) (hb:Blk w g 112 #[.slice A n cap,.bool false]) (hn:n=(a :: x :: r).length) (hc:n<=cap) (hr:Rd w B A (bvs (a :: x :: r))) (hB:B<=w.heap.size) (hBg:B<=g) (hu:n<=100000) (hne:a≠t) :
  Calls Tryz.prog 82 #[.pointer (some ⟨g,0,none⟩),.int .u8 t.toNat] w (Took w B g t (some (a :: x :: r))):=by
 have h0:w.cell? ⟨g,0,none⟩=some (.slice A n cap):=hb.cell 0;have h1:w.cell? ⟨g,1,none⟩=some (.bool false):=hb.cell 1;have f0:=hb.frozen 0;have f1:=hb.frozen 1;obtain⟨b,o,rfl,hbB,hcell⟩:=Ct hr (by simp);have hnl:=hn;simp only[List.length_cons] at hnl;have c0:w.cell? ⟨b,o,none⟩=some (.int .u8 ((a).toNat:Int)):=hcell 0 (by simp);have E:=I ((Bj (QN (s:=x :: r) hne)).1);have q1:((a.toNat:Int)==(t.toNat:Int))=false:=by simp;exact fun e=>hne (UInt8.toNat_inj.1 (by omega))
 have q2:((a.toNat:Int) != (t.toNat:Int))=true:=by simp;exact fun e=>hne (UInt8.toNat_inj.1 (by omega))
 have hn2:(2:Int)<=(n:Int):=by omega
 have hnu:(n:Int)<=100000:=by omega
 have g0:decide ((n:Int)<2)=false:=by simp only[decide_eq_false_iff_not];omega
 have HB:=I hb;have HN:=I hn;have HC:=I hc;have HR:=I hr;have HBB:=I hB;have HBG:=I hBg;clear hb hn hc hr hB hBg hu hnl hcell;clear hne;go_enter Tryz.func82,Tryz.ntmps82
 go_wp2
 go_ret;exact Cb HB.o E.o (World.grownBy.refl _ _)
theorem JF (B g : Nat) (A : Option Addr) (n cap : Nat) (t x : UInt8) (r : L) (w : World) (hb : Blk w g 112 #[.slice A n cap, .bool false]) (hn : n = (t :: x :: r).length) (hc : n <= cap) (hr : Rd w B A (bvs (t :: x :: r))) (hB : B <= w.heap.size) (hBg : B <= g) (hu : n <= 100000) (hx1 : x.toNat < 128) (hf : x.toNat <= r.length) :
    Calls Tryz.prog 82 #[.pointer (some ⟨g,0,none⟩),.int .u8 t.toNat] w (Took w B g t (some (t :: x :: r))):=by
  have h0:w.cell? ⟨g,0,none⟩=some (.slice A n cap):=hb.cell 0;have h1:w.cell? ⟨g,1,none⟩=some (.bool false):=hb.cell 1;have f0:=hb.frozen 0;have f1:=hb.frozen 1;obtain⟨b,o,rfl,hbB,hcell⟩:=Ct hr (by simp);have hnl:=hn;simp only[List.length_cons] at hnl;have c0:w.cell? ⟨b,o,none⟩=some (.int .u8 ((t).toNat:Int)):=hcell 0 (by simp);have c1:w.cell? ⟨b,o+1,none⟩=some (.int .u8 ((x).toNat:Int)):=hcell 1 (by simp);have hx255:=BC x;have q0129:((x.toNat:Int)==129)=false:=by simp;omega
  have q0130:((x.toNat:Int)==130)=false:=by simp;omega
  have q3:decide ((128:Int)<=(x.toNat:Int))=false:=by simp only[decide_eq_false_iff_not];omega
  have q4:decide ((n:Int) - 2<(x.toNat:Int))=false:=by simp only[decide_eq_false_iff_not];omega
  have hsz:=I (fun W=>Hj (x.toNat) 1 (by omega) (by rw[BZ];rw[if_pos (by omega)]) W);have hmu:(x.toNat:Int)<=65535:=by omega
  have HS:=I (Gy (t:=t) (FJ (r:=r) hx1) (by simp only[List.length_cons];omega));have HF:=I (show 2+x.toNat<=(t :: x :: r).length by simp only[List.length_cons];omega);have hcf:=Fm (P:=Tryz.prog) Tryz.underlying26 DX (some ⟨b,o,none⟩) n cap (2+x.toNat) (2+(x.toNat:Int)) (by omega) (by omega);have hcm:=Gl (P:=Tryz.prog) Tryz.underlying26 DX (some ⟨b,o,none⟩) n cap 2 x.toNat 2 (2+(x.toNat:Int)) rfl rfl (by omega);have hn2:(2:Int)<=(n:Int):=by omega
  have hnu:(n:Int)<=100000:=by omega
  have g0:decide ((n:Int)<2)=false:=by simp only[decide_eq_false_iff_not];omega
  have HB:=I hb;have HN:=I hn;have HC:=I hc;have HR:=I hr;have HBB:=I hB;have HBG:=I hBg;clear hb hn hc hr hB hBg hu hnl hcell;clear hx1 hf;go_enter Tryz.func82,Tryz.ntmps82
  go_wp2_with (go_at_call 131; refine (hsz.o _).mono ?_; rintro e w1 ⟨⟨g1, cap1, rfl⟩, hb1⟩
               have HB1:=I (HB.o.below hb1);have k0:w1.cell? ⟨g,0,none⟩=some (.slice (some ⟨b,o,none⟩) n cap):=HB1.o.cell 0;have k1:w1.cell? ⟨g,1,none⟩=some (.bool false):=HB1.o.cell 1;have kf0:=HB1.o.frozen 0;have kf1:=HB1.o.frozen 1)
  go_ret;have hn:=HN.o;subst hn;exact MO HC.o HS.o HF.o HR.o HB1.o (BD hb1 _) HBB.o HBG.o
theorem JG (B g:Nat) (A:Option Addr) (n cap:Nat) (t x:UInt8) (r:L) (w:World) (hb:Blk w g 112 #[.slice A n cap,.bool false]) (hn:n=(t :: x :: r).length) (hc:n<=cap) (hr:Rd w B A (bvs (t :: x :: r))) (hB:B<=w.heap.size) (hBg:B<=g) (hu:n<=100000) (hx1:x.toNat<128) (hf:¬x.toNat<=r.length) :
  Calls Tryz.prog 82 #[.pointer (some ⟨g,0,none⟩),.int .u8 t.toNat] w (Took w B g t (some (t :: x :: r))):=by
 have h0:w.cell? ⟨g,0,none⟩=some (.slice A n cap):=hb.cell 0;have h1:w.cell? ⟨g,1,none⟩=some (.bool false):=hb.cell 1;have f0:=hb.frozen 0;have f1:=hb.frozen 1;obtain⟨b,o,rfl,hbB,hcell⟩:=Ct hr (by simp);have hnl:=hn;simp only[List.length_cons] at hnl;have c0:w.cell? ⟨b,o,none⟩=some (.int .u8 ((t).toNat:Int)):=hcell 0 (by simp);have c1:w.cell? ⟨b,o+1,none⟩=some (.int .u8 ((x).toNat:Int)):=hcell 1 (by simp);have hx255:=BC x;have q0129:((x.toNat:Int)==129)=false:=by simp;omega
 have q0130:((x.toNat:Int)==130)=false:=by simp;omega
 have q3:decide ((128:Int)<=(x.toNat:Int))=false:=by simp only[decide_eq_false_iff_not];omega
 have E:=I ((Bj (Cg (t:=t) (FJ (r:=r) hx1) (.inr (by simp only[List.length_cons];omega)))).1);have q4:decide ((n:Int) - 2<(x.toNat:Int))=true:=by simp only[decide_eq_true_eq];omega
 have hn2:(2:Int)<=(n:Int):=by omega
 have hnu:(n:Int)<=100000:=by omega
 have g0:decide ((n:Int)<2)=false:=by simp only[decide_eq_false_iff_not];omega
 have HB:=I hb;have HN:=I hn;have HC:=I hc;have HR:=I hr;have HBB:=I hB;have HBG:=I hBg;clear hb hn hc hr hB hBg hu hnl hcell;clear hx1 hf;go_enter Tryz.func82,Tryz.ntmps82
 go_wp2
 go_ret;exact Cb HB.o E.o (World.grownBy.refl _ _)
theorem Ky (B g:Nat) (A:Option Addr) (n cap:Nat) (t x:UInt8)  (w:World) (hb:Blk w g 112 #[.slice A n cap,.bool false]) (hn:n=(t :: x :: []).length) (hc:n<=cap) (hr:Rd w B A (bvs (t :: x :: []))) (hB:B<=w.heap.size) (hBg:B<=g) (hu:n<=100000) (hx1:x.toNat=129) :
  Calls Tryz.prog 82 #[.pointer (some ⟨g,0,none⟩),.int .u8 t.toNat] w (Took w B g t (some (t :: x :: []))):=by
 have h0:w.cell? ⟨g,0,none⟩=some (.slice A n cap):=hb.cell 0;have h1:w.cell? ⟨g,1,none⟩=some (.bool false):=hb.cell 1;have f0:=hb.frozen 0;have f1:=hb.frozen 1;obtain⟨b,o,rfl,hbB,hcell⟩:=Ct hr (by simp);have hnl:=hn;simp only[List.length_cons,List.length_nil] at hnl;have c0:w.cell? ⟨b,o,none⟩=some (.int .u8 ((t).toNat:Int)):=hcell 0 (by simp);have c1:w.cell? ⟨b,o+1,none⟩=some (.int .u8 ((x).toNat:Int)):=hcell 1 (by simp);have hx255:=BC x;have q0129:((x.toNat:Int)==129)=true:=by simp;omega
 have q0130:((x.toNat:Int)==130)=false:=by simp;omega
 have q3:decide ((128:Int)<=(x.toNat:Int))=true:=by simp only[decide_eq_true_eq];omega
 have ql3:decide ((3:Int)<=(n:Int))=false:=by simp only[decide_eq_false_iff_not];omega
 have E:=I ((Bj (Cg (t:=t) (Fg hx1) (.inl rfl))).1);have hn2:(2:Int)<=(n:Int):=by omega
 have hnu:(n:Int)<=100000:=by omega
 have g0:decide ((n:Int)<2)=false:=by simp only[decide_eq_false_iff_not];omega
 have HB:=I hb;have HN:=I hn;have HC:=I hc;have HR:=I hr;have HBB:=I hB;have HBG:=I hBg;clear hb hn hc hr hB hBg hu hnl hcell;clear hx1;go_enter Tryz.func82,Tryz.ntmps82
 go_wp2
 go_ret;exact Cb HB.o E.o (World.grownBy.refl _ _)
theorem Lr (B g:Nat) (A:Option Addr) (n cap:Nat) (t x:UInt8) (y:UInt8) (r:L) (w:World) (hb:Blk w g 112 #[.slice A n cap,.bool false]) (hn:n=(t :: x :: y :: r).length) (hc:n<=cap) (hr:Rd w B A (bvs (t :: x :: y :: r))) (hB:B<=w.heap.size) (hBg:B<=g) (hu:n<=100000) (hx1:x.toNat=129) (hf:¬y.toNat<=r.length) :
  Calls Tryz.prog 82 #[.pointer (some ⟨g,0,none⟩),.int .u8 t.toNat] w (Took w B g t (some (t :: x :: y :: r))):=by
 have h0:w.cell? ⟨g,0,none⟩=some (.slice A n cap):=hb.cell 0;have h1:w.cell? ⟨g,1,none⟩=some (.bool false):=hb.cell 1;have f0:=hb.frozen 0;have f1:=hb.frozen 1;obtain⟨b,o,rfl,hbB,hcell⟩:=Ct hr (by simp);have hnl:=hn;simp only[List.length_cons] at hnl;have c0:w.cell? ⟨b,o,none⟩=some (.int .u8 ((t).toNat:Int)):=hcell 0 (by simp);have c1:w.cell? ⟨b,o+1,none⟩=some (.int .u8 ((x).toNat:Int)):=hcell 1 (by simp);have hlt2:(2:Int)<(n:Int):=by omega
 have c2:w.cell? ⟨b,o+2,none⟩=some (.int .u8 ((y).toNat:Int)):=hcell 2 (by simp);have hy255:=BC y;have hx255:=BC x;have q0129:((x.toNat:Int)==129)=true:=by simp;omega
 have q0130:((x.toNat:Int)==130)=false:=by simp;omega
 have q3:decide ((128:Int)<=(x.toNat:Int))=true:=by simp only[decide_eq_true_eq];omega
 have ql3:decide ((3:Int)<=(n:Int))=true:=by simp only[decide_eq_true_eq];omega
 have E:=I ((Bj (Cg (t:=t) (GG (b:=y) (r:=r) hx1) (.inr (by simp only[List.length_cons];omega)))).1);have q4:decide ((n:Int) - 3<(y.toNat:Int))=true:=by simp only[decide_eq_true_eq];omega
 have hn2:(2:Int)<=(n:Int):=by omega
 have hnu:(n:Int)<=100000:=by omega
 have g0:decide ((n:Int)<2)=false:=by simp only[decide_eq_false_iff_not];omega
 have HB:=I hb;have HN:=I hn;have HC:=I hc;have HR:=I hr;have HBB:=I hB;have HBG:=I hBg;clear hb hn hc hr hB hBg hu hnl hcell;clear hx1 hf;go_enter Tryz.func82,Tryz.ntmps82
 go_wp2
 go_ret;exact Cb HB.o E.o (World.grownBy.refl _ _)
theorem JH (B g : Nat) (A : Option Addr) (n cap : Nat) (t x : UInt8) (y : UInt8) (r : L) (w : World) (hb : Blk w g 112 #[.slice A n cap, .bool false]) (hn : n = (t :: x :: y :: r).length) (hc : n <= cap) (hr : Rd w B A (bvs (t :: x :: y :: r))) (hB : B <= w.heap.size) (hBg : B <= g) (hu : n <= 100000) (hx1 : x.toNat = 129) (hf : y.toNat <= r.length) (hy : y.toNat < 128) :
    Calls Tryz.prog 82 #[.pointer (some ⟨g,0,none⟩),.int .u8 t.toNat] w (Took w B g t (some (t :: x :: y :: r))):=by
  have h0:w.cell? ⟨g,0,none⟩=some (.slice A n cap):=hb.cell 0;have h1:w.cell? ⟨g,1,none⟩=some (.bool false):=hb.cell 1;have f0:=hb.frozen 0;have f1:=hb.frozen 1;obtain⟨b,o,rfl,hbB,hcell⟩:=Ct hr (by simp);have hnl:=hn;simp only[List.length_cons] at hnl;have c0:w.cell? ⟨b,o,none⟩=some (.int .u8 ((t).toNat:Int)):=hcell 0 (by simp);have c1:w.cell? ⟨b,o+1,none⟩=some (.int .u8 ((x).toNat:Int)):=hcell 1 (by simp);have hlt2:(2:Int)<(n:Int):=by omega
  have c2:w.cell? ⟨b,o+2,none⟩=some (.int .u8 ((y).toNat:Int)):=hcell 2 (by simp);have hy255:=BC y;have hx255:=BC x;have q0129:((x.toNat:Int)==129)=true:=by simp;omega
  have q0130:((x.toNat:Int)==130)=false:=by simp;omega
  have q3:decide ((128:Int)<=(x.toNat:Int))=true:=by simp only[decide_eq_true_eq];omega
  have ql3:decide ((3:Int)<=(n:Int))=true:=by simp only[decide_eq_true_eq];omega
  have q4:decide ((n:Int) - 3<(y.toNat:Int))=false:=by simp only[decide_eq_false_iff_not];omega
  have hsz:=I (fun W=>Hj (y.toNat) 1 (by omega) (by rw[BZ];rw[if_pos (by omega)]) W);have hmu:(y.toNat:Int)<=65535:=by omega
  have E:=I ((Bj (Cg (t:=t) (GG (b:=y) (r:=r) hx1) (.inl (by simp;omega)))).1);have hn2:(2:Int)<=(n:Int):=by omega
  have hnu:(n:Int)<=100000:=by omega
  have g0:decide ((n:Int)<2)=false:=by simp only[decide_eq_false_iff_not];omega
  have HB:=I hb;have HN:=I hn;have HC:=I hc;have HR:=I hr;have HBB:=I hB;have HBG:=I hBg;clear hb hn hc hr hB hBg hu hnl hcell;clear hx1 hf hy;go_enter Tryz.func82,Tryz.ntmps82
  go_wp2_with (go_at_call 131; refine (hsz.o _).mono ?_; rintro e w1 ⟨⟨g1, cap1, rfl⟩, hb1⟩
               have HB1:=I (HB.o.below hb1);have k0:w1.cell? ⟨g,0,none⟩=some (.slice (some ⟨b,o,none⟩) n cap):=HB1.o.cell 0;have k1:w1.cell? ⟨g,1,none⟩=some (.bool false):=HB1.o.cell 1;have kf0:=HB1.o.frozen 0;have kf1:=HB1.o.frozen 1)
  go_ret;exact Cb HB1.o E.o (BD hb1 _)
theorem Ls (B g : Nat) (A : Option Addr) (n cap : Nat) (t x : UInt8) (y : UInt8) (r : L) (w : World) (hb : Blk w g 112 #[.slice A n cap, .bool false]) (hn : n = (t :: x :: y :: r).length) (hc : n <= cap) (hr : Rd w B A (bvs (t :: x :: y :: r))) (hB : B <= w.heap.size) (hBg : B <= g) (hu : n <= 100000) (hx1 : x.toNat = 129) (hf : y.toNat <= r.length) (hy : ¬ y.toNat < 128) :
    Calls Tryz.prog 82 #[.pointer (some ⟨g,0,none⟩),.int .u8 t.toNat] w (Took w B g t (some (t :: x :: y :: r))):=by
  have h0:w.cell? ⟨g,0,none⟩=some (.slice A n cap):=hb.cell 0;have h1:w.cell? ⟨g,1,none⟩=some (.bool false):=hb.cell 1;have f0:=hb.frozen 0;have f1:=hb.frozen 1;obtain⟨b,o,rfl,hbB,hcell⟩:=Ct hr (by simp);have hnl:=hn;simp only[List.length_cons] at hnl;have c0:w.cell? ⟨b,o,none⟩=some (.int .u8 ((t).toNat:Int)):=hcell 0 (by simp);have c1:w.cell? ⟨b,o+1,none⟩=some (.int .u8 ((x).toNat:Int)):=hcell 1 (by simp);have hlt2:(2:Int)<(n:Int):=by omega
  have c2:w.cell? ⟨b,o+2,none⟩=some (.int .u8 ((y).toNat:Int)):=hcell 2 (by simp);have hy255:=BC y;have hx255:=BC x;have q0129:((x.toNat:Int)==129)=true:=by simp;omega
  have q0130:((x.toNat:Int)==130)=false:=by simp;omega
  have q3:decide ((128:Int)<=(x.toNat:Int))=true:=by simp only[decide_eq_true_eq];omega
  have ql3:decide ((3:Int)<=(n:Int))=true:=by simp only[decide_eq_true_eq];omega
  have q4:decide ((n:Int) - 3<(y.toNat:Int))=false:=by simp only[decide_eq_false_iff_not];omega
  have hsz:=I (fun W=>Hj (y.toNat) 2 (by omega) (by rw[BZ];rw[if_neg (by omega),if_pos (by omega)]) W);have hmu:(y.toNat:Int)<=65535:=by omega
  have HS:=I (Gy (t:=t) ((GG (b:=y) (r:=r) hx1).trans (by rw[decide_eq_true (show 128<=y.toNat by omega)])) (by simp only[List.length_cons];omega));have HF:=I (show 3+y.toNat<=(t :: x :: y :: r).length by simp only[List.length_cons];omega);have hcf:=Fm (P:=Tryz.prog) Tryz.underlying26 DX (some ⟨b,o,none⟩) n cap (3+y.toNat) (3+(y.toNat:Int)) (by omega) (by omega);have hcm:=Gl (P:=Tryz.prog) Tryz.underlying26 DX (some ⟨b,o,none⟩) n cap 3 y.toNat 3 (3+(y.toNat:Int)) rfl rfl (by omega);have hn2:(2:Int)<=(n:Int):=by omega
  have hnu:(n:Int)<=100000:=by omega
  have g0:decide ((n:Int)<2)=false:=by simp only[decide_eq_false_iff_not];omega
  have HB:=I hb;have HN:=I hn;have HC:=I hc;have HR:=I hr;have HBB:=I hB;have HBG:=I hBg;clear hb hn hc hr hB hBg hu hnl hcell;clear hx1 hf hy;go_enter Tryz.func82,Tryz.ntmps82
  go_wp2_with (go_at_call 131; refine (hsz.o _).mono ?_; rintro e w1 ⟨⟨g1, cap1, rfl⟩, hb1⟩
               have HB1:=I (HB.o.below hb1);have k0:w1.cell? ⟨g,0,none⟩=some (.slice (some ⟨b,o,none⟩) n cap):=HB1.o.cell 0;have k1:w1.cell? ⟨g,1,none⟩=some (.bool false):=HB1.o.cell 1;have kf0:=HB1.o.frozen 0;have kf1:=HB1.o.frozen 1)
  go_ret;have hn:=HN.o;subst hn;exact MO HC.o HS.o HF.o HR.o HB1.o (BD hb1 _) HBB.o HBG.o
theorem Kz (B g:Nat) (A:Option Addr) (n cap:Nat) (t x:UInt8)  (w:World) (hb:Blk w g 112 #[.slice A n cap,.bool false]) (hn:n=(t :: x :: []).length) (hc:n<=cap) (hr:Rd w B A (bvs (t :: x :: []))) (hB:B<=w.heap.size) (hBg:B<=g) (hu:n<=100000) (hx1:x.toNat=130) :
  Calls Tryz.prog 82 #[.pointer (some ⟨g,0,none⟩),.int .u8 t.toNat] w (Took w B g t (some (t :: x :: []))):=by
 have h0:w.cell? ⟨g,0,none⟩=some (.slice A n cap):=hb.cell 0;have h1:w.cell? ⟨g,1,none⟩=some (.bool false):=hb.cell 1;have f0:=hb.frozen 0;have f1:=hb.frozen 1;obtain⟨b,o,rfl,hbB,hcell⟩:=Ct hr (by simp);have hnl:=hn;simp only[List.length_cons,List.length_nil] at hnl;have c0:w.cell? ⟨b,o,none⟩=some (.int .u8 ((t).toNat:Int)):=hcell 0 (by simp);have c1:w.cell? ⟨b,o+1,none⟩=some (.int .u8 ((x).toNat:Int)):=hcell 1 (by simp);have hx255:=BC x;have q0129:((x.toNat:Int)==129)=false:=by simp;omega
 have q0130:((x.toNat:Int)==130)=true:=by simp;omega
 have q3:decide ((128:Int)<=(x.toNat:Int))=true:=by simp only[decide_eq_true_eq];omega
 have ql4:decide ((4:Int)<=(n:Int))=false:=by simp only[decide_eq_false_iff_not];omega
 have E:=I ((Bj (Cg (t:=t) (Fh hx1) (.inl rfl))).1);have hn2:(2:Int)<=(n:Int):=by omega
 have hnu:(n:Int)<=100000:=by omega
 have g0:decide ((n:Int)<2)=false:=by simp only[decide_eq_false_iff_not];omega
 have HB:=I hb;have HN:=I hn;have HC:=I hc;have HR:=I hr;have HBB:=I hB;have HBG:=I hBg;clear hb hn hc hr hB hBg hu hnl hcell;clear hx1;go_enter Tryz.func82,Tryz.ntmps82
 go_wp2
 go_ret;exact Cb HB.o E.o (World.grownBy.refl _ _)
theorem KC (B g:Nat) (A:Option Addr) (n cap:Nat) (t x:UInt8) (y:UInt8) (w:World) (hb:Blk w g 112 #[.slice A n cap,.bool false]) (hn:n=(t :: x :: y :: []).length) (hc:n<=cap) (hr:Rd w B A (bvs (t :: x :: y :: []))) (hB:B<=w.heap.size) (hBg:B<=g) (hu:n<=100000) (hx1:x.toNat=130) :
  Calls Tryz.prog 82 #[.pointer (some ⟨g,0,none⟩),.int .u8 t.toNat] w (Took w B g t (some (t :: x :: y :: []))):=by
 have h0:w.cell? ⟨g,0,none⟩=some (.slice A n cap):=hb.cell 0;have h1:w.cell? ⟨g,1,none⟩=some (.bool false):=hb.cell 1;have f0:=hb.frozen 0;have f1:=hb.frozen 1;obtain⟨b,o,rfl,hbB,hcell⟩:=Ct hr (by simp);have hnl:=hn;simp only[List.length_cons,List.length_nil] at hnl;have c0:w.cell? ⟨b,o,none⟩=some (.int .u8 ((t).toNat:Int)):=hcell 0 (by simp);have c1:w.cell? ⟨b,o+1,none⟩=some (.int .u8 ((x).toNat:Int)):=hcell 1 (by simp);have hx255:=BC x;have q0129:((x.toNat:Int)==129)=false:=by simp;omega
 have q0130:((x.toNat:Int)==130)=true:=by simp;omega
 have q3:decide ((128:Int)<=(x.toNat:Int))=true:=by simp only[decide_eq_true_eq];omega
 have ql4:decide ((4:Int)<=(n:Int))=false:=by simp only[decide_eq_false_iff_not];omega
 have E:=I ((Bj (Cg (t:=t) (Fi (b:=y) hx1) (.inl rfl))).1);have hn2:(2:Int)<=(n:Int):=by omega
 have hnu:(n:Int)<=100000:=by omega
 have g0:decide ((n:Int)<2)=false:=by simp only[decide_eq_false_iff_not];omega
 have HB:=I hb;have HN:=I hn;have HC:=I hc;have HR:=I hr;have HBB:=I hB;have HBG:=I hBg;clear hb hn hc hr hB hBg hu hnl hcell;clear hx1;go_enter Tryz.func82,Tryz.ntmps82
 go_wp2
 go_ret;exact Cb HB.o E.o (World.grownBy.refl _ _)
theorem Lt (B g:Nat) (A:Option Addr) (n cap:Nat) (t x:UInt8) (y z:UInt8) (r:L) (w:World) (hb:Blk w g 112 #[.slice A n cap,.bool false]) (hn:n=(t :: x :: y :: z :: r).length) (hc:n<=cap) (hr:Rd w B A (bvs (t :: x :: y :: z :: r))) (hB:B<=w.heap.size) (hBg:B<=g) (hu:n<=100000) (hx1:x.toNat=130) (hf:¬y.toNat*256+z.toNat<=r.length) :
  Calls Tryz.prog 82 #[.pointer (some ⟨g,0,none⟩),.int .u8 t.toNat] w (Took w B g t (some (t :: x :: y :: z :: r))):=by
 have h0:w.cell? ⟨g,0,none⟩=some (.slice A n cap):=hb.cell 0;have h1:w.cell? ⟨g,1,none⟩=some (.bool false):=hb.cell 1;have f0:=hb.frozen 0;have f1:=hb.frozen 1;obtain⟨b,o,rfl,hbB,hcell⟩:=Ct hr (by simp);have hnl:=hn;simp only[List.length_cons] at hnl;have c0:w.cell? ⟨b,o,none⟩=some (.int .u8 ((t).toNat:Int)):=hcell 0 (by simp);have c1:w.cell? ⟨b,o+1,none⟩=some (.int .u8 ((x).toNat:Int)):=hcell 1 (by simp);have hlt2:(2:Int)<(n:Int):=by omega
 have hlt3:(3:Int)<(n:Int):=by omega
 have c2:w.cell? ⟨b,o+2,none⟩=some (.int .u8 ((y).toNat:Int)):=hcell 2 (by simp);have hy255:=BC y;have c3:w.cell? ⟨b,o+3,none⟩=some (.int .u8 ((z).toNat:Int)):=hcell 3 (by simp);have hz255:=BC z;have hx255:=BC x;have q0129:((x.toNat:Int)==129)=false:=by simp;omega
 have q0130:((x.toNat:Int)==130)=true:=by simp;omega
 have q3:decide ((128:Int)<=(x.toNat:Int))=true:=by simp only[decide_eq_true_eq];omega
 have ql4:decide ((4:Int)<=(n:Int))=true:=by simp only[decide_eq_true_eq];omega
 obtain⟨m,hm⟩:∃m:Nat,y.toNat*256+z.toNat=m:=⟨_,rfl⟩;have hor:bits .or .i64 ((y.toNat:Int)*256) (z.toNat:Int)=(m:Int):=by rw[Hx y.toNat z.toNat z.toNat_lt (by omega)];omega
 have hm0:(0:Int)<=(m:Int):=by omega
 have E:=I ((Bj (Cg (t:=t) (FK (b:=y) (c:=z) (r:=r) hx1) (.inr (by simp only[List.length_cons];omega)))).1);have q4:decide ((n:Int) - 4<(m:Int))=true:=by simp only[decide_eq_true_eq];omega
 have hn2:(2:Int)<=(n:Int):=by omega
 have hnu:(n:Int)<=100000:=by omega
 have g0:decide ((n:Int)<2)=false:=by simp only[decide_eq_false_iff_not];omega
 have HB:=I hb;have HN:=I hn;have HC:=I hc;have HR:=I hr;have HBB:=I hB;have HBG:=I hBg;clear hb hn hc hr hB hBg hu hnl hcell;clear hx1 hf;go_enter Tryz.func82,Tryz.ntmps82
 go_wp2
 go_quiet (fail)
 go_wp2
 go_ret;exact Cb (HB.o.drewN _) E.o (Ey (World.grownBy.refl _ _) _)
theorem Lu (B g : Nat) (A : Option Addr) (n cap : Nat) (t x : UInt8) (y z : UInt8) (r : L) (w : World) (hb : Blk w g 112 #[.slice A n cap, .bool false]) (hn : n = (t :: x :: y :: z :: r).length) (hc : n <= cap) (hr : Rd w B A (bvs (t :: x :: y :: z :: r))) (hB : B <= w.heap.size) (hBg : B <= g) (hu : n <= 100000) (hx1 : x.toNat = 130) (hf : y.toNat * 256 + z.toNat <= r.length) (hy : y.toNat * 256 + z.toNat < 128) :
    Calls Tryz.prog 82 #[.pointer (some ⟨g,0,none⟩),.int .u8 t.toNat] w (Took w B g t (some (t :: x :: y :: z :: r))):=by
  have h0:w.cell? ⟨g,0,none⟩=some (.slice A n cap):=hb.cell 0;have h1:w.cell? ⟨g,1,none⟩=some (.bool false):=hb.cell 1;have f0:=hb.frozen 0;have f1:=hb.frozen 1;obtain⟨b,o,rfl,hbB,hcell⟩:=Ct hr (by simp);have hnl:=hn;simp only[List.length_cons] at hnl;have c0:w.cell? ⟨b,o,none⟩=some (.int .u8 ((t).toNat:Int)):=hcell 0 (by simp);have c1:w.cell? ⟨b,o+1,none⟩=some (.int .u8 ((x).toNat:Int)):=hcell 1 (by simp);have hlt2:(2:Int)<(n:Int):=by omega
  have hlt3:(3:Int)<(n:Int):=by omega
  have c2:w.cell? ⟨b,o+2,none⟩=some (.int .u8 ((y).toNat:Int)):=hcell 2 (by simp);have hy255:=BC y;have c3:w.cell? ⟨b,o+3,none⟩=some (.int .u8 ((z).toNat:Int)):=hcell 3 (by simp);have hz255:=BC z;have hx255:=BC x;have q0129:((x.toNat:Int)==129)=false:=by simp;omega
  have q0130:((x.toNat:Int)==130)=true:=by simp;omega
  have q3:decide ((128:Int)<=(x.toNat:Int))=true:=by simp only[decide_eq_true_eq];omega
  have ql4:decide ((4:Int)<=(n:Int))=true:=by simp only[decide_eq_true_eq];omega
  obtain⟨m,hm⟩:∃m:Nat,y.toNat*256+z.toNat=m:=⟨_,rfl⟩;have hor:bits .or .i64 ((y.toNat:Int)*256) (z.toNat:Int)=(m:Int):=by rw[Hx y.toNat z.toNat z.toNat_lt (by omega)];omega
  have hm0:(0:Int)<=(m:Int):=by omega
  have q4:decide ((n:Int) - 4<(m:Int))=false:=by simp only[decide_eq_false_iff_not];omega
  have hsz:=I (fun W=>Hj (m) 1 (by omega) (by rw[BZ];rw[if_pos (by omega)]) W);have hmu:(m:Int)<=65535:=by omega
  have E:=I ((Bj (Cg (t:=t) (FK (b:=y) (c:=z) (r:=r) hx1) (.inl (by simp;omega)))).1);have hn2:(2:Int)<=(n:Int):=by omega
  have hnu:(n:Int)<=100000:=by omega
  have g0:decide ((n:Int)<2)=false:=by simp only[decide_eq_false_iff_not];omega
  have HB:=I hb;have HN:=I hn;have HC:=I hc;have HR:=I hr;have HBB:=I hB;have HBG:=I hBg;clear hb hn hc hr hB hBg hu hnl hcell;clear hx1 hf hy;go_enter Tryz.func82,Tryz.ntmps82
  go_wp2
  go_quiet (fail)
  go_wp2_with (go_at_call 131; refine (hsz.o _).mono ?_; rintro e w1 ⟨⟨g1, cap1, rfl⟩, hb1⟩
               have HB1:=I ((HB.o.drewN _).below hb1);have k0:w1.cell? ⟨g,0,none⟩=some (.slice (some ⟨b,o,none⟩) n cap):=HB1.o.cell 0;have k1:w1.cell? ⟨g,1,none⟩=some (.bool false):=HB1.o.cell 1;have kf0:=HB1.o.frozen 0;have kf1:=HB1.o.frozen 1)
  go_ret;exact Cb HB1.o E.o (BD ((below_drewN Ah _).trans hb1) _)
theorem Lv (B g : Nat) (A : Option Addr) (n cap : Nat) (t x : UInt8) (y z : UInt8) (r : L) (w : World) (hb : Blk w g 112 #[.slice A n cap, .bool false]) (hn : n = (t :: x :: y :: z :: r).length) (hc : n <= cap) (hr : Rd w B A (bvs (t :: x :: y :: z :: r))) (hB : B <= w.heap.size) (hBg : B <= g) (hu : n <= 100000) (hx1 : x.toNat = 130) (hf : y.toNat * 256 + z.toNat <= r.length) (hy : ¬ y.toNat * 256 + z.toNat < 128) (hy2 : y.toNat * 256 + z.toNat <= 255) :
    Calls Tryz.prog 82 #[.pointer (some ⟨g,0,none⟩),.int .u8 t.toNat] w (Took w B g t (some (t :: x :: y :: z :: r))):=by
  have h0:w.cell? ⟨g,0,none⟩=some (.slice A n cap):=hb.cell 0;have h1:w.cell? ⟨g,1,none⟩=some (.bool false):=hb.cell 1;have f0:=hb.frozen 0;have f1:=hb.frozen 1;obtain⟨b,o,rfl,hbB,hcell⟩:=Ct hr (by simp);have hnl:=hn;simp only[List.length_cons] at hnl;have c0:w.cell? ⟨b,o,none⟩=some (.int .u8 ((t).toNat:Int)):=hcell 0 (by simp);have c1:w.cell? ⟨b,o+1,none⟩=some (.int .u8 ((x).toNat:Int)):=hcell 1 (by simp);have hlt2:(2:Int)<(n:Int):=by omega
  have hlt3:(3:Int)<(n:Int):=by omega
  have c2:w.cell? ⟨b,o+2,none⟩=some (.int .u8 ((y).toNat:Int)):=hcell 2 (by simp);have hy255:=BC y;have c3:w.cell? ⟨b,o+3,none⟩=some (.int .u8 ((z).toNat:Int)):=hcell 3 (by simp);have hz255:=BC z;have hx255:=BC x;have q0129:((x.toNat:Int)==129)=false:=by simp;omega
  have q0130:((x.toNat:Int)==130)=true:=by simp;omega
  have q3:decide ((128:Int)<=(x.toNat:Int))=true:=by simp only[decide_eq_true_eq];omega
  have ql4:decide ((4:Int)<=(n:Int))=true:=by simp only[decide_eq_true_eq];omega
  obtain⟨m,hm⟩:∃m:Nat,y.toNat*256+z.toNat=m:=⟨_,rfl⟩;have hor:bits .or .i64 ((y.toNat:Int)*256) (z.toNat:Int)=(m:Int):=by rw[Hx y.toNat z.toNat z.toNat_lt (by omega)];omega
  have hm0:(0:Int)<=(m:Int):=by omega
  have q4:decide ((n:Int) - 4<(m:Int))=false:=by simp only[decide_eq_false_iff_not];omega
  have hsz:=I (fun W=>Hj (m) 2 (by omega) (by rw[BZ];rw[if_neg (by omega),if_pos (by omega)]) W);have hmu:(m:Int)<=65535:=by omega
  have E:=I ((Bj (Cg (t:=t) (FK (b:=y) (c:=z) (r:=r) hx1) (.inl (by simp;omega)))).1);have hn2:(2:Int)<=(n:Int):=by omega
  have hnu:(n:Int)<=100000:=by omega
  have g0:decide ((n:Int)<2)=false:=by simp only[decide_eq_false_iff_not];omega
  have HB:=I hb;have HN:=I hn;have HC:=I hc;have HR:=I hr;have HBB:=I hB;have HBG:=I hBg;clear hb hn hc hr hB hBg hu hnl hcell;clear hx1 hf hy hy2;go_enter Tryz.func82,Tryz.ntmps82
  go_wp2
  go_quiet (fail)
  go_wp2_with (go_at_call 131; refine (hsz.o _).mono ?_; rintro e w1 ⟨⟨g1, cap1, rfl⟩, hb1⟩
               have HB1:=I ((HB.o.drewN _).below hb1);have k0:w1.cell? ⟨g,0,none⟩=some (.slice (some ⟨b,o,none⟩) n cap):=HB1.o.cell 0;have k1:w1.cell? ⟨g,1,none⟩=some (.bool false):=HB1.o.cell 1;have kf0:=HB1.o.frozen 0;have kf1:=HB1.o.frozen 1)
  go_ret;exact Cb HB1.o E.o (BD ((below_drewN Ah _).trans hb1) _)
theorem Lw (B g : Nat) (A : Option Addr) (n cap : Nat) (t x : UInt8) (y z : UInt8) (r : L) (w : World) (hb : Blk w g 112 #[.slice A n cap, .bool false]) (hn : n = (t :: x :: y :: z :: r).length) (hc : n <= cap) (hr : Rd w B A (bvs (t :: x :: y :: z :: r))) (hB : B <= w.heap.size) (hBg : B <= g) (hu : n <= 100000) (hx1 : x.toNat = 130) (hf : y.toNat * 256 + z.toNat <= r.length) (hy : ¬ y.toNat * 256 + z.toNat <= 255) :
    Calls Tryz.prog 82 #[.pointer (some ⟨g,0,none⟩),.int .u8 t.toNat] w (Took w B g t (some (t :: x :: y :: z :: r))):=by
  have h0:w.cell? ⟨g,0,none⟩=some (.slice A n cap):=hb.cell 0;have h1:w.cell? ⟨g,1,none⟩=some (.bool false):=hb.cell 1;have f0:=hb.frozen 0;have f1:=hb.frozen 1;obtain⟨b,o,rfl,hbB,hcell⟩:=Ct hr (by simp);have hnl:=hn;simp only[List.length_cons] at hnl;have c0:w.cell? ⟨b,o,none⟩=some (.int .u8 ((t).toNat:Int)):=hcell 0 (by simp);have c1:w.cell? ⟨b,o+1,none⟩=some (.int .u8 ((x).toNat:Int)):=hcell 1 (by simp);have hlt2:(2:Int)<(n:Int):=by omega
  have hlt3:(3:Int)<(n:Int):=by omega
  have c2:w.cell? ⟨b,o+2,none⟩=some (.int .u8 ((y).toNat:Int)):=hcell 2 (by simp);have hy255:=BC y;have c3:w.cell? ⟨b,o+3,none⟩=some (.int .u8 ((z).toNat:Int)):=hcell 3 (by simp);have hz255:=BC z;have hx255:=BC x;have q0129:((x.toNat:Int)==129)=false:=by simp;omega
  have q0130:((x.toNat:Int)==130)=true:=by simp;omega
  have q3:decide ((128:Int)<=(x.toNat:Int))=true:=by simp only[decide_eq_true_eq];omega
  have ql4:decide ((4:Int)<=(n:Int))=true:=by simp only[decide_eq_true_eq];omega
  obtain⟨m,hm⟩:∃m:Nat,y.toNat*256+z.toNat=m:=⟨_,rfl⟩;have hor:bits .or .i64 ((y.toNat:Int)*256) (z.toNat:Int)=(m:Int):=by rw[Hx y.toNat z.toNat z.toNat_lt (by omega)];omega
  have hm0:(0:Int)<=(m:Int):=by omega
  have q4:decide ((n:Int) - 4<(m:Int))=false:=by simp only[decide_eq_false_iff_not];omega
  have hsz:=I (fun W=>Hj (m) 3 (by omega) (by rw[BZ];rw[if_neg (by omega),if_neg (by omega)]) W);have hmu:(m:Int)<=65535:=by omega
  have HS:=I (Gy (t:=t) ((FK (b:=y) (c:=z) (r:=r) hx1).trans (by rw[hm,decide_eq_true (show 255<m by omega)])) (by simp only[List.length_cons];omega));have HF:=I (show 4+m<=(t :: x :: y :: z :: r).length by simp only[List.length_cons];omega);have hcf:=Fm (P:=Tryz.prog) Tryz.underlying26 DX (some ⟨b,o,none⟩) n cap (4+m) (4+(m:Int)) (by omega) (by omega);have hcm:=Gl (P:=Tryz.prog) Tryz.underlying26 DX (some ⟨b,o,none⟩) n cap 4 m 4 (4+(m:Int)) rfl rfl (by omega);have hn2:(2:Int)<=(n:Int):=by omega
  have hnu:(n:Int)<=100000:=by omega
  have g0:decide ((n:Int)<2)=false:=by simp only[decide_eq_false_iff_not];omega
  have HB:=I hb;have HN:=I hn;have HC:=I hc;have HR:=I hr;have HBB:=I hB;have HBG:=I hBg;clear hb hn hc hr hB hBg hu hnl hcell;clear hx1 hf hy;go_enter Tryz.func82,Tryz.ntmps82
  go_wp2
  go_quiet (fail)
  go_wp2_with (go_at_call 131; refine (hsz.o _).mono ?_; rintro e w1 ⟨⟨g1, cap1, rfl⟩, hb1⟩
               have HB1:=I ((HB.o.drewN _).below hb1);have k0:w1.cell? ⟨g,0,none⟩=some (.slice (some ⟨b,o,none⟩) n cap):=HB1.o.cell 0;have k1:w1.cell? ⟨g,1,none⟩=some (.bool false):=HB1.o.cell 1;have kf0:=HB1.o.frozen 0;have kf1:=HB1.o.frozen 1)
  go_ret;have hn:=HN.o;subst hn;exact MO HC.o HS.o HF.o HR.o HB1.o (BD ((below_drewN Ah _).trans hb1) _) HBB.o HBG.o
theorem Pp (B g:Nat) (A:Option Addr) (n cap:Nat) (t x:UInt8) (r:L) (w:World) (hb:Blk w g 112 #[.slice A n cap,.bool false]) (hn:n=(t :: x :: r).length) (hc:n<=cap) (hr:Rd w B A (bvs (t :: x :: r))) (hB:B<=w.heap.size) (hBg:B<=g) (hu:n<=100000) (hx1:¬x.toNat<128) (hx2:¬x.toNat=129) (hx3:¬x.toNat=130) :
  Calls Tryz.prog 82 #[.pointer (some ⟨g,0,none⟩),.int .u8 t.toNat] w (Took w B g t (some (t :: x :: r))):=by
 have h0:w.cell? ⟨g,0,none⟩=some (.slice A n cap):=hb.cell 0;have h1:w.cell? ⟨g,1,none⟩=some (.bool false):=hb.cell 1;have f0:=hb.frozen 0;have f1:=hb.frozen 1;obtain⟨b,o,rfl,hbB,hcell⟩:=Ct hr (by simp);have hnl:=hn;simp only[List.length_cons] at hnl;have c0:w.cell? ⟨b,o,none⟩=some (.int .u8 ((t).toNat:Int)):=hcell 0 (by simp);have c1:w.cell? ⟨b,o+1,none⟩=some (.int .u8 ((x).toNat:Int)):=hcell 1 (by simp);have hx255:=BC x;have q0129:((x.toNat:Int)==129)=false:=by simp;omega
 have q0130:((x.toNat:Int)==130)=false:=by simp;omega
 have q3:decide ((128:Int)<=(x.toNat:Int))=true:=by simp only[decide_eq_true_eq];omega
 have E:=I ((Bj (Cg (t:=t) (IN (r:=r) hx1 hx2 hx3) (.inl rfl))).1);have hn2:(2:Int)<=(n:Int):=by omega
 have hnu:(n:Int)<=100000:=by omega
 have g0:decide ((n:Int)<2)=false:=by simp only[decide_eq_false_iff_not];omega
 have HB:=I hb;have HN:=I hn;have HC:=I hc;have HR:=I hr;have HBB:=I hB;have HBG:=I hBg;clear hb hn hc hr hB hBg hu hnl hcell;clear hx1 hx2 hx3;go_enter Tryz.func82,Tryz.ntmps82
 go_wp2
 go_ret;exact Cb HB.o E.o (World.grownBy.refl _ _)
theorem Fo (t:UInt8) (B g:Nat) (w:World) (c:Option L) (h:RC w B g c) (hB:B<=w.heap.size) (hBg:B<=g) (hu:(c.getD []).length<=100000) :
  Calls Tryz.prog 82 #[.pointer (some ⟨g,0,none⟩),.int .u8 t.toNat] w (Took w B g t c):=by
 cases c with
 |none=>exact Po t B g w h
 |some l=>
  obtain⟨A,n,cap,e,hb,rfl,hn,hc,hr⟩:=h;rw[Option.getD_some] at hu
  match l,hn,hr,hu with
  | [],hn,hr,hu=>subst hn;exact Ja t B g A cap [] w hb (by simp)
  | [a],hn,hr,hu=>subst hn;exact Ja t B g A cap [a] w hb (by simp)
  |a :: x :: r,hn,hr,hu=>
   have hu':n<=100000:=by rw[hn];exact hu
   by_cases hne:a=t
   ·subst hne
    by_cases h1:x.toNat<128
    ·by_cases hf:x.toNat<=r.length
     ·exact JF B g A n cap a x r w hb hn hc hr hB hBg hu' h1 hf
     ·exact JG B g A n cap a x r w hb hn hc hr hB hBg hu' h1 hf
    ·by_cases h2:x.toNat=129
     ·match r,hn,hr with
      | [],hn,hr=>exact Ky B g A n cap a x w hb hn hc hr hB hBg hu' h2
      |y :: q,hn,hr=>
       by_cases hf:y.toNat<=q.length
       ·by_cases hy:y.toNat<128
        ·exact JH B g A n cap a x y q w hb hn hc hr hB hBg hu' h2 hf hy
        ·exact Ls B g A n cap a x y q w hb hn hc hr hB hBg hu' h2 hf hy
       ·exact Lr B g A n cap a x y q w hb hn hc hr hB hBg hu' h2 hf
     ·by_cases h3:x.toNat=130
      ·match r,hn,hr with
       | [],hn,hr=>exact Kz B g A n cap a x w hb hn hc hr hB hBg hu' h3
       | [y],hn,hr=>exact KC B g A n cap a x y w hb hn hc hr hB hBg hu' h3
       |y :: z :: q,hn,hr=>
        by_cases hf:y.toNat*256+z.toNat<=q.length
        ·by_cases hy:y.toNat*256+z.toNat<=255
         ·by_cases hy1:y.toNat*256+z.toNat<128
          ·exact Lu B g A n cap a x y z q w hb hn hc hr hB hBg hu' h3 hf hy1
          ·exact Lv B g A n cap a x y z q w hb hn hc hr hB hBg hu' h3 hf hy1 hy
         ·exact Lw B g A n cap a x y z q w hb hn hc hr hB hBg hu' h3 hf hy
        ·exact Lt B g A n cap a x y z q w hb hn hc hr hB hBg hu' h3 hf
      ·exact Pp B g A n cap a x r w hb hn hc hr hB hBg hu' h1 h2 h3
   ·exact QU B g A n cap t a x r w hb hn hc hr hB hBg hu' hne
end DerR
end Go.Proofs.YtlchkbpffaclmaaGreat
