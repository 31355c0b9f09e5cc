import Derived.Test.YtlccngianpfalaaGreatZClientRequests8
import Derived.Test.YtlccngianpfalaaGreatZClientRequests11
set_option maxHeartbeats 25600000
set_option maxRecDepth 100000
set_option linter.unusedVariables false
set_option linter.unusedSimpArgs false
namespace Go.Proofs.YtlccngianpfalaaGreat
namespace DerR
open Go.RowKit Ae DerP
theorem De {w:World} {B:Nat} {A:Option Addr} {l:L} (h:Rd w B A (bvs l)) (Z:0<l.length):∃b o,A=some ⟨b,o,none⟩/\b<B/\∀i (O:i<l.length),w.cell? ⟨b,o+i,none⟩=some (.int .u8 ((l[i]).toNat:Int)):=by
 obtain⟨b,o,M,Y,_⟩:=h.at_ (DR Z);refine⟨b,o,M,Y,fun i O=>?_⟩;obtain⟨b',o',e,_,X⟩:=h.at_ (DR O);rw[M] at e;injection e with e;injection e with e1 e2;subst e1 e2;exact X
theorem Gx {t:UInt8} {s:L} {m k:Nat} (h:lenR s=(m,k,true)) (M:m+k<=s.length):Bm t (t :: s)=some (((t :: s).drop (k+1)).take m,(t :: s).drop (k+1+m)):=by
 rw[Bm,h,if_pos ⟨rfl,rfl,M⟩]
 congr 2
 rw[List.drop_drop,show k+1+m=(k+m)+1 by omega]
 rfl
theorem CH {t:UInt8} {s:L} {m k:Nat} {ok:Bool} (h:lenR s=(m,k,ok)) (M:ok=false\/¬m+k<=s.length):Bm t (t :: s)=none:=by
 rw[Bm,h];refine if_neg fun O=>?_
 rcases M with rfl | M
 ·exact absurd O.2.1 (by simp)
 ·exact M O.2.2
theorem Hi (n k:Nat) (h:n<=65535) (hk:(szL n).length=k) (w:World):Calls Tryz.prog 118 #[.int .i64 (n:Int)] w fun e w'=>(∃g cap,e=.returned (.slice (some ⟨g,0,none⟩) k cap))/\Below w.heap.size w w':=by
 subst hk;exact(Np n h w).mono fun e w' ⟨⟨g,cap,he,_⟩,M⟩=>⟨⟨g,cap,he⟩,M⟩
theorem Ei:∀w:World,(sizeOf 5).run Tryz.prog w=.ok 1 w:=fun w=>by kernel_rfl
theorem Mp {w O:World} {B g:Nat} {t:UInt8} {l:L} {A:Option Addr} {cap p m:Nat} (Y:l.length<=cap) (hs:Bm t l=some ((l.drop p).take m,l.drop (p+m))) (hf:p+m<=l.length)
  (Z:Rd w B A (bvs l)) (hb:Blk O g 108 #[.slice A l.length cap,.bool false]) (hg:w.grownBy O (some g)) (hB:B<=w.heap.size) (aa:B<=g) :
  Took w B g t (some l) (.returned (.slice (cutA A cap p) m (cap - p))) (O.setCell ⟨g,0,none⟩ (.slice (cutA A cap (p+m)) (l.length - (p+m)) (cap - (p+m)))):=by
 obtain⟨e1,e2⟩:=DG hs;have M:=Ar (p:=⟨g,0,none⟩) hg (.inl rfl) (.slice (cutA A cap (p+m)) (l.length - (p+m)) (cap - (p+m)));have hk:∀xs X,Rd w B X xs->Rd (O.setCell ⟨g,0,none⟩ (.slice (cutA A cap (p+m)) (l.length - (p+m)) (cap - (p+m)))) B X xs:=fun xs X h=>h.grown M hB (fun k hk=>by injection hk with hk;omega)
 have hlen:((l.drop p).take m).length=m:=by rw[List.length_take,List.length_drop];omega
 unfold Took;rw[e1,e2];simp only[Option.getD_some];refine⟨⟨cutA A cap p,cap - p,by rw[hlen],by rw[hlen];omega,hk _ _ (Wl (UY Z p Y) m)⟩,⟨_,_,_,false,hb.set 0 _,rfl,by rw[List.length_drop],by omega,hk _ _ (UY Z (p+m) Y)⟩,M⟩
theorem QV (B g:Nat) (A:Option Addr) (n cap:Nat) (t a x:UInt8) (r:L) (w:World) (X:Blk w g 108 #[.slice A n cap,.bool false]) (hn:n=(a :: x :: r).length) (hc:n<=cap) (hr:Rd w B A (bvs (a :: x :: r))) (hB:B<=w.heap.size) (Z:B<=g) (hu:n<=100000) (O:a≠t) :
  Calls Tryz.prog 70 #[.pointer (some ⟨g,0,none⟩),.int .u8 t.toNat] w (Took w B g t (some (a :: x :: r))):=by
 have h0:=X.c0;have h1:=X.c1;have f0:=X.frozen 0;have f1:=X.frozen 1;obtain⟨b,o,rfl,ae,M⟩:=De hr (by simp);have Y:=hn;simp only[List.length_cons] at Y;have c0:w.cell? ⟨b,o,none⟩=some (.int .u8 ((a).toNat:Int)):=M 0 (by simp);have E:=I ((Bu (Ps (s:=x :: r) O)).1);have q1:((a.toNat:Int)==(t.toNat:Int))=false:=by simp;exact fun e=>O (UInt8.toNat_inj.1 (by omega))
 have q2:((a.toNat:Int) != (t.toNat:Int))=true:=by simp;exact fun e=>O (UInt8.toNat_inj.1 (by omega))
 have ad:(2:Int)<=(n:Int):=by omega
 have ab:(n:Int)<=100000:=by omega
 have g0:decide ((n:Int)<2)=false:=by simp only[decide_eq_false_iff_not];omega
 have HB:=I X;have HN:=I hn;have HC:=I hc;have HR:=I hr;have af:=I hB;have aa:=I Z;clear X hn hc hr hB Z hu Y M;clear O;go_enter Tryz.func70,Tryz.ntmps70
 go_wp2
 go_ret;exact Cs HB.o E.o (World.grownBy.refl _ _)
theorem Je (B g : Nat) (A : Option Addr) (n cap : Nat) (t x : UInt8) (r : L) (w : World) (X : Blk w g 108 #[.slice A n cap, .bool false]) (hn : n = (t :: x :: r).length) (hc : n <= cap) (hr : Rd w B A (bvs (t :: x :: r))) (hB : B <= w.heap.size) (ab : B <= g) (hu : n <= 100000) (aa : x.toNat < 128) (hf : x.toNat <= r.length) :
    Calls Tryz.prog 70 #[.pointer (some ⟨g,0,none⟩),.int .u8 t.toNat] w (Took w B g t (some (t :: x :: r))):=by
  have h0:=X.c0;have h1:=X.c1;have f0:=X.frozen 0;have f1:=X.frozen 1;obtain⟨b,o,rfl,aw,M⟩:=De hr (by simp);have Y:=hn;simp only[List.length_cons] at Y;have c0:w.cell? ⟨b,o,none⟩=some (.int .u8 ((t).toNat:Int)):=M 0 (by simp);have c1:w.cell? ⟨b,o+1,none⟩=some (.int .u8 ((x).toNat:Int)):=M 1 (by simp);have ah:=BG x;have ae:((x.toNat:Int)==129)=false:=by simp;omega
  have af:((x.toNat:Int)==130)=false:=by simp;omega
  have q3:decide ((128:Int)<=(x.toNat:Int))=false:=by simp only[decide_eq_false_iff_not];omega
  have q4:decide ((n:Int) - 2<(x.toNat:Int))=false:=by simp only[decide_eq_false_iff_not];omega
  have ag:=I (fun W=>Hi (x.toNat) 1 (by omega) (by rw[Cp];rw[if_pos (by omega)]) W);have an:(x.toNat:Int)<=65535:=by omega
  have HS:=I (Gx (t:=t) (FJ (r:=r) aa) (by simp only[List.length_cons];omega));have HF:=I (show 2+x.toNat<=(t :: x :: r).length by simp only[List.length_cons];omega);have ak:=FB (P:=Tryz.prog) Tryz.underlying24 Ei (some ⟨b,o,none⟩) n cap (2+x.toNat) (2+(x.toNat:Int)) (by omega) (by omega);have av:=Gm (P:=Tryz.prog) Tryz.underlying24 Ei (some ⟨b,o,none⟩) n cap 2 x.toNat 2 (2+(x.toNat:Int)) rfl rfl (by omega);have au:(2:Int)<=(n:Int):=by omega
  have ao:(n:Int)<=100000:=by omega
  have g0:decide ((n:Int)<2)=false:=by simp only[decide_eq_false_iff_not];omega
  have HB:=I X;have HN:=I hn;have HC:=I hc;have HR:=I hr;have ai:=I hB;have ad:=I ab;clear X hn hc hr hB ab hu Y M;clear aa hf;go_enter Tryz.func70,Tryz.ntmps70
  go_wp2_with (go_at_call 118; refine (ag.o _).mono ?_; rintro e w1 ⟨⟨g1, aj, rfl⟩, Z⟩
               have O:=I (HB.o.below Z);have k0:=O.c0;have k1:=O.c1;have ar:=O.o.frozen 0;have al:=O.o.frozen 1)
  go_ret;have hn:=HN.o;subst hn;exact Mp HC.o HS.o HF.o HR.o O.o (By Z _) ai.o ad.o
theorem Jf (B g:Nat) (A:Option Addr) (n cap:Nat) (t x:UInt8) (r:L) (w:World) (O:Blk w g 108 #[.slice A n cap,.bool false]) (hn:n=(t :: x :: r).length) (hc:n<=cap) (hr:Rd w B A (bvs (t :: x :: r))) (hB:B<=w.heap.size) (Z:B<=g) (hu:n<=100000) (Y:x.toNat<128) (hf:¬x.toNat<=r.length) :
  Calls Tryz.prog 70 #[.pointer (some ⟨g,0,none⟩),.int .u8 t.toNat] w (Took w B g t (some (t :: x :: r))):=by
 have h0:=O.c0;have h1:=O.c1;have f0:=O.frozen 0;have f1:=O.frozen 1;obtain⟨b,o,rfl,ah,M⟩:=De hr (by simp);have X:=hn;simp only[List.length_cons] at X;have c0:w.cell? ⟨b,o,none⟩=some (.int .u8 ((t).toNat:Int)):=M 0 (by simp);have c1:w.cell? ⟨b,o+1,none⟩=some (.int .u8 ((x).toNat:Int)):=M 1 (by simp);have ad:=BG x;have aa:((x.toNat:Int)==129)=false:=by simp;omega
 have ab:((x.toNat:Int)==130)=false:=by simp;omega
 have q3:decide ((128:Int)<=(x.toNat:Int))=false:=by simp only[decide_eq_false_iff_not];omega
 have E:=I ((Bu (CH (t:=t) (FJ (r:=r) Y) (.inr (by simp only[List.length_cons];omega)))).1);have q4:decide ((n:Int) - 2<(x.toNat:Int))=true:=by simp only[decide_eq_true_eq];omega
 have ag:(2:Int)<=(n:Int):=by omega
 have af:(n:Int)<=100000:=by omega
 have g0:decide ((n:Int)<2)=false:=by simp only[decide_eq_false_iff_not];omega
 have HB:=I O;have HN:=I hn;have HC:=I hc;have HR:=I hr;have ai:=I hB;have ae:=I Z;clear O hn hc hr hB Z hu X M;clear Y hf;go_enter Tryz.func70,Tryz.ntmps70
 go_wp2
 go_ret;exact Cs HB.o E.o (World.grownBy.refl _ _)
theorem Ke (B g:Nat) (A:Option Addr) (n cap:Nat) (t x:UInt8)  (w:World) (O:Blk w g 108 #[.slice A n cap,.bool false]) (hn:n=(t :: x :: []).length) (hc:n<=cap) (hr:Rd w B A (bvs (t :: x :: []))) (hB:B<=w.heap.size) (Z:B<=g) (hu:n<=100000) (Y:x.toNat=129) :
  Calls Tryz.prog 70 #[.pointer (some ⟨g,0,none⟩),.int .u8 t.toNat] w (Took w B g t (some (t :: x :: []))):=by
 have h0:=O.c0;have h1:=O.c1;have f0:=O.frozen 0;have f1:=O.frozen 1;obtain⟨b,o,rfl,ai,M⟩:=De hr (by simp);have X:=hn;simp only[List.length_cons,List.length_nil] at X;have c0:w.cell? ⟨b,o,none⟩=some (.int .u8 ((t).toNat:Int)):=M 0 (by simp);have c1:w.cell? ⟨b,o+1,none⟩=some (.int .u8 ((x).toNat:Int)):=M 1 (by simp);have ad:=BG x;have aa:((x.toNat:Int)==129)=true:=by simp;omega
 have ab:((x.toNat:Int)==130)=false:=by simp;omega
 have q3:decide ((128:Int)<=(x.toNat:Int))=true:=by simp only[decide_eq_true_eq];omega
 have ag:decide ((3:Int)<=(n:Int))=false:=by simp only[decide_eq_false_iff_not];omega
 have E:=I ((Bu (CH (t:=t) (Fi Y) (.inl rfl))).1);have ah:(2:Int)<=(n:Int):=by omega
 have af:(n:Int)<=100000:=by omega
 have g0:decide ((n:Int)<2)=false:=by simp only[decide_eq_false_iff_not];omega
 have HB:=I O;have HN:=I hn;have HC:=I hc;have HR:=I hr;have aj:=I hB;have ae:=I Z;clear O hn hc hr hB Z hu X M;clear Y;go_enter Tryz.func70,Tryz.ntmps70
 go_wp2
 go_ret;exact Cs HB.o E.o (World.grownBy.refl _ _)
theorem Lb (B g:Nat) (A:Option Addr) (n cap:Nat) (t x:UInt8) (y:UInt8) (r:L) (w:World) (O:Blk w g 108 #[.slice A n cap,.bool false]) (hn:n=(t :: x :: y :: r).length) (hc:n<=cap) (hr:Rd w B A (bvs (t :: x :: y :: r))) (hB:B<=w.heap.size) (Z:B<=g) (hu:n<=100000) (Y:x.toNat=129) (hf:¬y.toNat<=r.length) :
  Calls Tryz.prog 70 #[.pointer (some ⟨g,0,none⟩),.int .u8 t.toNat] w (Took w B g t (some (t :: x :: y :: r))):=by
 have h0:=O.c0;have h1:=O.c1;have f0:=O.frozen 0;have f1:=O.frozen 1;obtain⟨b,o,rfl,ak,M⟩:=De hr (by simp);have X:=hn;simp only[List.length_cons] at X;have c0:w.cell? ⟨b,o,none⟩=some (.int .u8 ((t).toNat:Int)):=M 0 (by simp);have c1:w.cell? ⟨b,o+1,none⟩=some (.int .u8 ((x).toNat:Int)):=M 1 (by simp);have af:(2:Int)<(n:Int):=by omega
 have c2:w.cell? ⟨b,o+2,none⟩=some (.int .u8 ((y).toNat:Int)):=M 2 (by simp);have ad:=BG y;have ae:=BG x;have aa:((x.toNat:Int)==129)=true:=by simp;omega
 have ab:((x.toNat:Int)==130)=false:=by simp;omega
 have q3:decide ((128:Int)<=(x.toNat:Int))=true:=by simp only[decide_eq_true_eq];omega
 have ai:decide ((3:Int)<=(n:Int))=true:=by simp only[decide_eq_true_eq];omega
 have E:=I ((Bu (CH (t:=t) (Gr (b:=y) (r:=r) Y) (.inr (by simp only[List.length_cons];omega)))).1);have q4:decide ((n:Int) - 3<(y.toNat:Int))=true:=by simp only[decide_eq_true_eq];omega
 have aj:(2:Int)<=(n:Int):=by omega
 have ah:(n:Int)<=100000:=by omega
 have g0:decide ((n:Int)<2)=false:=by simp only[decide_eq_false_iff_not];omega
 have HB:=I O;have HN:=I hn;have HC:=I hc;have HR:=I hr;have al:=I hB;have ag:=I Z;clear O hn hc hr hB Z hu X M;clear Y hf;go_enter Tryz.func70,Tryz.ntmps70
 go_wp2
 go_ret;exact Cs HB.o E.o (World.grownBy.refl _ _)
theorem Jg (B g : Nat) (A : Option Addr) (n cap : Nat) (t x : UInt8) (y : UInt8) (r : L) (w : World) (X : Blk w g 108 #[.slice A n cap, .bool false]) (hn : n = (t :: x :: y :: r).length) (hc : n <= cap) (hr : Rd w B A (bvs (t :: x :: y :: r))) (hB : B <= w.heap.size) (ab : B <= g) (hu : n <= 100000) (aa : x.toNat = 129) (hf : y.toNat <= r.length) (hy : y.toNat < 128) :
    Calls Tryz.prog 70 #[.pointer (some ⟨g,0,none⟩),.int .u8 t.toNat] w (Took w B g t (some (t :: x :: y :: r))):=by
  have h0:=X.c0;have h1:=X.c1;have f0:=X.frozen 0;have f1:=X.frozen 1;obtain⟨b,o,rfl,aw,M⟩:=De hr (by simp);have Y:=hn;simp only[List.length_cons] at Y;have c0:w.cell? ⟨b,o,none⟩=some (.int .u8 ((t).toNat:Int)):=M 0 (by simp);have c1:w.cell? ⟨b,o+1,none⟩=some (.int .u8 ((x).toNat:Int)):=M 1 (by simp);have aj:(2:Int)<(n:Int):=by omega
  have c2:w.cell? ⟨b,o+2,none⟩=some (.int .u8 ((y).toNat:Int)):=M 2 (by simp);have af:=BG y;have ah:=BG x;have ad:((x.toNat:Int)==129)=true:=by simp;omega
  have ae:((x.toNat:Int)==130)=false:=by simp;omega
  have q3:decide ((128:Int)<=(x.toNat:Int))=true:=by simp only[decide_eq_true_eq];omega
  have au:decide ((3:Int)<=(n:Int))=true:=by simp only[decide_eq_true_eq];omega
  have q4:decide ((n:Int) - 3<(y.toNat:Int))=false:=by simp only[decide_eq_false_iff_not];omega
  have ag:=I (fun W=>Hi (y.toNat) 1 (by omega) (by rw[Cp];rw[if_pos (by omega)]) W);have an:(y.toNat:Int)<=65535:=by omega
  have E:=I ((Bu (CH (t:=t) (Gr (b:=y) (r:=r) aa) (.inl (by simp;omega)))).1);have av:(2:Int)<=(n:Int):=by omega
  have ao:(n:Int)<=100000:=by omega
  have g0:decide ((n:Int)<2)=false:=by simp only[decide_eq_false_iff_not];omega
  have HB:=I X;have HN:=I hn;have HC:=I hc;have HR:=I hr;have ax:=I hB;have ak:=I ab;clear X hn hc hr hB ab hu Y M;clear aa hf hy;go_enter Tryz.func70,Tryz.ntmps70
  go_wp2_with (go_at_call 118; refine (ag.o _).mono ?_; rintro e w1 ⟨⟨g1, ai, rfl⟩, Z⟩
               have O:=I (HB.o.below Z);have k0:=O.c0;have k1:=O.c1;have ar:=O.o.frozen 0;have al:=O.o.frozen 1)
  go_ret;exact Cs O.o E.o (By Z _)
theorem Lc (B g : Nat) (A : Option Addr) (n cap : Nat) (t x : UInt8) (y : UInt8) (r : L) (w : World) (X : Blk w g 108 #[.slice A n cap, .bool false]) (hn : n = (t :: x :: y :: r).length) (hc : n <= cap) (hr : Rd w B A (bvs (t :: x :: y :: r))) (hB : B <= w.heap.size) (ab : B <= g) (hu : n <= 100000) (aa : x.toNat = 129) (hf : y.toNat <= r.length) (hy : ¬ y.toNat < 128) :
    Calls Tryz.prog 70 #[.pointer (some ⟨g,0,none⟩),.int .u8 t.toNat] w (Took w B g t (some (t :: x :: y :: r))):=by
  have h0:=X.c0;have h1:=X.c1;have f0:=X.frozen 0;have f1:=X.frozen 1;obtain⟨b,o,rfl,az,M⟩:=De hr (by simp);have Y:=hn;simp only[List.length_cons] at Y;have c0:w.cell? ⟨b,o,none⟩=some (.int .u8 ((t).toNat:Int)):=M 0 (by simp);have c1:w.cell? ⟨b,o+1,none⟩=some (.int .u8 ((x).toNat:Int)):=M 1 (by simp);have al:(2:Int)<(n:Int):=by omega
  have c2:w.cell? ⟨b,o+2,none⟩=some (.int .u8 ((y).toNat:Int)):=M 2 (by simp);have ag:=BG y;have ai:=BG x;have ae:((x.toNat:Int)==129)=true:=by simp;omega
  have af:((x.toNat:Int)==130)=false:=by simp;omega
  have q3:decide ((128:Int)<=(x.toNat:Int))=true:=by simp only[decide_eq_true_eq];omega
  have aw:decide ((3:Int)<=(n:Int))=true:=by simp only[decide_eq_true_eq];omega
  have q4:decide ((n:Int) - 3<(y.toNat:Int))=false:=by simp only[decide_eq_false_iff_not];omega
  have ah:=I (fun W=>Hi (y.toNat) 2 (by omega) (by rw[Cp];rw[if_neg (by omega),if_pos (by omega)]) W);have ar:(y.toNat:Int)<=65535:=by omega
  have HS:=I (Gx (t:=t) ((Gr (b:=y) (r:=r) aa).trans (by rw[decide_eq_true (show 128<=y.toNat by omega)])) (by simp only[List.length_cons];omega));have HF:=I (show 3+y.toNat<=(t :: x :: y :: r).length by simp only[List.length_cons];omega);have an:=FB (P:=Tryz.prog) Tryz.underlying24 Ei (some ⟨b,o,none⟩) n cap (3+y.toNat) (3+(y.toNat:Int)) (by omega) (by omega);have ay:=Gm (P:=Tryz.prog) Tryz.underlying24 Ei (some ⟨b,o,none⟩) n cap 3 y.toNat 3 (3+(y.toNat:Int)) rfl rfl (by omega);have ax:(2:Int)<=(n:Int):=by omega
  have au:(n:Int)<=100000:=by omega
  have g0:decide ((n:Int)<2)=false:=by simp only[decide_eq_false_iff_not];omega
  have HB:=I X;have HN:=I hn;have HC:=I hc;have HR:=I hr;have aj:=I hB;have ad:=I ab;clear X hn hc hr hB ab hu Y M;clear aa hf hy;go_enter Tryz.func70,Tryz.ntmps70
  go_wp2_with (go_at_call 118; refine (ah.o _).mono ?_; rintro e w1 ⟨⟨g1, ak, rfl⟩, Z⟩
               have O:=I (HB.o.below Z);have k0:=O.c0;have k1:=O.c1;have av:=O.o.frozen 0;have ao:=O.o.frozen 1)
  go_ret;have hn:=HN.o;subst hn;exact Mp HC.o HS.o HF.o HR.o O.o (By Z _) aj.o ad.o
theorem Kf (B g:Nat) (A:Option Addr) (n cap:Nat) (t x:UInt8)  (w:World) (O:Blk w g 108 #[.slice A n cap,.bool false]) (hn:n=(t :: x :: []).length) (hc:n<=cap) (hr:Rd w B A (bvs (t :: x :: []))) (hB:B<=w.heap.size) (Z:B<=g) (hu:n<=100000) (Y:x.toNat=130) :
  Calls Tryz.prog 70 #[.pointer (some ⟨g,0,none⟩),.int .u8 t.toNat] w (Took w B g t (some (t :: x :: []))):=by
 have h0:=O.c0;have h1:=O.c1;have f0:=O.frozen 0;have f1:=O.frozen 1;obtain⟨b,o,rfl,ai,M⟩:=De hr (by simp);have X:=hn;simp only[List.length_cons,List.length_nil] at X;have c0:w.cell? ⟨b,o,none⟩=some (.int .u8 ((t).toNat:Int)):=M 0 (by simp);have c1:w.cell? ⟨b,o+1,none⟩=some (.int .u8 ((x).toNat:Int)):=M 1 (by simp);have ad:=BG x;have aa:((x.toNat:Int)==129)=false:=by simp;omega
 have ab:((x.toNat:Int)==130)=true:=by simp;omega
 have q3:decide ((128:Int)<=(x.toNat:Int))=true:=by simp only[decide_eq_true_eq];omega
 have af:decide ((4:Int)<=(n:Int))=false:=by simp only[decide_eq_false_iff_not];omega
 have E:=I ((Bu (CH (t:=t) (Fj Y) (.inl rfl))).1);have ah:(2:Int)<=(n:Int):=by omega
 have ag:(n:Int)<=100000:=by omega
 have g0:decide ((n:Int)<2)=false:=by simp only[decide_eq_false_iff_not];omega
 have HB:=I O;have HN:=I hn;have HC:=I hc;have HR:=I hr;have aj:=I hB;have ae:=I Z;clear O hn hc hr hB Z hu X M;clear Y;go_enter Tryz.func70,Tryz.ntmps70
 go_wp2
 go_ret;exact Cs HB.o E.o (World.grownBy.refl _ _)
theorem Kg (B g:Nat) (A:Option Addr) (n cap:Nat) (t x:UInt8) (y:UInt8) (w:World) (O:Blk w g 108 #[.slice A n cap,.bool false]) (hn:n=(t :: x :: y :: []).length) (hc:n<=cap) (hr:Rd w B A (bvs (t :: x :: y :: []))) (hB:B<=w.heap.size) (Z:B<=g) (hu:n<=100000) (Y:x.toNat=130) :
  Calls Tryz.prog 70 #[.pointer (some ⟨g,0,none⟩),.int .u8 t.toNat] w (Took w B g t (some (t :: x :: y :: []))):=by
 have h0:=O.c0;have h1:=O.c1;have f0:=O.frozen 0;have f1:=O.frozen 1;obtain⟨b,o,rfl,ai,M⟩:=De hr (by simp);have X:=hn;simp only[List.length_cons,List.length_nil] at X;have c0:w.cell? ⟨b,o,none⟩=some (.int .u8 ((t).toNat:Int)):=M 0 (by simp);have c1:w.cell? ⟨b,o+1,none⟩=some (.int .u8 ((x).toNat:Int)):=M 1 (by simp);have ad:=BG x;have aa:((x.toNat:Int)==129)=false:=by simp;omega
 have ab:((x.toNat:Int)==130)=true:=by simp;omega
 have q3:decide ((128:Int)<=(x.toNat:Int))=true:=by simp only[decide_eq_true_eq];omega
 have af:decide ((4:Int)<=(n:Int))=false:=by simp only[decide_eq_false_iff_not];omega
 have E:=I ((Bu (CH (t:=t) (Fk (b:=y) Y) (.inl rfl))).1);have ah:(2:Int)<=(n:Int):=by omega
 have ag:(n:Int)<=100000:=by omega
 have g0:decide ((n:Int)<2)=false:=by simp only[decide_eq_false_iff_not];omega
 have HB:=I O;have HN:=I hn;have HC:=I hc;have HR:=I hr;have aj:=I hB;have ae:=I Z;clear O hn hc hr hB Z hu X M;clear Y;go_enter Tryz.func70,Tryz.ntmps70
 go_wp2
 go_ret;exact Cs HB.o E.o (World.grownBy.refl _ _)
theorem Ld (B g:Nat) (A:Option Addr) (n cap:Nat) (t x:UInt8) (y z:UInt8) (r:L) (w:World) (O:Blk w g 108 #[.slice A n cap,.bool false]) (hn:n=(t :: x :: y :: z :: r).length) (hc:n<=cap) (hr:Rd w B A (bvs (t :: x :: y :: z :: r))) (hB:B<=w.heap.size) (Z:B<=g) (hu:n<=100000) (Y:x.toNat=130) (hf:¬y.toNat*256+z.toNat<=r.length) :
  Calls Tryz.prog 70 #[.pointer (some ⟨g,0,none⟩),.int .u8 t.toNat] w (Took w B g t (some (t :: x :: y :: z :: r))):=by
 have h0:=O.c0;have h1:=O.c1;have f0:=O.frozen 0;have f1:=O.frozen 1;obtain⟨b,o,rfl,ar,M⟩:=De hr (by simp);have X:=hn;simp only[List.length_cons] at X;have c0:w.cell? ⟨b,o,none⟩=some (.int .u8 ((t).toNat:Int)):=M 0 (by simp);have c1:w.cell? ⟨b,o+1,none⟩=some (.int .u8 ((x).toNat:Int)):=M 1 (by simp);have ag:(2:Int)<(n:Int):=by omega
 have ah:(3:Int)<(n:Int):=by omega
 have c2:w.cell? ⟨b,o+2,none⟩=some (.int .u8 ((y).toNat:Int)):=M 2 (by simp);have ae:=BG y;have c3:w.cell? ⟨b,o+3,none⟩=some (.int .u8 ((z).toNat:Int)):=M 3 (by simp);have aa:=BG z;have af:=BG x;have ab:((x.toNat:Int)==129)=false:=by simp;omega
 have ad:((x.toNat:Int)==130)=true:=by simp;omega
 have q3:decide ((128:Int)<=(x.toNat:Int))=true:=by simp only[decide_eq_true_eq];omega
 have aj:decide ((4:Int)<=(n:Int))=true:=by simp only[decide_eq_true_eq];omega
 obtain⟨m,hm⟩:∃m:Nat,y.toNat*256+z.toNat=m:=⟨_,rfl⟩;have al:bits .or .i64 ((y.toNat:Int)*256) (z.toNat:Int)=(m:Int):=by rw[Hq y.toNat z.toNat z.toNat_lt (by omega)];omega
 have an:(0:Int)<=(m:Int):=by omega
 have E:=I ((Bu (CH (t:=t) (FK (b:=y) (c:=z) (r:=r) Y) (.inr (by simp only[List.length_cons];omega)))).1);have q4:decide ((n:Int) - 4<(m:Int))=true:=by simp only[decide_eq_true_eq];omega
 have ao:(2:Int)<=(n:Int):=by omega
 have ak:(n:Int)<=100000:=by omega
 have g0:decide ((n:Int)<2)=false:=by simp only[decide_eq_false_iff_not];omega
 have HB:=I O;have HN:=I hn;have HC:=I hc;have HR:=I hr;have au:=I hB;have ai:=I Z;clear O hn hc hr hB Z hu X M;clear Y hf;go_enter Tryz.func70,Tryz.ntmps70
 go_wp2
 go_quiet (fail)
 go_wp2
 go_ret;exact Cs (HB.o.drewN _) E.o (Fo (World.grownBy.refl _ _) _)
theorem Le (B g : Nat) (A : Option Addr) (n cap : Nat) (t x : UInt8) (y z : UInt8) (r : L) (w : World) (X : Blk w g 108 #[.slice A n cap, .bool false]) (hn : n = (t :: x :: y :: z :: r).length) (hc : n <= cap) (hr : Rd w B A (bvs (t :: x :: y :: z :: r))) (hB : B <= w.heap.size) (aa : B <= g) (hu : n <= 100000) (Z : x.toNat = 130) (hf : y.toNat * 256 + z.toNat <= r.length) (hy : y.toNat * 256 + z.toNat < 128) :
    Calls Tryz.prog 70 #[.pointer (some ⟨g,0,none⟩),.int .u8 t.toNat] w (Took w B g t (some (t :: x :: y :: z :: r))):=by
  have h0:=X.c0;have h1:=X.c1;have f0:=X.frozen 0;have f1:=X.frozen 1;obtain⟨b,o,rfl,aw,M⟩:=De hr (by simp);have ab:=hn;simp only[List.length_cons] at ab;have c0:w.cell? ⟨b,o,none⟩=some (.int .u8 ((t).toNat:Int)):=M 0 (by simp);have c1:w.cell? ⟨b,o+1,none⟩=some (.int .u8 ((x).toNat:Int)):=M 1 (by simp);have ak:(2:Int)<(n:Int):=by omega
  have al:(3:Int)<(n:Int):=by omega
  have c2:w.cell? ⟨b,o+2,none⟩=some (.int .u8 ((y).toNat:Int)):=M 2 (by simp);have ag:=BG y;have c3:w.cell? ⟨b,o+3,none⟩=some (.int .u8 ((z).toNat:Int)):=M 3 (by simp);have ad:=BG z;have ai:=BG x;have ae:((x.toNat:Int)==129)=false:=by simp;omega
  have af:((x.toNat:Int)==130)=true:=by simp;omega
  have q3:decide ((128:Int)<=(x.toNat:Int))=true:=by simp only[decide_eq_true_eq];omega
  have an:decide ((4:Int)<=(n:Int))=true:=by simp only[decide_eq_true_eq];omega
  obtain⟨m,hm⟩:∃m:Nat,y.toNat*256+z.toNat=m:=⟨_,rfl⟩;have aA:bits .or .i64 ((y.toNat:Int)*256) (z.toNat:Int)=(m:Int):=by rw[Hq y.toNat z.toNat z.toNat_lt (by omega)];omega
  have au:(0:Int)<=(m:Int):=by omega
  have q4:decide ((n:Int) - 4<(m:Int))=false:=by simp only[decide_eq_false_iff_not];omega
  have ah:=I (fun W=>Hi (m) 1 (by omega) (by rw[Cp];rw[if_pos (by omega)]) W);have ay:(m:Int)<=65535:=by omega
  have E:=I ((Bu (CH (t:=t) (FK (b:=y) (c:=z) (r:=r) Z) (.inl (by simp;omega)))).1);have av:(2:Int)<=(n:Int):=by omega
  have ar:(n:Int)<=100000:=by omega
  have g0:decide ((n:Int)<2)=false:=by simp only[decide_eq_false_iff_not];omega
  have HB:=I X;have HN:=I hn;have HC:=I hc;have HR:=I hr;have aB:=I hB;have ax:=I aa;clear X hn hc hr hB aa hu ab M;clear Z hf hy;go_enter Tryz.func70,Tryz.ntmps70
  go_wp2
  go_quiet (fail)
  go_wp2_with (go_at_call 118; refine (ah.o _).mono ?_; rintro e w1 ⟨⟨g1, aj, rfl⟩, Y⟩
               have O:=I ((HB.o.drewN _).below Y);have k0:w1.cell? ⟨g,0,none⟩=some (.slice (some ⟨b,o,none⟩) n cap):=O.o.cell 0;have k1:w1.cell? ⟨g,1,none⟩=some (.bool false):=O.o.cell 1;have az:=O.o.frozen 0;have ao:=O.o.frozen 1)
  go_ret;exact Cs O.o E.o (By ((below_drewN Ag _).trans Y) _)
theorem Lf (B g : Nat) (A : Option Addr) (n cap : Nat) (t x : UInt8) (y z : UInt8) (r : L) (w : World) (X : Blk w g 108 #[.slice A n cap, .bool false]) (hn : n = (t :: x :: y :: z :: r).length) (hc : n <= cap) (hr : Rd w B A (bvs (t :: x :: y :: z :: r))) (hB : B <= w.heap.size) (aa : B <= g) (hu : n <= 100000) (Z : x.toNat = 130) (hf : y.toNat * 256 + z.toNat <= r.length) (hy : ¬ y.toNat * 256 + z.toNat < 128) (aj : y.toNat * 256 + z.toNat <= 255) :
    Calls Tryz.prog 70 #[.pointer (some ⟨g,0,none⟩),.int .u8 t.toNat] w (Took w B g t (some (t :: x :: y :: z :: r))):=by
  have h0:=X.c0;have h1:=X.c1;have f0:=X.frozen 0;have f1:=X.frozen 1;obtain⟨b,o,rfl,ax,M⟩:=De hr (by simp);have ab:=hn;simp only[List.length_cons] at ab;have c0:w.cell? ⟨b,o,none⟩=some (.int .u8 ((t).toNat:Int)):=M 0 (by simp);have c1:w.cell? ⟨b,o+1,none⟩=some (.int .u8 ((x).toNat:Int)):=M 1 (by simp);have al:(2:Int)<(n:Int):=by omega
  have an:(3:Int)<(n:Int):=by omega
  have c2:w.cell? ⟨b,o+2,none⟩=some (.int .u8 ((y).toNat:Int)):=M 2 (by simp);have ag:=BG y;have c3:w.cell? ⟨b,o+3,none⟩=some (.int .u8 ((z).toNat:Int)):=M 3 (by simp);have ad:=BG z;have ai:=BG x;have ae:((x.toNat:Int)==129)=false:=by simp;omega
  have af:((x.toNat:Int)==130)=true:=by simp;omega
  have q3:decide ((128:Int)<=(x.toNat:Int))=true:=by simp only[decide_eq_true_eq];omega
  have ao:decide ((4:Int)<=(n:Int))=true:=by simp only[decide_eq_true_eq];omega
  obtain⟨m,hm⟩:∃m:Nat,y.toNat*256+z.toNat=m:=⟨_,rfl⟩;have aB:bits .or .i64 ((y.toNat:Int)*256) (z.toNat:Int)=(m:Int):=by rw[Hq y.toNat z.toNat z.toNat_lt (by omega)];omega
  have av:(0:Int)<=(m:Int):=by omega
  have q4:decide ((n:Int) - 4<(m:Int))=false:=by simp only[decide_eq_false_iff_not];omega
  have ah:=I (fun W=>Hi (m) 2 (by omega) (by rw[Cp];rw[if_neg (by omega),if_pos (by omega)]) W);have az:(m:Int)<=65535:=by omega
  have E:=I ((Bu (CH (t:=t) (FK (b:=y) (c:=z) (r:=r) Z) (.inl (by simp;omega)))).1);have aw:(2:Int)<=(n:Int):=by omega
  have au:(n:Int)<=100000:=by omega
  have g0:decide ((n:Int)<2)=false:=by simp only[decide_eq_false_iff_not];omega
  have HB:=I X;have HN:=I hn;have HC:=I hc;have HR:=I hr;have aC:=I hB;have ay:=I aa;clear X hn hc hr hB aa hu ab M;clear Z hf hy aj;go_enter Tryz.func70,Tryz.ntmps70
  go_wp2
  go_quiet (fail)
  go_wp2_with (go_at_call 118; refine (ah.o _).mono ?_; rintro e w1 ⟨⟨g1, ak, rfl⟩, Y⟩
               have O:=I ((HB.o.drewN _).below Y);have k0:w1.cell? ⟨g,0,none⟩=some (.slice (some ⟨b,o,none⟩) n cap):=O.o.cell 0;have k1:w1.cell? ⟨g,1,none⟩=some (.bool false):=O.o.cell 1;have aA:=O.o.frozen 0;have ar:=O.o.frozen 1)
  go_ret;exact Cs O.o E.o (By ((below_drewN Ag _).trans Y) _)
theorem Lg (B g : Nat) (A : Option Addr) (n cap : Nat) (t x : UInt8) (y z : UInt8) (r : L) (w : World) (X : Blk w g 108 #[.slice A n cap, .bool false]) (hn : n = (t :: x :: y :: z :: r).length) (hc : n <= cap) (hr : Rd w B A (bvs (t :: x :: y :: z :: r))) (hB : B <= w.heap.size) (aa : B <= g) (hu : n <= 100000) (Z : x.toNat = 130) (hf : y.toNat * 256 + z.toNat <= r.length) (hy : ¬ y.toNat * 256 + z.toNat <= 255) :
    Calls Tryz.prog 70 #[.pointer (some ⟨g,0,none⟩),.int .u8 t.toNat] w (Took w B g t (some (t :: x :: y :: z :: r))):=by
  have h0:=X.c0;have h1:=X.c1;have f0:=X.frozen 0;have f1:=X.frozen 1;obtain⟨b,o,rfl,aA,M⟩:=De hr (by simp);have ab:=hn;simp only[List.length_cons] at ab;have c0:w.cell? ⟨b,o,none⟩=some (.int .u8 ((t).toNat:Int)):=M 0 (by simp);have c1:w.cell? ⟨b,o+1,none⟩=some (.int .u8 ((x).toNat:Int)):=M 1 (by simp);have an:(2:Int)<(n:Int):=by omega
  have ao:(3:Int)<(n:Int):=by omega
  have c2:w.cell? ⟨b,o+2,none⟩=some (.int .u8 ((y).toNat:Int)):=M 2 (by simp);have ag:=BG y;have c3:w.cell? ⟨b,o+3,none⟩=some (.int .u8 ((z).toNat:Int)):=M 3 (by simp);have ad:=BG z;have ai:=BG x;have ae:((x.toNat:Int)==129)=false:=by simp;omega
  have af:((x.toNat:Int)==130)=true:=by simp;omega
  have q3:decide ((128:Int)<=(x.toNat:Int))=true:=by simp only[decide_eq_true_eq];omega
  have au:decide ((4:Int)<=(n:Int))=true:=by simp only[decide_eq_true_eq];omega
  obtain⟨m,hm⟩:∃m:Nat,y.toNat*256+z.toNat=m:=⟨_,rfl⟩;have aD:bits .or .i64 ((y.toNat:Int)*256) (z.toNat:Int)=(m:Int):=by rw[Hq y.toNat z.toNat z.toNat_lt (by omega)];omega
  have ax:(0:Int)<=(m:Int):=by omega
  have q4:decide ((n:Int) - 4<(m:Int))=false:=by simp only[decide_eq_false_iff_not];omega
  have ah:=I (fun W=>Hi (m) 3 (by omega) (by rw[Cp];rw[if_neg (by omega),if_neg (by omega)]) W);have aB:(m:Int)<=65535:=by omega
  have HS:=I (Gx (t:=t) ((FK (b:=y) (c:=z) (r:=r) Z).trans (by rw[hm,decide_eq_true (show 255<m by omega)])) (by simp only[List.length_cons];omega));have HF:=I (show 4+m<=(t :: x :: y :: z :: r).length by simp only[List.length_cons];omega);have ar:=FB (P:=Tryz.prog) Tryz.underlying24 Ei (some ⟨b,o,none⟩) n cap (4+m) (4+(m:Int)) (by omega) (by omega);have az:=Gm (P:=Tryz.prog) Tryz.underlying24 Ei (some ⟨b,o,none⟩) n cap 4 m 4 (4+(m:Int)) rfl rfl (by omega);have ay:(2:Int)<=(n:Int):=by omega
  have aw:(n:Int)<=100000:=by omega
  have g0:decide ((n:Int)<2)=false:=by simp only[decide_eq_false_iff_not];omega
  have HB:=I X;have HN:=I hn;have HC:=I hc;have HR:=I hr;have ak:=I hB;have aj:=I aa;clear X hn hc hr hB aa hu ab M;clear Z hf hy;go_enter Tryz.func70,Tryz.ntmps70
  go_wp2
  go_quiet (fail)
  go_wp2_with (go_at_call 118; refine (ah.o _).mono ?_; rintro e w1 ⟨⟨g1, al, rfl⟩, Y⟩
               have O:=I ((HB.o.drewN _).below Y);have k0:w1.cell? ⟨g,0,none⟩=some (.slice (some ⟨b,o,none⟩) n cap):=O.o.cell 0;have k1:w1.cell? ⟨g,1,none⟩=some (.bool false):=O.o.cell 1;have aC:=O.o.frozen 0;have av:=O.o.frozen 1)
  go_ret;have hn:=HN.o;subst hn;exact Mp HC.o HS.o HF.o HR.o O.o (By ((below_drewN Ag _).trans Y) _) ak.o aj.o
theorem OK (B g:Nat) (A:Option Addr) (n cap:Nat) (t x:UInt8) (r:L) (w:World) (O:Blk w g 108 #[.slice A n cap,.bool false]) (hn:n=(t :: x :: r).length) (hc:n<=cap) (hr:Rd w B A (bvs (t :: x :: r))) (hB:B<=w.heap.size) (aa:B<=g) (hu:n<=100000) (Y:¬x.toNat<128) (Z:¬x.toNat=129) (ab:¬x.toNat=130) :
  Calls Tryz.prog 70 #[.pointer (some ⟨g,0,none⟩),.int .u8 t.toNat] w (Took w B g t (some (t :: x :: r))):=by
 have h0:=O.c0;have h1:=O.c1;have f0:=O.frozen 0;have f1:=O.frozen 1;obtain⟨b,o,rfl,aj,M⟩:=De hr (by simp);have X:=hn;simp only[List.length_cons] at X;have c0:w.cell? ⟨b,o,none⟩=some (.int .u8 ((t).toNat:Int)):=M 0 (by simp);have c1:w.cell? ⟨b,o+1,none⟩=some (.int .u8 ((x).toNat:Int)):=M 1 (by simp);have af:=BG x;have ad:((x.toNat:Int)==129)=false:=by simp;omega
 have ae:((x.toNat:Int)==130)=false:=by simp;omega
 have q3:decide ((128:Int)<=(x.toNat:Int))=true:=by simp only[decide_eq_true_eq];omega
 have E:=I ((Bu (CH (t:=t) (Iq (r:=r) Y Z ab) (.inl rfl))).1);have ai:(2:Int)<=(n:Int):=by omega
 have ah:(n:Int)<=100000:=by omega
 have g0:decide ((n:Int)<2)=false:=by simp only[decide_eq_false_iff_not];omega
 have HB:=I O;have HN:=I hn;have HC:=I hc;have HR:=I hr;have ak:=I hB;have ag:=I aa;clear O hn hc hr hB aa hu X M;clear Y Z ab;go_enter Tryz.func70,Tryz.ntmps70
 go_wp2
 go_ret;exact Cs HB.o E.o (World.grownBy.refl _ _)
theorem FC (t:UInt8) (B g:Nat) (w:World) (c:Option L) (h:RC w B g c) (hB:B<=w.heap.size) (M:B<=g) (hu:(c.getD []).length<=100000) :
  Calls Tryz.prog 70 #[.pointer (some ⟨g,0,none⟩),.int .u8 t.toNat] w (Took w B g t c):=by
 cases c with
 |none=>exact OJ t B g w h
 |some l=>
  obtain⟨A,n,cap,e,Z,rfl,X,hc,Y⟩:=h;rw[Option.getD_some] at hu
  match l,X,Y,hu with
  | [],X,Y,hu=>subst X;exact IT t B g A cap [] w Z (by simp)
  | [a],X,Y,hu=>subst X;exact IT t B g A cap [a] w Z (by simp)
  |a :: x :: r,X,Y,hu=>
   have O:n<=100000:=by rw[X];exact hu
   by_cases hne:a=t
   ·subst hne
    by_cases h1:x.toNat<128
    ·by_cases hf:x.toNat<=r.length
     ·exact Je B g A n cap a x r w Z X hc Y hB M O h1 hf
     ·exact Jf B g A n cap a x r w Z X hc Y hB M O h1 hf
    ·by_cases h2:x.toNat=129
     ·match r,X,Y with
      | [],X,Y=>exact Ke B g A n cap a x w Z X hc Y hB M O h2
      |y :: q,X,Y=>
       by_cases hf:y.toNat<=q.length
       ·by_cases hy:y.toNat<128
        ·exact Jg B g A n cap a x y q w Z X hc Y hB M O h2 hf hy
        ·exact Lc B g A n cap a x y q w Z X hc Y hB M O h2 hf hy
       ·exact Lb B g A n cap a x y q w Z X hc Y hB M O h2 hf
     ·by_cases h3:x.toNat=130
      ·match r,X,Y with
       | [],X,Y=>exact Kf B g A n cap a x w Z X hc Y hB M O h3
       | [y],X,Y=>exact Kg B g A n cap a x y w Z X hc Y hB M O h3
       |y :: z :: q,X,Y=>
        by_cases hf:y.toNat*256+z.toNat<=q.length
        ·by_cases hy:y.toNat*256+z.toNat<=255
         ·by_cases hy1:y.toNat*256+z.toNat<128
          ·exact Le B g A n cap a x y z q w Z X hc Y hB M O h3 hf hy1
          ·exact Lf B g A n cap a x y z q w Z X hc Y hB M O h3 hf hy1 hy
         ·exact Lg B g A n cap a x y z q w Z X hc Y hB M O h3 hf hy
        ·exact Ld B g A n cap a x y z q w Z X hc Y hB M O h3 hf
      ·exact OK B g A n cap a x r w Z X hc Y hB M O h1 h2 h3
   ·exact QV B g A n cap t a x r w Z X hc Y hB M O hne
open Reg
def Ints (w:World) (B g:Nat) (c:Option L) (e:Ending) (w':World):Prop:=
 e=.returned (.int .i64 ((intC c).1:Int))/\RC w' B g (intC c).2/\w.grownBy w' (some g)
theorem QW {c:Option L} (h:Ax 2 c=none\/∃p,Ax 2 c=some p/\numL p=none):intC c=(0,none):=by
 rcases h with h | ⟨p,h,M⟩
 ·simp [intC,h]
 ·simp [intC,h,M]
theorem GM {w0 w:World} {B g:Nat} {c:Option L} {A:Option Addr} {n cap:Nat} {e:Bool} (O:Blk w g 108 #[.slice A n cap,.bool e]) (h:Ax 2 c=none\/∃p,Ax 2 c=some p/\numL p=none) (M:w0.grownBy w (some g)) :
  Ints w0 B g c (.returned (.int .i64 0)) (w.setCell ⟨g,1,none⟩ (.bool true)):=by
 unfold Ints;rw[QW h];exact⟨rfl,⟨A,n,cap,true,O.set 1 (.bool true),rfl⟩,Ar M (.inl rfl) _⟩
theorem QX (B g : Nat) (c : Option L) (w : World) (h : RC w B g c) (hB : B <= w.heap.size) (X : B <= g) (hu : (c.getD []).length <= 100000) (hn : Ax 2 c = none) :
    Calls Tryz.prog 34 #[.pointer (some ⟨g,0,none⟩)] w (Ints w B g c):=by
  have HT:=I (FC 2 B g w c h hB X hu);have HN:=I hn;clear h hB X hu hn;go_enter Tryz.func34,Tryz.ntmps34
  go_wp2_with (go_at_call 70; refine HT.o.mono ?_; rintro e w1 ⟨⟨A', aa, rfl, M, Z⟩, O, hg⟩
               rw[Gs 2 c HN.o] at O;obtain⟨A,n,cap,e,Y,rfl⟩:=O;have HB:=I Y;have h1:=Y.c1;have f1:=Y.frozen 1;clear Y M Z)
  go_ret;exact GM HB.o (.inl HN.o) hg
theorem JA (B g:Nat) (c:Option L) (w:World) (h:RC w B g c) (hB:B<=w.heap.size) (Z:B<=g) (hu:(c.getD []).length<=100000) (p r:L) (hp:Ax 2 c=some p) (hr:AQ 2 c=some r) :
  Calls Tryz.prog 70 #[.pointer (some ⟨g,0,none⟩),.int .u8 2] w fun e w'=>
   (∃Y M A n cap,e=.returned (.slice Y p.length M)/\Rd w' B Y (bvs p)/\Blk w' g 108 #[.slice A n cap,.bool false]/\RS w' B A n cap false (some r))/\w.grownBy w' (some g):=by
 refine(FC 2 B g w c h hB Z hu).mono ?_;rintro e w' ⟨⟨Y,M,rfl,_,O⟩,X,hg⟩;rw[hp] at O;rw[hr] at X;obtain⟨A,n,cap,e,hb,rfl,h2⟩:=X;rw[hp];exact⟨⟨Y,M,A,n,cap,rfl,O,hb,rfl,h2⟩,hg⟩
theorem TG (B g : Nat) (c : Option L) (w : World) (h : RC w B g c) (hB : B <= w.heap.size) (O : B <= g) (hu : (c.getD []).length <= 100000) (p r : L) (hp : Ax 2 c = some p) (hr : AQ 2 c = some r) (hn : numL p = none) (M : p.length = 0 \/ 9 < p.length) :
    Calls Tryz.prog 34 #[.pointer (some ⟨g,0,none⟩)] w (Ints w B g c):=by
  have HT:=I (JA B g c w h hB O hu p r hp hr);have HN:=I (show Ax 2 c=none\/∃p,Ax 2 c=some p/\numL p=none from .inr ⟨p,hp,hn⟩);have go : ∀ b1 b2 : Bool, ((p.length : Int) == 0) = b1 -> decide ((9 : Int) < (p.length : Int)) = b2 -> (b1 || b2) = true ->
      Calls Tryz.prog 34 #[.pointer (some ⟨g,0,none⟩)] w (Ints w B g c):=by
    intro b1 b2 g1 g2 X;clear h hB O hu hn hp hr M;cases b1<;>cases b2<;>first
      |(exact(Bool.false_ne_true X).elim)
      | (clear X
         go_enter Tryz.func34,Tryz.ntmps34
         go_wp2_with (go_at_call 70; refine HT.o.mono ?_; rintro e w1 ⟨⟨A', ab, A, n, cap, rfl, Z, Y, aa⟩, hg⟩
                      have HB:=I Y;have h1:=Y.c1;have f1:=Y.frozen 1;clear Y aa Z)
         go_ret;exact GM HB.o HN.o hg)
  refine go _ _ rfl rfl ?_;rcases M with M | M
  · simp [M]
  · simp; omega
theorem Jh {p:L} (h:numL p≠none) (i:Nat):val (p.take i)<9223372036854775808:=by
 cases p with
 |nil=>exact absurd rfl h
 |cons a r=>
  by_cases hc:7<r.length\/128<=a.toNat
  ·exact absurd (Ff (.inl hc)) h
  ·exact Ip (by omega) (by omega) i
theorem Nq (x y:Int) : -9223372036854775808<=bits .or .i64 x y/\bits .or .i64 x y<=9223372036854775807:=by
 show -9223372036854775808<=IntKind.i64.wrap _/\IntKind.i64.wrap _<=9223372036854775807;rw[IntKind.wrap_i64];omega
theorem ON {p:L} {v:Int} (X:p.length<=65535) (O:0<=v) (M:v<=4611686018427387904) (h:encI v=elem 2 p):numL p=some v.toNat:=by
 have e:=MI (t:=2) (p:=dig (Cj v)) (q:=p) (r1:=[]) (r2:=[]) (by have:=Hy v;omega) X (by rw[List.append_nil,List.append_nil];exact h);rw[<-e.1,Pk _ (Fc v),Io v O M]
theorem QY (B g : Nat) (c : Option L) (w : World) (h : RC w B g c) (hB : B <= w.heap.size) (ai : B <= g) (hu : (c.getD []).length <= 100000) (p r : L) (hp : Ax 2 c = some p) (hr : AQ 2 c = some r) (aF : p.length ≠ 0) (hl : p.length <= 9) :
    Calls Tryz.prog 34 #[.pointer (some ⟨g,0,none⟩)] w (Ints w B g c):=by
  have HT:=I (JA B g c w h hB ai hu p r hp hr);have HP:=I hp;have az:=I hr;have af:=I hB;have aP:=I ai;have HL:=I hl;have g1:((p.length:Int)==0)=false:=by simp only[beq_eq_false_iff_ne,ne_eq];omega
  have g2:decide ((9:Int)<(p.length:Int))=false:=by simp;omega
  have aM:(p.length:Int)<=9:=by omega
  clear h hB ai hu hp hr aF hl;go_enter Tryz.func34,Tryz.ntmps34
  go_wp2_with (go_at_call 70; refine HT.o.mono ?_; rintro e Z ⟨⟨A', Y, A, n, cap, rfl, ak, hb, an⟩, hg⟩
               have HB:=I hb;have aj:=I ak;have ag:=I an;have h1:=hb.c1;have f1:=hb.frozen 1;clear hb an ak)
  go_loop [4,5] (fun nv i=>∃(j:Nat) (v:Int),j<=p.length/\i=.int .i64 (j:Int)/\nv=.int .i64 v/\-9223372036854775808<=v/\v<=9223372036854775807/\(numL p≠none->v=(val (p.take j):Int))) (fun _ i=>p.length - (intOf i).toNat)
  case atStart=>exact⟨0,0,by omega,rfl,rfl,by omega,by omega,fun _=>by simp [val]⟩
  case round=>
    obtain⟨j,v,hj,rfl,rfl,aO,aL,ah⟩:=hrel;have HV:=I ah;clear ah
    by_cases hlt:j<p.length
    · obtain ⟨b, o, rfl, aN, ad⟩ := aj.o.at_ (DR hlt)
      have ay:Z.cell? ⟨b,o+j,none⟩=some (.int .u8 ((p[j]).toNat:Int)):=ad;have au:=BG p[j];have ax:=I (El p j hlt);have aA:=I (Jh (p:=p));have aw:=I (p[j]).toNat_lt;clear ad
      go_wp2
      refine⟨⟨j+1,_,by omega,by go_num,rfl,(Nq _ _).1,(Nq _ _).2,fun al=>?_⟩,by simp [intOf];omega⟩;have e1:=HV.o al;have e2:=aA.o al (j+1);have e3:=ax.o;rw[e3] at e2⊢;have e4:=Hq (val (p.take j)) (p[j]).toNat aw.o (by omega);have e5:wrap64 (v*256)=((val (p.take j):Nat):Int)*256:=by
        rw[e1];exact IntWalk.wrap64_in _ (by omega)
      rw[e5,e4];omega
    · obtain rfl : j = p.length := by omega
      clear hj hlt;rw[List.take_length] at HV
      by_cases hneg:v<0
      · have g3 : decide (v < 0) = true := by simp only [decide_eq_true_eq]; omega
        have HN:=I (show Ax 2 c=none\/∃p,Ax 2 c=some p/\numL p=none from .inr ⟨p,HP.o,by
          cases hx:numL p with
          |none=>rfl
          |some y=>have:=HV.o (by rw[hx];simp);omega⟩)
        clear hneg
        go_wp2
        go_quiet (fail)
        go_wp2
        go_ret;exact GM (HB.o.drewN _) HN.o (Fo hg _)
      · have g3 : decide (v < 0) = false := by simp only [decide_eq_false_iff_not]; omega
        by_cases hbig:4611686018427387904<v
        · have g4 : decide (4611686018427387904 < v) = true := by simp only [decide_eq_true_eq]; omega
          have HN:=I (show Ax 2 c=none\/∃p,Ax 2 c=some p/\numL p=none from .inr ⟨p,HP.o,by
            cases hx:numL p with
            |none=>rfl
            |some y=>have:=HV.o (by rw[hx];simp);have:=(Fh hx).1;have:=(Fh hx).2.1;omega⟩)
          clear hneg hbig
          go_wp2
          go_quiet (fail)
          go_wp2
          go_ret;exact GM (HB.o.drewN _) HN.o (Fo hg _)
        · have g4 : decide (4611686018427387904 < v) = false := by simp only [decide_eq_false_iff_not]; omega
          by_cases heq:encI v=elem 2 p
          · have ar := I heq
            have ao:=I (ON (by have:=HL.o;omega) (by omega) (by omega) heq);have aG:=I (show ¬v<0 from hneg);clear heq
            go_wp2
            refine BJ 15 rfl (by kernel_rfl) ?_;refine Reg.tz 0 rfl ?_;refine Reg.tz 1 rfl ?_;refine Reg.tz 2 rfl ?_;refine Reg.tz 3 rfl ?_;refine Reg.tz 4 rfl ?_;refine Reg.tz 5 rfl ?_;refine Reg.tz 6 rfl ?_;refine Reg.tz 7 rfl ?_;refine Reg.tz 10 rfl ?_;refine Di 8 rfl (by kernel_rfl) (by rfl) 65 #[.int .i64 v] (by go_simp) ?_;refine Calls.mono (DerR.Bk v Z.drew) ?_;rintro e w2 ⟨⟨q2,d2,rfl,aB,av,O⟩,ab⟩;refine⟨_,rfl,ab,?_⟩;have aa:=I O;have B2:Below Z.heap.size Z w2:=bt Ag.drew ab;clear O;simp only[Act.put,J,U,Aa];refine Reg.tx 9 rfl (fun w' hS=>by have hh:=GI (P:=Tryz.prog) Tryz.underlying24 Tryz.underlying5 Tryz.underlying9 (n:=(encI v).length) (c:=d2) aa.o Af rfl w' hS;go_simp;rfl) ?_;refine Di 11 rfl (by kernel_rfl) (by rfl) 73 #[.int .u8 2,.slice A' p.length Y] (by go_simp) ?_;refine Calls.mono (DerR.Ew 2 p A' p.length Y B w2 (aj.o.below (B2.mono (Nat.le_trans af.o hg.size))) rfl (Nat.le_trans (Nat.le_trans af.o hg.size) B2.size) (by have:=HL.o;omega)) ?_;rintro e w3 ⟨⟨q3,d3,rfl,aE,aH,M⟩,ae⟩;refine⟨_,rfl,ae,?_⟩;have X:=I M;have B3:Below Z.heap.size Z w3:=bt B2 ae;clear M;rw[<-ar.o] at X;rw[<-ar.o];simp only[Act.put,J,U,Aa];refine Reg.tx 12 rfl (fun w' hS=>by have hh:=GI (P:=Tryz.prog) Tryz.underlying24 Tryz.underlying5 Tryz.underlying9 (n:=(encI v).length) (c:=d3) X.o Af rfl w' hS;go_simp;rfl) ?_;refine Reg.tz 13 rfl ?_;refine Reg.tz 14 rfl ?_;refine wpAnyH_done (by kernel_rfl) ?_ _;have ay:=ag.o;have aD:w3.cell? ⟨g,1,none⟩=some (.bool false):=(HB.o.below B3).cell 1
            go_wp2
            go_ret;have hI:intC c=(v.toNat,some r):=by simp only[intC,HP.o,ao.o,az.o]
            unfold Ints;rw[hI];have aI:=aG.o;have aC:((v.toNat:Nat):Int)=v:=by omega
            exact⟨by show Ending.returned (.int .i64 v)=.returned (.int .i64 ((v.toNat:Nat):Int));rw[aC],⟨A,n,cap,false,HB.o.below B3,rfl,ag.o.2.1,ag.o.2.2.1,ag.o.2.2.2.below (B3.mono (Nat.le_trans af.o hg.size))⟩,Gu hg B3⟩
          · have aQ := I heq
            have HN:=I (show Ax 2 c=none\/∃p,Ax 2 c=some p/\numL p=none from .inr ⟨p,HP.o,by
              cases hx:numL p with
              |none=>rfl
              |some y=>
                have e1:=HV.o (by rw[hx];simp);obtain⟨e2,e3,_⟩:=Fh hx;refine absurd ?_ heq;rw[encI,Io v (by omega) (by omega),show v.toNat=y by omega,Vi hx]⟩)
            have aJ:(encI v==elem 2 p)=false:=by simp only[beq_eq_false_iff_ne,ne_eq];exact heq
            clear heq
            go_wp2
            refine BJ 15 rfl (by kernel_rfl) ?_;refine Reg.tz 0 rfl ?_;refine Reg.tz 1 rfl ?_;refine Reg.tz 2 rfl ?_;refine Reg.tz 3 rfl ?_;refine Reg.tz 4 rfl ?_;refine Reg.tz 5 rfl ?_;refine Reg.tz 6 rfl ?_;refine Reg.tz 7 rfl ?_;refine Reg.tz 10 rfl ?_;refine Di 8 rfl (by kernel_rfl) (by rfl) 65 #[.int .i64 v] (by go_simp) ?_;refine Calls.mono (DerR.Bk v Z.drew) ?_;rintro e w2 ⟨⟨q2,d2,rfl,aB,av,O⟩,ab⟩;refine⟨_,rfl,ab,?_⟩;have aa:=I O;have B2:Below Z.heap.size Z w2:=bt Ag.drew ab;clear O;simp only[Act.put,J,U,Aa];refine Reg.tx 9 rfl (fun w' hS=>by have hh:=GI (P:=Tryz.prog) Tryz.underlying24 Tryz.underlying5 Tryz.underlying9 (n:=(encI v).length) (c:=d2) aa.o Af rfl w' hS;go_simp;rfl) ?_;refine Di 11 rfl (by kernel_rfl) (by rfl) 73 #[.int .u8 2,.slice A' p.length Y] (by go_simp) ?_;refine Calls.mono (DerR.Ew 2 p A' p.length Y B w2 (aj.o.below (B2.mono (Nat.le_trans af.o hg.size))) rfl (Nat.le_trans (Nat.le_trans af.o hg.size) B2.size) (by have:=HL.o;omega)) ?_;rintro e w3 ⟨⟨q3,d3,rfl,aE,aH,M⟩,ae⟩;refine⟨_,rfl,ae,?_⟩;have X:=I M;have B3:Below Z.heap.size Z w3:=bt B2 ae;clear M;simp only[Act.put,J,U,Aa];refine Reg.tx 12 rfl (fun w' hS=>by have hh:=GI (P:=Tryz.prog) Tryz.underlying24 Tryz.underlying5 Tryz.underlying9 (n:=(elem 2 p).length) (c:=d3) X.o Af rfl w' hS;go_simp;rfl) ?_;refine Reg.tz 13 rfl ?_;refine Reg.tz 14 rfl ?_;refine wpAnyH_done (by kernel_rfl) ?_ _;have aD:w3.cell? ⟨g,1,none⟩=some (.bool false):=(HB.o.below B3).cell 1;have aK:=(HB.o.below B3).frozen 1
            go_wp2
            go_ret;exact GM (HB.o.below B3) HN.o (Gu hg B3)
theorem Ex (B g:Nat) (c:Option L) (w:World) (h:RC w B g c) (hB:B<=w.heap.size) (M:B<=g) (hu:(c.getD []).length<=100000) :
  Calls Tryz.prog 34 #[.pointer (some ⟨g,0,none⟩)] w (Ints w B g c):=by
 cases hp:Ax 2 c with
 |none=>exact QX B g c w h hB M hu hp
 |some p=>
  obtain⟨r,O⟩:∃r,AQ 2 c=some r:=by
   cases c with
   |none=>simp [Ax] at hp
   |some s=>
    cases hs:Bm 2 s with
    |none=>rw[(Bu hs).1] at hp;cases hp
    |some x=>exact⟨_,(DG (b:=x.1) (r:=x.2) hs).2⟩
  by_cases hl:p.length=0\/9<p.length
  ·have X:numL p=none:=by
    cases hx:numL p with
    |none=>rfl
    |some y=>obtain⟨_,_,Y,Z,_⟩:=Fh hx;omega
   exact TG B g c w h hB M hu p r hp O X hl
  ·exact QY B g c w h hB M hu p r hp O (by omega) (by omega)
theorem IU (B g:Nat) (c:Option L) (w:World) (h:RC w B g c) (hB:B<=w.heap.size) (O:B<=g) (hu:(c.getD []).length<=100000) :
  Calls Tryz.prog 36 #[.pointer (some ⟨g,0,none⟩)] w (Took w B g 4 c):=by
 have HT:=I (FC 4 B g w c h hB O hu);clear h hB O hu;go_enter Tryz.func36,Tryz.ntmps36
 go_wp2_with (go_at_call 70;refine HT.o.mono ?_;rintro e w1 ⟨⟨A',X,rfl,M,Y⟩,Z,hg⟩)
 go_ret;exact⟨⟨A',X,rfl,M,Y⟩,Z,hg⟩
theorem Lh (B g : Nat) (c : Option L) (w : World) (h : RC w B g c) (hB : B <= w.heap.size) (M : B <= g) (hu : (c.getD []).length <= 100000) :
    Calls Tryz.prog 71 #[.pointer (some ⟨g,0,none⟩)] w fun e w'=>e=.returned (.string ⟨((Ax 27 c).getD []).toArray⟩)/\RC w' B g (AQ 27 c)/\w.grownBy w' (some g):=by
  have HT:=I (FC 27 B g w c h hB M hu);clear h hB M hu;go_enter Tryz.func71,Tryz.ntmps71
  go_wp2_with (go_at_call 70; refine HT.o.mono ?_; rintro e w1 ⟨⟨A', O, rfl, Z, X⟩, Y, hg⟩
               have aa:=AJ (P:=Tryz.prog) w1 24 5 Tryz.underlying24 Tryz.underlying5 X ((Ax 27 c).getD []).length O rfl 9 Tryz.underlying9)
  go_ret;exact⟨rfl,Y,hg⟩
theorem Ji {t:UInt8} {c:Option L} {p:L} (h:Ax t c=some p):∃r,AQ t c=some r:=by
 cases c with
 |none=>simp [Ax] at h
 |some s=>
  cases hs:Bm t s with
  |none=>rw[(Bu hs).1] at h;cases h
  |some x=>exact⟨_,(DG (b:=x.1) (r:=x.2) hs).2⟩
theorem FD (t : UInt8) (B g : Nat) (c : Option L) (w : World) (h : RC w B g c) (hB : B <= w.heap.size) (aa : B <= g) (hu : (c.getD []).length <= 100000) :
    Calls Tryz.prog 32 #[.pointer (some ⟨g,0,none⟩),.int .u8 t.toNat] w fun e w'=>
      (∃g',e=.returned (.pointer (some ⟨g',0,none⟩))/\w.heap.size<=g'/\RC w' B g' (Ax t c))/\RC w' B g (AQ t c)/\w.grownBy w' (some g):=by
  have HT:=I (FC t B g w c h hB aa hu);have HB:=I hB;cases M:Ax t c with
  |none=>
    have hn:=Gs t c M;unfold Took at HT;rw[M,hn] at HT;rw[hn];clear h hB aa hu M hn;go_enter Tryz.func32,Tryz.ntmps32
    go_wp2_with (go_at_call 70; refine HT.o.mono ?_; rintro e w1 ⟨⟨A', ab, rfl, O, Y⟩, ⟨A, n, cap, e, M, rfl⟩, hg⟩
                 have X:=I M;have h1:=M.c1;clear M)
    go_ret;exact⟨⟨_,rfl,hg.size,_,_,_,true,Blk.new w1 _ _,rfl⟩,⟨A,n,cap,true,X.o.alloc _,rfl⟩,Cc hg _⟩
  |some p=>
    obtain⟨r,hn⟩:=Ji M;unfold Took at HT;rw[M,hn] at HT;rw[hn];clear h hB aa hu M hn;go_enter Tryz.func32,Tryz.ntmps32
    go_wp2_with (go_at_call 70; refine HT.o.mono ?_; rintro e w1 ⟨⟨A', ab, rfl, O, Y⟩, ⟨A, n, cap, e, M, rfl, ad⟩, hg⟩
                 have X:=I M;have Z:=I ad;have af:=I Y;have ae:=I O;have h1:=M.c1;clear M ad Y O)
    go_ret;have hs:=Nat.le_trans HB.o hg.size;exact⟨⟨_,rfl,hg.size,_,_,_,false,Blk.new w1 _ _,rfl,rfl,ae.o,af.o.alloc hs _⟩,⟨A,n,cap,false,X.o.alloc _,rfl,Z.o.1,Z.o.2.1,Z.o.2.2.alloc hs _⟩,Cc hg _⟩
theorem JB (B g:Nat) (c:Option L) (w:World) (h:RC w B g c):Calls Tryz.prog 72 #[.pointer (some ⟨g,0,none⟩)] w fun e w'=>e=.returned (.bool (DerC.Nk c))/\w=w':=by
 obtain⟨A,n,cap,e,X,O⟩:=h;have Z:=X.c0;have h1:=X.c1;cases c with
 |none=>
  obtain rfl:e=true:=O;clear X;go_enter Tryz.func72,Tryz.ntmps72
  go_wp2
  go_ret;exact⟨rfl,rfl⟩
 |some l=>
  obtain⟨rfl,Y,_⟩:=O;clear X
  by_cases hz:n=0
  ·have M:DerC.Nk (some l)=true:=by
    have:l = []:=List.length_eq_zero_iff.1 (by omega);subst this;rfl
   subst hz;rw[M];clear M Y;go_enter Tryz.func72,Tryz.ntmps72
   go_wp2
   go_ret;exact⟨rfl,rfl⟩
  ·have M:DerC.Nk (some l)=false:=by
    cases l with
    |nil=>exact absurd Y hz
    |cons a r=>rfl
   have g0:((n:Int)==0)=false:=by simp only[beq_eq_false_iff_ne,ne_eq];omega
   rw[M];clear M Y hz;go_enter Tryz.func72,Tryz.ntmps72
   go_wp2
   go_ret;exact⟨rfl,rfl⟩
end DerR
end Go.Proofs.YtlccngianpfalaaGreat
