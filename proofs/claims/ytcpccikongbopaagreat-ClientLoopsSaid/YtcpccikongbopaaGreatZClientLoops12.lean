import Derived.Test.YtcpccikongbopaaGreatZClientLoops8
import Derived.Test.YtcpccikongbopaaGreatZClientLoops11
set_option maxHeartbeats 25600000
set_option maxRecDepth 100000
set_option linter.unusedVariables false
set_option linter.unusedSimpArgs false
namespace Go.Proofs.YtcpccikongbopaaGreat
namespace DerR
open Go.RowKit Ae DerP
theorem Dc {w:World} {B:Nat} {A:Option Addr} {l:L} (h:Rd w B A (bvs l)) (Z:0<l.length):∃b o,A=some ⟨b,o,none⟩/\b<B/\∀i (O:i<l.length),w.cell? ⟨b,o+i,none⟩=some (.int .u8 ((l[i]).toNat:Int)):=by
 obtain⟨b,o,M,Y,_⟩:=h.at_ (DT Z);refine⟨b,o,M,Y,fun i O=>?_⟩;obtain⟨b',o',e,_,X⟩:=h.at_ (DT O);rw[M] at e;injection e with e;injection e with e1 e2;subst e1 e2;exact X
theorem Gp {t:UInt8} {s:L} {m k:Nat} (h:lenR s=(m,k,true)) (M:m+k<=s.length):Bl t (t :: s)=some (((t :: s).drop (k+1)).take m,(t :: s).drop (k+1+m)):=by
 rw[Bl,h,if_pos ⟨rfl,rfl,M⟩]
 congr 2
 rw[List.drop_drop,show k+1+m=(k+m)+1 by omega]
 rfl
theorem CH {t:UInt8} {s:L} {m k:Nat} {ok:Bool} (h:lenR s=(m,k,ok)) (M:ok=false\/¬m+k<=s.length):Bl t (t :: s)=none:=by
 rw[Bl,h];refine if_neg fun O=>?_
 rcases M with rfl | M
 ·exact absurd O.2.1 (by simp)
 ·exact M O.2.2
theorem Hg (n k:Nat) (h:n<=65535) (hk:(szL n).length=k) (w:World):Calls Tryz.prog 130 #[.int .i64 (n:Int)] w fun e w'=>(∃g cap,e=.returned (.slice (some ⟨g,0,none⟩) k cap))/\Below w.heap.size w w':=by
 subst hk;exact(Nf n h w).mono fun e w' ⟨⟨g,cap,he,_⟩,M⟩=>⟨⟨g,cap,he⟩,M⟩
theorem Ea:∀w:World,(sizeOf 5).run Tryz.prog w=.ok 1 w:=fun w=>by kernel_rfl
theorem Mj {w O:World} {B g:Nat} {t:UInt8} {l:L} {A:Option Addr} {cap p m:Nat} (Y:l.length<=cap) (hs:Bl t l=some ((l.drop p).take m,l.drop (p+m))) (hf:p+m<=l.length)
  (Z:Rd w B A (bvs l)) (hb:Blk O g 115 #[.slice A l.length cap,.bool false]) (hg:w.grownBy O (some g)) (hB:B<=w.heap.size) (aa:B<=g) :
  Took w B g t (some l) (.returned (.slice (cutA A cap p) m (cap - p))) (O.setCell ⟨g,0,none⟩ (.slice (cutA A cap (p+m)) (l.length - (p+m)) (cap - (p+m)))):=by
 obtain⟨e1,e2⟩:=DB hs;have M:=Ar (p:=⟨g,0,none⟩) hg (.inl rfl) (.slice (cutA A cap (p+m)) (l.length - (p+m)) (cap - (p+m)));have hk:∀xs X,Rd w B X xs->Rd (O.setCell ⟨g,0,none⟩ (.slice (cutA A cap (p+m)) (l.length - (p+m)) (cap - (p+m)))) B X xs:=fun xs X h=>h.grown M hB (fun k hk=>by injection hk with hk;omega)
 have hlen:((l.drop p).take m).length=m:=by rw[List.length_take,List.length_drop];omega
 unfold Took;rw[e1,e2];simp only[Option.getD_some];refine⟨⟨cutA A cap p,cap - p,by rw[hlen],by rw[hlen];omega,hk _ _ (Wb (UJ Z p Y) m)⟩,⟨_,_,_,false,hb.set 0 _,rfl,by rw[List.length_drop],by omega,hk _ _ (UJ Z (p+m) Y)⟩,M⟩
theorem QL (B g:Nat) (A:Option Addr) (n cap:Nat) (t a x:UInt8) (r:L) (w:World) (X:Blk w g 115 #[.slice A n cap,.bool false]) (hn:n=(a :: x :: r).length) (hc:n<=cap) (hr:Rd w B A (bvs (a :: x :: r))) (hB:B<=w.heap.size) (Y:B<=g) (hu:n<=100000) (O:a≠t) :
  Calls Tryz.prog 82 #[.pointer (some ⟨g,0,none⟩),.int .u8 t.toNat] w (Took w B g t (some (a :: x :: r))):=by
 have h0:=X.c0;have h1:=X.c1;have f0:=X.frozen 0;have f1:=X.frozen 1;obtain⟨b,o,rfl,ab,M⟩:=Dc hr (by simp);have Z:=hn;simp only[List.length_cons] at Z;have c0:w.cell? ⟨b,o,none⟩=some (.int .u8 ((a).toNat:Int)):=M 0 (by simp);have E:=I ((Bu (Ph (s:=x :: r) O)).1);have q1:((a.toNat:Int)==(t.toNat:Int))=false:=by simp;exact fun e=>O (UInt8.toNat_inj.1 (by omega))
 have q2:((a.toNat:Int) != (t.toNat:Int))=true:=by simp;exact fun e=>O (UInt8.toNat_inj.1 (by omega))
 have af:(2:Int)<=(n:Int):=by omega
 have ae:(n:Int)<=100000:=by omega
 have g0:decide ((n:Int)<2)=false:=by simp only[decide_eq_false_iff_not];omega
 have HB:=I X;have HN:=I hn;have HC:=I hc;have HR:=I hr;have ad:=I hB;have aa:=I Y;clear X hn hc hr hB Y hu Z M;clear O;go_enter Tryz.func82,Tryz.ntmps82
 go_wp2
 go_ret;exact Cs HB.o E.o (World.grownBy.refl _ _)
theorem Ja (B g : Nat) (A : Option Addr) (n cap : Nat) (t x : UInt8) (r : L) (w : World) (X : Blk w g 115 #[.slice A n cap, .bool false]) (Z : n = (t :: x :: r).length) (hc : n <= cap) (hr : Rd w B A (bvs (t :: x :: r))) (hB : B <= w.heap.size) (Y : B <= g) (hu : n <= 100000) (ad : x.toNat < 128) (hf : x.toNat <= r.length) :
    Calls Tryz.prog 82 #[.pointer (some ⟨g,0,none⟩),.int .u8 t.toNat] w (Took w B g t (some (t :: x :: r))):=by
  have h0:=X.c0;have h1:=X.c1;have f0:=X.frozen 0;have f1:=X.frozen 1;obtain⟨b,o,rfl,ar,M⟩:=Dc hr (by simp);have aa:=Z;simp only[List.length_cons] at aa;have c0:w.cell? ⟨b,o,none⟩=some (.int .u8 ((t).toNat:Int)):=M 0 (by simp);have c1:w.cell? ⟨b,o+1,none⟩=some (.int .u8 ((x).toNat:Int)):=M 1 (by simp);have aj:=BI x;have ae:((x.toNat:Int)==129)=false:=by simp;omega
  have ai:((x.toNat:Int)==130)=false:=by simp;omega
  have q3:decide ((128:Int)<=(x.toNat:Int))=false:=by simp only[decide_eq_false_iff_not];omega
  have q4:decide ((n:Int) - 2<(x.toNat:Int))=false:=by simp only[decide_eq_false_iff_not];omega
  have ag:=I (fun W=>Hg (x.toNat) 1 (by omega) (by rw[Co];rw[if_pos (by omega)]) W);have au:(x.toNat:Int)<=65535:=by omega
  have HS:=I (Gp (t:=t) (Fz (r:=r) ad) (by simp only[List.length_cons];omega));have HF:=I (show 2+x.toNat<=(t :: x :: r).length by simp only[List.length_cons];omega);have ax:=Fq (P:=Tryz.prog) Tryz.underlying25 Ea (some ⟨b,o,none⟩) n cap (2+x.toNat) (2+(x.toNat:Int)) (by omega) (by omega);have ay:=Gd (P:=Tryz.prog) Tryz.underlying25 Ea (some ⟨b,o,none⟩) n cap 2 x.toNat 2 (2+(x.toNat:Int)) rfl rfl (by omega);have aw:(2:Int)<=(n:Int):=by omega
  have av:(n:Int)<=100000:=by omega
  have g0:decide ((n:Int)<2)=false:=by simp only[decide_eq_false_iff_not];omega
  have HB:=I X;have HN:=I Z;have HC:=I hc;have HR:=I hr;have ah:=I hB;have af:=I Y;clear X Z hc hr hB Y hu aa M;clear ad hf;go_enter Tryz.func82,Tryz.ntmps82
  go_wp2_with (go_at_call 130; refine (ag.o _).mono ?_; rintro e w1 ⟨⟨g1, ak, rfl⟩, ab⟩
               have O:=I (HB.o.below ab);have k0:=O.c0;have k1:=O.c1;have an:=O.o.frozen 0;have ao:=O.o.frozen 1)
  go_ret;have Z:=HN.o;subst Z;exact Mj HC.o HS.o HF.o HR.o O.o (BA ab _) ah.o af.o
theorem Jb (B g:Nat) (A:Option Addr) (n cap:Nat) (t x:UInt8) (r:L) (w:World) (O:Blk w g 115 #[.slice A n cap,.bool false]) (hn:n=(t :: x :: r).length) (hc:n<=cap) (hr:Rd w B A (bvs (t :: x :: r))) (hB:B<=w.heap.size) (X:B<=g) (hu:n<=100000) (Z:x.toNat<128) (hf:¬x.toNat<=r.length) :
  Calls Tryz.prog 82 #[.pointer (some ⟨g,0,none⟩),.int .u8 t.toNat] w (Took w B g t (some (t :: x :: r))):=by
 have h0:=O.c0;have h1:=O.c1;have f0:=O.frozen 0;have f1:=O.frozen 1;obtain⟨b,o,rfl,af,M⟩:=Dc hr (by simp);have Y:=hn;simp only[List.length_cons] at Y;have c0:w.cell? ⟨b,o,none⟩=some (.int .u8 ((t).toNat:Int)):=M 0 (by simp);have c1:w.cell? ⟨b,o+1,none⟩=some (.int .u8 ((x).toNat:Int)):=M 1 (by simp);have ad:=BI x;have aa:((x.toNat:Int)==129)=false:=by simp;omega
 have ab:((x.toNat:Int)==130)=false:=by simp;omega
 have q3:decide ((128:Int)<=(x.toNat:Int))=false:=by simp only[decide_eq_false_iff_not];omega
 have E:=I ((Bu (CH (t:=t) (Fz (r:=r) Z) (.inr (by simp only[List.length_cons];omega)))).1);have q4:decide ((n:Int) - 2<(x.toNat:Int))=true:=by simp only[decide_eq_true_eq];omega
 have ai:(2:Int)<=(n:Int):=by omega
 have ah:(n:Int)<=100000:=by omega
 have g0:decide ((n:Int)<2)=false:=by simp only[decide_eq_false_iff_not];omega
 have HB:=I O;have HN:=I hn;have HC:=I hc;have HR:=I hr;have ag:=I hB;have ae:=I X;clear O hn hc hr hB X hu Y M;clear Z hf;go_enter Tryz.func82,Tryz.ntmps82
 go_wp2
 go_ret;exact Cs HB.o E.o (World.grownBy.refl _ _)
theorem JX (B g:Nat) (A:Option Addr) (n cap:Nat) (t x:UInt8)  (w:World) (O:Blk w g 115 #[.slice A n cap,.bool false]) (hn:n=(t :: x :: []).length) (hc:n<=cap) (hr:Rd w B A (bvs (t :: x :: []))) (hB:B<=w.heap.size) (X:B<=g) (hu:n<=100000) (Z:x.toNat=129) :
  Calls Tryz.prog 82 #[.pointer (some ⟨g,0,none⟩),.int .u8 t.toNat] w (Took w B g t (some (t :: x :: []))):=by
 have h0:=O.c0;have h1:=O.c1;have f0:=O.frozen 0;have f1:=O.frozen 1;obtain⟨b,o,rfl,ag,M⟩:=Dc hr (by simp);have Y:=hn;simp only[List.length_cons,List.length_nil] at Y;have c0:w.cell? ⟨b,o,none⟩=some (.int .u8 ((t).toNat:Int)):=M 0 (by simp);have c1:w.cell? ⟨b,o+1,none⟩=some (.int .u8 ((x).toNat:Int)):=M 1 (by simp);have ad:=BI x;have aa:((x.toNat:Int)==129)=true:=by simp;omega
 have ab:((x.toNat:Int)==130)=false:=by simp;omega
 have q3:decide ((128:Int)<=(x.toNat:Int))=true:=by simp only[decide_eq_true_eq];omega
 have af:decide ((3:Int)<=(n:Int))=false:=by simp only[decide_eq_false_iff_not];omega
 have E:=I ((Bu (CH (t:=t) (EJ Z) (.inl rfl))).1);have aj:(2:Int)<=(n:Int):=by omega
 have ai:(n:Int)<=100000:=by omega
 have g0:decide ((n:Int)<2)=false:=by simp only[decide_eq_false_iff_not];omega
 have HB:=I O;have HN:=I hn;have HC:=I hc;have HR:=I hr;have ah:=I hB;have ae:=I X;clear O hn hc hr hB X hu Y M;clear Z;go_enter Tryz.func82,Tryz.ntmps82
 go_wp2
 go_ret;exact Cs HB.o E.o (World.grownBy.refl _ _)
theorem KT (B g:Nat) (A:Option Addr) (n cap:Nat) (t x:UInt8) (y:UInt8) (r:L) (w:World) (O:Blk w g 115 #[.slice A n cap,.bool false]) (hn:n=(t :: x :: y :: r).length) (hc:n<=cap) (hr:Rd w B A (bvs (t :: x :: y :: r))) (hB:B<=w.heap.size) (X:B<=g) (hu:n<=100000) (Z:x.toNat=129) (hf:¬y.toNat<=r.length) :
  Calls Tryz.prog 82 #[.pointer (some ⟨g,0,none⟩),.int .u8 t.toNat] w (Took w B g t (some (t :: x :: y :: r))):=by
 have h0:=O.c0;have h1:=O.c1;have f0:=O.frozen 0;have f1:=O.frozen 1;obtain⟨b,o,rfl,ai,M⟩:=Dc hr (by simp);have Y:=hn;simp only[List.length_cons] at Y;have c0:w.cell? ⟨b,o,none⟩=some (.int .u8 ((t).toNat:Int)):=M 0 (by simp);have c1:w.cell? ⟨b,o+1,none⟩=some (.int .u8 ((x).toNat:Int)):=M 1 (by simp);have af:(2:Int)<(n:Int):=by omega
 have c2:w.cell? ⟨b,o+2,none⟩=some (.int .u8 ((y).toNat:Int)):=M 2 (by simp);have aa:=BI y;have ae:=BI x;have ab:((x.toNat:Int)==129)=true:=by simp;omega
 have ad:((x.toNat:Int)==130)=false:=by simp;omega
 have q3:decide ((128:Int)<=(x.toNat:Int))=true:=by simp only[decide_eq_true_eq];omega
 have ah:decide ((3:Int)<=(n:Int))=true:=by simp only[decide_eq_true_eq];omega
 have E:=I ((Bu (CH (t:=t) (Gi (b:=y) (r:=r) Z) (.inr (by simp only[List.length_cons];omega)))).1);have q4:decide ((n:Int) - 3<(y.toNat:Int))=true:=by simp only[decide_eq_true_eq];omega
 have an:(2:Int)<=(n:Int):=by omega
 have ak:(n:Int)<=100000:=by omega
 have g0:decide ((n:Int)<2)=false:=by simp only[decide_eq_false_iff_not];omega
 have HB:=I O;have HN:=I hn;have HC:=I hc;have HR:=I hr;have aj:=I hB;have ag:=I X;clear O hn hc hr hB X hu Y M;clear Z hf;go_enter Tryz.func82,Tryz.ntmps82
 go_wp2
 go_ret;exact Cs HB.o E.o (World.grownBy.refl _ _)
theorem Jc (B g : Nat) (A : Option Addr) (n cap : Nat) (t x : UInt8) (y : UInt8) (r : L) (w : World) (X : Blk w g 115 #[.slice A n cap, .bool false]) (hn : n = (t :: x :: y :: r).length) (hc : n <= cap) (hr : Rd w B A (bvs (t :: x :: y :: r))) (hB : B <= w.heap.size) (Y : B <= g) (hu : n <= 100000) (ab : x.toNat = 129) (hf : y.toNat <= r.length) (hy : y.toNat < 128) :
    Calls Tryz.prog 82 #[.pointer (some ⟨g,0,none⟩),.int .u8 t.toNat] w (Took w B g t (some (t :: x :: y :: r))):=by
  have h0:=X.c0;have h1:=X.c1;have f0:=X.frozen 0;have f1:=X.frozen 1;obtain⟨b,o,rfl,ak,M⟩:=Dc hr (by simp);have Z:=hn;simp only[List.length_cons] at Z;have c0:w.cell? ⟨b,o,none⟩=some (.int .u8 ((t).toNat:Int)):=M 0 (by simp);have c1:w.cell? ⟨b,o+1,none⟩=some (.int .u8 ((x).toNat:Int)):=M 1 (by simp);have aj:(2:Int)<(n:Int):=by omega
  have c2:w.cell? ⟨b,o+2,none⟩=some (.int .u8 ((y).toNat:Int)):=M 2 (by simp);have ad:=BI y;have ah:=BI x;have ae:((x.toNat:Int)==129)=true:=by simp;omega
  have ag:((x.toNat:Int)==130)=false:=by simp;omega
  have q3:decide ((128:Int)<=(x.toNat:Int))=true:=by simp only[decide_eq_true_eq];omega
  have au:decide ((3:Int)<=(n:Int))=true:=by simp only[decide_eq_true_eq];omega
  have q4:decide ((n:Int) - 3<(y.toNat:Int))=false:=by simp only[decide_eq_false_iff_not];omega
  have af:=I (fun W=>Hg (y.toNat) 1 (by omega) (by rw[Co];rw[if_pos (by omega)]) W);have aw:(y.toNat:Int)<=65535:=by omega
  have E:=I ((Bu (CH (t:=t) (Gi (b:=y) (r:=r) ab) (.inl (by simp;omega)))).1);have ay:(2:Int)<=(n:Int):=by omega
  have ax:(n:Int)<=100000:=by omega
  have g0:decide ((n:Int)<2)=false:=by simp only[decide_eq_false_iff_not];omega
  have HB:=I X;have HN:=I hn;have HC:=I hc;have HR:=I hr;have av:=I hB;have ao:=I Y;clear X hn hc hr hB Y hu Z M;clear ab hf hy;go_enter Tryz.func82,Tryz.ntmps82
  go_wp2_with (go_at_call 130; refine (af.o _).mono ?_; rintro e w1 ⟨⟨g1, ai, rfl⟩, aa⟩
               have O:=I (HB.o.below aa);have k0:=O.c0;have k1:=O.c1;have an:=O.o.frozen 0;have ar:=O.o.frozen 1)
  go_ret;exact Cs O.o E.o (BA aa _)
theorem KU (B g : Nat) (A : Option Addr) (n cap : Nat) (t x : UInt8) (y : UInt8) (r : L) (w : World) (X : Blk w g 115 #[.slice A n cap, .bool false]) (Z : n = (t :: x :: y :: r).length) (hc : n <= cap) (hr : Rd w B A (bvs (t :: x :: y :: r))) (hB : B <= w.heap.size) (Y : B <= g) (hu : n <= 100000) (ad : x.toNat = 129) (hf : y.toNat <= r.length) (hy : ¬ y.toNat < 128) :
    Calls Tryz.prog 82 #[.pointer (some ⟨g,0,none⟩),.int .u8 t.toNat] w (Took w B g t (some (t :: x :: y :: r))):=by
  have h0:=X.c0;have h1:=X.c1;have f0:=X.frozen 0;have f1:=X.frozen 1;obtain⟨b,o,rfl,ax,M⟩:=Dc hr (by simp);have aa:=Z;simp only[List.length_cons] at aa;have c0:w.cell? ⟨b,o,none⟩=some (.int .u8 ((t).toNat:Int)):=M 0 (by simp);have c1:w.cell? ⟨b,o+1,none⟩=some (.int .u8 ((x).toNat:Int)):=M 1 (by simp);have ao:(2:Int)<(n:Int):=by omega
  have c2:w.cell? ⟨b,o+2,none⟩=some (.int .u8 ((y).toNat:Int)):=M 2 (by simp);have ae:=BI y;have ak:=BI x;have af:((x.toNat:Int)==129)=true:=by simp;omega
  have aj:((x.toNat:Int)==130)=false:=by simp;omega
  have q3:decide ((128:Int)<=(x.toNat:Int))=true:=by simp only[decide_eq_true_eq];omega
  have av:decide ((3:Int)<=(n:Int))=true:=by simp only[decide_eq_true_eq];omega
  have q4:decide ((n:Int) - 3<(y.toNat:Int))=false:=by simp only[decide_eq_false_iff_not];omega
  have ah:=I (fun W=>Hg (y.toNat) 2 (by omega) (by rw[Co];rw[if_neg (by omega),if_pos (by omega)]) W);have aw:(y.toNat:Int)<=65535:=by omega
  have HS:=I (Gp (t:=t) ((Gi (b:=y) (r:=r) ad).trans (by rw[decide_eq_true (show 128<=y.toNat by omega)])) (by simp only[List.length_cons];omega));have HF:=I (show 3+y.toNat<=(t :: x :: y :: r).length by simp only[List.length_cons];omega);have aB:=Fq (P:=Tryz.prog) Tryz.underlying25 Ea (some ⟨b,o,none⟩) n cap (3+y.toNat) (3+(y.toNat:Int)) (by omega) (by omega);have ay:=Gd (P:=Tryz.prog) Tryz.underlying25 Ea (some ⟨b,o,none⟩) n cap 3 y.toNat 3 (3+(y.toNat:Int)) rfl rfl (by omega);have aA:(2:Int)<=(n:Int):=by omega
  have az:(n:Int)<=100000:=by omega
  have g0:decide ((n:Int)<2)=false:=by simp only[decide_eq_false_iff_not];omega
  have HB:=I X;have HN:=I Z;have HC:=I hc;have HR:=I hr;have ai:=I hB;have ag:=I Y;clear X Z hc hr hB Y hu aa M;clear ad hf hy;go_enter Tryz.func82,Tryz.ntmps82
  go_wp2_with (go_at_call 130; refine (ah.o _).mono ?_; rintro e w1 ⟨⟨g1, an, rfl⟩, ab⟩
               have O:=I (HB.o.below ab);have k0:=O.c0;have k1:=O.c1;have ar:=O.o.frozen 0;have au:=O.o.frozen 1)
  go_ret;have Z:=HN.o;subst Z;exact Mj HC.o HS.o HF.o HR.o O.o (BA ab _) ai.o ag.o
theorem JY (B g:Nat) (A:Option Addr) (n cap:Nat) (t x:UInt8)  (w:World) (O:Blk w g 115 #[.slice A n cap,.bool false]) (hn:n=(t :: x :: []).length) (hc:n<=cap) (hr:Rd w B A (bvs (t :: x :: []))) (hB:B<=w.heap.size) (X:B<=g) (hu:n<=100000) (Z:x.toNat=130) :
  Calls Tryz.prog 82 #[.pointer (some ⟨g,0,none⟩),.int .u8 t.toNat] w (Took w B g t (some (t :: x :: []))):=by
 have h0:=O.c0;have h1:=O.c1;have f0:=O.frozen 0;have f1:=O.frozen 1;obtain⟨b,o,rfl,af,M⟩:=Dc hr (by simp);have Y:=hn;simp only[List.length_cons,List.length_nil] at Y;have c0:w.cell? ⟨b,o,none⟩=some (.int .u8 ((t).toNat:Int)):=M 0 (by simp);have c1:w.cell? ⟨b,o+1,none⟩=some (.int .u8 ((x).toNat:Int)):=M 1 (by simp);have ad:=BI x;have aa:((x.toNat:Int)==129)=false:=by simp;omega
 have ab:((x.toNat:Int)==130)=true:=by simp;omega
 have q3:decide ((128:Int)<=(x.toNat:Int))=true:=by simp only[decide_eq_true_eq];omega
 have ah:decide ((4:Int)<=(n:Int))=false:=by simp only[decide_eq_false_iff_not];omega
 have E:=I ((Bu (CH (t:=t) (EP Z) (.inl rfl))).1);have aj:(2:Int)<=(n:Int):=by omega
 have ai:(n:Int)<=100000:=by omega
 have g0:decide ((n:Int)<2)=false:=by simp only[decide_eq_false_iff_not];omega
 have HB:=I O;have HN:=I hn;have HC:=I hc;have HR:=I hr;have ag:=I hB;have ae:=I X;clear O hn hc hr hB X hu Y M;clear Z;go_enter Tryz.func82,Tryz.ntmps82
 go_wp2
 go_ret;exact Cs HB.o E.o (World.grownBy.refl _ _)
theorem JZ (B g:Nat) (A:Option Addr) (n cap:Nat) (t x:UInt8) (y:UInt8) (w:World) (O:Blk w g 115 #[.slice A n cap,.bool false]) (hn:n=(t :: x :: y :: []).length) (hc:n<=cap) (hr:Rd w B A (bvs (t :: x :: y :: []))) (hB:B<=w.heap.size) (X:B<=g) (hu:n<=100000) (Z:x.toNat=130) :
  Calls Tryz.prog 82 #[.pointer (some ⟨g,0,none⟩),.int .u8 t.toNat] w (Took w B g t (some (t :: x :: y :: []))):=by
 have h0:=O.c0;have h1:=O.c1;have f0:=O.frozen 0;have f1:=O.frozen 1;obtain⟨b,o,rfl,af,M⟩:=Dc hr (by simp);have Y:=hn;simp only[List.length_cons,List.length_nil] at Y;have c0:w.cell? ⟨b,o,none⟩=some (.int .u8 ((t).toNat:Int)):=M 0 (by simp);have c1:w.cell? ⟨b,o+1,none⟩=some (.int .u8 ((x).toNat:Int)):=M 1 (by simp);have ad:=BI x;have aa:((x.toNat:Int)==129)=false:=by simp;omega
 have ab:((x.toNat:Int)==130)=true:=by simp;omega
 have q3:decide ((128:Int)<=(x.toNat:Int))=true:=by simp only[decide_eq_true_eq];omega
 have ah:decide ((4:Int)<=(n:Int))=false:=by simp only[decide_eq_false_iff_not];omega
 have E:=I ((Bu (CH (t:=t) (EW (b:=y) Z) (.inl rfl))).1);have aj:(2:Int)<=(n:Int):=by omega
 have ai:(n:Int)<=100000:=by omega
 have g0:decide ((n:Int)<2)=false:=by simp only[decide_eq_false_iff_not];omega
 have HB:=I O;have HN:=I hn;have HC:=I hc;have HR:=I hr;have ag:=I hB;have ae:=I X;clear O hn hc hr hB X hu Y M;clear Z;go_enter Tryz.func82,Tryz.ntmps82
 go_wp2
 go_ret;exact Cs HB.o E.o (World.grownBy.refl _ _)
theorem KV (B g:Nat) (A:Option Addr) (n cap:Nat) (t x:UInt8) (y z:UInt8) (r:L) (w:World) (O:Blk w g 115 #[.slice A n cap,.bool false]) (hn:n=(t :: x :: y :: z :: r).length) (hc:n<=cap) (hr:Rd w B A (bvs (t :: x :: y :: z :: r))) (hB:B<=w.heap.size) (X:B<=g) (hu:n<=100000) (Z:x.toNat=130) (hf:¬y.toNat*256+z.toNat<=r.length) :
  Calls Tryz.prog 82 #[.pointer (some ⟨g,0,none⟩),.int .u8 t.toNat] w (Took w B g t (some (t :: x :: y :: z :: r))):=by
 have h0:=O.c0;have h1:=O.c1;have f0:=O.frozen 0;have f1:=O.frozen 1;obtain⟨b,o,rfl,aj,M⟩:=Dc hr (by simp);have Y:=hn;simp only[List.length_cons] at Y;have c0:w.cell? ⟨b,o,none⟩=some (.int .u8 ((t).toNat:Int)):=M 0 (by simp);have c1:w.cell? ⟨b,o+1,none⟩=some (.int .u8 ((x).toNat:Int)):=M 1 (by simp);have ah:(2:Int)<(n:Int):=by omega
 have ag:(3:Int)<(n:Int):=by omega
 have c2:w.cell? ⟨b,o+2,none⟩=some (.int .u8 ((y).toNat:Int)):=M 2 (by simp);have aa:=BI y;have c3:w.cell? ⟨b,o+3,none⟩=some (.int .u8 ((z).toNat:Int)):=M 3 (by simp);have ae:=BI z;have af:=BI x;have ab:((x.toNat:Int)==129)=false:=by simp;omega
 have ad:((x.toNat:Int)==130)=true:=by simp;omega
 have q3:decide ((128:Int)<=(x.toNat:Int))=true:=by simp only[decide_eq_true_eq];omega
 have an:decide ((4:Int)<=(n:Int))=true:=by simp only[decide_eq_true_eq];omega
 obtain⟨m,hm⟩:∃m:Nat,y.toNat*256+z.toNat=m:=⟨_,rfl⟩;have av:bits .or .i64 ((y.toNat:Int)*256) (z.toNat:Int)=(m:Int):=by rw[Hq y.toNat z.toNat z.toNat_lt (by omega)];omega
 have au:(0:Int)<=(m:Int):=by omega
 have E:=I ((Bu (CH (t:=t) (FA (b:=y) (c:=z) (r:=r) Z) (.inr (by simp only[List.length_cons];omega)))).1);have q4:decide ((n:Int) - 4<(m:Int))=true:=by simp only[decide_eq_true_eq];omega
 have ar:(2:Int)<=(n:Int):=by omega
 have ao:(n:Int)<=100000:=by omega
 have g0:decide ((n:Int)<2)=false:=by simp only[decide_eq_false_iff_not];omega
 have HB:=I O;have HN:=I hn;have HC:=I hc;have HR:=I hr;have ak:=I hB;have ai:=I X;clear O hn hc hr hB X hu Y M;clear Z hf;go_enter Tryz.func82,Tryz.ntmps82
 go_wp2
 go_quiet (fail)
 go_wp2
 go_ret;exact Cs (HB.o.drewN _) E.o (Fe (World.grownBy.refl _ _) _)
theorem KW (B g : Nat) (A : Option Addr) (n cap : Nat) (t x : UInt8) (y z : UInt8) (r : L) (w : World) (X : Blk w g 115 #[.slice A n cap, .bool false]) (hn : n = (t :: x :: y :: z :: r).length) (hc : n <= cap) (hr : Rd w B A (bvs (t :: x :: y :: z :: r))) (hB : B <= w.heap.size) (Z : B <= g) (hu : n <= 100000) (Y : x.toNat = 130) (hf : y.toNat * 256 + z.toNat <= r.length) (hy : y.toNat * 256 + z.toNat < 128) :
    Calls Tryz.prog 82 #[.pointer (some ⟨g,0,none⟩),.int .u8 t.toNat] w (Took w B g t (some (t :: x :: y :: z :: r))):=by
  have h0:=X.c0;have h1:=X.c1;have f0:=X.frozen 0;have f1:=X.frozen 1;obtain⟨b,o,rfl,av,M⟩:=Dc hr (by simp);have aa:=hn;simp only[List.length_cons] at aa;have c0:w.cell? ⟨b,o,none⟩=some (.int .u8 ((t).toNat:Int)):=M 0 (by simp);have c1:w.cell? ⟨b,o+1,none⟩=some (.int .u8 ((x).toNat:Int)):=M 1 (by simp);have an:(2:Int)<(n:Int):=by omega
  have ak:(3:Int)<(n:Int):=by omega
  have c2:w.cell? ⟨b,o+2,none⟩=some (.int .u8 ((y).toNat:Int)):=M 2 (by simp);have af:=BI y;have c3:w.cell? ⟨b,o+3,none⟩=some (.int .u8 ((z).toNat:Int)):=M 3 (by simp);have ae:=BI z;have ai:=BI x;have ag:((x.toNat:Int)==129)=false:=by simp;omega
  have ah:((x.toNat:Int)==130)=true:=by simp;omega
  have q3:decide ((128:Int)<=(x.toNat:Int))=true:=by simp only[decide_eq_true_eq];omega
  have ax:decide ((4:Int)<=(n:Int))=true:=by simp only[decide_eq_true_eq];omega
  obtain⟨m,hm⟩:∃m:Nat,y.toNat*256+z.toNat=m:=⟨_,rfl⟩;have aC:bits .or .i64 ((y.toNat:Int)*256) (z.toNat:Int)=(m:Int):=by rw[Hq y.toNat z.toNat z.toNat_lt (by omega)];omega
  have ay:(0:Int)<=(m:Int):=by omega
  have q4:decide ((n:Int) - 4<(m:Int))=false:=by simp only[decide_eq_false_iff_not];omega
  have ad:=I (fun W=>Hg (m) 1 (by omega) (by rw[Co];rw[if_pos (by omega)]) W);have az:(m:Int)<=65535:=by omega
  have E:=I ((Bu (CH (t:=t) (FA (b:=y) (c:=z) (r:=r) Y) (.inl (by simp;omega)))).1);have aB:(2:Int)<=(n:Int):=by omega
  have aA:(n:Int)<=100000:=by omega
  have g0:decide ((n:Int)<2)=false:=by simp only[decide_eq_false_iff_not];omega
  have HB:=I X;have HN:=I hn;have HC:=I hc;have HR:=I hr;have aw:=I hB;have ar:=I Z;clear X hn hc hr hB Z hu aa M;clear Y hf hy;go_enter Tryz.func82,Tryz.ntmps82
  go_wp2
  go_quiet (fail)
  go_wp2_with (go_at_call 130; refine (ad.o _).mono ?_; rintro e w1 ⟨⟨g1, aj, rfl⟩, ab⟩
               have O:=I ((HB.o.drewN _).below ab);have k0:=O.c0;have k1:=O.c1;have ao:=O.o.frozen 0;have au:=O.o.frozen 1)
  go_ret;exact Cs O.o E.o (BA ((below_drewN Ag _).trans ab) _)
theorem KX (B g : Nat) (A : Option Addr) (n cap : Nat) (t x : UInt8) (y z : UInt8) (r : L) (w : World) (X : Blk w g 115 #[.slice A n cap, .bool false]) (hn : n = (t :: x :: y :: z :: r).length) (hc : n <= cap) (hr : Rd w B A (bvs (t :: x :: y :: z :: r))) (hB : B <= w.heap.size) (Z : B <= g) (hu : n <= 100000) (Y : x.toNat = 130) (hf : y.toNat * 256 + z.toNat <= r.length) (hy : ¬ y.toNat * 256 + z.toNat < 128) (ai : y.toNat * 256 + z.toNat <= 255) :
    Calls Tryz.prog 82 #[.pointer (some ⟨g,0,none⟩),.int .u8 t.toNat] w (Took w B g t (some (t :: x :: y :: z :: r))):=by
  have h0:=X.c0;have h1:=X.c1;have f0:=X.frozen 0;have f1:=X.frozen 1;obtain⟨b,o,rfl,aw,M⟩:=Dc hr (by simp);have aa:=hn;simp only[List.length_cons] at aa;have c0:w.cell? ⟨b,o,none⟩=some (.int .u8 ((t).toNat:Int)):=M 0 (by simp);have c1:w.cell? ⟨b,o+1,none⟩=some (.int .u8 ((x).toNat:Int)):=M 1 (by simp);have ao:(2:Int)<(n:Int):=by omega
  have an:(3:Int)<(n:Int):=by omega
  have c2:w.cell? ⟨b,o+2,none⟩=some (.int .u8 ((y).toNat:Int)):=M 2 (by simp);have af:=BI y;have c3:w.cell? ⟨b,o+3,none⟩=some (.int .u8 ((z).toNat:Int)):=M 3 (by simp);have ae:=BI z;have aj:=BI x;have ag:((x.toNat:Int)==129)=false:=by simp;omega
  have ah:((x.toNat:Int)==130)=true:=by simp;omega
  have q3:decide ((128:Int)<=(x.toNat:Int))=true:=by simp only[decide_eq_true_eq];omega
  have ay:decide ((4:Int)<=(n:Int))=true:=by simp only[decide_eq_true_eq];omega
  obtain⟨m,hm⟩:∃m:Nat,y.toNat*256+z.toNat=m:=⟨_,rfl⟩;have aD:bits .or .i64 ((y.toNat:Int)*256) (z.toNat:Int)=(m:Int):=by rw[Hq y.toNat z.toNat z.toNat_lt (by omega)];omega
  have az:(0:Int)<=(m:Int):=by omega
  have q4:decide ((n:Int) - 4<(m:Int))=false:=by simp only[decide_eq_false_iff_not];omega
  have ad:=I (fun W=>Hg (m) 2 (by omega) (by rw[Co];rw[if_neg (by omega),if_pos (by omega)]) W);have aA:(m:Int)<=65535:=by omega
  have E:=I ((Bu (CH (t:=t) (FA (b:=y) (c:=z) (r:=r) Y) (.inl (by simp;omega)))).1);have aC:(2:Int)<=(n:Int):=by omega
  have aB:(n:Int)<=100000:=by omega
  have g0:decide ((n:Int)<2)=false:=by simp only[decide_eq_false_iff_not];omega
  have HB:=I X;have HN:=I hn;have HC:=I hc;have HR:=I hr;have ax:=I hB;have au:=I Z;clear X hn hc hr hB Z hu aa M;clear Y hf hy ai;go_enter Tryz.func82,Tryz.ntmps82
  go_wp2
  go_quiet (fail)
  go_wp2_with (go_at_call 130; refine (ad.o _).mono ?_; rintro e w1 ⟨⟨g1, ak, rfl⟩, ab⟩
               have O:=I ((HB.o.drewN _).below ab);have k0:=O.c0;have k1:=O.c1;have ar:=O.o.frozen 0;have av:=O.o.frozen 1)
  go_ret;exact Cs O.o E.o (BA ((below_drewN Ag _).trans ab) _)
theorem KY (B g : Nat) (A : Option Addr) (n cap : Nat) (t x : UInt8) (y z : UInt8) (r : L) (w : World) (X : Blk w g 115 #[.slice A n cap, .bool false]) (Y : n = (t :: x :: y :: z :: r).length) (hc : n <= cap) (hr : Rd w B A (bvs (t :: x :: y :: z :: r))) (hB : B <= w.heap.size) (aa : B <= g) (hu : n <= 100000) (Z : x.toNat = 130) (hf : y.toNat * 256 + z.toNat <= r.length) (hy : ¬ y.toNat * 256 + z.toNat <= 255) :
    Calls Tryz.prog 82 #[.pointer (some ⟨g,0,none⟩),.int .u8 t.toNat] w (Took w B g t (some (t :: x :: y :: z :: r))):=by
  have h0:=X.c0;have h1:=X.c1;have f0:=X.frozen 0;have f1:=X.frozen 1;obtain⟨b,o,rfl,ax,M⟩:=Dc hr (by simp);have ab:=Y;simp only[List.length_cons] at ab;have c0:w.cell? ⟨b,o,none⟩=some (.int .u8 ((t).toNat:Int)):=M 0 (by simp);have c1:w.cell? ⟨b,o+1,none⟩=some (.int .u8 ((x).toNat:Int)):=M 1 (by simp);have au:(2:Int)<(n:Int):=by omega
  have ar:(3:Int)<(n:Int):=by omega
  have c2:w.cell? ⟨b,o+2,none⟩=some (.int .u8 ((y).toNat:Int)):=M 2 (by simp);have ai:=BI y;have c3:w.cell? ⟨b,o+3,none⟩=some (.int .u8 ((z).toNat:Int)):=M 3 (by simp);have ah:=BI z;have an:=BI x;have aj:((x.toNat:Int)==129)=false:=by simp;omega
  have ak:((x.toNat:Int)==130)=true:=by simp;omega
  have q3:decide ((128:Int)<=(x.toNat:Int))=true:=by simp only[decide_eq_true_eq];omega
  have ay:decide ((4:Int)<=(n:Int))=true:=by simp only[decide_eq_true_eq];omega
  obtain⟨m,hm⟩:∃m:Nat,y.toNat*256+z.toNat=m:=⟨_,rfl⟩;have aF:bits .or .i64 ((y.toNat:Int)*256) (z.toNat:Int)=(m:Int):=by rw[Hq y.toNat z.toNat z.toNat_lt (by omega)];omega
  have aA:(0:Int)<=(m:Int):=by omega
  have q4:decide ((n:Int) - 4<(m:Int))=false:=by simp only[decide_eq_false_iff_not];omega
  have af:=I (fun W=>Hg (m) 3 (by omega) (by rw[Co];rw[if_neg (by omega),if_neg (by omega)]) W);have aC:(m:Int)<=65535:=by omega
  have HS:=I (Gp (t:=t) ((FA (b:=y) (c:=z) (r:=r) Z).trans (by rw[hm,decide_eq_true (show 255<m by omega)])) (by simp only[List.length_cons];omega));have HF:=I (show 4+m<=(t :: x :: y :: z :: r).length by simp only[List.length_cons];omega);have az:=Fq (P:=Tryz.prog) Tryz.underlying25 Ea (some ⟨b,o,none⟩) n cap (4+m) (4+(m:Int)) (by omega) (by omega);have aB:=Gd (P:=Tryz.prog) Tryz.underlying25 Ea (some ⟨b,o,none⟩) n cap 4 m 4 (4+(m:Int)) rfl rfl (by omega);have aE:(2:Int)<=(n:Int):=by omega
  have aD:(n:Int)<=100000:=by omega
  have g0:decide ((n:Int)<2)=false:=by simp only[decide_eq_false_iff_not];omega
  have HB:=I X;have HN:=I Y;have HC:=I hc;have HR:=I hr;have ag:=I hB;have ae:=I aa;clear X Y hc hr hB aa hu ab M;clear Z hf hy;go_enter Tryz.func82,Tryz.ntmps82
  go_wp2
  go_quiet (fail)
  go_wp2_with (go_at_call 130; refine (af.o _).mono ?_; rintro e w1 ⟨⟨g1, ao, rfl⟩, ad⟩
               have O:=I ((HB.o.drewN _).below ad);have k0:=O.c0;have k1:=O.c1;have av:=O.o.frozen 0;have aw:=O.o.frozen 1)
  go_ret;have Y:=HN.o;subst Y;exact Mj HC.o HS.o HF.o HR.o O.o (BA ((below_drewN Ag _).trans ad) _) ag.o ae.o
theorem OB (B g:Nat) (A:Option Addr) (n cap:Nat) (t x:UInt8) (r:L) (w:World) (O:Blk w g 115 #[.slice A n cap,.bool false]) (hn:n=(t :: x :: r).length) (hc:n<=cap) (hr:Rd w B A (bvs (t :: x :: r))) (hB:B<=w.heap.size) (X:B<=g) (hu:n<=100000) (ab:¬x.toNat<128) (aa:¬x.toNat=129) (Y:¬x.toNat=130) :
  Calls Tryz.prog 82 #[.pointer (some ⟨g,0,none⟩),.int .u8 t.toNat] w (Took w B g t (some (t :: x :: r))):=by
 have h0:=O.c0;have h1:=O.c1;have f0:=O.frozen 0;have f1:=O.frozen 1;obtain⟨b,o,rfl,ah,M⟩:=Dc hr (by simp);have Z:=hn;simp only[List.length_cons] at Z;have c0:w.cell? ⟨b,o,none⟩=some (.int .u8 ((t).toNat:Int)):=M 0 (by simp);have c1:w.cell? ⟨b,o+1,none⟩=some (.int .u8 ((x).toNat:Int)):=M 1 (by simp);have af:=BI x;have ad:((x.toNat:Int)==129)=false:=by simp;omega
 have ae:((x.toNat:Int)==130)=false:=by simp;omega
 have q3:decide ((128:Int)<=(x.toNat:Int))=true:=by simp only[decide_eq_true_eq];omega
 have E:=I ((Bu (CH (t:=t) (Ip (r:=r) ab aa Y) (.inl rfl))).1);have ak:(2:Int)<=(n:Int):=by omega
 have aj:(n:Int)<=100000:=by omega
 have g0:decide ((n:Int)<2)=false:=by simp only[decide_eq_false_iff_not];omega
 have HB:=I O;have HN:=I hn;have HC:=I hc;have HR:=I hr;have ai:=I hB;have ag:=I X;clear O hn hc hr hB X hu Z M;clear ab aa Y;go_enter Tryz.func82,Tryz.ntmps82
 go_wp2
 go_ret;exact Cs HB.o E.o (World.grownBy.refl _ _)
theorem Fs (t:UInt8) (B g:Nat) (w:World) (c:Option L) (h:RC w B g c) (hB:B<=w.heap.size) (O:B<=g) (hu:(c.getD []).length<=100000) :
  Calls Tryz.prog 82 #[.pointer (some ⟨g,0,none⟩),.int .u8 t.toNat] w (Took w B g t c):=by
 cases c with
 |none=>exact OA t B g w h
 |some l=>
  obtain⟨A,n,cap,e,Z,rfl,X,hc,Y⟩:=h;rw[Option.getD_some] at hu
  match l,X,Y,hu with
  | [],X,Y,hu=>subst X;exact IN t B g A cap [] w Z (by simp)
  | [a],X,Y,hu=>subst X;exact IN t B g A cap [a] w Z (by simp)
  |a :: x :: r,X,Y,hu=>
   have M:n<=100000:=by rw[X];exact hu
   by_cases hne:a=t
   ·subst hne
    by_cases h1:x.toNat<128
    ·by_cases hf:x.toNat<=r.length
     ·exact Ja B g A n cap a x r w Z X hc Y hB O M h1 hf
     ·exact Jb B g A n cap a x r w Z X hc Y hB O M h1 hf
    ·by_cases h2:x.toNat=129
     ·match r,X,Y with
      | [],X,Y=>exact JX B g A n cap a x w Z X hc Y hB O M h2
      |y :: q,X,Y=>
       by_cases hf:y.toNat<=q.length
       ·by_cases hy:y.toNat<128
        ·exact Jc B g A n cap a x y q w Z X hc Y hB O M h2 hf hy
        ·exact KU B g A n cap a x y q w Z X hc Y hB O M h2 hf hy
       ·exact KT B g A n cap a x y q w Z X hc Y hB O M h2 hf
     ·by_cases h3:x.toNat=130
      ·match r,X,Y with
       | [],X,Y=>exact JY B g A n cap a x w Z X hc Y hB O M h3
       | [y],X,Y=>exact JZ B g A n cap a x y w Z X hc Y hB O M h3
       |y :: z :: q,X,Y=>
        by_cases hf:y.toNat*256+z.toNat<=q.length
        ·by_cases hy:y.toNat*256+z.toNat<=255
         ·by_cases hy1:y.toNat*256+z.toNat<128
          ·exact KW B g A n cap a x y z q w Z X hc Y hB O M h3 hf hy1
          ·exact KX B g A n cap a x y z q w Z X hc Y hB O M h3 hf hy1 hy
         ·exact KY B g A n cap a x y z q w Z X hc Y hB O M h3 hf hy
        ·exact KV B g A n cap a x y z q w Z X hc Y hB O M h3 hf
      ·exact OB B g A n cap a x r w Z X hc Y hB O M h1 h2 h3
   ·exact QL B g A n cap t a x r w Z X hc Y hB O M hne
open Reg
def Ints (w:World) (B g:Nat) (c:Option L) (e:Ending) (w':World):Prop:=
 e=.returned (.int .i64 ((intC c).1:Int))/\RC w' B g (intC c).2/\w.grownBy w' (some g)
theorem QM {c:Option L} (h:Az 2 c=none\/∃p,Az 2 c=some p/\numL p=none):intC c=(0,none):=by
 rcases h with h | ⟨p,h,M⟩
 ·simp [intC,h]
 ·simp [intC,h,M]
theorem GB {w0 w:World} {B g:Nat} {c:Option L} {A:Option Addr} {n cap:Nat} {e:Bool} (M:Blk w g 115 #[.slice A n cap,.bool e]) (h:Az 2 c=none\/∃p,Az 2 c=some p/\numL p=none) (O:w0.grownBy w (some g)) :
  Ints w0 B g c (.returned (.int .i64 0)) (w.setCell ⟨g,1,none⟩ (.bool true)):=by
 unfold Ints;rw[QM h];exact⟨rfl,⟨A,n,cap,true,M.set 1 (.bool true),rfl⟩,Ar O (.inl rfl) _⟩
theorem QN (B g : Nat) (c : Option L) (w : World) (h : RC w B g c) (hB : B <= w.heap.size) (O : B <= g) (hu : (c.getD []).length <= 100000) (hn : Az 2 c = none) :
    Calls Tryz.prog 42 #[.pointer (some ⟨g,0,none⟩)] w (Ints w B g c):=by
  have HT:=I (Fs 2 B g w c h hB O hu);have HN:=I hn;clear h hB O hu hn;go_enter Tryz.func42,Tryz.ntmps42
  go_wp2_with (go_at_call 82; refine HT.o.mono ?_; rintro e w1 ⟨⟨A', aa, rfl, X, Z⟩, M, hg⟩
               rw[Gj 2 c HN.o] at M;obtain⟨A,n,cap,e,Y,rfl⟩:=M;have HB:=I Y;have h1:=Y.c1;have f1:=Y.frozen 1;clear Y X Z)
  go_ret;exact GB HB.o (.inl HN.o) hg
theorem Ju (B g:Nat) (c:Option L) (w:World) (h:RC w B g c) (hB:B<=w.heap.size) (Z:B<=g) (hu:(c.getD []).length<=100000) (p r:L) (hp:Az 2 c=some p) (hr:AR 2 c=some r) :
  Calls Tryz.prog 82 #[.pointer (some ⟨g,0,none⟩),.int .u8 2] w fun e w'=>
   (∃Y M A n cap,e=.returned (.slice Y p.length M)/\Rd w' B Y (bvs p)/\Blk w' g 115 #[.slice A n cap,.bool false]/\RS w' B A n cap false (some r))/\w.grownBy w' (some g):=by
 refine(Fs 2 B g w c h hB Z hu).mono ?_;rintro e w' ⟨⟨Y,M,rfl,_,O⟩,X,hg⟩;rw[hp] at O;rw[hr] at X;obtain⟨A,n,cap,e,hb,rfl,h2⟩:=X;rw[hp];exact⟨⟨Y,M,A,n,cap,rfl,O,hb,rfl,h2⟩,hg⟩
theorem Ts (B g : Nat) (c : Option L) (w : World) (h : RC w B g c) (hB : B <= w.heap.size) (O : B <= g) (hu : (c.getD []).length <= 100000) (p r : L) (Z : Az 2 c = some p) (hr : AR 2 c = some r) (hn : numL p = none) (M : p.length = 0 \/ 9 < p.length) :
    Calls Tryz.prog 42 #[.pointer (some ⟨g,0,none⟩)] w (Ints w B g c):=by
  have HT:=I (Ju B g c w h hB O hu p r Z hr);have HN:=I (show Az 2 c=none\/∃p,Az 2 c=some p/\numL p=none from .inr ⟨p,Z,hn⟩);have go : ∀ b1 b2 : Bool, ((p.length : Int) == 0) = b1 -> decide ((9 : Int) < (p.length : Int)) = b2 -> (b1 || b2) = true ->
      Calls Tryz.prog 42 #[.pointer (some ⟨g,0,none⟩)] w (Ints w B g c):=by
    intro b1 b2 g1 g2 X;clear h hB O hu hn Z hr M;cases b1<;>cases b2<;>first
      |(exact(Bool.false_ne_true X).elim)
      | (clear X
         go_enter Tryz.func42,Tryz.ntmps42
         go_wp2_with (go_at_call 82; refine HT.o.mono ?_; rintro e w1 ⟨⟨A', ad, A, n, cap, rfl, aa, Y, ab⟩, hg⟩
                      have HB:=I Y;have h1:=Y.c1;have f1:=Y.frozen 1;clear Y ab aa)
         go_ret;exact GB HB.o HN.o hg)
  refine go _ _ rfl rfl ?_;rcases M with M | M
  · simp [M]
  · simp; omega
theorem Jd {p:L} (h:numL p≠none) (i:Nat):val (p.take i)<9223372036854775808:=by
 cases p with
 |nil=>exact absurd rfl h
 |cons a r=>
  by_cases hc:7<r.length\/128<=a.toNat
  ·exact absurd (EE (.inl hc)) h
  ·exact Io (by omega) (by omega) i
theorem Ng (x y:Int) : -9223372036854775808<=bits .or .i64 x y/\bits .or .i64 x y<=9223372036854775807:=by
 show -9223372036854775808<=IntKind.i64.wrap _/\IntKind.i64.wrap _<=9223372036854775807;rw[IntKind.wrap_i64];omega
theorem OC {p:L} {v:Int} (X:p.length<=65535) (M:0<=v) (O:v<=4611686018427387904) (h:encI v=elem 2 p):numL p=some v.toNat:=by
 have e:=Mx (t:=2) (p:=dig (Ch v)) (q:=p) (r1:=[]) (r2:=[]) (by have:=Hy v;omega) X (by rw[List.append_nil,List.append_nil];exact h);rw[<-e.1,Pb _ (Ey v),Im v M O]
theorem QO (B g : Nat) (c : Option L) (w : World) (h : RC w B g c) (hB : B <= w.heap.size) (ai : B <= g) (hu : (c.getD []).length <= 100000) (p r : L) (hp : Az 2 c = some p) (hr : AR 2 c = some r) (ax : p.length ≠ 0) (hl : p.length <= 9) :
    Calls Tryz.prog 42 #[.pointer (some ⟨g,0,none⟩)] w (Ints w B g c):=by
  have HT:=I (Ju B g c w h hB ai hu p r hp hr);have HP:=I hp;have aG:=I hr;have aa:=I hB;have aL:=I ai;have HL:=I hl;have g1:((p.length:Int)==0)=false:=by simp only[beq_eq_false_iff_ne,ne_eq];omega
  have g2:decide ((9:Int)<(p.length:Int))=false:=by simp;omega
  have aP:(p.length:Int)<=9:=by omega
  clear h hB ai hu hp hr ax hl;go_enter Tryz.func42,Tryz.ntmps42
  go_wp2_with (go_at_call 82; refine HT.o.mono ?_; rintro e w1 ⟨⟨A', X, A, n, cap, rfl, ak, hb, ar⟩, hg⟩
               have HB:=I hb;have ah:=I ak;have af:=I ar;have h1:=hb.c1;have f1:=hb.frozen 1;clear hb ar ak)
  go_loop [4,5] (fun nv i=>∃(j:Nat) (v:Int),j<=p.length/\i=.int .i64 (j:Int)/\nv=.int .i64 v/\-9223372036854775808<=v/\v<=9223372036854775807/\(numL p≠none->v=(val (p.take j):Int))) (fun _ i=>p.length - (intOf i).toNat)
  case atStart=>exact⟨0,0,by omega,rfl,rfl,by omega,by omega,fun _=>by simp [val]⟩
  case round=>
    obtain⟨j,v,hj,rfl,rfl,aK,aO,ag⟩:=hrel;have HV:=I ag;clear ag
    by_cases hlt:j<p.length
    · obtain ⟨b, o, rfl, aM, Z⟩ := ah.o.at_ (DT hlt)
      have aC:w1.cell? ⟨b,o+j,none⟩=some (.int .u8 ((p[j]).toNat:Int)):=Z;have av:=BI p[j];have aE:=I (Ed p j hlt);have aw:=I (Jd (p:=p));have au:=I (p[j]).toNat_lt;clear Z
      go_wp2
      refine⟨⟨j+1,_,by omega,by go_num,rfl,(Ng _ _).1,(Ng _ _).2,fun aj=>?_⟩,by simp [intOf];omega⟩;have e1:=HV.o aj;have e2:=aw.o aj (j+1);have e3:=aE.o;rw[e3] at e2⊢;have e4:=Hq (val (p.take j)) (p[j]).toNat au.o (by omega);have e5:wrap64 (v*256)=((val (p.take j):Nat):Int)*256:=by
        rw[e1];exact IntWalk.wrap64_in _ (by omega)
      rw[e5,e4];omega
    · obtain rfl : j = p.length := by omega
      clear hj hlt;rw[List.take_length] at HV
      by_cases hneg:v<0
      · have g3 : decide (v < 0) = true := by simp only [decide_eq_true_eq]; omega
        have HN:=I (show Az 2 c=none\/∃p,Az 2 c=some p/\numL p=none from .inr ⟨p,HP.o,by
          cases hx:numL p with
          |none=>rfl
          |some y=>have:=HV.o (by rw[hx];simp);omega⟩)
        clear hneg
        go_wp2
        go_quiet (fail)
        go_wp2
        go_ret;exact GB (HB.o.drewN _) HN.o (Fe hg _)
      · have g3 : decide (v < 0) = false := by simp only [decide_eq_false_iff_not]; omega
        by_cases hbig:4611686018427387904<v
        · have g4 : decide (4611686018427387904 < v) = true := by simp only [decide_eq_true_eq]; omega
          have HN:=I (show Az 2 c=none\/∃p,Az 2 c=some p/\numL p=none from .inr ⟨p,HP.o,by
            cases hx:numL p with
            |none=>rfl
            |some y=>have:=HV.o (by rw[hx];simp);have:=(EI hx).1;have:=(EI hx).2.1;omega⟩)
          clear hneg hbig
          go_wp2
          go_quiet (fail)
          go_wp2
          go_ret;exact GB (HB.o.drewN _) HN.o (Fe hg _)
        · have g4 : decide (4611686018427387904 < v) = false := by simp only [decide_eq_false_iff_not]; omega
          by_cases heq:encI v=elem 2 p
          · have ao := I heq
            have an:=I (OC (by have:=HL.o;omega) (by omega) (by omega) heq);have ay:=I (show ¬v<0 from hneg);clear heq
            go_wp2
            refine Be 15 rfl (by kernel_rfl) ?_;refine Reg.tz 0 rfl ?_;refine Reg.tz 1 rfl ?_;refine Reg.tz 2 rfl ?_;refine Reg.tz 3 rfl ?_;refine Reg.tz 4 rfl ?_;refine Reg.tz 5 rfl ?_;refine Reg.tz 6 rfl ?_;refine Reg.tz 7 rfl ?_;refine Reg.tz 10 rfl ?_;refine Cj 8 rfl (by kernel_rfl) (by rfl) 75 #[.int .i64 v] (by go_simp) ?_;refine Calls.mono (DerR.Bt v w1.drew) ?_;rintro e w2 ⟨⟨q2,d2,rfl,aA,aD,M⟩,ad⟩;refine⟨_,rfl,ad,?_⟩;have ab:=I M;have B2:Below w1.heap.size w1 w2:=bt Ag.drew ad;clear M;simp only[Act.put,J,U,Aa];refine Reg.tx 9 rfl (fun w' hS=>by have hh:=Gy (P:=Tryz.prog) Tryz.underlying25 Tryz.underlying5 Tryz.underlying9 (n:=(encI v).length) (c:=d2) ab.o Af rfl w' hS;go_simp;rfl) ?_;refine Cj 11 rfl (by kernel_rfl) (by rfl) 85 #[.int .u8 2,.slice A' p.length X] (by go_simp) ?_;refine Calls.mono (DerR.Eo 2 p A' p.length X B w2 (ah.o.below (B2.mono (Nat.le_trans aa.o hg.size))) rfl (Nat.le_trans (Nat.le_trans aa.o hg.size) B2.size) (by have:=HL.o;omega)) ?_;rintro e w3 ⟨⟨q3,d3,rfl,aF,az,O⟩,ae⟩;refine⟨_,rfl,ae,?_⟩;have Y:=I O;have B3:Below w1.heap.size w1 w3:=bt B2 ae;clear O;rw[<-ao.o] at Y;rw[<-ao.o];simp only[Act.put,J,U,Aa];refine Reg.tx 12 rfl (fun w' hS=>by have hh:=Gy (P:=Tryz.prog) Tryz.underlying25 Tryz.underlying5 Tryz.underlying9 (n:=(encI v).length) (c:=d3) Y.o Af rfl w' hS;go_simp;rfl) ?_;refine Reg.tz 13 rfl ?_;refine Reg.tz 14 rfl ?_;refine wpAnyH_done (by kernel_rfl) ?_ _;have aC:=af.o;have aB:w3.cell? ⟨g,1,none⟩=some (.bool false):=(HB.o.below B3).cell 1
            go_wp2
            go_ret;have hI:intC c=(v.toNat,some r):=by simp only[intC,HP.o,an.o,aG.o]
            unfold Ints;rw[hI];have aJ:=ay.o;have aH:((v.toNat:Nat):Int)=v:=by omega
            exact⟨by show Ending.returned (.int .i64 v)=.returned (.int .i64 ((v.toNat:Nat):Int));rw[aH],⟨A,n,cap,false,HB.o.below B3,rfl,af.o.2.1,af.o.2.2.1,af.o.2.2.2.below (B3.mono (Nat.le_trans aa.o hg.size))⟩,Gl hg B3⟩
          · have aN := I heq
            have HN:=I (show Az 2 c=none\/∃p,Az 2 c=some p/\numL p=none from .inr ⟨p,HP.o,by
              cases hx:numL p with
              |none=>rfl
              |some y=>
                have e1:=HV.o (by rw[hx];simp);obtain⟨e2,e3,_⟩:=EI hx;refine absurd ?_ heq;rw[encI,Im v (by omega) (by omega),show v.toNat=y by omega,Va hx]⟩)
            have aI:(encI v==elem 2 p)=false:=by simp only[beq_eq_false_iff_ne,ne_eq];exact heq
            clear heq
            go_wp2
            refine Be 15 rfl (by kernel_rfl) ?_;refine Reg.tz 0 rfl ?_;refine Reg.tz 1 rfl ?_;refine Reg.tz 2 rfl ?_;refine Reg.tz 3 rfl ?_;refine Reg.tz 4 rfl ?_;refine Reg.tz 5 rfl ?_;refine Reg.tz 6 rfl ?_;refine Reg.tz 7 rfl ?_;refine Reg.tz 10 rfl ?_;refine Cj 8 rfl (by kernel_rfl) (by rfl) 75 #[.int .i64 v] (by go_simp) ?_;refine Calls.mono (DerR.Bt v w1.drew) ?_;rintro e w2 ⟨⟨q2,d2,rfl,aA,aD,M⟩,ad⟩;refine⟨_,rfl,ad,?_⟩;have ab:=I M;have B2:Below w1.heap.size w1 w2:=bt Ag.drew ad;clear M;simp only[Act.put,J,U,Aa];refine Reg.tx 9 rfl (fun w' hS=>by have hh:=Gy (P:=Tryz.prog) Tryz.underlying25 Tryz.underlying5 Tryz.underlying9 (n:=(encI v).length) (c:=d2) ab.o Af rfl w' hS;go_simp;rfl) ?_;refine Cj 11 rfl (by kernel_rfl) (by rfl) 85 #[.int .u8 2,.slice A' p.length X] (by go_simp) ?_;refine Calls.mono (DerR.Eo 2 p A' p.length X B w2 (ah.o.below (B2.mono (Nat.le_trans aa.o hg.size))) rfl (Nat.le_trans (Nat.le_trans aa.o hg.size) B2.size) (by have:=HL.o;omega)) ?_;rintro e w3 ⟨⟨q3,d3,rfl,aF,az,O⟩,ae⟩;refine⟨_,rfl,ae,?_⟩;have Y:=I O;have B3:Below w1.heap.size w1 w3:=bt B2 ae;clear O;simp only[Act.put,J,U,Aa];refine Reg.tx 12 rfl (fun w' hS=>by have hh:=Gy (P:=Tryz.prog) Tryz.underlying25 Tryz.underlying5 Tryz.underlying9 (n:=(elem 2 p).length) (c:=d3) Y.o Af rfl w' hS;go_simp;rfl) ?_;refine Reg.tz 13 rfl ?_;refine Reg.tz 14 rfl ?_;refine wpAnyH_done (by kernel_rfl) ?_ _;have aB:w3.cell? ⟨g,1,none⟩=some (.bool false):=(HB.o.below B3).cell 1;have aQ:=(HB.o.below B3).frozen 1
            go_wp2
            go_ret;exact GB (HB.o.below B3) HN.o (Gl hg B3)
theorem GC (B g:Nat) (c:Option L) (w:World) (h:RC w B g c) (hB:B<=w.heap.size) (M:B<=g) (hu:(c.getD []).length<=100000) :
  Calls Tryz.prog 42 #[.pointer (some ⟨g,0,none⟩)] w (Ints w B g c):=by
 cases hp:Az 2 c with
 |none=>exact QN B g c w h hB M hu hp
 |some p=>
  obtain⟨r,O⟩:∃r,AR 2 c=some r:=by
   cases c with
   |none=>simp [Az] at hp
   |some s=>
    cases hs:Bl 2 s with
    |none=>rw[(Bu hs).1] at hp;cases hp
    |some x=>exact⟨_,(DB (b:=x.1) (r:=x.2) hs).2⟩
  by_cases hl:p.length=0\/9<p.length
  ·have X:numL p=none:=by
    cases hx:numL p with
    |none=>rfl
    |some y=>obtain⟨_,_,Y,Z,_⟩:=EI hx;omega
   exact Ts B g c w h hB M hu p r hp O X hl
  ·exact QO B g c w h hB M hu p r hp O (by omega) (by omega)
theorem IP (B g:Nat) (c:Option L) (w:World) (h:RC w B g c) (hB:B<=w.heap.size) (O:B<=g) (hu:(c.getD []).length<=100000) :
  Calls Tryz.prog 44 #[.pointer (some ⟨g,0,none⟩)] w (Took w B g 4 c):=by
 have HT:=I (Fs 4 B g w c h hB O hu);clear h hB O hu;go_enter Tryz.func44,Tryz.ntmps44
 go_wp2_with (go_at_call 82;refine HT.o.mono ?_;rintro e w1 ⟨⟨A',M,rfl,X,Y⟩,Z,hg⟩)
 go_ret;exact⟨⟨A',M,rfl,X,Y⟩,Z,hg⟩
theorem KZ (B g : Nat) (c : Option L) (w : World) (h : RC w B g c) (hB : B <= w.heap.size) (O : B <= g) (hu : (c.getD []).length <= 100000) :
    Calls Tryz.prog 83 #[.pointer (some ⟨g,0,none⟩)] w fun e w'=>e=.returned (.string ⟨((Az 27 c).getD []).toArray⟩)/\RC w' B g (AR 27 c)/\w.grownBy w' (some g):=by
  have HT:=I (Fs 27 B g w c h hB O hu);clear h hB O hu;go_enter Tryz.func83,Tryz.ntmps83
  go_wp2_with (go_at_call 82; refine HT.o.mono ?_; rintro e w1 ⟨⟨A', M, rfl, Z, X⟩, Y, hg⟩
               have aa:=AY (P:=Tryz.prog) w1 25 5 Tryz.underlying25 Tryz.underlying5 X ((Az 27 c).getD []).length M rfl 9 Tryz.underlying9)
  go_ret;exact⟨rfl,Y,hg⟩
theorem Je {t:UInt8} {c:Option L} {p:L} (h:Az t c=some p):∃r,AR t c=some r:=by
 cases c with
 |none=>simp [Az] at h
 |some s=>
  cases hs:Bl t s with
  |none=>rw[(Bu hs).1] at h;cases h
  |some x=>exact⟨_,(DB (b:=x.1) (r:=x.2) hs).2⟩
theorem GD (t : UInt8) (B g : Nat) (c : Option L) (w : World) (h : RC w B g c) (hB : B <= w.heap.size) (aa : B <= g) (hu : (c.getD []).length <= 100000) :
    Calls Tryz.prog 40 #[.pointer (some ⟨g,0,none⟩),.int .u8 t.toNat] w fun e w'=>
      (∃g',e=.returned (.pointer (some ⟨g',0,none⟩))/\w.heap.size<=g'/\RC w' B g' (Az t c))/\RC w' B g (AR t c)/\w.grownBy w' (some g):=by
  have HT:=I (Fs t B g w c h hB aa hu);have HB:=I hB;cases M:Az t c with
  |none=>
    have hn:=Gj t c M;unfold Took at HT;rw[M,hn] at HT;rw[hn];clear h hB aa hu M hn;go_enter Tryz.func40,Tryz.ntmps40
    go_wp2_with (go_at_call 82; refine HT.o.mono ?_; rintro e w1 ⟨⟨A', ab, rfl, O, Y⟩, ⟨A, n, cap, e, M, rfl⟩, hg⟩
                 have X:=I M;have h1:=M.c1;clear M)
    go_ret;exact⟨⟨_,rfl,hg.size,_,_,_,true,Blk.new w1 _ _,rfl⟩,⟨A,n,cap,true,X.o.alloc _,rfl⟩,Cb hg _⟩
  |some p=>
    obtain⟨r,hn⟩:=Je M;unfold Took at HT;rw[M,hn] at HT;rw[hn];clear h hB aa hu M hn;go_enter Tryz.func40,Tryz.ntmps40
    go_wp2_with (go_at_call 82; refine HT.o.mono ?_; rintro e w1 ⟨⟨A', ab, rfl, O, Y⟩, ⟨A, n, cap, e, M, rfl, ad⟩, hg⟩
                 have X:=I M;have Z:=I ad;have ae:=I Y;have af:=I O;have h1:=M.c1;clear M ad Y O)
    go_ret;have hs:=Nat.le_trans HB.o hg.size;exact⟨⟨_,rfl,hg.size,_,_,_,false,Blk.new w1 _ _,rfl,rfl,af.o,ae.o.alloc hs _⟩,⟨A,n,cap,false,X.o.alloc _,rfl,Z.o.1,Z.o.2.1,Z.o.2.2.alloc hs _⟩,Cb hg _⟩
theorem Jv (B g:Nat) (c:Option L) (w:World) (h:RC w B g c):Calls Tryz.prog 84 #[.pointer (some ⟨g,0,none⟩)] w fun e w'=>e=.returned (.bool (DerC.Na c))/\w=w':=by
 obtain⟨A,n,cap,e,X,O⟩:=h;have Z:=X.c0;have h1:=X.c1;cases c with
 |none=>
  obtain rfl:e=true:=O;clear X;go_enter Tryz.func84,Tryz.ntmps84
  go_wp2
  go_ret;exact⟨rfl,rfl⟩
 |some l=>
  obtain⟨rfl,Y,_⟩:=O;clear X
  by_cases hz:n=0
  ·have M:DerC.Na (some l)=true:=by
    have:l = []:=List.length_eq_zero_iff.1 (by omega);subst this;rfl
   subst hz;rw[M];clear M Y;go_enter Tryz.func84,Tryz.ntmps84
   go_wp2
   go_ret;exact⟨rfl,rfl⟩
  ·have M:DerC.Na (some l)=false:=by
    cases l with
    |nil=>exact absurd Y hz
    |cons a r=>rfl
   have g0:((n:Int)==0)=false:=by simp only[beq_eq_false_iff_ne,ne_eq];omega
   rw[M];clear M Y hz;go_enter Tryz.func84,Tryz.ntmps84
   go_wp2
   go_ret;exact⟨rfl,rfl⟩
end DerR
end Go.Proofs.YtcpccikongbopaaGreat
