import Derived.Test.YtlccngianpfalaaGreatZClientLoops8
import Derived.Test.YtlccngianpfalaaGreatZClientLoops11
set_option maxHeartbeats 25600000
set_option maxRecDepth 100000
set_option linter.unusedVariables false
set_option linter.unusedSimpArgs false
namespace Go.Proofs.YtlccngianpfalaaGreat
namespace DerR
open Go.RowKit Ae DerP
theorem Db {w:World} {B:Nat} {A:Option Addr} {l:L} (h:Rd w B A (bvs l)) (X:0<l.length):∃b o,A=some ⟨b,o,none⟩/\b<B/\∀i (O:i<l.length),w.cell? ⟨b,o+i,none⟩=some (.int .u8 ((l[i]).toNat:Int)):=by
 obtain⟨b,o,M,Y,_⟩:=h.at_ (DT X);refine⟨b,o,M,Y,fun i O=>?_⟩;obtain⟨b',o',e,_,Z⟩:=h.at_ (DT O);rw[M] at e;injection e with e;injection e with e1 e2;subst e1 e2;exact Z
theorem Gp {t:UInt8} {s:L} {m k:Nat} (h:lenR s=(m,k,true)) (M:m+k<=s.length):Bk t (t :: s)=some (((t :: s).drop (k+1)).take m,(t :: s).drop (k+1+m)):=by
 rw[Bk,h,if_pos ⟨rfl,rfl,M⟩]
 congr 2
 rw[List.drop_drop,show k+1+m=(k+m)+1 by omega]
 rfl
theorem Cz {t:UInt8} {s:L} {m k:Nat} {ok:Bool} (h:lenR s=(m,k,ok)) (M:ok=false\/¬m+k<=s.length):Bk t (t :: s)=none:=by
 rw[Bk,h];refine if_neg fun O=>?_
 rcases M with rfl | M
 ·exact absurd O.2.1 (by simp)
 ·exact M O.2.2
theorem Hg (n k:Nat) (h:n<=65535) (hk:(szL n).length=k) (w:World):Calls Tryz.prog 118 #[.int .i64 (n:Int)] w fun e w'=>(∃g cap,e=.returned (.slice (some ⟨g,0,none⟩) k cap))/\Below w.heap.size w w':=by
 subst hk;exact(Nd n h w).mono fun e w' ⟨⟨g,cap,he,_⟩,M⟩=>⟨⟨g,cap,he⟩,M⟩
theorem Ea:∀w:World,(sizeOf 5).run Tryz.prog w=.ok 1 w:=fun w=>by kernel_rfl
theorem Mi {w O:World} {B g:Nat} {t:UInt8} {l:L} {A:Option Addr} {cap p m:Nat} (Z:l.length<=cap) (hs:Bk t l=some ((l.drop p).take m,l.drop (p+m))) (hf:p+m<=l.length)
  (Y:Rd w B A (bvs l)) (hb:Blk O g 108 #[.slice A l.length cap,.bool false]) (hg:w.grownBy O (some g)) (hB:B<=w.heap.size) (aa:B<=g) :
  Took w B g t (some l) (.returned (.slice (cutA A cap p) m (cap - p))) (O.setCell ⟨g,0,none⟩ (.slice (cutA A cap (p+m)) (l.length - (p+m)) (cap - (p+m)))):=by
 obtain⟨e1,e2⟩:=DB hs;have M:=Ar (p:=⟨g,0,none⟩) hg (.inl rfl) (.slice (cutA A cap (p+m)) (l.length - (p+m)) (cap - (p+m)));have hk:∀xs X,Rd w B X xs->Rd (O.setCell ⟨g,0,none⟩ (.slice (cutA A cap (p+m)) (l.length - (p+m)) (cap - (p+m)))) B X xs:=fun xs X h=>h.grown M hB (fun k hk=>by injection hk with hk;omega)
 have hlen:((l.drop p).take m).length=m:=by rw[List.length_take,List.length_drop];omega
 unfold Took;rw[e1,e2];simp only[Option.getD_some];refine⟨⟨cutA A cap p,cap - p,by rw[hlen],by rw[hlen];omega,hk _ _ (VZ (UH Y p Z) m)⟩,⟨_,_,_,false,hb.set 0 _,rfl,by rw[List.length_drop],by omega,hk _ _ (UH Y (p+m) Z)⟩,M⟩
theorem QK (B g:Nat) (A:Option Addr) (n cap:Nat) (t a x:UInt8) (r:L) (w:World) (X:Blk w g 108 #[.slice A n cap,.bool false]) (hn:n=(a :: x :: r).length) (hc:n<=cap) (hr:Rd w B A (bvs (a :: x :: r))) (hB:B<=w.heap.size) (Z:B<=g) (hu:n<=100000) (O:a≠t) :
  Calls Tryz.prog 70 #[.pointer (some ⟨g,0,none⟩),.int .u8 t.toNat] w (Took w B g t (some (a :: x :: r))):=by
 have h0:=X.c0;have h1:=X.c1;have f0:=X.frozen 0;have f1:=X.frozen 1;obtain⟨b,o,rfl,ad,M⟩:=Db hr (by simp);have Y:=hn;simp only[List.length_cons] at Y;have c0:w.cell? ⟨b,o,none⟩=some (.int .u8 ((a).toNat:Int)):=M 0 (by simp);have E:=I ((Bt (Pg (s:=x :: r) O)).1);have q1:((a.toNat:Int)==(t.toNat:Int))=false:=by simp;exact fun e=>O (UInt8.toNat_inj.1 (by omega))
 have q2:((a.toNat:Int) != (t.toNat:Int))=true:=by simp;exact fun e=>O (UInt8.toNat_inj.1 (by omega))
 have aa:(2:Int)<=(n:Int):=by omega
 have ab:(n:Int)<=100000:=by omega
 have g0:decide ((n:Int)<2)=false:=by simp only[decide_eq_false_iff_not];omega
 have HB:=I X;have HN:=I hn;have HC:=I hc;have HR:=I hr;have ae:=I hB;have af:=I Z;clear X hn hc hr hB Z hu Y M;clear O;go_enter Tryz.func70,Tryz.ntmps70
 go_wp2
 go_ret;exact Cq HB.o E.o (World.grownBy.refl _ _)
theorem Ja (B g : Nat) (A : Option Addr) (n cap : Nat) (t x : UInt8) (r : L) (w : World) (X : Blk w g 108 #[.slice A n cap, .bool false]) (hn : n = (t :: x :: r).length) (hc : n <= cap) (hr : Rd w B A (bvs (t :: x :: r))) (hB : B <= w.heap.size) (ab : B <= g) (hu : n <= 100000) (Z : x.toNat < 128) (hf : x.toNat <= r.length) :
    Calls Tryz.prog 70 #[.pointer (some ⟨g,0,none⟩),.int .u8 t.toNat] w (Took w B g t (some (t :: x :: r))):=by
  have h0:=X.c0;have h1:=X.c1;have f0:=X.frozen 0;have f1:=X.frozen 1;obtain⟨b,o,rfl,av,M⟩:=Db hr (by simp);have aa:=hn;simp only[List.length_cons] at aa;have c0:w.cell? ⟨b,o,none⟩=some (.int .u8 ((t).toNat:Int)):=M 0 (by simp);have c1:w.cell? ⟨b,o+1,none⟩=some (.int .u8 ((x).toNat:Int)):=M 1 (by simp);have ad:=BH x;have ag:((x.toNat:Int)==129)=false:=by simp;omega
  have ai:((x.toNat:Int)==130)=false:=by simp;omega
  have q3:decide ((128:Int)<=(x.toNat:Int))=false:=by simp only[decide_eq_false_iff_not];omega
  have q4:decide ((n:Int) - 2<(x.toNat:Int))=false:=by simp only[decide_eq_false_iff_not];omega
  have ae:=I (fun W=>Hg (x.toNat) 1 (by omega) (by rw[Cn];rw[if_pos (by omega)]) W);have ak:(x.toNat:Int)<=65535:=by omega
  have HS:=I (Gp (t:=t) (Fz (r:=r) Z) (by simp only[List.length_cons];omega));have HF:=I (show 2+x.toNat<=(t :: x :: r).length by simp only[List.length_cons];omega);have aw:=Fq (P:=Tryz.prog) Tryz.underlying24 Ea (some ⟨b,o,none⟩) n cap (2+x.toNat) (2+(x.toNat:Int)) (by omega) (by omega);have ax:=Gd (P:=Tryz.prog) Tryz.underlying24 Ea (some ⟨b,o,none⟩) n cap 2 x.toNat 2 (2+(x.toNat:Int)) rfl rfl (by omega);have an:(2:Int)<=(n:Int):=by omega
  have ar:(n:Int)<=100000:=by omega
  have g0:decide ((n:Int)<2)=false:=by simp only[decide_eq_false_iff_not];omega
  have HB:=I X;have HN:=I hn;have HC:=I hc;have HR:=I hr;have af:=I hB;have ah:=I ab;clear X hn hc hr hB ab hu aa M;clear Z hf;go_enter Tryz.func70,Tryz.ntmps70
  go_wp2_with (go_at_call 118; refine (ae.o _).mono ?_; rintro e w1 ⟨⟨g1, aj, rfl⟩, Y⟩
               have O:=I (HB.o.below Y);have k0:=O.c0;have k1:=O.c1;have ao:=O.o.frozen 0;have au:=O.o.frozen 1)
  go_ret;have hn:=HN.o;subst hn;exact Mi HC.o HS.o HF.o HR.o O.o (Bz Y _) af.o ah.o
theorem Jb (B g:Nat) (A:Option Addr) (n cap:Nat) (t x:UInt8) (r:L) (w:World) (O:Blk w g 108 #[.slice A n cap,.bool false]) (hn:n=(t :: x :: r).length) (hc:n<=cap) (hr:Rd w B A (bvs (t :: x :: r))) (hB:B<=w.heap.size) (Z:B<=g) (hu:n<=100000) (X:x.toNat<128) (hf:¬x.toNat<=r.length) :
  Calls Tryz.prog 70 #[.pointer (some ⟨g,0,none⟩),.int .u8 t.toNat] w (Took w B g t (some (t :: x :: r))):=by
 have h0:=O.c0;have h1:=O.c1;have f0:=O.frozen 0;have f1:=O.frozen 1;obtain⟨b,o,rfl,ag,M⟩:=Db hr (by simp);have Y:=hn;simp only[List.length_cons] at Y;have c0:w.cell? ⟨b,o,none⟩=some (.int .u8 ((t).toNat:Int)):=M 0 (by simp);have c1:w.cell? ⟨b,o+1,none⟩=some (.int .u8 ((x).toNat:Int)):=M 1 (by simp);have aa:=BH x;have ab:((x.toNat:Int)==129)=false:=by simp;omega
 have ad:((x.toNat:Int)==130)=false:=by simp;omega
 have q3:decide ((128:Int)<=(x.toNat:Int))=false:=by simp only[decide_eq_false_iff_not];omega
 have E:=I ((Bt (Cz (t:=t) (Fz (r:=r) X) (.inr (by simp only[List.length_cons];omega)))).1);have q4:decide ((n:Int) - 2<(x.toNat:Int))=true:=by simp only[decide_eq_true_eq];omega
 have ae:(2:Int)<=(n:Int):=by omega
 have af:(n:Int)<=100000:=by omega
 have g0:decide ((n:Int)<2)=false:=by simp only[decide_eq_false_iff_not];omega
 have HB:=I O;have HN:=I hn;have HC:=I hc;have HR:=I hr;have ah:=I hB;have ai:=I Z;clear O hn hc hr hB Z hu Y M;clear X hf;go_enter Tryz.func70,Tryz.ntmps70
 go_wp2
 go_ret;exact Cq HB.o E.o (World.grownBy.refl _ _)
theorem JW (B g:Nat) (A:Option Addr) (n cap:Nat) (t x:UInt8)  (w:World) (O:Blk w g 108 #[.slice A n cap,.bool false]) (hn:n=(t :: x :: []).length) (hc:n<=cap) (hr:Rd w B A (bvs (t :: x :: []))) (hB:B<=w.heap.size) (Z:B<=g) (hu:n<=100000) (X:x.toNat=129) :
  Calls Tryz.prog 70 #[.pointer (some ⟨g,0,none⟩),.int .u8 t.toNat] w (Took w B g t (some (t :: x :: []))):=by
 have h0:=O.c0;have h1:=O.c1;have f0:=O.frozen 0;have f1:=O.frozen 1;obtain⟨b,o,rfl,ag,M⟩:=Db hr (by simp);have Y:=hn;simp only[List.length_cons,List.length_nil] at Y;have c0:w.cell? ⟨b,o,none⟩=some (.int .u8 ((t).toNat:Int)):=M 0 (by simp);have c1:w.cell? ⟨b,o+1,none⟩=some (.int .u8 ((x).toNat:Int)):=M 1 (by simp);have aa:=BH x;have ab:((x.toNat:Int)==129)=true:=by simp;omega
 have ad:((x.toNat:Int)==130)=false:=by simp;omega
 have q3:decide ((128:Int)<=(x.toNat:Int))=true:=by simp only[decide_eq_true_eq];omega
 have ai:decide ((3:Int)<=(n:Int))=false:=by simp only[decide_eq_false_iff_not];omega
 have E:=I ((Bt (Cz (t:=t) (EJ X) (.inl rfl))).1);have ae:(2:Int)<=(n:Int):=by omega
 have af:(n:Int)<=100000:=by omega
 have g0:decide ((n:Int)<2)=false:=by simp only[decide_eq_false_iff_not];omega
 have HB:=I O;have HN:=I hn;have HC:=I hc;have HR:=I hr;have ah:=I hB;have aj:=I Z;clear O hn hc hr hB Z hu Y M;clear X;go_enter Tryz.func70,Tryz.ntmps70
 go_wp2
 go_ret;exact Cq HB.o E.o (World.grownBy.refl _ _)
theorem KS (B g:Nat) (A:Option Addr) (n cap:Nat) (t x:UInt8) (y:UInt8) (r:L) (w:World) (O:Blk w g 108 #[.slice A n cap,.bool false]) (hn:n=(t :: x :: y :: r).length) (hc:n<=cap) (hr:Rd w B A (bvs (t :: x :: y :: r))) (hB:B<=w.heap.size) (Z:B<=g) (hu:n<=100000) (X:x.toNat=129) (hf:¬y.toNat<=r.length) :
  Calls Tryz.prog 70 #[.pointer (some ⟨g,0,none⟩),.int .u8 t.toNat] w (Took w B g t (some (t :: x :: y :: r))):=by
 have h0:=O.c0;have h1:=O.c1;have f0:=O.frozen 0;have f1:=O.frozen 1;obtain⟨b,o,rfl,ai,M⟩:=Db hr (by simp);have Y:=hn;simp only[List.length_cons] at Y;have c0:w.cell? ⟨b,o,none⟩=some (.int .u8 ((t).toNat:Int)):=M 0 (by simp);have c1:w.cell? ⟨b,o+1,none⟩=some (.int .u8 ((x).toNat:Int)):=M 1 (by simp);have af:(2:Int)<(n:Int):=by omega
 have c2:w.cell? ⟨b,o+2,none⟩=some (.int .u8 ((y).toNat:Int)):=M 2 (by simp);have ab:=BH y;have aa:=BH x;have ad:((x.toNat:Int)==129)=true:=by simp;omega
 have ae:((x.toNat:Int)==130)=false:=by simp;omega
 have q3:decide ((128:Int)<=(x.toNat:Int))=true:=by simp only[decide_eq_true_eq];omega
 have ak:decide ((3:Int)<=(n:Int))=true:=by simp only[decide_eq_true_eq];omega
 have E:=I ((Bt (Cz (t:=t) (Gi (b:=y) (r:=r) X) (.inr (by simp only[List.length_cons];omega)))).1);have q4:decide ((n:Int) - 3<(y.toNat:Int))=true:=by simp only[decide_eq_true_eq];omega
 have ag:(2:Int)<=(n:Int):=by omega
 have ah:(n:Int)<=100000:=by omega
 have g0:decide ((n:Int)<2)=false:=by simp only[decide_eq_false_iff_not];omega
 have HB:=I O;have HN:=I hn;have HC:=I hc;have HR:=I hr;have aj:=I hB;have an:=I Z;clear O hn hc hr hB Z hu Y M;clear X hf;go_enter Tryz.func70,Tryz.ntmps70
 go_wp2
 go_ret;exact Cq HB.o E.o (World.grownBy.refl _ _)
theorem Jc (B g : Nat) (A : Option Addr) (n cap : Nat) (t x : UInt8) (y : UInt8) (r : L) (w : World) (X : Blk w g 108 #[.slice A n cap, .bool false]) (hn : n = (t :: x :: y :: r).length) (hc : n <= cap) (hr : Rd w B A (bvs (t :: x :: y :: r))) (hB : B <= w.heap.size) (ab : B <= g) (hu : n <= 100000) (Z : x.toNat = 129) (hf : y.toNat <= r.length) (hy : y.toNat < 128) :
    Calls Tryz.prog 70 #[.pointer (some ⟨g,0,none⟩),.int .u8 t.toNat] w (Took w B g t (some (t :: x :: y :: r))):=by
  have h0:=X.c0;have h1:=X.c1;have f0:=X.frozen 0;have f1:=X.frozen 1;obtain⟨b,o,rfl,av,M⟩:=Db hr (by simp);have aa:=hn;simp only[List.length_cons] at aa;have c0:w.cell? ⟨b,o,none⟩=some (.int .u8 ((t).toNat:Int)):=M 0 (by simp);have c1:w.cell? ⟨b,o+1,none⟩=some (.int .u8 ((x).toNat:Int)):=M 1 (by simp);have aj:(2:Int)<(n:Int):=by omega
  have c2:w.cell? ⟨b,o+2,none⟩=some (.int .u8 ((y).toNat:Int)):=M 2 (by simp);have ae:=BH y;have ad:=BH x;have ag:((x.toNat:Int)==129)=true:=by simp;omega
  have ah:((x.toNat:Int)==130)=false:=by simp;omega
  have q3:decide ((128:Int)<=(x.toNat:Int))=true:=by simp only[decide_eq_true_eq];omega
  have ax:decide ((3:Int)<=(n:Int))=true:=by simp only[decide_eq_true_eq];omega
  have q4:decide ((n:Int) - 3<(y.toNat:Int))=false:=by simp only[decide_eq_false_iff_not];omega
  have af:=I (fun W=>Hg (y.toNat) 1 (by omega) (by rw[Cn];rw[if_pos (by omega)]) W);have ak:(y.toNat:Int)<=65535:=by omega
  have E:=I ((Bt (Cz (t:=t) (Gi (b:=y) (r:=r) Z) (.inl (by simp;omega)))).1);have an:(2:Int)<=(n:Int):=by omega
  have ar:(n:Int)<=100000:=by omega
  have g0:decide ((n:Int)<2)=false:=by simp only[decide_eq_false_iff_not];omega
  have HB:=I X;have HN:=I hn;have HC:=I hc;have HR:=I hr;have aw:=I hB;have ay:=I ab;clear X hn hc hr hB ab hu aa M;clear Z hf hy;go_enter Tryz.func70,Tryz.ntmps70
  go_wp2_with (go_at_call 118; refine (af.o _).mono ?_; rintro e w1 ⟨⟨g1, ai, rfl⟩, Y⟩
               have O:=I (HB.o.below Y);have k0:=O.c0;have k1:=O.c1;have ao:=O.o.frozen 0;have au:=O.o.frozen 1)
  go_ret;exact Cq O.o E.o (Bz Y _)
theorem KT (B g : Nat) (A : Option Addr) (n cap : Nat) (t x : UInt8) (y : UInt8) (r : L) (w : World) (X : Blk w g 108 #[.slice A n cap, .bool false]) (hn : n = (t :: x :: y :: r).length) (hc : n <= cap) (hr : Rd w B A (bvs (t :: x :: y :: r))) (hB : B <= w.heap.size) (ab : B <= g) (hu : n <= 100000) (Z : x.toNat = 129) (hf : y.toNat <= r.length) (hy : ¬ y.toNat < 128) :
    Calls Tryz.prog 70 #[.pointer (some ⟨g,0,none⟩),.int .u8 t.toNat] w (Took w B g t (some (t :: x :: y :: r))):=by
  have h0:=X.c0;have h1:=X.c1;have f0:=X.frozen 0;have f1:=X.frozen 1;obtain⟨b,o,rfl,ax,M⟩:=Db hr (by simp);have aa:=hn;simp only[List.length_cons] at aa;have c0:w.cell? ⟨b,o,none⟩=some (.int .u8 ((t).toNat:Int)):=M 0 (by simp);have c1:w.cell? ⟨b,o+1,none⟩=some (.int .u8 ((x).toNat:Int)):=M 1 (by simp);have an:(2:Int)<(n:Int):=by omega
  have c2:w.cell? ⟨b,o+2,none⟩=some (.int .u8 ((y).toNat:Int)):=M 2 (by simp);have ae:=BH y;have ad:=BH x;have ai:((x.toNat:Int)==129)=true:=by simp;omega
  have aj:((x.toNat:Int)==130)=false:=by simp;omega
  have q3:decide ((128:Int)<=(x.toNat:Int))=true:=by simp only[decide_eq_true_eq];omega
  have aA:decide ((3:Int)<=(n:Int))=true:=by simp only[decide_eq_true_eq];omega
  have q4:decide ((n:Int) - 3<(y.toNat:Int))=false:=by simp only[decide_eq_false_iff_not];omega
  have af:=I (fun W=>Hg (y.toNat) 2 (by omega) (by rw[Cn];rw[if_neg (by omega),if_pos (by omega)]) W);have ao:(y.toNat:Int)<=65535:=by omega
  have HS:=I (Gp (t:=t) ((Gi (b:=y) (r:=r) Z).trans (by rw[decide_eq_true (show 128<=y.toNat by omega)])) (by simp only[List.length_cons];omega));have HF:=I (show 3+y.toNat<=(t :: x :: y :: r).length by simp only[List.length_cons];omega);have ay:=Fq (P:=Tryz.prog) Tryz.underlying24 Ea (some ⟨b,o,none⟩) n cap (3+y.toNat) (3+(y.toNat:Int)) (by omega) (by omega);have az:=Gd (P:=Tryz.prog) Tryz.underlying24 Ea (some ⟨b,o,none⟩) n cap 3 y.toNat 3 (3+(y.toNat:Int)) rfl rfl (by omega);have ar:(2:Int)<=(n:Int):=by omega
  have av:(n:Int)<=100000:=by omega
  have g0:decide ((n:Int)<2)=false:=by simp only[decide_eq_false_iff_not];omega
  have HB:=I X;have HN:=I hn;have HC:=I hc;have HR:=I hr;have ag:=I hB;have ah:=I ab;clear X hn hc hr hB ab hu aa M;clear Z hf hy;go_enter Tryz.func70,Tryz.ntmps70
  go_wp2_with (go_at_call 118; refine (af.o _).mono ?_; rintro e w1 ⟨⟨g1, ak, rfl⟩, Y⟩
               have O:=I (HB.o.below Y);have k0:=O.c0;have k1:=O.c1;have au:=O.o.frozen 0;have aw:=O.o.frozen 1)
  go_ret;have hn:=HN.o;subst hn;exact Mi HC.o HS.o HF.o HR.o O.o (Bz Y _) ag.o ah.o
theorem JX (B g:Nat) (A:Option Addr) (n cap:Nat) (t x:UInt8)  (w:World) (O:Blk w g 108 #[.slice A n cap,.bool false]) (hn:n=(t :: x :: []).length) (hc:n<=cap) (hr:Rd w B A (bvs (t :: x :: []))) (hB:B<=w.heap.size) (Z:B<=g) (hu:n<=100000) (X:x.toNat=130) :
  Calls Tryz.prog 70 #[.pointer (some ⟨g,0,none⟩),.int .u8 t.toNat] w (Took w B g t (some (t :: x :: []))):=by
 have h0:=O.c0;have h1:=O.c1;have f0:=O.frozen 0;have f1:=O.frozen 1;obtain⟨b,o,rfl,ah,M⟩:=Db hr (by simp);have Y:=hn;simp only[List.length_cons,List.length_nil] at Y;have c0:w.cell? ⟨b,o,none⟩=some (.int .u8 ((t).toNat:Int)):=M 0 (by simp);have c1:w.cell? ⟨b,o+1,none⟩=some (.int .u8 ((x).toNat:Int)):=M 1 (by simp);have aa:=BH x;have ab:((x.toNat:Int)==129)=false:=by simp;omega
 have ad:((x.toNat:Int)==130)=true:=by simp;omega
 have q3:decide ((128:Int)<=(x.toNat:Int))=true:=by simp only[decide_eq_true_eq];omega
 have ae:decide ((4:Int)<=(n:Int))=false:=by simp only[decide_eq_false_iff_not];omega
 have E:=I ((Bt (Cz (t:=t) (EP X) (.inl rfl))).1);have af:(2:Int)<=(n:Int):=by omega
 have ag:(n:Int)<=100000:=by omega
 have g0:decide ((n:Int)<2)=false:=by simp only[decide_eq_false_iff_not];omega
 have HB:=I O;have HN:=I hn;have HC:=I hc;have HR:=I hr;have ai:=I hB;have aj:=I Z;clear O hn hc hr hB Z hu Y M;clear X;go_enter Tryz.func70,Tryz.ntmps70
 go_wp2
 go_ret;exact Cq HB.o E.o (World.grownBy.refl _ _)
theorem JY (B g:Nat) (A:Option Addr) (n cap:Nat) (t x:UInt8) (y:UInt8) (w:World) (O:Blk w g 108 #[.slice A n cap,.bool false]) (hn:n=(t :: x :: y :: []).length) (hc:n<=cap) (hr:Rd w B A (bvs (t :: x :: y :: []))) (hB:B<=w.heap.size) (Z:B<=g) (hu:n<=100000) (X:x.toNat=130) :
  Calls Tryz.prog 70 #[.pointer (some ⟨g,0,none⟩),.int .u8 t.toNat] w (Took w B g t (some (t :: x :: y :: []))):=by
 have h0:=O.c0;have h1:=O.c1;have f0:=O.frozen 0;have f1:=O.frozen 1;obtain⟨b,o,rfl,ah,M⟩:=Db hr (by simp);have Y:=hn;simp only[List.length_cons,List.length_nil] at Y;have c0:w.cell? ⟨b,o,none⟩=some (.int .u8 ((t).toNat:Int)):=M 0 (by simp);have c1:w.cell? ⟨b,o+1,none⟩=some (.int .u8 ((x).toNat:Int)):=M 1 (by simp);have aa:=BH x;have ab:((x.toNat:Int)==129)=false:=by simp;omega
 have ad:((x.toNat:Int)==130)=true:=by simp;omega
 have q3:decide ((128:Int)<=(x.toNat:Int))=true:=by simp only[decide_eq_true_eq];omega
 have ae:decide ((4:Int)<=(n:Int))=false:=by simp only[decide_eq_false_iff_not];omega
 have E:=I ((Bt (Cz (t:=t) (EW (b:=y) X) (.inl rfl))).1);have af:(2:Int)<=(n:Int):=by omega
 have ag:(n:Int)<=100000:=by omega
 have g0:decide ((n:Int)<2)=false:=by simp only[decide_eq_false_iff_not];omega
 have HB:=I O;have HN:=I hn;have HC:=I hc;have HR:=I hr;have ai:=I hB;have aj:=I Z;clear O hn hc hr hB Z hu Y M;clear X;go_enter Tryz.func70,Tryz.ntmps70
 go_wp2
 go_ret;exact Cq HB.o E.o (World.grownBy.refl _ _)
theorem KU (B g:Nat) (A:Option Addr) (n cap:Nat) (t x:UInt8) (y z:UInt8) (r:L) (w:World) (O:Blk w g 108 #[.slice A n cap,.bool false]) (hn:n=(t :: x :: y :: z :: r).length) (hc:n<=cap) (hr:Rd w B A (bvs (t :: x :: y :: z :: r))) (hB:B<=w.heap.size) (Z:B<=g) (hu:n<=100000) (X:x.toNat=130) (hf:¬y.toNat*256+z.toNat<=r.length) :
  Calls Tryz.prog 70 #[.pointer (some ⟨g,0,none⟩),.int .u8 t.toNat] w (Took w B g t (some (t :: x :: y :: z :: r))):=by
 have h0:=O.c0;have h1:=O.c1;have f0:=O.frozen 0;have f1:=O.frozen 1;obtain⟨b,o,rfl,an,M⟩:=Db hr (by simp);have Y:=hn;simp only[List.length_cons] at Y;have c0:w.cell? ⟨b,o,none⟩=some (.int .u8 ((t).toNat:Int)):=M 0 (by simp);have c1:w.cell? ⟨b,o+1,none⟩=some (.int .u8 ((x).toNat:Int)):=M 1 (by simp);have ah:(2:Int)<(n:Int):=by omega
 have ag:(3:Int)<(n:Int):=by omega
 have c2:w.cell? ⟨b,o+2,none⟩=some (.int .u8 ((y).toNat:Int)):=M 2 (by simp);have ab:=BH y;have c3:w.cell? ⟨b,o+3,none⟩=some (.int .u8 ((z).toNat:Int)):=M 3 (by simp);have ad:=BH z;have aa:=BH x;have ae:((x.toNat:Int)==129)=false:=by simp;omega
 have af:((x.toNat:Int)==130)=true:=by simp;omega
 have q3:decide ((128:Int)<=(x.toNat:Int))=true:=by simp only[decide_eq_true_eq];omega
 have ai:decide ((4:Int)<=(n:Int))=true:=by simp only[decide_eq_true_eq];omega
 obtain⟨m,hm⟩:∃m:Nat,y.toNat*256+z.toNat=m:=⟨_,rfl⟩;have au:bits .or .i64 ((y.toNat:Int)*256) (z.toNat:Int)=(m:Int):=by rw[Hq y.toNat z.toNat z.toNat_lt (by omega)];omega
 have ao:(0:Int)<=(m:Int):=by omega
 have E:=I ((Bt (Cz (t:=t) (FA (b:=y) (c:=z) (r:=r) X) (.inr (by simp only[List.length_cons];omega)))).1);have q4:decide ((n:Int) - 4<(m:Int))=true:=by simp only[decide_eq_true_eq];omega
 have aj:(2:Int)<=(n:Int):=by omega
 have ak:(n:Int)<=100000:=by omega
 have g0:decide ((n:Int)<2)=false:=by simp only[decide_eq_false_iff_not];omega
 have HB:=I O;have HN:=I hn;have HC:=I hc;have HR:=I hr;have ar:=I hB;have av:=I Z;clear O hn hc hr hB Z hu Y M;clear X hf;go_enter Tryz.func70,Tryz.ntmps70
 go_wp2
 go_quiet (fail)
 go_wp2
 go_ret;exact Cq (HB.o.drewN _) E.o (Fe (World.grownBy.refl _ _) _)
theorem KV (B g : Nat) (A : Option Addr) (n cap : Nat) (t x : UInt8) (y z : UInt8) (r : L) (w : World) (X : Blk w g 108 #[.slice A n cap, .bool false]) (hn : n = (t :: x :: y :: z :: r).length) (hc : n <= cap) (hr : Rd w B A (bvs (t :: x :: y :: z :: r))) (hB : B <= w.heap.size) (aa : B <= g) (hu : n <= 100000) (Y : x.toNat = 130) (hf : y.toNat * 256 + z.toNat <= r.length) (hy : y.toNat * 256 + z.toNat < 128) :
    Calls Tryz.prog 70 #[.pointer (some ⟨g,0,none⟩),.int .u8 t.toNat] w (Took w B g t (some (t :: x :: y :: z :: r))):=by
  have h0:=X.c0;have h1:=X.c1;have f0:=X.frozen 0;have f1:=X.frozen 1;obtain⟨b,o,rfl,az,M⟩:=Db hr (by simp);have Z:=hn;simp only[List.length_cons] at Z;have c0:w.cell? ⟨b,o,none⟩=some (.int .u8 ((t).toNat:Int)):=M 0 (by simp);have c1:w.cell? ⟨b,o+1,none⟩=some (.int .u8 ((x).toNat:Int)):=M 1 (by simp);have an:(2:Int)<(n:Int):=by omega
  have aj:(3:Int)<(n:Int):=by omega
  have c2:w.cell? ⟨b,o+2,none⟩=some (.int .u8 ((y).toNat:Int)):=M 2 (by simp);have ad:=BH y;have c3:w.cell? ⟨b,o+3,none⟩=some (.int .u8 ((z).toNat:Int)):=M 3 (by simp);have ae:=BH z;have ag:=BH x;have af:((x.toNat:Int)==129)=false:=by simp;omega
  have ai:((x.toNat:Int)==130)=true:=by simp;omega
  have q3:decide ((128:Int)<=(x.toNat:Int))=true:=by simp only[decide_eq_true_eq];omega
  have av:decide ((4:Int)<=(n:Int))=true:=by simp only[decide_eq_true_eq];omega
  obtain⟨m,hm⟩:∃m:Nat,y.toNat*256+z.toNat=m:=⟨_,rfl⟩;have aC:bits .or .i64 ((y.toNat:Int)*256) (z.toNat:Int)=(m:Int):=by rw[Hq y.toNat z.toNat z.toNat_lt (by omega)];omega
  have aA:(0:Int)<=(m:Int):=by omega
  have q4:decide ((n:Int) - 4<(m:Int))=false:=by simp only[decide_eq_false_iff_not];omega
  have ah:=I (fun W=>Hg (m) 1 (by omega) (by rw[Cn];rw[if_pos (by omega)]) W);have ao:(m:Int)<=65535:=by omega
  have E:=I ((Bt (Cz (t:=t) (FA (b:=y) (c:=z) (r:=r) Y) (.inl (by simp;omega)))).1);have ar:(2:Int)<=(n:Int):=by omega
  have ax:(n:Int)<=100000:=by omega
  have g0:decide ((n:Int)<2)=false:=by simp only[decide_eq_false_iff_not];omega
  have HB:=I X;have HN:=I hn;have HC:=I hc;have HR:=I hr;have aB:=I hB;have au:=I aa;clear X hn hc hr hB aa hu Z M;clear Y hf hy;go_enter Tryz.func70,Tryz.ntmps70
  go_wp2
  go_quiet (fail)
  go_wp2_with (go_at_call 118; refine (ah.o _).mono ?_; rintro e w1 ⟨⟨g1, ak, rfl⟩, ab⟩
               have O:=I ((HB.o.drewN _).below ab);have k0:w1.cell? ⟨g,0,none⟩=some (.slice (some ⟨b,o,none⟩) n cap):=O.o.cell 0;have k1:w1.cell? ⟨g,1,none⟩=some (.bool false):=O.o.cell 1;have aw:=O.o.frozen 0;have ay:=O.o.frozen 1)
  go_ret;exact Cq O.o E.o (Bz ((below_drewN Ag _).trans ab) _)
theorem KW (B g : Nat) (A : Option Addr) (n cap : Nat) (t x : UInt8) (y z : UInt8) (r : L) (w : World) (X : Blk w g 108 #[.slice A n cap, .bool false]) (hn : n = (t :: x :: y :: z :: r).length) (hc : n <= cap) (hr : Rd w B A (bvs (t :: x :: y :: z :: r))) (hB : B <= w.heap.size) (aa : B <= g) (hu : n <= 100000) (Y : x.toNat = 130) (hf : y.toNat * 256 + z.toNat <= r.length) (hy : ¬ y.toNat * 256 + z.toNat < 128) (ag : y.toNat * 256 + z.toNat <= 255) :
    Calls Tryz.prog 70 #[.pointer (some ⟨g,0,none⟩),.int .u8 t.toNat] w (Took w B g t (some (t :: x :: y :: z :: r))):=by
  have h0:=X.c0;have h1:=X.c1;have f0:=X.frozen 0;have f1:=X.frozen 1;obtain⟨b,o,rfl,aA,M⟩:=Db hr (by simp);have Z:=hn;simp only[List.length_cons] at Z;have c0:w.cell? ⟨b,o,none⟩=some (.int .u8 ((t).toNat:Int)):=M 0 (by simp);have c1:w.cell? ⟨b,o+1,none⟩=some (.int .u8 ((x).toNat:Int)):=M 1 (by simp);have ao:(2:Int)<(n:Int):=by omega
  have ak:(3:Int)<(n:Int):=by omega
  have c2:w.cell? ⟨b,o+2,none⟩=some (.int .u8 ((y).toNat:Int)):=M 2 (by simp);have ad:=BH y;have c3:w.cell? ⟨b,o+3,none⟩=some (.int .u8 ((z).toNat:Int)):=M 3 (by simp);have ae:=BH z;have ah:=BH x;have af:((x.toNat:Int)==129)=false:=by simp;omega
  have aj:((x.toNat:Int)==130)=true:=by simp;omega
  have q3:decide ((128:Int)<=(x.toNat:Int))=true:=by simp only[decide_eq_true_eq];omega
  have aw:decide ((4:Int)<=(n:Int))=true:=by simp only[decide_eq_true_eq];omega
  obtain⟨m,hm⟩:∃m:Nat,y.toNat*256+z.toNat=m:=⟨_,rfl⟩;have aD:bits .or .i64 ((y.toNat:Int)*256) (z.toNat:Int)=(m:Int):=by rw[Hq y.toNat z.toNat z.toNat_lt (by omega)];omega
  have aB:(0:Int)<=(m:Int):=by omega
  have q4:decide ((n:Int) - 4<(m:Int))=false:=by simp only[decide_eq_false_iff_not];omega
  have ai:=I (fun W=>Hg (m) 2 (by omega) (by rw[Cn];rw[if_neg (by omega),if_pos (by omega)]) W);have ar:(m:Int)<=65535:=by omega
  have E:=I ((Bt (Cz (t:=t) (FA (b:=y) (c:=z) (r:=r) Y) (.inl (by simp;omega)))).1);have au:(2:Int)<=(n:Int):=by omega
  have ay:(n:Int)<=100000:=by omega
  have g0:decide ((n:Int)<2)=false:=by simp only[decide_eq_false_iff_not];omega
  have HB:=I X;have HN:=I hn;have HC:=I hc;have HR:=I hr;have aC:=I hB;have av:=I aa;clear X hn hc hr hB aa hu Z M;clear Y hf hy ag;go_enter Tryz.func70,Tryz.ntmps70
  go_wp2
  go_quiet (fail)
  go_wp2_with (go_at_call 118; refine (ai.o _).mono ?_; rintro e w1 ⟨⟨g1, an, rfl⟩, ab⟩
               have O:=I ((HB.o.drewN _).below ab);have k0:w1.cell? ⟨g,0,none⟩=some (.slice (some ⟨b,o,none⟩) n cap):=O.o.cell 0;have k1:w1.cell? ⟨g,1,none⟩=some (.bool false):=O.o.cell 1;have ax:=O.o.frozen 0;have az:=O.o.frozen 1)
  go_ret;exact Cq O.o E.o (Bz ((below_drewN Ag _).trans ab) _)
theorem KX (B g : Nat) (A : Option Addr) (n cap : Nat) (t x : UInt8) (y z : UInt8) (r : L) (w : World) (X : Blk w g 108 #[.slice A n cap, .bool false]) (hn : n = (t :: x :: y :: z :: r).length) (hc : n <= cap) (hr : Rd w B A (bvs (t :: x :: y :: z :: r))) (hB : B <= w.heap.size) (aa : B <= g) (hu : n <= 100000) (Y : x.toNat = 130) (hf : y.toNat * 256 + z.toNat <= r.length) (hy : ¬ y.toNat * 256 + z.toNat <= 255) :
    Calls Tryz.prog 70 #[.pointer (some ⟨g,0,none⟩),.int .u8 t.toNat] w (Took w B g t (some (t :: x :: y :: z :: r))):=by
  have h0:=X.c0;have h1:=X.c1;have f0:=X.frozen 0;have f1:=X.frozen 1;obtain⟨b,o,rfl,aA,M⟩:=Db hr (by simp);have Z:=hn;simp only[List.length_cons] at Z;have c0:w.cell? ⟨b,o,none⟩=some (.int .u8 ((t).toNat:Int)):=M 0 (by simp);have c1:w.cell? ⟨b,o+1,none⟩=some (.int .u8 ((x).toNat:Int)):=M 1 (by simp);have ar:(2:Int)<(n:Int):=by omega
  have an:(3:Int)<(n:Int):=by omega
  have c2:w.cell? ⟨b,o+2,none⟩=some (.int .u8 ((y).toNat:Int)):=M 2 (by simp);have ad:=BH y;have c3:w.cell? ⟨b,o+3,none⟩=some (.int .u8 ((z).toNat:Int)):=M 3 (by simp);have ae:=BH z;have ah:=BH x;have af:((x.toNat:Int)==129)=false:=by simp;omega
  have ak:((x.toNat:Int)==130)=true:=by simp;omega
  have q3:decide ((128:Int)<=(x.toNat:Int))=true:=by simp only[decide_eq_true_eq];omega
  have aw:decide ((4:Int)<=(n:Int))=true:=by simp only[decide_eq_true_eq];omega
  obtain⟨m,hm⟩:∃m:Nat,y.toNat*256+z.toNat=m:=⟨_,rfl⟩;have aD:bits .or .i64 ((y.toNat:Int)*256) (z.toNat:Int)=(m:Int):=by rw[Hq y.toNat z.toNat z.toNat_lt (by omega)];omega
  have aB:(0:Int)<=(m:Int):=by omega
  have q4:decide ((n:Int) - 4<(m:Int))=false:=by simp only[decide_eq_false_iff_not];omega
  have ai:=I (fun W=>Hg (m) 3 (by omega) (by rw[Cn];rw[if_neg (by omega),if_neg (by omega)]) W);have au:(m:Int)<=65535:=by omega
  have HS:=I (Gp (t:=t) ((FA (b:=y) (c:=z) (r:=r) Y).trans (by rw[hm,decide_eq_true (show 255<m by omega)])) (by simp only[List.length_cons];omega));have HF:=I (show 4+m<=(t :: x :: y :: z :: r).length by simp only[List.length_cons];omega);have aC:=Fq (P:=Tryz.prog) Tryz.underlying24 Ea (some ⟨b,o,none⟩) n cap (4+m) (4+(m:Int)) (by omega) (by omega);have aE:=Gd (P:=Tryz.prog) Tryz.underlying24 Ea (some ⟨b,o,none⟩) n cap 4 m 4 (4+(m:Int)) rfl rfl (by omega);have av:(2:Int)<=(n:Int):=by omega
  have ay:(n:Int)<=100000:=by omega
  have g0:decide ((n:Int)<2)=false:=by simp only[decide_eq_false_iff_not];omega
  have HB:=I X;have HN:=I hn;have HC:=I hc;have HR:=I hr;have aj:=I hB;have ag:=I aa;clear X hn hc hr hB aa hu Z M;clear Y hf hy;go_enter Tryz.func70,Tryz.ntmps70
  go_wp2
  go_quiet (fail)
  go_wp2_with (go_at_call 118; refine (ai.o _).mono ?_; rintro e w1 ⟨⟨g1, ao, rfl⟩, ab⟩
               have O:=I ((HB.o.drewN _).below ab);have k0:w1.cell? ⟨g,0,none⟩=some (.slice (some ⟨b,o,none⟩) n cap):=O.o.cell 0;have k1:w1.cell? ⟨g,1,none⟩=some (.bool false):=O.o.cell 1;have ax:=O.o.frozen 0;have az:=O.o.frozen 1)
  go_ret;have hn:=HN.o;subst hn;exact Mi HC.o HS.o HF.o HR.o O.o (Bz ((below_drewN Ag _).trans ab) _) aj.o ag.o
theorem OA (B g:Nat) (A:Option Addr) (n cap:Nat) (t x:UInt8) (r:L) (w:World) (O:Blk w g 108 #[.slice A n cap,.bool false]) (hn:n=(t :: x :: r).length) (hc:n<=cap) (hr:Rd w B A (bvs (t :: x :: r))) (hB:B<=w.heap.size) (ab:B<=g) (hu:n<=100000) (X:¬x.toNat<128) (aa:¬x.toNat=129) (Z:¬x.toNat=130) :
  Calls Tryz.prog 70 #[.pointer (some ⟨g,0,none⟩),.int .u8 t.toNat] w (Took w B g t (some (t :: x :: r))):=by
 have h0:=O.c0;have h1:=O.c1;have f0:=O.frozen 0;have f1:=O.frozen 1;obtain⟨b,o,rfl,ai,M⟩:=Db hr (by simp);have Y:=hn;simp only[List.length_cons] at Y;have c0:w.cell? ⟨b,o,none⟩=some (.int .u8 ((t).toNat:Int)):=M 0 (by simp);have c1:w.cell? ⟨b,o+1,none⟩=some (.int .u8 ((x).toNat:Int)):=M 1 (by simp);have ad:=BH x;have ae:((x.toNat:Int)==129)=false:=by simp;omega
 have af:((x.toNat:Int)==130)=false:=by simp;omega
 have q3:decide ((128:Int)<=(x.toNat:Int))=true:=by simp only[decide_eq_true_eq];omega
 have E:=I ((Bt (Cz (t:=t) (Ip (r:=r) X aa Z) (.inl rfl))).1);have ag:(2:Int)<=(n:Int):=by omega
 have ah:(n:Int)<=100000:=by omega
 have g0:decide ((n:Int)<2)=false:=by simp only[decide_eq_false_iff_not];omega
 have HB:=I O;have HN:=I hn;have HC:=I hc;have HR:=I hr;have aj:=I hB;have ak:=I ab;clear O hn hc hr hB ab hu Y M;clear X aa Z;go_enter Tryz.func70,Tryz.ntmps70
 go_wp2
 go_ret;exact Cq HB.o E.o (World.grownBy.refl _ _)
theorem Fs (t:UInt8) (B g:Nat) (w:World) (c:Option L) (h:RC w B g c) (hB:B<=w.heap.size) (O:B<=g) (hu:(c.getD []).length<=100000) :
  Calls Tryz.prog 70 #[.pointer (some ⟨g,0,none⟩),.int .u8 t.toNat] w (Took w B g t c):=by
 cases c with
 |none=>exact Oz t B g w h
 |some l=>
  obtain⟨A,n,cap,e,Z,rfl,X,hc,Y⟩:=h;rw[Option.getD_some] at hu
  match l,X,Y,hu with
  | [],X,Y,hu=>subst X;exact IN t B g A cap [] w Z (by simp)
  | [a],X,Y,hu=>subst X;exact IN t B g A cap [a] w Z (by simp)
  |a :: x :: r,X,Y,hu=>
   have M:n<=100000:=by rw[X];exact hu
   by_cases hne:a=t
   ·subst hne
    by_cases h1:x.toNat<128
    ·by_cases hf:x.toNat<=r.length
     ·exact Ja B g A n cap a x r w Z X hc Y hB O M h1 hf
     ·exact Jb B g A n cap a x r w Z X hc Y hB O M h1 hf
    ·by_cases h2:x.toNat=129
     ·match r,X,Y with
      | [],X,Y=>exact JW B g A n cap a x w Z X hc Y hB O M h2
      |y :: q,X,Y=>
       by_cases hf:y.toNat<=q.length
       ·by_cases hy:y.toNat<128
        ·exact Jc B g A n cap a x y q w Z X hc Y hB O M h2 hf hy
        ·exact KT B g A n cap a x y q w Z X hc Y hB O M h2 hf hy
       ·exact KS B g A n cap a x y q w Z X hc Y hB O M h2 hf
     ·by_cases h3:x.toNat=130
      ·match r,X,Y with
       | [],X,Y=>exact JX B g A n cap a x w Z X hc Y hB O M h3
       | [y],X,Y=>exact JY B g A n cap a x y w Z X hc Y hB O M h3
       |y :: z :: q,X,Y=>
        by_cases hf:y.toNat*256+z.toNat<=q.length
        ·by_cases hy:y.toNat*256+z.toNat<=255
         ·by_cases hy1:y.toNat*256+z.toNat<128
          ·exact KV B g A n cap a x y z q w Z X hc Y hB O M h3 hf hy1
          ·exact KW B g A n cap a x y z q w Z X hc Y hB O M h3 hf hy1 hy
         ·exact KX B g A n cap a x y z q w Z X hc Y hB O M h3 hf hy
        ·exact KU B g A n cap a x y z q w Z X hc Y hB O M h3 hf
      ·exact OA B g A n cap a x r w Z X hc Y hB O M h1 h2 h3
   ·exact QK B g A n cap t a x r w Z X hc Y hB O M hne
open Reg
def Ints (w:World) (B g:Nat) (c:Option L) (e:Ending) (w':World):Prop:=
 e=.returned (.int .i64 ((intC c).1:Int))/\RC w' B g (intC c).2/\w.grownBy w' (some g)
theorem QL {c:Option L} (h:Az 2 c=none\/∃p,Az 2 c=some p/\numL p=none):intC c=(0,none):=by
 rcases h with h | ⟨p,h,M⟩
 ·simp [intC,h]
 ·simp [intC,h,M]
theorem GB {w0 w:World} {B g:Nat} {c:Option L} {A:Option Addr} {n cap:Nat} {e:Bool} (O:Blk w g 108 #[.slice A n cap,.bool e]) (h:Az 2 c=none\/∃p,Az 2 c=some p/\numL p=none) (M:w0.grownBy w (some g)) :
  Ints w0 B g c (.returned (.int .i64 0)) (w.setCell ⟨g,1,none⟩ (.bool true)):=by
 unfold Ints;rw[QL h];exact⟨rfl,⟨A,n,cap,true,O.set 1 (.bool true),rfl⟩,Ar M (.inl rfl) _⟩
theorem QM (B g : Nat) (c : Option L) (w : World) (h : RC w B g c) (hB : B <= w.heap.size) (X : B <= g) (hu : (c.getD []).length <= 100000) (hn : Az 2 c = none) :
    Calls Tryz.prog 34 #[.pointer (some ⟨g,0,none⟩)] w (Ints w B g c):=by
  have HT:=I (Fs 2 B g w c h hB X hu);have HN:=I hn;clear h hB X hu hn;go_enter Tryz.func34,Tryz.ntmps34
  go_wp2_with (go_at_call 70; refine HT.o.mono ?_; rintro e w1 ⟨⟨A', aa, rfl, M, Z⟩, O, hg⟩
               rw[Gj 2 c HN.o] at O;obtain⟨A,n,cap,e,Y,rfl⟩:=O;have HB:=I Y;have h1:=Y.c1;have f1:=Y.frozen 1;clear Y M Z)
  go_ret;exact GB HB.o (.inl HN.o) hg
theorem Ju (B g:Nat) (c:Option L) (w:World) (h:RC w B g c) (hB:B<=w.heap.size) (Z:B<=g) (hu:(c.getD []).length<=100000) (p r:L) (hp:Az 2 c=some p) (hr:AR 2 c=some r) :
  Calls Tryz.prog 70 #[.pointer (some ⟨g,0,none⟩),.int .u8 2] w fun e w'=>
   (∃Y M A n cap,e=.returned (.slice Y p.length M)/\Rd w' B Y (bvs p)/\Blk w' g 108 #[.slice A n cap,.bool false]/\RS w' B A n cap false (some r))/\w.grownBy w' (some g):=by
 refine(Fs 2 B g w c h hB Z hu).mono ?_;rintro e w' ⟨⟨Y,M,rfl,_,X⟩,O,hg⟩;rw[hp] at X;rw[hr] at O;obtain⟨A,n,cap,e,hb,rfl,h2⟩:=O;rw[hp];exact⟨⟨Y,M,A,n,cap,rfl,X,hb,rfl,h2⟩,hg⟩
theorem To (B g : Nat) (c : Option L) (w : World) (h : RC w B g c) (hB : B <= w.heap.size) (X : B <= g) (hu : (c.getD []).length <= 100000) (p r : L) (hp : Az 2 c = some p) (hr : AR 2 c = some r) (hn : numL p = none) (M : p.length = 0 \/ 9 < p.length) :
    Calls Tryz.prog 34 #[.pointer (some ⟨g,0,none⟩)] w (Ints w B g c):=by
  have HT:=I (Ju B g c w h hB X hu p r hp hr);have HN:=I (show Az 2 c=none\/∃p,Az 2 c=some p/\numL p=none from .inr ⟨p,hp,hn⟩);have go : ∀ b1 b2 : Bool, ((p.length : Int) == 0) = b1 -> decide ((9 : Int) < (p.length : Int)) = b2 -> (b1 || b2) = true ->
      Calls Tryz.prog 34 #[.pointer (some ⟨g,0,none⟩)] w (Ints w B g c):=by
    intro b1 b2 g1 g2 O;clear h hB X hu hn hp hr M;cases b1<;>cases b2<;>first
      |(exact(Bool.false_ne_true O).elim)
      | (clear O
         go_enter Tryz.func34,Tryz.ntmps34
         go_wp2_with (go_at_call 70; refine HT.o.mono ?_; rintro e w1 ⟨⟨A', ab, A, n, cap, rfl, aa, Y, Z⟩, hg⟩
                      have HB:=I Y;have h1:=Y.c1;have f1:=Y.frozen 1;clear Y Z aa)
         go_ret;exact GB HB.o HN.o hg)
  refine go _ _ rfl rfl ?_;rcases M with M | M
  · simp [M]
  · simp; omega
theorem Jd {p:L} (h:numL p≠none) (i:Nat):val (p.take i)<9223372036854775808:=by
 cases p with
 |nil=>exact absurd rfl h
 |cons a r=>
  by_cases hc:7<r.length\/128<=a.toNat
  ·exact absurd (EE (.inl hc)) h
  ·exact Io (by omega) (by omega) i
theorem Nf (x y:Int) : -9223372036854775808<=bits .or .i64 x y/\bits .or .i64 x y<=9223372036854775807:=by
 show -9223372036854775808<=IntKind.i64.wrap _/\IntKind.i64.wrap _<=9223372036854775807;rw[IntKind.wrap_i64];omega
theorem OB {p:L} {v:Int} (M:p.length<=65535) (X:0<=v) (O:v<=4611686018427387904) (h:encI v=elem 2 p):numL p=some v.toNat:=by
 have e:=Mw (t:=2) (p:=dig (Ch v)) (q:=p) (r1:=[]) (r2:=[]) (by have:=Hy v;omega) M (by rw[List.append_nil,List.append_nil];exact h);rw[<-e.1,OZ _ (Ey v),Im v X O]
theorem QN (B g : Nat) (c : Option L) (w : World) (h : RC w B g c) (hB : B <= w.heap.size) (ah : B <= g) (hu : (c.getD []).length <= 100000) (p r : L) (hp : Az 2 c = some p) (hr : AR 2 c = some r) (aA : p.length ≠ 0) (hl : p.length <= 9) :
    Calls Tryz.prog 34 #[.pointer (some ⟨g,0,none⟩)] w (Ints w B g c):=by
  have HT:=I (Ju B g c w h hB ah hu p r hp hr);have HP:=I hp;have aB:=I hr;have ad:=I hB;have aN:=I ah;have HL:=I hl;have g1:((p.length:Int)==0)=false:=by simp only[beq_eq_false_iff_ne,ne_eq];omega
  have g2:decide ((9:Int)<(p.length:Int))=false:=by simp;omega
  have aL:(p.length:Int)<=9:=by omega
  clear h hB ah hu hp hr aA hl;go_enter Tryz.func34,Tryz.ntmps34
  go_wp2_with (go_at_call 70; refine HT.o.mono ?_; rintro e w1 ⟨⟨A', Y, A, n, cap, rfl, ar, hb, an⟩, hg⟩
               have HB:=I hb;have ai:=I ar;have af:=I an;have h1:=hb.c1;have f1:=hb.frozen 1;clear hb an ar)
  go_loop [4,5] (fun nv i=>∃(j:Nat) (v:Int),j<=p.length/\i=.int .i64 (j:Int)/\nv=.int .i64 v/\-9223372036854775808<=v/\v<=9223372036854775807/\(numL p≠none->v=(val (p.take j):Int))) (fun _ i=>p.length - (intOf i).toNat)
  case atStart=>exact⟨0,0,by omega,rfl,rfl,by omega,by omega,fun _=>by simp [val]⟩
  case round=>
    obtain⟨j,v,hj,rfl,rfl,aK,aP,ag⟩:=hrel;have HV:=I ag;clear ag
    by_cases hlt:j<p.length
    · obtain ⟨b, o, rfl, aQ, ae⟩ := ai.o.at_ (DT hlt)
      have av:w1.cell? ⟨b,o+j,none⟩=some (.int .u8 ((p[j]).toNat:Int)):=ae;have aD:=BH p[j];have az:=I (Ed p j hlt);have aE:=I (Jd (p:=p));have ax:=I (p[j]).toNat_lt;clear ae
      go_wp2
      refine⟨⟨j+1,_,by omega,by go_num,rfl,(Nf _ _).1,(Nf _ _).2,fun ao=>?_⟩,by simp [intOf];omega⟩;have e1:=HV.o ao;have e2:=aE.o ao (j+1);have e3:=az.o;rw[e3] at e2⊢;have e4:=Hq (val (p.take j)) (p[j]).toNat ax.o (by omega);have e5:wrap64 (v*256)=((val (p.take j):Nat):Int)*256:=by
        rw[e1];exact IntWalk.wrap64_in _ (by omega)
      rw[e5,e4];omega
    · obtain rfl : j = p.length := by omega
      clear hj hlt;rw[List.take_length] at HV
      by_cases hneg:v<0
      · have g3 : decide (v < 0) = true := by simp only [decide_eq_true_eq]; omega
        have HN:=I (show Az 2 c=none\/∃p,Az 2 c=some p/\numL p=none from .inr ⟨p,HP.o,by
          cases hx:numL p with
          |none=>rfl
          |some y=>have:=HV.o (by rw[hx];simp);omega⟩)
        clear hneg
        go_wp2
        go_quiet (fail)
        go_wp2
        go_ret;exact GB (HB.o.drewN _) HN.o (Fe hg _)
      · have g3 : decide (v < 0) = false := by simp only [decide_eq_false_iff_not]; omega
        by_cases hbig:4611686018427387904<v
        · have g4 : decide (4611686018427387904 < v) = true := by simp only [decide_eq_true_eq]; omega
          have HN:=I (show Az 2 c=none\/∃p,Az 2 c=some p/\numL p=none from .inr ⟨p,HP.o,by
            cases hx:numL p with
            |none=>rfl
            |some y=>have:=HV.o (by rw[hx];simp);have:=(EI hx).1;have:=(EI hx).2.1;omega⟩)
          clear hneg hbig
          go_wp2
          go_quiet (fail)
          go_wp2
          go_ret;exact GB (HB.o.drewN _) HN.o (Fe hg _)
        · have g4 : decide (4611686018427387904 < v) = false := by simp only [decide_eq_false_iff_not]; omega
          by_cases heq:encI v=elem 2 p
          · have ak := I heq
            have aj:=I (OB (by have:=HL.o;omega) (by omega) (by omega) heq);have ay:=I (show ¬v<0 from hneg);clear heq
            go_wp2
            refine BU 15 rfl (by kernel_rfl) ?_;refine Reg.tz 0 rfl ?_;refine Reg.tz 1 rfl ?_;refine Reg.tz 2 rfl ?_;refine Reg.tz 3 rfl ?_;refine Reg.tz 4 rfl ?_;refine Reg.tz 5 rfl ?_;refine Reg.tz 6 rfl ?_;refine Reg.tz 7 rfl ?_;refine Reg.tz 10 rfl ?_;refine Dn 8 rfl (by kernel_rfl) (by rfl) 65 #[.int .i64 v] (by go_simp) ?_;refine Calls.mono (DerR.Bs v w1.drew) ?_;rintro e w2 ⟨⟨q2,d2,rfl,aw,aH,M⟩,Z⟩;refine⟨_,rfl,Z,?_⟩;have ab:=I M;have B2:Below w1.heap.size w1 w2:=bt Ag.drew Z;clear M;simp only[Act.put,J,U,Aa];refine Reg.tx 9 rfl (fun w' hS=>by have hh:=Gy (P:=Tryz.prog) Tryz.underlying24 Tryz.underlying5 Tryz.underlying9 (n:=(encI v).length) (c:=d2) ab.o Af rfl w' hS;go_simp;rfl) ?_;refine Dn 11 rfl (by kernel_rfl) (by rfl) 73 #[.int .u8 2,.slice A' p.length Y] (by go_simp) ?_;refine Calls.mono (DerR.Eo 2 p A' p.length Y B w2 (ai.o.below (B2.mono (Nat.le_trans ad.o hg.size))) rfl (Nat.le_trans (Nat.le_trans ad.o hg.size) B2.size) (by have:=HL.o;omega)) ?_;rintro e w3 ⟨⟨q3,d3,rfl,aF,aG,O⟩,aa⟩;refine⟨_,rfl,aa,?_⟩;have X:=I O;have B3:Below w1.heap.size w1 w3:=bt B2 aa;clear O;rw[<-ak.o] at X;rw[<-ak.o];simp only[Act.put,J,U,Aa];refine Reg.tx 12 rfl (fun w' hS=>by have hh:=Gy (P:=Tryz.prog) Tryz.underlying24 Tryz.underlying5 Tryz.underlying9 (n:=(encI v).length) (c:=d3) X.o Af rfl w' hS;go_simp;rfl) ?_;refine Reg.tz 13 rfl ?_;refine Reg.tz 14 rfl ?_;refine wpAnyH_done (by kernel_rfl) ?_ _;have av:=af.o;have au:w3.cell? ⟨g,1,none⟩=some (.bool false):=(HB.o.below B3).cell 1
            go_wp2
            go_ret;have hI:intC c=(v.toNat,some r):=by simp only[intC,HP.o,aj.o,aB.o]
            unfold Ints;rw[hI];have aI:=ay.o;have aC:((v.toNat:Nat):Int)=v:=by omega
            exact⟨by show Ending.returned (.int .i64 v)=.returned (.int .i64 ((v.toNat:Nat):Int));rw[aC],⟨A,n,cap,false,HB.o.below B3,rfl,af.o.2.1,af.o.2.2.1,af.o.2.2.2.below (B3.mono (Nat.le_trans ad.o hg.size))⟩,Gl hg B3⟩
          · have aO := I heq
            have HN:=I (show Az 2 c=none\/∃p,Az 2 c=some p/\numL p=none from .inr ⟨p,HP.o,by
              cases hx:numL p with
              |none=>rfl
              |some y=>
                have e1:=HV.o (by rw[hx];simp);obtain⟨e2,e3,_⟩:=EI hx;refine absurd ?_ heq;rw[encI,Im v (by omega) (by omega),show v.toNat=y by omega,UY hx]⟩)
            have aJ:(encI v==elem 2 p)=false:=by simp only[beq_eq_false_iff_ne,ne_eq];exact heq
            clear heq
            go_wp2
            refine BU 15 rfl (by kernel_rfl) ?_;refine Reg.tz 0 rfl ?_;refine Reg.tz 1 rfl ?_;refine Reg.tz 2 rfl ?_;refine Reg.tz 3 rfl ?_;refine Reg.tz 4 rfl ?_;refine Reg.tz 5 rfl ?_;refine Reg.tz 6 rfl ?_;refine Reg.tz 7 rfl ?_;refine Reg.tz 10 rfl ?_;refine Dn 8 rfl (by kernel_rfl) (by rfl) 65 #[.int .i64 v] (by go_simp) ?_;refine Calls.mono (DerR.Bs v w1.drew) ?_;rintro e w2 ⟨⟨q2,d2,rfl,aw,aH,M⟩,Z⟩;refine⟨_,rfl,Z,?_⟩;have ab:=I M;have B2:Below w1.heap.size w1 w2:=bt Ag.drew Z;clear M;simp only[Act.put,J,U,Aa];refine Reg.tx 9 rfl (fun w' hS=>by have hh:=Gy (P:=Tryz.prog) Tryz.underlying24 Tryz.underlying5 Tryz.underlying9 (n:=(encI v).length) (c:=d2) ab.o Af rfl w' hS;go_simp;rfl) ?_;refine Dn 11 rfl (by kernel_rfl) (by rfl) 73 #[.int .u8 2,.slice A' p.length Y] (by go_simp) ?_;refine Calls.mono (DerR.Eo 2 p A' p.length Y B w2 (ai.o.below (B2.mono (Nat.le_trans ad.o hg.size))) rfl (Nat.le_trans (Nat.le_trans ad.o hg.size) B2.size) (by have:=HL.o;omega)) ?_;rintro e w3 ⟨⟨q3,d3,rfl,aF,aG,O⟩,aa⟩;refine⟨_,rfl,aa,?_⟩;have X:=I O;have B3:Below w1.heap.size w1 w3:=bt B2 aa;clear O;simp only[Act.put,J,U,Aa];refine Reg.tx 12 rfl (fun w' hS=>by have hh:=Gy (P:=Tryz.prog) Tryz.underlying24 Tryz.underlying5 Tryz.underlying9 (n:=(elem 2 p).length) (c:=d3) X.o Af rfl w' hS;go_simp;rfl) ?_;refine Reg.tz 13 rfl ?_;refine Reg.tz 14 rfl ?_;refine wpAnyH_done (by kernel_rfl) ?_ _;have au:w3.cell? ⟨g,1,none⟩=some (.bool false):=(HB.o.below B3).cell 1;have aM:=(HB.o.below B3).frozen 1
            go_wp2
            go_ret;exact GB (HB.o.below B3) HN.o (Gl hg B3)
theorem GC (B g:Nat) (c:Option L) (w:World) (h:RC w B g c) (hB:B<=w.heap.size) (M:B<=g) (hu:(c.getD []).length<=100000) :
  Calls Tryz.prog 34 #[.pointer (some ⟨g,0,none⟩)] w (Ints w B g c):=by
 cases hp:Az 2 c with
 |none=>exact QM B g c w h hB M hu hp
 |some p=>
  obtain⟨r,O⟩:∃r,AR 2 c=some r:=by
   cases c with
   |none=>simp [Az] at hp
   |some s=>
    cases hs:Bk 2 s with
    |none=>rw[(Bt hs).1] at hp;cases hp
    |some x=>exact⟨_,(DB (b:=x.1) (r:=x.2) hs).2⟩
  by_cases hl:p.length=0\/9<p.length
  ·have X:numL p=none:=by
    cases hx:numL p with
    |none=>rfl
    |some y=>obtain⟨_,_,Y,Z,_⟩:=EI hx;omega
   exact To B g c w h hB M hu p r hp O X hl
  ·exact QN B g c w h hB M hu p r hp O (by omega) (by omega)
theorem IP (B g:Nat) (c:Option L) (w:World) (h:RC w B g c) (hB:B<=w.heap.size) (O:B<=g) (hu:(c.getD []).length<=100000) :
  Calls Tryz.prog 36 #[.pointer (some ⟨g,0,none⟩)] w (Took w B g 4 c):=by
 have HT:=I (Fs 4 B g w c h hB O hu);clear h hB O hu;go_enter Tryz.func36,Tryz.ntmps36
 go_wp2_with (go_at_call 70;refine HT.o.mono ?_;rintro e w1 ⟨⟨A',X,rfl,M,Z⟩,Y,hg⟩)
 go_ret;exact⟨⟨A',X,rfl,M,Z⟩,Y,hg⟩
theorem KY (B g : Nat) (c : Option L) (w : World) (h : RC w B g c) (hB : B <= w.heap.size) (M : B <= g) (hu : (c.getD []).length <= 100000) :
    Calls Tryz.prog 71 #[.pointer (some ⟨g,0,none⟩)] w fun e w'=>e=.returned (.string ⟨((Az 27 c).getD []).toArray⟩)/\RC w' B g (AR 27 c)/\w.grownBy w' (some g):=by
  have HT:=I (Fs 27 B g w c h hB M hu);clear h hB M hu;go_enter Tryz.func71,Tryz.ntmps71
  go_wp2_with (go_at_call 70; refine HT.o.mono ?_; rintro e w1 ⟨⟨A', O, rfl, Z, Y⟩, X, hg⟩
               have aa:=AY (P:=Tryz.prog) w1 24 5 Tryz.underlying24 Tryz.underlying5 Y ((Az 27 c).getD []).length O rfl 9 Tryz.underlying9)
  go_ret;exact⟨rfl,X,hg⟩
theorem Je {t:UInt8} {c:Option L} {p:L} (h:Az t c=some p):∃r,AR t c=some r:=by
 cases c with
 |none=>simp [Az] at h
 |some s=>
  cases hs:Bk t s with
  |none=>rw[(Bt hs).1] at h;cases h
  |some x=>exact⟨_,(DB (b:=x.1) (r:=x.2) hs).2⟩
theorem GD (t : UInt8) (B g : Nat) (c : Option L) (w : World) (h : RC w B g c) (hB : B <= w.heap.size) (Y : B <= g) (hu : (c.getD []).length <= 100000) :
    Calls Tryz.prog 32 #[.pointer (some ⟨g,0,none⟩),.int .u8 t.toNat] w fun e w'=>
      (∃g',e=.returned (.pointer (some ⟨g',0,none⟩))/\w.heap.size<=g'/\RC w' B g' (Az t c))/\RC w' B g (AR t c)/\w.grownBy w' (some g):=by
  have HT:=I (Fs t B g w c h hB Y hu);have HB:=I hB;cases M:Az t c with
  |none=>
    have hn:=Gj t c M;unfold Took at HT;rw[M,hn] at HT;rw[hn];clear h hB Y hu M hn;go_enter Tryz.func32,Tryz.ntmps32
    go_wp2_with (go_at_call 70; refine HT.o.mono ?_; rintro e w1 ⟨⟨A', ad, rfl, O, Z⟩, ⟨A, n, cap, e, M, rfl⟩, hg⟩
                 have aa:=I M;have h1:=M.c1;clear M)
    go_ret;exact⟨⟨_,rfl,hg.size,_,_,_,true,Blk.new w1 _ _,rfl⟩,⟨A,n,cap,true,aa.o.alloc _,rfl⟩,Cb hg _⟩
  |some p=>
    obtain⟨r,hn⟩:=Je M;unfold Took at HT;rw[M,hn] at HT;rw[hn];clear h hB Y hu M hn;go_enter Tryz.func32,Tryz.ntmps32
    go_wp2_with (go_at_call 70; refine HT.o.mono ?_; rintro e w1 ⟨⟨A', ad, rfl, O, Z⟩, ⟨A, n, cap, e, M, rfl, ab⟩, hg⟩
                 have aa:=I M;have X:=I ab;have ae:=I Z;have af:=I O;have h1:=M.c1;clear M ab Z O)
    go_ret;have hs:=Nat.le_trans HB.o hg.size;exact⟨⟨_,rfl,hg.size,_,_,_,false,Blk.new w1 _ _,rfl,rfl,af.o,ae.o.alloc hs _⟩,⟨A,n,cap,false,aa.o.alloc _,rfl,X.o.1,X.o.2.1,X.o.2.2.alloc hs _⟩,Cb hg _⟩
theorem Jv (B g:Nat) (c:Option L) (w:World) (h:RC w B g c):Calls Tryz.prog 72 #[.pointer (some ⟨g,0,none⟩)] w fun e w'=>e=.returned (.bool (DerC.MZ c))/\w=w':=by
 obtain⟨A,n,cap,e,X,O⟩:=h;have h0:=X.c0;have Z:=X.c1;cases c with
 |none=>
  obtain rfl:e=true:=O;clear X;go_enter Tryz.func72,Tryz.ntmps72
  go_wp2
  go_ret;exact⟨rfl,rfl⟩
 |some l=>
  obtain⟨rfl,Y,_⟩:=O;clear X
  by_cases hz:n=0
  ·have M:DerC.MZ (some l)=true:=by
    have:l = []:=List.length_eq_zero_iff.1 (by omega);subst this;rfl
   subst hz;rw[M];clear M Y;go_enter Tryz.func72,Tryz.ntmps72
   go_wp2
   go_ret;exact⟨rfl,rfl⟩
  ·have M:DerC.MZ (some l)=false:=by
    cases l with
    |nil=>exact absurd Y hz
    |cons a r=>rfl
   have g0:((n:Int)==0)=false:=by simp only[beq_eq_false_iff_ne,ne_eq];omega
   rw[M];clear M Y hz;go_enter Tryz.func72,Tryz.ntmps72
   go_wp2
   go_ret;exact⟨rfl,rfl⟩
end DerR
end Go.Proofs.YtlccngianpfalaaGreat
