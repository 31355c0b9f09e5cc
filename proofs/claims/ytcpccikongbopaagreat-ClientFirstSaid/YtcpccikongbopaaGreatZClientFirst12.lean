import Derived.Test.YtcpccikongbopaaGreatZClientFirst8
import Derived.Test.YtcpccikongbopaaGreatZClientFirst11
set_option maxHeartbeats 25600000
set_option maxRecDepth 100000
set_option linter.unusedVariables false
set_option linter.unusedSimpArgs false
namespace Go.Proofs.YtcpccikongbopaaGreat
namespace DerR
open Go.RowKit Ad DerP
theorem Cz {w:World} {B:Nat} {A:Option Addr} {l:L} (h:Rd w B A (bvs l)) (M:0<l.length):∃b o,A=some ⟨b,o,none⟩/\b<B/\∀i (E:i<l.length),w.cell? ⟨b,o+i,none⟩=some (.int .u8 ((l[i]).toNat:Int)):=by
 obtain⟨b,o,D,F,_⟩:=h.at_ (DH M);refine⟨b,o,D,F,fun i E=>?_⟩;obtain⟨Y,X,e,_,O⟩:=h.at_ (DH E);rw[D] at e;injection e with e;injection e with e1 e2;subst e1 e2;exact O
theorem FY {t:UInt8} {s:L} {m k:Nat} (h:lenR s=(m,k,true)) (D:m+k<=s.length):Be t (t :: s)=some (((t :: s).drop (k+1)).take m,(t :: s).drop (k+1+m)):=by
 rw[Be,h,if_pos ⟨rfl,rfl,D⟩]
 congr 2
 rw[List.drop_drop,show k+1+m=(k+m)+1 by omega]
 rfl
theorem Cm {t:UInt8} {s:L} {m k:Nat} {ok:Bool} (h:lenR s=(m,k,ok)) (D:ok=false\/¬m+k<=s.length):Be t (t :: s)=none:=by
 rw[Be,h];refine if_neg fun E=>?_
 rcases D with rfl | D
 ·exact absurd E.2.1 (by simp)
 ·exact D E.2.2
theorem GM (n k:Nat) (h:n<=65535) (hk:(szL n).length=k) (w:World):Calls Tryz.prog 130 #[.int .i64 (n:Int)] w fun e w'=>(∃g cap,e=.returned (.slice (some ⟨g,0,none⟩) k cap))/\Below w.heap.size w w':=by
 subst hk;exact(MM n h w).mono fun e w' ⟨⟨g,cap,he,_⟩,D⟩=>⟨⟨g,cap,he⟩,D⟩
theorem DN:∀w:World,(sizeOf 5).run Tryz.prog w=.ok 1 w:=fun w=>by kernel_rfl
theorem LH {w E:World} {B g:Nat} {t:UInt8} {l:L} {A:Option Addr} {cap p m:Nat} (O:l.length<=cap) (hs:Be t l=some ((l.drop p).take m,l.drop (p+m))) (hf:p+m<=l.length)
  (M:Rd w B A (bvs l)) (hb:Blk E g 115 #[.slice A l.length cap,.bool false]) (Z:w.grownBy E (some g)) (hB:B<=w.heap.size) (aa:B<=g) :
  Took w B g t (some l) (.returned (.slice (cutA A cap p) m (cap - p))) (E.setCell ⟨g,0,none⟩ (.slice (cutA A cap (p+m)) (l.length - (p+m)) (cap - (p+m)))):=by
 obtain⟨X,Y⟩:=Dr hs;have D:=Ay (p:=⟨g,0,none⟩) Z (.inl rfl) (.slice (cutA A cap (p+m)) (l.length - (p+m)) (cap - (p+m)));have hk:∀xs F,Rd w B F xs->Rd (E.setCell ⟨g,0,none⟩ (.slice (cutA A cap (p+m)) (l.length - (p+m)) (cap - (p+m)))) B F xs:=fun xs F h=>h.grown D hB (fun k hk=>by injection hk with hk;omega)
 have hlen:((l.drop p).take m).length=m:=by rw[List.length_take,List.length_drop];omega
 unfold Took;rw[X,Y];simp only[Option.getD_some];refine⟨⟨cutA A cap p,cap - p,by rw[hlen],by rw[hlen];omega,hk _ _ (Vy (Uh M p O) m)⟩,⟨_,_,_,false,hb.set 0 _,rfl,by rw[List.length_drop],by omega,hk _ _ (Uh M (p+m) O)⟩,D⟩
theorem Qp (B g:Nat) (A:Option Addr) (n cap:Nat) (t a x:UInt8) (r:L) (w:World) (M:Blk w g 115 #[.slice A n cap,.bool false]) (Y:n=(a :: x :: r).length) (hc:n<=cap) (Z:Rd w B A (bvs (a :: x :: r))) (hB:B<=w.heap.size) (O:B<=g) (hu:n<=100000) (F:a≠t) :
  Calls Tryz.prog 82 #[.pointer (some ⟨g,0,none⟩),.int .u8 t.toNat] w (Took w B g t (some (a :: x :: r))):=by
 have h0:w.cell? ⟨g,0,none⟩=some (.slice A n cap):=M.cell 0;have h1:w.cell? ⟨g,1,none⟩=some (.bool false):=M.cell 1;have f0:=M.frozen 0;have f1:=M.frozen 1;obtain⟨b,o,rfl,ab,D⟩:=Cz Z (by simp);have X:=Y;simp only[List.length_cons] at X;have c0:w.cell? ⟨b,o,none⟩=some (.int .u8 ((a).toNat:Int)):=D 0 (by simp);have E:=I ((Bk (OH (s:=x :: r) F)).1);have q1:((a.toNat:Int)==(t.toNat:Int))=false:=by simp;exact fun e=>F (UInt8.toNat_inj.1 (by omega))
 have q2:((a.toNat:Int) != (t.toNat:Int))=true:=by simp;exact fun e=>F (UInt8.toNat_inj.1 (by omega))
 have ad:(2:Int)<=(n:Int):=by omega
 have af:(n:Int)<=100000:=by omega
 have g0:decide ((n:Int)<2)=false:=by simp only[decide_eq_false_iff_not];omega
 have HB:=I M;have HN:=I Y;have HC:=I hc;have HR:=I Z;have ae:=I hB;have aa:=I O;clear M Y hc Z hB O hu X D;clear F;go_enter Tryz.func82,Tryz.ntmps82
 go_wp2
 go_ret;exact Cb HB.o E.o (World.grownBy.refl _ _)
theorem IH (B g : Nat) (A : Option Addr) (n cap : Nat) (t x : UInt8) (r : L) (w : World) (F : Blk w g 115 #[.slice A n cap, .bool false]) (Y : n = (t :: x :: r).length) (hc : n <= cap) (hr : Rd w B A (bvs (t :: x :: r))) (hB : B <= w.heap.size) (O : B <= g) (hu : n <= 100000) (X : x.toNat < 128) (hf : x.toNat <= r.length) :
    Calls Tryz.prog 82 #[.pointer (some ⟨g,0,none⟩),.int .u8 t.toNat] w (Took w B g t (some (t :: x :: r))):=by
  have h0:w.cell? ⟨g,0,none⟩=some (.slice A n cap):=F.cell 0;have h1:w.cell? ⟨g,1,none⟩=some (.bool false):=F.cell 1;have f0:=F.frozen 0;have f1:=F.frozen 1;obtain⟨b,o,rfl,ai,D⟩:=Cz hr (by simp);have Z:=Y;simp only[List.length_cons] at Z;have c0:w.cell? ⟨b,o,none⟩=some (.int .u8 ((t).toNat:Int)):=D 0 (by simp);have c1:w.cell? ⟨b,o+1,none⟩=some (.int .u8 ((x).toNat:Int)):=D 1 (by simp);have ag:=By x;have ad:((x.toNat:Int)==129)=false:=by simp;omega
  have af:((x.toNat:Int)==130)=false:=by simp;omega
  have q3:decide ((128:Int)<=(x.toNat:Int))=false:=by simp only[decide_eq_false_iff_not];omega
  have q4:decide ((n:Int) - 2<(x.toNat:Int))=false:=by simp only[decide_eq_false_iff_not];omega
  have aa:=I (fun W=>GM (x.toNat) 1 (by omega) (by rw[BZ];rw[if_pos (by omega)]) W);have ak:(x.toNat:Int)<=65535:=by omega
  have HS:=I (FY (t:=t) (Fg (r:=r) X) (by simp only[List.length_cons];omega));have HF:=I (show 2+x.toNat<=(t :: x :: r).length by simp only[List.length_cons];omega);have al:=EP (P:=Tryz.prog) Tryz.underlying25 DN (some ⟨b,o,none⟩) n cap (2+x.toNat) (2+(x.toNat:Int)) (by omega) (by omega);have au:=FM (P:=Tryz.prog) Tryz.underlying25 DN (some ⟨b,o,none⟩) n cap 2 x.toNat 2 (2+(x.toNat:Int)) rfl rfl (by omega);have aj:(2:Int)<=(n:Int):=by omega
  have ar:(n:Int)<=100000:=by omega
  have g0:decide ((n:Int)<2)=false:=by simp only[decide_eq_false_iff_not];omega
  have HB:=I F;have HN:=I Y;have HC:=I hc;have HR:=I hr;have ae:=I hB;have ab:=I O;clear F Y hc hr hB O hu Z D;clear X hf;go_enter Tryz.func82,Tryz.ntmps82
  go_wp2_with (go_at_call 130; refine (aa.o _).mono ?_; rintro e w1 ⟨⟨g1, ah, rfl⟩, M⟩
               have E:=I (HB.o.below M);have k0:w1.cell? ⟨g,0,none⟩=some (.slice (some ⟨b,o,none⟩) n cap):=E.o.cell 0;have k1:w1.cell? ⟨g,1,none⟩=some (.bool false):=E.o.cell 1;have an:=E.o.frozen 0;have ao:=E.o.frozen 1)
  go_ret;have Y:=HN.o;subst Y;exact LH HC.o HS.o HF.o HR.o E.o (Bo M _) ae.o ab.o
theorem II (B g:Nat) (A:Option Addr) (n cap:Nat) (t x:UInt8) (r:L) (w:World) (F:Blk w g 115 #[.slice A n cap,.bool false]) (hn:n=(t :: x :: r).length) (hc:n<=cap) (hr:Rd w B A (bvs (t :: x :: r))) (hB:B<=w.heap.size) (M:B<=g) (hu:n<=100000) (O:x.toNat<128) (hf:¬x.toNat<=r.length) :
  Calls Tryz.prog 82 #[.pointer (some ⟨g,0,none⟩),.int .u8 t.toNat] w (Took w B g t (some (t :: x :: r))):=by
 have h0:w.cell? ⟨g,0,none⟩=some (.slice A n cap):=F.cell 0;have h1:w.cell? ⟨g,1,none⟩=some (.bool false):=F.cell 1;have f0:=F.frozen 0;have f1:=F.frozen 1;obtain⟨b,o,rfl,ad,D⟩:=Cz hr (by simp);have X:=hn;simp only[List.length_cons] at X;have c0:w.cell? ⟨b,o,none⟩=some (.int .u8 ((t).toNat:Int)):=D 0 (by simp);have c1:w.cell? ⟨b,o+1,none⟩=some (.int .u8 ((x).toNat:Int)):=D 1 (by simp);have aa:=By x;have Y:((x.toNat:Int)==129)=false:=by simp;omega
 have Z:((x.toNat:Int)==130)=false:=by simp;omega
 have q3:decide ((128:Int)<=(x.toNat:Int))=false:=by simp only[decide_eq_false_iff_not];omega
 have E:=I ((Bk (Cm (t:=t) (Fg (r:=r) O) (.inr (by simp only[List.length_cons];omega)))).1);have q4:decide ((n:Int) - 2<(x.toNat:Int))=true:=by simp only[decide_eq_true_eq];omega
 have ae:(2:Int)<=(n:Int):=by omega
 have ag:(n:Int)<=100000:=by omega
 have g0:decide ((n:Int)<2)=false:=by simp only[decide_eq_false_iff_not];omega
 have HB:=I F;have HN:=I hn;have HC:=I hc;have HR:=I hr;have af:=I hB;have ab:=I M;clear F hn hc hr hB M hu X D;clear O hf;go_enter Tryz.func82,Tryz.ntmps82
 go_wp2
 go_ret;exact Cb HB.o E.o (World.grownBy.refl _ _)
theorem JC (B g:Nat) (A:Option Addr) (n cap:Nat) (t x:UInt8)  (w:World) (F:Blk w g 115 #[.slice A n cap,.bool false]) (hn:n=(t :: x :: []).length) (hc:n<=cap) (hr:Rd w B A (bvs (t :: x :: []))) (hB:B<=w.heap.size) (M:B<=g) (hu:n<=100000) (O:x.toNat=129) :
  Calls Tryz.prog 82 #[.pointer (some ⟨g,0,none⟩),.int .u8 t.toNat] w (Took w B g t (some (t :: x :: []))):=by
 have h0:w.cell? ⟨g,0,none⟩=some (.slice A n cap):=F.cell 0;have h1:w.cell? ⟨g,1,none⟩=some (.bool false):=F.cell 1;have f0:=F.frozen 0;have f1:=F.frozen 1;obtain⟨b,o,rfl,ae,D⟩:=Cz hr (by simp);have X:=hn;simp only[List.length_cons,List.length_nil] at X;have c0:w.cell? ⟨b,o,none⟩=some (.int .u8 ((t).toNat:Int)):=D 0 (by simp);have c1:w.cell? ⟨b,o+1,none⟩=some (.int .u8 ((x).toNat:Int)):=D 1 (by simp);have aa:=By x;have Y:((x.toNat:Int)==129)=true:=by simp;omega
 have Z:((x.toNat:Int)==130)=false:=by simp;omega
 have q3:decide ((128:Int)<=(x.toNat:Int))=true:=by simp only[decide_eq_true_eq];omega
 have ab:decide ((3:Int)<=(n:Int))=false:=by simp only[decide_eq_false_iff_not];omega
 have E:=I ((Bk (Cm (t:=t) (Em O) (.inl rfl))).1);have af:(2:Int)<=(n:Int):=by omega
 have ah:(n:Int)<=100000:=by omega
 have g0:decide ((n:Int)<2)=false:=by simp only[decide_eq_false_iff_not];omega
 have HB:=I F;have HN:=I hn;have HC:=I hc;have HR:=I hr;have ag:=I hB;have ad:=I M;clear F hn hc hr hB M hu X D;clear O;go_enter Tryz.func82,Tryz.ntmps82
 go_wp2
 go_ret;exact Cb HB.o E.o (World.grownBy.refl _ _)
theorem Kx (B g:Nat) (A:Option Addr) (n cap:Nat) (t x:UInt8) (y:UInt8) (r:L) (w:World) (F:Blk w g 115 #[.slice A n cap,.bool false]) (hn:n=(t :: x :: y :: r).length) (hc:n<=cap) (hr:Rd w B A (bvs (t :: x :: y :: r))) (hB:B<=w.heap.size) (M:B<=g) (hu:n<=100000) (O:x.toNat=129) (hf:¬y.toNat<=r.length) :
  Calls Tryz.prog 82 #[.pointer (some ⟨g,0,none⟩),.int .u8 t.toNat] w (Took w B g t (some (t :: x :: y :: r))):=by
 have h0:w.cell? ⟨g,0,none⟩=some (.slice A n cap):=F.cell 0;have h1:w.cell? ⟨g,1,none⟩=some (.bool false):=F.cell 1;have f0:=F.frozen 0;have f1:=F.frozen 1;obtain⟨b,o,rfl,ag,D⟩:=Cz hr (by simp);have X:=hn;simp only[List.length_cons] at X;have c0:w.cell? ⟨b,o,none⟩=some (.int .u8 ((t).toNat:Int)):=D 0 (by simp);have c1:w.cell? ⟨b,o+1,none⟩=some (.int .u8 ((x).toNat:Int)):=D 1 (by simp);have ad:(2:Int)<(n:Int):=by omega
 have c2:w.cell? ⟨b,o+2,none⟩=some (.int .u8 ((y).toNat:Int)):=D 2 (by simp);have Y:=By y;have ab:=By x;have Z:((x.toNat:Int)==129)=true:=by simp;omega
 have aa:((x.toNat:Int)==130)=false:=by simp;omega
 have q3:decide ((128:Int)<=(x.toNat:Int))=true:=by simp only[decide_eq_true_eq];omega
 have ae:decide ((3:Int)<=(n:Int))=true:=by simp only[decide_eq_true_eq];omega
 have E:=I ((Bk (Cm (t:=t) (FP (b:=y) (r:=r) O) (.inr (by simp only[List.length_cons];omega)))).1);have q4:decide ((n:Int) - 3<(y.toNat:Int))=true:=by simp only[decide_eq_true_eq];omega
 have ah:(2:Int)<=(n:Int):=by omega
 have aj:(n:Int)<=100000:=by omega
 have g0:decide ((n:Int)<2)=false:=by simp only[decide_eq_false_iff_not];omega
 have HB:=I F;have HN:=I hn;have HC:=I hc;have HR:=I hr;have ai:=I hB;have af:=I M;clear F hn hc hr hB M hu X D;clear O hf;go_enter Tryz.func82,Tryz.ntmps82
 go_wp2
 go_ret;exact Cb HB.o E.o (World.grownBy.refl _ _)
theorem IJ (B g : Nat) (A : Option Addr) (n cap : Nat) (t x : UInt8) (y : UInt8) (r : L) (w : World) (M : Blk w g 115 #[.slice A n cap, .bool false]) (hn : n = (t :: x :: y :: r).length) (hc : n <= cap) (hr : Rd w B A (bvs (t :: x :: y :: r))) (hB : B <= w.heap.size) (X : B <= g) (hu : n <= 100000) (Y : x.toNat = 129) (hf : y.toNat <= r.length) (hy : y.toNat < 128) :
    Calls Tryz.prog 82 #[.pointer (some ⟨g,0,none⟩),.int .u8 t.toNat] w (Took w B g t (some (t :: x :: y :: r))):=by
  have h0:w.cell? ⟨g,0,none⟩=some (.slice A n cap):=M.cell 0;have h1:w.cell? ⟨g,1,none⟩=some (.bool false):=M.cell 1;have f0:=M.frozen 0;have f1:=M.frozen 1;obtain⟨b,o,rfl,ak,D⟩:=Cz hr (by simp);have Z:=hn;simp only[List.length_cons] at Z;have c0:w.cell? ⟨b,o,none⟩=some (.int .u8 ((t).toNat:Int)):=D 0 (by simp);have c1:w.cell? ⟨b,o+1,none⟩=some (.int .u8 ((x).toNat:Int)):=D 1 (by simp);have ag:(2:Int)<(n:Int):=by omega
  have c2:w.cell? ⟨b,o+2,none⟩=some (.int .u8 ((y).toNat:Int)):=D 2 (by simp);have ab:=By y;have af:=By x;have ad:((x.toNat:Int)==129)=true:=by simp;omega
  have ae:((x.toNat:Int)==130)=false:=by simp;omega
  have q3:decide ((128:Int)<=(x.toNat:Int))=true:=by simp only[decide_eq_true_eq];omega
  have ai:decide ((3:Int)<=(n:Int))=true:=by simp only[decide_eq_true_eq];omega
  have q4:decide ((n:Int) - 3<(y.toNat:Int))=false:=by simp only[decide_eq_false_iff_not];omega
  have aa:=I (fun W=>GM (y.toNat) 1 (by omega) (by rw[BZ];rw[if_pos (by omega)]) W);have an:(y.toNat:Int)<=65535:=by omega
  have E:=I ((Bk (Cm (t:=t) (FP (b:=y) (r:=r) Y) (.inl (by simp;omega)))).1);have al:(2:Int)<=(n:Int):=by omega
  have au:(n:Int)<=100000:=by omega
  have g0:decide ((n:Int)<2)=false:=by simp only[decide_eq_false_iff_not];omega
  have HB:=I M;have HN:=I hn;have HC:=I hc;have HR:=I hr;have ar:=I hB;have aj:=I X;clear M hn hc hr hB X hu Z D;clear Y hf hy;go_enter Tryz.func82,Tryz.ntmps82
  go_wp2_with (go_at_call 130; refine (aa.o _).mono ?_; rintro e w1 ⟨⟨g1, ah, rfl⟩, O⟩
               have F:=I (HB.o.below O);have k0:w1.cell? ⟨g,0,none⟩=some (.slice (some ⟨b,o,none⟩) n cap):=F.o.cell 0;have k1:w1.cell? ⟨g,1,none⟩=some (.bool false):=F.o.cell 1;have ao:=F.o.frozen 0;have av:=F.o.frozen 1)
  go_ret;exact Cb F.o E.o (Bo O _)
theorem Ky (B g : Nat) (A : Option Addr) (n cap : Nat) (t x : UInt8) (y : UInt8) (r : L) (w : World) (F : Blk w g 115 #[.slice A n cap, .bool false]) (Y : n = (t :: x :: y :: r).length) (hc : n <= cap) (hr : Rd w B A (bvs (t :: x :: y :: r))) (hB : B <= w.heap.size) (O : B <= g) (hu : n <= 100000) (X : x.toNat = 129) (hf : y.toNat <= r.length) (hy : ¬ y.toNat < 128) :
    Calls Tryz.prog 82 #[.pointer (some ⟨g,0,none⟩),.int .u8 t.toNat] w (Took w B g t (some (t :: x :: y :: r))):=by
  have h0:w.cell? ⟨g,0,none⟩=some (.slice A n cap):=F.cell 0;have h1:w.cell? ⟨g,1,none⟩=some (.bool false):=F.cell 1;have f0:=F.frozen 0;have f1:=F.frozen 1;obtain⟨b,o,rfl,al,D⟩:=Cz hr (by simp);have Z:=Y;simp only[List.length_cons] at Z;have c0:w.cell? ⟨b,o,none⟩=some (.int .u8 ((t).toNat:Int)):=D 0 (by simp);have c1:w.cell? ⟨b,o+1,none⟩=some (.int .u8 ((x).toNat:Int)):=D 1 (by simp);have ai:(2:Int)<(n:Int):=by omega
  have c2:w.cell? ⟨b,o+2,none⟩=some (.int .u8 ((y).toNat:Int)):=D 2 (by simp);have ad:=By y;have ah:=By x;have ae:((x.toNat:Int)==129)=true:=by simp;omega
  have ag:((x.toNat:Int)==130)=false:=by simp;omega
  have q3:decide ((128:Int)<=(x.toNat:Int))=true:=by simp only[decide_eq_true_eq];omega
  have ak:decide ((3:Int)<=(n:Int))=true:=by simp only[decide_eq_true_eq];omega
  have q4:decide ((n:Int) - 3<(y.toNat:Int))=false:=by simp only[decide_eq_false_iff_not];omega
  have aa:=I (fun W=>GM (y.toNat) 2 (by omega) (by rw[BZ];rw[if_neg (by omega),if_pos (by omega)]) W);have ao:(y.toNat:Int)<=65535:=by omega
  have HS:=I (FY (t:=t) ((FP (b:=y) (r:=r) X).trans (by rw[decide_eq_true (show 128<=y.toNat by omega)])) (by simp only[List.length_cons];omega));have HF:=I (show 3+y.toNat<=(t :: x :: y :: r).length by simp only[List.length_cons];omega);have ar:=EP (P:=Tryz.prog) Tryz.underlying25 DN (some ⟨b,o,none⟩) n cap (3+y.toNat) (3+(y.toNat:Int)) (by omega) (by omega);have ax:=FM (P:=Tryz.prog) Tryz.underlying25 DN (some ⟨b,o,none⟩) n cap 3 y.toNat 3 (3+(y.toNat:Int)) rfl rfl (by omega);have an:(2:Int)<=(n:Int):=by omega
  have av:(n:Int)<=100000:=by omega
  have g0:decide ((n:Int)<2)=false:=by simp only[decide_eq_false_iff_not];omega
  have HB:=I F;have HN:=I Y;have HC:=I hc;have HR:=I hr;have af:=I hB;have ab:=I O;clear F Y hc hr hB O hu Z D;clear X hf hy;go_enter Tryz.func82,Tryz.ntmps82
  go_wp2_with (go_at_call 130; refine (aa.o _).mono ?_; rintro e w1 ⟨⟨g1, aj, rfl⟩, M⟩
               have E:=I (HB.o.below M);have k0:w1.cell? ⟨g,0,none⟩=some (.slice (some ⟨b,o,none⟩) n cap):=E.o.cell 0;have k1:w1.cell? ⟨g,1,none⟩=some (.bool false):=E.o.cell 1;have au:=E.o.frozen 0;have aw:=E.o.frozen 1)
  go_ret;have Y:=HN.o;subst Y;exact LH HC.o HS.o HF.o HR.o E.o (Bo M _) af.o ab.o
theorem JD (B g:Nat) (A:Option Addr) (n cap:Nat) (t x:UInt8)  (w:World) (F:Blk w g 115 #[.slice A n cap,.bool false]) (hn:n=(t :: x :: []).length) (hc:n<=cap) (hr:Rd w B A (bvs (t :: x :: []))) (hB:B<=w.heap.size) (M:B<=g) (hu:n<=100000) (O:x.toNat=130) :
  Calls Tryz.prog 82 #[.pointer (some ⟨g,0,none⟩),.int .u8 t.toNat] w (Took w B g t (some (t :: x :: []))):=by
 have h0:w.cell? ⟨g,0,none⟩=some (.slice A n cap):=F.cell 0;have h1:w.cell? ⟨g,1,none⟩=some (.bool false):=F.cell 1;have f0:=F.frozen 0;have f1:=F.frozen 1;obtain⟨b,o,rfl,ad,D⟩:=Cz hr (by simp);have X:=hn;simp only[List.length_cons,List.length_nil] at X;have c0:w.cell? ⟨b,o,none⟩=some (.int .u8 ((t).toNat:Int)):=D 0 (by simp);have c1:w.cell? ⟨b,o+1,none⟩=some (.int .u8 ((x).toNat:Int)):=D 1 (by simp);have aa:=By x;have Y:((x.toNat:Int)==129)=false:=by simp;omega
 have Z:((x.toNat:Int)==130)=true:=by simp;omega
 have q3:decide ((128:Int)<=(x.toNat:Int))=true:=by simp only[decide_eq_true_eq];omega
 have af:decide ((4:Int)<=(n:Int))=false:=by simp only[decide_eq_false_iff_not];omega
 have E:=I ((Bk (Cm (t:=t) (Eo O) (.inl rfl))).1);have ae:(2:Int)<=(n:Int):=by omega
 have ah:(n:Int)<=100000:=by omega
 have g0:decide ((n:Int)<2)=false:=by simp only[decide_eq_false_iff_not];omega
 have HB:=I F;have HN:=I hn;have HC:=I hc;have HR:=I hr;have ag:=I hB;have ab:=I M;clear F hn hc hr hB M hu X D;clear O;go_enter Tryz.func82,Tryz.ntmps82
 go_wp2
 go_ret;exact Cb HB.o E.o (World.grownBy.refl _ _)
theorem JE (B g:Nat) (A:Option Addr) (n cap:Nat) (t x:UInt8) (y:UInt8) (w:World) (F:Blk w g 115 #[.slice A n cap,.bool false]) (hn:n=(t :: x :: y :: []).length) (hc:n<=cap) (hr:Rd w B A (bvs (t :: x :: y :: []))) (hB:B<=w.heap.size) (M:B<=g) (hu:n<=100000) (O:x.toNat=130) :
  Calls Tryz.prog 82 #[.pointer (some ⟨g,0,none⟩),.int .u8 t.toNat] w (Took w B g t (some (t :: x :: y :: []))):=by
 have h0:w.cell? ⟨g,0,none⟩=some (.slice A n cap):=F.cell 0;have h1:w.cell? ⟨g,1,none⟩=some (.bool false):=F.cell 1;have f0:=F.frozen 0;have f1:=F.frozen 1;obtain⟨b,o,rfl,ad,D⟩:=Cz hr (by simp);have X:=hn;simp only[List.length_cons,List.length_nil] at X;have c0:w.cell? ⟨b,o,none⟩=some (.int .u8 ((t).toNat:Int)):=D 0 (by simp);have c1:w.cell? ⟨b,o+1,none⟩=some (.int .u8 ((x).toNat:Int)):=D 1 (by simp);have aa:=By x;have Y:((x.toNat:Int)==129)=false:=by simp;omega
 have Z:((x.toNat:Int)==130)=true:=by simp;omega
 have q3:decide ((128:Int)<=(x.toNat:Int))=true:=by simp only[decide_eq_true_eq];omega
 have af:decide ((4:Int)<=(n:Int))=false:=by simp only[decide_eq_false_iff_not];omega
 have E:=I ((Bk (Cm (t:=t) (Ep (b:=y) O) (.inl rfl))).1);have ae:(2:Int)<=(n:Int):=by omega
 have ah:(n:Int)<=100000:=by omega
 have g0:decide ((n:Int)<2)=false:=by simp only[decide_eq_false_iff_not];omega
 have HB:=I F;have HN:=I hn;have HC:=I hc;have HR:=I hr;have ag:=I hB;have ab:=I M;clear F hn hc hr hB M hu X D;clear O;go_enter Tryz.func82,Tryz.ntmps82
 go_wp2
 go_ret;exact Cb HB.o E.o (World.grownBy.refl _ _)
theorem Kz (B g:Nat) (A:Option Addr) (n cap:Nat) (t x:UInt8) (y z:UInt8) (r:L) (w:World) (F:Blk w g 115 #[.slice A n cap,.bool false]) (hn:n=(t :: x :: y :: z :: r).length) (hc:n<=cap) (hr:Rd w B A (bvs (t :: x :: y :: z :: r))) (hB:B<=w.heap.size) (M:B<=g) (hu:n<=100000) (O:x.toNat=130) (hf:¬y.toNat*256+z.toNat<=r.length) :
  Calls Tryz.prog 82 #[.pointer (some ⟨g,0,none⟩),.int .u8 t.toNat] w (Took w B g t (some (t :: x :: y :: z :: r))):=by
 have h0:w.cell? ⟨g,0,none⟩=some (.slice A n cap):=F.cell 0;have h1:w.cell? ⟨g,1,none⟩=some (.bool false):=F.cell 1;have f0:=F.frozen 0;have f1:=F.frozen 1;obtain⟨b,o,rfl,ah,D⟩:=Cz hr (by simp);have X:=hn;simp only[List.length_cons] at X;have c0:w.cell? ⟨b,o,none⟩=some (.int .u8 ((t).toNat:Int)):=D 0 (by simp);have c1:w.cell? ⟨b,o+1,none⟩=some (.int .u8 ((x).toNat:Int)):=D 1 (by simp);have af:(2:Int)<(n:Int):=by omega
 have ae:(3:Int)<(n:Int):=by omega
 have c2:w.cell? ⟨b,o+2,none⟩=some (.int .u8 ((y).toNat:Int)):=D 2 (by simp);have Y:=By y;have c3:w.cell? ⟨b,o+3,none⟩=some (.int .u8 ((z).toNat:Int)):=D 3 (by simp);have ad:=By z;have ab:=By x;have Z:((x.toNat:Int)==129)=false:=by simp;omega
 have aa:((x.toNat:Int)==130)=true:=by simp;omega
 have q3:decide ((128:Int)<=(x.toNat:Int))=true:=by simp only[decide_eq_true_eq];omega
 have ak:decide ((4:Int)<=(n:Int))=true:=by simp only[decide_eq_true_eq];omega
 obtain⟨m,hm⟩:∃m:Nat,y.toNat*256+z.toNat=m:=⟨_,rfl⟩;have aj:bits .or .i64 ((y.toNat:Int)*256) (z.toNat:Int)=(m:Int):=by rw[GW y.toNat z.toNat z.toNat_lt (by omega)];omega
 have an:(0:Int)<=(m:Int):=by omega
 have E:=I ((Bk (Cm (t:=t) (Fh (b:=y) (c:=z) (r:=r) O) (.inr (by simp only[List.length_cons];omega)))).1);have q4:decide ((n:Int) - 4<(m:Int))=true:=by simp only[decide_eq_true_eq];omega
 have ai:(2:Int)<=(n:Int):=by omega
 have ao:(n:Int)<=100000:=by omega
 have g0:decide ((n:Int)<2)=false:=by simp only[decide_eq_false_iff_not];omega
 have HB:=I F;have HN:=I hn;have HC:=I hc;have HR:=I hr;have al:=I hB;have ag:=I M;clear F hn hc hr hB M hu X D;clear O hf;go_enter Tryz.func82,Tryz.ntmps82
 go_wp2
 go_quiet (fail)
 go_wp2
 go_ret;exact Cb (HB.o.drewN _) E.o (Et (World.grownBy.refl _ _) _)
theorem KA (B g : Nat) (A : Option Addr) (n cap : Nat) (t x : UInt8) (y z : UInt8) (r : L) (w : World) (M : Blk w g 115 #[.slice A n cap, .bool false]) (hn : n = (t :: x :: y :: z :: r).length) (hc : n <= cap) (hr : Rd w B A (bvs (t :: x :: y :: z :: r))) (hB : B <= w.heap.size) (Y : B <= g) (hu : n <= 100000) (Z : x.toNat = 130) (hf : y.toNat * 256 + z.toNat <= r.length) (hy : y.toNat * 256 + z.toNat < 128) :
    Calls Tryz.prog 82 #[.pointer (some ⟨g,0,none⟩),.int .u8 t.toNat] w (Took w B g t (some (t :: x :: y :: z :: r))):=by
  have h0:w.cell? ⟨g,0,none⟩=some (.slice A n cap):=M.cell 0;have h1:w.cell? ⟨g,1,none⟩=some (.bool false):=M.cell 1;have f0:=M.frozen 0;have f1:=M.frozen 1;obtain⟨b,o,rfl,ar,D⟩:=Cz hr (by simp);have O:=hn;simp only[List.length_cons] at O;have c0:w.cell? ⟨b,o,none⟩=some (.int .u8 ((t).toNat:Int)):=D 0 (by simp);have c1:w.cell? ⟨b,o+1,none⟩=some (.int .u8 ((x).toNat:Int)):=D 1 (by simp);have aj:(2:Int)<(n:Int):=by omega
  have ah:(3:Int)<(n:Int):=by omega
  have c2:w.cell? ⟨b,o+2,none⟩=some (.int .u8 ((y).toNat:Int)):=D 2 (by simp);have aa:=By y;have c3:w.cell? ⟨b,o+3,none⟩=some (.int .u8 ((z).toNat:Int)):=D 3 (by simp);have ag:=By z;have af:=By x;have ae:((x.toNat:Int)==129)=false:=by simp;omega
  have ab:((x.toNat:Int)==130)=true:=by simp;omega
  have q3:decide ((128:Int)<=(x.toNat:Int))=true:=by simp only[decide_eq_true_eq];omega
  have ak:decide ((4:Int)<=(n:Int))=true:=by simp only[decide_eq_true_eq];omega
  obtain⟨m,hm⟩:∃m:Nat,y.toNat*256+z.toNat=m:=⟨_,rfl⟩;have av:bits .or .i64 ((y.toNat:Int)*256) (z.toNat:Int)=(m:Int):=by rw[GW y.toNat z.toNat z.toNat_lt (by omega)];omega
  have al:(0:Int)<=(m:Int):=by omega
  have q4:decide ((n:Int) - 4<(m:Int))=false:=by simp only[decide_eq_false_iff_not];omega
  have ad:=I (fun W=>GM (m) 1 (by omega) (by rw[BZ];rw[if_pos (by omega)]) W);have aw:(m:Int)<=65535:=by omega
  have E:=I ((Bk (Cm (t:=t) (Fh (b:=y) (c:=z) (r:=r) Z) (.inl (by simp;omega)))).1);have au:(2:Int)<=(n:Int):=by omega
  have az:(n:Int)<=100000:=by omega
  have g0:decide ((n:Int)<2)=false:=by simp only[decide_eq_false_iff_not];omega
  have HB:=I M;have HN:=I hn;have HC:=I hc;have HR:=I hr;have ay:=I hB;have ao:=I Y;clear M hn hc hr hB Y hu O D;clear Z hf hy;go_enter Tryz.func82,Tryz.ntmps82
  go_wp2
  go_quiet (fail)
  go_wp2_with (go_at_call 130; refine (ad.o _).mono ?_; rintro e w1 ⟨⟨g1, ai, rfl⟩, X⟩
               have F:=I ((HB.o.drewN _).below X);have k0:w1.cell? ⟨g,0,none⟩=some (.slice (some ⟨b,o,none⟩) n cap):=F.o.cell 0;have k1:w1.cell? ⟨g,1,none⟩=some (.bool false):=F.o.cell 1;have ax:=F.o.frozen 0;have an:=F.o.frozen 1)
  go_ret;exact Cb F.o E.o (Bo ((below_drewN Af _).trans X) _)
theorem KC (B g : Nat) (A : Option Addr) (n cap : Nat) (t x : UInt8) (y z : UInt8) (r : L) (w : World) (M : Blk w g 115 #[.slice A n cap, .bool false]) (hn : n = (t :: x :: y :: z :: r).length) (hc : n <= cap) (hr : Rd w B A (bvs (t :: x :: y :: z :: r))) (hB : B <= w.heap.size) (Y : B <= g) (hu : n <= 100000) (Z : x.toNat = 130) (hf : y.toNat * 256 + z.toNat <= r.length) (hy : ¬ y.toNat * 256 + z.toNat < 128) (af : y.toNat * 256 + z.toNat <= 255) :
    Calls Tryz.prog 82 #[.pointer (some ⟨g,0,none⟩),.int .u8 t.toNat] w (Took w B g t (some (t :: x :: y :: z :: r))):=by
  have h0:w.cell? ⟨g,0,none⟩=some (.slice A n cap):=M.cell 0;have h1:w.cell? ⟨g,1,none⟩=some (.bool false):=M.cell 1;have f0:=M.frozen 0;have f1:=M.frozen 1;obtain⟨b,o,rfl,au,D⟩:=Cz hr (by simp);have O:=hn;simp only[List.length_cons] at O;have c0:w.cell? ⟨b,o,none⟩=some (.int .u8 ((t).toNat:Int)):=D 0 (by simp);have c1:w.cell? ⟨b,o+1,none⟩=some (.int .u8 ((x).toNat:Int)):=D 1 (by simp);have ak:(2:Int)<(n:Int):=by omega
  have ai:(3:Int)<(n:Int):=by omega
  have c2:w.cell? ⟨b,o+2,none⟩=some (.int .u8 ((y).toNat:Int)):=D 2 (by simp);have aa:=By y;have c3:w.cell? ⟨b,o+3,none⟩=some (.int .u8 ((z).toNat:Int)):=D 3 (by simp);have ah:=By z;have ag:=By x;have ae:((x.toNat:Int)==129)=false:=by simp;omega
  have ab:((x.toNat:Int)==130)=true:=by simp;omega
  have q3:decide ((128:Int)<=(x.toNat:Int))=true:=by simp only[decide_eq_true_eq];omega
  have al:decide ((4:Int)<=(n:Int))=true:=by simp only[decide_eq_true_eq];omega
  obtain⟨m,hm⟩:∃m:Nat,y.toNat*256+z.toNat=m:=⟨_,rfl⟩;have aw:bits .or .i64 ((y.toNat:Int)*256) (z.toNat:Int)=(m:Int):=by rw[GW y.toNat z.toNat z.toNat_lt (by omega)];omega
  have an:(0:Int)<=(m:Int):=by omega
  have q4:decide ((n:Int) - 4<(m:Int))=false:=by simp only[decide_eq_false_iff_not];omega
  have ad:=I (fun W=>GM (m) 2 (by omega) (by rw[BZ];rw[if_neg (by omega),if_pos (by omega)]) W);have ax:(m:Int)<=65535:=by omega
  have E:=I ((Bk (Cm (t:=t) (Fh (b:=y) (c:=z) (r:=r) Z) (.inl (by simp;omega)))).1);have av:(2:Int)<=(n:Int):=by omega
  have aA:(n:Int)<=100000:=by omega
  have g0:decide ((n:Int)<2)=false:=by simp only[decide_eq_false_iff_not];omega
  have HB:=I M;have HN:=I hn;have HC:=I hc;have HR:=I hr;have az:=I hB;have ar:=I Y;clear M hn hc hr hB Y hu O D;clear Z hf hy af;go_enter Tryz.func82,Tryz.ntmps82
  go_wp2
  go_quiet (fail)
  go_wp2_with (go_at_call 130; refine (ad.o _).mono ?_; rintro e w1 ⟨⟨g1, aj, rfl⟩, X⟩
               have F:=I ((HB.o.drewN _).below X);have k0:w1.cell? ⟨g,0,none⟩=some (.slice (some ⟨b,o,none⟩) n cap):=F.o.cell 0;have k1:w1.cell? ⟨g,1,none⟩=some (.bool false):=F.o.cell 1;have ay:=F.o.frozen 0;have ao:=F.o.frozen 1)
  go_ret;exact Cb F.o E.o (Bo ((below_drewN Af _).trans X) _)
theorem KD (B g : Nat) (A : Option Addr) (n cap : Nat) (t x : UInt8) (y z : UInt8) (r : L) (w : World) (F : Blk w g 115 #[.slice A n cap, .bool false]) (M : n = (t :: x :: y :: z :: r).length) (hc : n <= cap) (hr : Rd w B A (bvs (t :: x :: y :: z :: r))) (hB : B <= w.heap.size) (Y : B <= g) (hu : n <= 100000) (Z : x.toNat = 130) (hf : y.toNat * 256 + z.toNat <= r.length) (hy : ¬ y.toNat * 256 + z.toNat <= 255) :
    Calls Tryz.prog 82 #[.pointer (some ⟨g,0,none⟩),.int .u8 t.toNat] w (Took w B g t (some (t :: x :: y :: z :: r))):=by
  have h0:w.cell? ⟨g,0,none⟩=some (.slice A n cap):=F.cell 0;have h1:w.cell? ⟨g,1,none⟩=some (.bool false):=F.cell 1;have f0:=F.frozen 0;have f1:=F.frozen 1;obtain⟨b,o,rfl,aw,D⟩:=Cz hr (by simp);have O:=M;simp only[List.length_cons] at O;have c0:w.cell? ⟨b,o,none⟩=some (.int .u8 ((t).toNat:Int)):=D 0 (by simp);have c1:w.cell? ⟨b,o+1,none⟩=some (.int .u8 ((x).toNat:Int)):=D 1 (by simp);have al:(2:Int)<(n:Int):=by omega
  have aj:(3:Int)<(n:Int):=by omega
  have c2:w.cell? ⟨b,o+2,none⟩=some (.int .u8 ((y).toNat:Int)):=D 2 (by simp);have aa:=By y;have c3:w.cell? ⟨b,o+3,none⟩=some (.int .u8 ((z).toNat:Int)):=D 3 (by simp);have ai:=By z;have ah:=By x;have af:((x.toNat:Int)==129)=false:=by simp;omega
  have ab:((x.toNat:Int)==130)=true:=by simp;omega
  have q3:decide ((128:Int)<=(x.toNat:Int))=true:=by simp only[decide_eq_true_eq];omega
  have an:decide ((4:Int)<=(n:Int))=true:=by simp only[decide_eq_true_eq];omega
  obtain⟨m,hm⟩:∃m:Nat,y.toNat*256+z.toNat=m:=⟨_,rfl⟩;have ay:bits .or .i64 ((y.toNat:Int)*256) (z.toNat:Int)=(m:Int):=by rw[GW y.toNat z.toNat z.toNat_lt (by omega)];omega
  have ar:(0:Int)<=(m:Int):=by omega
  have q4:decide ((n:Int) - 4<(m:Int))=false:=by simp only[decide_eq_false_iff_not];omega
  have ad:=I (fun W=>GM (m) 3 (by omega) (by rw[BZ];rw[if_neg (by omega),if_neg (by omega)]) W);have az:(m:Int)<=65535:=by omega
  have HS:=I (FY (t:=t) ((Fh (b:=y) (c:=z) (r:=r) Z).trans (by rw[hm,decide_eq_true (show 255<m by omega)])) (by simp only[List.length_cons];omega));have HF:=I (show 4+m<=(t :: x :: y :: z :: r).length by simp only[List.length_cons];omega);have ao:=EP (P:=Tryz.prog) Tryz.underlying25 DN (some ⟨b,o,none⟩) n cap (4+m) (4+(m:Int)) (by omega) (by omega);have av:=FM (P:=Tryz.prog) Tryz.underlying25 DN (some ⟨b,o,none⟩) n cap 4 m 4 (4+(m:Int)) rfl rfl (by omega);have ax:(2:Int)<=(n:Int):=by omega
  have aB:(n:Int)<=100000:=by omega
  have g0:decide ((n:Int)<2)=false:=by simp only[decide_eq_false_iff_not];omega
  have HB:=I F;have HN:=I M;have HC:=I hc;have HR:=I hr;have ag:=I hB;have ae:=I Y;clear F M hc hr hB Y hu O D;clear Z hf hy;go_enter Tryz.func82,Tryz.ntmps82
  go_wp2
  go_quiet (fail)
  go_wp2_with (go_at_call 130; refine (ad.o _).mono ?_; rintro e w1 ⟨⟨g1, ak, rfl⟩, X⟩
               have E:=I ((HB.o.drewN _).below X);have k0:w1.cell? ⟨g,0,none⟩=some (.slice (some ⟨b,o,none⟩) n cap):=E.o.cell 0;have k1:w1.cell? ⟨g,1,none⟩=some (.bool false):=E.o.cell 1;have aA:=E.o.frozen 0;have au:=E.o.frozen 1)
  go_ret;have M:=HN.o;subst M;exact LH HC.o HS.o HF.o HR.o E.o (Bo ((below_drewN Af _).trans X) _) ag.o ae.o
theorem Oa (B g:Nat) (A:Option Addr) (n cap:Nat) (t x:UInt8) (r:L) (w:World) (F:Blk w g 115 #[.slice A n cap,.bool false]) (hn:n=(t :: x :: r).length) (hc:n<=cap) (hr:Rd w B A (bvs (t :: x :: r))) (hB:B<=w.heap.size) (O:B<=g) (hu:n<=100000) (X:¬x.toNat<128) (M:¬x.toNat=129) (Y:¬x.toNat=130) :
  Calls Tryz.prog 82 #[.pointer (some ⟨g,0,none⟩),.int .u8 t.toNat] w (Took w B g t (some (t :: x :: r))):=by
 have h0:w.cell? ⟨g,0,none⟩=some (.slice A n cap):=F.cell 0;have h1:w.cell? ⟨g,1,none⟩=some (.bool false):=F.cell 1;have f0:=F.frozen 0;have f1:=F.frozen 1;obtain⟨b,o,rfl,af,D⟩:=Cz hr (by simp);have Z:=hn;simp only[List.length_cons] at Z;have c0:w.cell? ⟨b,o,none⟩=some (.int .u8 ((t).toNat:Int)):=D 0 (by simp);have c1:w.cell? ⟨b,o+1,none⟩=some (.int .u8 ((x).toNat:Int)):=D 1 (by simp);have ad:=By x;have aa:((x.toNat:Int)==129)=false:=by simp;omega
 have ab:((x.toNat:Int)==130)=false:=by simp;omega
 have q3:decide ((128:Int)<=(x.toNat:Int))=true:=by simp only[decide_eq_true_eq];omega
 have E:=I ((Bk (Cm (t:=t) (Ht (r:=r) X M Y) (.inl rfl))).1);have ag:(2:Int)<=(n:Int):=by omega
 have ai:(n:Int)<=100000:=by omega
 have g0:decide ((n:Int)<2)=false:=by simp only[decide_eq_false_iff_not];omega
 have HB:=I F;have HN:=I hn;have HC:=I hc;have HR:=I hr;have ah:=I hB;have ae:=I O;clear F hn hc hr hB O hu Z D;clear X M Y;go_enter Tryz.func82,Tryz.ntmps82
 go_wp2
 go_ret;exact Cb HB.o E.o (World.grownBy.refl _ _)
theorem Gl (t:UInt8) (B g:Nat) (w:World) (c:Option L) (h:RC w B g c) (hB:B<=w.heap.size) (E:B<=g) (hu:(c.getD []).length<=100000) :
  Calls Tryz.prog 82 #[.pointer (some ⟨g,0,none⟩),.int .u8 t.toNat] w (Took w B g t c):=by
 cases c with
 |none=>exact NY t B g w h
 |some l=>
  obtain⟨A,n,cap,e,O,rfl,F,X,M⟩:=h;rw[Option.getD_some] at hu
  match l,F,M,hu with
  | [],F,M,hu=>subst F;exact Iu t B g A cap [] w O (by simp)
  | [a],F,M,hu=>subst F;exact Iu t B g A cap [a] w O (by simp)
  |a :: x :: r,F,M,hu=>
   have D:n<=100000:=by rw[F];exact hu
   by_cases hne:a=t
   ·subst hne
    by_cases h1:x.toNat<128
    ·by_cases hf:x.toNat<=r.length
     ·exact IH B g A n cap a x r w O F X M hB E D h1 hf
     ·exact II B g A n cap a x r w O F X M hB E D h1 hf
    ·by_cases h2:x.toNat=129
     ·match r,F,M with
      | [],F,M=>exact JC B g A n cap a x w O F X M hB E D h2
      |y :: q,F,M=>
       by_cases hf:y.toNat<=q.length
       ·by_cases hy:y.toNat<128
        ·exact IJ B g A n cap a x y q w O F X M hB E D h2 hf hy
        ·exact Ky B g A n cap a x y q w O F X M hB E D h2 hf hy
       ·exact Kx B g A n cap a x y q w O F X M hB E D h2 hf
     ·by_cases h3:x.toNat=130
      ·match r,F,M with
       | [],F,M=>exact JD B g A n cap a x w O F X M hB E D h3
       | [y],F,M=>exact JE B g A n cap a x y w O F X M hB E D h3
       |y :: z :: q,F,M=>
        by_cases hf:y.toNat*256+z.toNat<=q.length
        ·by_cases hy:y.toNat*256+z.toNat<=255
         ·by_cases hy1:y.toNat*256+z.toNat<128
          ·exact KA B g A n cap a x y z q w O F X M hB E D h3 hf hy1
          ·exact KC B g A n cap a x y z q w O F X M hB E D h3 hf hy1 hy
         ·exact KD B g A n cap a x y z q w O F X M hB E D h3 hf hy
        ·exact Kz B g A n cap a x y z q w O F X M hB E D h3 hf
      ·exact Oa B g A n cap a x r w O F X M hB E D h1 h2 h3
   ·exact Qp B g A n cap t a x r w O F X M hB E D hne
open Reg
def Ints (w:World) (B g:Nat) (c:Option L) (e:Ending) (w':World):Prop:=
 e=.returned (.int .i64 ((intC c).1:Int))/\RC w' B g (intC c).2/\w.grownBy w' (some g)
theorem Qq {c:Option L} (h:Ar 2 c=none\/∃p,Ar 2 c=some p/\numL p=none):intC c=(0,none):=by
 rcases h with h | ⟨p,h,D⟩
 ·simp [intC,h]
 ·simp [intC,h,D]
theorem Gm {w0 w:World} {B g:Nat} {c:Option L} {A:Option Addr} {n cap:Nat} {e:Bool} (E:Blk w g 115 #[.slice A n cap,.bool e]) (h:Ar 2 c=none\/∃p,Ar 2 c=some p/\numL p=none) (D:w0.grownBy w (some g)) :
  Ints w0 B g c (.returned (.int .i64 0)) (w.setCell ⟨g,1,none⟩ (.bool true)):=by
 unfold Ints;rw[Qq h];exact⟨rfl,⟨A,n,cap,true,E.set 1 (.bool true),rfl⟩,Ay D (.inl rfl) _⟩
theorem Qr (B g : Nat) (c : Option L) (w : World) (h : RC w B g c) (hB : B <= w.heap.size) (F : B <= g) (hu : (c.getD []).length <= 100000) (Y : Ar 2 c = none) :
    Calls Tryz.prog 42 #[.pointer (some ⟨g,0,none⟩)] w (Ints w B g c):=by
  have HT:=I (Gl 2 B g w c h hB F hu);have Z:=I Y;clear h hB F hu Y;go_enter Tryz.func42,Tryz.ntmps42
  go_wp2_with (go_at_call 82; refine HT.o.mono ?_; rintro e w1 ⟨⟨A', X, rfl, D, O⟩, E, hg⟩
               rw[FR 2 c Z.o] at E;obtain⟨A,n,cap,e,M,rfl⟩:=E;have HB:=I M;have h1:w1.cell? ⟨g,1,none⟩=some (.bool true):=M.cell 1;have f1:=M.frozen 1;clear M D O)
  go_ret;exact Gm HB.o (.inl Z.o) hg
theorem Jd (B g:Nat) (c:Option L) (w:World) (h:RC w B g c) (hB:B<=w.heap.size) (O:B<=g) (hu:(c.getD []).length<=100000) (p r:L) (X:Ar 2 c=some p) (hr:AK 2 c=some r) :
  Calls Tryz.prog 82 #[.pointer (some ⟨g,0,none⟩),.int .u8 2] w fun e w'=>
   (∃M D A n cap,e=.returned (.slice M p.length D)/\Rd w' B M (bvs p)/\Blk w' g 115 #[.slice A n cap,.bool false]/\RS w' B A n cap false (some r))/\w.grownBy w' (some g):=by
 refine(Gl 2 B g w c h hB O hu).mono ?_;rintro e w' ⟨⟨M,D,rfl,_,E⟩,F,Z⟩;rw[X] at E;rw[hr] at F;obtain⟨A,n,cap,e,hb,rfl,Y⟩:=F;rw[X];exact⟨⟨M,D,A,n,cap,rfl,E,hb,rfl,Y⟩,Z⟩
theorem SJ (B g : Nat) (c : Option L) (w : World) (h : RC w B g c) (hB : B <= w.heap.size) (E : B <= g) (hu : (c.getD []).length <= 100000) (p r : L) (X : Ar 2 c = some p) (hr : AK 2 c = some r) (hn : numL p = none) (F : p.length = 0 \/ 9 < p.length) :
    Calls Tryz.prog 42 #[.pointer (some ⟨g,0,none⟩)] w (Ints w B g c):=by
  have HT:=I (Jd B g c w h hB E hu p r X hr);have HN:=I (show Ar 2 c=none\/∃p,Ar 2 c=some p/\numL p=none from .inr ⟨p,X,hn⟩);have go : ∀ b1 b2 : Bool, ((p.length : Int) == 0) = b1 -> decide ((9 : Int) < (p.length : Int)) = b2 -> (b1 || b2) = true ->
      Calls Tryz.prog 42 #[.pointer (some ⟨g,0,none⟩)] w (Ints w B g c):=by
    intro b1 b2 g1 g2 D;clear h hB E hu hn X hr F;cases b1<;>cases b2<;>first
      |(exact(Bool.false_ne_true D).elim)
      | (clear D
         go_enter Tryz.func42,Tryz.ntmps42
         go_wp2_with (go_at_call 82; refine HT.o.mono ?_; rintro e w1 ⟨⟨A', Z, A, n, cap, rfl, Y, M, O⟩, hg⟩
                      have HB:=I M;have h1:w1.cell? ⟨g,1,none⟩=some (.bool false):=M.cell 1;have f1:=M.frozen 1;clear M O Y)
         go_ret;exact Gm HB.o HN.o hg)
  refine go _ _ rfl rfl ?_;rcases F with F | F
  · simp [F]
  · simp; omega
theorem IK {p:L} (h:numL p≠none) (i:Nat):val (p.take i)<9223372036854775808:=by
 cases p with
 |nil=>exact absurd rfl h
 |cons a r=>
  by_cases hc:7<r.length\/128<=a.toNat
  ·exact absurd (Ej (.inl hc)) h
  ·exact Hs (by omega) (by omega) i
theorem MN (x y:Int) : -9223372036854775808<=bits .or .i64 x y/\bits .or .i64 x y<=9223372036854775807:=by
 show -9223372036854775808<=IntKind.i64.wrap _/\IntKind.i64.wrap _<=9223372036854775807;rw[IntKind.wrap_i64];omega
theorem Ob {p:L} {v:Int} (E:p.length<=65535) (F:0<=v) (D:v<=4611686018427387904) (h:encI v=elem 2 p):numL p=some v.toNat:=by
 have e:=Mb (t:=2) (p:=dig (BT v)) (q:=p) (r1:=[]) (r2:=[]) (by have:=Hg v;omega) E (by rw[List.append_nil,List.append_nil];exact h);rw[<-e.1,OB _ (Eh v),Hr v F D]
theorem Qs (B g : Nat) (c : Option L) (w : World) (h : RC w B g c) (hB : B <= w.heap.size) (ag : B <= g) (hu : (c.getD []).length <= 100000) (p r : L) (hp : Ar 2 c = some p) (hr : AK 2 c = some r) (aD : p.length ≠ 0) (hl : p.length <= 9) :
    Calls Tryz.prog 42 #[.pointer (some ⟨g,0,none⟩)] w (Ints w B g c):=by
  have HT:=I (Jd B g c w h hB ag hu p r hp hr);have HP:=I hp;have an:=I hr;have Z:=I hB;have aK:=I ag;have HL:=I hl;have g1:((p.length:Int)==0)=false:=by simp only[beq_eq_false_iff_ne,ne_eq];omega
  have g2:decide ((9:Int)<(p.length:Int))=false:=by simp;omega
  have aM:(p.length:Int)<=9:=by omega
  clear h hB ag hu hp hr aD hl;go_enter Tryz.func42,Tryz.ntmps42
  go_wp2_with (go_at_call 82; refine HT.o.mono ?_; rintro e O ⟨⟨A', F, A, n, cap, rfl, al, hb, ah⟩, hg⟩
               have HB:=I hb;have af:=I al;have ad:=I ah;have h1:O.cell? ⟨g,1,none⟩=some (.bool false):=hb.cell 1;have f1:=hb.frozen 1;clear hb ah al)
  go_loop [4,5] (fun nv i=>∃(j:Nat) (v:Int),j<=p.length/\i=.int .i64 (j:Int)/\nv=.int .i64 v/\-9223372036854775808<=v/\v<=9223372036854775807/\(numL p≠none->v=(val (p.take j):Int))) (fun _ i=>p.length - (intOf i).toNat)
  case atStart=>exact⟨0,0,by omega,rfl,rfl,by omega,by omega,fun _=>by simp [val]⟩
  case round=>
    obtain⟨j,v,hj,rfl,rfl,aH,aJ,ae⟩:=hrel;have HV:=I ae;clear ae
    by_cases hlt:j<p.length
    · obtain ⟨b, o, rfl, aL, X⟩ := af.o.at_ (DH hlt)
      have aE:O.cell? ⟨b,o+j,none⟩=some (.int .u8 ((p[j]).toNat:Int)):=X;have aw:=By p[j];have ay:=I (DR p j hlt);have aA:=I (IK (p:=p));have au:=I (p[j]).toNat_lt;clear X
      go_wp2
      refine⟨⟨j+1,_,by omega,by go_num,rfl,(MN _ _).1,(MN _ _).2,fun aj=>?_⟩,by simp [intOf];omega⟩;have e1:=HV.o aj;have e2:=aA.o aj (j+1);have e3:=ay.o;rw[e3] at e2⊢;have e4:=GW (val (p.take j)) (p[j]).toNat au.o (by omega);have e5:wrap64 (v*256)=((val (p.take j):Nat):Int)*256:=by
        rw[e1];exact IntWalk.wrap64_in _ (by omega)
      rw[e5,e4];omega
    · obtain rfl : j = p.length := by omega
      clear hj hlt;rw[List.take_length] at HV
      by_cases hneg:v<0
      · have g3 : decide (v < 0) = true := by simp only [decide_eq_true_eq]; omega
        have HN:=I (show Ar 2 c=none\/∃p,Ar 2 c=some p/\numL p=none from .inr ⟨p,HP.o,by
          cases hx:numL p with
          |none=>rfl
          |some y=>have:=HV.o (by rw[hx];simp);omega⟩)
        clear hneg
        go_wp2
        go_quiet (fail)
        go_wp2
        go_ret;exact Gm (HB.o.drewN _) HN.o (Et hg _)
      · have g3 : decide (v < 0) = false := by simp only [decide_eq_false_iff_not]; omega
        by_cases hbig:4611686018427387904<v
        · have g4 : decide (4611686018427387904 < v) = true := by simp only [decide_eq_true_eq]; omega
          have HN:=I (show Ar 2 c=none\/∃p,Ar 2 c=some p/\numL p=none from .inr ⟨p,HP.o,by
            cases hx:numL p with
            |none=>rfl
            |some y=>have:=HV.o (by rw[hx];simp);have:=(El hx).1;have:=(El hx).2.1;omega⟩)
          clear hneg hbig
          go_wp2
          go_quiet (fail)
          go_wp2
          go_ret;exact Gm (HB.o.drewN _) HN.o (Et hg _)
        · have g4 : decide (4611686018427387904 < v) = false := by simp only [decide_eq_false_iff_not]; omega
          by_cases heq:encI v=elem 2 p
          · have ak := I heq
            have ai:=I (Ob (by have:=HL.o;omega) (by omega) (by omega) heq);have ax:=I (show ¬v<0 from hneg);clear heq
            go_wp2
            refine Cv 15 rfl (by kernel_rfl) ?_;refine Reg.tz 0 rfl ?_;refine Reg.tz 1 rfl ?_;refine Reg.tz 2 rfl ?_;refine Reg.tz 3 rfl ?_;refine Reg.tz 4 rfl ?_;refine Reg.tz 5 rfl ?_;refine Reg.tz 6 rfl ?_;refine Reg.tz 7 rfl ?_;refine Reg.tz 10 rfl ?_;refine DD 8 rfl (by kernel_rfl) (by rfl) 75 #[.int .i64 v] (by go_simp) ?_;refine Calls.mono (DerR.BB v O.drew) ?_;rintro e w2 ⟨⟨q2,d2,rfl,ar,aB,E⟩,aa⟩;refine⟨_,rfl,aa,?_⟩;have ab:=I E;have B2:Below O.heap.size O w2:=bt Af.drew aa;clear E;simp only[Act.put,J,U,Aa];refine Reg.tx 9 rfl (fun w' hS=>by have hh:=Gi (P:=Tryz.prog) Tryz.underlying25 Tryz.underlying5 Tryz.underlying9 (n:=(encI v).length) (c:=d2) ab.o Ae rfl w' hS;go_simp;rfl) ?_;refine DD 11 rfl (by kernel_rfl) (by rfl) 85 #[.int .u8 2,.slice A' p.length F] (by go_simp) ?_;refine Calls.mono (DerR.DZ 2 p A' p.length F B w2 (af.o.below (B2.mono (Nat.le_trans Z.o hg.size))) rfl (Nat.le_trans (Nat.le_trans Z.o hg.size) B2.size) (by have:=HL.o;omega)) ?_;rintro e w3 ⟨⟨q3,d3,rfl,aC,ao,D⟩,Y⟩;refine⟨_,rfl,Y,?_⟩;have M:=I D;have B3:Below O.heap.size O w3:=bt B2 Y;clear D;rw[<-ak.o] at M;rw[<-ak.o];simp only[Act.put,J,U,Aa];refine Reg.tx 12 rfl (fun w' hS=>by have hh:=Gi (P:=Tryz.prog) Tryz.underlying25 Tryz.underlying5 Tryz.underlying9 (n:=(encI v).length) (c:=d3) M.o Ae rfl w' hS;go_simp;rfl) ?_;refine Reg.tz 13 rfl ?_;refine Reg.tz 14 rfl ?_;refine wpAnyH_done (by kernel_rfl) ?_ _;have aE:=ad.o;have av:w3.cell? ⟨g,1,none⟩=some (.bool false):=(HB.o.below B3).cell 1
            go_wp2
            go_ret;have hI:intC c=(v.toNat,some r):=by simp only[intC,HP.o,ai.o,an.o]
            unfold Ints;rw[hI];have aG:=ax.o;have az:((v.toNat:Nat):Int)=v:=by omega
            exact⟨by show Ending.returned (.int .i64 v)=.returned (.int .i64 ((v.toNat:Nat):Int));rw[az],⟨A,n,cap,false,HB.o.below B3,rfl,ad.o.2.1,ad.o.2.2.1,ad.o.2.2.2.below (B3.mono (Nat.le_trans Z.o hg.size))⟩,FU hg B3⟩
          · have aN := I heq
            have HN:=I (show Ar 2 c=none\/∃p,Ar 2 c=some p/\numL p=none from .inr ⟨p,HP.o,by
              cases hx:numL p with
              |none=>rfl
              |some y=>
                have e1:=HV.o (by rw[hx];simp);obtain⟨e2,e3,_⟩:=El hx;refine absurd ?_ heq;rw[encI,Hr v (by omega) (by omega),show v.toNat=y by omega,Ux hx]⟩)
            have aF:(encI v==elem 2 p)=false:=by simp only[beq_eq_false_iff_ne,ne_eq];exact heq
            clear heq
            go_wp2
            refine Cv 15 rfl (by kernel_rfl) ?_;refine Reg.tz 0 rfl ?_;refine Reg.tz 1 rfl ?_;refine Reg.tz 2 rfl ?_;refine Reg.tz 3 rfl ?_;refine Reg.tz 4 rfl ?_;refine Reg.tz 5 rfl ?_;refine Reg.tz 6 rfl ?_;refine Reg.tz 7 rfl ?_;refine Reg.tz 10 rfl ?_;refine DD 8 rfl (by kernel_rfl) (by rfl) 75 #[.int .i64 v] (by go_simp) ?_;refine Calls.mono (DerR.BB v O.drew) ?_;rintro e w2 ⟨⟨q2,d2,rfl,ar,aB,E⟩,aa⟩;refine⟨_,rfl,aa,?_⟩;have ab:=I E;have B2:Below O.heap.size O w2:=bt Af.drew aa;clear E;simp only[Act.put,J,U,Aa];refine Reg.tx 9 rfl (fun w' hS=>by have hh:=Gi (P:=Tryz.prog) Tryz.underlying25 Tryz.underlying5 Tryz.underlying9 (n:=(encI v).length) (c:=d2) ab.o Ae rfl w' hS;go_simp;rfl) ?_;refine DD 11 rfl (by kernel_rfl) (by rfl) 85 #[.int .u8 2,.slice A' p.length F] (by go_simp) ?_;refine Calls.mono (DerR.DZ 2 p A' p.length F B w2 (af.o.below (B2.mono (Nat.le_trans Z.o hg.size))) rfl (Nat.le_trans (Nat.le_trans Z.o hg.size) B2.size) (by have:=HL.o;omega)) ?_;rintro e w3 ⟨⟨q3,d3,rfl,aC,ao,D⟩,Y⟩;refine⟨_,rfl,Y,?_⟩;have M:=I D;have B3:Below O.heap.size O w3:=bt B2 Y;clear D;simp only[Act.put,J,U,Aa];refine Reg.tx 12 rfl (fun w' hS=>by have hh:=Gi (P:=Tryz.prog) Tryz.underlying25 Tryz.underlying5 Tryz.underlying9 (n:=(elem 2 p).length) (c:=d3) M.o Ae rfl w' hS;go_simp;rfl) ?_;refine Reg.tz 13 rfl ?_;refine Reg.tz 14 rfl ?_;refine wpAnyH_done (by kernel_rfl) ?_ _;have av:w3.cell? ⟨g,1,none⟩=some (.bool false):=(HB.o.below B3).cell 1;have aI:=(HB.o.below B3).frozen 1
            go_wp2
            go_ret;exact Gm (HB.o.below B3) HN.o (FU hg B3)
theorem MO (B g:Nat) (c:Option L) (w:World) (h:RC w B g c) (hB:B<=w.heap.size) (D:B<=g) (hu:(c.getD []).length<=100000) :
  Calls Tryz.prog 42 #[.pointer (some ⟨g,0,none⟩)] w (Ints w B g c):=by
 cases hp:Ar 2 c with
 |none=>exact Qr B g c w h hB D hu hp
 |some p=>
  obtain⟨r,E⟩:∃r,AK 2 c=some r:=by
   cases c with
   |none=>simp [Ar] at hp
   |some s=>
    cases hs:Be 2 s with
    |none=>rw[(Bk hs).1] at hp;cases hp
    |some x=>exact⟨_,(Dr (b:=x.1) (r:=x.2) hs).2⟩
  by_cases hl:p.length=0\/9<p.length
  ·have F:numL p=none:=by
    cases hx:numL p with
    |none=>rfl
    |some y=>obtain⟨_,_,O,M,_⟩:=El hx;omega
   exact SJ B g c w h hB D hu p r hp E F hl
  ·exact Qs B g c w h hB D hu p r hp E (by omega) (by omega)
theorem KE (B g : Nat) (c : Option L) (w : World) (h : RC w B g c) (hB : B <= w.heap.size) (E : B <= g) (hu : (c.getD []).length <= 100000) :
    Calls Tryz.prog 83 #[.pointer (some ⟨g,0,none⟩)] w fun e w'=>e=.returned (.string ⟨((Ar 27 c).getD []).toArray⟩)/\RC w' B g (AK 27 c)/\w.grownBy w' (some g):=by
  have X:=I (Gl 27 B g w c h hB E hu);clear h hB E hu;go_enter Tryz.func83,Tryz.ntmps83
  go_wp2_with (go_at_call 82; refine X.o.mono ?_; rintro e Y ⟨⟨A', D, rfl, O, F⟩, M, hg⟩
               have Z:=Bl (P:=Tryz.prog) Y 25 5 Tryz.underlying25 Tryz.underlying5 F ((Ar 27 c).getD []).length D rfl 9 Tryz.underlying9)
  go_ret;exact⟨rfl,M,hg⟩
theorem IL {t:UInt8} {c:Option L} {p:L} (h:Ar t c=some p):∃r,AK t c=some r:=by
 cases c with
 |none=>simp [Ar] at h
 |some s=>
  cases hs:Be t s with
  |none=>rw[(Bk hs).1] at h;cases h
  |some x=>exact⟨_,(Dr (b:=x.1) (r:=x.2) hs).2⟩
theorem KF (t : UInt8) (B g : Nat) (c : Option L) (w : World) (h : RC w B g c) (hB : B <= w.heap.size) (Y : B <= g) (hu : (c.getD []).length <= 100000) :
    Calls Tryz.prog 40 #[.pointer (some ⟨g,0,none⟩),.int .u8 t.toNat] w fun e w'=>
      (∃g',e=.returned (.pointer (some ⟨g',0,none⟩))/\w.heap.size<=g'/\RC w' B g' (Ar t c))/\RC w' B g (AK t c)/\w.grownBy w' (some g):=by
  have Z:=I (Gl t B g w c h hB Y hu);have HB:=I hB;cases D:Ar t c with
  |none=>
    have M:=FR t c D;unfold Took at Z;rw[D,M] at Z;rw[M];clear h hB Y hu D M;go_enter Tryz.func40,Tryz.ntmps40
    go_wp2_with (go_at_call 82; refine Z.o.mono ?_; rintro e w1 ⟨⟨A', aa, rfl, E, F⟩, ⟨A, n, cap, e, D, rfl⟩, hg⟩
                 have O:=I D;have h1:w1.cell? ⟨g,1,none⟩=some (.bool true):=D.cell 1;clear D)
    go_ret;exact⟨⟨_,rfl,hg.size,_,_,_,true,Blk.new w1 _ _,rfl⟩,⟨A,n,cap,true,O.o.alloc _,rfl⟩,Ce hg _⟩
  |some p=>
    obtain⟨r,M⟩:=IL D;unfold Took at Z;rw[D,M] at Z;rw[M];clear h hB Y hu D M;go_enter Tryz.func40,Tryz.ntmps40
    go_wp2_with (go_at_call 82; refine Z.o.mono ?_; rintro e w1 ⟨⟨A', aa, rfl, E, F⟩, ⟨A, n, cap, e, D, rfl, ab⟩, hg⟩
                 have O:=I D;have X:=I ab;have ae:=I F;have ad:=I E;have h1:w1.cell? ⟨g,1,none⟩=some (.bool false):=D.cell 1;clear D ab F E)
    go_ret;have hs:=Nat.le_trans HB.o hg.size;exact⟨⟨_,rfl,hg.size,_,_,_,false,Blk.new w1 _ _,rfl,rfl,ad.o,ae.o.alloc hs _⟩,⟨A,n,cap,false,O.o.alloc _,rfl,X.o.1,X.o.2.1,X.o.2.2.alloc hs _⟩,Ce hg _⟩
theorem Oc (B g:Nat) (c:Option L) (w:World) (h:RC w B g c):Calls Tryz.prog 84 #[.pointer (some ⟨g,0,none⟩)] w fun e w'=>e=.returned (.bool (DerC.MH c))/\w=w':=by
 obtain⟨A,n,cap,e,F,E⟩:=h;have Y:w.cell? ⟨g,0,none⟩=some (.slice A n cap):=F.cell 0;have O:w.cell? ⟨g,1,none⟩=some (.bool e):=F.cell 1;cases c with
 |none=>
  obtain rfl:e=true:=E;clear F;go_enter Tryz.func84,Tryz.ntmps84
  go_wp2
  go_ret;exact⟨rfl,rfl⟩
 |some l=>
  obtain⟨rfl,M,_⟩:=E;clear F
  by_cases hz:n=0
  ·have D:DerC.MH (some l)=true:=by
    have:l = []:=List.length_eq_zero_iff.1 (by omega);subst this;rfl
   subst hz;rw[D];clear D M;go_enter Tryz.func84,Tryz.ntmps84
   go_wp2
   go_ret;exact⟨rfl,rfl⟩
  ·have D:DerC.MH (some l)=false:=by
    cases l with
    |nil=>exact absurd M hz
    |cons a r=>rfl
   have X:((n:Int)==0)=false:=by simp only[beq_eq_false_iff_ne,ne_eq];omega
   rw[D];clear D M hz;go_enter Tryz.func84,Tryz.ntmps84
   go_wp2
   go_ret;exact⟨rfl,rfl⟩
end DerR
end Go.Proofs.YtcpccikongbopaaGreat
