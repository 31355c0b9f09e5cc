import Derived.Test.YtlccngianpfalaaGreatZClientRequests2
set_option maxHeartbeats 25600000
set_option maxRecDepth 100000
set_option linter.unusedVariables false
set_option linter.unusedSimpArgs false
namespace Go.Proofs.YtlccngianpfalaaGreat
namespace DerC
open Go.RowKit Ae DerP
attribute [local go_sem] Gt List.getElem_cons_zero List.getElem_cons_succ Dw Dx Fm
def Bo (w w':World):Prop:=∃n,w'=w.drewN n
theorem Bo.refl (w:World):Bo w w:=⟨0,rfl⟩
def Kb:Option L->Array Value
 |none=>#[.string ⟨([]:List UInt8).toArray⟩,.bool true]
 |some s=>#[.string ⟨s.toArray⟩,.bool false]
def Nk:Option L->Bool
 |some []=>true
 |_=>false
def Cur (w:World) (g:Nat) (c:Option L):Prop:=Blk w g 232 (Kb c)
theorem Me (s:L) (w:World):Calls Tryz.prog 193 #[.string ⟨s.toArray⟩] w fun e w'=>
  e=.returned (.tuple #[.int .i64 ((lenR s).1:Int),.int .i64 ((lenR s).2.1:Int),.bool (lenR s).2.2])/\Bo w w':=by
 cases s with
 |nil=>
  go_enter Tryz.func193,Tryz.ntmps193
  go_wp2
  go_ret3
  exact⟨rfl,Bo.refl _⟩
 |cons a r=>
  by_cases h1:a.toNat<128
  ·have g1:decide ((a.toNat:Int)<128)=true:=by simp;omega
   have E:Hid (lenR (a :: r)=(a.toNat,1,true)):=FJ h1;have H:=I h1;clear h1;have ha:=BG a;go_enter Tryz.func193,Tryz.ntmps193
   go_wp2
   go_ret3
   exact⟨by rw[E.o];rfl,Bo.refl _⟩
  ·have g1:decide ((a.toNat:Int)<128)=false:=by simp;omega
   by_cases h2:a.toNat=129
   ·have Y:((a.toNat:Int)==129)=true:=by simp;omega
    have X:((a.toNat:Int)==130)=false:=by simp;omega
    have H1:=I h1;clear h1;have M:=I h2;clear h2;cases r with
    |nil=>
     have E:Hid (lenR [a]=(0,0,false)):=Fi M.o;go_enter Tryz.func193,Tryz.ntmps193
     go_wp2
     go_ret3
     exact⟨by rw[E.o];rfl,Bo.refl _⟩
    |cons b q=>
     have Z:=BG b;have E:Hid (lenR (a :: b :: q)=(b.toNat,2,decide (128<=b.toNat))):=Gr M.o;have F:Hid (decide ((128:Int)<=(b.toNat:Int))=decide (128<=b.toNat)):=by show _=_;simp;omega
     go_enter Tryz.func193,Tryz.ntmps193
     go_wp2
     go_ret3
     exact⟨by rw[E.o,<-F.o];rfl,Bo.refl _⟩
   ·have Y:((a.toNat:Int)==129)=false:=by simp;omega
    by_cases h3:a.toNat=130
    ·have X:((a.toNat:Int)==130)=true:=by simp;omega
     have H1:=I h1;clear h1;have M:=I h2;clear h2;have O:=I h3;clear h3;rcases r with _ | ⟨b,_ | ⟨c,q⟩⟩
     ·have E:Hid (lenR [a]=(0,0,false)):=Fj O.o
      go_enter Tryz.func193,Tryz.ntmps193
      go_wp2
      go_ret3
      exact⟨by rw[E.o];rfl,Bo.refl _⟩
     ·have E:Hid (lenR [a,b]=(0,0,false)):=Fk O.o
      go_enter Tryz.func193,Tryz.ntmps193
      go_wp2
      go_ret3
      exact⟨by rw[E.o];rfl,Bo.refl _⟩
     ·have Z:=BG b
      have hc:=BG c;have E:Hid (lenR (a :: b :: c :: q)=(b.toNat*256+c.toNat,3,decide (255<b.toNat*256+c.toNat))):=FK O.o;go_enter Tryz.func193,Tryz.ntmps193
      go_wp2
      go_quiet (fail)
      go_wp2
      go_ret3
      have F:(decide ((255:Int)<(b.toNat:Int)*256+(c.toNat:Int)))=decide (255<b.toNat*256+c.toNat):=by simp;omega
      have G:=Hq b.toNat c.toNat (by omega) (by omega);exact⟨by rw[E.o,<-F,<-G];simp [G],⟨_,rfl⟩⟩
    ·have X:((a.toNat:Int)==130)=false:=by simp;omega
     have E:Hid (lenR (a :: r)=(0,0,false)):=Iq h1 h2 h3;have H1:=I h1;clear h1;have M:=I h2;clear h2;have O:=I h3;clear h3;go_enter Tryz.func193,Tryz.ntmps193
     go_wp2
     go_ret3
     exact⟨by rw[E.o];rfl,Bo.refl _⟩
theorem IN {w:World} {g:Nat} {c:Option L} (h:Cur w g c):w.cell? ⟨g,0,none⟩=some (.string ⟨(c.getD []).toArray⟩)/\w.cell? ⟨g,1,none⟩=some (.bool (!c.isSome)):=by
 have O:=h.cell 0;have M:=h.cell 1;cases c<;>exact⟨O,M⟩
theorem Jz {w:World} {g:Nat} {c:Option L} (h:Cur w g c):w.frozen? ⟨g,0,none⟩=false/\w.frozen? ⟨g,1,none⟩=false:=⟨h.frozen 0,h.frozen 1⟩
theorem Kc (g:Nat) (c:Option L) (w:World) (h:Cur w g c):Calls Tryz.prog 167 #[.pointer (some ⟨g,0,none⟩)] w fun e w'=>e=.returned (.bool c.isSome)/\w=w':=by
 obtain⟨_,M⟩:=IN h;go_enter Tryz.func167,Tryz.ntmps167
 go_wp2
 go_ret;exact⟨by simp,rfl⟩
theorem Nl (g:Nat) (c:Option L) (w:World) (h:Cur w g c):Calls Tryz.prog 169 #[.pointer (some ⟨g,0,none⟩)] w fun e w'=>e=.returned (.tuple #[])/\Cur w' g none/\w.grownBy w' (some g):=by
 obtain⟨Y,M⟩:=IN h;obtain⟨O,X⟩:=Jz h;go_enter Tryz.func169,Tryz.ntmps169
 go_wp2
 go_end0
 exact⟨rfl,by have:=(h.set 0 (.string ⟨#[]⟩)).set 1 (.bool true);cases c<;>exact this,by repeat (first | exact World.grownBy.refl _ _ | refine Ar ?_ (.inl rfl) _)⟩
theorem QP (t:UInt8) (w:World):Calls Tryz.prog 168 #[.string ⟨([]:List UInt8).toArray⟩,.int .u8 t.toNat] w fun e w'=>
  e=.returned (.tuple #[.string ⟨([]:List UInt8).toArray⟩,.string ⟨([]:List UInt8).toArray⟩,.bool false])/\Bo w w':=by
 go_enter Tryz.func168,Tryz.ntmps168
 go_wp2
 go_ret3
 exact⟨rfl,Bo.refl _⟩
theorem Mf (a t:UInt8) (r:L) (w:World) (M:a≠t):Calls Tryz.prog 168 #[.string ⟨(a :: r).toArray⟩,.int .u8 t.toNat] w fun e w'=>
  e=.returned (.tuple #[.string ⟨([]:List UInt8).toArray⟩,.string ⟨([]:List UInt8).toArray⟩,.bool false])/\Bo w w':=by
 have O:((a.toNat:Int)==(t.toNat:Int))=false:=by simp;exact fun g=>M (UInt8.toNat_inj.1 (by omega))
 have X:((a.toNat:Int) != (t.toNat:Int))=true:=by simp;exact fun g=>M (UInt8.toNat_inj.1 (by omega))
 have H:=I M;clear M;go_enter Tryz.func168,Tryz.ntmps168
 go_wp2
 go_ret3
 exact⟨rfl,Bo.refl _⟩
theorem Oy (t:UInt8) (r:L) (w:World) (hs:(r.length:Int)<=100000) (hk:(lenR r).2.2=true) (O:(lenR r).1+(lenR r).2.1<=r.length):Calls Tryz.prog 168 #[.string ⟨(t :: r).toArray⟩,.int .u8 t.toNat] w fun e w'=>
  e=.returned (.tuple #[.string ⟨((r.drop (lenR r).2.1).take (lenR r).1).toArray⟩,.string ⟨((r.drop (lenR r).2.1).drop (lenR r).1).toArray⟩,.bool true])/\Bo w w':=by
 have X:=Pp r;generalize hx:lenR r=x at *;obtain⟨n,k,ok⟩:=x;simp only at hk O X⊢;have ab:((r.length:Int) - (k:Int)<(n:Int))=False:=by simp;omega
 have ad:decide ((r.length:Int) - (k:Int)<(n:Int))=false:=by simp;omega
 have Z:(k:Int)+(n:Int)<=(r.length:Int):=by omega
 have Y:(n:Int)<=65535:=by omega
 have aa:(k:Int)<=3:=by omega
 have M:∀W,Calls Tryz.prog 193 #[.string ⟨r.toArray⟩] W fun e w'=>e=.returned (.tuple #[.int .i64 (n:Int),.int .i64 (k:Int),.bool true])/\Bo W w':=by
  intro W;have:=Me r W;rw[hx] at this;subst hk;exact this
 have HC:=I M;clear M;have HX:=I hx;clear hx;have HK:=I hk;clear hk;clear O X;go_enter Tryz.func168,Tryz.ntmps168
 go_wp2_with (go_at_call 193;refine(HC.o _).mono ?_;rintro e w' ⟨rfl,q,rfl⟩)
 go_quiet (fail)
 go_wp2
 go_ret3
 exact⟨by rw[<-Fm r k n,List.drop_drop];rfl,⟨_,World.drewN_drewN _ _ _⟩⟩
theorem QQ (t:UInt8) (r:L) (w:World) (hk:(lenR r).2.2=false):Calls Tryz.prog 168 #[.string ⟨(t :: r).toArray⟩,.int .u8 t.toNat] w fun e w'=>
  e=.returned (.tuple #[.string ⟨([]:List UInt8).toArray⟩,.string ⟨([]:List UInt8).toArray⟩,.bool false])/\Bo w w':=by
 have M:∀W,Calls Tryz.prog 193 #[.string ⟨r.toArray⟩] W fun e w'=>e=.returned (.tuple #[.int .i64 ((lenR r).1:Int),.int .i64 ((lenR r).2.1:Int),.bool false])/\Bo W w':=by
  intro W;have:=Me r W;rw[hk] at this;exact this
 have O:=I M;clear M;have X:=I hk;clear hk;go_enter Tryz.func168,Tryz.ntmps168
 go_wp2_with (go_at_call 193;refine(O.o _).mono ?_;rintro e w' ⟨rfl,q,rfl⟩)
 go_ret3
 exact⟨rfl,⟨_,rfl⟩⟩
theorem Mh (t:UInt8) (r:L) (w:World) (hs:(r.length:Int)<=100000) (hk:(lenR r).2.2=true) (Z:¬(lenR r).1+(lenR r).2.1<=r.length):Calls Tryz.prog 168 #[.string ⟨(t :: r).toArray⟩,.int .u8 t.toNat] w fun e w'=>
  e=.returned (.tuple #[.string ⟨([]:List UInt8).toArray⟩,.string ⟨([]:List UInt8).toArray⟩,.bool false])/\Bo w w':=by
 have hl:=Pp r;have M:∀W,Calls Tryz.prog 193 #[.string ⟨r.toArray⟩] W fun e w'=>e=.returned (.tuple #[.int .i64 ((lenR r).1:Int),.int .i64 ((lenR r).2.1:Int),.bool true])/\Bo W w':=by
  intro W;have:=Me r W;rw[hk] at this;exact this
 have Y:=I M;clear M;have HK:=I hk;clear hk;generalize (lenR r).1=n at *;generalize (lenR r).2.1=k at *;have aa:decide ((r.length:Int) - (k:Int)<(n:Int))=true:=by simp;omega
 have O:(n:Int)<=65535:=by omega
 have X:(k:Int)<=3:=by omega
 clear Z hl;go_enter Tryz.func168,Tryz.ntmps168
 go_wp2_with (go_at_call 193;refine(Y.o _).mono ?_;rintro e w' ⟨rfl,q,rfl⟩)
 go_ret3
 exact⟨rfl,⟨_,rfl⟩⟩
def Nn (o:Option (L×L)):Value:=.tuple #[.string ⟨((o.map (·.1)).getD []).toArray⟩,.string ⟨((o.map (·.2)).getD []).toArray⟩,.bool o.isSome]
theorem GB (t:UInt8) (s:L) (w:World) (hs:(s.length:Int)<=100000):Calls Tryz.prog 168 #[.string ⟨s.toArray⟩,.int .u8 t.toNat] w fun e w'=>
  e=.returned (Nn (Bm t s))/\Bo w w':=by
 cases s with
 |nil=>exact QP t w
 |cons a r=>
  simp only[List.length_cons] at hs
  by_cases h1:a=t
  ·subst h1
   cases hk:(lenR r).2.2 with
   |false=>
    rw[show Bm a (a :: r)=none by simp [Bm,hk]];exact QQ a r w hk
   |true=>
    by_cases hf:(lenR r).1+(lenR r).2.1<=r.length
    ·rw[show Bm a (a :: r)=some ((r.drop (lenR r).2.1).take (lenR r).1,(r.drop (lenR r).2.1).drop (lenR r).1) by rw[Bm,if_pos ⟨rfl,hk,hf⟩]]
     exact Oy a r w (by omega) hk hf
    ·rw[show Bm a (a :: r)=none by rw[Bm,if_neg (fun h=>hf h.2.2)]]
     exact Mh a r w (by omega) hk hf
  ·rw[show Bm t (a :: r)=none by rw[Bm,if_neg (fun h=>h1 h.1)]]
   exact Mf a t r w h1
theorem Ih (t:UInt8) (g:Nat) (c:Option L) (w:World) (h:Cur w g c) (hs:((c.getD []).length:Int)<=100000):Calls Tryz.prog 133 #[.pointer (some ⟨g,0,none⟩),.int .u8 t.toNat] w fun e w'=>
  e=.returned (.tuple #[.string ⟨((Ax t c).getD []).toArray⟩,.bool (Ax t c).isSome])/\Cur w' g (AQ t c)/\w.grownBy w' (some g):=by
 obtain⟨h0,h1⟩:=IN h;obtain⟨f0,f1⟩:=Jz h;cases c with
 |none=>
  go_enter Tryz.func133,Tryz.ntmps133
  go_wp2_with (go_at_call 167;refine(Kc _ _ _ h).mono ?_;rintro e w' ⟨rfl,rfl⟩)
  go_ret2
  exact⟨rfl,h,World.grownBy.refl _ _⟩
 |some s=>
  have M:∀W,Calls Tryz.prog 168 #[.string ⟨s.toArray⟩,.int .u8 t.toNat] W fun e w'=>e=.returned (Nn (Bm t s))/\Bo W w':=fun W=>GB t s W hs
  cases hx:Bm t s with
  |none=>
   rw[hx] at M;simp only[Nn,Option.map_none,Option.getD_none,Option.isSome_none] at M;have Y:=I M;clear M;have Z:=I hx;clear hx;go_enter Tryz.func133,Tryz.ntmps133
   go_wp2_with (first
    |(go_at_call 167;refine(Kc _ _ _ h).mono ?_;rintro e w' ⟨rfl,rfl⟩)
    |(go_at_call 168;refine(Y.o _).mono ?_;rintro e w' ⟨rfl,q,rfl⟩)
    |(go_at_call 169;refine(Nl _ _ _ (h.drewN q)).mono ?_;rintro e w' ⟨rfl,aa,X⟩))
   go_ret2
   obtain⟨O,e2⟩:=Bu Z.o;rw[O,e2];exact⟨rfl,aa,(Fo (World.grownBy.refl w _) q).trans X⟩
  |some x=>
   obtain⟨b,r⟩:=x;rw[hx] at M;simp only[Nn,Option.map_some,Option.getD_some,Option.isSome_some] at M;have Y:=I M;clear M;have Z:=I hx;clear hx;go_enter Tryz.func133,Tryz.ntmps133
   go_wp2_with (first
    |(go_at_call 167;refine(Kc _ _ _ h).mono ?_;rintro e w' ⟨rfl,rfl⟩)
    |(go_at_call 168;refine(Y.o _).mono ?_;rintro e w' ⟨rfl,q,rfl⟩))
   go_ret2
   obtain⟨O,e2⟩:=DG Z.o;rw[O,e2];exact⟨rfl,(h.drewN q).set 0 (.string ⟨r.toArray⟩),Ar (Fo (World.grownBy.refl w _) q) (.inl rfl) _⟩
end DerC
namespace DerC
open Go.RowKit Ae DerP
attribute [local go_sem] Gt List.getElem_cons_zero List.getElem_cons_succ Dw Dx Fm
def numV (p:Nat×Bool):Value:=.tuple #[.int .i64 (p.1:Int),.bool p.2]
theorem Oz (w:World):Calls Tryz.prog 171 #[.string ⟨([]:List UInt8).toArray⟩] w fun e w'=>e=.returned (numV (numR []))/\Bo w w':=by
 go_enter Tryz.func171,Tryz.ntmps171
 go_wp2
 go_ret2
 exact⟨rfl,Bo.refl _⟩
theorem Mi (a:UInt8) (r:L) (h:7<r.length) (hs:(r.length:Int)<=100000) (w:World):Calls Tryz.prog 171 #[.string ⟨(a :: r).toArray⟩] w fun e w'=>e=.returned (numV (numR (a :: r)))/\Bo w w':=by
 have M:decide ((8:Int)<(r.length:Int)+1)=true:=by simp;omega
 have E:=I (Pl (a:=a) h);clear h;go_enter Tryz.func171,Tryz.ntmps171
 go_wp2
 go_ret2
 exact⟨by rw[E.o];rfl,Bo.refl _⟩
theorem Mj (a:UInt8) (r:L) (h:¬7<r.length) (M:128<=a.toNat) (w:World):Calls Tryz.prog 171 #[.string ⟨(a :: r).toArray⟩] w fun e w'=>e=.returned (numV (numR (a :: r)))/\Bo w w':=by
 have O:decide ((8:Int)<(r.length:Int)+1)=false:=by simp;omega
 have X:decide ((128:Int)<=(a.toNat:Int))=true:=by simp;omega
 have E:=I (Pm (r:=r) M);have Y:(r.length:Int)<=7:=by omega
 clear h M;go_enter Tryz.func171,Tryz.ntmps171
 go_wp2
 go_ret2
 exact⟨by rw[E.o];rfl,Bo.refl _⟩
theorem Mk (a b:UInt8) (r:L) (h:¬7<(b :: r).length) (M:a.toNat=0) (O:b.toNat<128) (w:World):Calls Tryz.prog 171 #[.string ⟨(a :: b :: r).toArray⟩] w fun e w'=>e=.returned (numV (numR (a :: b :: r)))/\Bo w w':=by
 simp only[List.length_cons] at h;have Z:decide ((8:Int)<(r.length:Int)+1+1)=false:=by simp;omega
 have g2:decide ((128:Int)<=(a.toNat:Int))=false:=by simp;omega
 have g3:((a.toNat:Int)==0)=true:=by simp;omega
 have Y:decide ((b.toNat:Int)<128)=true:=by simp;omega
 have X:decide ((1:Int)<(r.length:Int)+1+1)=true:=by simp;omega
 have E:=I (Pn (r:=r) M O);have hr:(r.length:Int)<=6:=by omega
 clear h M O;go_enter Tryz.func171,Tryz.ntmps171
 go_wp2
 go_ret2
 exact⟨by rw[E.o];rfl,Bo.refl _⟩
theorem Ml (s : L) (ha : 0 < s.length) (h8 : s.length <= 8) (ge : s.isEmpty = false)
    (a:UInt8) (r:L) (hs:s=a :: r) (h2:a.toNat<128) (Z:¬(a.toNat=0/\Bn r=true)) (w:World):Calls Tryz.prog 171 #[.string ⟨s.toArray⟩] w fun e w'=>e=.returned (numV (numR s))/\Bo w w':=by
  subst hs;have hb:∀i,val ((a :: r).take i)<9223372036854775808:=Ip h2 (by simpa using h8);have g2:decide ((128:Int)<=(a.toNat:Int))=false:=by simp;omega
  have hr:(r.length:Int)<=7:=by simp at h8;omega
  have H3:=I Z;have H2:=I h2;have X:=I hb;have g1:decide ((8:Int)<(r.length:Int)+1)=false:=by simp;omega
  clear ge ha h8 hb h2;have key : decide ((1 : Int) < (r.length : Int) + 1) = false \/ (decide ((1 : Int) < (r.length : Int) + 1) = true /\ ((a.toNat : Int) == 0) = false) \/
      (∃h:0<r.length,decide ((1:Int)<(r.length:Int)+1)=true/\((a.toNat:Int)==0)=true/\decide (((r[0]'h).toNat:Int)<128)=false):=by
    cases r with
    |nil=>left;simp
    |cons b q=>
      right
      by_cases h0:a.toNat=0
      · right
        have:¬Bn (b :: q)=true:=fun g=>Z ⟨h0,g⟩
        simp only[Bn,decide_eq_true_eq] at this;refine⟨by simp,by simp;omega,by simp;omega,?_⟩;simp;omega
      · left
        refine⟨by simp;omega,by simp;omega⟩
  clear Z
  by_cases hbig:4611686018427387904<val (a :: r)
  · have B1 : decide ((4611686018427387904 : Int) < ((val (a :: r) : Nat) : Int)) = true := by simp; omega
    have E:=I (NI hbig);clear hbig;rcases key with k1 | ⟨k1,k2⟩ | ⟨k0,k1,k2,k3⟩
    all_goals
      go_enter Tryz.func171,Tryz.ntmps171
      go_wp2
      go_loop [4,33] (fun n i=>∃k:Nat,k<=r.length+1/\i=.int .i64 (k:Int)/\n=.int .i64 ((val ((a :: r).take k):Nat):Int)) (fun _ i=>r.length+1 - (intOf i).toNat)
      case atStart=>exact⟨0,by omega,rfl,rfl⟩
      case round=>
        obtain⟨k,hk,rfl,rfl⟩:=hrel
        by_cases hlt:k<r.length+1
        · have M : k < (a :: r).length := by simpa using hlt
          have V:=I (El (a :: r) k M);have Y:=X.o k;have O:=X.o (k+1);rw[V.o] at O;have hu:=BG ((a :: r)[k])
          go_wp2
          refine⟨⟨k+1,by omega,by go_num,?_⟩,by simp [intOf];omega⟩;rw[Hq _ _ (by omega) (by omega),V.o]
          go_num
        · obtain rfl : k = r.length + 1 := by omega
          have e:(a :: r).take (r.length+1)=a :: r:=List.take_of_length_le (by simp);rw[e];clear e hk hlt
          go_wp2
          go_ret2
          exact⟨by rw[E.o];rfl,Bo.refl _⟩
  · have B1 : decide ((4611686018427387904 : Int) < ((val (a :: r) : Nat) : Int)) = false := by simp; omega
    have E:=I (Po (by omega) H2.o H3.o (by omega));clear hbig;rcases key with k1 | ⟨k1,k2⟩ | ⟨k0,k1,k2,k3⟩
    all_goals
      go_enter Tryz.func171,Tryz.ntmps171
      go_wp2
      go_loop [4,33] (fun n i=>∃k:Nat,k<=r.length+1/\i=.int .i64 (k:Int)/\n=.int .i64 ((val ((a :: r).take k):Nat):Int)) (fun _ i=>r.length+1 - (intOf i).toNat)
      case atStart=>exact⟨0,by omega,rfl,rfl⟩
      case round=>
        obtain⟨k,hk,rfl,rfl⟩:=hrel
        by_cases hlt:k<r.length+1
        · have M : k < (a :: r).length := by simpa using hlt
          have V:=I (El (a :: r) k M);have Y:=X.o k;have O:=X.o (k+1);rw[V.o] at O;have hu:=BG ((a :: r)[k])
          go_wp2
          refine⟨⟨k+1,by omega,by go_num,?_⟩,by simp [intOf];omega⟩;rw[Hq _ _ (by omega) (by omega),V.o]
          go_num
        · obtain rfl : k = r.length + 1 := by omega
          have e:(a :: r).take (r.length+1)=a :: r:=List.take_of_length_le (by simp);rw[e];clear e hk hlt
          go_wp2
          go_ret2
          exact⟨by rw[E.o];rfl,Bo.refl _⟩
theorem OA (s:L) (hs:(s.length:Int)<=100000) (w:World):Calls Tryz.prog 171 #[.string ⟨s.toArray⟩] w fun e w'=>e=.returned (numV (numR s))/\Bo w w':=by
 cases s with
 |nil=>exact Oz w
 |cons a r=>
  simp only[List.length_cons] at hs
  by_cases h1:7<r.length
  ·exact Mi a r h1 (by omega) w
  ·by_cases h2:128<=a.toNat
   ·exact Mj a r h1 h2 w
   ·by_cases M:a.toNat=0/\Bn r=true
    ·obtain⟨M,O⟩:=M
     cases r with
     |nil=>simp [Bn] at O
     |cons b q=>exact Mk a b q h1 M (by simpa [Bn] using O) w
    ·exact Ml (a :: r) (by simp) (by simp;omega) rfl a r rfl (by omega) M w
end DerC
namespace DerC
open Go.RowKit Ae DerP
attribute [local go_sem] Gt List.getElem_cons_zero List.getElem_cons_succ Dw Dx Fm
theorem Bk (g : Nat) (c : Option L) (w : World) (h : Cur w g c) (hs : ((c.getD []).length : Int) <= 100000) : Calls Tryz.prog 135 #[.pointer (some ⟨g, 0, none⟩)] w fun e w' =>
    e=.returned (.int .i64 ((intC c).1:Int))/\Cur w' g (intC c).2/\w.grownBy w' (some g):=by
  have ht : ∀ W, Cur W g c -> Calls Tryz.prog 133 #[.pointer (some ⟨g, 0, none⟩), .int .u8 2] W fun e w' =>
      e=.returned (.tuple #[.string ⟨((Ax 2 c).getD []).toArray⟩,.bool (Ax 2 c).isSome])/\Cur w' g (AQ 2 c)/\W.grownBy w' (some g):=fun W hW=>Ih 2 g c W hW hs
  have X:=I ht;clear ht;have M:=(BB 2 c).1;cases hb:Ax 2 c with
  |none=>
    have E:=I (show intC c=(0,none) by simp only[intC,hb]);have O:=I (Gs 2 c hb);rw[hb] at X;have HB:=I hb;clear hb M;go_enter Tryz.func135,Tryz.ntmps135
    go_wp2_with (go_at_call 133;refine(X.o _ h).mono ?_;rintro e w' ⟨rfl,Y,Z⟩)
    go_ret;rw[E.o];exact⟨rfl,by rw[<-O.o];exact Y,Z⟩
  |some b=>
    rw[hb] at X;rw[hb] at M;simp only[Option.getD_some] at M;have O:∀W,Calls Tryz.prog 171 #[.string ⟨b.toArray⟩] W fun e w'=>e=.returned (numV (numR b))/\Bo W w':=fun W=>OA b (by omega) W
    cases hx:numL b with
    |none=>
      have E:=I (show intC c=(0,none) by simp only[intC,hb,hx]);rw[Fg hx] at O;simp only[numV] at O;have HN:=I O;clear O;have HB:=I hb;clear hb M hx;go_enter Tryz.func135,Tryz.ntmps135
      go_wp2_with (first
        |(go_at_call 133;refine(X.o _ h).mono ?_;rintro e w1 ⟨rfl,Y,Z⟩)
        |(go_at_call 171;refine(HN.o _).mono ?_;rintro e w' ⟨rfl,q,rfl⟩)
        |(go_at_call 169;refine(Nl _ _ _ (Y.drewN q)).mono ?_;rintro e w' ⟨rfl,ab,aa⟩))
      go_ret;rw[E.o];exact⟨rfl,ab,(Fo Z q).trans aa⟩
    |some n=>
      have E:=I (show intC c=(n,AQ 2 c) by simp only[intC,hb,hx]);rw[numR,hx] at O;simp only[numV,Option.getD_some,Option.isSome_some] at O;have HN:=I O;clear O;have HB:=I hb;clear hb M hx;go_enter Tryz.func135,Tryz.ntmps135
      go_wp2_with (first
        |(go_at_call 133;refine(X.o _ h).mono ?_;rintro e w1 ⟨rfl,Y,Z⟩)
        |(go_at_call 171;refine(HN.o _).mono ?_;rintro e w' ⟨rfl,q,rfl⟩))
      go_ret;rw[E.o];exact⟨rfl,Y.drewN q,Fo Z q⟩
theorem Cq (g:Nat) (c:Option L) (w:World) (h:Cur w g c) (hs:((c.getD []).length:Int)<=100000):Calls Tryz.prog 137 #[.pointer (some ⟨g,0,none⟩)] w fun e w'=>
  (∃b cap,e=.returned (.slice (some ⟨b,0,none⟩) ((Ax 4 c).getD []).length cap)/\((Ax 4 c).getD []).length<=cap/\Pv w' w.heap.size b ((Ax 4 c).getD []))/\Cur w' g (AQ 4 c)/\w.grownBy w' (some g):=by
 have O:=fun(W:World)=>Lib.run_convert_string_bytes (P:=Tryz.prog) W 9 24 5 ⟨((Ax 4 c).getD []).toArray⟩ Tryz.underlying9 Tryz.underlying24 Tryz.underlying5
 go_enter Tryz.func137,Tryz.ntmps137
 go_wp2_with (go_at_call 133;refine(Ih 4 g c _ h hs).mono ?_;rintro e X ⟨rfl,Y,M⟩)
 go_ret;exact⟨⟨_,_,rfl,grownCap_ge _ _ _ _,by have:=Ge X 5 ((Ax 4 c).getD []);exact⟨Nat.le_trans M.size this.1,this.2⟩⟩,Y.below (Em _ _ _),Gu M (Em _ _ _)⟩
theorem FT (g:Nat) (c:Option L) (w:World) (h:Cur w g c) (hs:((c.getD []).length:Int)<=100000):Calls Tryz.prog 170 #[.pointer (some ⟨g,0,none⟩)] w fun e w'=>
  e=.returned (.string ⟨((Ax 27 c).getD []).toArray⟩)/\Cur w' g (AQ 27 c)/\w.grownBy w' (some g):=by
 have O:((Ax 27 c).getD []).length<=1000000000:=by
  have:=(BB 27 c).1;omega
 have X:=I O;clear O;go_enter Tryz.func170,Tryz.ntmps170
 go_wp2_with (first
  |(go_at_call 133;refine(Ih 27 g c _ h hs).mono ?_;rintro e w1 ⟨rfl,Z,Y⟩)
  |(go_at_call 47;refine(Nm.Kx _ _ X.o).mono ?_;rintro e w2 ⟨rfl,M⟩))
 go_ret;exact⟨rfl,Z.below M,Gu Y M⟩
theorem Ii (t:UInt8) (g:Nat) (c:Option L) (w:World) (h:Cur w g c) (hs:((c.getD []).length:Int)<=100000):Calls Tryz.prog 92 #[.pointer (some ⟨g,0,none⟩),.int .u8 t.toNat] w fun e w'=>
  (∃g',e=.returned (.pointer (some ⟨g',0,none⟩))/\w.heap.size<=g'/\Cur w' g' (Ax t c))/\Cur w' g (AQ t c)/\w.grownBy w' (some g):=by
 go_enter Tryz.func92,Tryz.ntmps92
 go_wp2_with (go_at_call 133;refine(Ih t g c _ h hs).mono ?_;rintro e O ⟨rfl,X,M⟩)
 go_ret;refine⟨⟨_,rfl,M.size,?_⟩,X.alloc _,Cc M _⟩;have:=Blk.new O 232 (Kb (Ax t c));cases hb:Ax t c<;>(rw[hb] at this;exact this)
theorem No (B:Nat) (A:Option Addr) (l:L) (n cap:Nat) (w:World) (h:Rd w B A (bvs l)) (M:n=l.length):Calls Tryz.prog 91 #[.slice A n cap] w fun e w'=>
  ∃g',e=.returned (.pointer (some ⟨g',0,none⟩))/\w.heap.size<=g'/\Cur w' g' (some l)/\Below w.heap.size w w':=by
 have O:=AJ (P:=Tryz.prog) w 24 5 Tryz.underlying24 Tryz.underlying5 h n cap M 9 Tryz.underlying9;have X:=I M;clear M;go_enter Tryz.func91,Tryz.ntmps91
 go_wp2
 go_ret;exact⟨_,rfl,Nat.le_refl _,Blk.new w 232 (Kb (some l)),Ag.alloc Af _⟩
end DerC
namespace DerLib
open Go.RowKit Ae
theorem Hu:(⟨((([0,1,2,2,3,3,3,3,4,4,4,4,4,4,4,4,5,5,5,5,5,5,5,5,5,5,5,5,5,5,5,5,6,6,6,6,6,6,6,6,6,6,6,6,6,6,6,6,6,6,6,6,6,6,6,6,6,6,6,6,6,6,6,6]:List UInt8).append [7,7,7,7,7,7,7,7,7,7,7,7,7,7,7,7,7,7,7,7,7,7,7,7,7,7,7,7,7,7,7,7,7,7,7,7,7,7,7,7,7,7,7,7,7,7,7,7,7,7,7,7,7,7,7,7,7,7,7,7,7,7,7,7]).append (([8,8,8,8,8,8,8,8,8,8,8,8,8,8,8,8,8,8,8,8,8,8,8,8,8,8,8,8,8,8,8,8,8,8,8,8,8,8,8,8,8,8,8,8,8,8,8,8,8,8,8,8,8,8,8,8,8,8,8,8,8,8,8,8]:List UInt8).append [8,8,8,8,8,8,8,8,8,8,8,8,8,8,8,8,8,8,8,8,8,8,8,8,8,8,8,8,8,8,8,8,8,8,8,8,8,8,8,8,8,8,8,8,8,8,8,8,8,8,8,8,8,8,8,8,8,8,8,8,8,8,8,8])).toArray⟩:ByteArray)=Lib.len8tab:=by kernel_rfl
theorem Fy (m k p:Nat) (x:Int) (O:p=2 ^ k) (X:x=((m / p:Nat):Int)) (hs:m / p<256) (M:p<=m\/k=0) (hm:m<18446744073709551616) :
  Lib.len8 x+(k:Int)=(Lib.bitLen m:Int)/\Lib.len8 x<=8/\0<=Lib.len8 x:=by
 have l:=Lib.bitLen_le8 ⟨m / p,hs⟩;have v:=Lib.len8_eq ⟨m / p,hs⟩;simp only at l v;rw[X,v];have Y:Lib.bitLen m=k+Lib.bitLen (m / p):=by
  rcases M with h | h
  ·rw[O] at h⊢;exact Lib.bitLen_shift k m h hm
  ·subst h;rw[O];simp
 omega
theorem QR (m:Nat) (w:World) (hm:m<9223372036854775808):Calls Tryz.prog 220 #[.int .u64 (m:Int)] w fun e w'=>e=.returned (.int .i64 (Lib.bitLen m:Int))/\w=w':=by
 by_cases h1:4294967296<=m
 ·by_cases h2:65536<=m / 4294967296
  ·by_cases h3:256<=m / 4294967296 / 65536
   ·have Z:decide ((4294967296:Int)<=(m:Int))=true:=decide_eq_true (by omega)
    have X:decide ((65536:Int)<=(m:Int) / 4294967296)=true:=decide_eq_true (by omega);have Y:decide ((256:Int)<=(m:Int) / 4294967296 / 65536)=true:=decide_eq_true (by omega);have M:=Fy m 56 72057594037927936 ((m:Int) / 4294967296 / 65536 / 256 % 256) rfl (by omega) (by omega) (by omega) (by omega);have O:=I M;clear M hm h1 h2 h3;go_enter Tryz.func220,Tryz.ntmps220;rw[Hu]
    go_wp2
    go_ret;have M:=O.o;refine⟨congrArg Ending.returned (congrArg (Value.int IntKind.i64) ?_),rfl⟩
    (first | (unfold wrap64;omega) | omega | skip)
   ·have Z:decide ((4294967296:Int)<=(m:Int))=true:=decide_eq_true (by omega)
    have X:decide ((65536:Int)<=(m:Int) / 4294967296)=true:=decide_eq_true (by omega);have Y:decide ((256:Int)<=(m:Int) / 4294967296 / 65536)=false:=decide_eq_false (by omega);have M:=Fy m 48 281474976710656 ((m:Int) / 4294967296 / 65536 % 256) rfl (by omega) (by omega) (by omega) (by omega);have O:=I M;clear M hm h1 h2 h3;go_enter Tryz.func220,Tryz.ntmps220;rw[Hu]
    go_wp2
    go_ret;have M:=O.o;refine⟨congrArg Ending.returned (congrArg (Value.int IntKind.i64) ?_),rfl⟩
    (first | (unfold wrap64;omega) | omega | skip)
  ·by_cases h3:256<=m / 4294967296
   ·have Z:decide ((4294967296:Int)<=(m:Int))=true:=decide_eq_true (by omega)
    have X:decide ((65536:Int)<=(m:Int) / 4294967296)=false:=decide_eq_false (by omega);have Y:decide ((256:Int)<=(m:Int) / 4294967296)=true:=decide_eq_true (by omega);have M:=Fy m 40 1099511627776 ((m:Int) / 4294967296 / 256 % 256) rfl (by omega) (by omega) (by omega) (by omega);have O:=I M;clear M hm h1 h2 h3;go_enter Tryz.func220,Tryz.ntmps220;rw[Hu]
    go_wp2
    go_ret;have M:=O.o;refine⟨congrArg Ending.returned (congrArg (Value.int IntKind.i64) ?_),rfl⟩
    (first | (unfold wrap64;omega) | omega | skip)
   ·have Z:decide ((4294967296:Int)<=(m:Int))=true:=decide_eq_true (by omega)
    have X:decide ((65536:Int)<=(m:Int) / 4294967296)=false:=decide_eq_false (by omega);have Y:decide ((256:Int)<=(m:Int) / 4294967296)=false:=decide_eq_false (by omega);have M:=Fy m 32 4294967296 ((m:Int) / 4294967296 % 256) rfl (by omega) (by omega) (by omega) (by omega);have O:=I M;clear M hm h1 h2 h3;go_enter Tryz.func220,Tryz.ntmps220;rw[Hu]
    go_wp2
    go_ret;have M:=O.o;refine⟨congrArg Ending.returned (congrArg (Value.int IntKind.i64) ?_),rfl⟩
    (first | (unfold wrap64;omega) | omega | skip)
 ·by_cases h2:65536<=m
  ·by_cases h3:256<=m / 65536
   ·have Z:decide ((4294967296:Int)<=(m:Int))=false:=decide_eq_false (by omega)
    have X:decide ((65536:Int)<=(m:Int))=true:=decide_eq_true (by omega);have Y:decide ((256:Int)<=(m:Int) / 65536)=true:=decide_eq_true (by omega);have M:=Fy m 24 16777216 ((m:Int) / 65536 / 256 % 256) rfl (by omega) (by omega) (by omega) (by omega);have O:=I M;clear M hm h1 h2 h3;go_enter Tryz.func220,Tryz.ntmps220;rw[Hu]
    go_wp2
    go_ret;have M:=O.o;refine⟨congrArg Ending.returned (congrArg (Value.int IntKind.i64) ?_),rfl⟩
    (first | (unfold wrap64;omega) | omega | skip)
   ·have Z:decide ((4294967296:Int)<=(m:Int))=false:=decide_eq_false (by omega)
    have X:decide ((65536:Int)<=(m:Int))=true:=decide_eq_true (by omega);have Y:decide ((256:Int)<=(m:Int) / 65536)=false:=decide_eq_false (by omega);have M:=Fy m 16 65536 ((m:Int) / 65536 % 256) rfl (by omega) (by omega) (by omega) (by omega);have O:=I M;clear M hm h1 h2 h3;go_enter Tryz.func220,Tryz.ntmps220;rw[Hu]
    go_wp2
    go_ret;have M:=O.o;refine⟨congrArg Ending.returned (congrArg (Value.int IntKind.i64) ?_),rfl⟩
    (first | (unfold wrap64;omega) | omega | skip)
  ·by_cases h3:256<=m
   ·have Z:decide ((4294967296:Int)<=(m:Int))=false:=decide_eq_false (by omega)
    have X:decide ((65536:Int)<=(m:Int))=false:=decide_eq_false (by omega);have Y:decide ((256:Int)<=(m:Int))=true:=decide_eq_true (by omega);have M:=Fy m 8 256 ((m:Int) / 256 % 256) rfl (by omega) (by omega) (by omega) (by omega);have O:=I M;clear M hm h1 h2 h3;go_enter Tryz.func220,Tryz.ntmps220;rw[Hu]
    go_wp2
    go_ret;have M:=O.o;refine⟨congrArg Ending.returned (congrArg (Value.int IntKind.i64) ?_),rfl⟩
    (first | (unfold wrap64;omega) | omega | skip)
   ·have Z:decide ((4294967296:Int)<=(m:Int))=false:=decide_eq_false (by omega)
    have X:decide ((65536:Int)<=(m:Int))=false:=decide_eq_false (by omega);have Y:decide ((256:Int)<=(m:Int))=false:=decide_eq_false (by omega);have M:=Fy m 0 1 ((m:Int) % 256) rfl (by omega) (by omega) (by omega) (by omega);have O:=I M;clear M hm h1 h2 h3;go_enter Tryz.func220,Tryz.ntmps220;rw[Hu]
    go_wp2
    go_ret;have M:=O.o;refine⟨congrArg Ending.returned (congrArg (Value.int IntKind.i64) ?_),rfl⟩
    (first | (unfold wrap64;omega) | omega | skip)
theorem Ty (m:Nat) (w:World) (hm:m<9223372036854775808):Calls Tryz.prog 208 #[.int .u64 (m:Int)] w fun e w'=>e=.returned (.int .i64 (Lib.bitLen m:Int))/\w=w':=by
 have c1:=QR m w hm;clear hm;go_enter Tryz.func208,Tryz.ntmps208
 go_wp2_with (go_at_call 220;refine Ah c1 ?_;rintro w' rfl)
 go_ret;exact⟨rfl,rfl⟩
end DerLib
namespace DerW
open Go.RowKit Ae DerP
theorem Cd:(Tryz.prog.info? 5).map (fun i=>(i.zero,i.size,i.bytes))=some (some (.int .u8 0),1,1):=by kernel_rfl
def filled (K m j:Nat):Array Value:=(List.replicate j (bv 0)++bvs ((digK K m).drop j)).toArray
theorem KZ (K m:Nat):filled K m K=Da K:=by
 rw[filled,List.drop_of_length_le (by rw[Bj];exact Nat.le_refl _)];simp [Da,bvs]
theorem OB (K m:Nat):filled K m 0=(bvs (digK K m)).toArray:=by simp [filled]
theorem OC (K m j:Nat) (M:j<K):(filled K m (j+1)).setIfInBounds j (bv (UInt8.ofNat (m / 256 ^ (K - 1 - j))))=filled K m j:=by
 have h:=Pg (digK K m) j _ (Pf K m j M);apply Array.toList_inj.1;simp only[filled,Array.toList_setIfInBounds];rw[h];rw[List.set_append_left _ _ (by simp)];rw[List.replicate_succ',List.set_append_right _ _ (by simp)];simp [bvs]
theorem OD (m:Nat) (hm:m<=4611686018427387904) (w:World):Calls Tryz.prog 197 #[.int .i64 (m:Int)] w fun e w'=>
  ∃g,e=.returned (.slice (some ⟨g,0,none⟩) (dig m).length (dig m).length)/\w.heap.size<=g/\Blk w' g 5 (bvs (dig m)).toArray/\Below w.heap.size w w':=by
 obtain⟨i0,aa,Z,Y,ab⟩:=info_parts Cd;have ad:=Gq m hm;have hL:(dig m).length=Lib.bitLen m / 8+1:=GS m;have hD:dig m=digK (Lib.bitLen m / 8+1) m:=rfl;rw[hL,hD];have hc:∀W,Calls Tryz.prog 208 #[.int .u64 (m:Int)] W fun e w'=>e=.returned (.int .i64 (Lib.bitLen m:Int))/\W=w':=by
  intro W;exact DerLib.Ty m W (by omega)
 clear hL hD;generalize hq:Lib.bitLen m=q at *;have ak:=Gc (P:=Tryz.prog) Tryz.underlying24 aa Z Y ab ((q:Int) / 8+1) (q / 8+1) (by omega) (by omega);have HC:=I hc;clear hc;have HQ:=I hq;clear hq;have ah:(m:Int)<=4611686018427387904:=by omega
 have ai:(q:Int)<=63:=by omega
 clear hm ad aa Z Y ab;go_enter Tryz.func197,Tryz.ntmps197
 go_wp2_with (go_at_call 208;refine(HC.o _).mono ?_;rintro e w' ⟨rfl,rfl⟩)
 go_loopw [0,4] (fun n i wr=>∃j:Nat,j<=q / 8+1/\i=.int .i64 ((j:Int) - 1)/\n=.int .i64 ((m / 256 ^ (q / 8+1 - j):Nat):Int)/\Blk wr w.heap.size 5 (filled (q / 8+1) m j)/\Below w.heap.size w wr) (fun _ i _=>(intOf i+1).toNat)
 case atStart=>
  refine⟨q / 8+1,Nat.le_refl _,by congr 1;omega,by simp,?_,Ag.alloc Af _⟩;rw[KZ];exact Blk.new _ _ _
 case round=>
  obtain⟨j,hj,rfl,rfl,hB,O⟩:=hrel;cases j with
  |zero=>
   have e:((0:Nat):Int) - 1 = -1:=rfl;rw[e]
   go_wp2
   go_ret;rw[OB] at hB;exact⟨_,rfl,Nat.le_refl _,hB,O⟩
  |succ j=>
   have e:((j+1:Nat):Int) - 1=(j:Int):=by omega
   rw[e];clear e;have hf:=hB.frozen j;have M:=hB.set j (bv (UInt8.ofNat (m / 256 ^ (q / 8+1 - 1 - j))));rw[OC _ _ _ (by omega)] at M;have X:∃u,(filled (q / 8+1) m (j+1))[j]? = some u:=by
    have:j<(filled (q / 8+1) m (j+1)).size:=by simp [filled,bvs,Bj];omega
    exact⟨_,Array.getElem?_eq_getElem this⟩
   obtain⟨u,hu⟩:=X;have aj:=(hB.cell j).trans hu;have hdiv:m / 256 ^ (q / 8+1 - (j+1))<=m:=Nat.div_le_self _ _;have ag:((m / 256 ^ (q / 8+1 - (j+1)):Nat):Int)<=4611686018427387904:=by omega
   have af:=I (show m / 256 ^ (q / 8+1 - (j+1)) / 256=m / 256 ^ (q / 8+1 - j) by
    rw[Nat.div_div_eq_div_mul,<-Nat.pow_succ];congr 2;omega)
   have ae:=I (show q / 8+1 - 1 - j=q / 8+1 - (j+1) by omega);rw[ae.o] at M;generalize m / 256 ^ (q / 8+1 - (j+1))=y at *;have HS:=I M;clear M hu
   go_wp2
   refine⟨⟨j,by omega,rfl,?_,?_,O.setCell Af _⟩,by simp [intOf]⟩
   ·rw[<-af.o];rfl
   ·have e:bv (UInt8.ofNat y)=.int .u8 ((y:Int) % 256):=by simp [bv]
    rw[<-e];exact HS.o
theorem ml (n:Nat) (h:n<=1000000):n<=maxLen:=by unfold maxLen;omega
theorem Hv (w:World) (t:TypeId) (cs:Array Value) (l:L) (h:cs.toList=bvs l) (N:Nat) (M:w.heap.size=N):Rd (w.alloc (.cells cs t)) (N+1) (some ⟨N,0,none⟩) (bvs l):=by
 subst M;refine .inr ⟨w.heap.size,0,rfl,by omega,fun i u hu=>?_⟩;rw[Nat.zero_add,(Blk.new w t cs).cell i];rw[<-h] at hu
 simpa using hu
theorem GK (n:Nat) (h:n<256):bv (UInt8.ofNat n)=.int .u8 (n:Int):=by simp [bv];omega
theorem OE (t : UInt8) (n : Nat) (h1 : n < 128) (w : World) : Calls Tryz.prog 195 #[.int .u8 t.toNat, .int .i64 (n : Int)] w fun e w' =>
    ∃v,e=.returned v/\w'.ownsRow w.heap.size 5 1 v (1+(szL n).length) (bvs (t :: szL n))/\Below w.heap.size w w':=by
  obtain⟨i0,aa,Y,X,ab⟩:=info_parts Cd;have ak:=Dy (P:=Tryz.prog) Tryz.underlying24 aa Y X ab ((n:Int)+4) (n+4) (by omega) (by omega);have E:=I (show szL n = [UInt8.ofNat n] by simp [szL,h1]);have g1:decide ((n:Int)<128)=true:=by simp;omega
  have hn:(n:Int)<=127:=by omega
  have Z:Hid (∀o,(World.alloc (World.alloc w (.cells (Da (n+4)) 5)) o).ownsRow w.heap.size 5 1 (.slice (some ⟨w.heap.size,0,none⟩) 0 (n+4)) 0 []):=fun o=>(World.ownsRow_made w (Da (n+4)) (n+4) Af (ml _ (by omega)) (by rw[DC];omega)).alloc o
  have ag:=I (ml 1 (by omega));have ae:=I (ml 2 (by omega));have af:=I (GK n (by omega));clear h1;go_enter Tryz.func195,Tryz.ntmps195
  go_wp2_with (first
    | (at_builtin
       refine AF _ rfl (.tmp 8) (.tmp 10) 24 rfl w.heap.size 5 i0 _ 1 Tryz.underlying24 aa Y X ab rfl (.slice (some ⟨w.heap.size,0,none⟩) 0 (n+4)) 0 [] rfl (Z.o _) _ _ 1 1 (bvs [t]) rfl rfl (Hv _ 5 _ [t] rfl _ (by simp)) (BM _) ag.o (by omega) (by simp;omega) ?_;intro v1 w1 M ad aj)
    | (at_builtin
       refine AF _ rfl (.tmp 15) (.tmp 18) 24 rfl w.heap.size 5 i0 _ 1 Tryz.underlying24 aa Y X ab rfl v1 (0+1) ([]++bvs [t]) rfl (M.alloc _) _ _ 1 1 (bvs [UInt8.ofNat n]) rfl rfl (Hv w1 5 _ [UInt8.ofNat n] (by simp [bvs,af.o]) _ rfl) (BM _) ae.o (by omega) (by simp;have:=ad.size;simp at this;omega) ?_;intro v2 w2 O ah ai))
  go_ret;have b1:Below w.heap.size w w1:=(((Below.refl w.heap.size w).alloc Af _).alloc (by simp) _).grown ad (by simp;omega) (by intro k hk;simp [Value.ownBlock] at hk;omega);have b2:=(b1.alloc b1.size _).grown ah (by have:=b1.size;simp;omega) (fun k hk=>(M.lt k hk).1);exact⟨v2,rfl,by rw[E.o];simpa [bvs] using O,b2⟩
theorem Tz (t : UInt8) (n : Nat) (h1 : ¬ n < 128) (h2 : n <= 255) (w : World) : Calls Tryz.prog 195 #[.int .u8 t.toNat, .int .i64 (n : Int)] w fun e w' =>
    ∃v,e=.returned v/\w'.ownsRow w.heap.size 5 1 v (1+(szL n).length) (bvs (t :: szL n))/\Below w.heap.size w w':=by
  obtain⟨i0,aa,Y,X,ab⟩:=info_parts Cd;have ak:=Dy (P:=Tryz.prog) Tryz.underlying24 aa Y X ab ((n:Int)+4) (n+4) (by omega) (by omega);have E:=I (show szL n = [129,UInt8.ofNat n] by simp [szL,h1,h2]);have g1:decide ((n:Int)<128)=false:=by simp;omega
  have g2:decide ((n:Int)<=255)=true:=by simp;omega
  have hn:(n:Int)<=255:=by omega
  have Z:Hid (∀o,(World.alloc (World.alloc w (.cells (Da (n+4)) 5)) o).ownsRow w.heap.size 5 1 (.slice (some ⟨w.heap.size,0,none⟩) 0 (n+4)) 0 []):=fun o=>(World.ownsRow_made w (Da (n+4)) (n+4) Af (ml _ (by omega)) (by rw[DC];omega)).alloc o
  have ag:=I (ml 1 (by omega));have ae:=I (ml 3 (by omega));have af:=I (GK n (by omega));clear h1 h2;go_enter Tryz.func195,Tryz.ntmps195
  go_wp2_with (first
    | (at_builtin
       refine AF _ rfl (.tmp 8) (.tmp 10) 24 rfl w.heap.size 5 i0 _ 1 Tryz.underlying24 aa Y X ab rfl (.slice (some ⟨w.heap.size,0,none⟩) 0 (n+4)) 0 [] rfl (Z.o _) _ _ 1 1 (bvs [t]) rfl rfl (Hv _ 5 _ [t] rfl _ (by simp)) (BM _) ag.o (by omega) (by simp;omega) ?_;intro v1 w1 M ad aj)
    | (at_builtin
       refine AF _ rfl (.tmp 23) (.tmp 26) 24 rfl w.heap.size 5 i0 _ 1 Tryz.underlying24 aa Y X ab rfl v1 (0+1) ([]++bvs [t]) rfl (M.alloc _) _ _ 2 2 (bvs [129,UInt8.ofNat n]) rfl rfl (Hv w1 5 _ [129,UInt8.ofNat n] (by simp [bvs,af.o];rfl) _ rfl) (BM _) ae.o (by omega) (by simp;have:=ad.size;simp at this;omega) ?_;intro v2 w2 O ah ai))
  go_ret;have b1:Below w.heap.size w w1:=(((Below.refl w.heap.size w).alloc Af _).alloc (by simp) _).grown ad (by simp;omega) (by intro k hk;simp [Value.ownBlock] at hk;omega);have b2:=(b1.alloc b1.size _).grown ah (by have:=b1.size;simp;omega) (fun k hk=>(M.lt k hk).1);exact⟨v2,rfl,by rw[E.o];simpa [bvs] using O,b2⟩
theorem TA (t : UInt8) (n : Nat) (h1 : ¬ n < 128) (h2 : ¬ n <= 255) (h3 : n <= 65535) (w : World) : Calls Tryz.prog 195 #[.int .u8 t.toNat, .int .i64 (n : Int)] w fun e w' =>
    ∃v,e=.returned v/\w'.ownsRow w.heap.size 5 1 v (1+(szL n).length) (bvs (t :: szL n))/\Below w.heap.size w w':=by
  obtain⟨i0,aa,Y,X,ab⟩:=info_parts Cd;have ak:=Dy (P:=Tryz.prog) Tryz.underlying24 aa Y X ab ((n:Int)+4) (n+4) (by omega) (by omega);have E:=I (show szL n = [130,UInt8.ofNat (n / 256),UInt8.ofNat n] by simp [szL,h1,h2]);have g1:decide ((n:Int)<128)=false:=by simp;omega
  have g2:decide ((n:Int)<=255)=false:=by simp;omega
  have hn:(n:Int)<=65535:=by omega
  have Z:Hid (∀o,(World.alloc (World.alloc w (.cells (Da (n+4)) 5)) o).ownsRow w.heap.size 5 1 (.slice (some ⟨w.heap.size,0,none⟩) 0 (n+4)) 0 []):=fun o=>(World.ownsRow_made w (Da (n+4)) (n+4) Af (ml _ (by omega)) (by rw[DC];omega)).alloc o
  have ag:=I (ml 1 (by omega));have ae:=I (ml 4 (by omega));have af:=I (show bvs [130,UInt8.ofNat (n / 256),UInt8.ofNat n] = [.int .u8 130,.int .u8 ((n:Int) / 256),.int .u8 ((n:Int) % 256)] by simp [bvs,bv];omega);clear h1 h2 h3;go_enter Tryz.func195,Tryz.ntmps195
  go_wp2_with (first
    | (at_builtin
       refine AF _ rfl (.tmp 8) (.tmp 10) 24 rfl w.heap.size 5 i0 _ 1 Tryz.underlying24 aa Y X ab rfl (.slice (some ⟨w.heap.size,0,none⟩) 0 (n+4)) 0 [] rfl (Z.o _) _ _ 1 1 (bvs [t]) rfl rfl (Hv _ 5 _ [t] rfl _ (by simp)) (BM _) ag.o (by omega) (by simp;omega) ?_;intro v1 w1 M ad aj)
    | (at_builtin
       refine AF _ rfl (.tmp 28) (.tmp 34) 24 rfl w.heap.size 5 i0 _ 1 Tryz.underlying24 aa Y X ab rfl v1 (0+1) ([]++bvs [t]) rfl (M.alloc _) _ _ 3 3 (bvs [130,UInt8.ofNat (n / 256),UInt8.ofNat n]) rfl rfl (Hv w1 5 _ [130,UInt8.ofNat (n / 256),UInt8.ofNat n] (by rw[af.o]) _ rfl) (BM _) ae.o (by omega) (by simp;have:=ad.size;simp at this;omega) ?_;intro v2 w2 O ah ai))
  go_ret;have b1:Below w.heap.size w w1:=(((Below.refl w.heap.size w).alloc Af _).alloc (by simp) _).grown ad (by simp;omega) (by intro k hk;simp [Value.ownBlock] at hk;omega);have b2:=(b1.alloc b1.size _).grown ah (by have:=b1.size;simp;omega) (fun k hk=>(M.lt k hk).1);exact⟨v2,rfl,by rw[E.o];simpa [bvs] using O,b2⟩
theorem TB (t:UInt8) (n:Nat) (h:n<=65535) (w:World):Calls Tryz.prog 195 #[.int .u8 t.toNat,.int .i64 (n:Int)] w fun e w'=>
  ∃v,e=.returned v/\w'.ownsRow w.heap.size 5 1 v (1+(szL n).length) (bvs (t :: szL n))/\Below w.heap.size w w':=by
 by_cases h1:n<128
 ·exact OE t n h1 w
 ·by_cases h2:n<=255
  ·exact Tz t n h1 h2 w
  ·exact TA t n h1 h2 h w
def Rds (w:World) (B:Nat) (A:Option Addr) (ls:List L):Prop:=
 ls = []\/∃b o,A=some ⟨b,o,none⟩/\b<B/\∀i l,ls[i]? = some l->∃A' c',w.cell? ⟨b,o+i,none⟩=some (.slice A' l.length c')/\Rd w B A' (bvs l)
theorem Rds.at_ {w:World} {B:Nat} {A:Option Addr} {ls:List L} (h:Rds w B A ls) {i:Nat} {l:L} (M:ls[i]? = some l) :
  ∃b o,A=some ⟨b,o,none⟩/\b<B/\∃A' c',w.cell? ⟨b,o+i,none⟩=some (.slice A' l.length c')/\Rd w B A' (bvs l):=by
 rcases h with h | ⟨b,o,O,Y,X⟩
 ·subst h;simp at M
 ·exact⟨b,o,O,Y,X i l M⟩
theorem Rds.below {w w':World} {B:Nat} {A:Option Addr} {ls:List L} (h:Rds w B A ls) (M:Below B w w'):Rds w' B A ls:=by
 rcases h with h | ⟨b,o,Y,O,Z⟩
 ·exact .inl h
 ·refine .inr ⟨b,o,Y,O,fun i l hl=>?_⟩
  obtain⟨A',c',g1,X⟩:=Z i l hl;exact⟨A',c',(M.cell (p:=⟨b,o+i,none⟩) O).trans g1,X.below M⟩
theorem IP (ls:List L) (k:Nat) (l:L) (h:ls[k]? = some l):(ls.take (k+1)).flatten=(ls.take k).flatten++l:=by
 obtain⟨hk,e⟩:=List.getElem?_eq_some_iff.1 h;rw[List.take_succ_eq_append_getElem hk,e];simp
theorem IG (ls:List L) (k:Nat):(ls.take k).flatten.length<=ls.flatten.length:=by
 conv=>rhs;rw[<-List.take_append_drop k ls,List.flatten_append,List.length_append]
 omega
def pre (ls:List L) (k:Nat):Nat:=(ls.take k).flatten.length
def built (t:UInt8) (ls:List L) (k:Nat):L:=t :: szL ls.flatten.length++(ls.take k).flatten
theorem TC (ls:List L) (k:Nat) (l:L) (h:ls[k]? = some l):pre ls (k+1)=pre ls k+l.length:=by
 rw[pre,IP ls k l h,List.length_append];rfl
theorem XX (ls:List L) (k:Nat):pre ls k<=ls.flatten.length:=IG ls k
theorem Wk (ls:List L):pre ls ls.length=ls.flatten.length:=by rw[pre,List.take_of_length_le Af]
theorem OF (t:UInt8) (ls:List L) (k:Nat) (l:L) (h:ls[k]? = some l):built t ls (k+1)=built t ls k++l:=by
 rw[built,IP ls k l h,built,List.append_assoc]
theorem QS (t:UInt8) (ls:List L):built t ls ls.length=elem t ls.flatten:=by
 rw[built,List.take_of_length_le Af];rfl
theorem TD (t:UInt8) (ls:List L) (k:Nat) (h:ls.flatten.length<=65535):(built t ls k).length<=65539:=by
 have O:=IG ls k;have M:=Cp ls.flatten.length;have X:(szL ls.flatten.length).length<=3:=by rw[M];split<;>(try split)<;>omega
 rw[built,List.length_append,List.length_cons];omega
theorem BY (t : UInt8) (ls : List L) (A : Option Addr) (m c B : Nat) (w : World) (hr : Rds w B A ls) (hm : m = ls.length) (hB : B <= w.heap.size) (hl : ls.flatten.length <= 65535) (hc : ls.length <= 1000000) :
    Calls Tryz.prog 180 #[.int .u8 t.toNat,.slice A m c] w fun e w'=>
      ∃v,e=.returned v/\w'.ownsRow w.heap.size 5 1 v (elem t ls.flatten).length (bvs (elem t ls.flatten))/\Below w.heap.size w w':=by
  obtain⟨i0,av,ar,ak,al⟩:=info_parts Cd;have ag:=Wk ls;have hh:∀W,Calls Tryz.prog 195 #[.int .u8 t.toNat,.int .i64 ((pre ls m:Nat):Int)] W fun e w'=>
    ∃v,e=.returned v/\w'.ownsRow W.heap.size 5 1 v (built t ls 0).length (bvs (built t ls 0))/\Below W.heap.size W w':=by
    intro W;have:=TB t _ hl W;have e1:built t ls 0=t :: szL ls.flatten.length:=by simp [built]
    rw[e1,hm,ag,List.length_cons,Nat.add_comm];exact this
  have HH:=I hh;clear hh;have af:=I (fun k=>Nat.le_trans (XX ls k) hl);have ai:=I (fun k=>TD t ls k hl);have au:=I (QS t ls);have ao:=I ml;have HR:=I hr;clear hr;have az:(m:Int)<=1000000:=by omega
  have HM:=I hm;clear hm hc hl ag;go_enter Tryz.func180,Tryz.ntmps180
  go_wp2
  go_loop [5,13] (fun n i=>∃k:Nat,k<=m/\i=.int .i64 (k:Int)/\n=.int .i64 ((pre ls k:Nat):Int)) (fun _ i=>m - (intOf i).toNat)
  case atStart=>exact⟨0,by omega,rfl,rfl⟩
  case round=>
    obtain⟨k,hk,rfl,rfl⟩:=hrel
    by_cases hlt:k<m
    · obtain ⟨l, Z⟩ : ∃ l, ls[k]? = some l := ⟨_, List.getElem?_eq_getElem (by have := HM.o; omega)⟩
      obtain⟨b,o,rfl,hb,A',c',ae,X⟩:=HR.o.at_ Z;have aa:=af.o k;have ad:=af.o (k+1);have hs:=TC ls k l Z;have HS:=I hs;have g1:decide ((65535:Int)<((pre ls k:Nat):Int)+(l.length:Int))=false:=by simp only[decide_eq_false_iff_not];omega
      have aA:(l.length:Int)<=65535:=by omega
      have aw:((pre ls k:Nat):Int)<=65535:=by omega
      clear hs aa ad Z X
      go_wp2
      exact⟨⟨k+1,by omega,by go_num,by rw[HS.o];go_num⟩,by simp [intOf];omega⟩
    · obtain rfl : k = m := by omega
      clear hk hlt
      go_wp2_with (go_at_call 195;refine(HH.o _).mono ?_;rintro e w1 ⟨v,rfl,Y,ah⟩)
      go_loopw [8,29] (fun v i wr=>∃j:Nat,j<=k/\i=.int .i64 (j:Int)/\wr.ownsRow w.heap.size 5 1 v (built t ls j).length (bvs (built t ls j))/\Below w.heap.size w wr) (fun _ i _=>k - (intOf i).toNat)
      case atStart=>exact⟨0,by omega,rfl,Y,ah⟩
      case round=>
        obtain⟨j,hj,rfl,O,M⟩:=hrel
        by_cases hlt:j<k
        · obtain ⟨l, Z⟩ : ∃ l, ls[j]? = some l := ⟨_, List.getElem?_eq_getElem (by have := HM.o; omega)⟩
          obtain⟨b,o,rfl,hb,A',c',ae,X⟩:=(HR.o.below (M.mono hB)).at_ Z;have hs:=OF t ls j l Z;have aa:=ai.o j;have ad:=ai.o (j+1);have aj:=congrArg List.length hs;rw[List.length_append] at aj;have HS:=I hs;have ax:(built t ls j).length+l.length<=65539:=by omega
          have HO:=I O;have HQ:=I X;clear hs aj Z aa ad O X Y
          go_wp2_with (at_builtin
                       refine AF _ rfl (.tmp 33) (.tmp 34) 24 rfl w.heap.size 5 i0 _ 1 Tryz.underlying24 av ar ak al rfl _ (built t ls j).length (bvs (built t ls j)) rfl HO.o B A' l.length c' (bvs l) rfl (AB l).symm HQ.o (BM _) (ao.o _ (by omega)) (by omega) M.size ?_;intro v2 w2 ab an ay)
          refine⟨⟨j+1,by omega,by go_num,?_,M.grown an M.size (fun i hi=>(HO.o.lt i hi).1)⟩,by simp [intOf];omega⟩;rw[HS.o,BH,List.length_append];exact ab
        · obtain rfl : j = k := by omega
          clear hj hlt
          go_wp2
          go_ret;have e:built t ls j=elem t ls.flatten:=by rw[HM.o];exact au.o
          rw[e] at O;exact⟨_,rfl,O,M⟩
theorem Mm (w:World) (t:TypeId) (B:Nat) (A:Option Addr) (l:L) (n c:Nat) (X:n=l.length) (h:Rd w B A (bvs l)) (hB:B<=w.heap.size) :
  Rds (w.alloc (.cells #[.slice A n c] t)) (w.heap.size+1) (some ⟨w.heap.size,0,none⟩) [l]:=by
 subst X;refine .inr ⟨w.heap.size,0,rfl,by omega,fun i Y M=>?_⟩;have O:i=0:=by
  rcases Nat.eq_zero_or_pos i with g | g
  ·exact g
  ·rw[List.getElem?_eq_none (by simp;omega)] at M;cases M
 subst O;injection M with M;subst M;exact⟨A,c,(Blk.new w t _).cell 0,(h.alloc hB _).more (by omega)⟩
theorem Cq (l:L) (A:Option Addr) (n c B:Nat) (w:World) (hr:Rd w B A (bvs l)) (Z:n=l.length) (hB:B<=w.heap.size) (Y:l.length<=65535) :
  Calls Tryz.prog 184 #[.slice A n c] w fun e w'=>
   ∃v,e=.returned v/\w'.ownsRow w.heap.size 5 1 v (elem 4 l).length (bvs (elem 4 l))/\Below w.heap.size w w':=by
 have X:=Mm w 24 B A l n c Z hr hB;have hw:=BY 4 [l] (some ⟨w.heap.size,0,none⟩) 1 1 (w.heap.size+1) (w.alloc (.cells #[.slice A n c] 24)) X rfl (by simp) (by simpa using Y) (by simp);have e:[l].flatten=l:=by simp
 rw[e] at hw;have HW:=I hw;clear hw X hr Z Y e;go_enter Tryz.func184,Tryz.ntmps184
 go_wp2_with (go_at_call 180;refine HW.o.mono ?_;rintro e w1 ⟨v,rfl,M,O⟩)
 go_ret;refine⟨_,rfl,?_,(Below.refl w.heap.size w).alloc Af _ |>.trans (O.mono (by simp))⟩;exact M.mono (by simp)
theorem Bk (n : Int) (w : World) :
    Calls Tryz.prog 182 #[.int .i64 n] w fun e w'=>
      ∃v,e=.returned v/\w'.ownsRow w.heap.size 5 1 v (encI n).length (bvs (encI n))/\Below w.heap.size w w':=by
  have Y:=OD (Cj n) (Fc n);rw[Jk] at Y;have hw : ∀ (W : World) (g : Nat), Blk W g 5 (bvs (dig (Cj n))).toArray -> Calls Tryz.prog 180 #[.int .u8 2, .slice (some ⟨W.heap.size, 0, none⟩) 1 1] (W.alloc (.cells #[.slice (some ⟨g, 0, none⟩) (dig (Cj n)).length (dig (Cj n)).length] 24)) fun e w' =>
      ∃v,e=.returned v/\w'.ownsRow W.heap.size 5 1 v (encI n).length (bvs (encI n))/\Below W.heap.size W w':=by
    intro W g hB;have hr:Rd W W.heap.size (some ⟨g,0,none⟩) (bvs (dig (Cj n))):=.inr ⟨g,0,rfl,hB.lt,fun i u hu=>by
      rw[Nat.zero_add,hB.cell i];simpa using hu⟩
    have Z:=Mm W 24 W.heap.size _ _ _ (dig (Cj n)).length rfl hr Af;have aa:=Hy n;have h:=BY 2 [dig (Cj n)] (some ⟨W.heap.size,0,none⟩) 1 1 (W.heap.size+1) _ Z rfl (by simp) (by simp;omega) (by simp);have e:[dig (Cj n)].flatten=dig (Cj n):=by simp
    rw[e] at h;refine h.mono ?_;rintro e w' ⟨v,rfl,O,M⟩;exact⟨v,rfl,O.mono (by simp),(Below.refl W.heap.size W).alloc Af _ |>.trans (M.mono (by simp))⟩
  have HD:=I Y;have HW:=I hw;clear Y hw;go_enter Tryz.func182,Tryz.ntmps182
  go_wp2_with (first
    |(go_at_call 197;refine(HD.o _).mono ?_;rintro e w1 ⟨g,rfl,hg,hB,M⟩)
    |(go_at_call 180;refine(HW.o _ _ hB).mono ?_;rintro e w2 ⟨v,rfl,O,X⟩))
  go_ret;exact⟨_,rfl,O.mono M.size,M.trans (X.mono M.size)⟩
theorem FT (l : L) (w : World) (Z : l.length <= 65535) :
    Calls Tryz.prog 196 #[.string ⟨l.toArray⟩] w fun e w'=>
      ∃v,e=.returned v/\w'.ownsRow w.heap.size 5 1 v (elem 27 l).length (bvs (elem 27 l))/\Below w.heap.size w w':=by
  have aa:=fun(W:World)=>Lib.run_convert_string_bytes (P:=Tryz.prog) W 9 24 5 ⟨l.toArray⟩ Tryz.underlying9 Tryz.underlying24 Tryz.underlying5
  have hw : ∀ (W : World) (c : Nat), Calls Tryz.prog 180 #[.int .u8 27, .slice (some ⟨W.heap.size + 1, 0, none⟩) 1 1] ((Lib.bytesWorld W 5 ⟨l.toArray⟩).alloc (.cells #[.slice (some ⟨W.heap.size, 0, none⟩) l.length c] 24)) fun e w' =>
      ∃v,e=.returned v/\w'.ownsRow W.heap.size 5 1 v (elem 27 l).length (bvs (elem 27 l))/\Below W.heap.size W w':=by
    intro W c;have hs:=Lib.bytesWorld_size W 5 ⟨l.toArray⟩;have hr:=(Ge W 5 l).rd;have Y:=Mm _ 24 _ _ _ l.length c rfl hr Af;rw[hs] at Y;have h:=BY 27 [l] (some ⟨W.heap.size+1,0,none⟩) 1 1 (W.heap.size+1+1) _ Y rfl (by simp [hs]) (by simpa using Z) (by simp);have e:[l].flatten=l:=by simp
    rw[e] at h;refine h.mono ?_;rintro e w' ⟨v,rfl,M,X⟩;refine⟨v,rfl,M.mono (by simp [hs];omega),?_⟩;exact((Em W _ _).alloc (by rw[hs];omega) _).trans (X.mono (by simp [hs];omega))
  have HW:=I hw;clear hw Z;have ab:=fun(W:World)=>Lib.bytesWorld_size W 5 ⟨l.toArray⟩
  go_enter Tryz.func196,Tryz.ntmps196
  go_wp2_with (go_at_call 180;refine(HW.o _ _).mono ?_;rintro e w2 ⟨v,rfl,M,O⟩)
  go_ret;exact⟨_,rfl,M,O⟩
end DerW
namespace DerK
open Go.RowKit Ae DerP
attribute [local go_sem] Gt List.getElem_cons_zero List.getElem_cons_succ
theorem IQ {w:World} {base n:Nat} {t:TypeId} {v:Value} {l:L} (h:w.ownsRow base t 1 v n (bvs l)) (Z:0<l.length) :
  ∃g cap,v=.slice (some ⟨g,0,none⟩) l.length cap/\base<=g/\l.length<=cap/\Rd w w.heap.size (some ⟨g,0,none⟩) (bvs l):=by
 have O:n=l.length:=by have:=h.1;rw[AB] at this;omega
 subst O;rcases h.2 with⟨_,Y⟩ | ⟨g,cap,cur,rfl,M,_,X,_⟩
 ·omega
 ·exact⟨g,cap,rfl,M,X,Rd.of_own h⟩
end DerK
namespace DerR
open Go.RowKit Ae DerP
def Ci (w:World) (l:L) (e:Ending) (w':World):Prop:=
 (∃g cap,e=.returned (.slice (some ⟨g,0,none⟩) l.length cap)/\w.heap.size<=g/\l.length<=cap/\Rd w' w'.heap.size (some ⟨g,0,none⟩) (bvs l))/\Below w.heap.size w w'
theorem Fz {w w':World} {v:Value} {n:Nat} {t:TypeId} {l:L} (h:w'.ownsRow w.heap.size t 1 v n (bvs l)) (Z:0<l.length) (Y:Below w.heap.size w w'):Ci w l (.returned v) w':=by
 obtain⟨g,cap,rfl,M,X,O⟩:=DerK.IQ h Z;exact⟨⟨g,cap,rfl,M,X,O⟩,Y⟩
theorem IS (w:World) (t:TypeId) (cs:Array Value) (l:L) (h:cs.toList=bvs l) (n:Nat) (M:n=l.length):Ci w l (.returned (.slice (some ⟨w.heap.size,0,none⟩) n n)) (w.alloc (.cells cs t)):=by
 subst M;refine⟨⟨_,_,rfl,Nat.le_refl _,Nat.le_refl _,?_⟩,Ag.alloc Af _⟩;have:=DerW.Hv w t cs l h _ rfl
 simpa using this
theorem Np (n:Nat) (h:n<=65535) (w:World):Calls Tryz.prog 118 #[.int .i64 (n:Int)] w (Ci w (szL n)):=by
 by_cases h1:n<128
 ·have X:decide ((n:Int)<128)=true:=by simp;omega
  have E:=I (show szL n = [UInt8.ofNat n] by simp [szL,h1]);have M:=I (DerW.GK n (by omega));have O:(n:Int)<=127:=by omega
  clear h h1;go_enter Tryz.func118,Tryz.ntmps118
  go_wp2
  go_ret;rw[E.o];exact IS w 5 _ _ (by simp [bvs,M.o]) _ rfl
 ·have X:decide ((n:Int)<128)=false:=by simp;omega
  by_cases h2:n<=255
  ·have Y:decide ((n:Int)<256)=true:=by simp;omega
   have E:=I (show szL n = [129,UInt8.ofNat n] by simp [szL,h1,h2]);have M:=I (DerW.GK n (by omega));have O:(n:Int)<=255:=by omega
   clear h h1 h2;go_enter Tryz.func118,Tryz.ntmps118
   go_wp2
   go_ret;rw[E.o];exact IS w 5 _ _ (by simp [bvs,M.o];rfl) _ rfl
  ·have Y:decide ((n:Int)<256)=false:=by simp;omega
   have E:=I (show szL n = [130,UInt8.ofNat (n / 256),UInt8.ofNat n] by simp [szL,h1,h2]);have M:=I (show bvs [130,UInt8.ofNat (n / 256),UInt8.ofNat n] = [.int .u8 130,.int .u8 ((n:Int) / 256),.int .u8 ((n:Int) % 256)] by simp [bvs,bv];omega);have O:(n:Int)<=65535:=by omega
   clear h h1 h2;go_enter Tryz.func118,Tryz.ntmps118
   go_wp2
   go_ret;rw[E.o];exact IS w 5 _ _ (by rw[M.o]) _ rfl
theorem XY (n:Nat):(szL n).length<=3:=by rw[Cp];split<;>(try split)<;>omega
theorem Ew (t : UInt8) (p : L) (A : Option Addr) (n c B : Nat) (w : World) (hr : Rd w B A (bvs p)) (hn : n = p.length) (hB : B <= w.heap.size) (hp : p.length <= 65535) :
    Calls Tryz.prog 73 #[.int .u8 t.toNat,.slice A n c] w (Ci w (elem t p)):=by
  obtain⟨i0,aj,ae,ad,al⟩:=info_parts DerW.Cd;have an:∀W:World,Calls Tryz.prog 118 #[.int .i64 (n:Int)] W (Ci W (szL n)):=fun W=>Np n (by omega) W
  have HS:=I an;have HR:=I hr;have HN:=I hn;have HP:=I hp;have h3:=I (XY n);have ao:=I DerW.ml;have aa:Hid ((w.alloc (.cells #[.int .u8 (t.toNat:Int)] 5)).ownsRow w.heap.size 5 1 (.slice (some ⟨w.heap.size,0,none⟩) 1 1) 1 (bvs [t])):=World.ownsRow_lit w #[.int .u8 (t.toNat:Int)] 1 Af (DerW.ml 1 (by omega)) rfl;clear an hr hn hp;go_enter Tryz.func73,Tryz.ntmps73
  go_wp2_with (first
    | (go_at_call 118; refine (HS.o _).mono ?_; rintro e w1 ⟨⟨g1, c1, rfl, ay, az, Y⟩, af⟩
       have ab:Below w.heap.size w w1:=((Below.refl w.heap.size w).alloc Af _).trans (af.mono (by simp));have ak:=I (CQ aa.o af);have ax:=I Y;clear Y)
    | (at_builtin
       refine AF _ rfl (.tmp 6) (.tmp 9) 24 rfl w.heap.size 5 i0 _ 1 Tryz.underlying24 aj ae ad al rfl (.slice (some ⟨w.heap.size,0,none⟩) 1 1) 1 (bvs [t]) rfl ak.o w1.heap.size _ (szL n).length c1 (bvs (szL n)) rfl (AB _).symm ax.o (BM _) (ao.o _ (by have:=h3.o;omega)) (by have:=h3.o;omega) ab.size ?_;intro v2 w2 M aw ai;have X:=ab.grown aw ab.size (fun k hk=>(ak.o.lt k hk).1);have ag:=I M;clear M ai)
    | (at_builtin
       refine AF _ rfl (.tmp 10) (.tmp 11) 24 rfl w.heap.size 5 i0 _ 1 Tryz.underlying24 aj ae ad al rfl v2 (1+(szL n).length) (bvs [t]++bvs (szL n)) rfl ag.o B A n c (bvs p) rfl (by rw[AB];exact HN.o) (HR.o.below (X.mono hB)) (BM _) (ao.o _ (by have:=h3.o;have:=HN.o;have:=HP.o;omega)) (by have:=h3.o;have:=HN.o;have:=HP.o;omega) X.size ?_;intro v3 w3 O av ah;have ar:=X.grown av X.size (fun k hk=>(ag.o.lt k hk).1);have au:=I O;clear O ah))
  go_ret;have Z:=au.o;rw[HN.o,<-BH,<-BH,show [t]++szL p.length++p=elem t p from rfl] at Z;exact Fz Z (by rw[DH];omega) ar
theorem Cq (p:L) (A:Option Addr) (n c B:Nat) (w:World) (hr:Rd w B A (bvs p)) (Z:n=p.length) (hB:B<=w.heap.size) (hp:p.length<=65535) :
  Calls Tryz.prog 67 #[.slice A n c] w (Ci w (elem 4 p)):=by
 have H:=I (Ew 4 p A n c B w hr Z hB hp);clear hr Z hB hp;go_enter Tryz.func67,Tryz.ntmps67
 go_wp2_with (go_at_call 73;refine(Calls.mono H.o ?_);rintro e w1 ⟨⟨g1,c1,rfl,X,Y,M⟩,O⟩)
 go_ret;exact⟨⟨g1,c1,rfl,X,Y,M⟩,O⟩
theorem FT (l:L) (w:World) (hl:l.length<=65535) :
  Calls Tryz.prog 117 #[.string ⟨l.toArray⟩] w (Ci w (elem 27 l)):=by
 have aa:=fun(W:World)=>Lib.run_convert_string_bytes (P:=Tryz.prog) W 9 24 5 ⟨l.toArray⟩ Tryz.underlying9 Tryz.underlying24 Tryz.underlying5
 have he:∀(c:Nat),Calls Tryz.prog 73 #[.int .u8 27,.slice (some ⟨w.heap.size,0,none⟩) l.length c] (Lib.bytesWorld w 5 ⟨l.toArray⟩) (Ci (Lib.bytesWorld w 5 ⟨l.toArray⟩) (elem 27 l)):=
  fun c=>Ew 27 l _ _ c _ _ (Ge w 5 l).rd rfl Af hl
 have HE:=I he;have Z:=I (Em w 5 ⟨l.toArray⟩);clear he hl;go_enter Tryz.func117,Tryz.ntmps117
 go_wp2_with (go_at_call 73;refine(Calls.mono (HE.o _) ?_);rintro e w1 ⟨⟨g1,c1,rfl,X,Y,M⟩,O⟩)
 go_ret;exact⟨⟨g1,c1,rfl,Nat.le_trans Z.o.size X,Y,M⟩,bt Z.o O⟩
theorem La (j m:Nat):digK (j+1) m=UInt8.ofNat (m / 256 ^ j) :: digK j m:=by
 induction j generalizing m with
 |zero=>simp [digK]
 |succ j ih=>
  rw[digK,ih (m / 256)];rw[Nat.div_div_eq_div_mul,Nat.mul_comm,<-Nat.pow_succ]
  rfl
theorem QT (m j:Nat) (hm:m<=4611686018427387904) (hj:1<=j) (X:j=1\/256 ^ (j - 1)<=m) (Y:m / 256 ^ (j - 1)<128):dig m=digK j m:=by
 have hp:0<256 ^ (j - 1):=Nat.pow_pos (by omega);have O:m<128*256 ^ (j - 1):=by rw[Nat.div_lt_iff_lt_mul hp] at Y;exact Y
 have Z:j<=8:=by
  rcases Nat.lt_or_ge 8 j with g | g
  ·exfalso
   rcases X with h | h
   ·omega
   ·have:256 ^ 8<=256 ^ (j - 1):=Nat.pow_le_pow_right (by omega) (by omega)
    have e:(256:Nat) ^ 8=18446744073709551616:=by decide
    omega
  ·exact g
 have M:m<2 ^ (8*(j - 1)+7):=by
  rw[Nat.pow_add,<-Gb,Nat.mul_comm];simpa using O
 have hb:=Dm m _ (by omega) M;have hk:Lib.bitLen m / 8+1=j:=by
  rcases X with h | h
  ·omega
  ·have h3:2 ^ (8*(j - 1))<=m:=by rw[<-Gb];exact h
   have:=Fe m (by omega) _ h3;omega
 rw[dig,hk]
theorem OG (m j:Nat) (hm:m<=4611686018427387904) (hj:1<=j) (h0:m / 256 ^ j=0) (Z:128<=m / 256 ^ (j - 1)):dig m=0 :: digK j m:=by
 have hp:0<256 ^ (j - 1):=Nat.pow_pos (by omega);have O:128*256 ^ (j - 1)<=m:=by rw[Nat.le_div_iff_mul_le hp] at Z;exact Z
 have X:0<256 ^ j:=Nat.pow_pos (by omega);have Y:m<256 ^ j:=by
  rcases Nat.lt_or_ge m (256 ^ j) with g | g
  ·exact g
  ·have:=Nat.div_pos g X;omega
 have M:2 ^ (8*(j - 1)+7)<=m:=by
  rw[Nat.pow_add,<-Gb,Nat.mul_comm];simpa using O
 have h3:=Fe m (by omega) _ M;have aa:=Gq m hm;have h4:=Dm m (8*j) (by omega) (by rw[<-Gb];exact Y);have hk:Lib.bitLen m / 8+1=j+1:=by omega
 rw[dig,hk,La,h0]
 rfl
theorem Gl (m j:Nat) (X:1<=j) (Y:m / 256 ^ j=0):m / 256 ^ (j - 1)<256:=by
 have O:0<256 ^ (j - 1):=Nat.pow_pos (by omega);have M:0<256 ^ j:=Nat.pow_pos (by omega);rw[Nat.div_lt_iff_lt_mul O,Nat.mul_comm,<-Nat.pow_succ,show(j - 1).succ=j by omega];rcases Nat.lt_or_ge m (256 ^ j) with g | g
 ·exact g
 ·have:=Nat.div_pos g M;omega
theorem OH {w:World} {g j m:Nat} (O:1<=j) (Y:m / 256 ^ j=0) (h:Rd w w.heap.size (some ⟨g,0,none⟩) (bvs (digK j m))):w.cell? ⟨g,0,none⟩=some (.int .u8 ((m / 256 ^ (j - 1):Nat):Int)):=by
 have Z:=Pf j m 0 (by omega);obtain⟨b,o,e,_,M⟩:=h.at_ (i:=0) (u:=bv (UInt8.ofNat (m / 256 ^ (j - 1)))) (by simp only[bvs,List.getElem?_map,Z];rfl);injection e with e;injection e with e1 e2;subst e1 e2;have X:=Gl m j O Y;rw[show(0+0:Nat)=0 from rfl] at M;rw[M,DerW.GK _ X]
def Left (m:Nat) (W:World) (n p:Value) (w:World):Prop:=
 ∃j g cap,1<=j/\(j=1\/256 ^ (j - 1)<=m)/\j<=9/\n=.int .i64 ((m / 256 ^ j:Nat):Int)/\p=.slice (some ⟨g,0,none⟩) j cap/\Rd w w.heap.size (some ⟨g,0,none⟩) (bvs (digK j m))/\Below W.heap.size W w
theorem Bk (n : Int) (w : World) :
    Calls Tryz.prog 65 #[.int .i64 n] w (Ci w (encI n)):=by
  obtain⟨i0,aD,aC,aw,az⟩:=info_parts DerW.Cd;have ay:=Jk n;have hm:=Fc n;have E:Hid (encI n=elem 2 (dig (Cj n))):=rfl;generalize Cj n=m at *;have HM:=I hm;have aI:(m:Int)<=4611686018427387904:=by omega
  have aB:=I DerW.ml;have an:=I (show [Value.int .u8 ((m:Int) % 256)]=bvs (digK 1 m) by simp [bvs,bv,digK]);have aH:=ay.symm;clear ay hm;go_enter Tryz.func65,Tryz.ntmps65
  go_wp2
  go_loopw [0,3] (fun nv p wr=>Left m w nv p wr) (fun nv _ _=>(intOf nv).toNat)
  case atStart=>
    refine⟨1,w.heap.size,1,Nat.le_refl _,.inl rfl,by omega,by simp,rfl,?_,Ag.alloc Af _⟩;have:=DerW.Hv w 5 #[Value.int .u8 ((m:Int) % 256)] (digK 1 m) an.o _ rfl
    simpa using this
  case round=>
    obtain⟨j,g,cap,O,ad,aJ,rfl,rfl,aa,X⟩:=hrel
    by_cases h0:m / 256 ^ j=0
    · have aG := OH O h0 aa
      have hf:=Gl m j O h0;have ag:=I aa;have HJ:=I O;have aN:=I ad;have H0:=I h0;rw[h0];have HN:=I (Gl m j O h0)
      by_cases h128:m / 256 ^ (j - 1)<128
      · have G := I (QT m j HM.o O ad h128)
        have he:∀W:World,Rd W W.heap.size (some ⟨g,0,none⟩) (bvs (digK j m))->Calls Tryz.prog 73 #[.int .u8 2,.slice (some ⟨g,0,none⟩) j cap] W (Ci W (elem 2 (digK j m))):=
          fun W hW=>Ew 2 (digK j m) _ j cap _ W hW (Bj j m).symm Af (by rw[Bj];omega)
        have ao:=I he;have g5:decide ((128:Int)<=((m / 256 ^ (j - 1):Nat):Int))=false:=by simp only[decide_eq_false_iff_not];omega
        clear he aa hf h128 O ad h0;generalize m / 256 ^ (j - 1)=a at *;have aA:(j:Int)<=9:=by omega
        have ax:0<j:=HJ.o
        go_wp2_with (go_at_call 73;refine(Calls.mono (ao.o _ ag.o) ?_);rintro e w1 ⟨⟨g1,c1,rfl,ar,ak,ae⟩,ai⟩)
        go_ret;rw[E.o,G.o];exact⟨⟨g1,c1,rfl,Nat.le_trans X.size ar,ak,ae⟩,bt X ai⟩
      · have G := I (OG m j HM.o O h0 (by omega))
        have he:∀(W:World) (g' c':Nat),Rd W W.heap.size (some ⟨g',0,none⟩) (bvs (0 :: digK j m))->Calls Tryz.prog 73 #[.int .u8 2,.slice (some ⟨g',0,none⟩) (0 :: digK j m).length c'] W (Ci W (elem 2 (0 :: digK j m))):=
          fun W g' c' hW=>Ew 2 (0 :: digK j m) _ _ c' _ W hW rfl Af (by simp only[List.length_cons,Bj];omega)
        have ao:=I he;have g5:decide ((128:Int)<=((m / 256 ^ (j - 1):Nat):Int))=true:=by simp only[decide_eq_true_eq];omega
        have Y:Hid ((wr.alloc (.cells #[.int .u8 0] 5)).ownsRow wr.heap.size 5 1 (.slice (some ⟨wr.heap.size,0,none⟩) 1 1) 1 (bvs [0])):=World.ownsRow_lit wr #[.int .u8 0] 1 Af (DerW.ml 1 (by omega)) rfl;clear he aa hf h128 O ad h0;generalize m / 256 ^ (j - 1)=a at *;have aA:(j:Int)<=9:=by omega
        have ax:0<j:=HJ.o
        go_wp2_with (first
          | (at_builtin
             refine AF _ rfl (.tmp 25) (.tmp 26) 24 rfl wr.heap.size 5 i0 _ 1 Tryz.underlying24 aD aC aw az rfl (.slice (some ⟨wr.heap.size,0,none⟩) 1 1) 1 (bvs [0]) rfl Y.o wr.heap.size (some ⟨g,0,none⟩) j cap (bvs (digK j m)) rfl (by rw[AB,Bj]) (ag.o.alloc Af _) (BM _) (aB.o _ (by omega)) (by omega) (by simp) ?_;intro v2 w2 M al af;rw[<-BH,List.singleton_append] at M;obtain⟨g3,ah,rfl,aE,av,ab⟩:=DerK.IQ M (by simp);have Z:Below wr.heap.size wr w2:=((Below.refl wr.heap.size wr).alloc Af _).grown al (by simp) (fun k hk=>by simp [Value.ownBlock] at hk;omega);clear M af)
          |(go_at_call 73;refine(Calls.mono (ao.o _ _ _ ab) ?_);rintro e w1 ⟨⟨g1,c1,rfl,ar,ak,ae⟩,ai⟩))
        go_ret;rw[E.o,G.o];exact⟨⟨g1,c1,rfl,Nat.le_trans (Nat.le_trans X.size Z.size) ar,ak,ae⟩,bt (bt X Z) ai⟩
    · have hle : 256 ^ j <= m := by
        have aM:0<256 ^ j:=Nat.pow_pos (by omega);rcases Nat.lt_or_ge m (256 ^ j) with g' | g'
        · exact absurd (Nat.div_eq_of_lt g') h0
        · exact g'
      have aL:j<8:=by
        rcases Nat.lt_or_ge j 8 with g' | g'
        · exact g'
        · exfalso
          have:256 ^ 8<=256 ^ j:=Nat.pow_le_pow_right (by omega) g';have e:(256:Nat) ^ 8=18446744073709551616:=by decide
          have:=HM.o;omega
      have aj:=I (show m / 256 ^ j / 256=m / 256 ^ (j+1) by rw[Nat.div_div_eq_div_mul,<-Nat.pow_succ]);have au:=I (La j m);have hy:m / 256 ^ j<=m:=Nat.div_le_self _ _;have ag:=I aa;have aF:=I hle;clear aa hle ad;generalize m / 256 ^ j=y at *;have g6:decide ((0:Int)<(y:Int))=true:=by simp;omega
      have aK:(y:Int)<=4611686018427387904:=by omega
      have Y:Hid ((wr.alloc (.cells #[.int .u8 ((y:Int) % 256)] 5)).ownsRow wr.heap.size 5 1 (.slice (some ⟨wr.heap.size,0,none⟩) 1 1) 1 (bvs [UInt8.ofNat y])):=by
        have:=World.ownsRow_lit (base:=wr.heap.size) (e:=5) (size:=1) wr #[.int .u8 ((y:Int) % 256)] 1 Af (DerW.ml 1 (by omega)) rfl;rw[show(#[Value.int .u8 ((y:Int) % 256)]:Array Value).toList=bvs [UInt8.ofNat y] by simp [bvs,bv]] at this;exact this
      have HY:=I (show 0<y by omega);clear h0 hy
      go_wp2_with (at_builtin
                   refine AF _ rfl (.tmp 18) (.tmp 19) 24 rfl wr.heap.size 5 i0 _ 1 Tryz.underlying24 aD aC aw az rfl (.slice (some ⟨wr.heap.size,0,none⟩) 1 1) 1 (bvs [UInt8.ofNat y]) rfl Y.o wr.heap.size (some ⟨g,0,none⟩) j cap (bvs (digK j m)) rfl (by rw[AB,Bj]) (ag.o.alloc Af _) (BM _) (aB.o _ (by omega)) (by omega) (by simp) ?_;intro v2 w2 M al af;rw[<-BH,List.singleton_append,<-au.o] at M;obtain⟨g3,ah,rfl,aE,av,ab⟩:=DerK.IQ M (by rw[Bj];omega);rw[Bj];have Z:Below wr.heap.size wr w2:=((Below.refl wr.heap.size wr).alloc Af _).grown al (by simp) (fun k hk=>by simp [Value.ownBlock] at hk;omega);clear M af)
      refine⟨⟨j+1,g3,ah,by omega,.inr (by simpa using aF.o),by omega,?_,rfl,ab,bt X Z⟩,?_⟩
      · rw [<- aj.o]; rfl
      · have := HY.o; simp [intOf]; omega
theorem Mn {w:World} {base n:Nat} {t:TypeId} {v:Value} {l:L} (h:w.ownsRow base t 1 v n (bvs l)) :
  ∃A cap,v=.slice A l.length cap/\Rd w w.heap.size A (bvs l):=by
 have X:n=l.length:=by have:=h.1;rw[AB] at this;omega
 subst X;rcases h.2 with⟨M,O⟩ | ⟨g,cap,cur,rfl,Y,_,Z,_⟩
 ·subst M
  have:l = []:=List.eq_nil_of_length_eq_zero O;subst this;exact⟨none,0,rfl,.inl rfl⟩
 ·exact⟨_,cap,rfl,Rd.of_own h⟩
def FA (ls:List L) (k:Nat):L:=(ls.take k).flatten
theorem Mo (ls:List L) (k:Nat) (l:L) (h:ls[k]? = some l):FA ls (k+1)=FA ls k++l:=DerW.IP ls k l h
theorem QU (ls:List L) (k:Nat):(FA ls k).length<=ls.flatten.length:=DerW.IG ls k
theorem OI (ls:List L):FA ls ls.length=ls.flatten:=by rw[FA,List.take_of_length_le Af]
theorem BY (t : UInt8) (ls : List L) (A : Option Addr) (m c B : Nat) (w : World) (hr : DerW.Rds w B A ls) (hm : m = ls.length) (hB : B <= w.heap.size) (hl : ls.flatten.length <= 65535) (hc : ls.length <= 1000000) :
    Calls Tryz.prog 63 #[.int .u8 t.toNat,.slice A m c] w (Ci w (elem t ls.flatten)):=by
  obtain⟨i0,ar,af,ae,au⟩:=info_parts DerW.Cd;have HR:=I hr;have an:=I (fun k=>Nat.le_trans (QU ls k) hl);have ah:=I (OI ls);have aw:=I DerW.ml;have az:(m:Int)<=1000000:=by omega
  have HM:=I hm;have HL:=I hl;have aj:=I (World.ownsRow_nil w w.heap.size 5 1);clear hr hm hc hl;go_enter Tryz.func63,Tryz.ntmps63
  go_wp2
  go_loopw [5,6] (fun v i wr=>∃k:Nat,k<=m/\i=.int .i64 (k:Int)/\wr.ownsRow w.heap.size 5 1 v (FA ls k).length (bvs (FA ls k))/\Below w.heap.size w wr) (fun _ i _=>m - (intOf i).toNat)
  case atStart=>exact⟨0,by omega,rfl,aj.o,Below.refl _ _⟩
  case round=>
    obtain⟨k,hk,rfl,O,M⟩:=hrel
    by_cases hlt:k<m
    · obtain ⟨l, hx⟩ : ∃ l, ls[k]? = some l := ⟨_, List.getElem?_eq_getElem (by have := HM.o; omega)⟩
      obtain⟨b,o,rfl,hb,A',c',al,Z⟩:=(HR.o.below (M.mono hB)).at_ hx;have hs:=Mo ls k l hx;have ai:=an.o (k+1);have ab:=congrArg List.length hs;rw[List.length_append] at ab;have HS:=I hs;have ay:(FA ls k).length+l.length<=65535:=by omega
      have HO:=I O;have HQ:=I Z;clear hs ab hx ai O Z
      go_wp2_with (at_builtin
                   refine AF _ rfl (.tmp 13) (.tmp 17) 24 rfl w.heap.size 5 i0 _ 1 Tryz.underlying24 ar af ae au rfl _ (FA ls k).length (bvs (FA ls k)) rfl HO.o B A' l.length c' (bvs l) rfl (AB l).symm HQ.o (BM _) (aw.o _ (by omega)) (by omega) M.size ?_;intro v2 w2 Y ak ax)
      refine⟨⟨k+1,by omega,by go_num,?_,M.grown ak M.size (fun i hi=>(HO.o.lt i hi).1)⟩,by simp [intOf];omega⟩;rw[HS.o,BH,List.length_append];exact Y
    · obtain rfl : k = m := by omega
      have e:FA ls k=ls.flatten:=by rw[HM.o];exact ah.o
      rw[e] at O;obtain⟨A2,ad,rfl,X⟩:=Mn O;have HQ:=I X;have HE:=I (Ew t ls.flatten A2 ls.flatten.length ad _ wr X rfl Af HL.o);clear hk hlt e O X;generalize ls.flatten.length=q at *
      go_wp2_with (go_at_call 73;refine(Calls.mono HE.o ?_);rintro e w1 ⟨⟨g1,c1,rfl,ao,av,aa⟩,ag⟩)
      go_ret;exact⟨⟨g1,c1,rfl,Nat.le_trans M.size ao,av,aa⟩,bt M ag⟩
def cutA (A:Option Addr) (c k:Nat):Option Addr:=if c=k then A else A.map (·.add k)
theorem FB {P:Program} {t e:TypeId} (M:P.underlying t=some (.slice e)) (O:∀w:World,(sizeOf e).run P w=.ok 1 w) (A:Option Addr) (n c k:Nat) (K:Int) (X:K=(k:Int)) (hk:k<=n) (w:World) :
  (Instr.slice t (.slice A n c) (some (.int .i64 K)) none none).run P w=.ok (.slice (cutA A c k) (n - k) (c - k)) w:=by
 subst X;simp [Instr.slice,run_underlying M,Instr.sliceBounds,run_sliceBound,O,cutA,Result.andThen,(by omega:(k:Int)<=(n:Int))]
theorem Gm {P:Program} {t e:TypeId} (X:P.underlying t=some (.slice e)) (Y:∀w:World,(sizeOf e).run P w=.ok 1 w) (A:Option Addr) (n c k m:Nat) (K M:Int) (Z:K=(k:Int)) (hM:M=(k:Int)+(m:Int)) (hm:k+m<=c) (w:World) :
  (Instr.slice t (.slice A n c) (some (.int .i64 K)) (some (.int .i64 M)) none).run P w=.ok (.slice (cutA A c k) m (c - k)) w:=by
 subst Z hM;have he:P.elem t=e:=by simp [Program.elem,X]
 have O:P.underlying t=some (.slice (P.elem t)):=by rw[he];exact X
 rw[run_slice_lh w t A n c O .i64 .i64 (k:Int) ((k:Int)+(m:Int)) (by omega) (by omega) (by omega),he,Y];simp only[Result.andThen,sliced,Nat.mul_one,cutA,Int.toNat_natCast];have e2:((k:Int)+(m:Int)).toNat - k=m:=by omega
 rw[e2]
theorem UY {w:World} {B:Nat} {A:Option Addr} {l:L} {c:Nat} (h:Rd w B A (bvs l)) (k:Nat) (Y:l.length<=c):Rd w B (cutA A c k) (bvs (l.drop k)):=by
 unfold cutA
 by_cases hc:c=k
 ·rw[if_pos hc,List.drop_of_length_le (by omega)]
  exact .inl rfl
 ·rw[if_neg hc]
  rcases h with h | ⟨b,o,M,X,O⟩
  ·have:l = []:=List.map_eq_nil_iff.1 h
   subst this;exact .inl (by simp [bvs])
  ·subst M
   refine .inr ⟨b,o+k,by simp [addr_add],X,fun i u hu=>?_⟩;rw[Nat.add_assoc];refine O (k+i) u ?_;rw[<-hu];simp [bvs,List.getElem?_map,List.getElem?_drop]
theorem Wl {w:World} {B:Nat} {A:Option Addr} {l:L} (h:Rd w B A (bvs l)) (m:Nat):Rd w B A (bvs (l.take m)):=by
 rcases h with h | ⟨b,o,M,X,O⟩
 ·have:l = []:=List.map_eq_nil_iff.1 h
  subst this;exact .inl (by simp [bvs])
 ·refine .inr ⟨b,o,M,X,fun i u hu=>O i u ?_⟩
  by_cases hi:i<m
  ·rw[<-hu];simp only[bvs,List.getElem?_map,List.getElem?_take,if_pos hi]
  ·rw[List.getElem?_eq_none (by rw[AB,List.length_take];omega)] at hu;cases hu
def RS (w:World) (B:Nat) (A:Option Addr) (n cap:Nat) (e:Bool):Option L->Prop
 |none=>e=true
 |some l=>e=false/\n=l.length/\n<=cap/\Rd w B A (bvs l)
def RC (w:World) (B g:Nat) (c:Option L):Prop:=∃A n cap e,Blk w g 108 #[.slice A n cap,.bool e]/\RS w B A n cap e c
theorem RC.keep {w w':World} {B g:Nat} {c:Option L} (h:RC w B g c) {row:Option Nat} (X:w.grownBy w' row) (O:row≠some g) (hB:B<=w.heap.size) (Z:∀k,row=some k->B<=k):RC w' B g c:=by
 obtain⟨A,n,cap,e,Y,M⟩:=h;refine⟨A,n,cap,e,Y.grown X O,?_⟩;cases c with
 |none=>exact M
 |some l=>exact⟨M.1,M.2.1,M.2.2.1,M.2.2.2.grown X hB Z⟩
def Took (w:World) (B g:Nat) (t:UInt8) (c:Option L) (e:Ending) (w':World):Prop:=
 (∃A' cap',e=.returned (.slice A' ((Ax t c).getD []).length cap')/\((Ax t c).getD []).length<=cap'/\Rd w' B A' (bvs ((Ax t c).getD [])))/\RC w' B g (AQ t c)/\w.grownBy w' (some g)
theorem Cs {w:World} {B g:Nat} {t:UInt8} {c:Option L} {A:Option Addr} {n cap:Nat} {e:Bool} (X:Blk w g 108 #[.slice A n cap,.bool e]) (h:Ax t c=none) {w0:World} (M:w0.grownBy w (some g)) :
  Took w0 B g t c (.returned (.slice none 0 0)) (w.setCell ⟨g,1,none⟩ (.bool true)):=by
 have O:=Gs t c h;unfold Took;rw[h,O];exact⟨⟨none,0,rfl,Nat.le_refl _,.inl rfl⟩,⟨A,n,cap,true,X.set 1 (.bool true),rfl⟩,Ar M (.inl rfl) _⟩
theorem OJ (t:UInt8) (B g:Nat) (w:World) (h:RC w B g none) :
  Calls Tryz.prog 70 #[.pointer (some ⟨g,0,none⟩),.int .u8 t.toNat] w (Took w B g t none):=by
 obtain⟨A,n,cap,e,M,he⟩:=h;obtain rfl:e=true:=he;have Y:=M.c0;have Z:=M.c1;have X:=M.frozen 1;have O:=I M;clear M;go_enter Tryz.func70,Tryz.ntmps70
 go_wp2
 go_ret;exact Cs O.o rfl (World.grownBy.refl _ _)
theorem IT (t:UInt8) (B g:Nat) (A:Option Addr) (cap:Nat) (l:L) (w:World) (M:Blk w g 108 #[.slice A l.length cap,.bool false]) (O:l.length<2) :
  Calls Tryz.prog 70 #[.pointer (some ⟨g,0,none⟩),.int .u8 t.toNat] w (Took w B g t (some l)):=by
 have Z:=M.c0;have h1:=M.c1;have Y:=M.frozen 1;have X:=I M;have g1:decide ((l.length:Int)<2)=true:=by simp only[decide_eq_true_eq];omega
 have E:=I (show Ax t (some l)=none by
  refine(Bu ?_).1;rcases l with _ | ⟨a,_ | ⟨b,r⟩⟩
  ·rfl
  ·simp [Bm,lenR]
  ·simp at O;omega)
 clear M O;go_enter Tryz.func70,Tryz.ntmps70
 go_wp2
 go_ret;exact Cs X.o E.o (World.grownBy.refl _ _)
end DerR
end Go.Proofs.YtlccngianpfalaaGreat
