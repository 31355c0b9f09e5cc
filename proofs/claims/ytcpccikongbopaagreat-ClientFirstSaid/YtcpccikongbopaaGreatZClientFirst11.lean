import Derived.Test.YtcpccikongbopaaGreatZClientFirst2
set_option maxHeartbeats 25600000
set_option maxRecDepth 100000
set_option linter.unusedVariables false
set_option linter.unusedSimpArgs false
namespace Go.Proofs.YtcpccikongbopaaGreat
namespace DerC
open Go.RowKit Ad DerP
attribute [local go_sem] FT List.getElem_cons_zero List.getElem_cons_succ Di Dj Es
def Bg (w w':World):Prop:=∃n,w'=w.drewN n
theorem Bg.refl (w:World):Bg w w:=⟨0,rfl⟩
def JA:Option L->Array Value
 |none=>#[.string ⟨([]:List UInt8).toArray⟩,.bool true]
 |some s=>#[.string ⟨s.toArray⟩,.bool false]
def MH:Option L->Bool
 |some []=>true
 |_=>false
def Cur (w:World) (g:Nat) (c:Option L):Prop:=Blk w g 241 (JA c)
theorem Lw (s:L) (w:World):Calls Tryz.prog 206 #[.string ⟨s.toArray⟩] w fun e w'=>
  e=.returned (.tuple #[.int .i64 ((lenR s).1:Int),.int .i64 ((lenR s).2.1:Int),.bool (lenR s).2.2])/\Bg w w':=by
 cases s with
 |nil=>
  go_enter Tryz.func206,Tryz.ntmps206
  go_wp2
  go_ret3
  exact⟨rfl,Bg.refl _⟩
 |cons a r=>
  by_cases h1:a.toNat<128
  ·have X:decide ((a.toNat:Int)<128)=true:=by simp;omega
   have E:Hid (lenR (a :: r)=(a.toNat,1,true)):=Fg h1;have H:=I h1;clear h1;have ha:=By a;go_enter Tryz.func206,Tryz.ntmps206
   go_wp2
   go_ret3
   exact⟨by rw[E.o];rfl,Bg.refl _⟩
  ·have X:decide ((a.toNat:Int)<128)=false:=by simp;omega
   by_cases h2:a.toNat=129
   ·have Z:((a.toNat:Int)==129)=true:=by simp;omega
    have O:((a.toNat:Int)==130)=false:=by simp;omega
    have H1:=I h1;clear h1;have M:=I h2;clear h2;cases r with
    |nil=>
     have E:Hid (lenR [a]=(0,0,false)):=Em M.o;go_enter Tryz.func206,Tryz.ntmps206
     go_wp2
     go_ret3
     exact⟨by rw[E.o];rfl,Bg.refl _⟩
    |cons b q=>
     have Y:=By b;have E:Hid (lenR (a :: b :: q)=(b.toNat,2,decide (128<=b.toNat))):=FP M.o;have F:Hid (decide ((128:Int)<=(b.toNat:Int))=decide (128<=b.toNat)):=by show _=_;simp;omega
     go_enter Tryz.func206,Tryz.ntmps206
     go_wp2
     go_ret3
     exact⟨by rw[E.o,<-F.o];rfl,Bg.refl _⟩
   ·have Z:((a.toNat:Int)==129)=false:=by simp;omega
    by_cases h3:a.toNat=130
    ·have O:((a.toNat:Int)==130)=true:=by simp;omega
     have H1:=I h1;clear h1;have M:=I h2;clear h2;have D:=I h3;clear h3;rcases r with _ | ⟨b,_ | ⟨c,q⟩⟩
     ·have E:Hid (lenR [a]=(0,0,false)):=Eo D.o
      go_enter Tryz.func206,Tryz.ntmps206
      go_wp2
      go_ret3
      exact⟨by rw[E.o];rfl,Bg.refl _⟩
     ·have E:Hid (lenR [a,b]=(0,0,false)):=Ep D.o
      go_enter Tryz.func206,Tryz.ntmps206
      go_wp2
      go_ret3
      exact⟨by rw[E.o];rfl,Bg.refl _⟩
     ·have Y:=By b
      have hc:=By c;have E:Hid (lenR (a :: b :: c :: q)=(b.toNat*256+c.toNat,3,decide (255<b.toNat*256+c.toNat))):=Fh D.o;go_enter Tryz.func206,Tryz.ntmps206
      go_wp2
      go_quiet (fail)
      go_wp2
      go_ret3
      have F:(decide ((255:Int)<(b.toNat:Int)*256+(c.toNat:Int)))=decide (255<b.toNat*256+c.toNat):=by simp;omega
      have G:=GW b.toNat c.toNat (by omega) (by omega);exact⟨by rw[E.o,<-F,<-G];simp [G],⟨_,rfl⟩⟩
    ·have O:((a.toNat:Int)==130)=false:=by simp;omega
     have E:Hid (lenR (a :: r)=(0,0,false)):=Ht h1 h2 h3;have H1:=I h1;clear h1;have M:=I h2;clear h2;have D:=I h3;clear h3;go_enter Tryz.func206,Tryz.ntmps206
     go_wp2
     go_ret3
     exact⟨by rw[E.o];rfl,Bg.refl _⟩
theorem Ip {w:World} {g:Nat} {c:Option L} (h:Cur w g c):w.cell? ⟨g,0,none⟩=some (.string ⟨(c.getD []).toArray⟩)/\w.cell? ⟨g,1,none⟩=some (.bool (!c.isSome)):=by
 have E:=h.cell 0;have D:=h.cell 1;cases c<;>exact⟨E,D⟩
theorem Jc {w:World} {g:Nat} {c:Option L} (h:Cur w g c):w.frozen? ⟨g,0,none⟩=false/\w.frozen? ⟨g,1,none⟩=false:=⟨h.frozen 0,h.frozen 1⟩
theorem JB (g:Nat) (c:Option L) (w:World) (h:Cur w g c):Calls Tryz.prog 180 #[.pointer (some ⟨g,0,none⟩)] w fun e w'=>e=.returned (.bool c.isSome)/\w=w':=by
 obtain⟨_,D⟩:=Ip h;go_enter Tryz.func180,Tryz.ntmps180
 go_wp2
 go_ret;exact⟨by simp,rfl⟩
theorem MI (g:Nat) (c:Option L) (w:World) (h:Cur w g c):Calls Tryz.prog 182 #[.pointer (some ⟨g,0,none⟩)] w fun e w'=>e=.returned (.tuple #[])/\Cur w' g none/\w.grownBy w' (some g):=by
 obtain⟨E,F⟩:=Ip h;obtain⟨D,M⟩:=Jc h;go_enter Tryz.func182,Tryz.ntmps182
 go_wp2
 go_end0
 exact⟨rfl,by have:=(h.set 0 (.string ⟨#[]⟩)).set 1 (.bool true);cases c<;>exact this,by repeat (first | exact World.grownBy.refl _ _ | refine Ay ?_ (.inl rfl) _)⟩
theorem Qj (t:UInt8) (w:World):Calls Tryz.prog 181 #[.string ⟨([]:List UInt8).toArray⟩,.int .u8 t.toNat] w fun e w'=>
  e=.returned (.tuple #[.string ⟨([]:List UInt8).toArray⟩,.string ⟨([]:List UInt8).toArray⟩,.bool false])/\Bg w w':=by
 go_enter Tryz.func181,Tryz.ntmps181
 go_wp2
 go_ret3
 exact⟨rfl,Bg.refl _⟩
theorem Lx (a t:UInt8) (r:L) (w:World) (D:a≠t):Calls Tryz.prog 181 #[.string ⟨(a :: r).toArray⟩,.int .u8 t.toNat] w fun e w'=>
  e=.returned (.tuple #[.string ⟨([]:List UInt8).toArray⟩,.string ⟨([]:List UInt8).toArray⟩,.bool false])/\Bg w w':=by
 have F:((a.toNat:Int)==(t.toNat:Int))=false:=by simp;exact fun g=>D (UInt8.toNat_inj.1 (by omega))
 have E:((a.toNat:Int) != (t.toNat:Int))=true:=by simp;exact fun g=>D (UInt8.toNat_inj.1 (by omega))
 have H:=I D;clear D;go_enter Tryz.func181,Tryz.ntmps181
 go_wp2
 go_ret3
 exact⟨rfl,Bg.refl _⟩
theorem NI (t:UInt8) (r:L) (w:World) (hs:(r.length:Int)<=100000) (hk:(lenR r).2.2=true) (E:(lenR r).1+(lenR r).2.1<=r.length):Calls Tryz.prog 181 #[.string ⟨(t :: r).toArray⟩,.int .u8 t.toNat] w fun e w'=>
  e=.returned (.tuple #[.string ⟨((r.drop (lenR r).2.1).take (lenR r).1).toArray⟩,.string ⟨((r.drop (lenR r).2.1).drop (lenR r).1).toArray⟩,.bool true])/\Bg w w':=by
 have D:=OG r;generalize hx:lenR r=x at *;obtain⟨n,k,ok⟩:=x;simp only at hk E D⊢;have X:((r.length:Int) - (k:Int)<(n:Int))=False:=by simp;omega
 have O:decide ((r.length:Int) - (k:Int)<(n:Int))=false:=by simp;omega
 have Z:(k:Int)+(n:Int)<=(r.length:Int):=by omega
 have Y:(n:Int)<=65535:=by omega
 have M:(k:Int)<=3:=by omega
 have F:∀W,Calls Tryz.prog 206 #[.string ⟨r.toArray⟩] W fun e w'=>e=.returned (.tuple #[.int .i64 (n:Int),.int .i64 (k:Int),.bool true])/\Bg W w':=by
  intro W;have:=Lw r W;rw[hx] at this;subst hk;exact this
 have HC:=I F;clear F;have HX:=I hx;clear hx;have HK:=I hk;clear hk;clear E D;go_enter Tryz.func181,Tryz.ntmps181
 go_wp2_with (go_at_call 206;refine(HC.o _).mono ?_;rintro e w' ⟨rfl,q,rfl⟩)
 go_quiet (fail)
 go_wp2
 go_ret3
 exact⟨by rw[<-Es r k n,List.drop_drop];rfl,⟨_,World.drewN_drewN _ _ _⟩⟩
theorem Qk (t:UInt8) (r:L) (w:World) (hk:(lenR r).2.2=false):Calls Tryz.prog 181 #[.string ⟨(t :: r).toArray⟩,.int .u8 t.toNat] w fun e w'=>
  e=.returned (.tuple #[.string ⟨([]:List UInt8).toArray⟩,.string ⟨([]:List UInt8).toArray⟩,.bool false])/\Bg w w':=by
 have D:∀W,Calls Tryz.prog 206 #[.string ⟨r.toArray⟩] W fun e w'=>e=.returned (.tuple #[.int .i64 ((lenR r).1:Int),.int .i64 ((lenR r).2.1:Int),.bool false])/\Bg W w':=by
  intro W;have:=Lw r W;rw[hk] at this;exact this
 have E:=I D;clear D;have F:=I hk;clear hk;go_enter Tryz.func181,Tryz.ntmps181
 go_wp2_with (go_at_call 206;refine(E.o _).mono ?_;rintro e w' ⟨rfl,q,rfl⟩)
 go_ret3
 exact⟨rfl,⟨_,rfl⟩⟩
theorem Ly (t:UInt8) (r:L) (w:World) (hs:(r.length:Int)<=100000) (hk:(lenR r).2.2=true) (X:¬(lenR r).1+(lenR r).2.1<=r.length):Calls Tryz.prog 181 #[.string ⟨(t :: r).toArray⟩,.int .u8 t.toNat] w fun e w'=>
  e=.returned (.tuple #[.string ⟨([]:List UInt8).toArray⟩,.string ⟨([]:List UInt8).toArray⟩,.bool false])/\Bg w w':=by
 have E:=OG r;have D:∀W,Calls Tryz.prog 206 #[.string ⟨r.toArray⟩] W fun e w'=>e=.returned (.tuple #[.int .i64 ((lenR r).1:Int),.int .i64 ((lenR r).2.1:Int),.bool true])/\Bg W w':=by
  intro W;have:=Lw r W;rw[hk] at this;exact this
 have Y:=I D;clear D;have Z:=I hk;clear hk;generalize (lenR r).1=n at *;generalize (lenR r).2.1=k at *;have M:decide ((r.length:Int) - (k:Int)<(n:Int))=true:=by simp;omega
 have O:(n:Int)<=65535:=by omega
 have F:(k:Int)<=3:=by omega
 clear X E;go_enter Tryz.func181,Tryz.ntmps181
 go_wp2_with (go_at_call 206;refine(Y.o _).mono ?_;rintro e w' ⟨rfl,q,rfl⟩)
 go_ret3
 exact⟨rfl,⟨_,rfl⟩⟩
def MJ (o:Option (L×L)):Value:=.tuple #[.string ⟨((o.map (·.1)).getD []).toArray⟩,.string ⟨((o.map (·.2)).getD []).toArray⟩,.bool o.isSome]
theorem Gc (t:UInt8) (s:L) (w:World) (hs:(s.length:Int)<=100000):Calls Tryz.prog 181 #[.string ⟨s.toArray⟩,.int .u8 t.toNat] w fun e w'=>
  e=.returned (MJ (Be t s))/\Bg w w':=by
 cases s with
 |nil=>exact Qj t w
 |cons a r=>
  simp only[List.length_cons] at hs
  by_cases h1:a=t
  ·subst h1
   cases hk:(lenR r).2.2 with
   |false=>
    rw[show Be a (a :: r)=none by simp [Be,hk]];exact Qk a r w hk
   |true=>
    by_cases hf:(lenR r).1+(lenR r).2.1<=r.length
    ·rw[show Be a (a :: r)=some ((r.drop (lenR r).2.1).take (lenR r).1,(r.drop (lenR r).2.1).drop (lenR r).1) by rw[Be,if_pos ⟨rfl,hk,hf⟩]]
     exact NI a r w (by omega) hk hf
    ·rw[show Be a (a :: r)=none by rw[Be,if_neg (fun h=>hf h.2.2)]]
     exact Ly a r w (by omega) hk hf
  ·rw[show Be t (a :: r)=none by rw[Be,if_neg (fun h=>h1 h.1)]]
   exact Lx a t r w h1
theorem Hn (t:UInt8) (g:Nat) (c:Option L) (w:World) (h:Cur w g c) (hs:((c.getD []).length:Int)<=100000):Calls Tryz.prog 147 #[.pointer (some ⟨g,0,none⟩),.int .u8 t.toNat] w fun e w'=>
  e=.returned (.tuple #[.string ⟨((Ar t c).getD []).toArray⟩,.bool (Ar t c).isSome])/\Cur w' g (AK t c)/\w.grownBy w' (some g):=by
 obtain⟨h0,h1⟩:=Ip h;obtain⟨Z,f1⟩:=Jc h;cases c with
 |none=>
  go_enter Tryz.func147,Tryz.ntmps147
  go_wp2_with (go_at_call 180;refine(JB _ _ _ h).mono ?_;rintro e w' ⟨rfl,rfl⟩)
  go_ret2
  exact⟨rfl,h,World.grownBy.refl _ _⟩
 |some s=>
  have D:∀W,Calls Tryz.prog 181 #[.string ⟨s.toArray⟩,.int .u8 t.toNat] W fun e w'=>e=.returned (MJ (Be t s))/\Bg W w':=fun W=>Gc t s W hs
  cases hx:Be t s with
  |none=>
   rw[hx] at D;simp only[MJ,Option.map_none,Option.getD_none,Option.isSome_none] at D;have X:=I D;clear D;have Y:=I hx;clear hx;go_enter Tryz.func147,Tryz.ntmps147
   go_wp2_with (first
    |(go_at_call 180;refine(JB _ _ _ h).mono ?_;rintro e w' ⟨rfl,rfl⟩)
    |(go_at_call 181;refine(X.o _).mono ?_;rintro e w' ⟨rfl,q,rfl⟩)
    |(go_at_call 182;refine(MI _ _ _ (h.drewN q)).mono ?_;rintro e w' ⟨rfl,O,M⟩))
   go_ret2
   obtain⟨E,F⟩:=Bk Y.o;rw[E,F];exact⟨rfl,O,(Et (World.grownBy.refl w _) q).trans M⟩
  |some x=>
   obtain⟨b,r⟩:=x;rw[hx] at D;simp only[MJ,Option.map_some,Option.getD_some,Option.isSome_some] at D;have X:=I D;clear D;have Y:=I hx;clear hx;go_enter Tryz.func147,Tryz.ntmps147
   go_wp2_with (first
    |(go_at_call 180;refine(JB _ _ _ h).mono ?_;rintro e w' ⟨rfl,rfl⟩)
    |(go_at_call 181;refine(X.o _).mono ?_;rintro e w' ⟨rfl,q,rfl⟩))
   go_ret2
   obtain⟨E,F⟩:=Dr Y.o;rw[E,F];exact⟨rfl,(h.drewN q).set 0 (.string ⟨r.toArray⟩),Ay (Et (World.grownBy.refl w _) q) (.inl rfl) _⟩
end DerC
namespace DerC
open Go.RowKit Ad DerP
attribute [local go_sem] FT List.getElem_cons_zero List.getElem_cons_succ Di Dj Es
def numV (p:Nat×Bool):Value:=.tuple #[.int .i64 (p.1:Int),.bool p.2]
theorem NJ (w:World):Calls Tryz.prog 184 #[.string ⟨([]:List UInt8).toArray⟩] w fun e w'=>e=.returned (numV (numR []))/\Bg w w':=by
 go_enter Tryz.func184,Tryz.ntmps184
 go_wp2
 go_ret2
 exact⟨rfl,Bg.refl _⟩
theorem Lz (a:UInt8) (r:L) (h:7<r.length) (hs:(r.length:Int)<=100000) (w:World):Calls Tryz.prog 184 #[.string ⟨(a :: r).toArray⟩] w fun e w'=>e=.returned (numV (numR (a :: r)))/\Bg w w':=by
 have D:decide ((8:Int)<(r.length:Int)+1)=true:=by simp;omega
 have E:=I (OC (a:=a) h);clear h;go_enter Tryz.func184,Tryz.ntmps184
 go_wp2
 go_ret2
 exact⟨by rw[E.o];rfl,Bg.refl _⟩
theorem LA (a:UInt8) (r:L) (h:¬7<r.length) (D:128<=a.toNat) (w:World):Calls Tryz.prog 184 #[.string ⟨(a :: r).toArray⟩] w fun e w'=>e=.returned (numV (numR (a :: r)))/\Bg w w':=by
 have F:decide ((8:Int)<(r.length:Int)+1)=false:=by simp;omega
 have O:decide ((128:Int)<=(a.toNat:Int))=true:=by simp;omega
 have E:=I (OD (r:=r) D);have M:(r.length:Int)<=7:=by omega
 clear h D;go_enter Tryz.func184,Tryz.ntmps184
 go_wp2
 go_ret2
 exact⟨by rw[E.o];rfl,Bg.refl _⟩
theorem LB (a b:UInt8) (r:L) (h:¬7<(b :: r).length) (D:a.toNat=0) (F:b.toNat<128) (w:World):Calls Tryz.prog 184 #[.string ⟨(a :: b :: r).toArray⟩] w fun e w'=>e=.returned (numV (numR (a :: b :: r)))/\Bg w w':=by
 simp only[List.length_cons] at h;have M:decide ((8:Int)<(r.length:Int)+1+1)=false:=by simp;omega
 have g2:decide ((128:Int)<=(a.toNat:Int))=false:=by simp;omega
 have X:((a.toNat:Int)==0)=true:=by simp;omega
 have O:decide ((b.toNat:Int)<128)=true:=by simp;omega
 have Z:decide ((1:Int)<(r.length:Int)+1+1)=true:=by simp;omega
 have E:=I (OE (r:=r) D F);have Y:(r.length:Int)<=6:=by omega
 clear h D F;go_enter Tryz.func184,Tryz.ntmps184
 go_wp2
 go_ret2
 exact⟨by rw[E.o];rfl,Bg.refl _⟩
theorem LC (s : L) (ha : 0 < s.length) (Y : s.length <= 8) (ge : s.isEmpty = false)
    (a:UInt8) (r:L) (hs:s=a :: r) (O:a.toNat<128) (Z:¬(a.toNat=0/\Bf r=true)) (w:World):Calls Tryz.prog 184 #[.string ⟨s.toArray⟩] w fun e w'=>e=.returned (numV (numR s))/\Bg w w':=by
  subst hs;have hb:∀i,val ((a :: r).take i)<9223372036854775808:=Hs O (by simpa using Y);have g2:decide ((128:Int)<=(a.toNat:Int))=false:=by simp;omega
  have hr:(r.length:Int)<=7:=by simp at Y;omega
  have H3:=I Z;have H2:=I O;have M:=I hb;have g1:decide ((8:Int)<(r.length:Int)+1)=false:=by simp;omega
  clear ge ha Y hb O;have key : decide ((1 : Int) < (r.length : Int) + 1) = false \/ (decide ((1 : Int) < (r.length : Int) + 1) = true /\ ((a.toNat : Int) == 0) = false) \/
      (∃h:0<r.length,decide ((1:Int)<(r.length:Int)+1)=true/\((a.toNat:Int)==0)=true/\decide (((r[0]'h).toNat:Int)<128)=false):=by
    cases r with
    |nil=>left;simp
    |cons b q=>
      right
      by_cases h0:a.toNat=0
      · right
        have:¬Bf (b :: q)=true:=fun g=>Z ⟨h0,g⟩
        simp only[Bf,decide_eq_true_eq] at this;refine⟨by simp,by simp;omega,by simp;omega,?_⟩;simp;omega
      · left
        refine⟨by simp;omega,by simp;omega⟩
  clear Z
  by_cases hbig:4611686018427387904<val (a :: r)
  · have B1 : decide ((4611686018427387904 : Int) < ((val (a :: r) : Nat) : Int)) = true := by simp; omega
    have E:=I (MZ hbig);clear hbig;rcases key with k1 | ⟨k1,k2⟩ | ⟨k0,k1,k2,k3⟩
    all_goals
      go_enter Tryz.func184,Tryz.ntmps184
      go_wp2
      go_loop [4,33] (fun n i=>∃k:Nat,k<=r.length+1/\i=.int .i64 (k:Int)/\n=.int .i64 ((val ((a :: r).take k):Nat):Int)) (fun _ i=>r.length+1 - (intOf i).toNat)
      case atStart=>exact⟨0,by omega,rfl,rfl⟩
      case round=>
        obtain⟨k,hk,rfl,rfl⟩:=hrel
        by_cases hlt:k<r.length+1
        · have D : k < (a :: r).length := by simpa using hlt
          have V:=I (DR (a :: r) k D);have X:=M.o k;have F:=M.o (k+1);rw[V.o] at F;have hu:=By ((a :: r)[k])
          go_wp2
          refine⟨⟨k+1,by omega,by go_num,?_⟩,by simp [intOf];omega⟩;rw[GW _ _ (by omega) (by omega),V.o]
          go_num
        · obtain rfl : k = r.length + 1 := by omega
          have e:(a :: r).take (r.length+1)=a :: r:=List.take_of_length_le (by simp);rw[e];clear e hk hlt
          go_wp2
          go_ret2
          exact⟨by rw[E.o];rfl,Bg.refl _⟩
  · have B1 : decide ((4611686018427387904 : Int) < ((val (a :: r) : Nat) : Int)) = false := by simp; omega
    have E:=I (OF (by omega) H2.o H3.o (by omega));clear hbig;rcases key with k1 | ⟨k1,k2⟩ | ⟨k0,k1,k2,k3⟩
    all_goals
      go_enter Tryz.func184,Tryz.ntmps184
      go_wp2
      go_loop [4,33] (fun n i=>∃k:Nat,k<=r.length+1/\i=.int .i64 (k:Int)/\n=.int .i64 ((val ((a :: r).take k):Nat):Int)) (fun _ i=>r.length+1 - (intOf i).toNat)
      case atStart=>exact⟨0,by omega,rfl,rfl⟩
      case round=>
        obtain⟨k,hk,rfl,rfl⟩:=hrel
        by_cases hlt:k<r.length+1
        · have D : k < (a :: r).length := by simpa using hlt
          have V:=I (DR (a :: r) k D);have X:=M.o k;have F:=M.o (k+1);rw[V.o] at F;have hu:=By ((a :: r)[k])
          go_wp2
          refine⟨⟨k+1,by omega,by go_num,?_⟩,by simp [intOf];omega⟩;rw[GW _ _ (by omega) (by omega),V.o]
          go_num
        · obtain rfl : k = r.length + 1 := by omega
          have e:(a :: r).take (r.length+1)=a :: r:=List.take_of_length_le (by simp);rw[e];clear e hk hlt
          go_wp2
          go_ret2
          exact⟨by rw[E.o];rfl,Bg.refl _⟩
theorem NK (s:L) (hs:(s.length:Int)<=100000) (w:World):Calls Tryz.prog 184 #[.string ⟨s.toArray⟩] w fun e w'=>e=.returned (numV (numR s))/\Bg w w':=by
 cases s with
 |nil=>exact NJ w
 |cons a r=>
  simp only[List.length_cons] at hs
  by_cases h1:7<r.length
  ·exact Lz a r h1 (by omega) w
  ·by_cases h2:128<=a.toNat
   ·exact LA a r h1 h2 w
   ·by_cases D:a.toNat=0/\Bf r=true
    ·obtain⟨D,E⟩:=D
     cases r with
     |nil=>simp [Bf] at E
     |cons b q=>exact LB a b q h1 D (by simpa [Bf] using E) w
    ·exact LC (a :: r) (by simp) (by simp;omega) rfl a r rfl (by omega) D w
end DerC
namespace DerC
open Go.RowKit Ad DerP
attribute [local go_sem] FT List.getElem_cons_zero List.getElem_cons_succ Di Dj Es
theorem BB (g : Nat) (c : Option L) (w : World) (h : Cur w g c) (hs : ((c.getD []).length : Int) <= 100000) : Calls Tryz.prog 149 #[.pointer (some ⟨g, 0, none⟩)] w fun e w' =>
    e=.returned (.int .i64 ((intC c).1:Int))/\Cur w' g (intC c).2/\w.grownBy w' (some g):=by
  have ht : ∀ W, Cur W g c -> Calls Tryz.prog 147 #[.pointer (some ⟨g, 0, none⟩), .int .u8 2] W fun e w' =>
      e=.returned (.tuple #[.string ⟨((Ar 2 c).getD []).toArray⟩,.bool (Ar 2 c).isSome])/\Cur w' g (AK 2 c)/\W.grownBy w' (some g):=fun W hW=>Hn 2 g c W hW hs
  have M:=I ht;clear ht;have D:=(Cq 2 c).1;cases hb:Ar 2 c with
  |none=>
    have E:=I (show intC c=(0,none) by simp only[intC,hb]);have F:=I (FR 2 c hb);rw[hb] at M;have HB:=I hb;clear hb D;go_enter Tryz.func149,Tryz.ntmps149
    go_wp2_with (go_at_call 147;refine(M.o _ h).mono ?_;rintro e w' ⟨rfl,X,O⟩)
    go_ret;rw[E.o];exact⟨rfl,by rw[<-F.o];exact X,O⟩
  |some b=>
    rw[hb] at M;rw[hb] at D;simp only[Option.getD_some] at D;have F:∀W,Calls Tryz.prog 184 #[.string ⟨b.toArray⟩] W fun e w'=>e=.returned (numV (numR b))/\Bg W w':=fun W=>NK b (by omega) W
    cases hx:numL b with
    |none=>
      have E:=I (show intC c=(0,none) by simp only[intC,hb,hx]);rw[Ek hx] at F;simp only[numV] at F;have HN:=I F;clear F;have HB:=I hb;clear hb D hx;go_enter Tryz.func149,Tryz.ntmps149
      go_wp2_with (first
        |(go_at_call 147;refine(M.o _ h).mono ?_;rintro e w1 ⟨rfl,X,O⟩)
        |(go_at_call 184;refine(HN.o _).mono ?_;rintro e w' ⟨rfl,q,rfl⟩)
        |(go_at_call 182;refine(MI _ _ _ (X.drewN q)).mono ?_;rintro e w' ⟨rfl,Z,Y⟩))
      go_ret;rw[E.o];exact⟨rfl,Z,(Et O q).trans Y⟩
    |some n=>
      have E:=I (show intC c=(n,AK 2 c) by simp only[intC,hb,hx]);rw[numR,hx] at F;simp only[numV,Option.getD_some,Option.isSome_some] at F;have HN:=I F;clear F;have HB:=I hb;clear hb D hx;go_enter Tryz.func149,Tryz.ntmps149
      go_wp2_with (first
        |(go_at_call 147;refine(M.o _ h).mono ?_;rintro e w1 ⟨rfl,X,O⟩)
        |(go_at_call 184;refine(HN.o _).mono ?_;rintro e w' ⟨rfl,q,rfl⟩))
      go_ret;rw[E.o];exact⟨rfl,X.drewN q,Et O q⟩
theorem CU (g:Nat) (c:Option L) (w:World) (h:Cur w g c) (hs:((c.getD []).length:Int)<=100000):Calls Tryz.prog 151 #[.pointer (some ⟨g,0,none⟩)] w fun e w'=>
  (∃b cap,e=.returned (.slice (some ⟨b,0,none⟩) ((Ar 4 c).getD []).length cap)/\((Ar 4 c).getD []).length<=cap/\OJ w' w.heap.size b ((Ar 4 c).getD []))/\Cur w' g (AK 4 c)/\w.grownBy w' (some g):=by
 have F:=fun(W:World)=>Lib.run_convert_string_bytes (P:=Tryz.prog) W 9 25 5 ⟨((Ar 4 c).getD []).toArray⟩ Tryz.underlying9 Tryz.underlying25 Tryz.underlying5
 go_enter Tryz.func151,Tryz.ntmps151
 go_wp2_with (go_at_call 147;refine(Hn 4 g c _ h hs).mono ?_;rintro e E ⟨rfl,M,D⟩)
 go_ret;exact⟨⟨_,_,rfl,grownCap_ge _ _ _ _,by have:=FE E 5 ((Ar 4 c).getD []);exact⟨Nat.le_trans D.size this.1,this.2⟩⟩,M.below (DS _ _ _),FU D (DS _ _ _)⟩
theorem Fq (g:Nat) (c:Option L) (w:World) (h:Cur w g c) (hs:((c.getD []).length:Int)<=100000):Calls Tryz.prog 183 #[.pointer (some ⟨g,0,none⟩)] w fun e w'=>
  e=.returned (.string ⟨((Ar 27 c).getD []).toArray⟩)/\Cur w' g (AK 27 c)/\w.grownBy w' (some g):=by
 have D:((Ar 27 c).getD []).length<=1000000000:=by
  have:=(Cq 27 c).1;omega
 have M:=I D;clear D;go_enter Tryz.func183,Tryz.ntmps183
 go_wp2_with (first
  |(go_at_call 147;refine(Hn 27 g c _ h hs).mono ?_;rintro e X ⟨rfl,O,F⟩)
  |(go_at_call 59;refine(Nm.JU _ _ M.o).mono ?_;rintro e w2 ⟨rfl,E⟩))
 go_ret;exact⟨rfl,O.below E,FU F E⟩
theorem Ho (t:UInt8) (g:Nat) (c:Option L) (w:World) (h:Cur w g c) (hs:((c.getD []).length:Int)<=100000):Calls Tryz.prog 103 #[.pointer (some ⟨g,0,none⟩),.int .u8 t.toNat] w fun e w'=>
  (∃g',e=.returned (.pointer (some ⟨g',0,none⟩))/\w.heap.size<=g'/\Cur w' g' (Ar t c))/\Cur w' g (AK t c)/\w.grownBy w' (some g):=by
 go_enter Tryz.func103,Tryz.ntmps103
 go_wp2_with (go_at_call 147;refine(Hn t g c _ h hs).mono ?_;rintro e E ⟨rfl,F,D⟩)
 go_ret;refine⟨⟨_,rfl,D.size,?_⟩,F.alloc _,Ce D _⟩;have:=Blk.new E 241 (JA (Ar t c));cases hb:Ar t c<;>(rw[hb] at this;exact this)
theorem ML (B:Nat) (A:Option Addr) (l:L) (n cap:Nat) (w:World) (h:Rd w B A (bvs l)) (D:n=l.length):Calls Tryz.prog 102 #[.slice A n cap] w fun e w'=>
  ∃g',e=.returned (.pointer (some ⟨g',0,none⟩))/\w.heap.size<=g'/\Cur w' g' (some l)/\Below w.heap.size w w':=by
 have E:=Bl (P:=Tryz.prog) w 25 5 Tryz.underlying25 Tryz.underlying5 h n cap D 9 Tryz.underlying9;have F:=I D;clear D;go_enter Tryz.func102,Tryz.ntmps102
 go_wp2
 go_ret;exact⟨_,rfl,Nat.le_refl _,Blk.new w 241 (JA (some l)),Af.alloc Ae _⟩
end DerC
namespace DerLib
open Go.RowKit Ad
theorem Ha:(⟨((([0,1,2,2,3,3,3,3,4,4,4,4,4,4,4,4,5,5,5,5,5,5,5,5,5,5,5,5,5,5,5,5,6,6,6,6,6,6,6,6,6,6,6,6,6,6,6,6,6,6,6,6,6,6,6,6,6,6,6,6,6,6,6,6]:List UInt8).append [7,7,7,7,7,7,7,7,7,7,7,7,7,7,7,7,7,7,7,7,7,7,7,7,7,7,7,7,7,7,7,7,7,7,7,7,7,7,7,7,7,7,7,7,7,7,7,7,7,7,7,7,7,7,7,7,7,7,7,7,7,7,7,7]).append (([8,8,8,8,8,8,8,8,8,8,8,8,8,8,8,8,8,8,8,8,8,8,8,8,8,8,8,8,8,8,8,8,8,8,8,8,8,8,8,8,8,8,8,8,8,8,8,8,8,8,8,8,8,8,8,8,8,8,8,8,8,8,8,8]:List UInt8).append [8,8,8,8,8,8,8,8,8,8,8,8,8,8,8,8,8,8,8,8,8,8,8,8,8,8,8,8,8,8,8,8,8,8,8,8,8,8,8,8,8,8,8,8,8,8,8,8,8,8,8,8,8,8,8,8,8,8,8,8,8,8,8,8])).toArray⟩:ByteArray)=Lib.len8tab:=by kernel_rfl
theorem EH (m k p:Nat) (x:Int) (E:p=2 ^ k) (F:x=((m / p:Nat):Int)) (hs:m / p<256) (D:p<=m\/k=0) (hm:m<18446744073709551616) :
  Lib.len8 x+(k:Int)=(Lib.bitLen m:Int)/\Lib.len8 x<=8/\0<=Lib.len8 x:=by
 have l:=Lib.bitLen_le8 ⟨m / p,hs⟩;have v:=Lib.len8_eq ⟨m / p,hs⟩;simp only at l v;rw[F,v];have M:Lib.bitLen m=k+Lib.bitLen (m / p):=by
  rcases D with h | h
  ·rw[E] at h⊢;exact Lib.bitLen_shift k m h hm
  ·subst h;rw[E];simp
 omega
theorem Ql (m:Nat) (w:World) (hm:m<9223372036854775808):Calls Tryz.prog 226 #[.int .u64 (m:Int)] w fun e w'=>e=.returned (.int .i64 (Lib.bitLen m:Int))/\w=w':=by
 by_cases h1:4294967296<=m
 ·by_cases h2:65536<=m / 4294967296
  ·by_cases h3:256<=m / 4294967296 / 65536
   ·have M:decide ((4294967296:Int)<=(m:Int))=true:=decide_eq_true (by omega)
    have O:decide ((65536:Int)<=(m:Int) / 4294967296)=true:=decide_eq_true (by omega);have F:decide ((256:Int)<=(m:Int) / 4294967296 / 65536)=true:=decide_eq_true (by omega);have D:=EH m 56 72057594037927936 ((m:Int) / 4294967296 / 65536 / 256 % 256) rfl (by omega) (by omega) (by omega) (by omega);have E:=I D;clear D hm h1 h2 h3;go_enter Tryz.func226,Tryz.ntmps226;rw[Ha]
    go_wp2
    go_ret;have D:=E.o;refine⟨congrArg Ending.returned (congrArg (Value.int IntKind.i64) ?_),rfl⟩
    (first | (unfold wrap64;omega) | omega | skip)
   ·have M:decide ((4294967296:Int)<=(m:Int))=true:=decide_eq_true (by omega)
    have O:decide ((65536:Int)<=(m:Int) / 4294967296)=true:=decide_eq_true (by omega);have F:decide ((256:Int)<=(m:Int) / 4294967296 / 65536)=false:=decide_eq_false (by omega);have D:=EH m 48 281474976710656 ((m:Int) / 4294967296 / 65536 % 256) rfl (by omega) (by omega) (by omega) (by omega);have E:=I D;clear D hm h1 h2 h3;go_enter Tryz.func226,Tryz.ntmps226;rw[Ha]
    go_wp2
    go_ret;have D:=E.o;refine⟨congrArg Ending.returned (congrArg (Value.int IntKind.i64) ?_),rfl⟩
    (first | (unfold wrap64;omega) | omega | skip)
  ·by_cases h3:256<=m / 4294967296
   ·have M:decide ((4294967296:Int)<=(m:Int))=true:=decide_eq_true (by omega)
    have O:decide ((65536:Int)<=(m:Int) / 4294967296)=false:=decide_eq_false (by omega);have F:decide ((256:Int)<=(m:Int) / 4294967296)=true:=decide_eq_true (by omega);have D:=EH m 40 1099511627776 ((m:Int) / 4294967296 / 256 % 256) rfl (by omega) (by omega) (by omega) (by omega);have E:=I D;clear D hm h1 h2 h3;go_enter Tryz.func226,Tryz.ntmps226;rw[Ha]
    go_wp2
    go_ret;have D:=E.o;refine⟨congrArg Ending.returned (congrArg (Value.int IntKind.i64) ?_),rfl⟩
    (first | (unfold wrap64;omega) | omega | skip)
   ·have M:decide ((4294967296:Int)<=(m:Int))=true:=decide_eq_true (by omega)
    have O:decide ((65536:Int)<=(m:Int) / 4294967296)=false:=decide_eq_false (by omega);have F:decide ((256:Int)<=(m:Int) / 4294967296)=false:=decide_eq_false (by omega);have D:=EH m 32 4294967296 ((m:Int) / 4294967296 % 256) rfl (by omega) (by omega) (by omega) (by omega);have E:=I D;clear D hm h1 h2 h3;go_enter Tryz.func226,Tryz.ntmps226;rw[Ha]
    go_wp2
    go_ret;have D:=E.o;refine⟨congrArg Ending.returned (congrArg (Value.int IntKind.i64) ?_),rfl⟩
    (first | (unfold wrap64;omega) | omega | skip)
 ·by_cases h2:65536<=m
  ·by_cases h3:256<=m / 65536
   ·have M:decide ((4294967296:Int)<=(m:Int))=false:=decide_eq_false (by omega)
    have O:decide ((65536:Int)<=(m:Int))=true:=decide_eq_true (by omega);have F:decide ((256:Int)<=(m:Int) / 65536)=true:=decide_eq_true (by omega);have D:=EH m 24 16777216 ((m:Int) / 65536 / 256 % 256) rfl (by omega) (by omega) (by omega) (by omega);have E:=I D;clear D hm h1 h2 h3;go_enter Tryz.func226,Tryz.ntmps226;rw[Ha]
    go_wp2
    go_ret;have D:=E.o;refine⟨congrArg Ending.returned (congrArg (Value.int IntKind.i64) ?_),rfl⟩
    (first | (unfold wrap64;omega) | omega | skip)
   ·have M:decide ((4294967296:Int)<=(m:Int))=false:=decide_eq_false (by omega)
    have O:decide ((65536:Int)<=(m:Int))=true:=decide_eq_true (by omega);have F:decide ((256:Int)<=(m:Int) / 65536)=false:=decide_eq_false (by omega);have D:=EH m 16 65536 ((m:Int) / 65536 % 256) rfl (by omega) (by omega) (by omega) (by omega);have E:=I D;clear D hm h1 h2 h3;go_enter Tryz.func226,Tryz.ntmps226;rw[Ha]
    go_wp2
    go_ret;have D:=E.o;refine⟨congrArg Ending.returned (congrArg (Value.int IntKind.i64) ?_),rfl⟩
    (first | (unfold wrap64;omega) | omega | skip)
  ·by_cases h3:256<=m
   ·have M:decide ((4294967296:Int)<=(m:Int))=false:=decide_eq_false (by omega)
    have O:decide ((65536:Int)<=(m:Int))=false:=decide_eq_false (by omega);have F:decide ((256:Int)<=(m:Int))=true:=decide_eq_true (by omega);have D:=EH m 8 256 ((m:Int) / 256 % 256) rfl (by omega) (by omega) (by omega) (by omega);have E:=I D;clear D hm h1 h2 h3;go_enter Tryz.func226,Tryz.ntmps226;rw[Ha]
    go_wp2
    go_ret;have D:=E.o;refine⟨congrArg Ending.returned (congrArg (Value.int IntKind.i64) ?_),rfl⟩
    (first | (unfold wrap64;omega) | omega | skip)
   ·have M:decide ((4294967296:Int)<=(m:Int))=false:=decide_eq_false (by omega)
    have O:decide ((65536:Int)<=(m:Int))=false:=decide_eq_false (by omega);have F:decide ((256:Int)<=(m:Int))=false:=decide_eq_false (by omega);have D:=EH m 0 1 ((m:Int) % 256) rfl (by omega) (by omega) (by omega) (by omega);have E:=I D;clear D hm h1 h2 h3;go_enter Tryz.func226,Tryz.ntmps226;rw[Ha]
    go_wp2
    go_ret;have D:=E.o;refine⟨congrArg Ending.returned (congrArg (Value.int IntKind.i64) ?_),rfl⟩
    (first | (unfold wrap64;omega) | omega | skip)
theorem SD (m:Nat) (w:World) (hm:m<9223372036854775808):Calls Tryz.prog 214 #[.int .u64 (m:Int)] w fun e w'=>e=.returned (.int .i64 (Lib.bitLen m:Int))/\w=w':=by
 have c1:=Ql m w hm;clear hm;go_enter Tryz.func214,Tryz.ntmps214
 go_wp2_with (go_at_call 226;refine Ag c1 ?_;rintro w' rfl)
 go_ret;exact⟨rfl,rfl⟩
end DerLib
namespace DerW
open Go.RowKit Ad DerP
theorem BP:(Tryz.prog.info? 5).map (fun i=>(i.zero,i.size,i.bytes))=some (some (.int .u8 0),1,1):=by kernel_rfl
def filled (K m j:Nat):Array Value:=(List.replicate j (bv 0)++bvs ((digK K m).drop j)).toArray
theorem Kv (K m:Nat):filled K m K=Cx K:=by
 rw[filled,List.drop_of_length_le (by rw[Bb];exact Nat.le_refl _)];simp [Cx,bvs]
theorem NL (K m:Nat):filled K m 0=(bvs (digK K m)).toArray:=by simp [filled]
theorem NM (K m j:Nat) (D:j<K):(filled K m (j+1)).setIfInBounds j (bv (UInt8.ofNat (m / 256 ^ (K - 1 - j))))=filled K m j:=by
 have h:=Oy (digK K m) j _ (Ox K m j D);apply Array.toList_inj.1;simp only[filled,Array.toList_setIfInBounds];rw[h];rw[List.set_append_left _ _ (by simp)];rw[List.replicate_succ',List.set_append_right _ _ (by simp)];simp [bvs]
theorem NO (m:Nat) (hm:m<=4611686018427387904) (w:World):Calls Tryz.prog 200 #[.int .i64 (m:Int)] w fun e w'=>
  ∃g,e=.returned (.slice (some ⟨g,0,none⟩) (dig m).length (dig m).length)/\w.heap.size<=g/\Blk w' g 5 (bvs (dig m)).toArray/\Below w.heap.size w w':=by
 obtain⟨i0,M,X,Y,O⟩:=info_parts BP;have Z:=FO m hm;have hL:(dig m).length=Lib.bitLen m / 8+1:=Gr m;have hD:dig m=digK (Lib.bitLen m / 8+1) m:=rfl;rw[hL,hD];have hc:∀W,Calls Tryz.prog 214 #[.int .u64 (m:Int)] W fun e w'=>e=.returned (.int .i64 (Lib.bitLen m:Int))/\W=w':=by
  intro W;exact DerLib.SD m W (by omega)
 clear hL hD;generalize hq:Lib.bitLen m=q at *;have af:=FA (P:=Tryz.prog) Tryz.underlying25 M X Y O ((q:Int) / 8+1) (q / 8+1) (by omega) (by omega);have HC:=I hc;clear hc;have HQ:=I hq;clear hq;have ae:(m:Int)<=4611686018427387904:=by omega
 have ah:(q:Int)<=63:=by omega
 clear hm Z M X Y O;go_enter Tryz.func200,Tryz.ntmps200
 go_wp2_with (go_at_call 214;refine(HC.o _).mono ?_;rintro e w' ⟨rfl,rfl⟩)
 go_loopw [0,4] (fun n i wr=>∃j:Nat,j<=q / 8+1/\i=.int .i64 ((j:Int) - 1)/\n=.int .i64 ((m / 256 ^ (q / 8+1 - j):Nat):Int)/\Blk wr w.heap.size 5 (filled (q / 8+1) m j)/\Below w.heap.size w wr) (fun _ i _=>(intOf i+1).toNat)
 case atStart=>
  refine⟨q / 8+1,Nat.le_refl _,by congr 1;omega,by simp,?_,Af.alloc Ae _⟩;rw[Kv];exact Blk.new _ _ _
 case round=>
  obtain⟨j,hj,rfl,rfl,hB,E⟩:=hrel;cases j with
  |zero=>
   have e:((0:Nat):Int) - 1 = -1:=rfl;rw[e]
   go_wp2
   go_ret;rw[NL] at hB;exact⟨_,rfl,Nat.le_refl _,hB,E⟩
  |succ j=>
   have e:((j+1:Nat):Int) - 1=(j:Int):=by omega
   rw[e];clear e;have hf:=hB.frozen j;have D:=hB.set j (bv (UInt8.ofNat (m / 256 ^ (q / 8+1 - 1 - j))));rw[NM _ _ _ (by omega)] at D;have F:∃u,(filled (q / 8+1) m (j+1))[j]? = some u:=by
    have:j<(filled (q / 8+1) m (j+1)).size:=by simp [filled,bvs,Bb];omega
    exact⟨_,Array.getElem?_eq_getElem this⟩
   obtain⟨u,hu⟩:=F;have ag:=(hB.cell j).trans hu;have hdiv:m / 256 ^ (q / 8+1 - (j+1))<=m:=Nat.div_le_self _ _;have ab:((m / 256 ^ (q / 8+1 - (j+1)):Nat):Int)<=4611686018427387904:=by omega
   have ad:=I (show m / 256 ^ (q / 8+1 - (j+1)) / 256=m / 256 ^ (q / 8+1 - j) by
    rw[Nat.div_div_eq_div_mul,<-Nat.pow_succ];congr 2;omega)
   have aa:=I (show q / 8+1 - 1 - j=q / 8+1 - (j+1) by omega);rw[aa.o] at D;generalize m / 256 ^ (q / 8+1 - (j+1))=y at *;have HS:=I D;clear D hu
   go_wp2
   refine⟨⟨j,by omega,rfl,?_,?_,E.setCell Ae _⟩,by simp [intOf]⟩
   ·rw[<-ad.o];rfl
   ·have e:bv (UInt8.ofNat y)=.int .u8 ((y:Int) % 256):=by simp [bv]
    rw[<-e];exact HS.o
theorem ml (n:Nat) (h:n<=1000000):n<=maxLen:=by unfold maxLen;omega
theorem Hb (w:World) (t:TypeId) (cs:Array Value) (l:L) (h:cs.toList=bvs l) (N:Nat) (D:w.heap.size=N):Rd (w.alloc (.cells cs t)) (N+1) (some ⟨N,0,none⟩) (bvs l):=by
 subst D;refine .inr ⟨w.heap.size,0,rfl,by omega,fun i u hu=>?_⟩;rw[Nat.zero_add,(Blk.new w t cs).cell i];rw[<-h] at hu
 simpa using hu
theorem Gk (n:Nat) (h:n<256):bv (UInt8.ofNat n)=.int .u8 (n:Int):=by simp [bv];omega
theorem NP (t : UInt8) (n : Nat) (h1 : n < 128) (w : World) : Calls Tryz.prog 198 #[.int .u8 t.toNat, .int .i64 (n : Int)] w fun e w' =>
    ∃v,e=.returned v/\w'.ownsRow w.heap.size 5 1 v (1+(szL n).length) (bvs (t :: szL n))/\Below w.heap.size w w':=by
  obtain⟨i0,O,Y,Z,X⟩:=info_parts BP;have ai:=Dk (P:=Tryz.prog) Tryz.underlying25 O Y Z X ((n:Int)+4) (n+4) (by omega) (by omega);have E:=I (show szL n = [UInt8.ofNat n] by simp [szL,h1]);have g1:decide ((n:Int)<128)=true:=by simp;omega
  have hn:(n:Int)<=127:=by omega
  have F:Hid (∀o,(World.alloc (World.alloc w (.cells (Cx (n+4)) 5)) o).ownsRow w.heap.size 5 1 (.slice (some ⟨w.heap.size,0,none⟩) 0 (n+4)) 0 []):=fun o=>(World.ownsRow_made w (Cx (n+4)) (n+4) Ae (ml _ (by omega)) (by rw[Dm];omega)).alloc o
  have ad:=I (ml 1 (by omega));have ae:=I (ml 2 (by omega));have ab:=I (Gk n (by omega));clear h1;go_enter Tryz.func198,Tryz.ntmps198
  go_wp2_with (first
    | (at_builtin
       refine Av _ rfl (.tmp 8) (.tmp 10) 25 rfl w.heap.size 5 i0 _ 1 Tryz.underlying25 O Y Z X rfl (.slice (some ⟨w.heap.size,0,none⟩) 0 (n+4)) 0 [] rfl (F.o _) _ _ 1 1 (bvs [t]) rfl rfl (Hb _ 5 _ [t] rfl _ (by simp)) (Bz _) ad.o (by omega) (by simp;omega) ?_;intro v1 w1 D aa ag)
    | (at_builtin
       refine Av _ rfl (.tmp 15) (.tmp 18) 25 rfl w.heap.size 5 i0 _ 1 Tryz.underlying25 O Y Z X rfl v1 (0+1) ([]++bvs [t]) rfl (D.alloc _) _ _ 1 1 (bvs [UInt8.ofNat n]) rfl rfl (Hb w1 5 _ [UInt8.ofNat n] (by simp [bvs,ab.o]) _ rfl) (Bz _) ae.o (by omega) (by simp;have:=aa.size;simp at this;omega) ?_;intro v2 w2 M af ah))
  go_ret;have b1:Below w.heap.size w w1:=(((Below.refl w.heap.size w).alloc Ae _).alloc (by simp) _).grown aa (by simp;omega) (by intro k hk;simp [Value.ownBlock] at hk;omega);have b2:=(b1.alloc b1.size _).grown af (by have:=b1.size;simp;omega) (fun k hk=>(D.lt k hk).1);exact⟨v2,rfl,by rw[E.o];simpa [bvs] using M,b2⟩
theorem SE (t : UInt8) (n : Nat) (h1 : ¬ n < 128) (h2 : n <= 255) (w : World) : Calls Tryz.prog 198 #[.int .u8 t.toNat, .int .i64 (n : Int)] w fun e w' =>
    ∃v,e=.returned v/\w'.ownsRow w.heap.size 5 1 v (1+(szL n).length) (bvs (t :: szL n))/\Below w.heap.size w w':=by
  obtain⟨i0,O,Y,Z,X⟩:=info_parts BP;have ai:=Dk (P:=Tryz.prog) Tryz.underlying25 O Y Z X ((n:Int)+4) (n+4) (by omega) (by omega);have E:=I (show szL n = [129,UInt8.ofNat n] by simp [szL,h1,h2]);have g1:decide ((n:Int)<128)=false:=by simp;omega
  have g2:decide ((n:Int)<=255)=true:=by simp;omega
  have hn:(n:Int)<=255:=by omega
  have F:Hid (∀o,(World.alloc (World.alloc w (.cells (Cx (n+4)) 5)) o).ownsRow w.heap.size 5 1 (.slice (some ⟨w.heap.size,0,none⟩) 0 (n+4)) 0 []):=fun o=>(World.ownsRow_made w (Cx (n+4)) (n+4) Ae (ml _ (by omega)) (by rw[Dm];omega)).alloc o
  have ad:=I (ml 1 (by omega));have ae:=I (ml 3 (by omega));have ab:=I (Gk n (by omega));clear h1 h2;go_enter Tryz.func198,Tryz.ntmps198
  go_wp2_with (first
    | (at_builtin
       refine Av _ rfl (.tmp 8) (.tmp 10) 25 rfl w.heap.size 5 i0 _ 1 Tryz.underlying25 O Y Z X rfl (.slice (some ⟨w.heap.size,0,none⟩) 0 (n+4)) 0 [] rfl (F.o _) _ _ 1 1 (bvs [t]) rfl rfl (Hb _ 5 _ [t] rfl _ (by simp)) (Bz _) ad.o (by omega) (by simp;omega) ?_;intro v1 w1 D aa ag)
    | (at_builtin
       refine Av _ rfl (.tmp 23) (.tmp 26) 25 rfl w.heap.size 5 i0 _ 1 Tryz.underlying25 O Y Z X rfl v1 (0+1) ([]++bvs [t]) rfl (D.alloc _) _ _ 2 2 (bvs [129,UInt8.ofNat n]) rfl rfl (Hb w1 5 _ [129,UInt8.ofNat n] (by simp [bvs,ab.o];rfl) _ rfl) (Bz _) ae.o (by omega) (by simp;have:=aa.size;simp at this;omega) ?_;intro v2 w2 M af ah))
  go_ret;have b1:Below w.heap.size w w1:=(((Below.refl w.heap.size w).alloc Ae _).alloc (by simp) _).grown aa (by simp;omega) (by intro k hk;simp [Value.ownBlock] at hk;omega);have b2:=(b1.alloc b1.size _).grown af (by have:=b1.size;simp;omega) (fun k hk=>(D.lt k hk).1);exact⟨v2,rfl,by rw[E.o];simpa [bvs] using M,b2⟩
theorem SF (t : UInt8) (n : Nat) (h1 : ¬ n < 128) (h2 : ¬ n <= 255) (h3 : n <= 65535) (w : World) : Calls Tryz.prog 198 #[.int .u8 t.toNat, .int .i64 (n : Int)] w fun e w' =>
    ∃v,e=.returned v/\w'.ownsRow w.heap.size 5 1 v (1+(szL n).length) (bvs (t :: szL n))/\Below w.heap.size w w':=by
  obtain⟨i0,O,Y,Z,X⟩:=info_parts BP;have ai:=Dk (P:=Tryz.prog) Tryz.underlying25 O Y Z X ((n:Int)+4) (n+4) (by omega) (by omega);have E:=I (show szL n = [130,UInt8.ofNat (n / 256),UInt8.ofNat n] by simp [szL,h1,h2]);have g1:decide ((n:Int)<128)=false:=by simp;omega
  have g2:decide ((n:Int)<=255)=false:=by simp;omega
  have hn:(n:Int)<=65535:=by omega
  have F:Hid (∀o,(World.alloc (World.alloc w (.cells (Cx (n+4)) 5)) o).ownsRow w.heap.size 5 1 (.slice (some ⟨w.heap.size,0,none⟩) 0 (n+4)) 0 []):=fun o=>(World.ownsRow_made w (Cx (n+4)) (n+4) Ae (ml _ (by omega)) (by rw[Dm];omega)).alloc o
  have ad:=I (ml 1 (by omega));have ae:=I (ml 4 (by omega));have ab:=I (show bvs [130,UInt8.ofNat (n / 256),UInt8.ofNat n] = [.int .u8 130,.int .u8 ((n:Int) / 256),.int .u8 ((n:Int) % 256)] by simp [bvs,bv];omega);clear h1 h2 h3;go_enter Tryz.func198,Tryz.ntmps198
  go_wp2_with (first
    | (at_builtin
       refine Av _ rfl (.tmp 8) (.tmp 10) 25 rfl w.heap.size 5 i0 _ 1 Tryz.underlying25 O Y Z X rfl (.slice (some ⟨w.heap.size,0,none⟩) 0 (n+4)) 0 [] rfl (F.o _) _ _ 1 1 (bvs [t]) rfl rfl (Hb _ 5 _ [t] rfl _ (by simp)) (Bz _) ad.o (by omega) (by simp;omega) ?_;intro v1 w1 D aa ag)
    | (at_builtin
       refine Av _ rfl (.tmp 28) (.tmp 34) 25 rfl w.heap.size 5 i0 _ 1 Tryz.underlying25 O Y Z X rfl v1 (0+1) ([]++bvs [t]) rfl (D.alloc _) _ _ 3 3 (bvs [130,UInt8.ofNat (n / 256),UInt8.ofNat n]) rfl rfl (Hb w1 5 _ [130,UInt8.ofNat (n / 256),UInt8.ofNat n] (by rw[ab.o]) _ rfl) (Bz _) ae.o (by omega) (by simp;have:=aa.size;simp at this;omega) ?_;intro v2 w2 M af ah))
  go_ret;have b1:Below w.heap.size w w1:=(((Below.refl w.heap.size w).alloc Ae _).alloc (by simp) _).grown aa (by simp;omega) (by intro k hk;simp [Value.ownBlock] at hk;omega);have b2:=(b1.alloc b1.size _).grown af (by have:=b1.size;simp;omega) (fun k hk=>(D.lt k hk).1);exact⟨v2,rfl,by rw[E.o];simpa [bvs] using M,b2⟩
theorem SG (t:UInt8) (n:Nat) (h:n<=65535) (w:World):Calls Tryz.prog 198 #[.int .u8 t.toNat,.int .i64 (n:Int)] w fun e w'=>
  ∃v,e=.returned v/\w'.ownsRow w.heap.size 5 1 v (1+(szL n).length) (bvs (t :: szL n))/\Below w.heap.size w w':=by
 by_cases h1:n<128
 ·exact NP t n h1 w
 ·by_cases h2:n<=255
  ·exact SE t n h1 h2 w
  ·exact SF t n h1 h2 h w
def Rds (w:World) (B:Nat) (A:Option Addr) (ls:List L):Prop:=
 ls = []\/∃b o,A=some ⟨b,o,none⟩/\b<B/\∀i l,ls[i]? = some l->∃A' c',w.cell? ⟨b,o+i,none⟩=some (.slice A' l.length c')/\Rd w B A' (bvs l)
theorem Rds.at_ {w:World} {B:Nat} {A:Option Addr} {ls:List L} (h:Rds w B A ls) {i:Nat} {l:L} (D:ls[i]? = some l) :
  ∃b o,A=some ⟨b,o,none⟩/\b<B/\∃A' c',w.cell? ⟨b,o+i,none⟩=some (.slice A' l.length c')/\Rd w B A' (bvs l):=by
 rcases h with h | ⟨b,o,F,E,M⟩
 ·subst h;simp at D
 ·exact⟨b,o,F,E,M i l D⟩
theorem Rds.below {w w':World} {B:Nat} {A:Option Addr} {ls:List L} (h:Rds w B A ls) (E:Below B w w'):Rds w' B A ls:=by
 rcases h with h | ⟨b,o,O,D,Y⟩
 ·exact .inl h
 ·refine .inr ⟨b,o,O,D,fun i l M=>?_⟩
  obtain⟨F,c',X,Z⟩:=Y i l M;exact⟨F,c',(E.cell (p:=⟨b,o+i,none⟩) D).trans X,Z.below E⟩
theorem Iq (ls:List L) (k:Nat) (l:L) (h:ls[k]? = some l):(ls.take (k+1)).flatten=(ls.take k).flatten++l:=by
 obtain⟨hk,e⟩:=List.getElem?_eq_some_iff.1 h;rw[List.take_succ_eq_append_getElem hk,e];simp
theorem Ij (ls:List L) (k:Nat):(ls.take k).flatten.length<=ls.flatten.length:=by
 conv=>rhs;rw[<-List.take_append_drop k ls,List.flatten_append,List.length_append]
 omega
def pre (ls:List L) (k:Nat):Nat:=(ls.take k).flatten.length
def built (t:UInt8) (ls:List L) (k:Nat):L:=t :: szL ls.flatten.length++(ls.take k).flatten
theorem SH (ls:List L) (k:Nat) (l:L) (h:ls[k]? = some l):pre ls (k+1)=pre ls k+l.length:=by
 rw[pre,Iq ls k l h,List.length_append];rfl
theorem Xs (ls:List L) (k:Nat):pre ls k<=ls.flatten.length:=Ij ls k
theorem Vx (ls:List L):pre ls ls.length=ls.flatten.length:=by rw[pre,List.take_of_length_le Ae]
theorem NS (t:UInt8) (ls:List L) (k:Nat) (l:L) (h:ls[k]? = some l):built t ls (k+1)=built t ls k++l:=by
 rw[built,Iq ls k l h,built,List.append_assoc]
theorem Qm (t:UInt8) (ls:List L):built t ls ls.length=elem t ls.flatten:=by
 rw[built,List.take_of_length_le Ae];rfl
theorem SI (t:UInt8) (ls:List L) (k:Nat) (h:ls.flatten.length<=65535):(built t ls k).length<=65539:=by
 have E:=Ij ls k;have D:=BZ ls.flatten.length;have F:(szL ls.flatten.length).length<=3:=by rw[D];split<;>(try split)<;>omega
 rw[built,List.length_append,List.length_cons];omega
theorem CY (t : UInt8) (ls : List L) (A : Option Addr) (m c B : Nat) (w : World) (hr : Rds w B A ls) (hm : m = ls.length) (hB : B <= w.heap.size) (hl : ls.flatten.length <= 65535) (hc : ls.length <= 1000000) :
    Calls Tryz.prog 174 #[.int .u8 t.toNat,.slice A m c] w fun e w'=>
      ∃v,e=.returned v/\w'.ownsRow w.heap.size 5 1 v (elem t ls.flatten).length (bvs (elem t ls.flatten))/\Below w.heap.size w w':=by
  obtain⟨i0,aj,an,al,ak⟩:=info_parts BP;have ae:=Vx ls;have hh:∀W,Calls Tryz.prog 198 #[.int .u8 t.toNat,.int .i64 ((pre ls m:Nat):Int)] W fun e w'=>
    ∃v,e=.returned v/\w'.ownsRow W.heap.size 5 1 v (built t ls 0).length (bvs (built t ls 0))/\Below W.heap.size W w':=by
    intro W;have:=SG t _ hl W;have e1:built t ls 0=t :: szL ls.flatten.length:=by simp [built]
    rw[e1,hm,ae,List.length_cons,Nat.add_comm];exact this
  have HH:=I hh;clear hh;have ag:=I (fun k=>Nat.le_trans (Xs ls k) hl);have ab:=I (fun k=>SI t ls k hl);have ah:=I (Qm t ls);have ai:=I ml;have HR:=I hr;clear hr;have ax:(m:Int)<=1000000:=by omega
  have HM:=I hm;clear hm hc hl ae;go_enter Tryz.func174,Tryz.ntmps174
  go_wp2
  go_loop [5,13] (fun n i=>∃k:Nat,k<=m/\i=.int .i64 (k:Int)/\n=.int .i64 ((pre ls k:Nat):Int)) (fun _ i=>m - (intOf i).toNat)
  case atStart=>exact⟨0,by omega,rfl,rfl⟩
  case round=>
    obtain⟨k,hk,rfl,rfl⟩:=hrel
    by_cases hlt:k<m
    · obtain ⟨l, Y⟩ : ∃ l, ls[k]? = some l := ⟨_, List.getElem?_eq_getElem (by have := HM.o; omega)⟩
      obtain⟨b,o,rfl,hb,A',c',O,F⟩:=HR.o.at_ Y;have X:=ag.o k;have aa:=ag.o (k+1);have hs:=SH ls k l Y;have HS:=I hs;have g1:decide ((65535:Int)<((pre ls k:Nat):Int)+(l.length:Int))=false:=by simp only[decide_eq_false_iff_not];omega
      have aw:(l.length:Int)<=65535:=by omega
      have ar:((pre ls k:Nat):Int)<=65535:=by omega
      clear hs X aa Y F
      go_wp2
      exact⟨⟨k+1,by omega,by go_num,by rw[HS.o];go_num⟩,by simp [intOf];omega⟩
    · obtain rfl : k = m := by omega
      clear hk hlt
      go_wp2_with (go_at_call 198;refine(HH.o _).mono ?_;rintro e w1 ⟨v,rfl,M,ad⟩)
      go_loopw [8,29] (fun v i wr=>∃j:Nat,j<=k/\i=.int .i64 (j:Int)/\wr.ownsRow w.heap.size 5 1 v (built t ls j).length (bvs (built t ls j))/\Below w.heap.size w wr) (fun _ i _=>k - (intOf i).toNat)
      case atStart=>exact⟨0,by omega,rfl,M,ad⟩
      case round=>
        obtain⟨j,hj,rfl,E,D⟩:=hrel
        by_cases hlt:j<k
        · obtain ⟨l, Y⟩ : ∃ l, ls[j]? = some l := ⟨_, List.getElem?_eq_getElem (by have := HM.o; omega)⟩
          obtain⟨b,o,rfl,hb,A',c',O,F⟩:=(HR.o.below (D.mono hB)).at_ Y;have hs:=NS t ls j l Y;have X:=ab.o j;have aa:=ab.o (j+1);have af:=congrArg List.length hs;rw[List.length_append] at af;have HS:=I hs;have av:(built t ls j).length+l.length<=65539:=by omega
          have HO:=I E;have HQ:=I F;clear hs af Y X aa E F M
          go_wp2_with (at_builtin
                       refine Av _ rfl (.tmp 33) (.tmp 34) 25 rfl w.heap.size 5 i0 _ 1 Tryz.underlying25 aj an al ak rfl _ (built t ls j).length (bvs (built t ls j)) rfl HO.o B A' l.length c' (bvs l) rfl (Ao l).symm HQ.o (Bz _) (ai.o _ (by omega)) (by omega) D.size ?_;intro v2 w2 Z ao au)
          refine⟨⟨j+1,by omega,by go_num,?_,D.grown ao D.size (fun i hi=>(HO.o.lt i hi).1)⟩,by simp [intOf];omega⟩;rw[HS.o,Bw,List.length_append];exact Z
        · obtain rfl : j = k := by omega
          clear hj hlt
          go_wp2
          go_ret;have e:built t ls j=elem t ls.flatten:=by rw[HM.o];exact ah.o
          rw[e] at E;exact⟨_,rfl,E,D⟩
theorem LD (w:World) (t:TypeId) (B:Nat) (A:Option Addr) (l:L) (n c:Nat) (F:n=l.length) (h:Rd w B A (bvs l)) (hB:B<=w.heap.size) :
  Rds (w.alloc (.cells #[.slice A n c] t)) (w.heap.size+1) (some ⟨w.heap.size,0,none⟩) [l]:=by
 subst F;refine .inr ⟨w.heap.size,0,rfl,by omega,fun i M D=>?_⟩;have E:i=0:=by
  rcases Nat.eq_zero_or_pos i with g | g
  ·exact g
  ·rw[List.getElem?_eq_none (by simp;omega)] at D;cases D
 subst E;injection D with D;subst D;exact⟨A,c,(Blk.new w t _).cell 0,(h.alloc hB _).more (by omega)⟩
theorem CU (l:L) (A:Option Addr) (n c B:Nat) (w:World) (X:Rd w B A (bvs l)) (O:n=l.length) (hB:B<=w.heap.size) (M:l.length<=65535) :
  Calls Tryz.prog 192 #[.slice A n c] w fun e w'=>
   ∃v,e=.returned v/\w'.ownsRow w.heap.size 5 1 v (elem 4 l).length (bvs (elem 4 l))/\Below w.heap.size w w':=by
 have D:=LD w 25 B A l n c O X hB;have hw:=CY 4 [l] (some ⟨w.heap.size,0,none⟩) 1 1 (w.heap.size+1) (w.alloc (.cells #[.slice A n c] 25)) D rfl (by simp) (by simpa using M) (by simp);have e:[l].flatten=l:=by simp
 rw[e] at hw;have Y:=I hw;clear hw D X O M e;go_enter Tryz.func192,Tryz.ntmps192
 go_wp2_with (go_at_call 174;refine Y.o.mono ?_;rintro e Z ⟨v,rfl,F,E⟩)
 go_ret;refine⟨_,rfl,?_,(Below.refl w.heap.size w).alloc Ae _ |>.trans (E.mono (by simp))⟩;exact F.mono (by simp)
theorem BB (n : Int) (w : World) :
    Calls Tryz.prog 176 #[.int .i64 n] w fun e w'=>
      ∃v,e=.returned v/\w'.ownsRow w.heap.size 5 1 v (encI n).length (bvs (encI n))/\Below w.heap.size w w':=by
  have O:=NO (BT n) (Eh n);rw[IM] at O;have hw : ∀ (W : World) (g : Nat), Blk W g 5 (bvs (dig (BT n))).toArray -> Calls Tryz.prog 174 #[.int .u8 2, .slice (some ⟨W.heap.size, 0, none⟩) 1 1] (W.alloc (.cells #[.slice (some ⟨g, 0, none⟩) (dig (BT n)).length (dig (BT n)).length] 25)) fun e w' =>
      ∃v,e=.returned v/\w'.ownsRow W.heap.size 5 1 v (encI n).length (bvs (encI n))/\Below W.heap.size W w':=by
    intro W g hB;have hr:Rd W W.heap.size (some ⟨g,0,none⟩) (bvs (dig (BT n))):=.inr ⟨g,0,rfl,hB.lt,fun i u hu=>by
      rw[Nat.zero_add,hB.cell i];simpa using hu⟩
    have M:=LD W 25 W.heap.size _ _ _ (dig (BT n)).length rfl hr Ae;have X:=Hg n;have h:=CY 2 [dig (BT n)] (some ⟨W.heap.size,0,none⟩) 1 1 (W.heap.size+1) _ M rfl (by simp) (by simp;omega) (by simp);have e:[dig (BT n)].flatten=dig (BT n):=by simp
    rw[e] at h;refine h.mono ?_;rintro e w' ⟨v,rfl,E,D⟩;exact⟨v,rfl,E.mono (by simp),(Below.refl W.heap.size W).alloc Ae _ |>.trans (D.mono (by simp))⟩
  have Y:=I O;have Z:=I hw;clear O hw;go_enter Tryz.func176,Tryz.ntmps176
  go_wp2_with (first
    |(go_at_call 200;refine(Y.o _).mono ?_;rintro e w1 ⟨g,rfl,hg,hB,D⟩)
    |(go_at_call 174;refine(Z.o _ _ hB).mono ?_;rintro e w2 ⟨v,rfl,E,F⟩))
  go_ret;exact⟨_,rfl,E.mono D.size,D.trans (F.mono D.size)⟩
theorem Fq (l : L) (w : World) (O : l.length <= 65535) :
    Calls Tryz.prog 199 #[.string ⟨l.toArray⟩] w fun e w'=>
      ∃v,e=.returned v/\w'.ownsRow w.heap.size 5 1 v (elem 27 l).length (bvs (elem 27 l))/\Below w.heap.size w w':=by
  have Y:=fun(W:World)=>Lib.run_convert_string_bytes (P:=Tryz.prog) W 9 25 5 ⟨l.toArray⟩ Tryz.underlying9 Tryz.underlying25 Tryz.underlying5
  have hw : ∀ (W : World) (c : Nat), Calls Tryz.prog 174 #[.int .u8 27, .slice (some ⟨W.heap.size + 1, 0, none⟩) 1 1] ((Lib.bytesWorld W 5 ⟨l.toArray⟩).alloc (.cells #[.slice (some ⟨W.heap.size, 0, none⟩) l.length c] 25)) fun e w' =>
      ∃v,e=.returned v/\w'.ownsRow W.heap.size 5 1 v (elem 27 l).length (bvs (elem 27 l))/\Below W.heap.size W w':=by
    intro W c;have hs:=Lib.bytesWorld_size W 5 ⟨l.toArray⟩;have hr:=(FE W 5 l).rd;have F:=LD _ 25 _ _ _ l.length c rfl hr Ae;rw[hs] at F;have h:=CY 27 [l] (some ⟨W.heap.size+1,0,none⟩) 1 1 (W.heap.size+1+1) _ F rfl (by simp [hs]) (by simpa using O) (by simp);have e:[l].flatten=l:=by simp
    rw[e] at h;refine h.mono ?_;rintro e w' ⟨v,rfl,D,M⟩;refine⟨v,rfl,D.mono (by simp [hs];omega),?_⟩;exact((DS W _ _).alloc (by rw[hs];omega) _).trans (M.mono (by simp [hs];omega))
  have Z:=I hw;clear hw O;have X:=fun(W:World)=>Lib.bytesWorld_size W 5 ⟨l.toArray⟩
  go_enter Tryz.func199,Tryz.ntmps199
  go_wp2_with (go_at_call 174;refine(Z.o _ _).mono ?_;rintro e w2 ⟨v,rfl,D,E⟩)
  go_ret;exact⟨_,rfl,D,E⟩
end DerW
namespace DerK
open Go.RowKit Ad DerP
attribute [local go_sem] FT List.getElem_cons_zero List.getElem_cons_succ
theorem Ir {w:World} {base n:Nat} {t:TypeId} {v:Value} {l:L} (h:w.ownsRow base t 1 v n (bvs l)) (O:0<l.length) :
  ∃g cap,v=.slice (some ⟨g,0,none⟩) l.length cap/\base<=g/\l.length<=cap/\Rd w w.heap.size (some ⟨g,0,none⟩) (bvs l):=by
 have E:n=l.length:=by have:=h.1;rw[Ao] at this;omega
 subst E;rcases h.2 with⟨_,M⟩ | ⟨g,cap,cur,rfl,D,_,F,_⟩
 ·omega
 ·exact⟨g,cap,rfl,D,F,Rd.of_own h⟩
end DerK
namespace DerR
open Go.RowKit Ad DerP
def BS (w:World) (l:L) (e:Ending) (w':World):Prop:=
 (∃g cap,e=.returned (.slice (some ⟨g,0,none⟩) l.length cap)/\w.heap.size<=g/\l.length<=cap/\Rd w' w'.heap.size (some ⟨g,0,none⟩) (bvs l))/\Below w.heap.size w w'
theorem EI {w w':World} {v:Value} {n:Nat} {t:TypeId} {l:L} (h:w'.ownsRow w.heap.size t 1 v n (bvs l)) (E:0<l.length) (F:Below w.heap.size w w'):BS w l (.returned v) w':=by
 obtain⟨g,cap,rfl,M,D,O⟩:=DerK.Ir h E;exact⟨⟨g,cap,rfl,M,D,O⟩,F⟩
theorem Is (w:World) (t:TypeId) (cs:Array Value) (l:L) (h:cs.toList=bvs l) (n:Nat) (D:n=l.length):BS w l (.returned (.slice (some ⟨w.heap.size,0,none⟩) n n)) (w.alloc (.cells cs t)):=by
 subst D;refine⟨⟨_,_,rfl,Nat.le_refl _,Nat.le_refl _,?_⟩,Af.alloc Ae _⟩;have:=DerW.Hb w t cs l h _ rfl
 simpa using this
theorem MM (n:Nat) (h:n<=65535) (w:World):Calls Tryz.prog 130 #[.int .i64 (n:Int)] w (BS w (szL n)):=by
 by_cases h1:n<128
 ·have M:decide ((n:Int)<128)=true:=by simp;omega
  have E:=I (show szL n = [UInt8.ofNat n] by simp [szL,h1]);have D:=I (DerW.Gk n (by omega));have F:(n:Int)<=127:=by omega
  clear h h1;go_enter Tryz.func130,Tryz.ntmps130
  go_wp2
  go_ret;rw[E.o];exact Is w 5 _ _ (by simp [bvs,D.o]) _ rfl
 ·have M:decide ((n:Int)<128)=false:=by simp;omega
  by_cases h2:n<=255
  ·have O:decide ((n:Int)<256)=true:=by simp;omega
   have E:=I (show szL n = [129,UInt8.ofNat n] by simp [szL,h1,h2]);have D:=I (DerW.Gk n (by omega));have F:(n:Int)<=255:=by omega
   clear h h1 h2;go_enter Tryz.func130,Tryz.ntmps130
   go_wp2
   go_ret;rw[E.o];exact Is w 5 _ _ (by simp [bvs,D.o];rfl) _ rfl
  ·have O:decide ((n:Int)<256)=false:=by simp;omega
   have E:=I (show szL n = [130,UInt8.ofNat (n / 256),UInt8.ofNat n] by simp [szL,h1,h2]);have D:=I (show bvs [130,UInt8.ofNat (n / 256),UInt8.ofNat n] = [.int .u8 130,.int .u8 ((n:Int) / 256),.int .u8 ((n:Int) % 256)] by simp [bvs,bv];omega);have F:(n:Int)<=65535:=by omega
   clear h h1 h2;go_enter Tryz.func130,Tryz.ntmps130
   go_wp2
   go_ret;rw[E.o];exact Is w 5 _ _ (by rw[D.o]) _ rfl
theorem Xt (n:Nat):(szL n).length<=3:=by rw[BZ];split<;>(try split)<;>omega
theorem DZ (t : UInt8) (p : L) (A : Option Addr) (n c B : Nat) (w : World) (hr : Rd w B A (bvs p)) (hn : n = p.length) (hB : B <= w.heap.size) (hp : p.length <= 65535) :
    Calls Tryz.prog 85 #[.int .u8 t.toNat,.slice A n c] w (BS w (elem t p)):=by
  obtain⟨i0,ab,ai,ak,af⟩:=info_parts DerW.BP;have Z:∀W:World,Calls Tryz.prog 130 #[.int .i64 (n:Int)] W (BS W (szL n)):=fun W=>MM n (by omega) W
  have HS:=I Z;have HR:=I hr;have HN:=I hn;have HP:=I hp;have h3:=I (Xt n);have ad:=I DerW.ml;have X:Hid ((w.alloc (.cells #[.int .u8 (t.toNat:Int)] 5)).ownsRow w.heap.size 5 1 (.slice (some ⟨w.heap.size,0,none⟩) 1 1) 1 (bvs [t])):=World.ownsRow_lit w #[.int .u8 (t.toNat:Int)] 1 Ae (DerW.ml 1 (by omega)) rfl;clear Z hr hn hp;go_enter Tryz.func85,Tryz.ntmps85
  go_wp2_with (first
    | (go_at_call 130; refine (HS.o _).mono ?_; rintro e w1 ⟨⟨g1, c1, rfl, av, aw, O⟩, aa⟩
       have Y:Below w.heap.size w w1:=((Below.refl w.heap.size w).alloc Ae _).trans (aa.mono (by simp));have ah:=I (Cs X.o aa);have au:=I O;clear O)
    | (at_builtin
       refine Av _ rfl (.tmp 6) (.tmp 9) 25 rfl w.heap.size 5 i0 _ 1 Tryz.underlying25 ab ai ak af rfl (.slice (some ⟨w.heap.size,0,none⟩) 1 1) 1 (bvs [t]) rfl ah.o w1.heap.size _ (szL n).length c1 (bvs (szL n)) rfl (Ao _).symm au.o (Bz _) (ad.o _ (by have:=h3.o;omega)) (by have:=h3.o;omega) Y.size ?_;intro v2 w2 E ao ag;have F:=Y.grown ao Y.size (fun k hk=>(ah.o.lt k hk).1);have aj:=I E;clear E ag)
    | (at_builtin
       refine Av _ rfl (.tmp 10) (.tmp 11) 25 rfl w.heap.size 5 i0 _ 1 Tryz.underlying25 ab ai ak af rfl v2 (1+(szL n).length) (bvs [t]++bvs (szL n)) rfl aj.o B A n c (bvs p) rfl (by rw[Ao];exact HN.o) (HR.o.below (F.mono hB)) (Bz _) (ad.o _ (by have:=h3.o;have:=HN.o;have:=HP.o;omega)) (by have:=h3.o;have:=HN.o;have:=HP.o;omega) F.size ?_;intro v3 w3 D ar ae;have an:=F.grown ar F.size (fun k hk=>(aj.o.lt k hk).1);have al:=I D;clear D ae))
  go_ret;have M:=al.o;rw[HN.o,<-Bw,<-Bw,show [t]++szL p.length++p=elem t p from rfl] at M;exact EI M (by rw[CN];omega) an
theorem CU (p:L) (A:Option Addr) (n c B:Nat) (w:World) (Y:Rd w B A (bvs p)) (X:n=p.length) (hB:B<=w.heap.size) (O:p.length<=65535) :
  Calls Tryz.prog 77 #[.slice A n c] w (BS w (elem 4 p)):=by
 have H:=I (DZ 4 p A n c B w Y X hB O);clear Y X hB O;go_enter Tryz.func77,Tryz.ntmps77
 go_wp2_with (go_at_call 85;refine(Calls.mono H.o ?_);rintro e w1 ⟨⟨Z,c1,rfl,F,M,D⟩,E⟩)
 go_ret;exact⟨⟨Z,c1,rfl,F,M,D⟩,E⟩
theorem Fq (l:L) (w:World) (X:l.length<=65535) :
  Calls Tryz.prog 129 #[.string ⟨l.toArray⟩] w (BS w (elem 27 l)):=by
 have Z:=fun(W:World)=>Lib.run_convert_string_bytes (P:=Tryz.prog) W 9 25 5 ⟨l.toArray⟩ Tryz.underlying9 Tryz.underlying25 Tryz.underlying5
 have he:∀(c:Nat),Calls Tryz.prog 85 #[.int .u8 27,.slice (some ⟨w.heap.size,0,none⟩) l.length c] (Lib.bytesWorld w 5 ⟨l.toArray⟩) (BS (Lib.bytesWorld w 5 ⟨l.toArray⟩) (elem 27 l)):=
  fun c=>DZ 27 l _ _ c _ _ (FE w 5 l).rd rfl Ae X
 have Y:=I he;have O:=I (DS w 5 ⟨l.toArray⟩);clear he X;go_enter Tryz.func129,Tryz.ntmps129
 go_wp2_with (go_at_call 85;refine(Calls.mono (Y.o _) ?_);rintro e w1 ⟨⟨g1,c1,rfl,F,M,D⟩,E⟩)
 go_ret;exact⟨⟨g1,c1,rfl,Nat.le_trans O.o.size F,M,D⟩,bt O.o E⟩
theorem Kw (j m:Nat):digK (j+1) m=UInt8.ofNat (m / 256 ^ j) :: digK j m:=by
 induction j generalizing m with
 |zero=>simp [digK]
 |succ j ih=>
  rw[digK,ih (m / 256)];rw[Nat.div_div_eq_div_mul,Nat.mul_comm,<-Nat.pow_succ]
  rfl
theorem Qn (m j:Nat) (hm:m<=4611686018427387904) (hj:1<=j) (M:j=1\/256 ^ (j - 1)<=m) (F:m / 256 ^ (j - 1)<128):dig m=digK j m:=by
 have O:0<256 ^ (j - 1):=Nat.pow_pos (by omega);have E:m<128*256 ^ (j - 1):=by rw[Nat.div_lt_iff_lt_mul O] at F;exact F
 have Y:j<=8:=by
  rcases Nat.lt_or_ge 8 j with g | g
  ·exfalso
   rcases M with h | h
   ·omega
   ·have:256 ^ 8<=256 ^ (j - 1):=Nat.pow_le_pow_right (by omega) (by omega)
    have e:(256:Nat) ^ 8=18446744073709551616:=by decide
    omega
  ·exact g
 have D:m<2 ^ (8*(j - 1)+7):=by
  rw[Nat.pow_add,<-Fz,Nat.mul_comm];simpa using E
 have Z:=Da m _ (by omega) D;have hk:Lib.bitLen m / 8+1=j:=by
  rcases M with h | h
  ·omega
  ·have X:2 ^ (8*(j - 1))<=m:=by rw[<-Fz];exact h
   have:=Ei m (by omega) _ X;omega
 rw[dig,hk]
theorem NU (m j:Nat) (hm:m<=4611686018427387904) (hj:1<=j) (Y:m / 256 ^ j=0) (O:128<=m / 256 ^ (j - 1)):dig m=0 :: digK j m:=by
 have X:0<256 ^ (j - 1):=Nat.pow_pos (by omega);have E:128*256 ^ (j - 1)<=m:=by rw[Nat.le_div_iff_mul_le X] at O;exact O
 have F:0<256 ^ j:=Nat.pow_pos (by omega);have M:m<256 ^ j:=by
  rcases Nat.lt_or_ge m (256 ^ j) with g | g
  ·exact g
  ·have:=Nat.div_pos g F;omega
 have D:2 ^ (8*(j - 1)+7)<=m:=by
  rw[Nat.pow_add,<-Fz,Nat.mul_comm];simpa using E
 have h3:=Ei m (by omega) _ D;have Z:=FO m hm;have h4:=Da m (8*j) (by omega) (by rw[<-Fz];exact M);have hk:Lib.bitLen m / 8+1=j+1:=by omega
 rw[dig,hk,Kw,Y]
 rfl
theorem FL (m j:Nat) (F:1<=j) (M:m / 256 ^ j=0):m / 256 ^ (j - 1)<256:=by
 have E:0<256 ^ (j - 1):=Nat.pow_pos (by omega);have D:0<256 ^ j:=Nat.pow_pos (by omega);rw[Nat.div_lt_iff_lt_mul E,Nat.mul_comm,<-Nat.pow_succ,show(j - 1).succ=j by omega];rcases Nat.lt_or_ge m (256 ^ j) with g | g
 ·exact g
 ·have:=Nat.div_pos g D;omega
theorem NV {w:World} {g j m:Nat} (O:1<=j) (E:m / 256 ^ j=0) (h:Rd w w.heap.size (some ⟨g,0,none⟩) (bvs (digK j m))):w.cell? ⟨g,0,none⟩=some (.int .u8 ((m / 256 ^ (j - 1):Nat):Int)):=by
 have M:=Ox j m 0 (by omega);obtain⟨b,o,e,_,D⟩:=h.at_ (i:=0) (u:=bv (UInt8.ofNat (m / 256 ^ (j - 1)))) (by simp only[bvs,List.getElem?_map,M];rfl);injection e with e;injection e with e1 e2;subst e1 e2;have F:=FL m j O E;rw[show(0+0:Nat)=0 from rfl] at D;rw[D,DerW.Gk _ F]
def Left (m:Nat) (W:World) (n p:Value) (w:World):Prop:=
 ∃j g cap,1<=j/\(j=1\/256 ^ (j - 1)<=m)/\j<=9/\n=.int .i64 ((m / 256 ^ j:Nat):Int)/\p=.slice (some ⟨g,0,none⟩) j cap/\Rd w w.heap.size (some ⟨g,0,none⟩) (bvs (digK j m))/\Below W.heap.size W w
theorem BB (n : Int) (w : World) :
    Calls Tryz.prog 75 #[.int .i64 n] w (BS w (encI n)):=by
  obtain⟨i0,ax,aB,az,ay⟩:=info_parts DerW.BP;have aC:=IM n;have hm:=Eh n;have E:Hid (encI n=elem 2 (dig (BT n))):=rfl;generalize BT n=m at *;have HM:=I hm;have aJ:(m:Int)<=4611686018427387904:=by omega
  have aw:=I DerW.ml;have aj:=I (show [Value.int .u8 ((m:Int) % 256)]=bvs (digK 1 m) by simp [bvs,bv,digK]);have aG:=aC.symm;clear aC hm;go_enter Tryz.func75,Tryz.ntmps75
  go_wp2
  go_loopw [0,3] (fun nv p wr=>Left m w nv p wr) (fun nv _ _=>(intOf nv).toNat)
  case atStart=>
    refine⟨1,w.heap.size,1,Nat.le_refl _,.inl rfl,by omega,by simp,rfl,?_,Af.alloc Ae _⟩;have:=DerW.Hb w 5 #[Value.int .u8 ((m:Int) % 256)] (digK 1 m) aj.o _ rfl
    simpa using this
  case round=>
    obtain⟨j,g,cap,M,aa,aM,rfl,rfl,Y,F⟩:=hrel
    by_cases h0:m / 256 ^ j=0
    · have aD := NV M h0 Y
      have hf:=FL m j M h0;have af:=I Y;have HJ:=I M;have aL:=I aa;have H0:=I h0;rw[h0];have HN:=I (FL m j M h0)
      by_cases h128:m / 256 ^ (j - 1)<128
      · have G := I (Qn m j HM.o M aa h128)
        have he:∀W:World,Rd W W.heap.size (some ⟨g,0,none⟩) (bvs (digK j m))->Calls Tryz.prog 85 #[.int .u8 2,.slice (some ⟨g,0,none⟩) j cap] W (BS W (elem 2 (digK j m))):=
          fun W hW=>DZ 2 (digK j m) _ j cap _ W hW (Bb j m).symm Ae (by rw[Bb];omega)
        have ai:=I he;have g5:decide ((128:Int)<=((m / 256 ^ (j - 1):Nat):Int))=false:=by simp only[decide_eq_false_iff_not];omega
        clear he Y hf h128 M aa h0;generalize m / 256 ^ (j - 1)=a at *;have aA:(j:Int)<=9:=by omega
        have av:0<j:=HJ.o
        go_wp2_with (go_at_call 85;refine(Calls.mono (ai.o _ af.o) ?_);rintro e w1 ⟨⟨g1,c1,rfl,ah,ao,ab⟩,ak⟩)
        go_ret;rw[E.o,G.o];exact⟨⟨g1,c1,rfl,Nat.le_trans F.size ah,ao,ab⟩,bt F ak⟩
      · have G := I (NU m j HM.o M h0 (by omega))
        have he:∀(W:World) (Z c':Nat),Rd W W.heap.size (some ⟨Z,0,none⟩) (bvs (0 :: digK j m))->Calls Tryz.prog 85 #[.int .u8 2,.slice (some ⟨Z,0,none⟩) (0 :: digK j m).length c'] W (BS W (elem 2 (0 :: digK j m))):=
          fun W Z c' hW=>DZ 2 (0 :: digK j m) _ _ c' _ W hW rfl Ae (by simp only[List.length_cons,Bb];omega)
        have ai:=I he;have g5:decide ((128:Int)<=((m / 256 ^ (j - 1):Nat):Int))=true:=by simp only[decide_eq_true_eq];omega
        have O:Hid ((wr.alloc (.cells #[.int .u8 0] 5)).ownsRow wr.heap.size 5 1 (.slice (some ⟨wr.heap.size,0,none⟩) 1 1) 1 (bvs [0])):=World.ownsRow_lit wr #[.int .u8 0] 1 Ae (DerW.ml 1 (by omega)) rfl;clear he Y hf h128 M aa h0;generalize m / 256 ^ (j - 1)=a at *;have aA:(j:Int)<=9:=by omega
        have av:0<j:=HJ.o
        go_wp2_with (first
          | (at_builtin
             refine Av _ rfl (.tmp 25) (.tmp 26) 25 rfl wr.heap.size 5 i0 _ 1 Tryz.underlying25 ax aB az ay rfl (.slice (some ⟨wr.heap.size,0,none⟩) 1 1) 1 (bvs [0]) rfl O.o wr.heap.size (some ⟨g,0,none⟩) j cap (bvs (digK j m)) rfl (by rw[Ao,Bb]) (af.o.alloc Ae _) (Bz _) (aw.o _ (by omega)) (by omega) (by simp) ?_;intro v2 w2 D ar ae;rw[<-Bw,List.singleton_append] at D;obtain⟨g3,ag,rfl,aF,al,ad⟩:=DerK.Ir D (by simp);have X:Below wr.heap.size wr w2:=((Below.refl wr.heap.size wr).alloc Ae _).grown ar (by simp) (fun k hk=>by simp [Value.ownBlock] at hk;omega);clear D ae)
          |(go_at_call 85;refine(Calls.mono (ai.o _ _ _ ad) ?_);rintro e w1 ⟨⟨g1,c1,rfl,ah,ao,ab⟩,ak⟩))
        go_ret;rw[E.o,G.o];exact⟨⟨g1,c1,rfl,Nat.le_trans (Nat.le_trans F.size X.size) ah,ao,ab⟩,bt (bt F X) ak⟩
    · have hle : 256 ^ j <= m := by
        have aH:0<256 ^ j:=Nat.pow_pos (by omega);rcases Nat.lt_or_ge m (256 ^ j) with Z | Z
        · exact absurd (Nat.div_eq_of_lt Z) h0
        · exact Z
      have aI:j<8:=by
        rcases Nat.lt_or_ge j 8 with Z | Z
        · exact Z
        · exfalso
          have:256 ^ 8<=256 ^ j:=Nat.pow_le_pow_right (by omega) Z;have e:(256:Nat) ^ 8=18446744073709551616:=by decide
          have:=HM.o;omega
      have an:=I (show m / 256 ^ j / 256=m / 256 ^ (j+1) by rw[Nat.div_div_eq_div_mul,<-Nat.pow_succ]);have au:=I (Kw j m);have hy:m / 256 ^ j<=m:=Nat.div_le_self _ _;have af:=I Y;have aE:=I hle;clear Y hle aa;generalize m / 256 ^ j=y at *;have g6:decide ((0:Int)<(y:Int))=true:=by simp;omega
      have aK:(y:Int)<=4611686018427387904:=by omega
      have O:Hid ((wr.alloc (.cells #[.int .u8 ((y:Int) % 256)] 5)).ownsRow wr.heap.size 5 1 (.slice (some ⟨wr.heap.size,0,none⟩) 1 1) 1 (bvs [UInt8.ofNat y])):=by
        have:=World.ownsRow_lit (base:=wr.heap.size) (e:=5) (size:=1) wr #[.int .u8 ((y:Int) % 256)] 1 Ae (DerW.ml 1 (by omega)) rfl;rw[show(#[Value.int .u8 ((y:Int) % 256)]:Array Value).toList=bvs [UInt8.ofNat y] by simp [bvs,bv]] at this;exact this
      have HY:=I (show 0<y by omega);clear h0 hy
      go_wp2_with (at_builtin
                   refine Av _ rfl (.tmp 18) (.tmp 19) 25 rfl wr.heap.size 5 i0 _ 1 Tryz.underlying25 ax aB az ay rfl (.slice (some ⟨wr.heap.size,0,none⟩) 1 1) 1 (bvs [UInt8.ofNat y]) rfl O.o wr.heap.size (some ⟨g,0,none⟩) j cap (bvs (digK j m)) rfl (by rw[Ao,Bb]) (af.o.alloc Ae _) (Bz _) (aw.o _ (by omega)) (by omega) (by simp) ?_;intro v2 w2 D ar ae;rw[<-Bw,List.singleton_append,<-au.o] at D;obtain⟨g3,ag,rfl,aF,al,ad⟩:=DerK.Ir D (by rw[Bb];omega);rw[Bb];have X:Below wr.heap.size wr w2:=((Below.refl wr.heap.size wr).alloc Ae _).grown ar (by simp) (fun k hk=>by simp [Value.ownBlock] at hk;omega);clear D ae)
      refine⟨⟨j+1,g3,ag,by omega,.inr (by simpa using aE.o),by omega,?_,rfl,ad,bt F X⟩,?_⟩
      · rw [<- an.o]; rfl
      · have := HY.o; simp [intOf]; omega
theorem LF {w:World} {base n:Nat} {t:TypeId} {v:Value} {l:L} (h:w.ownsRow base t 1 v n (bvs l)) :
  ∃A cap,v=.slice A l.length cap/\Rd w w.heap.size A (bvs l):=by
 have E:n=l.length:=by have:=h.1;rw[Ao] at this;omega
 subst E;rcases h.2 with⟨F,D⟩ | ⟨g,cap,cur,rfl,M,_,O,_⟩
 ·subst F
  have:l = []:=List.eq_nil_of_length_eq_zero D;subst this;exact⟨none,0,rfl,.inl rfl⟩
 ·exact⟨_,cap,rfl,Rd.of_own h⟩
def EJ (ls:List L) (k:Nat):L:=(ls.take k).flatten
theorem LG (ls:List L) (k:Nat) (l:L) (h:ls[k]? = some l):EJ ls (k+1)=EJ ls k++l:=DerW.Iq ls k l h
theorem Qo (ls:List L) (k:Nat):(EJ ls k).length<=ls.flatten.length:=DerW.Ij ls k
theorem NW (ls:List L):EJ ls ls.length=ls.flatten:=by rw[EJ,List.take_of_length_le Ae]
theorem CY (t : UInt8) (ls : List L) (A : Option Addr) (m c B : Nat) (w : World) (hr : DerW.Rds w B A ls) (hm : m = ls.length) (hB : B <= w.heap.size) (hl : ls.flatten.length <= 65535) (hc : ls.length <= 1000000) :
    Calls Tryz.prog 73 #[.int .u8 t.toNat,.slice A m c] w (BS w (elem t ls.flatten)):=by
  obtain⟨i0,ai,al,an,ak⟩:=info_parts DerW.BP;have HR:=I hr;have af:=I (fun k=>Nat.le_trans (Qo ls k) hl);have aj:=I (NW ls);have ah:=I DerW.ml;have aw:(m:Int)<=1000000:=by omega
  have HM:=I hm;have HL:=I hl;have ag:=I (World.ownsRow_nil w w.heap.size 5 1);clear hr hm hc hl;go_enter Tryz.func73,Tryz.ntmps73
  go_wp2
  go_loopw [5,6] (fun v i wr=>∃k:Nat,k<=m/\i=.int .i64 (k:Int)/\wr.ownsRow w.heap.size 5 1 v (EJ ls k).length (bvs (EJ ls k))/\Below w.heap.size w wr) (fun _ i _=>m - (intOf i).toNat)
  case atStart=>exact⟨0,by omega,rfl,ag.o,Below.refl _ _⟩
  case round=>
    obtain⟨k,hk,rfl,E,D⟩:=hrel
    by_cases hlt:k<m
    · obtain ⟨l, hx⟩ : ∃ l, ls[k]? = some l := ⟨_, List.getElem?_eq_getElem (by have := HM.o; omega)⟩
      obtain⟨b,o,rfl,hb,A',c',ae,Y⟩:=(HR.o.below (D.mono hB)).at_ hx;have hs:=LG ls k l hx;have ad:=af.o (k+1);have O:=congrArg List.length hs;rw[List.length_append] at O;have HS:=I hs;have av:(EJ ls k).length+l.length<=65535:=by omega
      have HO:=I E;have HQ:=I Y;clear hs O hx ad E Y
      go_wp2_with (at_builtin
                   refine Av _ rfl (.tmp 13) (.tmp 17) 25 rfl w.heap.size 5 i0 _ 1 Tryz.underlying25 ai al an ak rfl _ (EJ ls k).length (bvs (EJ ls k)) rfl HO.o B A' l.length c' (bvs l) rfl (Ao l).symm HQ.o (Bz _) (ah.o _ (by omega)) (by omega) D.size ?_;intro v2 w2 M ar au)
      refine⟨⟨k+1,by omega,by go_num,?_,D.grown ar D.size (fun i hi=>(HO.o.lt i hi).1)⟩,by simp [intOf];omega⟩;rw[HS.o,Bw,List.length_append];exact M
    · obtain rfl : k = m := by omega
      have e:EJ ls k=ls.flatten:=by rw[HM.o];exact aj.o
      rw[e] at E;obtain⟨A2,X,rfl,F⟩:=LF E;have HQ:=I F;have HE:=I (DZ t ls.flatten A2 ls.flatten.length X _ wr F rfl Ae HL.o);clear hk hlt e E F;generalize ls.flatten.length=q at *
      go_wp2_with (go_at_call 85;refine(Calls.mono HE.o ?_);rintro e w1 ⟨⟨g1,c1,rfl,ab,ao,Z⟩,aa⟩)
      go_ret;exact⟨⟨g1,c1,rfl,Nat.le_trans D.size ab,ao,Z⟩,bt D aa⟩
def cutA (A:Option Addr) (c k:Nat):Option Addr:=if c=k then A else A.map (·.add k)
theorem EP {P:Program} {t e:TypeId} (E:P.underlying t=some (.slice e)) (F:∀w:World,(sizeOf e).run P w=.ok 1 w) (A:Option Addr) (n c k:Nat) (K:Int) (D:K=(k:Int)) (hk:k<=n) (w:World) :
  (Instr.slice t (.slice A n c) (some (.int .i64 K)) none none).run P w=.ok (.slice (cutA A c k) (n - k) (c - k)) w:=by
 subst D;simp [Instr.slice,run_underlying E,Instr.sliceBounds,run_sliceBound,F,cutA,Result.andThen,(by omega:(k:Int)<=(n:Int))]
theorem FM {P:Program} {t e:TypeId} (E:P.underlying t=some (.slice e)) (Y:∀w:World,(sizeOf e).run P w=.ok 1 w) (A:Option Addr) (n c k m:Nat) (K M:Int) (X:K=(k:Int)) (F:M=(k:Int)+(m:Int)) (hm:k+m<=c) (w:World) :
  (Instr.slice t (.slice A n c) (some (.int .i64 K)) (some (.int .i64 M)) none).run P w=.ok (.slice (cutA A c k) m (c - k)) w:=by
 subst X F;have he:P.elem t=e:=by simp [Program.elem,E]
 have D:P.underlying t=some (.slice (P.elem t)):=by rw[he];exact E
 rw[run_slice_lh w t A n c D .i64 .i64 (k:Int) ((k:Int)+(m:Int)) (by omega) (by omega) (by omega),he,Y];simp only[Result.andThen,sliced,Nat.mul_one,cutA,Int.toNat_natCast];have O:((k:Int)+(m:Int)).toNat - k=m:=by omega
 rw[O]
theorem Uh {w:World} {B:Nat} {A:Option Addr} {l:L} {c:Nat} (h:Rd w B A (bvs l)) (k:Nat) (M:l.length<=c):Rd w B (cutA A c k) (bvs (l.drop k)):=by
 unfold cutA
 by_cases hc:c=k
 ·rw[if_pos hc,List.drop_of_length_le (by omega)]
  exact .inl rfl
 ·rw[if_neg hc]
  rcases h with h | ⟨b,o,E,D,F⟩
  ·have:l = []:=List.map_eq_nil_iff.1 h
   subst this;exact .inl (by simp [bvs])
  ·subst E
   refine .inr ⟨b,o+k,by simp [addr_add],D,fun i u hu=>?_⟩;rw[Nat.add_assoc];refine F (k+i) u ?_;rw[<-hu];simp [bvs,List.getElem?_map,List.getElem?_drop]
theorem Vy {w:World} {B:Nat} {A:Option Addr} {l:L} (h:Rd w B A (bvs l)) (m:Nat):Rd w B A (bvs (l.take m)):=by
 rcases h with h | ⟨b,o,E,D,F⟩
 ·have:l = []:=List.map_eq_nil_iff.1 h
  subst this;exact .inl (by simp [bvs])
 ·refine .inr ⟨b,o,E,D,fun i u hu=>F i u ?_⟩
  by_cases hi:i<m
  ·rw[<-hu];simp only[bvs,List.getElem?_map,List.getElem?_take,if_pos hi]
  ·rw[List.getElem?_eq_none (by rw[Ao,List.length_take];omega)] at hu;cases hu
def RS (w:World) (B:Nat) (A:Option Addr) (n cap:Nat) (e:Bool):Option L->Prop
 |none=>e=true
 |some l=>e=false/\n=l.length/\n<=cap/\Rd w B A (bvs l)
def RC (w:World) (B g:Nat) (c:Option L):Prop:=∃A n cap e,Blk w g 115 #[.slice A n cap,.bool e]/\RS w B A n cap e c
theorem RC.keep {w w':World} {B g:Nat} {c:Option L} (h:RC w B g c) {row:Option Nat} (F:w.grownBy w' row) (E:row≠some g) (hB:B<=w.heap.size) (O:∀k,row=some k->B<=k):RC w' B g c:=by
 obtain⟨A,n,cap,e,M,D⟩:=h;refine⟨A,n,cap,e,M.grown F E,?_⟩;cases c with
 |none=>exact D
 |some l=>exact⟨D.1,D.2.1,D.2.2.1,D.2.2.2.grown F hB O⟩
def Took (w:World) (B g:Nat) (t:UInt8) (c:Option L) (e:Ending) (w':World):Prop:=
 (∃A' cap',e=.returned (.slice A' ((Ar t c).getD []).length cap')/\((Ar t c).getD []).length<=cap'/\Rd w' B A' (bvs ((Ar t c).getD [])))/\RC w' B g (AK t c)/\w.grownBy w' (some g)
theorem Cb {w:World} {B g:Nat} {t:UInt8} {c:Option L} {A:Option Addr} {n cap:Nat} {e:Bool} (F:Blk w g 115 #[.slice A n cap,.bool e]) (h:Ar t c=none) {w0:World} (D:w0.grownBy w (some g)) :
  Took w0 B g t c (.returned (.slice none 0 0)) (w.setCell ⟨g,1,none⟩ (.bool true)):=by
 have E:=FR t c h;unfold Took;rw[h,E];exact⟨⟨none,0,rfl,Nat.le_refl _,.inl rfl⟩,⟨A,n,cap,true,F.set 1 (.bool true),rfl⟩,Ay D (.inl rfl) _⟩
theorem NY (t:UInt8) (B g:Nat) (w:World) (h:RC w B g none) :
  Calls Tryz.prog 82 #[.pointer (some ⟨g,0,none⟩),.int .u8 t.toNat] w (Took w B g t none):=by
 obtain⟨A,n,cap,e,D,he⟩:=h;obtain rfl:e=true:=he;have O:w.cell? ⟨g,0,none⟩=some (.slice A n cap):=D.cell 0;have F:w.cell? ⟨g,1,none⟩=some (.bool true):=D.cell 1;have M:=D.frozen 1;have E:=I D;clear D;go_enter Tryz.func82,Tryz.ntmps82
 go_wp2
 go_ret;exact Cb E.o rfl (World.grownBy.refl _ _)
theorem Iu (t:UInt8) (B g:Nat) (A:Option Addr) (cap:Nat) (l:L) (w:World) (D:Blk w g 115 #[.slice A l.length cap,.bool false]) (F:l.length<2) :
  Calls Tryz.prog 82 #[.pointer (some ⟨g,0,none⟩),.int .u8 t.toNat] w (Took w B g t (some l)):=by
 have Z:w.cell? ⟨g,0,none⟩=some (.slice A l.length cap):=D.cell 0;have O:w.cell? ⟨g,1,none⟩=some (.bool false):=D.cell 1;have X:=D.frozen 1;have M:=I D;have Y:decide ((l.length:Int)<2)=true:=by simp only[decide_eq_true_eq];omega
 have E:=I (show Ar t (some l)=none by
  refine(Bk ?_).1;rcases l with _ | ⟨a,_ | ⟨b,r⟩⟩
  ·rfl
  ·simp [Be,lenR]
  ·simp at F;omega)
 clear D F;go_enter Tryz.func82,Tryz.ntmps82
 go_wp2
 go_ret;exact Cb M.o E.o (World.grownBy.refl _ _)
end DerR
end Go.Proofs.YtcpccikongbopaaGreat
