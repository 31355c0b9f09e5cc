import Derived.Test.YthgignaohimadaaGreatZKdcRoutes1
set_option maxHeartbeats 25600000
set_option maxRecDepth 100000
set_option linter.unusedVariables false
set_option linter.unusedSimpArgs false
namespace Go.Proofs.YthgignaohimadaaGreat
namespace Si
open Go.RowKit Af
abbrev Wd:=BitVec 64
def rot (v:Wd) (s:Nat):Wd:=(v <<< s) ||| (v >>> (64 - s))
abbrev wv (v:Wd):Value:=.int .u64 (v.toNat:Int)
def wd (n:Nat):Wd:=BitVec.ofNat 64 n
theorem Gu (v:Wd):v.toNat<18446744073709551616:=v.isLt
theorem KF (n:Nat) (h:n<18446744073709551616):(wd n).toNat=n:=by
 rw[wd,BitVec.toNat_ofNat];exact Nat.mod_eq_of_lt h
theorem BB (x y:Wd):bits .xor .u64 (x.toNat:Int) (y.toNat:Int)=((x ^^^ y).toNat:Int):=by
 rw[u64_xor_nat _ _ x.isLt y.isLt,BitVec.toNat_xor]
theorem Gf (x y:Wd):((x.toNat:Int)+(y.toNat:Int)) % 18446744073709551616=((x+y).toNat:Int):=by
 rw[BitVec.toNat_add];omega
theorem Iz (x y:Wd):IntKind.u64.wrap ((x.toNat:Int)+(y.toNat:Int))=((x+y).toNat:Int):=by
 rw[IntKind.wrap_u64,Gf]
theorem Lu (v:Wd) (s:Nat):(rot v s).toNat=(v.toNat*2 ^ s % 18446744073709551616) ||| (v.toNat / 2 ^ (64 - s)):=by
 simp [rot,BitVec.toNat_or,BitVec.toNat_shiftLeft,BitVec.toNat_ushiftRight,Nat.shiftLeft_eq,Nat.shiftRight_eq_div_pow]
theorem Ix (v:Wd) (a b:Nat) (s:Nat) (E:a=v.toNat*2 ^ s % 18446744073709551616) (D:b=v.toNat / 2 ^ (64 - s)):bits .or .u64 (a:Int) (b:Int)=((rot v s).toNat:Int):=by
 rw[u64_or_nat a b (by omega) (by have:=Gu v;have:=Nat.div_le_self v.toNat (2 ^ (64 - s));omega),Lu,E,D]
theorem or13 (v:Wd):bits .or .u64 ((v.toNat:Int)*8192 % 18446744073709551616) ((v.toNat:Int) / 2251799813685248)=((rot v 13).toNat:Int):=Ix v _ _ 13 rfl rfl
theorem or32 (v:Wd):bits .or .u64 ((v.toNat:Int)*4294967296 % 18446744073709551616) ((v.toNat:Int) / 4294967296)=((rot v 32).toNat:Int):=Ix v _ _ 32 rfl rfl
theorem or16 (v:Wd):bits .or .u64 ((v.toNat:Int)*65536 % 18446744073709551616) ((v.toNat:Int) / 281474976710656)=((rot v 16).toNat:Int):=Ix v _ _ 16 rfl rfl
theorem or21 (v:Wd):bits .or .u64 ((v.toNat:Int)*2097152 % 18446744073709551616) ((v.toNat:Int) / 8796093022208)=((rot v 21).toNat:Int):=Ix v _ _ 21 rfl rfl
theorem or17 (v:Wd):bits .or .u64 ((v.toNat:Int)*131072 % 18446744073709551616) ((v.toNat:Int) / 140737488355328)=((rot v 17).toNat:Int):=Ix v _ _ 17 rfl rfl
def BO:List UInt8->Nat
 | []=>0
 |b :: l=>b.toNat+256*BO l
theorem Hb:∀l,BO l<256 ^ l.length
 | []=>by simp [BO]
 |b :: l=>by
  have h:=Hb l;have D:=b.toNat_lt;rw[BO,List.length_cons,Nat.pow_succ];omega
theorem Ib (b:UInt8):∀l,BO (l++[b])=BO l+b.toNat*256 ^ l.length
 | []=>by simp [BO]
 |c :: l=>by
  rw[List.cons_append,BO,Ib b l,BO,List.length_cons,Nat.pow_succ,Nat.mul_add,Nat.add_assoc]
  congr 2
  rw[Nat.mul_comm,Nat.mul_assoc]
theorem Ly {l:List UInt8} (h:l.length<=8):BO l<18446744073709551616:=
 Nat.lt_of_lt_of_le (Hb l) (Nat.pow_le_pow_right (by decide) h:256 ^ l.length<=256 ^ 8)
theorem TB {l:List UInt8} (h:l.length<=7):BO l<72057594037927936:=
 Nat.lt_of_lt_of_le (Hb l) (Nat.pow_le_pow_right (by decide) h:256 ^ l.length<=256 ^ 7)
structure V where
 a:Wd
 b:Wd
 c:Wd
 d:Wd
def rnd (s:V):V:=
 let a1:=s.a+s.b
 let b1:=rot s.b 13 ^^^ a1
 let a2:=rot a1 32
 let c1:=s.c+s.d
 let d1:=rot s.d 16 ^^^ c1
 let a3:=a2+d1
 let d2:=rot d1 21 ^^^ a3
 let c2:=c1+b1
 let b2:=rot b1 17 ^^^ c2
 let c3:=rot c2 32
 ⟨a3,b2,c3,d2⟩
def rnds:Nat->V->V
 |0,s=>s
 |n+1,s=>rnd (rnds n s)
def addM (s:V) (m:Wd):V:=⟨(rnds 2 ⟨s.a,s.b,s.c,s.d ^^^ m⟩).a ^^^ m,(rnds 2 ⟨s.a,s.b,s.c,s.d ^^^ m⟩).b,(rnds 2 ⟨s.a,s.b,s.c,s.d ^^^ m⟩).c,(rnds 2 ⟨s.a,s.b,s.c,s.d ^^^ m⟩).d⟩
def allX (s:V):Wd:=s.a ^^^ s.b ^^^ s.c ^^^ s.d
def fin (s:V):Wd:=allX (rnds 4 ⟨s.a,s.b,s.c ^^^ 255#64,s.d⟩)
def kA (ks:Nat->UInt8):Wd:=wd (BO ((List.range 8).map ks))
def kB (ks:Nat->UInt8):Wd:=wd (BO ((List.range 8).map fun i=>ks (8+i)))
def start (ks:Nat->UInt8):V:=⟨0x736f6d6570736575#64 ^^^ kA ks,0x646f72616e646f6d#64 ^^^ kB ks,0x6c7967656e657261#64 ^^^ kA ks,0x7465646279746573#64 ^^^ kB ks⟩
structure St where
 v:V
 r:Nat
 n:Nat
def addB (s:St) (b:UInt8):St:=
 if (s.n+1) % 8=0 then ⟨addM s.v (wd (s.r+b.toNat*256 ^ (s.n % 8))),0,s.n+1⟩ else ⟨s.v,s.r+b.toNat*256 ^ (s.n % 8),s.n+1⟩
theorem PG (s:St) (b:UInt8) (h:(s.n+1) % 8=0):addB s b=⟨addM s.v (wd (s.r+b.toNat*256 ^ (s.n % 8))),0,s.n+1⟩:=if_pos h
theorem TC (s:St) (b:UInt8) (h:¬(s.n+1) % 8=0):addB s b=⟨s.v,s.r+b.toNat*256 ^ (s.n % 8),s.n+1⟩:=if_neg h
def stOf (ks:Nat->UInt8) (l:List UInt8):St:=l.foldl addB ⟨start ks,0,0⟩
def Rc (s:St):Wd:=wd (s.r+s.n % 256*72057594037927936)
def finS (s:St):Wd:=fin (addM s.v (Rc s))
def Ic (ks:Nat->UInt8) (l:List UInt8):Wd:=finS (stOf ks l)
theorem MQ (ks:Nat->UInt8) (l:List UInt8) (b:UInt8):stOf ks (l++[b])=addB (stOf ks l) b:=by simp [stOf]
def full (ks:Nat->UInt8) (p:List UInt8):Nat->V
 |0=>start ks
 |j+1=>addM (full ks p j) (wd (BO ((p.drop (8*j)).take 8)))
theorem MR (ks:Nat->UInt8) (p:List UInt8):∀n,n<=p.length->stOf ks (p.take n)=⟨full ks p (n / 8),BO ((p.take n).drop (8*(n / 8))),n⟩
 |0,_=>by simp [stOf,full,BO]
 |n+1,h=>by
  have Z:=MR ks p n (by omega);have D:n<p.length:=by omega
  have J:p.take (n+1)=p.take n++[p[n]]:=by rw[List.take_succ_eq_append_getElem D]
  have el:((p.take n).drop (8*(n / 8))).length=n % 8:=by rw[List.length_drop,List.length_take];omega
  have O:(p.take (n+1)).drop (8*(n / 8))=(p.take n).drop (8*(n / 8))++[p[n]]:=by
   rw[J,List.drop_append_of_le_length (by rw[List.length_take];omega)]
  have F:BO ((p.take (n+1)).drop (8*(n / 8)))=BO ((p.take n).drop (8*(n / 8)))+p[n].toNat*256 ^ (n % 8):=by rw[O,Ib,el]
  have M:stOf ks (p.take (n+1))=addB (stOf ks (p.take n)) p[n]:=by rw[J,MQ]
  have ez:(p.take (n+1)).drop (n+1) = []:=List.drop_of_length_le (by rw[List.length_take];omega);rw[M,Z]
  by_cases h8:(n+1) % 8=0
  ·have E:(n+1) / 8=n / 8+1:=by omega
   have hm:8*((n+1) / 8)=n+1:=by omega
   have N:(p.take (n+1)).drop (8*(n / 8))=(p.drop (8*(n / 8))).take 8:=by rw[List.drop_take,show n+1 - 8*(n / 8)=8 by omega]
   rw[PG _ _ h8,<-F,hm,ez,E,full,N];simp only[BO]
  ·have E:(n+1) / 8=n / 8:=by omega
   rw[TC _ _ h8,E,F]
theorem FT (ks:Nat->UInt8) (p:List UInt8):stOf ks p=⟨full ks p (p.length / 8),BO (p.drop (8*(p.length / 8))),p.length⟩:=by
 have h:=MR ks p p.length Ag
 rwa [List.take_length] at h
theorem bY (ks:Nat->UInt8) (p:List UInt8):(stOf ks p).n=p.length:=by rw[FT]
theorem Yi (ks:Nat->UInt8) (p:List UInt8):(stOf ks p).r<256 ^ ((stOf ks p).n % 8):=by
 rw[FT];have h:=Hb (p.drop (8*(p.length / 8)));rw[List.length_drop] at h
 rwa [show p.length - 8*(p.length / 8)=p.length % 8 by omega] at h
theorem WI (k:Nat) (h:k<=7):256 ^ k<=72057594037927936:=(Nat.pow_le_pow_right (by decide) h:256 ^ k<=256 ^ 7)
theorem MS (r b k:Nat) (D:r<256 ^ k):r ||| b*256 ^ k=r+b*256 ^ k:=by
 have e:(256:Nat) ^ k=2 ^ (8*k):=by rw[Nat.pow_mul]
 rw[e] at D⊢;have h:=Nat.shiftLeft_add_eq_or_of_lt D b;rw[Nat.shiftLeft_eq] at h;rw[Nat.or_comm,<-h,Nat.add_comm]
theorem PH (r:Nat) (b:UInt8) (k:Nat) (D:r<256 ^ k):r+b.toNat*256 ^ k<256 ^ (k+1):=by
 have E:=b.toNat_lt;rw[Nat.pow_succ];have:b.toNat*256 ^ k<=255*256 ^ k:=Nat.mul_le_mul_right _ (by omega);omega
theorem Lz (r:Nat) (b:UInt8) (k:Nat) (hk:k<=7) (D:r<256 ^ k) (X:Int) (F:X=((b.toNat*256 ^ k:Nat):Int)):bits .or .u64 (r:Int) X=((r+b.toNat*256 ^ k:Nat):Int):=by
 have hp:=WI k hk;have J:=PH r b k D;have M:(256:Nat) ^ (k+1)<=256 ^ 8:=Nat.pow_le_pow_right (by decide) (by omega);have E:(256:Nat) ^ 8=18446744073709551616:=by decide
 rw[F,u64_or_nat _ _ (by omega) (by omega),MS r _ k D]
theorem PI (r n:Nat) (E:r<72057594037927936):bits .or .u64 (r:Int) ((n:Int)*72057594037927936 % 18446744073709551616)=((r+n % 256*72057594037927936:Nat):Int):=by
 have e:(n:Int)*72057594037927936 % 18446744073709551616=((n % 256*256 ^ 7:Nat):Int):=by
  have:(256:Nat) ^ 7=72057594037927936:=by decide
  rw[this];omega
 have D:(UInt8.ofNat (n % 256)).toNat=n % 256:=by simp
 have h:=Lz r (UInt8.ofNat (n % 256)) 7 (by decide) E ((n:Int)*72057594037927936 % 18446744073709551616) (by rw[e,D]);rw[h,D]
theorem bZ (v:Wd) (w:World):Calls Tryz.prog 242 #[wv v,.int .i64 13] w fun e w'=>e=.returned (wv (rot v 13))/\w'=w:=by
 have hand:bits .and .u64 13 63=13:=by kernel_rfl
 have D:=or13 v;rw[<-IntKind.wrap_u64] at D;go_enter Tryz.func242,Tryz.ntmps242
 go_wp2
 go_ret;exact⟨rfl,rfl⟩
theorem Yj (v:Wd) (w:World):Calls Tryz.prog 242 #[wv v,.int .i64 32] w fun e w'=>e=.returned (wv (rot v 32))/\w'=w:=by
 have hand:bits .and .u64 32 63=32:=by kernel_rfl
 have D:=or32 v;rw[<-IntKind.wrap_u64] at D;go_enter Tryz.func242,Tryz.ntmps242
 go_wp2
 go_ret;exact⟨rfl,rfl⟩
theorem cv (v:Wd) (w:World):Calls Tryz.prog 242 #[wv v,.int .i64 16] w fun e w'=>e=.returned (wv (rot v 16))/\w'=w:=by
 have hand:bits .and .u64 16 63=16:=by kernel_rfl
 have D:=or16 v;rw[<-IntKind.wrap_u64] at D;go_enter Tryz.func242,Tryz.ntmps242
 go_wp2
 go_ret;exact⟨rfl,rfl⟩
theorem cC (v:Wd) (w:World):Calls Tryz.prog 242 #[wv v,.int .i64 21] w fun e w'=>e=.returned (wv (rot v 21))/\w'=w:=by
 have hand:bits .and .u64 21 63=21:=by kernel_rfl
 have D:=or21 v;rw[<-IntKind.wrap_u64] at D;go_enter Tryz.func242,Tryz.ntmps242
 go_wp2
 go_ret;exact⟨rfl,rfl⟩
theorem cD (v:Wd) (w:World):Calls Tryz.prog 242 #[wv v,.int .i64 17] w fun e w'=>e=.returned (wv (rot v 17))/\w'=w:=by
 have hand:bits .and .u64 17 63=17:=by kernel_rfl
 have D:=or17 v;rw[<-IntKind.wrap_u64] at D;go_enter Tryz.func242,Tryz.ntmps242
 go_wp2
 go_ret;exact⟨rfl,rfl⟩
theorem ZN (v:Wd) (w:World):Calls Tryz.prog 175 #[wv v,.int .u64 13] w fun e w'=>e=.returned (wv (rot v 13))/\w'=w:=by
 have D:=or13 v;rw[<-IntKind.wrap_u64] at D;go_enter Tryz.func175,Tryz.ntmps175
 go_wp2
 go_ret;exact⟨rfl,rfl⟩
theorem TD (v:Wd) (w:World):Calls Tryz.prog 175 #[wv v,.int .u64 32] w fun e w'=>e=.returned (wv (rot v 32))/\w'=w:=by
 have D:=or32 v;rw[<-IntKind.wrap_u64] at D;go_enter Tryz.func175,Tryz.ntmps175
 go_wp2
 go_ret;exact⟨rfl,rfl⟩
theorem ZO (v:Wd) (w:World):Calls Tryz.prog 175 #[wv v,.int .u64 16] w fun e w'=>e=.returned (wv (rot v 16))/\w'=w:=by
 have D:=or16 v;rw[<-IntKind.wrap_u64] at D;go_enter Tryz.func175,Tryz.ntmps175
 go_wp2
 go_ret;exact⟨rfl,rfl⟩
theorem ZP (v:Wd) (w:World):Calls Tryz.prog 175 #[wv v,.int .u64 21] w fun e w'=>e=.returned (wv (rot v 21))/\w'=w:=by
 have D:=or21 v;rw[<-IntKind.wrap_u64] at D;go_enter Tryz.func175,Tryz.ntmps175
 go_wp2
 go_ret;exact⟨rfl,rfl⟩
theorem ZQ (v:Wd) (w:World):Calls Tryz.prog 175 #[wv v,.int .u64 17] w fun e w'=>e=.returned (wv (rot v 17))/\w'=w:=by
 have D:=or17 v;rw[<-IntKind.wrap_u64] at D;go_enter Tryz.func175,Tryz.ntmps175
 go_wp2
 go_ret;exact⟨rfl,rfl⟩
theorem ZR (M:Nat) (b:UInt8) (D:M<72057594037927936):bits .or .u64 ((M:Int)*256) (b.toNat:Int)=((b.toNat+256*M:Nat):Int):=by
 have E:=b.toNat_lt;have e:(M:Int)*256=((M*256:Nat):Int):=by omega
 rw[e,u64_or_nat _ _ (by omega) (by omega)];have h:=nat_join 8 (M*256) b.toNat (by omega) (by omega);rw[h];omega
theorem Oq (A:Option Addr) (n c:Nat) (l:List UInt8) (w:World) (B:Nat) (hn:n=l.length) (h8:n<=8) (O:Rd w B A (bvs l)) :
  Calls Tryz.prog 127 #[.slice A n c] w fun e w'=>e=.returned (wv (wd (BO l)))/\w'=w:=by
 have HR:=I O;clear O;have HN:=I hn;clear hn;have H8:=I h8;clear h8;have e8:(n:Int)<=8:=by have:=H8.o;omega
 go_enter Tryz.func127,Tryz.ntmps127
 go_wp2_with fail
 go_loop [3,4] (fun mv iv=>∃j:Nat,j<=n/\iv=.int .i64 ((j:Int) - 1)/\mv=.int .u64 (BO (l.drop j):Nat)) (fun _ iv=>(intOf iv+1).toNat)
 case atStart=>exact⟨n,Nat.le_refl _,by go_num,by rw[List.drop_of_length_le (by have:=HN.o;omega)];rfl⟩
 case round=>
  obtain⟨j,hj,rfl,rfl⟩:=hrel;cases j with
  |zero=>
   have e:(BO l:Int)=((wd (BO l)).toNat:Int):=by rw[KF _ (Ly (by have:=HN.o;have:=H8.o;omega))]
   rw[List.drop_zero];obtain⟨x,ex⟩:=Ak (BO l);rw[<-ex] at e⊢;have E:=I e;clear e;have EX:=I ex;clear ex
   go_wp2_with fail
   go_ret;exact⟨by rw[wv,<-EX.o];simp [E.o],rfl⟩
  |succ j=>
   have hc:((j+1:Nat):Int) - 1=(j:Int):=by omega
   rw[hc];have F:j<l.length:=by have:=HN.o;omega
   have O:=HR.o;obtain⟨b,o,rfl,bx,D⟩:=O.at_ (GC F);have J:w.cell? ⟨b,o+j,none⟩=some (.int .u8 ((l[j]).toNat:Int)):=D;clear D;obtain⟨y,ey⟩:=Ak (l[j]);rw[<-ey] at J;obtain⟨M,Z⟩:=Ak (BO (l.drop (j+1)));rw[<-Z];have hM:M<72057594037927936:=by rw[Z];exact TB (by rw[List.length_drop];have:=HN.o;have:=H8.o;omega)
   have e2:y.toNat+256*M=BO (l.drop j):=by rw[Z,ey,List.drop_eq_getElem_cons F,BO]
   have hx:=ZR M y hM;rw[e2] at hx;obtain⟨M2,N⟩:∃M,M=BO (l.drop j):=⟨_,rfl⟩;rw[<-N] at hx;have aw:=I N;have e3:(0:Int)<=(j:Int):=by omega
   have e4:(j:Int)<(n:Int):=by omega
   have e5:j<n:=by omega
   have e7:(j:Int)<8:=by omega
   have hy:IntKind.u64.wrap (y.toNat:Int)=(y.toNat:Int):=by rw[IntKind.wrap_u64];have:=y.toNat_lt;omega
   have HJ:=I hj;have bz:=I F;clear hj F O Z e2 ey N
   go_wp2_with fail
   go_round
   case rel=>exact⟨j,by omega,by go_num,by rw[aw.o]⟩
   case measure=>simp [intOf]
def key8 (f:Nat->UInt8):Array Value:=#[.int .u8 (f 0).toNat,.int .u8 (f 1).toNat,.int .u8 (f 2).toNat,.int .u8 (f 3).toNat,.int .u8 (f 4).toNat,.int .u8 (f 5).toNat,.int .u8 (f 6).toNat,.int .u8 (f 7).toNat]
def Ie (f:Nat->UInt8) (i:Nat):Nat:=BO ((List.range i).map f)
theorem Rf (f:Nat->UInt8) (i:Nat):Ie f (i+1)=Ie f i+(f i).toNat*256 ^ i:=by
 unfold Ie;rw[List.range_succ,List.map_append,List.map_singleton,Ib];simp
theorem WJ (f:Nat->UInt8) (i:Nat):Ie f i<256 ^ i:=by
 have:=Hb ((List.range i).map f)
 simpa [Ie] using this
theorem or_at (f:Nat->UInt8) (i:Nat) (K:Int) (hi:i<=7) (D:K=((256 ^ i:Nat):Int)):bits .or .u64 (Ie f i:Nat) (IntKind.u64.wrap (((f i).toNat:Int)*K))=(Ie f (i+1):Nat):=by
 rw[Rf];refine Lz _ _ i hi (WJ f i) _ ?_;have E:=WI i hi;have J:=(f i).toNat_lt;have F:(f i).toNat*256 ^ i<=255*72057594037927936:=Nat.mul_le_mul (by omega) E;rw[D,IntKind.wrap_u64,<-Int.natCast_mul];omega
theorem Dv (f:Nat->UInt8) (w:World) :
  Calls Tryz.prog 224 #[.agg (key8 f)] w fun e w'=>e=.returned (wv (wd (Ie f 8)))/\Below w.heap.size w w':=by
 unfold key8;go_enter Tryz.func224,Tryz.ntmps224
 go_wp2_with fail
 go_loop [3,7] (fun mv O=>∃j:Nat,j<=8/\O=.int .i64 (j:Int)/\mv=.int .u64 (Ie f j:Nat)) (fun _ O=>8 - (intOf O).toNat)
 case atStart=>exact⟨0,by decide,rfl,rfl⟩
 case round=>
  obtain⟨j,hj,rfl,rfl⟩:=hrel;obtain⟨M,N⟩:=Ak (Ie f j);obtain⟨M2,J⟩:∃M,M=Ie f (j+1):=⟨_,rfl⟩;have D:∀K:Int,j<=7->K=((256 ^ j:Nat):Int)->bits .or .u64 (M:Int) (IntKind.u64.wrap (((f j).toNat:Int)*K))=(M2:Int):=fun K h1 h2=>by rw[N,J];exact or_at f j K h1 h2
  rw[<-N];have EM:=I N;clear N;have E:=I J;clear J;have hs:j=0\/j=1\/j=2\/j=3\/j=4\/j=5\/j=6\/j=7\/j=8:=by omega
  clear hj;rcases hs with rfl | rfl | rfl | rfl | rfl | rfl | rfl | rfl | rfl
  ·have D:=D 1 (by decide) (by decide)
   have F:IntKind.u64.wrap ((f 0).toNat:Int)=((f 0).toNat:Int):=by rw[IntKind.wrap_u64];have:=(f 0).toNat_lt;omega
   rw[Int.mul_one,F] at D;have hi:∀w:World,(Instr.index 305 (.agg #[.int .u8 (f 0).toNat,.int .u8 (f 1).toNat,.int .u8 (f 2).toNat,.int .u8 (f 3).toNat,.int .u8 (f 4).toNat,.int .u8 (f 5).toNat,.int .u8 (f 6).toNat,.int .u8 (f 7).toNat]) (.int .i64 0)).run Tryz.prog w=.ok (.int .u8 (f 0).toNat) w:=fun _=>by kernel_rfl
   go_wp2_with fail
   go_round
   case rel=>exact⟨1,by decide,by go_num,by rw[E.o]⟩
   case measure=>simp [intOf]
  ·have D:=D 256 (by decide) (by decide)
   have F:IntKind.u64.wrap ((f 1).toNat:Int)=((f 1).toNat:Int):=by rw[IntKind.wrap_u64];have:=(f 1).toNat_lt;omega
   have hi:∀w:World,(Instr.index 305 (.agg #[.int .u8 (f 0).toNat,.int .u8 (f 1).toNat,.int .u8 (f 2).toNat,.int .u8 (f 3).toNat,.int .u8 (f 4).toNat,.int .u8 (f 5).toNat,.int .u8 (f 6).toNat,.int .u8 (f 7).toNat]) (.int .i64 1)).run Tryz.prog w=.ok (.int .u8 (f 1).toNat) w:=fun _=>by kernel_rfl
   go_wp2_with fail
   go_round
   case rel=>exact⟨2,by decide,by go_num,by rw[E.o]⟩
   case measure=>simp [intOf]
  ·have D:=D 65536 (by decide) (by decide)
   have F:IntKind.u64.wrap ((f 2).toNat:Int)=((f 2).toNat:Int):=by rw[IntKind.wrap_u64];have:=(f 2).toNat_lt;omega
   have hi:∀w:World,(Instr.index 305 (.agg #[.int .u8 (f 0).toNat,.int .u8 (f 1).toNat,.int .u8 (f 2).toNat,.int .u8 (f 3).toNat,.int .u8 (f 4).toNat,.int .u8 (f 5).toNat,.int .u8 (f 6).toNat,.int .u8 (f 7).toNat]) (.int .i64 2)).run Tryz.prog w=.ok (.int .u8 (f 2).toNat) w:=fun _=>by kernel_rfl
   go_wp2_with fail
   go_round
   case rel=>exact⟨3,by decide,by go_num,by rw[E.o]⟩
   case measure=>simp [intOf]
  ·have D:=D 16777216 (by decide) (by decide)
   have F:IntKind.u64.wrap ((f 3).toNat:Int)=((f 3).toNat:Int):=by rw[IntKind.wrap_u64];have:=(f 3).toNat_lt;omega
   have hi:∀w:World,(Instr.index 305 (.agg #[.int .u8 (f 0).toNat,.int .u8 (f 1).toNat,.int .u8 (f 2).toNat,.int .u8 (f 3).toNat,.int .u8 (f 4).toNat,.int .u8 (f 5).toNat,.int .u8 (f 6).toNat,.int .u8 (f 7).toNat]) (.int .i64 3)).run Tryz.prog w=.ok (.int .u8 (f 3).toNat) w:=fun _=>by kernel_rfl
   go_wp2_with fail
   go_round
   case rel=>exact⟨4,by decide,by go_num,by rw[E.o]⟩
   case measure=>simp [intOf]
  ·have D:=D 4294967296 (by decide) (by decide)
   have F:IntKind.u64.wrap ((f 4).toNat:Int)=((f 4).toNat:Int):=by rw[IntKind.wrap_u64];have:=(f 4).toNat_lt;omega
   have hi:∀w:World,(Instr.index 305 (.agg #[.int .u8 (f 0).toNat,.int .u8 (f 1).toNat,.int .u8 (f 2).toNat,.int .u8 (f 3).toNat,.int .u8 (f 4).toNat,.int .u8 (f 5).toNat,.int .u8 (f 6).toNat,.int .u8 (f 7).toNat]) (.int .i64 4)).run Tryz.prog w=.ok (.int .u8 (f 4).toNat) w:=fun _=>by kernel_rfl
   go_wp2_with fail
   go_round
   case rel=>exact⟨5,by decide,by go_num,by rw[E.o]⟩
   case measure=>simp [intOf]
  ·have D:=D 1099511627776 (by decide) (by decide)
   have F:IntKind.u64.wrap ((f 5).toNat:Int)=((f 5).toNat:Int):=by rw[IntKind.wrap_u64];have:=(f 5).toNat_lt;omega
   have hi:∀w:World,(Instr.index 305 (.agg #[.int .u8 (f 0).toNat,.int .u8 (f 1).toNat,.int .u8 (f 2).toNat,.int .u8 (f 3).toNat,.int .u8 (f 4).toNat,.int .u8 (f 5).toNat,.int .u8 (f 6).toNat,.int .u8 (f 7).toNat]) (.int .i64 5)).run Tryz.prog w=.ok (.int .u8 (f 5).toNat) w:=fun _=>by kernel_rfl
   go_wp2_with fail
   go_round
   case rel=>exact⟨6,by decide,by go_num,by rw[E.o]⟩
   case measure=>simp [intOf]
  ·have D:=D 281474976710656 (by decide) (by decide)
   have F:IntKind.u64.wrap ((f 6).toNat:Int)=((f 6).toNat:Int):=by rw[IntKind.wrap_u64];have:=(f 6).toNat_lt;omega
   have hi:∀w:World,(Instr.index 305 (.agg #[.int .u8 (f 0).toNat,.int .u8 (f 1).toNat,.int .u8 (f 2).toNat,.int .u8 (f 3).toNat,.int .u8 (f 4).toNat,.int .u8 (f 5).toNat,.int .u8 (f 6).toNat,.int .u8 (f 7).toNat]) (.int .i64 6)).run Tryz.prog w=.ok (.int .u8 (f 6).toNat) w:=fun _=>by kernel_rfl
   go_wp2_with fail
   go_round
   case rel=>exact⟨7,by decide,by go_num,by rw[E.o]⟩
   case measure=>simp [intOf]
  ·have D:=D 72057594037927936 (by decide) (by decide)
   have F:IntKind.u64.wrap ((f 7).toNat:Int)=((f 7).toNat:Int):=by rw[IntKind.wrap_u64];have:=(f 7).toNat_lt;omega
   have hi:∀w:World,(Instr.index 305 (.agg #[.int .u8 (f 0).toNat,.int .u8 (f 1).toNat,.int .u8 (f 2).toNat,.int .u8 (f 3).toNat,.int .u8 (f 4).toNat,.int .u8 (f 5).toNat,.int .u8 (f 6).toNat,.int .u8 (f 7).toNat]) (.int .i64 7)).run Tryz.prog w=.ok (.int .u8 (f 7).toNat) w:=fun _=>by kernel_rfl
   go_wp2_with fail
   go_round
   case rel=>exact⟨8,by decide,by go_num,by rw[E.o]⟩
   case measure=>simp [intOf]
  ·have D:=KF (Ie f 8) (Ly (by simp))
   have Z:M=(wd (Ie f 8)).toNat:=by rw[D];exact EM.o
   have HZ:=I Z;clear Z;clear D
   go_wp2_with fail
   go_ret;exact⟨by rw[wv,<-HZ.o];rfl,(Below.refl w.heap.size w).alloc Ag _⟩
def JL (s:V) (R N:Value):Array Value:=#[wv s.a,wv s.b,wv s.c,wv s.d,R,N]
def DH (s:V):Array Value:=#[wv s.a,wv s.b,wv s.c,wv s.d]
theorem KG (g n:Nat) (s:V) (R N:Value) (w:World) (hn:n<=4) (hB:Blk w g 291 (JL s R N)) :
  Calls Tryz.prog 226 #[.pointer (some ⟨g,0,none⟩),.int .i64 (n:Int)] w fun e w'=>e=.returned (.tuple #[])/\Blk w' g 291 (JL (rnds n s) R N)/\w.grownBy w' (some g):=by
 have HB:=I hB;clear hB;go_enter Tryz.func226,Tryz.ntmps226
 go_wp2_with fail
 go_loopw [5] (fun iv wr=>∃i:Nat,i<=n/\iv=.int .i64 (i:Int)/\Blk wr g 291 (JL (rnds i s) R N)/\w.grownBy wr (some g)) (fun iv _=>n - (intOf iv).toNat)
 case atStart=>exact⟨0,Nat.zero_le _,rfl,HB.o,World.grownBy.refl w _⟩
 case round=>
  obtain⟨i,hi,rfl,hB,hG⟩:=hrel
  by_cases hx:i=n
  ·subst hx
   have D:=I hB;clear hB;have cn:=I hG;clear hG
   go_wp2_with fail
   go_end0
   exact⟨rfl,D.o,cn.o⟩
  ·have gn:i<n:=by omega
   have e1:(i:Int)<(n:Int):=by omega
   have e2:(0:Int)<=(i:Int):=by omega
   have e3:(i:Int)<4:=by omega
   have HX:=I hx;clear hx;have HI:=I hi;clear hi;obtain⟨⟨a,b,c,d⟩,es⟩:∃t,t=rnds i s:=⟨_,rfl⟩;rw[<-es] at hB;have ES:=I es;clear es;have D:=I (show Blk wr g 291 #[wv a,wv b,wv c,wv d,R,N] from hB);clear hB;have cn:=I hG;clear hG
   go_upto_region 2 with fail
   obtain⟨a1,bB⟩:∃x,x=a+b:=⟨_,rfl⟩;obtain⟨q1,cx⟩:∃x,x=rot b 13:=⟨_,rfl⟩;obtain⟨b1,ed⟩:∃x,x=q1 ^^^ a1:=⟨_,rfl⟩;obtain⟨a2,cQ⟩:∃x,x=rot a1 32:=⟨_,rfl⟩;obtain⟨c1,cc⟩:∃x,x=c+d:=⟨_,rfl⟩;obtain⟨q4,cj⟩:∃x,x=rot d 16:=⟨_,rfl⟩;obtain⟨d1,cB⟩:∃x,x=q4 ^^^ c1:=⟨_,rfl⟩;obtain⟨a3,cb⟩:∃x,x=a2+d1:=⟨_,rfl⟩;obtain⟨q6,ea⟩:∃x,x=rot d1 21:=⟨_,rfl⟩;obtain⟨d2,eo⟩:∃x,x=q6 ^^^ a3:=⟨_,rfl⟩;obtain⟨c2,ca⟩:∃x,x=c1+b1:=⟨_,rfl⟩;obtain⟨q8,cf⟩:∃x,x=rot b1 17:=⟨_,rfl⟩;obtain⟨b2,ec⟩:∃x,x=q8 ^^^ c2:=⟨_,rfl⟩;obtain⟨c3,ei⟩:∃x,x=rot c2 32:=⟨_,rfl⟩;have cd:rnd ⟨a,b,c,d⟩=⟨a3,b2,c3,d2⟩:=by subst bB cx ed cQ cc cj cB cb ea eo ca cf ec ei;rfl
   have eu:=I cd;clear cd;have x0:IntKind.u64.wrap ((a.toNat:Int)+(b.toNat:Int))=(a1.toNat:Int):=by rw[bB];exact Iz _ _
   have y0:((a.toNat:Int)+(b.toNat:Int)) % 18446744073709551616=(a1.toNat:Int):=by rw[bB];exact Gf _ _
   have X0:=I x0;clear x0;have Y0:=I y0;clear y0;have x1:bits .xor .u64 (q1.toNat:Int) (a1.toNat:Int)=(b1.toNat:Int):=by rw[ed];exact BB _ _
   have X1:=I x1;clear x1;have l1:=bZ b;rw[<-cx] at l1;have l2:=Yj a1;rw[<-cQ] at l2;have x3:IntKind.u64.wrap ((c.toNat:Int)+(d.toNat:Int))=(c1.toNat:Int):=by rw[cc];exact Iz _ _
   have y3:((c.toNat:Int)+(d.toNat:Int)) % 18446744073709551616=(c1.toNat:Int):=by rw[cc];exact Gf _ _
   have X3:=I x3;clear x3;have Y3:=I y3;clear y3;have x4:bits .xor .u64 (q4.toNat:Int) (c1.toNat:Int)=(d1.toNat:Int):=by rw[cB];exact BB _ _
   have X4:=I x4;clear x4;have l4:=cv d;rw[<-cj] at l4;have x5:IntKind.u64.wrap ((a2.toNat:Int)+(d1.toNat:Int))=(a3.toNat:Int):=by rw[cb];exact Iz _ _
   have y5:((a2.toNat:Int)+(d1.toNat:Int)) % 18446744073709551616=(a3.toNat:Int):=by rw[cb];exact Gf _ _
   have X5:=I x5;clear x5;have Y5:=I y5;clear y5;have x6:bits .xor .u64 (q6.toNat:Int) (a3.toNat:Int)=(d2.toNat:Int):=by rw[eo];exact BB _ _
   have X6:=I x6;clear x6;have l6:=cC d1;rw[<-ea] at l6;have x7:IntKind.u64.wrap ((c1.toNat:Int)+(b1.toNat:Int))=(c2.toNat:Int):=by rw[ca];exact Iz _ _
   have y7:((c1.toNat:Int)+(b1.toNat:Int)) % 18446744073709551616=(c2.toNat:Int):=by rw[ca];exact Gf _ _
   have X7:=I x7;clear x7;have Y7:=I y7;clear y7;have x8:bits .xor .u64 (q8.toNat:Int) (c2.toNat:Int)=(b2.toNat:Int):=by rw[ec];exact BB _ _
   have X8:=I x8;clear x8;have l8:=cD b1;rw[<-cf] at l8;have l9:=Yj c2;rw[<-ei] at l9;clear bB cx ed cQ cc cj cB cb ea eo ca cf ec ei;have fX:=Blk.frozen D.o;have fs:wr.cell? ⟨g,0,none⟩=some (.int .u64 (a.toNat:Int)):=by rw[Blk.cell D.o];rfl
   have fR:wr.cell? ⟨g,1,none⟩=some (.int .u64 (b.toNat:Int)):=by rw[Blk.cell D.o];rfl
   have eX:wr.cell? ⟨g,2,none⟩=some (.int .u64 (c.toNat:Int)):=by rw[Blk.cell D.o];rfl
   have fy:wr.cell? ⟨g,3,none⟩=some (.int .u64 (d.toNat:Int)):=by rw[Blk.cell D.o];rfl
   have x0:=X0.o;have y0:=Y0.o;refine wp_region_still_tail 11 (by kernel_rfl) (by kernel_rfl) ?_;simp only[List.take_succ_cons,List.take_zero,List.drop_succ_cons,List.drop_zero];change wpStill _ _ wr.drew _ _ _
   repeat still_step
   refine wpStill_nil ?_;change wpList _ _ _ _ _ wr.drew
   go_upto_region 3 with fail
   have eb:Blk (wr.setCell ⟨g,0,none⟩ (.int .u64 (a1.toNat:Int))).drew g 291 #[wv a1,wv b,wv c,wv d,R,N]:=Blk.set D.o 0 (wv a1);have cg:w.grownBy (wr.setCell ⟨g,0,none⟩ (.int .u64 (a1.toNat:Int))).drew (some g):=AZ (AU cn.o (.inl rfl) _);generalize (wr.setCell ⟨g,0,none⟩ (.int .u64 (a1.toNat:Int))).drew=v1 at eb cg⊢;clear fX fs fR eX fy x0 y0 X0 Y0;have J:=I eb;clear eb;have fi:=I cg;clear cg;have gh:=Blk.frozen J.o;have eP:v1.cell? ⟨g,0,none⟩=some (.int .u64 (a1.toNat:Int)):=by rw[Blk.cell J.o];rfl
   have fI:v1.cell? ⟨g,1,none⟩=some (.int .u64 (b.toNat:Int)):=by rw[Blk.cell J.o];rfl
   have fK:v1.cell? ⟨g,2,none⟩=some (.int .u64 (c.toNat:Int)):=by rw[Blk.cell J.o];rfl
   have eW:v1.cell? ⟨g,3,none⟩=some (.int .u64 (d.toNat:Int)):=by rw[Blk.cell J.o];rfl
   have x1:=X1.o;refine wp_region_still_tail 13 (by kernel_rfl) (by kernel_rfl) ?_;simp only[List.take_succ_cons,List.take_zero,List.drop_succ_cons,List.drop_zero];change wpStill _ _ v1.drew _ _ _
   repeat still_step
   still_call (l1 v1.drew)
   repeat still_step
   refine wpStill_nil ?_;change wpList _ _ _ _ _ v1.drew
   go_upto_region 4 with fail
   have cR:Blk (v1.setCell ⟨g,1,none⟩ (.int .u64 (b1.toNat:Int))).drew g 291 #[wv a1,wv b1,wv c,wv d,R,N]:=Blk.set J.o 1 (wv b1);have cP:w.grownBy (v1.setCell ⟨g,1,none⟩ (.int .u64 (b1.toNat:Int))).drew (some g):=AZ (AU fi.o (.inl rfl) _);generalize (v1.setCell ⟨g,1,none⟩ (.int .u64 (b1.toNat:Int))).drew=v2 at cR cP⊢;clear gh eP fI fK eW x1 X1 l1;clear J fi;have bx:=I cR;clear cR;have eF:=I cP;clear cP;have fY:=Blk.frozen bx.o;have eB:v2.cell? ⟨g,0,none⟩=some (.int .u64 (a1.toNat:Int)):=by rw[Blk.cell bx.o];rfl
   have fv:v2.cell? ⟨g,1,none⟩=some (.int .u64 (b1.toNat:Int)):=by rw[Blk.cell bx.o];rfl
   have fU:v2.cell? ⟨g,2,none⟩=some (.int .u64 (c.toNat:Int)):=by rw[Blk.cell bx.o];rfl
   have fO:v2.cell? ⟨g,3,none⟩=some (.int .u64 (d.toNat:Int)):=by rw[Blk.cell bx.o];rfl
   go_upto_region 5 with(go_at_call 242;refine Aj (l2 _) ?_;rintro w' hw;have hw:=hw.symm;subst hw)
   have cA:Blk (v2.setCell ⟨g,0,none⟩ (.int .u64 (a2.toNat:Int))) g 291 #[wv a2,wv b1,wv c,wv d,R,N]:=Blk.set bx.o 0 (wv a2);have ep:w.grownBy (v2.setCell ⟨g,0,none⟩ (.int .u64 (a2.toNat:Int))) (some g):=(AU eF.o (.inl rfl) _);generalize (v2.setCell ⟨g,0,none⟩ (.int .u64 (a2.toNat:Int)))=v3 at cA ep⊢;clear fY eB fv fU fO l2;clear bx eF;have F:=I cA;clear cA;have ey:=I ep;clear ep;have fZ:=Blk.frozen F.o;have fL:v3.cell? ⟨g,0,none⟩=some (.int .u64 (a2.toNat:Int)):=by rw[Blk.cell F.o];rfl
   have fu:v3.cell? ⟨g,1,none⟩=some (.int .u64 (b1.toNat:Int)):=by rw[Blk.cell F.o];rfl
   have eQ:v3.cell? ⟨g,2,none⟩=some (.int .u64 (c.toNat:Int)):=by rw[Blk.cell F.o];rfl
   have ev:v3.cell? ⟨g,3,none⟩=some (.int .u64 (d.toNat:Int)):=by rw[Blk.cell F.o];rfl
   have x3:=X3.o;have y3:=Y3.o;refine wp_region_still_tail 11 (by kernel_rfl) (by kernel_rfl) ?_;simp only[List.take_succ_cons,List.take_zero,List.drop_succ_cons,List.drop_zero];change wpStill _ _ v3.drew _ _ _
   repeat still_step
   refine wpStill_nil ?_;change wpList _ _ _ _ _ v3.drew
   go_upto_region 6 with fail
   have ej:Blk (v3.setCell ⟨g,2,none⟩ (.int .u64 (c1.toNat:Int))).drew g 291 #[wv a2,wv b1,wv c1,wv d,R,N]:=Blk.set F.o 2 (wv c1);have ef:w.grownBy (v3.setCell ⟨g,2,none⟩ (.int .u64 (c1.toNat:Int))).drew (some g):=AZ (AU ey.o (.inl rfl) _);generalize (v3.setCell ⟨g,2,none⟩ (.int .u64 (c1.toNat:Int))).drew=v4 at ej ef⊢;clear fZ fL fu eQ ev x3 y3 X3 Y3;clear F ey;have O:=I ej;clear ej;have ew:=I ef;clear ef;have gi:=Blk.frozen O.o;have fH:v4.cell? ⟨g,0,none⟩=some (.int .u64 (a2.toNat:Int)):=by rw[Blk.cell O.o];rfl
   have fb:v4.cell? ⟨g,1,none⟩=some (.int .u64 (b1.toNat:Int)):=by rw[Blk.cell O.o];rfl
   have fP:v4.cell? ⟨g,2,none⟩=some (.int .u64 (c1.toNat:Int)):=by rw[Blk.cell O.o];rfl
   have eR:v4.cell? ⟨g,3,none⟩=some (.int .u64 (d.toNat:Int)):=by rw[Blk.cell O.o];rfl
   have x4:=X4.o;refine wp_region_still_tail 13 (by kernel_rfl) (by kernel_rfl) ?_;simp only[List.take_succ_cons,List.take_zero,List.drop_succ_cons,List.drop_zero];change wpStill _ _ v4.drew _ _ _
   repeat still_step
   still_call (l4 v4.drew)
   repeat still_step
   refine wpStill_nil ?_;change wpList _ _ _ _ _ v4.drew
   go_upto_region 7 with fail
   have cy:Blk (v4.setCell ⟨g,3,none⟩ (.int .u64 (d1.toNat:Int))).drew g 291 #[wv a2,wv b1,wv c1,wv d1,R,N]:=Blk.set O.o 3 (wv d1);have ek:w.grownBy (v4.setCell ⟨g,3,none⟩ (.int .u64 (d1.toNat:Int))).drew (some g):=AZ (AU ew.o (.inl rfl) _);generalize (v4.setCell ⟨g,3,none⟩ (.int .u64 (d1.toNat:Int))).drew=v5 at cy ek⊢;clear gi fH fb fP eR x4 X4 l4;clear O ew;have bz:=I cy;clear cy;have fj:=I ek;clear ek;have gb:=Blk.frozen bz.o;have eV:v5.cell? ⟨g,0,none⟩=some (.int .u64 (a2.toNat:Int)):=by rw[Blk.cell bz.o];rfl
   have eN:v5.cell? ⟨g,1,none⟩=some (.int .u64 (b1.toNat:Int)):=by rw[Blk.cell bz.o];rfl
   have fG:v5.cell? ⟨g,2,none⟩=some (.int .u64 (c1.toNat:Int)):=by rw[Blk.cell bz.o];rfl
   have fJ:v5.cell? ⟨g,3,none⟩=some (.int .u64 (d1.toNat:Int)):=by rw[Blk.cell bz.o];rfl
   have x5:=X5.o;have y5:=Y5.o;refine wp_region_still_tail 11 (by kernel_rfl) (by kernel_rfl) ?_;simp only[List.take_succ_cons,List.take_zero,List.drop_succ_cons,List.drop_zero];change wpStill _ _ v5.drew _ _ _
   repeat still_step
   refine wpStill_nil ?_;change wpList _ _ _ _ _ v5.drew
   go_upto_region 8 with fail
   have cp:Blk (v5.setCell ⟨g,0,none⟩ (.int .u64 (a3.toNat:Int))).drew g 291 #[wv a3,wv b1,wv c1,wv d1,R,N]:=Blk.set bz.o 0 (wv a3);have ct:w.grownBy (v5.setCell ⟨g,0,none⟩ (.int .u64 (a3.toNat:Int))).drew (some g):=AZ (AU fj.o (.inl rfl) _);generalize (v5.setCell ⟨g,0,none⟩ (.int .u64 (a3.toNat:Int))).drew=v6 at cp ct⊢;clear gb eV eN fG fJ x5 y5 X5 Y5;clear bz fj;have M:=I cp;clear cp;have fT:=I ct;clear ct;have gg:=Blk.frozen M.o;have fM:v6.cell? ⟨g,0,none⟩=some (.int .u64 (a3.toNat:Int)):=by rw[Blk.cell M.o];rfl
   have et:v6.cell? ⟨g,1,none⟩=some (.int .u64 (b1.toNat:Int)):=by rw[Blk.cell M.o];rfl
   have eL:v6.cell? ⟨g,2,none⟩=some (.int .u64 (c1.toNat:Int)):=by rw[Blk.cell M.o];rfl
   have fV:v6.cell? ⟨g,3,none⟩=some (.int .u64 (d1.toNat:Int)):=by rw[Blk.cell M.o];rfl
   have x6:=X6.o;refine wp_region_still_tail 13 (by kernel_rfl) (by kernel_rfl) ?_;simp only[List.take_succ_cons,List.take_zero,List.drop_succ_cons,List.drop_zero];change wpStill _ _ v6.drew _ _ _
   repeat still_step
   still_call (l6 v6.drew)
   repeat still_step
   refine wpStill_nil ?_;change wpList _ _ _ _ _ v6.drew
   go_upto_region 9 with fail
   have cr:Blk (v6.setCell ⟨g,3,none⟩ (.int .u64 (d2.toNat:Int))).drew g 291 #[wv a3,wv b1,wv c1,wv d2,R,N]:=Blk.set M.o 3 (wv d2);have cL:w.grownBy (v6.setCell ⟨g,3,none⟩ (.int .u64 (d2.toNat:Int))).drew (some g):=AZ (AU fT.o (.inl rfl) _);generalize (v6.setCell ⟨g,3,none⟩ (.int .u64 (d2.toNat:Int))).drew=v7 at cr cL⊢;clear gg fM et eL fV x6 X6 l6;clear M fT;have aw:=I cr;clear cr;have er:=I cL;clear cL;have gl:=Blk.frozen aw.o;have fQ:v7.cell? ⟨g,0,none⟩=some (.int .u64 (a3.toNat:Int)):=by rw[Blk.cell aw.o];rfl
   have fN:v7.cell? ⟨g,1,none⟩=some (.int .u64 (b1.toNat:Int)):=by rw[Blk.cell aw.o];rfl
   have eK:v7.cell? ⟨g,2,none⟩=some (.int .u64 (c1.toNat:Int)):=by rw[Blk.cell aw.o];rfl
   have fF:v7.cell? ⟨g,3,none⟩=some (.int .u64 (d2.toNat:Int)):=by rw[Blk.cell aw.o];rfl
   have x7:=X7.o;have y7:=Y7.o;refine wp_region_still_tail 11 (by kernel_rfl) (by kernel_rfl) ?_;simp only[List.take_succ_cons,List.take_zero,List.drop_succ_cons,List.drop_zero];change wpStill _ _ v7.drew _ _ _
   repeat still_step
   refine wpStill_nil ?_;change wpList _ _ _ _ _ v7.drew
   go_upto_region 10 with fail
   have cu:Blk (v7.setCell ⟨g,2,none⟩ (.int .u64 (c2.toNat:Int))).drew g 291 #[wv a3,wv b1,wv c2,wv d2,R,N]:=Blk.set aw.o 2 (wv c2);have cw:w.grownBy (v7.setCell ⟨g,2,none⟩ (.int .u64 (c2.toNat:Int))).drew (some g):=AZ (AU er.o (.inl rfl) _);generalize (v7.setCell ⟨g,2,none⟩ (.int .u64 (c2.toNat:Int))).drew=v8 at cu cw⊢;clear gl fQ fN eK fF x7 y7 X7 Y7;clear aw er;have E:=I cu;clear cu;have eM:=I cw;clear cw;have fW:=Blk.frozen E.o;have eS:v8.cell? ⟨g,0,none⟩=some (.int .u64 (a3.toNat:Int)):=by rw[Blk.cell E.o];rfl
   have eT:v8.cell? ⟨g,1,none⟩=some (.int .u64 (b1.toNat:Int)):=by rw[Blk.cell E.o];rfl
   have eJ:v8.cell? ⟨g,2,none⟩=some (.int .u64 (c2.toNat:Int)):=by rw[Blk.cell E.o];rfl
   have fS:v8.cell? ⟨g,3,none⟩=some (.int .u64 (d2.toNat:Int)):=by rw[Blk.cell E.o];rfl
   have x8:=X8.o;refine wp_region_still_tail 13 (by kernel_rfl) (by kernel_rfl) ?_;simp only[List.take_succ_cons,List.take_zero,List.drop_succ_cons,List.drop_zero];change wpStill _ _ v8.drew _ _ _
   repeat still_step
   still_call (l8 v8.drew)
   repeat still_step
   refine wpStill_nil ?_;change wpList _ _ _ _ _ v8.drew
   go_upto_region 11 with fail
   have ck:Blk (v8.setCell ⟨g,1,none⟩ (.int .u64 (b2.toNat:Int))).drew g 291 #[wv a3,wv b2,wv c2,wv d2,R,N]:=Blk.set E.o 1 (wv b2);have cm:w.grownBy (v8.setCell ⟨g,1,none⟩ (.int .u64 (b2.toNat:Int))).drew (some g):=AZ (AU eM.o (.inl rfl) _);generalize (v8.setCell ⟨g,1,none⟩ (.int .u64 (b2.toNat:Int))).drew=v9 at ck cm⊢;clear fW eS eT eJ fS x8 X8 l8;clear E eM;have Z:=I ck;clear ck;have fz:=I cm;clear cm;have gj:=Blk.frozen Z.o;have ff:v9.cell? ⟨g,0,none⟩=some (.int .u64 (a3.toNat:Int)):=by rw[Blk.cell Z.o];rfl
   have eD:v9.cell? ⟨g,1,none⟩=some (.int .u64 (b2.toNat:Int)):=by rw[Blk.cell Z.o];rfl
   have ez:v9.cell? ⟨g,2,none⟩=some (.int .u64 (c2.toNat:Int)):=by rw[Blk.cell Z.o];rfl
   have eH:v9.cell? ⟨g,3,none⟩=some (.int .u64 (d2.toNat:Int)):=by rw[Blk.cell Z.o];rfl
   go_upto_region 12 with(go_at_call 242;refine Aj (l9 _) ?_;rintro w' hw;have hw:=hw.symm;subst hw)
   have eg:Blk (v9.setCell ⟨g,2,none⟩ (.int .u64 (c3.toNat:Int))) g 291 #[wv a3,wv b2,wv c3,wv d2,R,N]:=Blk.set Z.o 2 (wv c3);have cq:w.grownBy (v9.setCell ⟨g,2,none⟩ (.int .u64 (c3.toNat:Int))) (some g):=(AU fz.o (.inl rfl) _);generalize (v9.setCell ⟨g,2,none⟩ (.int .u64 (c3.toNat:Int)))=v10 at eg cq⊢;clear gj ff eD ez eH l9;clear Z fz;have ga:=I eg;clear eg;have gf:=I cq;clear cq
   go_wp2_with fail
   go_roundw
   case rel=>exact⟨i+1,by omega,by go_num,by rw[rnds,<-ES.o,eu.o];exact ga.o,gf.o⟩
   case measure=>simp [intOf];omega
theorem PJ (g:Nat) (s:V) (w:World) (hB:Blk w g 234 (DH s)) :
  Calls Tryz.prog 129 #[.pointer (some ⟨g,0,none⟩)] w fun e w'=>e=.returned (.tuple #[])/\Blk w' g 234 (DH (rnd s))/\w.grownBy w' (some g):=by
 obtain⟨a,b,c,d⟩:=s;have bx:=I (show Blk w g 234 #[wv a,wv b,wv c,wv d] from hB);clear hB;have fX:=I (World.grownBy.refl w (some g));go_enter Tryz.func129,Tryz.ntmps129
 go_upto_region 0 with fail
 obtain⟨a1,bz⟩:∃x,x=a+b:=⟨_,rfl⟩;obtain⟨q1,ct⟩:∃x,x=rot b 13:=⟨_,rfl⟩;obtain⟨b1,ea⟩:∃x,x=q1 ^^^ a1:=⟨_,rfl⟩;obtain⟨a2,cB⟩:∃x,x=rot a1 32:=⟨_,rfl⟩;obtain⟨c1,cb⟩:∃x,x=c+d:=⟨_,rfl⟩;obtain⟨q4,cg⟩:∃x,x=rot d 16:=⟨_,rfl⟩;obtain⟨d1,cx⟩:∃x,x=q4 ^^^ c1:=⟨_,rfl⟩;obtain⟨a3,ca⟩:∃x,x=a2+d1:=⟨_,rfl⟩;obtain⟨q6,cP⟩:∃x,x=rot d1 21:=⟨_,rfl⟩;obtain⟨d2,eg⟩:∃x,x=q6 ^^^ a3:=⟨_,rfl⟩;obtain⟨c2,bB⟩:∃x,x=c1+b1:=⟨_,rfl⟩;obtain⟨q8,cd⟩:∃x,x=rot b1 17:=⟨_,rfl⟩;obtain⟨b2,cR⟩:∃x,x=q8 ^^^ c2:=⟨_,rfl⟩;obtain⟨c3,ec⟩:∃x,x=rot c2 32:=⟨_,rfl⟩;have cc:rnd ⟨a,b,c,d⟩=⟨a3,b2,c3,d2⟩:=by subst bz ct ea cB cb cg cx ca cP eg bB cd cR ec;rfl
 have eo:=I cc;clear cc;have x0:IntKind.u64.wrap ((a.toNat:Int)+(b.toNat:Int))=(a1.toNat:Int):=by rw[bz];exact Iz _ _
 have y0:((a.toNat:Int)+(b.toNat:Int)) % 18446744073709551616=(a1.toNat:Int):=by rw[bz];exact Gf _ _
 have X0:=I x0;clear x0;have Y0:=I y0;clear y0;have x1:bits .xor .u64 (q1.toNat:Int) (a1.toNat:Int)=(b1.toNat:Int):=by rw[ea];exact BB _ _
 have X1:=I x1;clear x1;have l1:=ZN b;rw[<-ct] at l1;have l2:=TD a1;rw[<-cB] at l2;have x3:IntKind.u64.wrap ((c.toNat:Int)+(d.toNat:Int))=(c1.toNat:Int):=by rw[cb];exact Iz _ _
 have y3:((c.toNat:Int)+(d.toNat:Int)) % 18446744073709551616=(c1.toNat:Int):=by rw[cb];exact Gf _ _
 have X3:=I x3;clear x3;have Y3:=I y3;clear y3;have x4:bits .xor .u64 (q4.toNat:Int) (c1.toNat:Int)=(d1.toNat:Int):=by rw[cx];exact BB _ _
 have X4:=I x4;clear x4;have l4:=ZO d;rw[<-cg] at l4;have x5:IntKind.u64.wrap ((a2.toNat:Int)+(d1.toNat:Int))=(a3.toNat:Int):=by rw[ca];exact Iz _ _
 have y5:((a2.toNat:Int)+(d1.toNat:Int)) % 18446744073709551616=(a3.toNat:Int):=by rw[ca];exact Gf _ _
 have X5:=I x5;clear x5;have Y5:=I y5;clear y5;have x6:bits .xor .u64 (q6.toNat:Int) (a3.toNat:Int)=(d2.toNat:Int):=by rw[eg];exact BB _ _
 have X6:=I x6;clear x6;have l6:=ZP d1;rw[<-cP] at l6;have x7:IntKind.u64.wrap ((c1.toNat:Int)+(b1.toNat:Int))=(c2.toNat:Int):=by rw[bB];exact Iz _ _
 have y7:((c1.toNat:Int)+(b1.toNat:Int)) % 18446744073709551616=(c2.toNat:Int):=by rw[bB];exact Gf _ _
 have X7:=I x7;clear x7;have Y7:=I y7;clear y7;have x8:bits .xor .u64 (q8.toNat:Int) (c2.toNat:Int)=(b2.toNat:Int):=by rw[cR];exact BB _ _
 have X8:=I x8;clear x8;have l8:=ZQ b1;rw[<-cd] at l8;have l9:=TD c2;rw[<-ec] at l9;clear bz ct ea cB cb cg cx ca cP eg bB cd cR ec;have fV:=Blk.frozen bx.o;have ff:w.cell? ⟨g,0,none⟩=some (.int .u64 (a.toNat:Int)):=by rw[Blk.cell bx.o];rfl
 have fP:w.cell? ⟨g,1,none⟩=some (.int .u64 (b.toNat:Int)):=by rw[Blk.cell bx.o];rfl
 have eT:w.cell? ⟨g,2,none⟩=some (.int .u64 (c.toNat:Int)):=by rw[Blk.cell bx.o];rfl
 have fs:w.cell? ⟨g,3,none⟩=some (.int .u64 (d.toNat:Int)):=by rw[Blk.cell bx.o];rfl
 have x0:=X0.o;have y0:=Y0.o;refine wp_region_still_tail 12 (by kernel_rfl) (by kernel_rfl) ?_;simp only[List.take_succ_cons,List.take_zero,List.drop_succ_cons,List.drop_zero];change wpStill _ _ w.drew _ _ _
 repeat still_step
 refine wpStill_nil ?_;change wpList _ _ _ _ _ w.drew
 go_upto_region 1 with fail
 have cQ:Blk (w.setCell ⟨g,0,none⟩ (.int .u64 (a1.toNat:Int))).drew g 234 #[wv a1,wv b,wv c,wv d]:=Blk.set bx.o 0 (wv a1);have cf:w.grownBy (w.setCell ⟨g,0,none⟩ (.int .u64 (a1.toNat:Int))).drew (some g):=AZ (AU fX.o (.inl rfl) _);generalize (w.setCell ⟨g,0,none⟩ (.int .u64 (a1.toNat:Int))).drew=v1 at cQ cf⊢;clear fV ff fP eT fs x0 y0 X0 Y0;have F:=I cQ;clear cQ;have eX:=I cf;clear cf;have gg:=Blk.frozen F.o;have eL:v1.cell? ⟨g,0,none⟩=some (.int .u64 (a1.toNat:Int)):=by rw[Blk.cell F.o];rfl
 have fF:v1.cell? ⟨g,1,none⟩=some (.int .u64 (b.toNat:Int)):=by rw[Blk.cell F.o];rfl
 have fH:v1.cell? ⟨g,2,none⟩=some (.int .u64 (c.toNat:Int)):=by rw[Blk.cell F.o];rfl
 have eS:v1.cell? ⟨g,3,none⟩=some (.int .u64 (d.toNat:Int)):=by rw[Blk.cell F.o];rfl
 have x1:=X1.o;refine wp_region_still_tail 13 (by kernel_rfl) (by kernel_rfl) ?_;simp only[List.take_succ_cons,List.take_zero,List.drop_succ_cons,List.drop_zero];change wpStill _ _ v1.drew _ _ _
 repeat still_step
 still_call (l1 v1.drew)
 repeat still_step
 refine wpStill_nil ?_;change wpList _ _ _ _ _ v1.drew
 go_upto_region 2 with fail
 have cL:Blk (v1.setCell ⟨g,1,none⟩ (.int .u64 (b1.toNat:Int))).drew g 234 #[wv a1,wv b1,wv c,wv d]:=Blk.set F.o 1 (wv b1);have cA:w.grownBy (v1.setCell ⟨g,1,none⟩ (.int .u64 (b1.toNat:Int))).drew (some g):=AZ (AU eX.o (.inl rfl) _);generalize (v1.setCell ⟨g,1,none⟩ (.int .u64 (b1.toNat:Int))).drew=v2 at cL cA⊢;clear gg eL fF fH eS x1 X1 l1;clear F eX;have Z:=I cL;clear cL;have ey:=I cA;clear cA;have fW:=Blk.frozen Z.o;have ev:v2.cell? ⟨g,0,none⟩=some (.int .u64 (a1.toNat:Int)):=by rw[Blk.cell Z.o];rfl
 have fj:v2.cell? ⟨g,1,none⟩=some (.int .u64 (b1.toNat:Int)):=by rw[Blk.cell Z.o];rfl
 have fS:v2.cell? ⟨g,2,none⟩=some (.int .u64 (c.toNat:Int)):=by rw[Blk.cell Z.o];rfl
 have fM:v2.cell? ⟨g,3,none⟩=some (.int .u64 (d.toNat:Int)):=by rw[Blk.cell Z.o];rfl
 refine wp_region_still_tail 8 (by kernel_rfl) (by kernel_rfl) ?_;simp only[List.take_succ_cons,List.take_zero,List.drop_succ_cons,List.drop_zero];change wpStill _ _ v2.drew _ _ _
 repeat still_step
 still_call (l2 v2.drew)
 repeat still_step
 refine wpStill_nil ?_;change wpList _ _ _ _ _ v2.drew
 go_upto_region 3 with fail
 have cw:Blk (v2.setCell ⟨g,0,none⟩ (.int .u64 (a2.toNat:Int))).drew g 234 #[wv a2,wv b1,wv c,wv d]:=Blk.set Z.o 0 (wv a2);have ei:w.grownBy (v2.setCell ⟨g,0,none⟩ (.int .u64 (a2.toNat:Int))).drew (some g):=AZ (AU ey.o (.inl rfl) _);generalize (v2.setCell ⟨g,0,none⟩ (.int .u64 (a2.toNat:Int))).drew=v3 at cw ei⊢;clear fW ev fj fS fM l2;clear Z ey;have E:=I cw;clear cw;have et:=I ei;clear ei;have fY:=Blk.frozen E.o;have fI:v3.cell? ⟨g,0,none⟩=some (.int .u64 (a2.toNat:Int)):=by rw[Blk.cell E.o];rfl
 have fi:v3.cell? ⟨g,1,none⟩=some (.int .u64 (b1.toNat:Int)):=by rw[Blk.cell E.o];rfl
 have eM:v3.cell? ⟨g,2,none⟩=some (.int .u64 (c.toNat:Int)):=by rw[Blk.cell E.o];rfl
 have ep:v3.cell? ⟨g,3,none⟩=some (.int .u64 (d.toNat:Int)):=by rw[Blk.cell E.o];rfl
 have x3:=X3.o;have y3:=Y3.o;refine wp_region_still_tail 12 (by kernel_rfl) (by kernel_rfl) ?_;simp only[List.take_succ_cons,List.take_zero,List.drop_succ_cons,List.drop_zero];change wpStill _ _ v3.drew _ _ _
 repeat still_step
 refine wpStill_nil ?_;change wpList _ _ _ _ _ v3.drew
 go_upto_region 4 with fail
 have ed:Blk (v3.setCell ⟨g,2,none⟩ (.int .u64 (c1.toNat:Int))).drew g 234 #[wv a2,wv b1,wv c1,wv d]:=Blk.set E.o 2 (wv c1);have eb:w.grownBy (v3.setCell ⟨g,2,none⟩ (.int .u64 (c1.toNat:Int))).drew (some g):=AZ (AU et.o (.inl rfl) _);generalize (v3.setCell ⟨g,2,none⟩ (.int .u64 (c1.toNat:Int))).drew=v4 at ed eb⊢;clear fY fI fi eM ep x3 y3 X3 Y3;clear E et;have M:=I ed;clear ed;have er:=I eb;clear eb;have gh:=Blk.frozen M.o;have fz:v4.cell? ⟨g,0,none⟩=some (.int .u64 (a2.toNat:Int)):=by rw[Blk.cell M.o];rfl
 have eV:v4.cell? ⟨g,1,none⟩=some (.int .u64 (b1.toNat:Int)):=by rw[Blk.cell M.o];rfl
 have fN:v4.cell? ⟨g,2,none⟩=some (.int .u64 (c1.toNat:Int)):=by rw[Blk.cell M.o];rfl
 have eN:v4.cell? ⟨g,3,none⟩=some (.int .u64 (d.toNat:Int)):=by rw[Blk.cell M.o];rfl
 have x4:=X4.o;refine wp_region_still_tail 13 (by kernel_rfl) (by kernel_rfl) ?_;simp only[List.take_succ_cons,List.take_zero,List.drop_succ_cons,List.drop_zero];change wpStill _ _ v4.drew _ _ _
 repeat still_step
 still_call (l4 v4.drew)
 repeat still_step
 refine wpStill_nil ?_;change wpList _ _ _ _ _ v4.drew
 go_upto_region 5 with fail
 have cu:Blk (v4.setCell ⟨g,3,none⟩ (.int .u64 (d1.toNat:Int))).drew g 234 #[wv a2,wv b1,wv c1,wv d1]:=Blk.set M.o 3 (wv d1);have ef:w.grownBy (v4.setCell ⟨g,3,none⟩ (.int .u64 (d1.toNat:Int))).drew (some g):=AZ (AU er.o (.inl rfl) _);generalize (v4.setCell ⟨g,3,none⟩ (.int .u64 (d1.toNat:Int))).drew=v5 at cu ef⊢;clear gh fz eV fN eN x4 X4 l4;clear M er;have aw:=I cu;clear cu;have fb:=I ef;clear ef;have ga:=Blk.frozen aw.o;have eR:v5.cell? ⟨g,0,none⟩=some (.int .u64 (a2.toNat:Int)):=by rw[Blk.cell aw.o];rfl
 have eK:v5.cell? ⟨g,1,none⟩=some (.int .u64 (b1.toNat:Int)):=by rw[Blk.cell aw.o];rfl
 have fy:v5.cell? ⟨g,2,none⟩=some (.int .u64 (c1.toNat:Int)):=by rw[Blk.cell aw.o];rfl
 have fG:v5.cell? ⟨g,3,none⟩=some (.int .u64 (d1.toNat:Int)):=by rw[Blk.cell aw.o];rfl
 have x5:=X5.o;have y5:=Y5.o;refine wp_region_still_tail 12 (by kernel_rfl) (by kernel_rfl) ?_;simp only[List.take_succ_cons,List.take_zero,List.drop_succ_cons,List.drop_zero];change wpStill _ _ v5.drew _ _ _
 repeat still_step
 refine wpStill_nil ?_;change wpList _ _ _ _ _ v5.drew
 go_upto_region 6 with fail
 have cm:Blk (v5.setCell ⟨g,0,none⟩ (.int .u64 (a3.toNat:Int))).drew g 234 #[wv a3,wv b1,wv c1,wv d1]:=Blk.set aw.o 0 (wv a3);have cp:w.grownBy (v5.setCell ⟨g,0,none⟩ (.int .u64 (a3.toNat:Int))).drew (some g):=AZ (AU fb.o (.inl rfl) _);generalize (v5.setCell ⟨g,0,none⟩ (.int .u64 (a3.toNat:Int))).drew=v6 at cm cp⊢;clear ga eR eK fy fG x5 y5 X5 Y5;clear aw fb;have J:=I cm;clear cm;have fR:=I cp;clear cp;have gf:=Blk.frozen J.o;have fJ:v6.cell? ⟨g,0,none⟩=some (.int .u64 (a3.toNat:Int)):=by rw[Blk.cell J.o];rfl
 have ek:v6.cell? ⟨g,1,none⟩=some (.int .u64 (b1.toNat:Int)):=by rw[Blk.cell J.o];rfl
 have eH:v6.cell? ⟨g,2,none⟩=some (.int .u64 (c1.toNat:Int)):=by rw[Blk.cell J.o];rfl
 have fT:v6.cell? ⟨g,3,none⟩=some (.int .u64 (d1.toNat:Int)):=by rw[Blk.cell J.o];rfl
 have x6:=X6.o;refine wp_region_still_tail 13 (by kernel_rfl) (by kernel_rfl) ?_;simp only[List.take_succ_cons,List.take_zero,List.drop_succ_cons,List.drop_zero];change wpStill _ _ v6.drew _ _ _
 repeat still_step
 still_call (l6 v6.drew)
 repeat still_step
 refine wpStill_nil ?_;change wpList _ _ _ _ _ v6.drew
 go_upto_region 7 with fail
 have cn:Blk (v6.setCell ⟨g,3,none⟩ (.int .u64 (d2.toNat:Int))).drew g 234 #[wv a3,wv b1,wv c1,wv d2]:=Blk.set J.o 3 (wv d2);have cy:w.grownBy (v6.setCell ⟨g,3,none⟩ (.int .u64 (d2.toNat:Int))).drew (some g):=AZ (AU fR.o (.inl rfl) _);generalize (v6.setCell ⟨g,3,none⟩ (.int .u64 (d2.toNat:Int))).drew=v7 at cn cy⊢;clear gf fJ ek eH fT x6 X6 l6;clear J fR;have O:=I cn;clear cn;have ej:=I cy;clear cy;have gj:=Blk.frozen O.o;have fO:v7.cell? ⟨g,0,none⟩=some (.int .u64 (a3.toNat:Int)):=by rw[Blk.cell O.o];rfl
 have fK:v7.cell? ⟨g,1,none⟩=some (.int .u64 (b1.toNat:Int)):=by rw[Blk.cell O.o];rfl
 have eF:v7.cell? ⟨g,2,none⟩=some (.int .u64 (c1.toNat:Int)):=by rw[Blk.cell O.o];rfl
 have fv:v7.cell? ⟨g,3,none⟩=some (.int .u64 (d2.toNat:Int)):=by rw[Blk.cell O.o];rfl
 have x7:=X7.o;have y7:=Y7.o;refine wp_region_still_tail 12 (by kernel_rfl) (by kernel_rfl) ?_;simp only[List.take_succ_cons,List.take_zero,List.drop_succ_cons,List.drop_zero];change wpStill _ _ v7.drew _ _ _
 repeat still_step
 refine wpStill_nil ?_;change wpList _ _ _ _ _ v7.drew
 go_upto_region 8 with fail
 have cq:Blk (v7.setCell ⟨g,2,none⟩ (.int .u64 (c2.toNat:Int))).drew g 234 #[wv a3,wv b1,wv c2,wv d2]:=Blk.set O.o 2 (wv c2);have cr:w.grownBy (v7.setCell ⟨g,2,none⟩ (.int .u64 (c2.toNat:Int))).drew (some g):=AZ (AU ej.o (.inl rfl) _);generalize (v7.setCell ⟨g,2,none⟩ (.int .u64 (c2.toNat:Int))).drew=v8 at cq cr⊢;clear gj fO fK eF fv x7 y7 X7 Y7;clear O ej;have D:=I cq;clear cq;have eJ:=I cr;clear cr;have fU:=Blk.frozen D.o;have eP:v8.cell? ⟨g,0,none⟩=some (.int .u64 (a3.toNat:Int)):=by rw[Blk.cell D.o];rfl
 have eQ:v8.cell? ⟨g,1,none⟩=some (.int .u64 (b1.toNat:Int)):=by rw[Blk.cell D.o];rfl
 have eD:v8.cell? ⟨g,2,none⟩=some (.int .u64 (c2.toNat:Int)):=by rw[Blk.cell D.o];rfl
 have fQ:v8.cell? ⟨g,3,none⟩=some (.int .u64 (d2.toNat:Int)):=by rw[Blk.cell D.o];rfl
 have x8:=X8.o;refine wp_region_still_tail 13 (by kernel_rfl) (by kernel_rfl) ?_;simp only[List.take_succ_cons,List.take_zero,List.drop_succ_cons,List.drop_zero];change wpStill _ _ v8.drew _ _ _
 repeat still_step
 still_call (l8 v8.drew)
 repeat still_step
 refine wpStill_nil ?_;change wpList _ _ _ _ _ v8.drew
 go_upto_region 9 with fail
 have cj:Blk (v8.setCell ⟨g,1,none⟩ (.int .u64 (b2.toNat:Int))).drew g 234 #[wv a3,wv b2,wv c2,wv d2]:=Blk.set D.o 1 (wv b2);have ck:w.grownBy (v8.setCell ⟨g,1,none⟩ (.int .u64 (b2.toNat:Int))).drew (some g):=AZ (AU eJ.o (.inl rfl) _);generalize (v8.setCell ⟨g,1,none⟩ (.int .u64 (b2.toNat:Int))).drew=v9 at cj ck⊢;clear fU eP eQ eD fQ x8 X8 l8;clear D eJ;have N:=I cj;clear cj;have fu:=I ck;clear ck;have gi:=Blk.frozen N.o;have eW:v9.cell? ⟨g,0,none⟩=some (.int .u64 (a3.toNat:Int)):=by rw[Blk.cell N.o];rfl
 have ew:v9.cell? ⟨g,1,none⟩=some (.int .u64 (b2.toNat:Int)):=by rw[Blk.cell N.o];rfl
 have eu:v9.cell? ⟨g,2,none⟩=some (.int .u64 (c2.toNat:Int)):=by rw[Blk.cell N.o];rfl
 have ez:v9.cell? ⟨g,3,none⟩=some (.int .u64 (d2.toNat:Int)):=by rw[Blk.cell N.o];rfl
 refine wp_region_still_tail 8 (by kernel_rfl) (by kernel_rfl) ?_;simp only[List.take_succ_cons,List.take_zero,List.drop_succ_cons,List.drop_zero];change wpStill _ _ v9.drew _ _ _
 repeat still_step
 still_call (l9 v9.drew)
 repeat still_step
 refine wpStill_nil ?_;change wpList _ _ _ _ _ v9.drew
 go_wp2_with fail
 have fL:Blk (v9.setCell ⟨g,2,none⟩ (.int .u64 (c3.toNat:Int))).drew g 234 #[wv a3,wv b2,wv c3,wv d2]:=Blk.set N.o 2 (wv c3);have eB:w.grownBy (v9.setCell ⟨g,2,none⟩ (.int .u64 (c3.toNat:Int))).drew (some g):=AZ (AU fu.o (.inl rfl) _);clear gi eW ew eu ez l9;clear N fu;have fZ:=I fL;clear fL;have gb:=I eB;clear eB
 go_end0
 exact⟨rfl,by rw[eo.o];exact fZ.o,gb.o⟩
theorem JM (g:Nat) (s:V) (R N:Value) (m:Wd) (w:World) (hB:Blk w g 291 (JL s R N)) :
  Calls Tryz.prog 225 #[.pointer (some ⟨g,0,none⟩),wv m] w fun e w'=>e=.returned (.tuple #[])/\Blk w' g 291 (JL (addM s m) R N)/\w.grownBy w' (some g):=by
 obtain⟨a,b,c,d⟩:=s;obtain⟨E,ed⟩:∃x,x=d ^^^ m:=⟨_,rfl⟩;obtain⟨⟨a2,b2,c2,d2⟩,e2⟩:∃t,t=rnds 2 ⟨a,b,c,E⟩:=⟨_,rfl⟩;obtain⟨a3,ea⟩:∃x,x=a2 ^^^ m:=⟨_,rfl⟩;have F:addM ⟨a,b,c,d⟩ m=⟨a3,b2,c2,d2⟩:=by simp only[addM,<-ed,<-e2,<-ea]
 have x1:bits .xor .u64 (d.toNat:Int) (m.toNat:Int)=(E.toNat:Int):=by rw[ed];exact BB _ _
 have x2:bits .xor .u64 (a2.toNat:Int) (m.toNat:Int)=(a3.toNat:Int):=by rw[ea];exact BB _ _
 have O:=I F;clear F;have E2:=I e2;clear e2;clear ed ea;have fz:=hB.frozen;have k3:w.cell? ⟨g,3,none⟩=some (.int .u64 (d.toNat:Int)):=by rw[hB.cell];rfl
 have HB:=I (show Blk w g 291 #[wv a,wv b,wv c,wv d,R,N] from hB);clear hB;have HG:=I (World.grownBy.refl w (some g));go_enter Tryz.func225,Tryz.ntmps225
 go_upto_region 1 with fail
 have J:Blk (w.setCell ⟨g,3,none⟩ (.int .u64 (E.toNat:Int))) g 291 #[wv a,wv b,wv c,wv E,R,N]:=Blk.set HB.o 3 (wv E);have M:w.grownBy (w.setCell ⟨g,3,none⟩ (.int .u64 (E.toNat:Int))) (some g):=AU HG.o (.inl rfl) _;generalize w.setCell ⟨g,3,none⟩ (.int .u64 (E.toNat:Int))=v1 at J M⊢;have c1:=KG g 2 ⟨a,b,c,E⟩ R N v1 (by decide) J;rw[<-E2.o] at c1;have bz:=I M;clear J M fz k3 HB HG x1
 go_upto_region 2 with(go_at_call 226;refine Aj c1 ?_;rintro v2 ⟨D,Z⟩;clear c1;have k0:v2.cell? ⟨g,0,none⟩=some (.int .u64 (a2.toNat:Int)):=by{rw[D.cell];rfl};have bB:=D.frozen;have aw:=I D;have bx:=I Z;clear D Z)
 go_wp2_with fail
 go_end0
 exact⟨rfl,by rw[O.o];exact Blk.set aw.o 0 (wv a3),AU (World.grownBy.trans bz.o bx.o) (.inl rfl) _⟩
theorem ZS (g:Nat) (s:V) (m:Wd) (w:World) (hB:Blk w g 234 (DH s)) :
  Calls Tryz.prog 128 #[.pointer (some ⟨g,0,none⟩),wv m] w fun e w'=>e=.returned (.tuple #[])/\Blk w' g 234 (DH (addM s m))/\w.grownBy w' (some g):=by
 obtain⟨a,b,c,d⟩:=s;obtain⟨D,ed⟩:∃x,x=d ^^^ m:=⟨_,rfl⟩;obtain⟨t1,e1⟩:∃t,t=rnd ⟨a,b,c,D⟩:=⟨_,rfl⟩;obtain⟨⟨a2,b2,c2,d2⟩,e2⟩:∃t,t=rnd t1:=⟨_,rfl⟩;obtain⟨a3,ea⟩:∃x,x=a2 ^^^ m:=⟨_,rfl⟩;have hr:rnds 2 ⟨a,b,c,D⟩=⟨a2,b2,c2,d2⟩:=by rw[e2,e1];rfl
 have F:addM ⟨a,b,c,d⟩ m=⟨a3,b2,c2,d2⟩:=by simp only[addM,<-ed,hr,<-ea]
 have x1:bits .xor .u64 (d.toNat:Int) (m.toNat:Int)=(D.toNat:Int):=by rw[ed];exact BB _ _
 have x2:bits .xor .u64 (a2.toNat:Int) (m.toNat:Int)=(a3.toNat:Int):=by rw[ea];exact BB _ _
 have N:=I F;clear F hr;have E1:=I e1;clear e1;have E2:=I e2;clear e2;clear ed ea;have fz:=hB.frozen;have k3:w.cell? ⟨g,3,none⟩=some (.int .u64 (d.toNat:Int)):=by rw[hB.cell];rfl
 have HB:=I (show Blk w g 234 #[wv a,wv b,wv c,wv d] from hB);clear hB;have HG:=I (World.grownBy.refl w (some g));go_enter Tryz.func128,Tryz.ntmps128
 go_upto_region 0 with fail
 refine wp_region_still_tail 9 (by kernel_rfl) (by kernel_rfl) ?_;simp only[List.take_succ_cons,List.take_zero,List.drop_succ_cons,List.drop_zero];change wpStill _ _ w.drew _ _ _
 repeat still_step
 refine wpStill_nil ?_;change wpList _ _ _ _ _ w.drew
 go_upto_region 1 with fail
 have J:Blk (w.setCell ⟨g,3,none⟩ (.int .u64 (D.toNat:Int))).drew g 234 #[wv a,wv b,wv c,wv D]:=Blk.set HB.o 3 (wv D);have M:w.grownBy (w.setCell ⟨g,3,none⟩ (.int .u64 (D.toNat:Int))).drew (some g):=AZ (AU HG.o (.inl rfl) _);generalize (w.setCell ⟨g,3,none⟩ (.int .u64 (D.toNat:Int))).drew=v1 at J M⊢;have c1:=PJ g ⟨a,b,c,D⟩ v1 J;rw[<-E1.o] at c1;have ca:=I M;clear J M fz k3 HB HG x1
 go_upto_region 2 with(go_at_call 129;refine Aj c1 ?_;rintro v2 ⟨Z,aw⟩;clear c1;have c2:=PJ g t1 v2 Z;rw[<-E2.o] at c2;have bz:=I aw;clear Z aw)
 go_upto_region 3 with(go_at_call 129;refine Aj c2 ?_;rintro v3 ⟨E,O⟩;clear c2;have k0:v3.cell? ⟨g,0,none⟩=some (.int .u64 (a2.toNat:Int)):=by{rw[E.cell];rfl};have cb:=E.frozen;have bB:=I E;have bx:=I O;clear E O)
 refine wp_region_still_tail 9 (by kernel_rfl) (by kernel_rfl) ?_;simp only[List.take_succ_cons,List.take_zero,List.drop_succ_cons,List.drop_zero];change wpStill _ _ v3.drew _ _ _
 repeat still_step
 refine wpStill_nil ?_;change wpList _ _ _ _ _ v3.drew
 go_wp2_with fail
 go_end0
 exact⟨rfl,by rw[N.o];exact Blk.set bB.o 0 (wv a3),AZ (AU (World.grownBy.trans (World.grownBy.trans ca.o bz.o) bx.o) (.inl rfl) _)⟩
def stc (s:St):Array Value:=JL s.v (.int .u64 (s.r:Int)) (.int .u64 (s.n:Int))
theorem Ot (g:Nat) (s:St) (y:UInt8) (w:World) (hn:s.n<100000) (hr:s.r<256 ^ (s.n % 8)) (hB:Blk w g 291 (stc s)) :
  Calls Tryz.prog 208 #[.pointer (some ⟨g,0,none⟩),.int .u8 (y.toNat:Int)] w fun e w'=>e=.returned (.tuple #[])/\Blk w' g 291 (stc (addB s y))/\w.grownBy w' (some g):=by
 obtain⟨⟨a,b,c,d⟩,r,n⟩:=s;have hn:n<100000:=hn;have hr:r<256 ^ (n % 8):=hr;obtain⟨F,e2⟩:∃x,x=r+y.toNat*256 ^ (n % 8):=⟨_,rfl⟩;have hx:∀K:Int,K=((256 ^ (n % 8):Nat):Int)->bits .or .u64 (r:Int) (IntKind.u64.wrap ((y.toNat:Int)*K))=(F:Int):=fun K hK=>by
  rw[e2];refine Lz r y (n % 8) (by omega) hr _ ?_;have h1:=WI (n % 8) (by omega);have h2:=y.toNat_lt;have h3:y.toNat*256 ^ (n % 8)<=255*72057594037927936:=Nat.mul_le_mul (by omega) h1;rw[hK,IntKind.wrap_u64,<-Int.natCast_mul];omega
 have cf:F<18446744073709551616:=by
  have h1:=PH r y (n % 8) hr;have h2:(256:Nat) ^ (n % 8+1)<=256 ^ 8:=Nat.pow_le_pow_right (by decide) (by omega);have h3:(256:Nat) ^ 8=18446744073709551616:=by decide
  omega
 have cc:¬(n+1) % 8=0->stc (addB ⟨⟨a,b,c,d⟩,r,n⟩ y)=#[wv a,wv b,wv c,wv d,.int .u64 (F:Int),.int .u64 ((n:Int)+1)]:=fun h=>by
  rw[TC _ _ h,e2]
  rfl
 have ca:(n+1) % 8=0->stc (addB ⟨⟨a,b,c,d⟩,r,n⟩ y)=JL (addM ⟨a,b,c,d⟩ (wd F)) (.int .u64 0) (.int .u64 ((n:Int)+1)):=fun h=>by
  rw[PG _ _ h,e2]
  rfl
 have bz:=I cc;clear cc;have cd:=I ca;clear ca;have cj:=I cf;clear cf;have hy:IntKind.u64.wrap (y.toNat:Int)=(y.toNat:Int):=by rw[IntKind.wrap_u64];have:=y.toNat_lt;omega
 have Z:=hB.frozen;have k4:w.cell? ⟨g,4,none⟩=some (.int .u64 (r:Int)):=by rw[hB.cell];rfl
 have k5:w.cell? ⟨g,5,none⟩=some (.int .u64 (n:Int)):=by rw[hB.cell];rfl
 have HB:=I (show Blk w g 291 #[wv a,wv b,wv c,wv d,.int .u64 (r:Int),.int .u64 (n:Int)] from hB);clear hB;have HG:=I (World.grownBy.refl w (some g));have HN:=I hn;clear e2 hr;have hk:n % 8=0\/n % 8=1\/n % 8=2\/n % 8=3\/n % 8=4\/n % 8=5\/n % 8=6\/n % 8=7:=by omega
 have n0:(0:Int)<=(n:Int):=by omega
 have n1:(n:Int)<100000:=by omega
 clear hn;rcases hk with hk | hk | hk | hk | hk | hk | hk | hk
 ·have hx:=hx 1 (by rw[hk];decide)
  rw[Int.mul_one,hy] at hx;have m1:(n:Int).tmod 8=0:=by rw[Int.tmod_eq_emod_of_nonneg n0];omega
  have m2:((n:Int)+1).tmod 8=1:=by rw[Int.tmod_eq_emod_of_nonneg (by omega)];omega
  have m3:n % 8=0:=hk;have hw:IntKind.u64.wrap 0=0:=by kernel_rfl
  have m4:(n:Int) % 8=0:=by omega
  have m5:(n+1) % 8=1:=by omega
  have M5:=I m5;clear m5;clear hk;go_enter Tryz.func208,Tryz.ntmps208
  go_upto_region 0 with fail
  refine wp_region_still_tail 16 (by kernel_rfl) (by kernel_rfl) ?_;simp only[List.take_succ_cons,List.take_zero,List.drop_succ_cons,List.drop_zero];change wpStill _ _ w.drew _ _ _
  repeat still_step
  refine wpStill_nil ?_;change wpList _ _ _ _ _ w.drew
  go_upto_region 1 with fail
  have E:Blk (w.setCell ⟨g,4,none⟩ (.int .u64 (F:Int))).drew g 291 #[wv a,wv b,wv c,wv d,.int .u64 (F:Int),.int .u64 (n:Int)]:=Blk.set HB.o 4 (.int .u64 (F:Int));have J:w.grownBy (w.setCell ⟨g,4,none⟩ (.int .u64 (F:Int))).drew (some g):=AZ (AU HG.o (.inl rfl) _);generalize (w.setCell ⟨g,4,none⟩ (.int .u64 (F:Int))).drew=v1 at E J⊢;clear Z k4 k5 HB HG hx m1 m3 m4 hw hy;have Z:=E.frozen;have k5:v1.cell? ⟨g,5,none⟩=some (.int .u64 (n:Int)):=by rw[E.cell];rfl
  have N:=I E;clear E;have O:=I J;clear J
  go_upto_region 2 with fail
  have D:Blk (v1.setCell ⟨g,5,none⟩ (.int .u64 ((n:Int)+1))) g 291 #[wv a,wv b,wv c,wv d,.int .u64 (F:Int),.int .u64 ((n:Int)+1)]:=Blk.set N.o 5 (.int .u64 ((n:Int)+1));have M:w.grownBy (v1.setCell ⟨g,5,none⟩ (.int .u64 ((n:Int)+1))) (some g):=AU O.o (.inl rfl) _;generalize (v1.setCell ⟨g,5,none⟩ (.int .u64 ((n:Int)+1)))=v2 at D M⊢;clear Z k5 N O;have Z:=D.frozen;have k4:v2.cell? ⟨g,4,none⟩=some (.int .u64 (F:Int)):=by rw[D.cell];rfl
  have k5:v2.cell? ⟨g,5,none⟩=some (.int .u64 ((n:Int)+1)):=by rw[D.cell];rfl
  have aw:=I D;clear D;have bx:=I M;clear M
  go_wp2_with fail
  go_end0
  exact⟨rfl,by rw[bz.o (by have:=M5.o;omega)];exact aw.o,bx.o⟩
 ·have hx:=hx 256 (by rw[hk];decide)
  have m1:(n:Int).tmod 8=1:=by rw[Int.tmod_eq_emod_of_nonneg n0];omega
  have m2:((n:Int)+1).tmod 8=2:=by rw[Int.tmod_eq_emod_of_nonneg (by omega)];omega
  have m3:n % 8=1:=hk;have hw:IntKind.u64.wrap 8=8:=by kernel_rfl
  have m4:(n:Int) % 8=1:=by omega
  have m5:(n+1) % 8=2:=by omega
  have M5:=I m5;clear m5;clear hk;go_enter Tryz.func208,Tryz.ntmps208
  go_upto_region 0 with fail
  refine wp_region_still_tail 16 (by kernel_rfl) (by kernel_rfl) ?_;simp only[List.take_succ_cons,List.take_zero,List.drop_succ_cons,List.drop_zero];change wpStill _ _ w.drew _ _ _
  repeat still_step
  refine wpStill_nil ?_;change wpList _ _ _ _ _ w.drew
  go_upto_region 1 with fail
  have E:Blk (w.setCell ⟨g,4,none⟩ (.int .u64 (F:Int))).drew g 291 #[wv a,wv b,wv c,wv d,.int .u64 (F:Int),.int .u64 (n:Int)]:=Blk.set HB.o 4 (.int .u64 (F:Int));have J:w.grownBy (w.setCell ⟨g,4,none⟩ (.int .u64 (F:Int))).drew (some g):=AZ (AU HG.o (.inl rfl) _);generalize (w.setCell ⟨g,4,none⟩ (.int .u64 (F:Int))).drew=v1 at E J⊢;clear Z k4 k5 HB HG hx m1 m3 m4 hw hy;have Z:=E.frozen;have k5:v1.cell? ⟨g,5,none⟩=some (.int .u64 (n:Int)):=by rw[E.cell];rfl
  have N:=I E;clear E;have O:=I J;clear J
  go_upto_region 2 with fail
  have D:Blk (v1.setCell ⟨g,5,none⟩ (.int .u64 ((n:Int)+1))) g 291 #[wv a,wv b,wv c,wv d,.int .u64 (F:Int),.int .u64 ((n:Int)+1)]:=Blk.set N.o 5 (.int .u64 ((n:Int)+1));have M:w.grownBy (v1.setCell ⟨g,5,none⟩ (.int .u64 ((n:Int)+1))) (some g):=AU O.o (.inl rfl) _;generalize (v1.setCell ⟨g,5,none⟩ (.int .u64 ((n:Int)+1)))=v2 at D M⊢;clear Z k5 N O;have Z:=D.frozen;have k4:v2.cell? ⟨g,4,none⟩=some (.int .u64 (F:Int)):=by rw[D.cell];rfl
  have k5:v2.cell? ⟨g,5,none⟩=some (.int .u64 ((n:Int)+1)):=by rw[D.cell];rfl
  have aw:=I D;clear D;have bx:=I M;clear M
  go_wp2_with fail
  go_end0
  exact⟨rfl,by rw[bz.o (by have:=M5.o;omega)];exact aw.o,bx.o⟩
 ·have hx:=hx 65536 (by rw[hk];decide)
  have m1:(n:Int).tmod 8=2:=by rw[Int.tmod_eq_emod_of_nonneg n0];omega
  have m2:((n:Int)+1).tmod 8=3:=by rw[Int.tmod_eq_emod_of_nonneg (by omega)];omega
  have m3:n % 8=2:=hk;have hw:IntKind.u64.wrap 16=16:=by kernel_rfl
  have m4:(n:Int) % 8=2:=by omega
  have m5:(n+1) % 8=3:=by omega
  have M5:=I m5;clear m5;clear hk;go_enter Tryz.func208,Tryz.ntmps208
  go_upto_region 0 with fail
  refine wp_region_still_tail 16 (by kernel_rfl) (by kernel_rfl) ?_;simp only[List.take_succ_cons,List.take_zero,List.drop_succ_cons,List.drop_zero];change wpStill _ _ w.drew _ _ _
  repeat still_step
  refine wpStill_nil ?_;change wpList _ _ _ _ _ w.drew
  go_upto_region 1 with fail
  have E:Blk (w.setCell ⟨g,4,none⟩ (.int .u64 (F:Int))).drew g 291 #[wv a,wv b,wv c,wv d,.int .u64 (F:Int),.int .u64 (n:Int)]:=Blk.set HB.o 4 (.int .u64 (F:Int));have J:w.grownBy (w.setCell ⟨g,4,none⟩ (.int .u64 (F:Int))).drew (some g):=AZ (AU HG.o (.inl rfl) _);generalize (w.setCell ⟨g,4,none⟩ (.int .u64 (F:Int))).drew=v1 at E J⊢;clear Z k4 k5 HB HG hx m1 m3 m4 hw hy;have Z:=E.frozen;have k5:v1.cell? ⟨g,5,none⟩=some (.int .u64 (n:Int)):=by rw[E.cell];rfl
  have N:=I E;clear E;have O:=I J;clear J
  go_upto_region 2 with fail
  have D:Blk (v1.setCell ⟨g,5,none⟩ (.int .u64 ((n:Int)+1))) g 291 #[wv a,wv b,wv c,wv d,.int .u64 (F:Int),.int .u64 ((n:Int)+1)]:=Blk.set N.o 5 (.int .u64 ((n:Int)+1));have M:w.grownBy (v1.setCell ⟨g,5,none⟩ (.int .u64 ((n:Int)+1))) (some g):=AU O.o (.inl rfl) _;generalize (v1.setCell ⟨g,5,none⟩ (.int .u64 ((n:Int)+1)))=v2 at D M⊢;clear Z k5 N O;have Z:=D.frozen;have k4:v2.cell? ⟨g,4,none⟩=some (.int .u64 (F:Int)):=by rw[D.cell];rfl
  have k5:v2.cell? ⟨g,5,none⟩=some (.int .u64 ((n:Int)+1)):=by rw[D.cell];rfl
  have aw:=I D;clear D;have bx:=I M;clear M
  go_wp2_with fail
  go_end0
  exact⟨rfl,by rw[bz.o (by have:=M5.o;omega)];exact aw.o,bx.o⟩
 ·have hx:=hx 16777216 (by rw[hk];decide)
  have m1:(n:Int).tmod 8=3:=by rw[Int.tmod_eq_emod_of_nonneg n0];omega
  have m2:((n:Int)+1).tmod 8=4:=by rw[Int.tmod_eq_emod_of_nonneg (by omega)];omega
  have m3:n % 8=3:=hk;have hw:IntKind.u64.wrap 24=24:=by kernel_rfl
  have m4:(n:Int) % 8=3:=by omega
  have m5:(n+1) % 8=4:=by omega
  have M5:=I m5;clear m5;clear hk;go_enter Tryz.func208,Tryz.ntmps208
  go_upto_region 0 with fail
  refine wp_region_still_tail 16 (by kernel_rfl) (by kernel_rfl) ?_;simp only[List.take_succ_cons,List.take_zero,List.drop_succ_cons,List.drop_zero];change wpStill _ _ w.drew _ _ _
  repeat still_step
  refine wpStill_nil ?_;change wpList _ _ _ _ _ w.drew
  go_upto_region 1 with fail
  have E:Blk (w.setCell ⟨g,4,none⟩ (.int .u64 (F:Int))).drew g 291 #[wv a,wv b,wv c,wv d,.int .u64 (F:Int),.int .u64 (n:Int)]:=Blk.set HB.o 4 (.int .u64 (F:Int));have J:w.grownBy (w.setCell ⟨g,4,none⟩ (.int .u64 (F:Int))).drew (some g):=AZ (AU HG.o (.inl rfl) _);generalize (w.setCell ⟨g,4,none⟩ (.int .u64 (F:Int))).drew=v1 at E J⊢;clear Z k4 k5 HB HG hx m1 m3 m4 hw hy;have Z:=E.frozen;have k5:v1.cell? ⟨g,5,none⟩=some (.int .u64 (n:Int)):=by rw[E.cell];rfl
  have N:=I E;clear E;have O:=I J;clear J
  go_upto_region 2 with fail
  have D:Blk (v1.setCell ⟨g,5,none⟩ (.int .u64 ((n:Int)+1))) g 291 #[wv a,wv b,wv c,wv d,.int .u64 (F:Int),.int .u64 ((n:Int)+1)]:=Blk.set N.o 5 (.int .u64 ((n:Int)+1));have M:w.grownBy (v1.setCell ⟨g,5,none⟩ (.int .u64 ((n:Int)+1))) (some g):=AU O.o (.inl rfl) _;generalize (v1.setCell ⟨g,5,none⟩ (.int .u64 ((n:Int)+1)))=v2 at D M⊢;clear Z k5 N O;have Z:=D.frozen;have k4:v2.cell? ⟨g,4,none⟩=some (.int .u64 (F:Int)):=by rw[D.cell];rfl
  have k5:v2.cell? ⟨g,5,none⟩=some (.int .u64 ((n:Int)+1)):=by rw[D.cell];rfl
  have aw:=I D;clear D;have bx:=I M;clear M
  go_wp2_with fail
  go_end0
  exact⟨rfl,by rw[bz.o (by have:=M5.o;omega)];exact aw.o,bx.o⟩
 ·have hx:=hx 4294967296 (by rw[hk];decide)
  have m1:(n:Int).tmod 8=4:=by rw[Int.tmod_eq_emod_of_nonneg n0];omega
  have m2:((n:Int)+1).tmod 8=5:=by rw[Int.tmod_eq_emod_of_nonneg (by omega)];omega
  have m3:n % 8=4:=hk;have hw:IntKind.u64.wrap 32=32:=by kernel_rfl
  have m4:(n:Int) % 8=4:=by omega
  have m5:(n+1) % 8=5:=by omega
  have M5:=I m5;clear m5;clear hk;go_enter Tryz.func208,Tryz.ntmps208
  go_upto_region 0 with fail
  refine wp_region_still_tail 16 (by kernel_rfl) (by kernel_rfl) ?_;simp only[List.take_succ_cons,List.take_zero,List.drop_succ_cons,List.drop_zero];change wpStill _ _ w.drew _ _ _
  repeat still_step
  refine wpStill_nil ?_;change wpList _ _ _ _ _ w.drew
  go_upto_region 1 with fail
  have E:Blk (w.setCell ⟨g,4,none⟩ (.int .u64 (F:Int))).drew g 291 #[wv a,wv b,wv c,wv d,.int .u64 (F:Int),.int .u64 (n:Int)]:=Blk.set HB.o 4 (.int .u64 (F:Int));have J:w.grownBy (w.setCell ⟨g,4,none⟩ (.int .u64 (F:Int))).drew (some g):=AZ (AU HG.o (.inl rfl) _);generalize (w.setCell ⟨g,4,none⟩ (.int .u64 (F:Int))).drew=v1 at E J⊢;clear Z k4 k5 HB HG hx m1 m3 m4 hw hy;have Z:=E.frozen;have k5:v1.cell? ⟨g,5,none⟩=some (.int .u64 (n:Int)):=by rw[E.cell];rfl
  have N:=I E;clear E;have O:=I J;clear J
  go_upto_region 2 with fail
  have D:Blk (v1.setCell ⟨g,5,none⟩ (.int .u64 ((n:Int)+1))) g 291 #[wv a,wv b,wv c,wv d,.int .u64 (F:Int),.int .u64 ((n:Int)+1)]:=Blk.set N.o 5 (.int .u64 ((n:Int)+1));have M:w.grownBy (v1.setCell ⟨g,5,none⟩ (.int .u64 ((n:Int)+1))) (some g):=AU O.o (.inl rfl) _;generalize (v1.setCell ⟨g,5,none⟩ (.int .u64 ((n:Int)+1)))=v2 at D M⊢;clear Z k5 N O;have Z:=D.frozen;have k4:v2.cell? ⟨g,4,none⟩=some (.int .u64 (F:Int)):=by rw[D.cell];rfl
  have k5:v2.cell? ⟨g,5,none⟩=some (.int .u64 ((n:Int)+1)):=by rw[D.cell];rfl
  have aw:=I D;clear D;have bx:=I M;clear M
  go_wp2_with fail
  go_end0
  exact⟨rfl,by rw[bz.o (by have:=M5.o;omega)];exact aw.o,bx.o⟩
 ·have hx:=hx 1099511627776 (by rw[hk];decide)
  have m1:(n:Int).tmod 8=5:=by rw[Int.tmod_eq_emod_of_nonneg n0];omega
  have m2:((n:Int)+1).tmod 8=6:=by rw[Int.tmod_eq_emod_of_nonneg (by omega)];omega
  have m3:n % 8=5:=hk;have hw:IntKind.u64.wrap 40=40:=by kernel_rfl
  have m4:(n:Int) % 8=5:=by omega
  have m5:(n+1) % 8=6:=by omega
  have M5:=I m5;clear m5;clear hk;go_enter Tryz.func208,Tryz.ntmps208
  go_upto_region 0 with fail
  refine wp_region_still_tail 16 (by kernel_rfl) (by kernel_rfl) ?_;simp only[List.take_succ_cons,List.take_zero,List.drop_succ_cons,List.drop_zero];change wpStill _ _ w.drew _ _ _
  repeat still_step
  refine wpStill_nil ?_;change wpList _ _ _ _ _ w.drew
  go_upto_region 1 with fail
  have E:Blk (w.setCell ⟨g,4,none⟩ (.int .u64 (F:Int))).drew g 291 #[wv a,wv b,wv c,wv d,.int .u64 (F:Int),.int .u64 (n:Int)]:=Blk.set HB.o 4 (.int .u64 (F:Int));have J:w.grownBy (w.setCell ⟨g,4,none⟩ (.int .u64 (F:Int))).drew (some g):=AZ (AU HG.o (.inl rfl) _);generalize (w.setCell ⟨g,4,none⟩ (.int .u64 (F:Int))).drew=v1 at E J⊢;clear Z k4 k5 HB HG hx m1 m3 m4 hw hy;have Z:=E.frozen;have k5:v1.cell? ⟨g,5,none⟩=some (.int .u64 (n:Int)):=by rw[E.cell];rfl
  have N:=I E;clear E;have O:=I J;clear J
  go_upto_region 2 with fail
  have D:Blk (v1.setCell ⟨g,5,none⟩ (.int .u64 ((n:Int)+1))) g 291 #[wv a,wv b,wv c,wv d,.int .u64 (F:Int),.int .u64 ((n:Int)+1)]:=Blk.set N.o 5 (.int .u64 ((n:Int)+1));have M:w.grownBy (v1.setCell ⟨g,5,none⟩ (.int .u64 ((n:Int)+1))) (some g):=AU O.o (.inl rfl) _;generalize (v1.setCell ⟨g,5,none⟩ (.int .u64 ((n:Int)+1)))=v2 at D M⊢;clear Z k5 N O;have Z:=D.frozen;have k4:v2.cell? ⟨g,4,none⟩=some (.int .u64 (F:Int)):=by rw[D.cell];rfl
  have k5:v2.cell? ⟨g,5,none⟩=some (.int .u64 ((n:Int)+1)):=by rw[D.cell];rfl
  have aw:=I D;clear D;have bx:=I M;clear M
  go_wp2_with fail
  go_end0
  exact⟨rfl,by rw[bz.o (by have:=M5.o;omega)];exact aw.o,bx.o⟩
 ·have hx:=hx 281474976710656 (by rw[hk];decide)
  have m1:(n:Int).tmod 8=6:=by rw[Int.tmod_eq_emod_of_nonneg n0];omega
  have m2:((n:Int)+1).tmod 8=7:=by rw[Int.tmod_eq_emod_of_nonneg (by omega)];omega
  have m3:n % 8=6:=hk;have hw:IntKind.u64.wrap 48=48:=by kernel_rfl
  have m4:(n:Int) % 8=6:=by omega
  have m5:(n+1) % 8=7:=by omega
  have M5:=I m5;clear m5;clear hk;go_enter Tryz.func208,Tryz.ntmps208
  go_upto_region 0 with fail
  refine wp_region_still_tail 16 (by kernel_rfl) (by kernel_rfl) ?_;simp only[List.take_succ_cons,List.take_zero,List.drop_succ_cons,List.drop_zero];change wpStill _ _ w.drew _ _ _
  repeat still_step
  refine wpStill_nil ?_;change wpList _ _ _ _ _ w.drew
  go_upto_region 1 with fail
  have E:Blk (w.setCell ⟨g,4,none⟩ (.int .u64 (F:Int))).drew g 291 #[wv a,wv b,wv c,wv d,.int .u64 (F:Int),.int .u64 (n:Int)]:=Blk.set HB.o 4 (.int .u64 (F:Int));have J:w.grownBy (w.setCell ⟨g,4,none⟩ (.int .u64 (F:Int))).drew (some g):=AZ (AU HG.o (.inl rfl) _);generalize (w.setCell ⟨g,4,none⟩ (.int .u64 (F:Int))).drew=v1 at E J⊢;clear Z k4 k5 HB HG hx m1 m3 m4 hw hy;have Z:=E.frozen;have k5:v1.cell? ⟨g,5,none⟩=some (.int .u64 (n:Int)):=by rw[E.cell];rfl
  have N:=I E;clear E;have O:=I J;clear J
  go_upto_region 2 with fail
  have D:Blk (v1.setCell ⟨g,5,none⟩ (.int .u64 ((n:Int)+1))) g 291 #[wv a,wv b,wv c,wv d,.int .u64 (F:Int),.int .u64 ((n:Int)+1)]:=Blk.set N.o 5 (.int .u64 ((n:Int)+1));have M:w.grownBy (v1.setCell ⟨g,5,none⟩ (.int .u64 ((n:Int)+1))) (some g):=AU O.o (.inl rfl) _;generalize (v1.setCell ⟨g,5,none⟩ (.int .u64 ((n:Int)+1)))=v2 at D M⊢;clear Z k5 N O;have Z:=D.frozen;have k4:v2.cell? ⟨g,4,none⟩=some (.int .u64 (F:Int)):=by rw[D.cell];rfl
  have k5:v2.cell? ⟨g,5,none⟩=some (.int .u64 ((n:Int)+1)):=by rw[D.cell];rfl
  have aw:=I D;clear D;have bx:=I M;clear M
  go_wp2_with fail
  go_end0
  exact⟨rfl,by rw[bz.o (by have:=M5.o;omega)];exact aw.o,bx.o⟩
 ·have hx:=hx 72057594037927936 (by rw[hk];decide)
  have m1:(n:Int).tmod 8=7:=by rw[Int.tmod_eq_emod_of_nonneg n0];omega
  have m2:((n:Int)+1).tmod 8=0:=by rw[Int.tmod_eq_emod_of_nonneg (by omega)];omega
  have m3:n % 8=7:=hk;have hw:IntKind.u64.wrap 56=56:=by kernel_rfl
  have m4:(n:Int) % 8=7:=by omega
  have m5:(n+1) % 8=0:=by omega
  have M5:=I m5;clear m5;clear hk;go_enter Tryz.func208,Tryz.ntmps208
  go_upto_region 0 with fail
  refine wp_region_still_tail 16 (by kernel_rfl) (by kernel_rfl) ?_;simp only[List.take_succ_cons,List.take_zero,List.drop_succ_cons,List.drop_zero];change wpStill _ _ w.drew _ _ _
  repeat still_step
  refine wpStill_nil ?_;change wpList _ _ _ _ _ w.drew
  go_upto_region 1 with fail
  have E:Blk (w.setCell ⟨g,4,none⟩ (.int .u64 (F:Int))).drew g 291 #[wv a,wv b,wv c,wv d,.int .u64 (F:Int),.int .u64 (n:Int)]:=Blk.set HB.o 4 (.int .u64 (F:Int));have J:w.grownBy (w.setCell ⟨g,4,none⟩ (.int .u64 (F:Int))).drew (some g):=AZ (AU HG.o (.inl rfl) _);generalize (w.setCell ⟨g,4,none⟩ (.int .u64 (F:Int))).drew=v1 at E J⊢;clear Z k4 k5 HB HG hx m1 m3 m4 hw hy;have Z:=E.frozen;have k5:v1.cell? ⟨g,5,none⟩=some (.int .u64 (n:Int)):=by rw[E.cell];rfl
  have N:=I E;clear E;have O:=I J;clear J
  go_upto_region 2 with fail
  have D:Blk (v1.setCell ⟨g,5,none⟩ (.int .u64 ((n:Int)+1))) g 291 #[wv a,wv b,wv c,wv d,.int .u64 (F:Int),.int .u64 ((n:Int)+1)]:=Blk.set N.o 5 (.int .u64 ((n:Int)+1));have M:w.grownBy (v1.setCell ⟨g,5,none⟩ (.int .u64 ((n:Int)+1))) (some g):=AU O.o (.inl rfl) _;generalize (v1.setCell ⟨g,5,none⟩ (.int .u64 ((n:Int)+1)))=v2 at D M⊢;clear Z k5 N O;have Z:=D.frozen;have k4:v2.cell? ⟨g,4,none⟩=some (.int .u64 (F:Int)):=by rw[D.cell];rfl
  have k5:v2.cell? ⟨g,5,none⟩=some (.int .u64 ((n:Int)+1)):=by rw[D.cell];rfl
  have aw:=I D;clear D;have bx:=I M;clear M;have c1:=JM g ⟨a,b,c,d⟩ (.int .u64 (F:Int)) (.int .u64 ((n:Int)+1)) (wd F) v2 aw.o;rw[wv,KF F cj.o] at c1
  go_wp2_with (go_at_call 225;refine Aj c1 ?_;rintro v3 ⟨bB,cb⟩;clear c1;have k4:v3.cell? ⟨g,4,none⟩=some (.int .u64 (F:Int)):=by{rw[bB.cell];rfl};have Z:=bB.frozen;have ck:=I bB;have cg:=I cb;clear bB cb)
  go_end0
  exact⟨rfl,by rw[cd.o M5.o];exact Blk.set ck.o 4 (.int .u64 0),AU (World.grownBy.trans bx.o cg.o) (.inl rfl) _⟩
theorem MT (s:St) (D:s.r<72057594037927936):(Rc s).toNat=s.r+s.n % 256*72057594037927936:=KF _ (by omega)
theorem ZT (g:Nat) (s:St) (w:World) (hr:s.r<72057594037927936) (hB:Blk w g 291 (stc s)) :
  Calls Tryz.prog 209 #[.pointer (some ⟨g,0,none⟩)] w fun e w'=>e=.returned (wv (finS s))/\w.grownBy w' (some g):=by
 have hl:=MT s hr;have hx:=PI s.r s.n hr;rw[<-hl,<-IntKind.wrap_u64] at hx;obtain⟨lw,el⟩:∃x,x=Rc s:=⟨_,rfl⟩;obtain⟨⟨a,b,c,d⟩,e1⟩:∃t,t=addM s.v lw:=⟨_,rfl⟩;obtain⟨c1,ec⟩:∃x,x=c ^^^ 255#64:=⟨_,rfl⟩;obtain⟨⟨a2,b2,c2,d2⟩,e2⟩:∃t,t=rnds 4 ⟨a,b,c1,d⟩:=⟨_,rfl⟩;obtain⟨q1,O⟩:∃x,x=a2 ^^^ b2:=⟨_,rfl⟩;obtain⟨q2,aw⟩:∃x,x=q1 ^^^ c2:=⟨_,rfl⟩;obtain⟨q3,M⟩:∃x,x=q2 ^^^ d2:=⟨_,rfl⟩;have J:finS s=q3:=by rw[finS,<-el,<-e1,fin,<-ec,<-e2,allX,<-O,<-aw,<-M]
 have x0:bits .xor .u64 (c.toNat:Int) 255=(c1.toNat:Int):=by rw[ec];exact BB c 255#64
 have x1:bits .xor .u64 (a2.toNat:Int) (b2.toNat:Int)=(q1.toNat:Int):=by rw[O];exact BB _ _
 have x2:bits .xor .u64 (q1.toNat:Int) (c2.toNat:Int)=(q2.toNat:Int):=by rw[aw];exact BB _ _
 have x3:bits .xor .u64 (q2.toNat:Int) (d2.toNat:Int)=(q3.toNat:Int):=by rw[M];exact BB _ _
 rw[<-el] at hx;obtain⟨v,r,n⟩:=s;have hx:bits .or .u64 (r:Int) (IntKind.u64.wrap ((n:Int)*72057594037927936))=(lw.toNat:Int):=hx;have e1:⟨a,b,c,d⟩=addM v lw:=e1;have ca:=JM g v (.int .u64 (r:Int)) (.int .u64 (n:Int)) lw w.drew (Blk.drewN hB 1);rw[<-e1] at ca;have bz:=I J;clear J;have E2:=I e2;clear e2;have k4:w.cell? ⟨g,4,none⟩=some (.int .u64 (r:Int)):=by rw[hB.cell];rfl
 have k5:w.cell? ⟨g,5,none⟩=some (.int .u64 (n:Int)):=by rw[hB.cell];rfl
 have fz:=hB.frozen;have bB:=I x0;clear x0;have ck:=I x1;clear x1;have cn:=I x2;clear x2;have cm:=I x3;clear x3;clear el e1 ec O aw M hl hr hB;go_enter Tryz.func209,Tryz.ntmps209
 go_upto_region 1 with fail
 refine wp_region_still_tail 11 (by kernel_rfl) (by kernel_rfl) ?_;simp only[List.take_succ_cons,List.take_zero,List.drop_succ_cons,List.drop_zero];change wpStill _ _ w.drew _ _ _
 repeat still_step
 refine wpStill_nil ?_;change wpList _ _ _ _ _ w.drew;clear hx k4 k5 fz
 go_upto_region 2 with(go_at_call 225;refine Aj ca ?_;rintro v1 ⟨E,D⟩;clear ca;have D:w.grownBy v1 (some g):=⟨D.os,D.tape,D.output,D.size,D.block⟩;have k2:v1.cell? ⟨g,2,none⟩=some (.int .u64 (c.toNat:Int)):=by{rw[E.cell];rfl};have fz:=E.frozen;have cd:=I E;have cb:=I D;clear E D)
 have x0:=bB.o;clear bB
 go_upto_region 3 with fail
 have Z:Blk (v1.setCell ⟨g,2,none⟩ (.int .u64 (c1.toNat:Int))) g 291 #[wv a,wv b,wv c1,wv d,.int .u64 (r:Int),.int .u64 (n:Int)]:=Blk.set cd.o 2 (wv c1);have bx:w.grownBy (v1.setCell ⟨g,2,none⟩ (.int .u64 (c1.toNat:Int))) (some g):=AU cb.o (.inl rfl) _;generalize (v1.setCell ⟨g,2,none⟩ (.int .u64 (c1.toNat:Int)))=v2 at Z bx⊢;have N:=KG g 4 ⟨a,b,c1,d⟩ (.int .u64 (r:Int)) (.int .u64 (n:Int)) v2 (by decide) Z;rw[<-E2.o] at N;have cj:=I bx;clear Z bx fz k2 cd cb x0
 go_upto_region 4 with(go_at_call 226;refine Aj N ?_;rintro v3 ⟨cf,cc⟩;clear N;have F:=I cf;have cg:=I cc;clear cf cc)
 have k0:v3.cell? ⟨g,0,none⟩=some (.int .u64 (a2.toNat:Int)):=by rw[F.o.cell];rfl
 have k1:v3.cell? ⟨g,1,none⟩=some (.int .u64 (b2.toNat:Int)):=by rw[F.o.cell];rfl
 have k2:v3.cell? ⟨g,2,none⟩=some (.int .u64 (c2.toNat:Int)):=by rw[F.o.cell];rfl
 have k3:v3.cell? ⟨g,3,none⟩=some (.int .u64 (d2.toNat:Int)):=by rw[F.o.cell];rfl
 have x1:=ck.o;have x2:=cn.o;have x3:=cm.o;refine wp_region_still_lit (by kernel_rfl) (by kernel_rfl) ?_;change wpStill _ _ v3.drew _ _ _
 repeat still_step
 refine wpStill_nil ?_
 try change _ v3.drew
 go_wp2_with fail
 go_ret;exact⟨by rw[bz.o];rfl,AZ (World.grownBy.trans cj.o cg.o)⟩
theorem Blk.new_of (w:World) (g:Nat) (t:TypeId) (cs D:Array Value) (e:cs=D) (E:w.heap.size=g):Blk (w.alloc (.cells cs t)) g t D:=E▸e▸Blk.new w t cs
theorem Az {B:Nat} {a w:World} (h:Below B a w) {p:Addr} (hp:B<=p.block) (u:Value):Below B a (w.setCell p u):=
 ⟨h.os,h.tape,h.output,by simpa [World.setCell] using h.size,fun i hi=>(Below.heap_setCell w p u i (by omega)).trans (h.block i hi)⟩
theorem AD {P:Program} {fn:Func} {tmps:Array Value} {w:World} {v:Value} (t:Nat) (ty:TypeId) (a:Addr) (D:fn.results=#[.cell t ty]) (J:tmps.getD t undef=.pointer (some a)) (F:(loadVar ty a).run P w=.ok v w) :
  (results fn tmps).run P w=.ok v w:=by
 have E:tmps[t]?.getD undef=.pointer (some a):=by simpa using J
 simp [results,D,E,asAddr,F]
theorem Al {P:Program} {w:World} {g:Nat} {t ty:TypeId} {cs:Array Value} {d:TypeDesc} (h:Blk w g t cs) (hu:P.underlying ty=some d) (E:d.isRow=true) (hi:(P.info? ty).map (·.size)=some cs.size) :
  (loadVar ty ⟨g,0,none⟩).run P w=.ok (.agg cs) w:=by
 have F:w.rangeAt g 0 cs.toList:=fun j v D=>by rw[Nat.zero_add,h.cell];simpa using D
 have:=run_loadVar_mid (P:=P) w g 0 ty cs.toList d F hu E (by simpa using hi)
 simpa using this
def AK (ks:Nat->UInt8):Array Value:=((List.range 16).map (fun i=>bv (ks i))).toArray
theorem Blk.far {w:World} {g:Nat} {t:TypeId} {cs:Array Value} (h:Blk w g t cs) (p:Addr) (u:Value) (hp:p.block≠g):Blk (w.setCell p u) g t cs:=
 (Below.heap_setCell w p u g (fun e=>hp e.symm)).trans h
theorem Ae {w:World} {g:Nat} {t:TypeId} {cs:Array Value} (h:Blk w g t cs):w.rangeAt g 0 cs.toList:=fun j v D=>by
 rw[Nat.zero_add,h.cell];simpa using D
theorem Ao {w:World} {g:Nat} {t:TypeId} {cs:Array Value} (h:Blk w g t cs):w.there g 0 cs.size:=fun j D=>by
 rw[Nat.zero_add];exact⟨by rw[h.cell,Array.getElem?_eq_getElem D];rfl,h.frozen j⟩
theorem Bt {B:Nat} {a:World} (b:Nat) (D:B<=b):∀(E:List Value) (o:Nat) (w:World),Below B a w->Below B a (w.setCells b o E)
 | [],_,_,h=>h
 |v :: r,o,w,h=>Bt b D r (o+1) _ (Az h D v)
def ksOf (l:List UInt8) (i:Nat):UInt8:=l.getD i 0
theorem FP (f:Nat->UInt8) (j:Nat) (D:j<16):(AK f)[j]? = some (bv (f j)):=by
 rw[AK,List.getElem?_toArray];simp [D]
theorem k16 {w':World} {B:Nat} {t:TypeId} {ks:Nat->UInt8} (h:Blk w' B t (AK ks)):w'.cell? ⟨B,0,none⟩=some (.int .u8 ((ks 0).toNat:Int))/\w'.cell? ⟨B,1,none⟩=some (.int .u8 ((ks 1).toNat:Int))/\w'.cell? ⟨B,2,none⟩=some (.int .u8 ((ks 2).toNat:Int))/\w'.cell? ⟨B,3,none⟩=some (.int .u8 ((ks 3).toNat:Int))/\w'.cell? ⟨B,4,none⟩=some (.int .u8 ((ks 4).toNat:Int))/\w'.cell? ⟨B,5,none⟩=some (.int .u8 ((ks 5).toNat:Int))/\w'.cell? ⟨B,6,none⟩=some (.int .u8 ((ks 6).toNat:Int))/\w'.cell? ⟨B,7,none⟩=some (.int .u8 ((ks 7).toNat:Int))/\w'.cell? ⟨B,8,none⟩=some (.int .u8 ((ks 8).toNat:Int))/\w'.cell? ⟨B,9,none⟩=some (.int .u8 ((ks 9).toNat:Int))/\w'.cell? ⟨B,10,none⟩=some (.int .u8 ((ks 10).toNat:Int))/\w'.cell? ⟨B,11,none⟩=some (.int .u8 ((ks 11).toNat:Int))/\w'.cell? ⟨B,12,none⟩=some (.int .u8 ((ks 12).toNat:Int))/\w'.cell? ⟨B,13,none⟩=some (.int .u8 ((ks 13).toNat:Int))/\w'.cell? ⟨B,14,none⟩=some (.int .u8 ((ks 14).toNat:Int))/\w'.cell? ⟨B,15,none⟩=some (.int .u8 ((ks 15).toNat:Int)):=by
 refine⟨?_,?_,?_,?_,?_,?_,?_,?_,?_,?_,?_,?_,?_,?_,?_,?_⟩<;>(rw[h.cell];rfl)
theorem MU (w:World) (g:Nat) (a b c d e f:Value):w.setCells g 0 [a,b,c,d,e,f]=(((((w.setCell ⟨g,0,none⟩ a).setCell ⟨g,1,none⟩ b).setCell ⟨g,2,none⟩ c).setCell ⟨g,3,none⟩ d).setCell ⟨g,4,none⟩ e).setCell ⟨g,5,none⟩ f:=rfl
theorem Blk.set6 {w:World} {g:Nat} {t:TypeId} {a b c d e f D J c' E M F:Value} (h:Blk w g t #[D,J,c',E,M,F]):Blk (w.setCells g 0 [a,b,c,d,e,f]) g t #[a,b,c,d,e,f]:=by
 rw[MU];have:=(((((h.set 0 a).set 1 b).set 2 c).set 3 d).set 4 e).set 5 f
 simpa using this
def cE:Array Value:=#[.int .u64 0,.int .u64 0,.int .u64 0,.int .u64 0,.int .u64 0,.int .u64 0]
theorem TF (ks:Nat->UInt8) (w:World):Calls Tryz.prog 207 #[.agg (AK ks)] w fun e w'=>e=.returned (.agg (stc ⟨start ks,0,0⟩))/\Below w.heap.size w w':=by
 have hk:AK ks=#[.int .u8 ((ks 0).toNat:Int),.int .u8 ((ks 1).toNat:Int),.int .u8 ((ks 2).toNat:Int),.int .u8 ((ks 3).toNat:Int),.int .u8 ((ks 4).toNat:Int),.int .u8 ((ks 5).toNat:Int),.int .u8 ((ks 6).toNat:Int),.int .u8 ((ks 7).toNat:Int),.int .u8 ((ks 8).toNat:Int),.int .u8 ((ks 9).toNat:Int),.int .u8 ((ks 10).toNat:Int),.int .u8 ((ks 11).toNat:Int),.int .u8 ((ks 12).toNat:Int),.int .u8 ((ks 13).toNat:Int),.int .u8 ((ks 14).toNat:Int),.int .u8 ((ks 15).toNat:Int)]:=rfl;have cA:∀w,Calls Tryz.prog 224 #[.agg #[.int .u8 ((ks 0).toNat:Int),.int .u8 ((ks 1).toNat:Int),.int .u8 ((ks 2).toNat:Int),.int .u8 ((ks 3).toNat:Int),.int .u8 ((ks 4).toNat:Int),.int .u8 ((ks 5).toNat:Int),.int .u8 ((ks 6).toNat:Int),.int .u8 ((ks 7).toNat:Int)]] w fun e w'=>e=.returned (wv (kA ks))/\Below w.heap.size w w':=fun w=>Dv ks w
 have cB:∀w,Calls Tryz.prog 224 #[.agg #[.int .u8 ((ks 8).toNat:Int),.int .u8 ((ks 9).toNat:Int),.int .u8 ((ks 10).toNat:Int),.int .u8 ((ks 11).toNat:Int),.int .u8 ((ks 12).toNat:Int),.int .u8 ((ks 13).toNat:Int),.int .u8 ((ks 14).toNat:Int),.int .u8 ((ks 15).toNat:Int)]] w fun e w'=>e=.returned (wv (kB ks))/\Below w.heap.size w w':=fun w=>Dv (fun i=>ks (8+i)) w
 obtain⟨p,ep⟩:∃x,x=kA ks:=⟨_,rfl⟩;obtain⟨q,eq⟩:∃x,x=kB ks:=⟨_,rfl⟩;obtain⟨v0,e0⟩:∃x,x=0x736f6d6570736575#64 ^^^ p:=⟨_,rfl⟩;obtain⟨v1,e1⟩:∃x,x=0x646f72616e646f6d#64 ^^^ q:=⟨_,rfl⟩;obtain⟨v2,e2⟩:∃x,x=0x6c7967656e657261#64 ^^^ p:=⟨_,rfl⟩;obtain⟨v3,e3⟩:∃x,x=0x7465646279746573#64 ^^^ q:=⟨_,rfl⟩;have x0:bits .xor .u64 8317987319222330741 (p.toNat:Int)=(v0.toNat:Int):=by rw[e0];exact BB 0x736f6d6570736575#64 p
 have x1:bits .xor .u64 7237128888997146477 (q.toNat:Int)=(v1.toNat:Int):=by rw[e1];exact BB 0x646f72616e646f6d#64 q
 have x2:bits .xor .u64 7816392313619706465 (p.toNat:Int)=(v2.toNat:Int):=by rw[e2];exact BB 0x6c7967656e657261#64 p
 have x3:bits .xor .u64 8387220255154660723 (q.toNat:Int)=(v3.toNat:Int):=by rw[e3];exact BB 0x7465646279746573#64 q
 have hs:stc ⟨start ks,0,0⟩=#[wv v0,wv v1,wv v2,wv v3,.int .u64 0,.int .u64 0]:=by
  rw[e0,e1,e2,e3,ep,eq];rfl
 rw[<-ep] at cA;rw[<-eq] at cB;rw[hs];clear hs ep eq e0 e1 e2 e3;obtain⟨B,eB⟩:=Ak (w.heap.size);have EB:=I eB;rw[hk];clear hk;go_enter Tryz.func207,Tryz.ntmps207
 go_upto_region 1 with fail
 rw[<-eB];clear eB;have cb:∀w:World,(Instr.arrayAt 305 (.slice (some ⟨B,0,none⟩) 8 16)).run Tryz.prog w=.ok (.pointer (some ⟨B,0,none⟩)) w:=fun _=>by kernel_rfl
 have ca:∀w:World,(Instr.arrayAt 305 (.slice (some ⟨B,8,none⟩) 8 8)).run Tryz.prog w=.ok (.pointer (some ⟨B,8,none⟩)) w:=fun _=>by kernel_rfl
 have D:Blk ((w.alloc (.cells #[.int .u8 ((ks 0).toNat:Int),.int .u8 ((ks 1).toNat:Int),.int .u8 ((ks 2).toNat:Int),.int .u8 ((ks 3).toNat:Int),.int .u8 ((ks 4).toNat:Int),.int .u8 ((ks 5).toNat:Int),.int .u8 ((ks 6).toNat:Int),.int .u8 ((ks 7).toNat:Int),.int .u8 ((ks 8).toNat:Int),.int .u8 ((ks 9).toNat:Int),.int .u8 ((ks 10).toNat:Int),.int .u8 ((ks 11).toNat:Int),.int .u8 ((ks 12).toNat:Int),.int .u8 ((ks 13).toNat:Int),.int .u8 ((ks 14).toNat:Int),.int .u8 ((ks 15).toNat:Int)] 161)).alloc (.cells #[.int .u64 0,.int .u64 0,.int .u64 0,.int .u64 0,.int .u64 0,.int .u64 0] 291)) B 161 (AK ks):=Blk.alloc (Blk.new_of w B _ _ (AK ks) rfl EB.o.symm) _;have J:Blk ((w.alloc (.cells #[.int .u8 ((ks 0).toNat:Int),.int .u8 ((ks 1).toNat:Int),.int .u8 ((ks 2).toNat:Int),.int .u8 ((ks 3).toNat:Int),.int .u8 ((ks 4).toNat:Int),.int .u8 ((ks 5).toNat:Int),.int .u8 ((ks 6).toNat:Int),.int .u8 ((ks 7).toNat:Int),.int .u8 ((ks 8).toNat:Int),.int .u8 ((ks 9).toNat:Int),.int .u8 ((ks 10).toNat:Int),.int .u8 ((ks 11).toNat:Int),.int .u8 ((ks 12).toNat:Int),.int .u8 ((ks 13).toNat:Int),.int .u8 ((ks 14).toNat:Int),.int .u8 ((ks 15).toNat:Int)] 161)).alloc (.cells #[.int .u64 0,.int .u64 0,.int .u64 0,.int .u64 0,.int .u64 0,.int .u64 0] 291)) (B+1) 291 cE:=Blk.new_of (w.alloc _) (B+1) _ _ cE rfl (by have:=EB.o;simp;omega);have F:Below w.heap.size w ((w.alloc (.cells #[.int .u8 ((ks 0).toNat:Int),.int .u8 ((ks 1).toNat:Int),.int .u8 ((ks 2).toNat:Int),.int .u8 ((ks 3).toNat:Int),.int .u8 ((ks 4).toNat:Int),.int .u8 ((ks 5).toNat:Int),.int .u8 ((ks 6).toNat:Int),.int .u8 ((ks 7).toNat:Int),.int .u8 ((ks 8).toNat:Int),.int .u8 ((ks 9).toNat:Int),.int .u8 ((ks 10).toNat:Int),.int .u8 ((ks 11).toNat:Int),.int .u8 ((ks 12).toNat:Int),.int .u8 ((ks 13).toNat:Int),.int .u8 ((ks 14).toNat:Int),.int .u8 ((ks 15).toNat:Int)] 161)).alloc (.cells #[.int .u64 0,.int .u64 0,.int .u64 0,.int .u64 0,.int .u64 0,.int .u64 0] 291)):=((Below.refl w.heap.size w).alloc Ag _).alloc (by simp) _;have bx:=I x0;clear x0;have aw:=I x1;clear x1;have bB:=I x2;clear x2;have bz:=I x3;clear x3;generalize ((w.alloc (.cells #[.int .u8 ((ks 0).toNat:Int),.int .u8 ((ks 1).toNat:Int),.int .u8 ((ks 2).toNat:Int),.int .u8 ((ks 3).toNat:Int),.int .u8 ((ks 4).toNat:Int),.int .u8 ((ks 5).toNat:Int),.int .u8 ((ks 6).toNat:Int),.int .u8 ((ks 7).toNat:Int),.int .u8 ((ks 8).toNat:Int),.int .u8 ((ks 9).toNat:Int),.int .u8 ((ks 10).toNat:Int),.int .u8 ((ks 11).toNat:Int),.int .u8 ((ks 12).toNat:Int),.int .u8 ((ks 13).toNat:Int),.int .u8 ((ks 14).toNat:Int),.int .u8 ((ks 15).toNat:Int)] 161)).alloc (.cells #[.int .u64 0,.int .u64 0,.int .u64 0,.int .u64 0,.int .u64 0,.int .u64 0] 291))=W1 at D J F⊢;have D:Blk W1.drew B 161 (AK ks):=D;have J:Blk W1.drew (B+1) 291 #[.int .u64 0,.int .u64 0,.int .u64 0,.int .u64 0,.int .u64 0,.int .u64 0]:=J;have F:Below w.heap.size w W1.drew:=below_drewN F 1
 go_region_held3 (fun w'=>w'.cell? ⟨B,0,none⟩=some (.int .u8 ((ks 0).toNat:Int))/\w'.cell? ⟨B,1,none⟩=some (.int .u8 ((ks 1).toNat:Int))/\w'.cell? ⟨B,2,none⟩=some (.int .u8 ((ks 2).toNat:Int))/\w'.cell? ⟨B,3,none⟩=some (.int .u8 ((ks 3).toNat:Int))/\w'.cell? ⟨B,4,none⟩=some (.int .u8 ((ks 4).toNat:Int))/\w'.cell? ⟨B,5,none⟩=some (.int .u8 ((ks 5).toNat:Int))/\w'.cell? ⟨B,6,none⟩=some (.int .u8 ((ks 6).toNat:Int))/\w'.cell? ⟨B,7,none⟩=some (.int .u8 ((ks 7).toNat:Int))/\w'.cell? ⟨B,8,none⟩=some (.int .u8 ((ks 8).toNat:Int))/\w'.cell? ⟨B,9,none⟩=some (.int .u8 ((ks 9).toNat:Int))/\w'.cell? ⟨B,10,none⟩=some (.int .u8 ((ks 10).toNat:Int))/\w'.cell? ⟨B,11,none⟩=some (.int .u8 ((ks 11).toNat:Int))/\w'.cell? ⟨B,12,none⟩=some (.int .u8 ((ks 12).toNat:Int))/\w'.cell? ⟨B,13,none⟩=some (.int .u8 ((ks 13).toNat:Int))/\w'.cell? ⟨B,14,none⟩=some (.int .u8 ((ks 14).toNat:Int))/\w'.cell? ⟨B,15,none⟩=some (.int .u8 ((ks 15).toNat:Int))) (exact k16 D) (first | (go_at_call 224;refine Aj (cA _) ?_;rintro wq O;clear cA;have M:=Blk.below D O;have E:=Blk.below J O;have N:=bt F O;clear D J F;have D:=M;have J:=E;have F:=N;clear M E N O) | (go_at_call 224;refine Aj (cB _) ?_;rintro wq O;clear cB;have M:=Blk.below D O;have E:=Blk.below J O;have N:=bt F O;clear D J F;have D:=M;have J:=E;have F:=N;clear M E N O))
 all_goals
  have x0:=bx.o;have x1:=aw.o;have x2:=bB.o;have x3:=bz.o;have Z:=I J;clear J;have HW:=I F;clear F;clear D bx aw bB bz
 all_goals
  have c0:wq.cell? ⟨B+1,0,none⟩=some (.int .u64 0):=by rw[Z.o.cell];rfl
  have c1:wq.cell? ⟨B+1,1,none⟩=some (.int .u64 0):=by rw[Z.o.cell];rfl
  have c2:wq.cell? ⟨B+1,2,none⟩=some (.int .u64 0):=by rw[Z.o.cell];rfl
  have c3:wq.cell? ⟨B+1,3,none⟩=some (.int .u64 0):=by rw[Z.o.cell];rfl
  have c4:wq.cell? ⟨B+1,4,none⟩=some (.int .u64 0):=by rw[Z.o.cell];rfl
  have c5:wq.cell? ⟨B+1,5,none⟩=some (.int .u64 0):=by rw[Z.o.cell];rfl
  have fz:=Z.o.frozen;clear cb ca
 all_goals go_wp2_with fail
 all_goals
  have hE:=Blk.set6 (a:=wv v0) (b:=wv v1) (c:=wv v2) (d:=wv v3) (e:=.int .u64 0) (f:=.int .u64 0) Z.o;rw[MU] at hE;have hq:=Al (P:=Tryz.prog) hE Tryz.underlying291 rfl (by kernel_rfl);refine bodyPost_ret (v:=.agg #[wv v0,wv v1,wv v2,wv v3,.int .u64 0,.int .u64 0]) ?_ ?_ ?_
  ·exact AD 2 291 ⟨B+1,0,none⟩ Tryz.results207 rfl hq
  ·rfl
  refine⟨rfl,?_⟩;have hle:w.heap.size<=B+1:=by have:=EB.o;omega
  repeat (refine Az ?_ hle _)
  exact HW.o
end Si
end Go.Proofs.YthgignaohimadaaGreat
