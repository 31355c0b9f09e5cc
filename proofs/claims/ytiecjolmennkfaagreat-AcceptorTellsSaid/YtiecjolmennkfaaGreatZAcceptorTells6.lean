import Derived.Test.YtiecjolmennkfaaGreatZAcceptorTells1
set_option maxHeartbeats 25600000
set_option maxRecDepth 100000
set_option linter.unusedVariables false
set_option linter.unusedSimpArgs false
namespace Go.Proofs.YtiecjolmennkfaaGreat
namespace Si
open Go.RowKit Af
abbrev Wd:=BitVec 64
def rot (v:Wd) (s:Nat):Wd:=(v <<< s) ||| (v >>> (64 - s))
abbrev wv (v:Wd):Value:=.int .u64 (v.toNat:Int)
def wd (n:Nat):Wd:=BitVec.ofNat 64 n
theorem Gu (v:Wd):v.toNat<18446744073709551616:=v.isLt
theorem Ko (n:Nat) (h:n<18446744073709551616):(wd n).toNat=n:=by
 rw[wd,BitVec.toNat_ofNat];exact Nat.mod_eq_of_lt h
theorem Bu (x y:Wd):bits .xor .u64 (x.toNat:Int) (y.toNat:Int)=((x ^^^ y).toNat:Int):=by
 rw[u64_xor_nat _ _ x.isLt y.isLt,BitVec.toNat_xor]
theorem Gf (x y:Wd):((x.toNat:Int)+(y.toNat:Int)) % 18446744073709551616=((x+y).toNat:Int):=by
 rw[BitVec.toNat_add];omega
theorem Iv (x y:Wd):IntKind.u64.wrap ((x.toNat:Int)+(y.toNat:Int))=((x+y).toNat:Int):=by
 rw[IntKind.wrap_u64,Gf]
theorem Lg (v:Wd) (s:Nat):(rot v s).toNat=(v.toNat*2 ^ s % 18446744073709551616) ||| (v.toNat / 2 ^ (64 - s)):=by
 simp [rot,BitVec.toNat_or,BitVec.toNat_shiftLeft,BitVec.toNat_ushiftRight,Nat.shiftLeft_eq,Nat.shiftRight_eq_div_pow]
theorem Is (v:Wd) (a b:Nat) (s:Nat) (O:a=v.toNat*2 ^ s % 18446744073709551616) (M:b=v.toNat / 2 ^ (64 - s)):bits .or .u64 (a:Int) (b:Int)=((rot v s).toNat:Int):=by
 rw[u64_or_nat a b (by omega) (by have:=Gu v;have:=Nat.div_le_self v.toNat (2 ^ (64 - s));omega),Lg,O,M]
theorem or13 (v:Wd):bits .or .u64 ((v.toNat:Int)*8192 % 18446744073709551616) ((v.toNat:Int) / 2251799813685248)=((rot v 13).toNat:Int):=Is v _ _ 13 rfl rfl
theorem or32 (v:Wd):bits .or .u64 ((v.toNat:Int)*4294967296 % 18446744073709551616) ((v.toNat:Int) / 4294967296)=((rot v 32).toNat:Int):=Is v _ _ 32 rfl rfl
theorem or16 (v:Wd):bits .or .u64 ((v.toNat:Int)*65536 % 18446744073709551616) ((v.toNat:Int) / 281474976710656)=((rot v 16).toNat:Int):=Is v _ _ 16 rfl rfl
theorem or21 (v:Wd):bits .or .u64 ((v.toNat:Int)*2097152 % 18446744073709551616) ((v.toNat:Int) / 8796093022208)=((rot v 21).toNat:Int):=Is v _ _ 21 rfl rfl
theorem or17 (v:Wd):bits .or .u64 ((v.toNat:Int)*131072 % 18446744073709551616) ((v.toNat:Int) / 140737488355328)=((rot v 17).toNat:Int):=Is v _ _ 17 rfl rfl
def BK:List UInt8->Nat
 | []=>0
 |b :: l=>b.toNat+256*BK l
theorem Hd:∀l,BK l<256 ^ l.length
 | []=>by simp [BK]
 |b :: l=>by
  have h:=Hd l;have M:=b.toNat_lt;rw[BK,List.length_cons,Nat.pow_succ];omega
theorem Hz (b:UInt8):∀l,BK (l++[b])=BK l+b.toNat*256 ^ l.length
 | []=>by simp [BK]
 |c :: l=>by
  rw[List.cons_append,BK,Hz b l,BK,List.length_cons,Nat.pow_succ,Nat.mul_add,Nat.add_assoc]
  congr 2
  rw[Nat.mul_comm,Nat.mul_assoc]
theorem Ll {l:List UInt8} (h:l.length<=8):BK l<18446744073709551616:=
 Nat.lt_of_lt_of_le (Hd l) (Nat.pow_le_pow_right (by decide) h:256 ^ l.length<=256 ^ 8)
theorem Tv {l:List UInt8} (h:l.length<=7):BK l<72057594037927936:=
 Nat.lt_of_lt_of_le (Hd l) (Nat.pow_le_pow_right (by decide) h:256 ^ l.length<=256 ^ 7)
structure V where
 a:Wd
 b:Wd
 c:Wd
 d:Wd
def rnd (s:V):V:=
 let a1:=s.a+s.b
 let b1:=rot s.b 13 ^^^ a1
 let a2:=rot a1 32
 let c1:=s.c+s.d
 let d1:=rot s.d 16 ^^^ c1
 let a3:=a2+d1
 let d2:=rot d1 21 ^^^ a3
 let c2:=c1+b1
 let b2:=rot b1 17 ^^^ c2
 let c3:=rot c2 32
 ⟨a3,b2,c3,d2⟩
def rnds:Nat->V->V
 |0,s=>s
 |n+1,s=>rnd (rnds n s)
def addM (s:V) (m:Wd):V:=⟨(rnds 2 ⟨s.a,s.b,s.c,s.d ^^^ m⟩).a ^^^ m,(rnds 2 ⟨s.a,s.b,s.c,s.d ^^^ m⟩).b,(rnds 2 ⟨s.a,s.b,s.c,s.d ^^^ m⟩).c,(rnds 2 ⟨s.a,s.b,s.c,s.d ^^^ m⟩).d⟩
def allX (s:V):Wd:=s.a ^^^ s.b ^^^ s.c ^^^ s.d
def fin (s:V):Wd:=allX (rnds 4 ⟨s.a,s.b,s.c ^^^ 255#64,s.d⟩)
def kA (ks:Nat->UInt8):Wd:=wd (BK ((List.range 8).map ks))
def kB (ks:Nat->UInt8):Wd:=wd (BK ((List.range 8).map fun i=>ks (8+i)))
def start (ks:Nat->UInt8):V:=⟨0x736f6d6570736575#64 ^^^ kA ks,0x646f72616e646f6d#64 ^^^ kB ks,0x6c7967656e657261#64 ^^^ kA ks,0x7465646279746573#64 ^^^ kB ks⟩
structure St where
 v:V
 r:Nat
 n:Nat
def addB (s:St) (b:UInt8):St:=
 if (s.n+1) % 8=0 then ⟨addM s.v (wd (s.r+b.toNat*256 ^ (s.n % 8))),0,s.n+1⟩ else ⟨s.v,s.r+b.toNat*256 ^ (s.n % 8),s.n+1⟩
theorem PE (s:St) (b:UInt8) (h:(s.n+1) % 8=0):addB s b=⟨addM s.v (wd (s.r+b.toNat*256 ^ (s.n % 8))),0,s.n+1⟩:=if_pos h
theorem Tw (s:St) (b:UInt8) (h:¬(s.n+1) % 8=0):addB s b=⟨s.v,s.r+b.toNat*256 ^ (s.n % 8),s.n+1⟩:=if_neg h
def stOf (ks:Nat->UInt8) (l:List UInt8):St:=l.foldl addB ⟨start ks,0,0⟩
def QR (s:St):Wd:=wd (s.r+s.n % 256*72057594037927936)
def finS (s:St):Wd:=fin (addM s.v (QR s))
def Ia (ks:Nat->UInt8) (l:List UInt8):Wd:=finS (stOf ks l)
theorem MD (ks:Nat->UInt8) (l:List UInt8) (b:UInt8):stOf ks (l++[b])=addB (stOf ks l) b:=by simp [stOf]
def full (ks:Nat->UInt8) (p:List UInt8):Nat->V
 |0=>start ks
 |j+1=>addM (full ks p j) (wd (BK ((p.drop (8*j)).take 8)))
theorem MF (ks:Nat->UInt8) (p:List UInt8):∀n,n<=p.length->stOf ks (p.take n)=⟨full ks p (n / 8),BK ((p.take n).drop (8*(n / 8))),n⟩
 |0,_=>by simp [stOf,full,BK]
 |n+1,h=>by
  have ih:=MF ks p n (by omega);have O:n<p.length:=by omega
  have Z:p.take (n+1)=p.take n++[p[n]]:=by rw[List.take_succ_eq_append_getElem O]
  have el:((p.take n).drop (8*(n / 8))).length=n % 8:=by rw[List.length_drop,List.length_take];omega
  have ew:(p.take (n+1)).drop (8*(n / 8))=(p.take n).drop (8*(n / 8))++[p[n]]:=by
   rw[Z,List.drop_append_of_le_length (by rw[List.length_take];omega)]
  have eN:BK ((p.take (n+1)).drop (8*(n / 8)))=BK ((p.take n).drop (8*(n / 8)))+p[n].toNat*256 ^ (n % 8):=by rw[ew,Hz,el]
  have e0:stOf ks (p.take (n+1))=addB (stOf ks (p.take n)) p[n]:=by rw[Z,MD]
  have ez:(p.take (n+1)).drop (n+1) = []:=List.drop_of_length_le (by rw[List.length_take];omega);rw[e0,ih]
  by_cases h8:(n+1) % 8=0
  ·have M:(n+1) / 8=n / 8+1:=by omega
   have hm:8*((n+1) / 8)=n+1:=by omega
   have ed:(p.take (n+1)).drop (8*(n / 8))=(p.drop (8*(n / 8))).take 8:=by rw[List.drop_take,show n+1 - 8*(n / 8)=8 by omega]
   rw[PE _ _ h8,<-eN,hm,ez,M,full,ed];simp only[BK]
  ·have M:(n+1) / 8=n / 8:=by omega
   rw[Tw _ _ h8,M,eN]
theorem FX (ks:Nat->UInt8) (p:List UInt8):stOf ks p=⟨full ks p (p.length / 8),BK (p.drop (8*(p.length / 8))),p.length⟩:=by
 have h:=MF ks p p.length Ag
 rwa [List.take_length] at h
theorem cO (ks:Nat->UInt8) (p:List UInt8):(stOf ks p).n=p.length:=by rw[FX]
theorem Yr (ks:Nat->UInt8) (p:List UInt8):(stOf ks p).r<256 ^ ((stOf ks p).n % 8):=by
 rw[FX];have h:=Hd (p.drop (8*(p.length / 8)));rw[List.length_drop] at h
 rwa [show p.length - 8*(p.length / 8)=p.length % 8 by omega] at h
theorem WE (k:Nat) (h:k<=7):256 ^ k<=72057594037927936:=(Nat.pow_le_pow_right (by decide) h:256 ^ k<=256 ^ 7)
theorem MG (r b k:Nat) (M:r<256 ^ k):r ||| b*256 ^ k=r+b*256 ^ k:=by
 have e:(256:Nat) ^ k=2 ^ (8*k):=by rw[Nat.pow_mul]
 rw[e] at M⊢;have h:=Nat.shiftLeft_add_eq_or_of_lt M b;rw[Nat.shiftLeft_eq] at h;rw[Nat.or_comm,<-h,Nat.add_comm]
theorem PG (r:Nat) (b:UInt8) (k:Nat) (M:r<256 ^ k):r+b.toNat*256 ^ k<256 ^ (k+1):=by
 have O:=b.toNat_lt;rw[Nat.pow_succ];have:b.toNat*256 ^ k<=255*256 ^ k:=Nat.mul_le_mul_right _ (by omega);omega
theorem Lm (r:Nat) (b:UInt8) (k:Nat) (hk:k<=7) (M:r<256 ^ k) (X:Int) (Z:X=((b.toNat*256 ^ k:Nat):Int)):bits .or .u64 (r:Int) X=((r+b.toNat*256 ^ k:Nat):Int):=by
 have hp:=WE k hk;have hl:=PG r b k M;have h8:(256:Nat) ^ (k+1)<=256 ^ 8:=Nat.pow_le_pow_right (by decide) (by omega);have O:(256:Nat) ^ 8=18446744073709551616:=by decide
 rw[Z,u64_or_nat _ _ (by omega) (by omega),MG r _ k M]
theorem PH (r n:Nat) (O:r<72057594037927936):bits .or .u64 (r:Int) ((n:Int)*72057594037927936 % 18446744073709551616)=((r+n % 256*72057594037927936:Nat):Int):=by
 have e:(n:Int)*72057594037927936 % 18446744073709551616=((n % 256*256 ^ 7:Nat):Int):=by
  have:(256:Nat) ^ 7=72057594037927936:=by decide
  rw[this];omega
 have M:(UInt8.ofNat (n % 256)).toNat=n % 256:=by simp
 have h:=Lm r (UInt8.ofNat (n % 256)) 7 (by decide) O ((n:Int)*72057594037927936 % 18446744073709551616) (by rw[e,M]);rw[h,M]
theorem cS (v:Wd) (w:World):Calls Tryz.prog 269 #[wv v,.int .i64 13] w fun e w'=>e=.returned (wv (rot v 13))/\w'=w:=by
 have hand:bits .and .u64 13 63=13:=by kernel_rfl
 have M:=or13 v;rw[<-IntKind.wrap_u64] at M;go_enter Tryz.func269,Tryz.ntmps269
 go_wp2
 go_ret;exact⟨rfl,rfl⟩
theorem Ys (v:Wd) (w:World):Calls Tryz.prog 269 #[wv v,.int .i64 32] w fun e w'=>e=.returned (wv (rot v 32))/\w'=w:=by
 have hand:bits .and .u64 32 63=32:=by kernel_rfl
 have M:=or32 v;rw[<-IntKind.wrap_u64] at M;go_enter Tryz.func269,Tryz.ntmps269
 go_wp2
 go_ret;exact⟨rfl,rfl⟩
theorem cU (v:Wd) (w:World):Calls Tryz.prog 269 #[wv v,.int .i64 16] w fun e w'=>e=.returned (wv (rot v 16))/\w'=w:=by
 have hand:bits .and .u64 16 63=16:=by kernel_rfl
 have M:=or16 v;rw[<-IntKind.wrap_u64] at M;go_enter Tryz.func269,Tryz.ntmps269
 go_wp2
 go_ret;exact⟨rfl,rfl⟩
theorem cV (v:Wd) (w:World):Calls Tryz.prog 269 #[wv v,.int .i64 21] w fun e w'=>e=.returned (wv (rot v 21))/\w'=w:=by
 have hand:bits .and .u64 21 63=21:=by kernel_rfl
 have M:=or21 v;rw[<-IntKind.wrap_u64] at M;go_enter Tryz.func269,Tryz.ntmps269
 go_wp2
 go_ret;exact⟨rfl,rfl⟩
theorem cW (v:Wd) (w:World):Calls Tryz.prog 269 #[wv v,.int .i64 17] w fun e w'=>e=.returned (wv (rot v 17))/\w'=w:=by
 have hand:bits .and .u64 17 63=17:=by kernel_rfl
 have M:=or17 v;rw[<-IntKind.wrap_u64] at M;go_enter Tryz.func269,Tryz.ntmps269
 go_wp2
 go_ret;exact⟨rfl,rfl⟩
theorem ZN (v:Wd) (w:World):Calls Tryz.prog 151 #[wv v,.int .u64 13] w fun e w'=>e=.returned (wv (rot v 13))/\w'=w:=by
 have M:=or13 v;rw[<-IntKind.wrap_u64] at M;go_enter Tryz.func151,Tryz.ntmps151
 go_wp2
 go_ret;exact⟨rfl,rfl⟩
theorem Tx (v:Wd) (w:World):Calls Tryz.prog 151 #[wv v,.int .u64 32] w fun e w'=>e=.returned (wv (rot v 32))/\w'=w:=by
 have M:=or32 v;rw[<-IntKind.wrap_u64] at M;go_enter Tryz.func151,Tryz.ntmps151
 go_wp2
 go_ret;exact⟨rfl,rfl⟩
theorem ZO (v:Wd) (w:World):Calls Tryz.prog 151 #[wv v,.int .u64 16] w fun e w'=>e=.returned (wv (rot v 16))/\w'=w:=by
 have M:=or16 v;rw[<-IntKind.wrap_u64] at M;go_enter Tryz.func151,Tryz.ntmps151
 go_wp2
 go_ret;exact⟨rfl,rfl⟩
theorem ZP (v:Wd) (w:World):Calls Tryz.prog 151 #[wv v,.int .u64 21] w fun e w'=>e=.returned (wv (rot v 21))/\w'=w:=by
 have M:=or21 v;rw[<-IntKind.wrap_u64] at M;go_enter Tryz.func151,Tryz.ntmps151
 go_wp2
 go_ret;exact⟨rfl,rfl⟩
theorem ZQ (v:Wd) (w:World):Calls Tryz.prog 151 #[wv v,.int .u64 17] w fun e w'=>e=.returned (wv (rot v 17))/\w'=w:=by
 have M:=or17 v;rw[<-IntKind.wrap_u64] at M;go_enter Tryz.func151,Tryz.ntmps151
 go_wp2
 go_ret;exact⟨rfl,rfl⟩
theorem ZR (M:Nat) (b:UInt8) (O:M<72057594037927936):bits .or .u64 ((M:Int)*256) (b.toNat:Int)=((b.toNat+256*M:Nat):Int):=by
 have Z:=b.toNat_lt;have e:(M:Int)*256=((M*256:Nat):Int):=by omega
 rw[e,u64_or_nat _ _ (by omega) (by omega)];have h:=nat_join 8 (M*256) b.toNat (by omega) (by omega);rw[h];omega
theorem Om (A:Option Addr) (n c:Nat) (l:List UInt8) (w:World) (B:Nat) (hn:n=l.length) (h8:n<=8) (hr:Rd w B A (bvs l)) :
  Calls Tryz.prog 109 #[.slice A n c] w fun e w'=>e=.returned (wv (wd (BK l)))/\w'=w:=by
 have HR:=I hr;clear hr;have HN:=I hn;clear hn;have H8:=I h8;clear h8;have e8:(n:Int)<=8:=by have:=H8.o;omega
 go_enter Tryz.func109,Tryz.ntmps109
 go_wp2_with fail
 go_loop [3,4] (fun mv iv=>∃j:Nat,j<=n/\iv=.int .i64 ((j:Int) - 1)/\mv=.int .u64 (BK (l.drop j):Nat)) (fun _ iv=>(intOf iv+1).toNat)
 case atStart=>exact⟨n,Nat.le_refl _,by go_num,by rw[List.drop_of_length_le (by have:=HN.o;omega)];rfl⟩
 case round=>
  obtain⟨j,hj,rfl,rfl⟩:=hrel;cases j with
  |zero=>
   have e:(BK l:Int)=((wd (BK l)).toNat:Int):=by rw[Ko _ (Ll (by have:=HN.o;have:=H8.o;omega))]
   rw[List.drop_zero];obtain⟨x,ex⟩:=Ak (BK l);rw[<-ex] at e⊢;have E:=I e;clear e;have EX:=I ex;clear ex
   go_wp2_with fail
   go_ret;exact⟨by rw[wv,<-EX.o];simp [E.o],rfl⟩
  |succ j=>
   have hc:((j+1:Nat):Int) - 1=(j:Int):=by omega
   rw[hc];have Z:j<l.length:=by have:=HN.o;omega
   have hr:=HR.o;obtain⟨b,o,rfl,bq,O⟩:=hr.at_ (Fw Z);have av:w.cell? ⟨b,o+j,none⟩=some (.int .u8 ((l[j]).toNat:Int)):=O;clear O;obtain⟨y,ey⟩:=Ak (l[j]);rw[<-ey] at av;obtain⟨M,eM⟩:=Ak (BK (l.drop (j+1)));rw[<-eM];have hM:M<72057594037927936:=by rw[eM];exact Tv (by rw[List.length_drop];have:=HN.o;have:=H8.o;omega)
   have e2:y.toNat+256*M=BK (l.drop j):=by rw[eM,ey,List.drop_eq_getElem_cons Z,BK]
   have hx:=ZR M y hM;rw[e2] at hx;obtain⟨M2,aw⟩:∃M,M=BK (l.drop j):=⟨_,rfl⟩;rw[<-aw] at hx;have bb:=I aw;have e3:(0:Int)<=(j:Int):=by omega
   have e4:(j:Int)<(n:Int):=by omega
   have e5:j<n:=by omega
   have e7:(j:Int)<8:=by omega
   have hy:IntKind.u64.wrap (y.toNat:Int)=(y.toNat:Int):=by rw[IntKind.wrap_u64];have:=y.toNat_lt;omega
   have HJ:=I hj;have bn:=I Z;clear hj Z hr eM e2 ey aw
   go_wp2_with fail
   go_round
   case rel=>exact⟨j,by omega,by go_num,by rw[bb.o]⟩
   case measure=>simp [intOf]
def key8 (f:Nat->UInt8):Array Value:=#[.int .u8 (f 0).toNat,.int .u8 (f 1).toNat,.int .u8 (f 2).toNat,.int .u8 (f 3).toNat,.int .u8 (f 4).toNat,.int .u8 (f 5).toNat,.int .u8 (f 6).toNat,.int .u8 (f 7).toNat]
def Ib (f:Nat->UInt8) (i:Nat):Nat:=BK ((List.range i).map f)
theorem QS (f:Nat->UInt8) (i:Nat):Ib f (i+1)=Ib f i+(f i).toNat*256 ^ i:=by
 unfold Ib;rw[List.range_succ,List.map_append,List.map_singleton,Hz];simp
theorem WG (f:Nat->UInt8) (i:Nat):Ib f i<256 ^ i:=by
 have:=Hd ((List.range i).map f)
 simpa [Ib] using this
theorem or_at (f:Nat->UInt8) (i:Nat) (K:Int) (hi:i<=7) (M:K=((256 ^ i:Nat):Int)):bits .or .u64 (Ib f i:Nat) (IntKind.u64.wrap (((f i).toNat:Int)*K))=(Ib f (i+1):Nat):=by
 rw[QS];refine Lm _ _ i hi (WG f i) _ ?_;have O:=WE i hi;have h2:=(f i).toNat_lt;have Z:(f i).toNat*256 ^ i<=255*72057594037927936:=Nat.mul_le_mul (by omega) O;rw[M,IntKind.wrap_u64,<-Int.natCast_mul];omega
theorem DG (f:Nat->UInt8) (w:World) :
  Calls Tryz.prog 257 #[.agg (key8 f)] w fun e w'=>e=.returned (wv (wd (Ib f 8)))/\Below w.heap.size w w':=by
 unfold key8;go_enter Tryz.func257,Tryz.ntmps257
 go_wp2_with fail
 go_loop [3,7] (fun mv iv=>∃j:Nat,j<=8/\iv=.int .i64 (j:Int)/\mv=.int .u64 (Ib f j:Nat)) (fun _ iv=>8 - (intOf iv).toNat)
 case atStart=>exact⟨0,by decide,rfl,rfl⟩
 case round=>
  obtain⟨j,hj,rfl,rfl⟩:=hrel;obtain⟨M,eM⟩:=Ak (Ib f j);obtain⟨M2,av⟩:∃M,M=Ib f (j+1):=⟨_,rfl⟩;have O:∀K:Int,j<=7->K=((256 ^ j:Nat):Int)->bits .or .u64 (M:Int) (IntKind.u64.wrap (((f j).toNat:Int)*K))=(M2:Int):=fun K h1 h2=>by rw[eM,av];exact or_at f j K h1 h2
  rw[<-eM];have EM:=I eM;clear eM;have Z:=I av;clear av;have hs:j=0\/j=1\/j=2\/j=3\/j=4\/j=5\/j=6\/j=7\/j=8:=by omega
  clear hj;rcases hs with rfl | rfl | rfl | rfl | rfl | rfl | rfl | rfl | rfl
  ·have O:=O 1 (by decide) (by decide)
   have hy:IntKind.u64.wrap ((f 0).toNat:Int)=((f 0).toNat:Int):=by rw[IntKind.wrap_u64];have:=(f 0).toNat_lt;omega
   rw[Int.mul_one,hy] at O;have hi:∀w:World,(Instr.index 326 (.agg #[.int .u8 (f 0).toNat,.int .u8 (f 1).toNat,.int .u8 (f 2).toNat,.int .u8 (f 3).toNat,.int .u8 (f 4).toNat,.int .u8 (f 5).toNat,.int .u8 (f 6).toNat,.int .u8 (f 7).toNat]) (.int .i64 0)).run Tryz.prog w=.ok (.int .u8 (f 0).toNat) w:=fun _=>by kernel_rfl
   go_wp2_with fail
   go_round
   case rel=>exact⟨1,by decide,by go_num,by rw[Z.o]⟩
   case measure=>simp [intOf]
  ·have O:=O 256 (by decide) (by decide)
   have hy:IntKind.u64.wrap ((f 1).toNat:Int)=((f 1).toNat:Int):=by rw[IntKind.wrap_u64];have:=(f 1).toNat_lt;omega
   have hi:∀w:World,(Instr.index 326 (.agg #[.int .u8 (f 0).toNat,.int .u8 (f 1).toNat,.int .u8 (f 2).toNat,.int .u8 (f 3).toNat,.int .u8 (f 4).toNat,.int .u8 (f 5).toNat,.int .u8 (f 6).toNat,.int .u8 (f 7).toNat]) (.int .i64 1)).run Tryz.prog w=.ok (.int .u8 (f 1).toNat) w:=fun _=>by kernel_rfl
   go_wp2_with fail
   go_round
   case rel=>exact⟨2,by decide,by go_num,by rw[Z.o]⟩
   case measure=>simp [intOf]
  ·have O:=O 65536 (by decide) (by decide)
   have hy:IntKind.u64.wrap ((f 2).toNat:Int)=((f 2).toNat:Int):=by rw[IntKind.wrap_u64];have:=(f 2).toNat_lt;omega
   have hi:∀w:World,(Instr.index 326 (.agg #[.int .u8 (f 0).toNat,.int .u8 (f 1).toNat,.int .u8 (f 2).toNat,.int .u8 (f 3).toNat,.int .u8 (f 4).toNat,.int .u8 (f 5).toNat,.int .u8 (f 6).toNat,.int .u8 (f 7).toNat]) (.int .i64 2)).run Tryz.prog w=.ok (.int .u8 (f 2).toNat) w:=fun _=>by kernel_rfl
   go_wp2_with fail
   go_round
   case rel=>exact⟨3,by decide,by go_num,by rw[Z.o]⟩
   case measure=>simp [intOf]
  ·have O:=O 16777216 (by decide) (by decide)
   have hy:IntKind.u64.wrap ((f 3).toNat:Int)=((f 3).toNat:Int):=by rw[IntKind.wrap_u64];have:=(f 3).toNat_lt;omega
   have hi:∀w:World,(Instr.index 326 (.agg #[.int .u8 (f 0).toNat,.int .u8 (f 1).toNat,.int .u8 (f 2).toNat,.int .u8 (f 3).toNat,.int .u8 (f 4).toNat,.int .u8 (f 5).toNat,.int .u8 (f 6).toNat,.int .u8 (f 7).toNat]) (.int .i64 3)).run Tryz.prog w=.ok (.int .u8 (f 3).toNat) w:=fun _=>by kernel_rfl
   go_wp2_with fail
   go_round
   case rel=>exact⟨4,by decide,by go_num,by rw[Z.o]⟩
   case measure=>simp [intOf]
  ·have O:=O 4294967296 (by decide) (by decide)
   have hy:IntKind.u64.wrap ((f 4).toNat:Int)=((f 4).toNat:Int):=by rw[IntKind.wrap_u64];have:=(f 4).toNat_lt;omega
   have hi:∀w:World,(Instr.index 326 (.agg #[.int .u8 (f 0).toNat,.int .u8 (f 1).toNat,.int .u8 (f 2).toNat,.int .u8 (f 3).toNat,.int .u8 (f 4).toNat,.int .u8 (f 5).toNat,.int .u8 (f 6).toNat,.int .u8 (f 7).toNat]) (.int .i64 4)).run Tryz.prog w=.ok (.int .u8 (f 4).toNat) w:=fun _=>by kernel_rfl
   go_wp2_with fail
   go_round
   case rel=>exact⟨5,by decide,by go_num,by rw[Z.o]⟩
   case measure=>simp [intOf]
  ·have O:=O 1099511627776 (by decide) (by decide)
   have hy:IntKind.u64.wrap ((f 5).toNat:Int)=((f 5).toNat:Int):=by rw[IntKind.wrap_u64];have:=(f 5).toNat_lt;omega
   have hi:∀w:World,(Instr.index 326 (.agg #[.int .u8 (f 0).toNat,.int .u8 (f 1).toNat,.int .u8 (f 2).toNat,.int .u8 (f 3).toNat,.int .u8 (f 4).toNat,.int .u8 (f 5).toNat,.int .u8 (f 6).toNat,.int .u8 (f 7).toNat]) (.int .i64 5)).run Tryz.prog w=.ok (.int .u8 (f 5).toNat) w:=fun _=>by kernel_rfl
   go_wp2_with fail
   go_round
   case rel=>exact⟨6,by decide,by go_num,by rw[Z.o]⟩
   case measure=>simp [intOf]
  ·have O:=O 281474976710656 (by decide) (by decide)
   have hy:IntKind.u64.wrap ((f 6).toNat:Int)=((f 6).toNat:Int):=by rw[IntKind.wrap_u64];have:=(f 6).toNat_lt;omega
   have hi:∀w:World,(Instr.index 326 (.agg #[.int .u8 (f 0).toNat,.int .u8 (f 1).toNat,.int .u8 (f 2).toNat,.int .u8 (f 3).toNat,.int .u8 (f 4).toNat,.int .u8 (f 5).toNat,.int .u8 (f 6).toNat,.int .u8 (f 7).toNat]) (.int .i64 6)).run Tryz.prog w=.ok (.int .u8 (f 6).toNat) w:=fun _=>by kernel_rfl
   go_wp2_with fail
   go_round
   case rel=>exact⟨7,by decide,by go_num,by rw[Z.o]⟩
   case measure=>simp [intOf]
  ·have O:=O 72057594037927936 (by decide) (by decide)
   have hy:IntKind.u64.wrap ((f 7).toNat:Int)=((f 7).toNat:Int):=by rw[IntKind.wrap_u64];have:=(f 7).toNat_lt;omega
   have hi:∀w:World,(Instr.index 326 (.agg #[.int .u8 (f 0).toNat,.int .u8 (f 1).toNat,.int .u8 (f 2).toNat,.int .u8 (f 3).toNat,.int .u8 (f 4).toNat,.int .u8 (f 5).toNat,.int .u8 (f 6).toNat,.int .u8 (f 7).toNat]) (.int .i64 7)).run Tryz.prog w=.ok (.int .u8 (f 7).toNat) w:=fun _=>by kernel_rfl
   go_wp2_with fail
   go_round
   case rel=>exact⟨8,by decide,by go_num,by rw[Z.o]⟩
   case measure=>simp [intOf]
  ·have O:=Ko (Ib f 8) (Ll (by simp))
   have hz:M=(wd (Ib f 8)).toNat:=by rw[O];exact EM.o
   have HZ:=I hz;clear hz;clear O
   go_wp2_with fail
   go_ret;exact⟨by rw[wv,<-HZ.o];rfl,(Below.refl w.heap.size w).alloc Ag _⟩
def Jx (s:V) (R N:Value):Array Value:=#[wv s.a,wv s.b,wv s.c,wv s.d,R,N]
def DU (s:V):Array Value:=#[wv s.a,wv s.b,wv s.c,wv s.d]
theorem Kp (g n:Nat) (s:V) (R N:Value) (w:World) (hn:n<=4) (hB:Blk w g 312 (Jx s R N)) :
  Calls Tryz.prog 259 #[.pointer (some ⟨g,0,none⟩),.int .i64 (n:Int)] w fun e w'=>e=.returned (.tuple #[])/\Blk w' g 312 (Jx (rnds n s) R N)/\w.grownBy w' (some g):=by
 have HB:=I hB;clear hB;go_enter Tryz.func259,Tryz.ntmps259
 go_wp2_with fail
 go_loopw [5] (fun iv wr=>∃i:Nat,i<=n/\iv=.int .i64 (i:Int)/\Blk wr g 312 (Jx (rnds i s) R N)/\w.grownBy wr (some g)) (fun iv _=>n - (intOf iv).toNat)
 case atStart=>exact⟨0,Nat.zero_le _,rfl,HB.o,World.grownBy.refl w _⟩
 case round=>
  obtain⟨i,hi,rfl,hB,hG⟩:=hrel
  by_cases hx:i=n
  ·subst hx
   have M:=I hB;clear hB;have cu:=I hG;clear hG
   go_wp2_with fail
   go_end0
   exact⟨rfl,M.o,cu.o⟩
  ·have gk:i<n:=by omega
   have e1:(i:Int)<(n:Int):=by omega
   have e2:(0:Int)<=(i:Int):=by omega
   have e3:(i:Int)<4:=by omega
   have HX:=I hx;clear hx;have HI:=I hi;clear hi;obtain⟨⟨a,b,c,d⟩,es⟩:∃t,t=rnds i s:=⟨_,rfl⟩;rw[<-es] at hB;have ES:=I es;clear es;have M:=I (show Blk wr g 312 #[wv a,wv b,wv c,wv d,R,N] from hB);clear hB;have cu:=I hG;clear hG
   go_upto_region 2 with fail
   obtain⟨a1,ca⟩:∃x,x=a+b:=⟨_,rfl⟩;obtain⟨q1,cQ⟩:∃x,x=rot b 13:=⟨_,rfl⟩;obtain⟨b1,ec⟩:∃x,x=q1 ^^^ a1:=⟨_,rfl⟩;obtain⟨a2,cA⟩:∃x,x=rot a1 32:=⟨_,rfl⟩;obtain⟨c1,bB⟩:∃x,x=c+d:=⟨_,rfl⟩;obtain⟨q4,ct⟩:∃x,x=rot d 16:=⟨_,rfl⟩;obtain⟨d1,cn⟩:∃x,x=q4 ^^^ c1:=⟨_,rfl⟩;obtain⟨a3,bz⟩:∃x,x=a2+d1:=⟨_,rfl⟩;obtain⟨q6,ef⟩:∃x,x=rot d1 21:=⟨_,rfl⟩;obtain⟨d2,cx⟩:∃x,x=q6 ^^^ a3:=⟨_,rfl⟩;obtain⟨c2,cb⟩:∃x,x=c1+b1:=⟨_,rfl⟩;obtain⟨q8,cR⟩:∃x,x=rot b1 17:=⟨_,rfl⟩;obtain⟨b2,cm⟩:∃x,x=q8 ^^^ c2:=⟨_,rfl⟩;obtain⟨c3,cL⟩:∃x,x=rot c2 32:=⟨_,rfl⟩;have cc:rnd ⟨a,b,c,d⟩=⟨a3,b2,c3,d2⟩:=by subst ca cQ ec cA bB ct cn bz ef cx cb cR cm cL;rfl
   have fM:=I cc;clear cc;have x0:IntKind.u64.wrap ((a.toNat:Int)+(b.toNat:Int))=(a1.toNat:Int):=by rw[ca];exact Iv _ _
   have y0:((a.toNat:Int)+(b.toNat:Int)) % 18446744073709551616=(a1.toNat:Int):=by rw[ca];exact Gf _ _
   have X0:=I x0;clear x0;have Y0:=I y0;clear y0;have x1:bits .xor .u64 (q1.toNat:Int) (a1.toNat:Int)=(b1.toNat:Int):=by rw[ec];exact Bu _ _
   have X1:=I x1;clear x1;have l1:=cS b;rw[<-cQ] at l1;have l2:=Ys a1;rw[<-cA] at l2;have x3:IntKind.u64.wrap ((c.toNat:Int)+(d.toNat:Int))=(c1.toNat:Int):=by rw[bB];exact Iv _ _
   have y3:((c.toNat:Int)+(d.toNat:Int)) % 18446744073709551616=(c1.toNat:Int):=by rw[bB];exact Gf _ _
   have X3:=I x3;clear x3;have Y3:=I y3;clear y3;have x4:bits .xor .u64 (q4.toNat:Int) (c1.toNat:Int)=(d1.toNat:Int):=by rw[cn];exact Bu _ _
   have X4:=I x4;clear x4;have l4:=cU d;rw[<-ct] at l4;have x5:IntKind.u64.wrap ((a2.toNat:Int)+(d1.toNat:Int))=(a3.toNat:Int):=by rw[bz];exact Iv _ _
   have y5:((a2.toNat:Int)+(d1.toNat:Int)) % 18446744073709551616=(a3.toNat:Int):=by rw[bz];exact Gf _ _
   have X5:=I x5;clear x5;have Y5:=I y5;clear y5;have x6:bits .xor .u64 (q6.toNat:Int) (a3.toNat:Int)=(d2.toNat:Int):=by rw[cx];exact Bu _ _
   have X6:=I x6;clear x6;have l6:=cV d1;rw[<-ef] at l6;have x7:IntKind.u64.wrap ((c1.toNat:Int)+(b1.toNat:Int))=(c2.toNat:Int):=by rw[cb];exact Iv _ _
   have y7:((c1.toNat:Int)+(b1.toNat:Int)) % 18446744073709551616=(c2.toNat:Int):=by rw[cb];exact Gf _ _
   have X7:=I x7;clear x7;have Y7:=I y7;clear y7;have x8:bits .xor .u64 (q8.toNat:Int) (c2.toNat:Int)=(b2.toNat:Int):=by rw[cm];exact Bu _ _
   have X8:=I x8;clear x8;have l8:=cW b1;rw[<-cR] at l8;have l9:=Ys c2;rw[<-cL] at l9;clear ca cQ ec cA bB ct cn bz ef cx cb cR cm cL;have gg:=Blk.frozen M.o;have fi:wr.cell? ⟨g,0,none⟩=some (.int .u64 (a.toNat:Int)):=by rw[Blk.cell M.o];rfl
   have ey:wr.cell? ⟨g,1,none⟩=some (.int .u64 (b.toNat:Int)):=by rw[Blk.cell M.o];rfl
   have eN:wr.cell? ⟨g,2,none⟩=some (.int .u64 (c.toNat:Int)):=by rw[Blk.cell M.o];rfl
   have fz:wr.cell? ⟨g,3,none⟩=some (.int .u64 (d.toNat:Int)):=by rw[Blk.cell M.o];rfl
   have x0:=X0.o;have y0:=Y0.o;refine wp_region_still_tail 11 (by kernel_rfl) (by kernel_rfl) ?_;simp only[List.take_succ_cons,List.take_zero,List.drop_succ_cons,List.drop_zero];change wpStill _ _ wr.drew _ _ _
   repeat still_step
   refine wpStill_nil ?_;change wpList _ _ _ _ _ wr.drew
   go_upto_region 3 with fail
   have cy:Blk (wr.setCell ⟨g,0,none⟩ (.int .u64 (a1.toNat:Int))).drew g 312 #[wv a1,wv b,wv c,wv d,R,N]:=Blk.set M.o 0 (wv a1);have ed:w.grownBy (wr.setCell ⟨g,0,none⟩ (.int .u64 (a1.toNat:Int))).drew (some g):=Bb (AM cu.o (.inl rfl) _);generalize (wr.setCell ⟨g,0,none⟩ (.int .u64 (a1.toNat:Int))).drew=v1 at cy ed⊢;clear gg fi ey eN fz x0 y0 X0 Y0;have bb:=I cy;clear cy;have ez:=I ed;clear ed;have gi:=Blk.frozen bb.o;have fu:v1.cell? ⟨g,0,none⟩=some (.int .u64 (a1.toNat:Int)):=by rw[Blk.cell bb.o];rfl
   have fO:v1.cell? ⟨g,1,none⟩=some (.int .u64 (b.toNat:Int)):=by rw[Blk.cell bb.o];rfl
   have fv:v1.cell? ⟨g,2,none⟩=some (.int .u64 (c.toNat:Int)):=by rw[Blk.cell bb.o];rfl
   have ep:v1.cell? ⟨g,3,none⟩=some (.int .u64 (d.toNat:Int)):=by rw[Blk.cell bb.o];rfl
   have x1:=X1.o;refine wp_region_still_tail 13 (by kernel_rfl) (by kernel_rfl) ?_;simp only[List.take_succ_cons,List.take_zero,List.drop_succ_cons,List.drop_zero];change wpStill _ _ v1.drew _ _ _
   repeat still_step
   still_call (l1 v1.drew)
   repeat still_step
   refine wpStill_nil ?_;change wpList _ _ _ _ _ v1.drew
   go_upto_region 4 with fail
   have cY:Blk (v1.setCell ⟨g,1,none⟩ (.int .u64 (b1.toNat:Int))).drew g 312 #[wv a1,wv b1,wv c,wv d,R,N]:=Blk.set bb.o 1 (wv b1);have eb:w.grownBy (v1.setCell ⟨g,1,none⟩ (.int .u64 (b1.toNat:Int))).drew (some g):=Bb (AM ez.o (.inl rfl) _);generalize (v1.setCell ⟨g,1,none⟩ (.int .u64 (b1.toNat:Int))).drew=v2 at cY eb⊢;clear gi fu fO fv ep x1 X1 l1;clear bb ez;have av:=I cY;clear cY;have fR:=I eb;clear eb;have gh:=Blk.frozen av.o;have fL:v2.cell? ⟨g,0,none⟩=some (.int .u64 (a1.toNat:Int)):=by rw[Blk.cell av.o];rfl
   have eM:v2.cell? ⟨g,1,none⟩=some (.int .u64 (b1.toNat:Int)):=by rw[Blk.cell av.o];rfl
   have eT:v2.cell? ⟨g,2,none⟩=some (.int .u64 (c.toNat:Int)):=by rw[Blk.cell av.o];rfl
   have er:v2.cell? ⟨g,3,none⟩=some (.int .u64 (d.toNat:Int)):=by rw[Blk.cell av.o];rfl
   go_upto_region 5 with(go_at_call 269;refine Aj (l2 _) ?_;rintro w' hw;have hw:=hw.symm;subst hw)
   have cp:Blk (v2.setCell ⟨g,0,none⟩ (.int .u64 (a2.toNat:Int))) g 312 #[wv a2,wv b1,wv c,wv d,R,N]:=Blk.set av.o 0 (wv a2);have cB:w.grownBy (v2.setCell ⟨g,0,none⟩ (.int .u64 (a2.toNat:Int))) (some g):=(AM fR.o (.inl rfl) _);generalize (v2.setCell ⟨g,0,none⟩ (.int .u64 (a2.toNat:Int)))=v3 at cp cB⊢;clear gh fL eM eT er l2;clear av fR;have O:=I cp;clear cp;have ew:=I cB;clear cB;have fY:=Blk.frozen O.o;have ek:v3.cell? ⟨g,0,none⟩=some (.int .u64 (a2.toNat:Int)):=by rw[Blk.cell O.o];rfl
   have eE:v3.cell? ⟨g,1,none⟩=some (.int .u64 (b1.toNat:Int)):=by rw[Blk.cell O.o];rfl
   have fJ:v3.cell? ⟨g,2,none⟩=some (.int .u64 (c.toNat:Int)):=by rw[Blk.cell O.o];rfl
   have fT:v3.cell? ⟨g,3,none⟩=some (.int .u64 (d.toNat:Int)):=by rw[Blk.cell O.o];rfl
   have x3:=X3.o;have y3:=Y3.o;refine wp_region_still_tail 11 (by kernel_rfl) (by kernel_rfl) ?_;simp only[List.take_succ_cons,List.take_zero,List.drop_succ_cons,List.drop_zero];change wpStill _ _ v3.drew _ _ _
   repeat still_step
   refine wpStill_nil ?_;change wpList _ _ _ _ _ v3.drew
   go_upto_region 6 with fail
   have ea:Blk (v3.setCell ⟨g,2,none⟩ (.int .u64 (c1.toNat:Int))).drew g 312 #[wv a2,wv b1,wv c1,wv d,R,N]:=Blk.set O.o 2 (wv c1);have cd:w.grownBy (v3.setCell ⟨g,2,none⟩ (.int .u64 (c1.toNat:Int))).drew (some g):=Bb (AM ew.o (.inl rfl) _);generalize (v3.setCell ⟨g,2,none⟩ (.int .u64 (c1.toNat:Int))).drew=v4 at ea cd⊢;clear fY ek eE fJ fT x3 y3 X3 Y3;clear O ew;have bx:=I ea;clear ea;have eR:=I cd;clear cd;have gf:=Blk.frozen bx.o;have eW:v4.cell? ⟨g,0,none⟩=some (.int .u64 (a2.toNat:Int)):=by rw[Blk.cell bx.o];rfl
   have fN:v4.cell? ⟨g,1,none⟩=some (.int .u64 (b1.toNat:Int)):=by rw[Blk.cell bx.o];rfl
   have ev:v4.cell? ⟨g,2,none⟩=some (.int .u64 (c1.toNat:Int)):=by rw[Blk.cell bx.o];rfl
   have et:v4.cell? ⟨g,3,none⟩=some (.int .u64 (d.toNat:Int)):=by rw[Blk.cell bx.o];rfl
   have x4:=X4.o;refine wp_region_still_tail 13 (by kernel_rfl) (by kernel_rfl) ?_;simp only[List.take_succ_cons,List.take_zero,List.drop_succ_cons,List.drop_zero];change wpStill _ _ v4.drew _ _ _
   repeat still_step
   still_call (l4 v4.drew)
   repeat still_step
   refine wpStill_nil ?_;change wpList _ _ _ _ _ v4.drew
   go_upto_region 7 with fail
   have cq:Blk (v4.setCell ⟨g,3,none⟩ (.int .u64 (d1.toNat:Int))).drew g 312 #[wv a2,wv b1,wv c1,wv d1,R,N]:=Blk.set bx.o 3 (wv d1);have cj:w.grownBy (v4.setCell ⟨g,3,none⟩ (.int .u64 (d1.toNat:Int))).drew (some g):=Bb (AM eR.o (.inl rfl) _);generalize (v4.setCell ⟨g,3,none⟩ (.int .u64 (d1.toNat:Int))).drew=v5 at cq cj⊢;clear gf eW fN ev et x4 X4 l4;clear bx eR;have Z:=I cq;clear cq;have eV:=I cj;clear cj;have gj:=Blk.frozen Z.o;have eP:v5.cell? ⟨g,0,none⟩=some (.int .u64 (a2.toNat:Int)):=by rw[Blk.cell Z.o];rfl
   have eo:v5.cell? ⟨g,1,none⟩=some (.int .u64 (b1.toNat:Int)):=by rw[Blk.cell Z.o];rfl
   have fs:v5.cell? ⟨g,2,none⟩=some (.int .u64 (c1.toNat:Int)):=by rw[Blk.cell Z.o];rfl
   have fb:v5.cell? ⟨g,3,none⟩=some (.int .u64 (d1.toNat:Int)):=by rw[Blk.cell Z.o];rfl
   have x5:=X5.o;have y5:=Y5.o;refine wp_region_still_tail 11 (by kernel_rfl) (by kernel_rfl) ?_;simp only[List.take_succ_cons,List.take_zero,List.drop_succ_cons,List.drop_zero];change wpStill _ _ v5.drew _ _ _
   repeat still_step
   refine wpStill_nil ?_;change wpList _ _ _ _ _ v5.drew
   go_upto_region 8 with fail
   have cr:Blk (v5.setCell ⟨g,0,none⟩ (.int .u64 (a3.toNat:Int))).drew g 312 #[wv a3,wv b1,wv c1,wv d1,R,N]:=Blk.set Z.o 0 (wv a3);have cP:w.grownBy (v5.setCell ⟨g,0,none⟩ (.int .u64 (a3.toNat:Int))).drew (some g):=Bb (AM eV.o (.inl rfl) _);generalize (v5.setCell ⟨g,0,none⟩ (.int .u64 (a3.toNat:Int))).drew=v6 at cr cP⊢;clear gj eP eo fs fb x5 y5 X5 Y5;clear Z eV;have bn:=I cr;clear cr;have eK:=I cP;clear cP;have fX:=Blk.frozen bn.o;have eX:v6.cell? ⟨g,0,none⟩=some (.int .u64 (a3.toNat:Int)):=by rw[Blk.cell bn.o];rfl
   have fP:v6.cell? ⟨g,1,none⟩=some (.int .u64 (b1.toNat:Int)):=by rw[Blk.cell bn.o];rfl
   have fK:v6.cell? ⟨g,2,none⟩=some (.int .u64 (c1.toNat:Int)):=by rw[Blk.cell bn.o];rfl
   have ff:v6.cell? ⟨g,3,none⟩=some (.int .u64 (d1.toNat:Int)):=by rw[Blk.cell bn.o];rfl
   have x6:=X6.o;refine wp_region_still_tail 13 (by kernel_rfl) (by kernel_rfl) ?_;simp only[List.take_succ_cons,List.take_zero,List.drop_succ_cons,List.drop_zero];change wpStill _ _ v6.drew _ _ _
   repeat still_step
   still_call (l6 v6.drew)
   repeat still_step
   refine wpStill_nil ?_;change wpList _ _ _ _ _ v6.drew
   go_upto_region 9 with fail
   have cf:Blk (v6.setCell ⟨g,3,none⟩ (.int .u64 (d2.toNat:Int))).drew g 312 #[wv a3,wv b1,wv c1,wv d2,R,N]:=Blk.set bn.o 3 (wv d2);have ck:w.grownBy (v6.setCell ⟨g,3,none⟩ (.int .u64 (d2.toNat:Int))).drew (some g):=Bb (AM eK.o (.inl rfl) _);generalize (v6.setCell ⟨g,3,none⟩ (.int .u64 (d2.toNat:Int))).drew=v7 at cf ck⊢;clear fX eX fP fK ff x6 X6 l6;clear bn eK;have bs:=I cf;clear cf;have ej:=I ck;clear ck;have gb:=Blk.frozen bs.o;have eF:v7.cell? ⟨g,0,none⟩=some (.int .u64 (a3.toNat:Int)):=by rw[Blk.cell bs.o];rfl
   have eg:v7.cell? ⟨g,1,none⟩=some (.int .u64 (b1.toNat:Int)):=by rw[Blk.cell bs.o];rfl
   have fI:v7.cell? ⟨g,2,none⟩=some (.int .u64 (c1.toNat:Int)):=by rw[Blk.cell bs.o];rfl
   have fS:v7.cell? ⟨g,3,none⟩=some (.int .u64 (d2.toNat:Int)):=by rw[Blk.cell bs.o];rfl
   have x7:=X7.o;have y7:=Y7.o;refine wp_region_still_tail 11 (by kernel_rfl) (by kernel_rfl) ?_;simp only[List.take_succ_cons,List.take_zero,List.drop_succ_cons,List.drop_zero];change wpStill _ _ v7.drew _ _ _
   repeat still_step
   refine wpStill_nil ?_;change wpList _ _ _ _ _ v7.drew
   go_upto_region 10 with fail
   have cX:Blk (v7.setCell ⟨g,2,none⟩ (.int .u64 (c2.toNat:Int))).drew g 312 #[wv a3,wv b1,wv c2,wv d2,R,N]:=Blk.set bs.o 2 (wv c2);have cT:w.grownBy (v7.setCell ⟨g,2,none⟩ (.int .u64 (c2.toNat:Int))).drew (some g):=Bb (AM ej.o (.inl rfl) _);generalize (v7.setCell ⟨g,2,none⟩ (.int .u64 (c2.toNat:Int))).drew=v8 at cX cT⊢;clear gb eF eg fI fS x7 y7 X7 Y7;clear bs ej;have aw:=I cX;clear cX;have ei:=I cT;clear cT;have gd:=Blk.frozen aw.o;have eB:v8.cell? ⟨g,0,none⟩=some (.int .u64 (a3.toNat:Int)):=by rw[Blk.cell aw.o];rfl
   have fU:v8.cell? ⟨g,1,none⟩=some (.int .u64 (b1.toNat:Int)):=by rw[Blk.cell aw.o];rfl
   have eQ:v8.cell? ⟨g,2,none⟩=some (.int .u64 (c2.toNat:Int)):=by rw[Blk.cell aw.o];rfl
   have eu:v8.cell? ⟨g,3,none⟩=some (.int .u64 (d2.toNat:Int)):=by rw[Blk.cell aw.o];rfl
   have x8:=X8.o;refine wp_region_still_tail 13 (by kernel_rfl) (by kernel_rfl) ?_;simp only[List.take_succ_cons,List.take_zero,List.drop_succ_cons,List.drop_zero];change wpStill _ _ v8.drew _ _ _
   repeat still_step
   still_call (l8 v8.drew)
   repeat still_step
   refine wpStill_nil ?_;change wpList _ _ _ _ _ v8.drew
   go_upto_region 11 with fail
   have cM:Blk (v8.setCell ⟨g,1,none⟩ (.int .u64 (b2.toNat:Int))).drew g 312 #[wv a3,wv b2,wv c2,wv d2,R,N]:=Blk.set aw.o 1 (wv b2);have cw:w.grownBy (v8.setCell ⟨g,1,none⟩ (.int .u64 (b2.toNat:Int))).drew (some g):=Bb (AM ei.o (.inl rfl) _);generalize (v8.setCell ⟨g,1,none⟩ (.int .u64 (b2.toNat:Int))).drew=v9 at cM cw⊢;clear gd eB fU eQ eu x8 X8 l8;clear aw ei;have bq:=I cM;clear cM;have fV:=I cw;clear cw;have fZ:=Blk.frozen bq.o;have fQ:v9.cell? ⟨g,0,none⟩=some (.int .u64 (a3.toNat:Int)):=by rw[Blk.cell bq.o];rfl
   have fj:v9.cell? ⟨g,1,none⟩=some (.int .u64 (b2.toNat:Int)):=by rw[Blk.cell bq.o];rfl
   have eL:v9.cell? ⟨g,2,none⟩=some (.int .u64 (c2.toNat:Int)):=by rw[Blk.cell bq.o];rfl
   have eJ:v9.cell? ⟨g,3,none⟩=some (.int .u64 (d2.toNat:Int)):=by rw[Blk.cell bq.o];rfl
   go_upto_region 12 with(go_at_call 269;refine Aj (l9 _) ?_;rintro w' hw;have hw:=hw.symm;subst hw)
   have cg:Blk (v9.setCell ⟨g,2,none⟩ (.int .u64 (c3.toNat:Int))) g 312 #[wv a3,wv b2,wv c3,wv d2,R,N]:=Blk.set bq.o 2 (wv c3);have cZ:w.grownBy (v9.setCell ⟨g,2,none⟩ (.int .u64 (c3.toNat:Int))) (some g):=(AM fV.o (.inl rfl) _);generalize (v9.setCell ⟨g,2,none⟩ (.int .u64 (c3.toNat:Int)))=v10 at cg cZ⊢;clear fZ fQ fj eL eJ l9;clear bq fV;have ga:=I cg;clear cg;have fW:=I cZ;clear cZ
   go_wp2_with fail
   go_roundw
   case rel=>exact⟨i+1,by omega,by go_num,by rw[rnds,<-ES.o,fM.o];exact ga.o,fW.o⟩
   case measure=>simp [intOf];omega
theorem PI (g:Nat) (s:V) (w:World) (hB:Blk w g 219 (DU s)) :
  Calls Tryz.prog 111 #[.pointer (some ⟨g,0,none⟩)] w fun e w'=>e=.returned (.tuple #[])/\Blk w' g 219 (DU (rnd s))/\w.grownBy w' (some g):=by
 obtain⟨a,b,c,d⟩:=s;have bx:=I (show Blk w g 219 #[wv a,wv b,wv c,wv d] from hB);clear hB;have fX:=I (World.grownBy.refl w (some g));go_enter Tryz.func111,Tryz.ntmps111
 go_upto_region 0 with fail
 obtain⟨a1,ca⟩:∃x,x=a+b:=⟨_,rfl⟩;obtain⟨q1,cP⟩:∃x,x=rot b 13:=⟨_,rfl⟩;obtain⟨b1,ea⟩:∃x,x=q1 ^^^ a1:=⟨_,rfl⟩;obtain⟨a2,cx⟩:∃x,x=rot a1 32:=⟨_,rfl⟩;obtain⟨c1,bB⟩:∃x,x=c+d:=⟨_,rfl⟩;obtain⟨q4,cr⟩:∃x,x=rot d 16:=⟨_,rfl⟩;obtain⟨d1,cm⟩:∃x,x=q4 ^^^ c1:=⟨_,rfl⟩;obtain⟨a3,bz⟩:∃x,x=a2+d1:=⟨_,rfl⟩;obtain⟨q6,cB⟩:∃x,x=rot d1 21:=⟨_,rfl⟩;obtain⟨d2,cu⟩:∃x,x=q6 ^^^ a3:=⟨_,rfl⟩;obtain⟨c2,cb⟩:∃x,x=c1+b1:=⟨_,rfl⟩;obtain⟨q8,cQ⟩:∃x,x=rot b1 17:=⟨_,rfl⟩;obtain⟨b2,ck⟩:∃x,x=q8 ^^^ c2:=⟨_,rfl⟩;obtain⟨c3,cA⟩:∃x,x=rot c2 32:=⟨_,rfl⟩;have cc:rnd ⟨a,b,c,d⟩=⟨a3,b2,c3,d2⟩:=by subst ca cP ea cx bB cr cm bz cB cu cb cQ ck cA;rfl
 have fL:=I cc;clear cc;have x0:IntKind.u64.wrap ((a.toNat:Int)+(b.toNat:Int))=(a1.toNat:Int):=by rw[ca];exact Iv _ _
 have y0:((a.toNat:Int)+(b.toNat:Int)) % 18446744073709551616=(a1.toNat:Int):=by rw[ca];exact Gf _ _
 have X0:=I x0;clear x0;have Y0:=I y0;clear y0;have x1:bits .xor .u64 (q1.toNat:Int) (a1.toNat:Int)=(b1.toNat:Int):=by rw[ea];exact Bu _ _
 have X1:=I x1;clear x1;have l1:=ZN b;rw[<-cP] at l1;have l2:=Tx a1;rw[<-cx] at l2;have x3:IntKind.u64.wrap ((c.toNat:Int)+(d.toNat:Int))=(c1.toNat:Int):=by rw[bB];exact Iv _ _
 have y3:((c.toNat:Int)+(d.toNat:Int)) % 18446744073709551616=(c1.toNat:Int):=by rw[bB];exact Gf _ _
 have X3:=I x3;clear x3;have Y3:=I y3;clear y3;have x4:bits .xor .u64 (q4.toNat:Int) (c1.toNat:Int)=(d1.toNat:Int):=by rw[cm];exact Bu _ _
 have X4:=I x4;clear x4;have l4:=ZO d;rw[<-cr] at l4;have x5:IntKind.u64.wrap ((a2.toNat:Int)+(d1.toNat:Int))=(a3.toNat:Int):=by rw[bz];exact Iv _ _
 have y5:((a2.toNat:Int)+(d1.toNat:Int)) % 18446744073709551616=(a3.toNat:Int):=by rw[bz];exact Gf _ _
 have X5:=I x5;clear x5;have Y5:=I y5;clear y5;have x6:bits .xor .u64 (q6.toNat:Int) (a3.toNat:Int)=(d2.toNat:Int):=by rw[cu];exact Bu _ _
 have X6:=I x6;clear x6;have l6:=ZP d1;rw[<-cB] at l6;have x7:IntKind.u64.wrap ((c1.toNat:Int)+(b1.toNat:Int))=(c2.toNat:Int):=by rw[cb];exact Iv _ _
 have y7:((c1.toNat:Int)+(b1.toNat:Int)) % 18446744073709551616=(c2.toNat:Int):=by rw[cb];exact Gf _ _
 have X7:=I x7;clear x7;have Y7:=I y7;clear y7;have x8:bits .xor .u64 (q8.toNat:Int) (c2.toNat:Int)=(b2.toNat:Int):=by rw[ck];exact Bu _ _
 have X8:=I x8;clear x8;have l8:=ZQ b1;rw[<-cQ] at l8;have l9:=Tx c2;rw[<-cA] at l9;clear ca cP ea cx bB cr cm bz cB cu cb cQ ck cA;have gg:=Blk.frozen bx.o;have fb:w.cell? ⟨g,0,none⟩=some (.int .u64 (a.toNat:Int)):=by rw[Blk.cell bx.o];rfl
 have ev:w.cell? ⟨g,1,none⟩=some (.int .u64 (b.toNat:Int)):=by rw[Blk.cell bx.o];rfl
 have eL:w.cell? ⟨g,2,none⟩=some (.int .u64 (c.toNat:Int)):=by rw[Blk.cell bx.o];rfl
 have fu:w.cell? ⟨g,3,none⟩=some (.int .u64 (d.toNat:Int)):=by rw[Blk.cell bx.o];rfl
 have x0:=X0.o;have y0:=Y0.o;refine wp_region_still_tail 12 (by kernel_rfl) (by kernel_rfl) ?_;simp only[List.take_succ_cons,List.take_zero,List.drop_succ_cons,List.drop_zero];change wpStill _ _ w.drew _ _ _
 repeat still_step
 refine wpStill_nil ?_;change wpList _ _ _ _ _ w.drew
 go_upto_region 1 with fail
 have cw:Blk (w.setCell ⟨g,0,none⟩ (.int .u64 (a1.toNat:Int))).drew g 219 #[wv a1,wv b,wv c,wv d]:=Blk.set bx.o 0 (wv a1);have eb:w.grownBy (w.setCell ⟨g,0,none⟩ (.int .u64 (a1.toNat:Int))).drew (some g):=Bb (AM fX.o (.inl rfl) _);generalize (w.setCell ⟨g,0,none⟩ (.int .u64 (a1.toNat:Int))).drew=v1 at cw eb⊢;clear gg fb ev eL fu x0 y0 X0 Y0;have aw:=I cw;clear cw;have ew:=I eb;clear eb;have gi:=Blk.frozen aw.o;have fj:v1.cell? ⟨g,0,none⟩=some (.int .u64 (a1.toNat:Int)):=by rw[Blk.cell aw.o];rfl
 have fN:v1.cell? ⟨g,1,none⟩=some (.int .u64 (b.toNat:Int)):=by rw[Blk.cell aw.o];rfl
 have fs:v1.cell? ⟨g,2,none⟩=some (.int .u64 (c.toNat:Int)):=by rw[Blk.cell aw.o];rfl
 have ek:v1.cell? ⟨g,3,none⟩=some (.int .u64 (d.toNat:Int)):=by rw[Blk.cell aw.o];rfl
 have x1:=X1.o;refine wp_region_still_tail 13 (by kernel_rfl) (by kernel_rfl) ?_;simp only[List.take_succ_cons,List.take_zero,List.drop_succ_cons,List.drop_zero];change wpStill _ _ v1.drew _ _ _
 repeat still_step
 still_call (l1 v1.drew)
 repeat still_step
 refine wpStill_nil ?_;change wpList _ _ _ _ _ v1.drew
 go_upto_region 2 with fail
 have cX:Blk (v1.setCell ⟨g,1,none⟩ (.int .u64 (b1.toNat:Int))).drew g 219 #[wv a1,wv b1,wv c,wv d]:=Blk.set aw.o 1 (wv b1);have cZ:w.grownBy (v1.setCell ⟨g,1,none⟩ (.int .u64 (b1.toNat:Int))).drew (some g):=Bb (AM ew.o (.inl rfl) _);generalize (v1.setCell ⟨g,1,none⟩ (.int .u64 (b1.toNat:Int))).drew=v2 at cX cZ⊢;clear gi fj fN fs ek x1 X1 l1;clear aw ew;have Z:=I cX;clear cX;have fQ:=I cZ;clear cZ;have gh:=Blk.frozen Z.o;have fK:v2.cell? ⟨g,0,none⟩=some (.int .u64 (a1.toNat:Int)):=by rw[Blk.cell Z.o];rfl
 have eK:v2.cell? ⟨g,1,none⟩=some (.int .u64 (b1.toNat:Int)):=by rw[Blk.cell Z.o];rfl
 have eQ:v2.cell? ⟨g,2,none⟩=some (.int .u64 (c.toNat:Int)):=by rw[Blk.cell Z.o];rfl
 have eo:v2.cell? ⟨g,3,none⟩=some (.int .u64 (d.toNat:Int)):=by rw[Blk.cell Z.o];rfl
 refine wp_region_still_tail 8 (by kernel_rfl) (by kernel_rfl) ?_;simp only[List.take_succ_cons,List.take_zero,List.drop_succ_cons,List.drop_zero];change wpStill _ _ v2.drew _ _ _
 repeat still_step
 still_call (l2 v2.drew)
 repeat still_step
 refine wpStill_nil ?_;change wpList _ _ _ _ _ v2.drew
 go_upto_region 3 with fail
 have cn:Blk (v2.setCell ⟨g,0,none⟩ (.int .u64 (a2.toNat:Int))).drew g 219 #[wv a2,wv b1,wv c,wv d]:=Blk.set Z.o 0 (wv a2);have cy:w.grownBy (v2.setCell ⟨g,0,none⟩ (.int .u64 (a2.toNat:Int))).drew (some g):=Bb (AM fQ.o (.inl rfl) _);generalize (v2.setCell ⟨g,0,none⟩ (.int .u64 (a2.toNat:Int))).drew=v3 at cn cy⊢;clear gh fK eK eQ eo l2;clear Z fQ;have M:=I cn;clear cn;have eu:=I cy;clear cy;have fY:=Blk.frozen M.o;have ei:v3.cell? ⟨g,0,none⟩=some (.int .u64 (a2.toNat:Int)):=by rw[Blk.cell M.o];rfl
 have ez:v3.cell? ⟨g,1,none⟩=some (.int .u64 (b1.toNat:Int)):=by rw[Blk.cell M.o];rfl
 have fI:v3.cell? ⟨g,2,none⟩=some (.int .u64 (c.toNat:Int)):=by rw[Blk.cell M.o];rfl
 have fS:v3.cell? ⟨g,3,none⟩=some (.int .u64 (d.toNat:Int)):=by rw[Blk.cell M.o];rfl
 have x3:=X3.o;have y3:=Y3.o;refine wp_region_still_tail 12 (by kernel_rfl) (by kernel_rfl) ?_;simp only[List.take_succ_cons,List.take_zero,List.drop_succ_cons,List.drop_zero];change wpStill _ _ v3.drew _ _ _
 repeat still_step
 refine wpStill_nil ?_;change wpList _ _ _ _ _ v3.drew
 go_upto_region 4 with fail
 have cY:Blk (v3.setCell ⟨g,2,none⟩ (.int .u64 (c1.toNat:Int))).drew g 219 #[wv a2,wv b1,wv c1,wv d]:=Blk.set M.o 2 (wv c1);have cd:w.grownBy (v3.setCell ⟨g,2,none⟩ (.int .u64 (c1.toNat:Int))).drew (some g):=Bb (AM eu.o (.inl rfl) _);generalize (v3.setCell ⟨g,2,none⟩ (.int .u64 (c1.toNat:Int))).drew=v4 at cY cd⊢;clear fY ei ez fI fS x3 y3 X3 Y3;clear M eu;have bs:=I cY;clear cY;have eP:=I cd;clear cd;have gf:=Blk.frozen bs.o;have eW:v4.cell? ⟨g,0,none⟩=some (.int .u64 (a2.toNat:Int)):=by rw[Blk.cell bs.o];rfl
 have fM:v4.cell? ⟨g,1,none⟩=some (.int .u64 (b1.toNat:Int)):=by rw[Blk.cell bs.o];rfl
 have et:v4.cell? ⟨g,2,none⟩=some (.int .u64 (c1.toNat:Int)):=by rw[Blk.cell bs.o];rfl
 have ep:v4.cell? ⟨g,3,none⟩=some (.int .u64 (d.toNat:Int)):=by rw[Blk.cell bs.o];rfl
 have x4:=X4.o;refine wp_region_still_tail 13 (by kernel_rfl) (by kernel_rfl) ?_;simp only[List.take_succ_cons,List.take_zero,List.drop_succ_cons,List.drop_zero];change wpStill _ _ v4.drew _ _ _
 repeat still_step
 still_call (l4 v4.drew)
 repeat still_step
 refine wpStill_nil ?_;change wpList _ _ _ _ _ v4.drew
 go_upto_region 5 with fail
 have cp:Blk (v4.setCell ⟨g,3,none⟩ (.int .u64 (d1.toNat:Int))).drew g 219 #[wv a2,wv b1,wv c1,wv d1]:=Blk.set bs.o 3 (wv d1);have cg:w.grownBy (v4.setCell ⟨g,3,none⟩ (.int .u64 (d1.toNat:Int))).drew (some g):=Bb (AM eP.o (.inl rfl) _);generalize (v4.setCell ⟨g,3,none⟩ (.int .u64 (d1.toNat:Int))).drew=v5 at cp cg⊢;clear gf eW fM et ep x4 X4 l4;clear bs eP;have O:=I cp;clear cp;have eV:=I cg;clear cg;have gj:=Blk.frozen O.o;have eM:v5.cell? ⟨g,0,none⟩=some (.int .u64 (a2.toNat:Int)):=by rw[Blk.cell O.o];rfl
 have ej:v5.cell? ⟨g,1,none⟩=some (.int .u64 (b1.toNat:Int)):=by rw[Blk.cell O.o];rfl
 have fi:v5.cell? ⟨g,2,none⟩=some (.int .u64 (c1.toNat:Int)):=by rw[Blk.cell O.o];rfl
 have eX:v5.cell? ⟨g,3,none⟩=some (.int .u64 (d1.toNat:Int)):=by rw[Blk.cell O.o];rfl
 have x5:=X5.o;have y5:=Y5.o;refine wp_region_still_tail 12 (by kernel_rfl) (by kernel_rfl) ?_;simp only[List.take_succ_cons,List.take_zero,List.drop_succ_cons,List.drop_zero];change wpStill _ _ v5.drew _ _ _
 repeat still_step
 refine wpStill_nil ?_;change wpList _ _ _ _ _ v5.drew
 go_upto_region 6 with fail
 have cq:Blk (v5.setCell ⟨g,0,none⟩ (.int .u64 (a3.toNat:Int))).drew g 219 #[wv a3,wv b1,wv c1,wv d1]:=Blk.set O.o 0 (wv a3);have cM:w.grownBy (v5.setCell ⟨g,0,none⟩ (.int .u64 (a3.toNat:Int))).drew (some g):=Bb (AM eV.o (.inl rfl) _);generalize (v5.setCell ⟨g,0,none⟩ (.int .u64 (a3.toNat:Int))).drew=v6 at cq cM⊢;clear gj eM ej fi eX x5 y5 X5 Y5;clear O eV;have bb:=I cq;clear cq;have eF:=I cM;clear cM;have fW:=Blk.frozen bb.o;have eR:v6.cell? ⟨g,0,none⟩=some (.int .u64 (a3.toNat:Int)):=by rw[Blk.cell bb.o];rfl
 have fO:v6.cell? ⟨g,1,none⟩=some (.int .u64 (b1.toNat:Int)):=by rw[Blk.cell bb.o];rfl
 have fJ:v6.cell? ⟨g,2,none⟩=some (.int .u64 (c1.toNat:Int)):=by rw[Blk.cell bb.o];rfl
 have eT:v6.cell? ⟨g,3,none⟩=some (.int .u64 (d1.toNat:Int)):=by rw[Blk.cell bb.o];rfl
 have x6:=X6.o;refine wp_region_still_tail 13 (by kernel_rfl) (by kernel_rfl) ?_;simp only[List.take_succ_cons,List.take_zero,List.drop_succ_cons,List.drop_zero];change wpStill _ _ v6.drew _ _ _
 repeat still_step
 still_call (l6 v6.drew)
 repeat still_step
 refine wpStill_nil ?_;change wpList _ _ _ _ _ v6.drew
 go_upto_region 7 with fail
 have cf:Blk (v6.setCell ⟨g,3,none⟩ (.int .u64 (d2.toNat:Int))).drew g 219 #[wv a3,wv b1,wv c1,wv d2]:=Blk.set bb.o 3 (wv d2);have cj:w.grownBy (v6.setCell ⟨g,3,none⟩ (.int .u64 (d2.toNat:Int))).drew (some g):=Bb (AM eF.o (.inl rfl) _);generalize (v6.setCell ⟨g,3,none⟩ (.int .u64 (d2.toNat:Int))).drew=v7 at cf cj⊢;clear fW eR fO fJ eT x6 X6 l6;clear bb eF;have bq:=I cf;clear cf;have ef:=I cj;clear cj;have gb:=Blk.frozen bq.o;have eB:v7.cell? ⟨g,0,none⟩=some (.int .u64 (a3.toNat:Int)):=by rw[Blk.cell bq.o];rfl
 have ec:v7.cell? ⟨g,1,none⟩=some (.int .u64 (b1.toNat:Int)):=by rw[Blk.cell bq.o];rfl
 have fv:v7.cell? ⟨g,2,none⟩=some (.int .u64 (c1.toNat:Int)):=by rw[Blk.cell bq.o];rfl
 have fR:v7.cell? ⟨g,3,none⟩=some (.int .u64 (d2.toNat:Int)):=by rw[Blk.cell bq.o];rfl
 have x7:=X7.o;have y7:=Y7.o;refine wp_region_still_tail 12 (by kernel_rfl) (by kernel_rfl) ?_;simp only[List.take_succ_cons,List.take_zero,List.drop_succ_cons,List.drop_zero];change wpStill _ _ v7.drew _ _ _
 repeat still_step
 refine wpStill_nil ?_;change wpList _ _ _ _ _ v7.drew
 go_upto_region 8 with fail
 have cT:Blk (v7.setCell ⟨g,2,none⟩ (.int .u64 (c2.toNat:Int))).drew g 219 #[wv a3,wv b1,wv c2,wv d2]:=Blk.set bq.o 2 (wv c2);have cR:w.grownBy (v7.setCell ⟨g,2,none⟩ (.int .u64 (c2.toNat:Int))).drew (some g):=Bb (AM ef.o (.inl rfl) _);generalize (v7.setCell ⟨g,2,none⟩ (.int .u64 (c2.toNat:Int))).drew=v8 at cT cR⊢;clear gb eB ec fv fR x7 y7 X7 Y7;clear bq ef;have av:=I cT;clear cT;have ed:=I cR;clear cR;have gd:=Blk.frozen av.o;have ey:v8.cell? ⟨g,0,none⟩=some (.int .u64 (a3.toNat:Int)):=by rw[Blk.cell av.o];rfl
 have fT:v8.cell? ⟨g,1,none⟩=some (.int .u64 (b1.toNat:Int)):=by rw[Blk.cell av.o];rfl
 have eN:v8.cell? ⟨g,2,none⟩=some (.int .u64 (c2.toNat:Int)):=by rw[Blk.cell av.o];rfl
 have er:v8.cell? ⟨g,3,none⟩=some (.int .u64 (d2.toNat:Int)):=by rw[Blk.cell av.o];rfl
 have x8:=X8.o;refine wp_region_still_tail 13 (by kernel_rfl) (by kernel_rfl) ?_;simp only[List.take_succ_cons,List.take_zero,List.drop_succ_cons,List.drop_zero];change wpStill _ _ v8.drew _ _ _
 repeat still_step
 still_call (l8 v8.drew)
 repeat still_step
 refine wpStill_nil ?_;change wpList _ _ _ _ _ v8.drew
 go_upto_region 9 with fail
 have cL:Blk (v8.setCell ⟨g,1,none⟩ (.int .u64 (b2.toNat:Int))).drew g 219 #[wv a3,wv b2,wv c2,wv d2]:=Blk.set av.o 1 (wv b2);have ct:w.grownBy (v8.setCell ⟨g,1,none⟩ (.int .u64 (b2.toNat:Int))).drew (some g):=Bb (AM ed.o (.inl rfl) _);generalize (v8.setCell ⟨g,1,none⟩ (.int .u64 (b2.toNat:Int))).drew=v9 at cL ct⊢;clear gd ey fT eN er x8 X8 l8;clear av ed;have bn:=I cL;clear cL;have fU:=I ct;clear ct;have fZ:=Blk.frozen bn.o;have fP:v9.cell? ⟨g,0,none⟩=some (.int .u64 (a3.toNat:Int)):=by rw[Blk.cell bn.o];rfl
 have ff:v9.cell? ⟨g,1,none⟩=some (.int .u64 (b2.toNat:Int)):=by rw[Blk.cell bn.o];rfl
 have eJ:v9.cell? ⟨g,2,none⟩=some (.int .u64 (c2.toNat:Int)):=by rw[Blk.cell bn.o];rfl
 have eE:v9.cell? ⟨g,3,none⟩=some (.int .u64 (d2.toNat:Int)):=by rw[Blk.cell bn.o];rfl
 refine wp_region_still_tail 8 (by kernel_rfl) (by kernel_rfl) ?_;simp only[List.take_succ_cons,List.take_zero,List.drop_succ_cons,List.drop_zero];change wpStill _ _ v9.drew _ _ _
 repeat still_step
 still_call (l9 v9.drew)
 repeat still_step
 refine wpStill_nil ?_;change wpList _ _ _ _ _ v9.drew
 go_wp2_with fail
 have eg:Blk (v9.setCell ⟨g,2,none⟩ (.int .u64 (c3.toNat:Int))).drew g 219 #[wv a3,wv b2,wv c3,wv d2]:=Blk.set bn.o 2 (wv c3);have fz:w.grownBy (v9.setCell ⟨g,2,none⟩ (.int .u64 (c3.toNat:Int))).drew (some g):=Bb (AM fU.o (.inl rfl) _);clear fZ fP ff eJ eE l9;clear bn fU;have ga:=I eg;clear eg;have fV:=I fz;clear fz
 go_end0
 exact⟨rfl,by rw[fL.o];exact ga.o,fV.o⟩
theorem Jy (g:Nat) (s:V) (R N:Value) (m:Wd) (w:World) (hB:Blk w g 312 (Jx s R N)) :
  Calls Tryz.prog 258 #[.pointer (some ⟨g,0,none⟩),wv m] w fun e w'=>e=.returned (.tuple #[])/\Blk w' g 312 (Jx (addM s m) R N)/\w.grownBy w' (some g):=by
 obtain⟨a,b,c,d⟩:=s;obtain⟨O,ed⟩:∃x,x=d ^^^ m:=⟨_,rfl⟩;obtain⟨⟨a2,b2,c2,d2⟩,e2⟩:∃t,t=rnds 2 ⟨a,b,c,O⟩:=⟨_,rfl⟩;obtain⟨a3,ea⟩:∃x,x=a2 ^^^ m:=⟨_,rfl⟩;have Z:addM ⟨a,b,c,d⟩ m=⟨a3,b2,c2,d2⟩:=by simp only[addM,<-ed,<-e2,<-ea]
 have x1:bits .xor .u64 (d.toNat:Int) (m.toNat:Int)=(O.toNat:Int):=by rw[ed];exact Bu _ _
 have x2:bits .xor .u64 (a2.toNat:Int) (m.toNat:Int)=(a3.toNat:Int):=by rw[ea];exact Bu _ _
 have bb:=I Z;clear Z;have E2:=I e2;clear e2;clear ed ea;have fz:=hB.frozen;have k3:w.cell? ⟨g,3,none⟩=some (.int .u64 (d.toNat:Int)):=by rw[hB.cell];rfl
 have HB:=I (show Blk w g 312 #[wv a,wv b,wv c,wv d,R,N] from hB);clear hB;have HG:=I (World.grownBy.refl w (some g));go_enter Tryz.func258,Tryz.ntmps258
 go_upto_region 1 with fail
 have aw:Blk (w.setCell ⟨g,3,none⟩ (.int .u64 (O.toNat:Int))) g 312 #[wv a,wv b,wv c,wv O,R,N]:=Blk.set HB.o 3 (wv O);have av:w.grownBy (w.setCell ⟨g,3,none⟩ (.int .u64 (O.toNat:Int))) (some g):=AM HG.o (.inl rfl) _;generalize w.setCell ⟨g,3,none⟩ (.int .u64 (O.toNat:Int))=v1 at aw av⊢;have c1:=Kp g 2 ⟨a,b,c,O⟩ R N v1 (by decide) aw;rw[<-E2.o] at c1;have bx:=I av;clear aw av fz k3 HB HG x1
 go_upto_region 2 with(go_at_call 259;refine Aj c1 ?_;rintro v2 ⟨M,bn⟩;clear c1;have k0:v2.cell? ⟨g,0,none⟩=some (.int .u64 (a2.toNat:Int)):=by{rw[M.cell];rfl};have bz:=M.frozen;have bs:=I M;have bq:=I bn;clear M bn)
 go_wp2_with fail
 go_end0
 exact⟨rfl,by rw[bb.o];exact Blk.set bs.o 0 (wv a3),AM (World.grownBy.trans bx.o bq.o) (.inl rfl) _⟩
theorem ZS (g:Nat) (s:V) (m:Wd) (w:World) (hB:Blk w g 219 (DU s)) :
  Calls Tryz.prog 110 #[.pointer (some ⟨g,0,none⟩),wv m] w fun e w'=>e=.returned (.tuple #[])/\Blk w' g 219 (DU (addM s m))/\w.grownBy w' (some g):=by
 obtain⟨a,b,c,d⟩:=s;obtain⟨O,ed⟩:∃x,x=d ^^^ m:=⟨_,rfl⟩;obtain⟨t1,e1⟩:∃t,t=rnd ⟨a,b,c,O⟩:=⟨_,rfl⟩;obtain⟨⟨a2,b2,c2,d2⟩,e2⟩:∃t,t=rnd t1:=⟨_,rfl⟩;obtain⟨a3,ea⟩:∃x,x=a2 ^^^ m:=⟨_,rfl⟩;have hr:rnds 2 ⟨a,b,c,O⟩=⟨a2,b2,c2,d2⟩:=by rw[e2,e1];rfl
 have Z:addM ⟨a,b,c,d⟩ m=⟨a3,b2,c2,d2⟩:=by simp only[addM,<-ed,hr,<-ea]
 have x1:bits .xor .u64 (d.toNat:Int) (m.toNat:Int)=(O.toNat:Int):=by rw[ed];exact Bu _ _
 have x2:bits .xor .u64 (a2.toNat:Int) (m.toNat:Int)=(a3.toNat:Int):=by rw[ea];exact Bu _ _
 have bb:=I Z;clear Z hr;have E1:=I e1;clear e1;have E2:=I e2;clear e2;clear ed ea;have fz:=hB.frozen;have k3:w.cell? ⟨g,3,none⟩=some (.int .u64 (d.toNat:Int)):=by rw[hB.cell];rfl
 have HB:=I (show Blk w g 219 #[wv a,wv b,wv c,wv d] from hB);clear hB;have HG:=I (World.grownBy.refl w (some g));go_enter Tryz.func110,Tryz.ntmps110
 go_upto_region 0 with fail
 refine wp_region_still_tail 9 (by kernel_rfl) (by kernel_rfl) ?_;simp only[List.take_succ_cons,List.take_zero,List.drop_succ_cons,List.drop_zero];change wpStill _ _ w.drew _ _ _
 repeat still_step
 refine wpStill_nil ?_;change wpList _ _ _ _ _ w.drew
 go_upto_region 1 with fail
 have aw:Blk (w.setCell ⟨g,3,none⟩ (.int .u64 (O.toNat:Int))).drew g 219 #[wv a,wv b,wv c,wv O]:=Blk.set HB.o 3 (wv O);have av:w.grownBy (w.setCell ⟨g,3,none⟩ (.int .u64 (O.toNat:Int))).drew (some g):=Bb (AM HG.o (.inl rfl) _);generalize (w.setCell ⟨g,3,none⟩ (.int .u64 (O.toNat:Int))).drew=v1 at aw av⊢;have c1:=PI g ⟨a,b,c,O⟩ v1 aw;rw[<-E1.o] at c1;have bB:=I av;clear aw av fz k3 HB HG x1
 go_upto_region 2 with(go_at_call 111;refine Aj c1 ?_;rintro v2 ⟨bs,bq⟩;clear c1;have c2:=PI g t1 v2 bs;rw[<-E2.o] at c2;have bx:=I bq;clear bs bq)
 go_upto_region 3 with(go_at_call 111;refine Aj c2 ?_;rintro v3 ⟨M,bn⟩;clear c2;have k0:v3.cell? ⟨g,0,none⟩=some (.int .u64 (a2.toNat:Int)):=by{rw[M.cell];rfl};have cb:=M.frozen;have ca:=I M;have bz:=I bn;clear M bn)
 refine wp_region_still_tail 9 (by kernel_rfl) (by kernel_rfl) ?_;simp only[List.take_succ_cons,List.take_zero,List.drop_succ_cons,List.drop_zero];change wpStill _ _ v3.drew _ _ _
 repeat still_step
 refine wpStill_nil ?_;change wpList _ _ _ _ _ v3.drew
 go_wp2_with fail
 go_end0
 exact⟨rfl,by rw[bb.o];exact Blk.set ca.o 0 (wv a3),Bb (AM (World.grownBy.trans (World.grownBy.trans bB.o bx.o) bz.o) (.inl rfl) _)⟩
def stc (s:St):Array Value:=Jx s.v (.int .u64 (s.r:Int)) (.int .u64 (s.n:Int))
theorem On (g:Nat) (s:St) (y:UInt8) (w:World) (hn:s.n<100000) (hr:s.r<256 ^ (s.n % 8)) (hB:Blk w g 312 (stc s)) :
  Calls Tryz.prog 242 #[.pointer (some ⟨g,0,none⟩),.int .u8 (y.toNat:Int)] w fun e w'=>e=.returned (.tuple #[])/\Blk w' g 312 (stc (addB s y))/\w.grownBy w' (some g):=by
 obtain⟨⟨a,b,c,d⟩,r,n⟩:=s;have hn:n<100000:=hn;have hr:r<256 ^ (n % 8):=hr;obtain⟨Z,e2⟩:∃x,x=r+y.toNat*256 ^ (n % 8):=⟨_,rfl⟩;have hx:∀K:Int,K=((256 ^ (n % 8):Nat):Int)->bits .or .u64 (r:Int) (IntKind.u64.wrap ((y.toNat:Int)*K))=(Z:Int):=fun K hK=>by
  rw[e2];refine Lm r y (n % 8) (by omega) hr _ ?_;have h1:=WE (n % 8) (by omega);have h2:=y.toNat_lt;have h3:y.toNat*256 ^ (n % 8)<=255*72057594037927936:=Nat.mul_le_mul (by omega) h1;rw[hK,IntKind.wrap_u64,<-Int.natCast_mul];omega
 have cd:Z<18446744073709551616:=by
  have h1:=PG r y (n % 8) hr;have h2:(256:Nat) ^ (n % 8+1)<=256 ^ 8:=Nat.pow_le_pow_right (by decide) (by omega);have h3:(256:Nat) ^ 8=18446744073709551616:=by decide
  omega
 have cc:¬(n+1) % 8=0->stc (addB ⟨⟨a,b,c,d⟩,r,n⟩ y)=#[wv a,wv b,wv c,wv d,.int .u64 (Z:Int),.int .u64 ((n:Int)+1)]:=fun h=>by
  rw[Tw _ _ h,e2]
  rfl
 have bB:(n+1) % 8=0->stc (addB ⟨⟨a,b,c,d⟩,r,n⟩ y)=Jx (addM ⟨a,b,c,d⟩ (wd Z)) (.int .u64 0) (.int .u64 ((n:Int)+1)):=fun h=>by
  rw[PE _ _ h,e2]
  rfl
 have bx:=I cc;clear cc;have ca:=I bB;clear bB;have cg:=I cd;clear cd;have hy:IntKind.u64.wrap (y.toNat:Int)=(y.toNat:Int):=by rw[IntKind.wrap_u64];have:=y.toNat_lt;omega
 have fz:=hB.frozen;have k4:w.cell? ⟨g,4,none⟩=some (.int .u64 (r:Int)):=by rw[hB.cell];rfl
 have k5:w.cell? ⟨g,5,none⟩=some (.int .u64 (n:Int)):=by rw[hB.cell];rfl
 have HB:=I (show Blk w g 312 #[wv a,wv b,wv c,wv d,.int .u64 (r:Int),.int .u64 (n:Int)] from hB);clear hB;have HG:=I (World.grownBy.refl w (some g));have HN:=I hn;clear e2 hr;have hk:n % 8=0\/n % 8=1\/n % 8=2\/n % 8=3\/n % 8=4\/n % 8=5\/n % 8=6\/n % 8=7:=by omega
 have n0:(0:Int)<=(n:Int):=by omega
 have n1:(n:Int)<100000:=by omega
 clear hn;rcases hk with hk | hk | hk | hk | hk | hk | hk | hk
 ·have hx:=hx 1 (by rw[hk];decide)
  rw[Int.mul_one,hy] at hx;have m1:(n:Int).tmod 8=0:=by rw[Int.tmod_eq_emod_of_nonneg n0];omega
  have m2:((n:Int)+1).tmod 8=1:=by rw[Int.tmod_eq_emod_of_nonneg (by omega)];omega
  have m3:n % 8=0:=hk;have hw:IntKind.u64.wrap 0=0:=by kernel_rfl
  have m4:(n:Int) % 8=0:=by omega
  have m5:(n+1) % 8=1:=by omega
  have M5:=I m5;clear m5;clear hk;go_enter Tryz.func242,Tryz.ntmps242
  go_upto_region 0 with fail
  refine wp_region_still_tail 16 (by kernel_rfl) (by kernel_rfl) ?_;simp only[List.take_succ_cons,List.take_zero,List.drop_succ_cons,List.drop_zero];change wpStill _ _ w.drew _ _ _
  repeat still_step
  refine wpStill_nil ?_;change wpList _ _ _ _ _ w.drew
  go_upto_region 1 with fail
  have O:Blk (w.setCell ⟨g,4,none⟩ (.int .u64 (Z:Int))).drew g 312 #[wv a,wv b,wv c,wv d,.int .u64 (Z:Int),.int .u64 (n:Int)]:=Blk.set HB.o 4 (.int .u64 (Z:Int));have av:w.grownBy (w.setCell ⟨g,4,none⟩ (.int .u64 (Z:Int))).drew (some g):=Bb (AM HG.o (.inl rfl) _);generalize (w.setCell ⟨g,4,none⟩ (.int .u64 (Z:Int))).drew=v1 at O av⊢;clear fz k4 k5 HB HG hx m1 m3 m4 hw hy;have fz:=O.frozen;have k5:v1.cell? ⟨g,5,none⟩=some (.int .u64 (n:Int)):=by rw[O.cell];rfl
  have bn:=I O;clear O;have bb:=I av;clear av
  go_upto_region 2 with fail
  have M:Blk (v1.setCell ⟨g,5,none⟩ (.int .u64 ((n:Int)+1))) g 312 #[wv a,wv b,wv c,wv d,.int .u64 (Z:Int),.int .u64 ((n:Int)+1)]:=Blk.set bn.o 5 (.int .u64 ((n:Int)+1));have aw:w.grownBy (v1.setCell ⟨g,5,none⟩ (.int .u64 ((n:Int)+1))) (some g):=AM bb.o (.inl rfl) _;generalize (v1.setCell ⟨g,5,none⟩ (.int .u64 ((n:Int)+1)))=v2 at M aw⊢;clear fz k5 bn bb;have fz:=M.frozen;have k4:v2.cell? ⟨g,4,none⟩=some (.int .u64 (Z:Int)):=by rw[M.cell];rfl
  have k5:v2.cell? ⟨g,5,none⟩=some (.int .u64 ((n:Int)+1)):=by rw[M.cell];rfl
  have bs:=I M;clear M;have bq:=I aw;clear aw
  go_wp2_with fail
  go_end0
  exact⟨rfl,by rw[bx.o (by have:=M5.o;omega)];exact bs.o,bq.o⟩
 ·have hx:=hx 256 (by rw[hk];decide)
  have m1:(n:Int).tmod 8=1:=by rw[Int.tmod_eq_emod_of_nonneg n0];omega
  have m2:((n:Int)+1).tmod 8=2:=by rw[Int.tmod_eq_emod_of_nonneg (by omega)];omega
  have m3:n % 8=1:=hk;have hw:IntKind.u64.wrap 8=8:=by kernel_rfl
  have m4:(n:Int) % 8=1:=by omega
  have m5:(n+1) % 8=2:=by omega
  have M5:=I m5;clear m5;clear hk;go_enter Tryz.func242,Tryz.ntmps242
  go_upto_region 0 with fail
  refine wp_region_still_tail 16 (by kernel_rfl) (by kernel_rfl) ?_;simp only[List.take_succ_cons,List.take_zero,List.drop_succ_cons,List.drop_zero];change wpStill _ _ w.drew _ _ _
  repeat still_step
  refine wpStill_nil ?_;change wpList _ _ _ _ _ w.drew
  go_upto_region 1 with fail
  have O:Blk (w.setCell ⟨g,4,none⟩ (.int .u64 (Z:Int))).drew g 312 #[wv a,wv b,wv c,wv d,.int .u64 (Z:Int),.int .u64 (n:Int)]:=Blk.set HB.o 4 (.int .u64 (Z:Int));have av:w.grownBy (w.setCell ⟨g,4,none⟩ (.int .u64 (Z:Int))).drew (some g):=Bb (AM HG.o (.inl rfl) _);generalize (w.setCell ⟨g,4,none⟩ (.int .u64 (Z:Int))).drew=v1 at O av⊢;clear fz k4 k5 HB HG hx m1 m3 m4 hw hy;have fz:=O.frozen;have k5:v1.cell? ⟨g,5,none⟩=some (.int .u64 (n:Int)):=by rw[O.cell];rfl
  have bn:=I O;clear O;have bb:=I av;clear av
  go_upto_region 2 with fail
  have M:Blk (v1.setCell ⟨g,5,none⟩ (.int .u64 ((n:Int)+1))) g 312 #[wv a,wv b,wv c,wv d,.int .u64 (Z:Int),.int .u64 ((n:Int)+1)]:=Blk.set bn.o 5 (.int .u64 ((n:Int)+1));have aw:w.grownBy (v1.setCell ⟨g,5,none⟩ (.int .u64 ((n:Int)+1))) (some g):=AM bb.o (.inl rfl) _;generalize (v1.setCell ⟨g,5,none⟩ (.int .u64 ((n:Int)+1)))=v2 at M aw⊢;clear fz k5 bn bb;have fz:=M.frozen;have k4:v2.cell? ⟨g,4,none⟩=some (.int .u64 (Z:Int)):=by rw[M.cell];rfl
  have k5:v2.cell? ⟨g,5,none⟩=some (.int .u64 ((n:Int)+1)):=by rw[M.cell];rfl
  have bs:=I M;clear M;have bq:=I aw;clear aw
  go_wp2_with fail
  go_end0
  exact⟨rfl,by rw[bx.o (by have:=M5.o;omega)];exact bs.o,bq.o⟩
 ·have hx:=hx 65536 (by rw[hk];decide)
  have m1:(n:Int).tmod 8=2:=by rw[Int.tmod_eq_emod_of_nonneg n0];omega
  have m2:((n:Int)+1).tmod 8=3:=by rw[Int.tmod_eq_emod_of_nonneg (by omega)];omega
  have m3:n % 8=2:=hk;have hw:IntKind.u64.wrap 16=16:=by kernel_rfl
  have m4:(n:Int) % 8=2:=by omega
  have m5:(n+1) % 8=3:=by omega
  have M5:=I m5;clear m5;clear hk;go_enter Tryz.func242,Tryz.ntmps242
  go_upto_region 0 with fail
  refine wp_region_still_tail 16 (by kernel_rfl) (by kernel_rfl) ?_;simp only[List.take_succ_cons,List.take_zero,List.drop_succ_cons,List.drop_zero];change wpStill _ _ w.drew _ _ _
  repeat still_step
  refine wpStill_nil ?_;change wpList _ _ _ _ _ w.drew
  go_upto_region 1 with fail
  have O:Blk (w.setCell ⟨g,4,none⟩ (.int .u64 (Z:Int))).drew g 312 #[wv a,wv b,wv c,wv d,.int .u64 (Z:Int),.int .u64 (n:Int)]:=Blk.set HB.o 4 (.int .u64 (Z:Int));have av:w.grownBy (w.setCell ⟨g,4,none⟩ (.int .u64 (Z:Int))).drew (some g):=Bb (AM HG.o (.inl rfl) _);generalize (w.setCell ⟨g,4,none⟩ (.int .u64 (Z:Int))).drew=v1 at O av⊢;clear fz k4 k5 HB HG hx m1 m3 m4 hw hy;have fz:=O.frozen;have k5:v1.cell? ⟨g,5,none⟩=some (.int .u64 (n:Int)):=by rw[O.cell];rfl
  have bn:=I O;clear O;have bb:=I av;clear av
  go_upto_region 2 with fail
  have M:Blk (v1.setCell ⟨g,5,none⟩ (.int .u64 ((n:Int)+1))) g 312 #[wv a,wv b,wv c,wv d,.int .u64 (Z:Int),.int .u64 ((n:Int)+1)]:=Blk.set bn.o 5 (.int .u64 ((n:Int)+1));have aw:w.grownBy (v1.setCell ⟨g,5,none⟩ (.int .u64 ((n:Int)+1))) (some g):=AM bb.o (.inl rfl) _;generalize (v1.setCell ⟨g,5,none⟩ (.int .u64 ((n:Int)+1)))=v2 at M aw⊢;clear fz k5 bn bb;have fz:=M.frozen;have k4:v2.cell? ⟨g,4,none⟩=some (.int .u64 (Z:Int)):=by rw[M.cell];rfl
  have k5:v2.cell? ⟨g,5,none⟩=some (.int .u64 ((n:Int)+1)):=by rw[M.cell];rfl
  have bs:=I M;clear M;have bq:=I aw;clear aw
  go_wp2_with fail
  go_end0
  exact⟨rfl,by rw[bx.o (by have:=M5.o;omega)];exact bs.o,bq.o⟩
 ·have hx:=hx 16777216 (by rw[hk];decide)
  have m1:(n:Int).tmod 8=3:=by rw[Int.tmod_eq_emod_of_nonneg n0];omega
  have m2:((n:Int)+1).tmod 8=4:=by rw[Int.tmod_eq_emod_of_nonneg (by omega)];omega
  have m3:n % 8=3:=hk;have hw:IntKind.u64.wrap 24=24:=by kernel_rfl
  have m4:(n:Int) % 8=3:=by omega
  have m5:(n+1) % 8=4:=by omega
  have M5:=I m5;clear m5;clear hk;go_enter Tryz.func242,Tryz.ntmps242
  go_upto_region 0 with fail
  refine wp_region_still_tail 16 (by kernel_rfl) (by kernel_rfl) ?_;simp only[List.take_succ_cons,List.take_zero,List.drop_succ_cons,List.drop_zero];change wpStill _ _ w.drew _ _ _
  repeat still_step
  refine wpStill_nil ?_;change wpList _ _ _ _ _ w.drew
  go_upto_region 1 with fail
  have O:Blk (w.setCell ⟨g,4,none⟩ (.int .u64 (Z:Int))).drew g 312 #[wv a,wv b,wv c,wv d,.int .u64 (Z:Int),.int .u64 (n:Int)]:=Blk.set HB.o 4 (.int .u64 (Z:Int));have av:w.grownBy (w.setCell ⟨g,4,none⟩ (.int .u64 (Z:Int))).drew (some g):=Bb (AM HG.o (.inl rfl) _);generalize (w.setCell ⟨g,4,none⟩ (.int .u64 (Z:Int))).drew=v1 at O av⊢;clear fz k4 k5 HB HG hx m1 m3 m4 hw hy;have fz:=O.frozen;have k5:v1.cell? ⟨g,5,none⟩=some (.int .u64 (n:Int)):=by rw[O.cell];rfl
  have bn:=I O;clear O;have bb:=I av;clear av
  go_upto_region 2 with fail
  have M:Blk (v1.setCell ⟨g,5,none⟩ (.int .u64 ((n:Int)+1))) g 312 #[wv a,wv b,wv c,wv d,.int .u64 (Z:Int),.int .u64 ((n:Int)+1)]:=Blk.set bn.o 5 (.int .u64 ((n:Int)+1));have aw:w.grownBy (v1.setCell ⟨g,5,none⟩ (.int .u64 ((n:Int)+1))) (some g):=AM bb.o (.inl rfl) _;generalize (v1.setCell ⟨g,5,none⟩ (.int .u64 ((n:Int)+1)))=v2 at M aw⊢;clear fz k5 bn bb;have fz:=M.frozen;have k4:v2.cell? ⟨g,4,none⟩=some (.int .u64 (Z:Int)):=by rw[M.cell];rfl
  have k5:v2.cell? ⟨g,5,none⟩=some (.int .u64 ((n:Int)+1)):=by rw[M.cell];rfl
  have bs:=I M;clear M;have bq:=I aw;clear aw
  go_wp2_with fail
  go_end0
  exact⟨rfl,by rw[bx.o (by have:=M5.o;omega)];exact bs.o,bq.o⟩
 ·have hx:=hx 4294967296 (by rw[hk];decide)
  have m1:(n:Int).tmod 8=4:=by rw[Int.tmod_eq_emod_of_nonneg n0];omega
  have m2:((n:Int)+1).tmod 8=5:=by rw[Int.tmod_eq_emod_of_nonneg (by omega)];omega
  have m3:n % 8=4:=hk;have hw:IntKind.u64.wrap 32=32:=by kernel_rfl
  have m4:(n:Int) % 8=4:=by omega
  have m5:(n+1) % 8=5:=by omega
  have M5:=I m5;clear m5;clear hk;go_enter Tryz.func242,Tryz.ntmps242
  go_upto_region 0 with fail
  refine wp_region_still_tail 16 (by kernel_rfl) (by kernel_rfl) ?_;simp only[List.take_succ_cons,List.take_zero,List.drop_succ_cons,List.drop_zero];change wpStill _ _ w.drew _ _ _
  repeat still_step
  refine wpStill_nil ?_;change wpList _ _ _ _ _ w.drew
  go_upto_region 1 with fail
  have O:Blk (w.setCell ⟨g,4,none⟩ (.int .u64 (Z:Int))).drew g 312 #[wv a,wv b,wv c,wv d,.int .u64 (Z:Int),.int .u64 (n:Int)]:=Blk.set HB.o 4 (.int .u64 (Z:Int));have av:w.grownBy (w.setCell ⟨g,4,none⟩ (.int .u64 (Z:Int))).drew (some g):=Bb (AM HG.o (.inl rfl) _);generalize (w.setCell ⟨g,4,none⟩ (.int .u64 (Z:Int))).drew=v1 at O av⊢;clear fz k4 k5 HB HG hx m1 m3 m4 hw hy;have fz:=O.frozen;have k5:v1.cell? ⟨g,5,none⟩=some (.int .u64 (n:Int)):=by rw[O.cell];rfl
  have bn:=I O;clear O;have bb:=I av;clear av
  go_upto_region 2 with fail
  have M:Blk (v1.setCell ⟨g,5,none⟩ (.int .u64 ((n:Int)+1))) g 312 #[wv a,wv b,wv c,wv d,.int .u64 (Z:Int),.int .u64 ((n:Int)+1)]:=Blk.set bn.o 5 (.int .u64 ((n:Int)+1));have aw:w.grownBy (v1.setCell ⟨g,5,none⟩ (.int .u64 ((n:Int)+1))) (some g):=AM bb.o (.inl rfl) _;generalize (v1.setCell ⟨g,5,none⟩ (.int .u64 ((n:Int)+1)))=v2 at M aw⊢;clear fz k5 bn bb;have fz:=M.frozen;have k4:v2.cell? ⟨g,4,none⟩=some (.int .u64 (Z:Int)):=by rw[M.cell];rfl
  have k5:v2.cell? ⟨g,5,none⟩=some (.int .u64 ((n:Int)+1)):=by rw[M.cell];rfl
  have bs:=I M;clear M;have bq:=I aw;clear aw
  go_wp2_with fail
  go_end0
  exact⟨rfl,by rw[bx.o (by have:=M5.o;omega)];exact bs.o,bq.o⟩
 ·have hx:=hx 1099511627776 (by rw[hk];decide)
  have m1:(n:Int).tmod 8=5:=by rw[Int.tmod_eq_emod_of_nonneg n0];omega
  have m2:((n:Int)+1).tmod 8=6:=by rw[Int.tmod_eq_emod_of_nonneg (by omega)];omega
  have m3:n % 8=5:=hk;have hw:IntKind.u64.wrap 40=40:=by kernel_rfl
  have m4:(n:Int) % 8=5:=by omega
  have m5:(n+1) % 8=6:=by omega
  have M5:=I m5;clear m5;clear hk;go_enter Tryz.func242,Tryz.ntmps242
  go_upto_region 0 with fail
  refine wp_region_still_tail 16 (by kernel_rfl) (by kernel_rfl) ?_;simp only[List.take_succ_cons,List.take_zero,List.drop_succ_cons,List.drop_zero];change wpStill _ _ w.drew _ _ _
  repeat still_step
  refine wpStill_nil ?_;change wpList _ _ _ _ _ w.drew
  go_upto_region 1 with fail
  have O:Blk (w.setCell ⟨g,4,none⟩ (.int .u64 (Z:Int))).drew g 312 #[wv a,wv b,wv c,wv d,.int .u64 (Z:Int),.int .u64 (n:Int)]:=Blk.set HB.o 4 (.int .u64 (Z:Int));have av:w.grownBy (w.setCell ⟨g,4,none⟩ (.int .u64 (Z:Int))).drew (some g):=Bb (AM HG.o (.inl rfl) _);generalize (w.setCell ⟨g,4,none⟩ (.int .u64 (Z:Int))).drew=v1 at O av⊢;clear fz k4 k5 HB HG hx m1 m3 m4 hw hy;have fz:=O.frozen;have k5:v1.cell? ⟨g,5,none⟩=some (.int .u64 (n:Int)):=by rw[O.cell];rfl
  have bn:=I O;clear O;have bb:=I av;clear av
  go_upto_region 2 with fail
  have M:Blk (v1.setCell ⟨g,5,none⟩ (.int .u64 ((n:Int)+1))) g 312 #[wv a,wv b,wv c,wv d,.int .u64 (Z:Int),.int .u64 ((n:Int)+1)]:=Blk.set bn.o 5 (.int .u64 ((n:Int)+1));have aw:w.grownBy (v1.setCell ⟨g,5,none⟩ (.int .u64 ((n:Int)+1))) (some g):=AM bb.o (.inl rfl) _;generalize (v1.setCell ⟨g,5,none⟩ (.int .u64 ((n:Int)+1)))=v2 at M aw⊢;clear fz k5 bn bb;have fz:=M.frozen;have k4:v2.cell? ⟨g,4,none⟩=some (.int .u64 (Z:Int)):=by rw[M.cell];rfl
  have k5:v2.cell? ⟨g,5,none⟩=some (.int .u64 ((n:Int)+1)):=by rw[M.cell];rfl
  have bs:=I M;clear M;have bq:=I aw;clear aw
  go_wp2_with fail
  go_end0
  exact⟨rfl,by rw[bx.o (by have:=M5.o;omega)];exact bs.o,bq.o⟩
 ·have hx:=hx 281474976710656 (by rw[hk];decide)
  have m1:(n:Int).tmod 8=6:=by rw[Int.tmod_eq_emod_of_nonneg n0];omega
  have m2:((n:Int)+1).tmod 8=7:=by rw[Int.tmod_eq_emod_of_nonneg (by omega)];omega
  have m3:n % 8=6:=hk;have hw:IntKind.u64.wrap 48=48:=by kernel_rfl
  have m4:(n:Int) % 8=6:=by omega
  have m5:(n+1) % 8=7:=by omega
  have M5:=I m5;clear m5;clear hk;go_enter Tryz.func242,Tryz.ntmps242
  go_upto_region 0 with fail
  refine wp_region_still_tail 16 (by kernel_rfl) (by kernel_rfl) ?_;simp only[List.take_succ_cons,List.take_zero,List.drop_succ_cons,List.drop_zero];change wpStill _ _ w.drew _ _ _
  repeat still_step
  refine wpStill_nil ?_;change wpList _ _ _ _ _ w.drew
  go_upto_region 1 with fail
  have O:Blk (w.setCell ⟨g,4,none⟩ (.int .u64 (Z:Int))).drew g 312 #[wv a,wv b,wv c,wv d,.int .u64 (Z:Int),.int .u64 (n:Int)]:=Blk.set HB.o 4 (.int .u64 (Z:Int));have av:w.grownBy (w.setCell ⟨g,4,none⟩ (.int .u64 (Z:Int))).drew (some g):=Bb (AM HG.o (.inl rfl) _);generalize (w.setCell ⟨g,4,none⟩ (.int .u64 (Z:Int))).drew=v1 at O av⊢;clear fz k4 k5 HB HG hx m1 m3 m4 hw hy;have fz:=O.frozen;have k5:v1.cell? ⟨g,5,none⟩=some (.int .u64 (n:Int)):=by rw[O.cell];rfl
  have bn:=I O;clear O;have bb:=I av;clear av
  go_upto_region 2 with fail
  have M:Blk (v1.setCell ⟨g,5,none⟩ (.int .u64 ((n:Int)+1))) g 312 #[wv a,wv b,wv c,wv d,.int .u64 (Z:Int),.int .u64 ((n:Int)+1)]:=Blk.set bn.o 5 (.int .u64 ((n:Int)+1));have aw:w.grownBy (v1.setCell ⟨g,5,none⟩ (.int .u64 ((n:Int)+1))) (some g):=AM bb.o (.inl rfl) _;generalize (v1.setCell ⟨g,5,none⟩ (.int .u64 ((n:Int)+1)))=v2 at M aw⊢;clear fz k5 bn bb;have fz:=M.frozen;have k4:v2.cell? ⟨g,4,none⟩=some (.int .u64 (Z:Int)):=by rw[M.cell];rfl
  have k5:v2.cell? ⟨g,5,none⟩=some (.int .u64 ((n:Int)+1)):=by rw[M.cell];rfl
  have bs:=I M;clear M;have bq:=I aw;clear aw
  go_wp2_with fail
  go_end0
  exact⟨rfl,by rw[bx.o (by have:=M5.o;omega)];exact bs.o,bq.o⟩
 ·have hx:=hx 72057594037927936 (by rw[hk];decide)
  have m1:(n:Int).tmod 8=7:=by rw[Int.tmod_eq_emod_of_nonneg n0];omega
  have m2:((n:Int)+1).tmod 8=0:=by rw[Int.tmod_eq_emod_of_nonneg (by omega)];omega
  have m3:n % 8=7:=hk;have hw:IntKind.u64.wrap 56=56:=by kernel_rfl
  have m4:(n:Int) % 8=7:=by omega
  have m5:(n+1) % 8=0:=by omega
  have M5:=I m5;clear m5;clear hk;go_enter Tryz.func242,Tryz.ntmps242
  go_upto_region 0 with fail
  refine wp_region_still_tail 16 (by kernel_rfl) (by kernel_rfl) ?_;simp only[List.take_succ_cons,List.take_zero,List.drop_succ_cons,List.drop_zero];change wpStill _ _ w.drew _ _ _
  repeat still_step
  refine wpStill_nil ?_;change wpList _ _ _ _ _ w.drew
  go_upto_region 1 with fail
  have O:Blk (w.setCell ⟨g,4,none⟩ (.int .u64 (Z:Int))).drew g 312 #[wv a,wv b,wv c,wv d,.int .u64 (Z:Int),.int .u64 (n:Int)]:=Blk.set HB.o 4 (.int .u64 (Z:Int));have av:w.grownBy (w.setCell ⟨g,4,none⟩ (.int .u64 (Z:Int))).drew (some g):=Bb (AM HG.o (.inl rfl) _);generalize (w.setCell ⟨g,4,none⟩ (.int .u64 (Z:Int))).drew=v1 at O av⊢;clear fz k4 k5 HB HG hx m1 m3 m4 hw hy;have fz:=O.frozen;have k5:v1.cell? ⟨g,5,none⟩=some (.int .u64 (n:Int)):=by rw[O.cell];rfl
  have bn:=I O;clear O;have bb:=I av;clear av
  go_upto_region 2 with fail
  have M:Blk (v1.setCell ⟨g,5,none⟩ (.int .u64 ((n:Int)+1))) g 312 #[wv a,wv b,wv c,wv d,.int .u64 (Z:Int),.int .u64 ((n:Int)+1)]:=Blk.set bn.o 5 (.int .u64 ((n:Int)+1));have aw:w.grownBy (v1.setCell ⟨g,5,none⟩ (.int .u64 ((n:Int)+1))) (some g):=AM bb.o (.inl rfl) _;generalize (v1.setCell ⟨g,5,none⟩ (.int .u64 ((n:Int)+1)))=v2 at M aw⊢;clear fz k5 bn bb;have fz:=M.frozen;have k4:v2.cell? ⟨g,4,none⟩=some (.int .u64 (Z:Int)):=by rw[M.cell];rfl
  have k5:v2.cell? ⟨g,5,none⟩=some (.int .u64 ((n:Int)+1)):=by rw[M.cell];rfl
  have bs:=I M;clear M;have bq:=I aw;clear aw;have c1:=Jy g ⟨a,b,c,d⟩ (.int .u64 (Z:Int)) (.int .u64 ((n:Int)+1)) (wd Z) v2 bs.o;rw[wv,Ko Z cg.o] at c1
  go_wp2_with (go_at_call 258;refine Aj c1 ?_;rintro v3 ⟨bz,cb⟩;clear c1;have k4:v3.cell? ⟨g,4,none⟩=some (.int .u64 (Z:Int)):=by{rw[bz.cell];rfl};have fz:=bz.frozen;have cj:=I bz;have cf:=I cb;clear bz cb)
  go_end0
  exact⟨rfl,by rw[ca.o M5.o];exact Blk.set cj.o 4 (.int .u64 0),AM (World.grownBy.trans bq.o cf.o) (.inl rfl) _⟩
theorem MH (s:St) (M:s.r<72057594037927936):(QR s).toNat=s.r+s.n % 256*72057594037927936:=Ko _ (by omega)
theorem ZT (g:Nat) (s:St) (w:World) (hr:s.r<72057594037927936) (hB:Blk w g 312 (stc s)) :
  Calls Tryz.prog 243 #[.pointer (some ⟨g,0,none⟩)] w fun e w'=>e=.returned (wv (finS s))/\w.grownBy w' (some g):=by
 have hl:=MH s hr;have hx:=PH s.r s.n hr;rw[<-hl,<-IntKind.wrap_u64] at hx;obtain⟨lw,el⟩:∃x,x=QR s:=⟨_,rfl⟩;obtain⟨⟨a,b,c,d⟩,e1⟩:∃t,t=addM s.v lw:=⟨_,rfl⟩;obtain⟨c1,ec⟩:∃x,x=c ^^^ 255#64:=⟨_,rfl⟩;obtain⟨⟨a2,b2,c2,d2⟩,e2⟩:∃t,t=rnds 4 ⟨a,b,c1,d⟩:=⟨_,rfl⟩;obtain⟨q1,aw⟩:∃x,x=a2 ^^^ b2:=⟨_,rfl⟩;obtain⟨q2,bs⟩:∃x,x=q1 ^^^ c2:=⟨_,rfl⟩;obtain⟨q3,bb⟩:∃x,x=q2 ^^^ d2:=⟨_,rfl⟩;have av:finS s=q3:=by rw[finS,<-el,<-e1,fin,<-ec,<-e2,allX,<-aw,<-bs,<-bb]
 have x0:bits .xor .u64 (c.toNat:Int) 255=(c1.toNat:Int):=by rw[ec];exact Bu c 255#64
 have x1:bits .xor .u64 (a2.toNat:Int) (b2.toNat:Int)=(q1.toNat:Int):=by rw[aw];exact Bu _ _
 have x2:bits .xor .u64 (q1.toNat:Int) (c2.toNat:Int)=(q2.toNat:Int):=by rw[bs];exact Bu _ _
 have x3:bits .xor .u64 (q2.toNat:Int) (d2.toNat:Int)=(q3.toNat:Int):=by rw[bb];exact Bu _ _
 rw[<-el] at hx;obtain⟨v,r,n⟩:=s;have hx:bits .or .u64 (r:Int) (IntKind.u64.wrap ((n:Int)*72057594037927936))=(lw.toNat:Int):=hx;have e1:⟨a,b,c,d⟩=addM v lw:=e1;have ca:=Jy g v (.int .u64 (r:Int)) (.int .u64 (n:Int)) lw w.drew (Blk.drewN hB 1);rw[<-e1] at ca;have cc:=I av;clear av;have E2:=I e2;clear e2;have k4:w.cell? ⟨g,4,none⟩=some (.int .u64 (r:Int)):=by rw[hB.cell];rfl
 have k5:w.cell? ⟨g,5,none⟩=some (.int .u64 (n:Int)):=by rw[hB.cell];rfl
 have fz:=hB.frozen;have bz:=I x0;clear x0;have cm:=I x1;clear x1;have cn:=I x2;clear x2;have cj:=I x3;clear x3;clear el e1 ec aw bs bb hl hr hB;go_enter Tryz.func243,Tryz.ntmps243
 go_upto_region 1 with fail
 refine wp_region_still_tail 11 (by kernel_rfl) (by kernel_rfl) ?_;simp only[List.take_succ_cons,List.take_zero,List.drop_succ_cons,List.drop_zero];change wpStill _ _ w.drew _ _ _
 repeat still_step
 refine wpStill_nil ?_;change wpList _ _ _ _ _ w.drew;clear hx k4 k5 fz
 go_upto_region 2 with(go_at_call 258;refine Aj ca ?_;rintro v1 ⟨O,M⟩;clear ca;have M:w.grownBy v1 (some g):=⟨M.os,M.tape,M.output,M.size,M.block⟩;have k2:v1.cell? ⟨g,2,none⟩=some (.int .u64 (c.toNat:Int)):=by{rw[O.cell];rfl};have fz:=O.frozen;have cb:=I O;have cf:=I M;clear O M)
 have x0:=bz.o;clear bz
 go_upto_region 3 with fail
 have bq:Blk (v1.setCell ⟨g,2,none⟩ (.int .u64 (c1.toNat:Int))) g 312 #[wv a,wv b,wv c1,wv d,.int .u64 (r:Int),.int .u64 (n:Int)]:=Blk.set cb.o 2 (wv c1);have bx:w.grownBy (v1.setCell ⟨g,2,none⟩ (.int .u64 (c1.toNat:Int))) (some g):=AM cf.o (.inl rfl) _;generalize (v1.setCell ⟨g,2,none⟩ (.int .u64 (c1.toNat:Int)))=v2 at bq bx⊢;have bn:=Kp g 4 ⟨a,b,c1,d⟩ (.int .u64 (r:Int)) (.int .u64 (n:Int)) v2 (by decide) bq;rw[<-E2.o] at bn;have ck:=I bx;clear bq bx fz k2 cb cf x0
 go_upto_region 4 with(go_at_call 259;refine Aj bn ?_;rintro v3 ⟨cd,bB⟩;clear bn;have Z:=I cd;have cg:=I bB;clear cd bB)
 have k0:v3.cell? ⟨g,0,none⟩=some (.int .u64 (a2.toNat:Int)):=by rw[Z.o.cell];rfl
 have k1:v3.cell? ⟨g,1,none⟩=some (.int .u64 (b2.toNat:Int)):=by rw[Z.o.cell];rfl
 have k2:v3.cell? ⟨g,2,none⟩=some (.int .u64 (c2.toNat:Int)):=by rw[Z.o.cell];rfl
 have k3:v3.cell? ⟨g,3,none⟩=some (.int .u64 (d2.toNat:Int)):=by rw[Z.o.cell];rfl
 have x1:=cm.o;have x2:=cn.o;have x3:=cj.o;refine wp_region_still_lit (by kernel_rfl) (by kernel_rfl) ?_;change wpStill _ _ v3.drew _ _ _
 repeat still_step
 refine wpStill_nil ?_
 try change _ v3.drew
 go_wp2_with fail
 go_ret;exact⟨by rw[cc.o];rfl,Bb (World.grownBy.trans ck.o cg.o)⟩
theorem Blk.new_of (w:World) (g:Nat) (t:TypeId) (cs M:Array Value) (e:cs=M) (O:w.heap.size=g):Blk (w.alloc (.cells cs t)) g t M:=O▸e▸Blk.new w t cs
theorem AS {B:Nat} {a w:World} (h:Below B a w) {p:Addr} (hp:B<=p.block) (u:Value):Below B a (w.setCell p u):=
 ⟨h.os,h.tape,h.output,by simpa [World.setCell] using h.size,fun i hi=>(Below.heap_setCell w p u i (by omega)).trans (h.block i hi)⟩
theorem Au {P:Program} {fn:Func} {tmps:Array Value} {w:World} {v:Value} (t:Nat) (ty:TypeId) (a:Addr) (M:fn.results=#[.cell t ty]) (ht:tmps.getD t undef=.pointer (some a)) (Z:(loadVar ty a).run P w=.ok v w) :
  (results fn tmps).run P w=.ok v w:=by
 have O:tmps[t]?.getD undef=.pointer (some a):=by simpa using ht
 simp [results,M,O,asAddr,Z]
theorem Ao {P:Program} {w:World} {g:Nat} {t ty:TypeId} {cs:Array Value} {d:TypeDesc} (h:Blk w g t cs) (hu:P.underlying ty=some d) (O:d.isRow=true) (hi:(P.info? ty).map (·.size)=some cs.size) :
  (loadVar ty ⟨g,0,none⟩).run P w=.ok (.agg cs) w:=by
 have M:w.rangeAt g 0 cs.toList:=fun j v Z=>by rw[Nat.zero_add,h.cell];simpa using Z
 have:=run_loadVar_mid (P:=P) w g 0 ty cs.toList d M hu O (by simpa using hi)
 simpa using this
def AR (ks:Nat->UInt8):Array Value:=((List.range 16).map (fun i=>bv (ks i))).toArray
theorem Blk.far {w:World} {g:Nat} {t:TypeId} {cs:Array Value} (h:Blk w g t cs) (p:Addr) (u:Value) (hp:p.block≠g):Blk (w.setCell p u) g t cs:=
 (Below.heap_setCell w p u g (fun e=>hp e.symm)).trans h
theorem Ad {w:World} {g:Nat} {t:TypeId} {cs:Array Value} (h:Blk w g t cs):w.rangeAt g 0 cs.toList:=fun j v M=>by
 rw[Nat.zero_add,h.cell];simpa using M
theorem Ar {w:World} {g:Nat} {t:TypeId} {cs:Array Value} (h:Blk w g t cs):w.there g 0 cs.size:=fun j M=>by
 rw[Nat.zero_add];exact⟨by rw[h.cell,Array.getElem?_eq_getElem M];rfl,h.frozen j⟩
theorem Br {B:Nat} {a:World} (b:Nat) (M:B<=b):∀(O:List Value) (o:Nat) (w:World),Below B a w->Below B a (w.setCells b o O)
 | [],_,_,h=>h
 |v :: r,o,w,h=>Br b M r (o+1) _ (AS h M v)
def ksOf (l:List UInt8) (i:Nat):UInt8:=l.getD i 0
def ksTo (l:List UInt8) (n:Nat) (i:Nat):UInt8:=if i<n then l.getD i 0 else 0
theorem FU (f:Nat->UInt8) (j:Nat) (M:j<16):(AR f)[j]? = some (bv (f j)):=by
 rw[AR,List.getElem?_toArray];simp [M]
theorem k16 {w':World} {B:Nat} {t:TypeId} {ks:Nat->UInt8} (h:Blk w' B t (AR ks)):w'.cell? ⟨B,0,none⟩=some (.int .u8 ((ks 0).toNat:Int))/\w'.cell? ⟨B,1,none⟩=some (.int .u8 ((ks 1).toNat:Int))/\w'.cell? ⟨B,2,none⟩=some (.int .u8 ((ks 2).toNat:Int))/\w'.cell? ⟨B,3,none⟩=some (.int .u8 ((ks 3).toNat:Int))/\w'.cell? ⟨B,4,none⟩=some (.int .u8 ((ks 4).toNat:Int))/\w'.cell? ⟨B,5,none⟩=some (.int .u8 ((ks 5).toNat:Int))/\w'.cell? ⟨B,6,none⟩=some (.int .u8 ((ks 6).toNat:Int))/\w'.cell? ⟨B,7,none⟩=some (.int .u8 ((ks 7).toNat:Int))/\w'.cell? ⟨B,8,none⟩=some (.int .u8 ((ks 8).toNat:Int))/\w'.cell? ⟨B,9,none⟩=some (.int .u8 ((ks 9).toNat:Int))/\w'.cell? ⟨B,10,none⟩=some (.int .u8 ((ks 10).toNat:Int))/\w'.cell? ⟨B,11,none⟩=some (.int .u8 ((ks 11).toNat:Int))/\w'.cell? ⟨B,12,none⟩=some (.int .u8 ((ks 12).toNat:Int))/\w'.cell? ⟨B,13,none⟩=some (.int .u8 ((ks 13).toNat:Int))/\w'.cell? ⟨B,14,none⟩=some (.int .u8 ((ks 14).toNat:Int))/\w'.cell? ⟨B,15,none⟩=some (.int .u8 ((ks 15).toNat:Int)):=by
 refine⟨?_,?_,?_,?_,?_,?_,?_,?_,?_,?_,?_,?_,?_,?_,?_,?_⟩<;>(rw[h.cell];rfl)
theorem MI (w:World) (g:Nat) (a b c d e f:Value):w.setCells g 0 [a,b,c,d,e,f]=(((((w.setCell ⟨g,0,none⟩ a).setCell ⟨g,1,none⟩ b).setCell ⟨g,2,none⟩ c).setCell ⟨g,3,none⟩ d).setCell ⟨g,4,none⟩ e).setCell ⟨g,5,none⟩ f:=rfl
theorem Blk.set6 {w:World} {g:Nat} {t:TypeId} {a b c d e f Z M c' d' e' O:Value} (h:Blk w g t #[Z,M,c',d',e',O]):Blk (w.setCells g 0 [a,b,c,d,e,f]) g t #[a,b,c,d,e,f]:=by
 rw[MI];have:=(((((h.set 0 a).set 1 b).set 2 c).set 3 d).set 4 e).set 5 f
 simpa using this
def da:Array Value:=#[.int .u64 0,.int .u64 0,.int .u64 0,.int .u64 0,.int .u64 0,.int .u64 0]
theorem He (ks:Nat->UInt8) (w:World):Calls Tryz.prog 241 #[.agg (AR ks)] w fun e w'=>e=.returned (.agg (stc ⟨start ks,0,0⟩))/\Below w.heap.size w w':=by
 have hk:AR ks=#[.int .u8 ((ks 0).toNat:Int),.int .u8 ((ks 1).toNat:Int),.int .u8 ((ks 2).toNat:Int),.int .u8 ((ks 3).toNat:Int),.int .u8 ((ks 4).toNat:Int),.int .u8 ((ks 5).toNat:Int),.int .u8 ((ks 6).toNat:Int),.int .u8 ((ks 7).toNat:Int),.int .u8 ((ks 8).toNat:Int),.int .u8 ((ks 9).toNat:Int),.int .u8 ((ks 10).toNat:Int),.int .u8 ((ks 11).toNat:Int),.int .u8 ((ks 12).toNat:Int),.int .u8 ((ks 13).toNat:Int),.int .u8 ((ks 14).toNat:Int),.int .u8 ((ks 15).toNat:Int)]:=rfl;have cA:∀w,Calls Tryz.prog 257 #[.agg #[.int .u8 ((ks 0).toNat:Int),.int .u8 ((ks 1).toNat:Int),.int .u8 ((ks 2).toNat:Int),.int .u8 ((ks 3).toNat:Int),.int .u8 ((ks 4).toNat:Int),.int .u8 ((ks 5).toNat:Int),.int .u8 ((ks 6).toNat:Int),.int .u8 ((ks 7).toNat:Int)]] w fun e w'=>e=.returned (wv (kA ks))/\Below w.heap.size w w':=fun w=>DG ks w
 have cB:∀w,Calls Tryz.prog 257 #[.agg #[.int .u8 ((ks 8).toNat:Int),.int .u8 ((ks 9).toNat:Int),.int .u8 ((ks 10).toNat:Int),.int .u8 ((ks 11).toNat:Int),.int .u8 ((ks 12).toNat:Int),.int .u8 ((ks 13).toNat:Int),.int .u8 ((ks 14).toNat:Int),.int .u8 ((ks 15).toNat:Int)]] w fun e w'=>e=.returned (wv (kB ks))/\Below w.heap.size w w':=fun w=>DG (fun i=>ks (8+i)) w
 obtain⟨p,ep⟩:∃x,x=kA ks:=⟨_,rfl⟩;obtain⟨q,eq⟩:∃x,x=kB ks:=⟨_,rfl⟩;obtain⟨v0,e0⟩:∃x,x=0x736f6d6570736575#64 ^^^ p:=⟨_,rfl⟩;obtain⟨v1,e1⟩:∃x,x=0x646f72616e646f6d#64 ^^^ q:=⟨_,rfl⟩;obtain⟨v2,e2⟩:∃x,x=0x6c7967656e657261#64 ^^^ p:=⟨_,rfl⟩;obtain⟨v3,e3⟩:∃x,x=0x7465646279746573#64 ^^^ q:=⟨_,rfl⟩;have x0:bits .xor .u64 8317987319222330741 (p.toNat:Int)=(v0.toNat:Int):=by rw[e0];exact Bu 0x736f6d6570736575#64 p
 have x1:bits .xor .u64 7237128888997146477 (q.toNat:Int)=(v1.toNat:Int):=by rw[e1];exact Bu 0x646f72616e646f6d#64 q
 have x2:bits .xor .u64 7816392313619706465 (p.toNat:Int)=(v2.toNat:Int):=by rw[e2];exact Bu 0x6c7967656e657261#64 p
 have x3:bits .xor .u64 8387220255154660723 (q.toNat:Int)=(v3.toNat:Int):=by rw[e3];exact Bu 0x7465646279746573#64 q
 have hs:stc ⟨start ks,0,0⟩=#[wv v0,wv v1,wv v2,wv v3,.int .u64 0,.int .u64 0]:=by
  rw[e0,e1,e2,e3,ep,eq];rfl
 rw[<-ep] at cA;rw[<-eq] at cB;rw[hs];clear hs ep eq e0 e1 e2 e3;obtain⟨B,eB⟩:=Ak (w.heap.size);have EB:=I eB;rw[hk];clear hk;go_enter Tryz.func241,Tryz.ntmps241
 go_upto_region 1 with fail
 rw[<-eB];clear eB;have bs:∀w:World,(Instr.arrayAt 326 (.slice (some ⟨B,0,none⟩) 8 16)).run Tryz.prog w=.ok (.pointer (some ⟨B,0,none⟩)) w:=fun _=>by kernel_rfl
 have bx:∀w:World,(Instr.arrayAt 326 (.slice (some ⟨B,8,none⟩) 8 8)).run Tryz.prog w=.ok (.pointer (some ⟨B,8,none⟩)) w:=fun _=>by kernel_rfl
 have hK:Blk ((w.alloc (.cells #[.int .u8 ((ks 0).toNat:Int),.int .u8 ((ks 1).toNat:Int),.int .u8 ((ks 2).toNat:Int),.int .u8 ((ks 3).toNat:Int),.int .u8 ((ks 4).toNat:Int),.int .u8 ((ks 5).toNat:Int),.int .u8 ((ks 6).toNat:Int),.int .u8 ((ks 7).toNat:Int),.int .u8 ((ks 8).toNat:Int),.int .u8 ((ks 9).toNat:Int),.int .u8 ((ks 10).toNat:Int),.int .u8 ((ks 11).toNat:Int),.int .u8 ((ks 12).toNat:Int),.int .u8 ((ks 13).toNat:Int),.int .u8 ((ks 14).toNat:Int),.int .u8 ((ks 15).toNat:Int)] 166)).alloc (.cells #[.int .u64 0,.int .u64 0,.int .u64 0,.int .u64 0,.int .u64 0,.int .u64 0] 312)) B 166 (AR ks):=Blk.alloc (Blk.new_of w B _ _ (AR ks) rfl EB.o.symm) _;have hZ:Blk ((w.alloc (.cells #[.int .u8 ((ks 0).toNat:Int),.int .u8 ((ks 1).toNat:Int),.int .u8 ((ks 2).toNat:Int),.int .u8 ((ks 3).toNat:Int),.int .u8 ((ks 4).toNat:Int),.int .u8 ((ks 5).toNat:Int),.int .u8 ((ks 6).toNat:Int),.int .u8 ((ks 7).toNat:Int),.int .u8 ((ks 8).toNat:Int),.int .u8 ((ks 9).toNat:Int),.int .u8 ((ks 10).toNat:Int),.int .u8 ((ks 11).toNat:Int),.int .u8 ((ks 12).toNat:Int),.int .u8 ((ks 13).toNat:Int),.int .u8 ((ks 14).toNat:Int),.int .u8 ((ks 15).toNat:Int)] 166)).alloc (.cells #[.int .u64 0,.int .u64 0,.int .u64 0,.int .u64 0,.int .u64 0,.int .u64 0] 312)) (B+1) 312 da:=Blk.new_of (w.alloc _) (B+1) _ _ da rfl (by have:=EB.o;simp;omega);have O:Below w.heap.size w ((w.alloc (.cells #[.int .u8 ((ks 0).toNat:Int),.int .u8 ((ks 1).toNat:Int),.int .u8 ((ks 2).toNat:Int),.int .u8 ((ks 3).toNat:Int),.int .u8 ((ks 4).toNat:Int),.int .u8 ((ks 5).toNat:Int),.int .u8 ((ks 6).toNat:Int),.int .u8 ((ks 7).toNat:Int),.int .u8 ((ks 8).toNat:Int),.int .u8 ((ks 9).toNat:Int),.int .u8 ((ks 10).toNat:Int),.int .u8 ((ks 11).toNat:Int),.int .u8 ((ks 12).toNat:Int),.int .u8 ((ks 13).toNat:Int),.int .u8 ((ks 14).toNat:Int),.int .u8 ((ks 15).toNat:Int)] 166)).alloc (.cells #[.int .u64 0,.int .u64 0,.int .u64 0,.int .u64 0,.int .u64 0,.int .u64 0] 312)):=((Below.refl w.heap.size w).alloc Ag _).alloc (by simp) _;have aw:=I x0;clear x0;have bb:=I x1;clear x1;have bq:=I x2;clear x2;have bn:=I x3;clear x3;generalize ((w.alloc (.cells #[.int .u8 ((ks 0).toNat:Int),.int .u8 ((ks 1).toNat:Int),.int .u8 ((ks 2).toNat:Int),.int .u8 ((ks 3).toNat:Int),.int .u8 ((ks 4).toNat:Int),.int .u8 ((ks 5).toNat:Int),.int .u8 ((ks 6).toNat:Int),.int .u8 ((ks 7).toNat:Int),.int .u8 ((ks 8).toNat:Int),.int .u8 ((ks 9).toNat:Int),.int .u8 ((ks 10).toNat:Int),.int .u8 ((ks 11).toNat:Int),.int .u8 ((ks 12).toNat:Int),.int .u8 ((ks 13).toNat:Int),.int .u8 ((ks 14).toNat:Int),.int .u8 ((ks 15).toNat:Int)] 166)).alloc (.cells #[.int .u64 0,.int .u64 0,.int .u64 0,.int .u64 0,.int .u64 0,.int .u64 0] 312))=W1 at hK hZ O⊢;have hK:Blk W1.drew B 166 (AR ks):=hK;have hZ:Blk W1.drew (B+1) 312 #[.int .u64 0,.int .u64 0,.int .u64 0,.int .u64 0,.int .u64 0,.int .u64 0]:=hZ;have O:Below w.heap.size w W1.drew:=below_drewN O 1
 go_region_held3 (fun w'=>w'.cell? ⟨B,0,none⟩=some (.int .u8 ((ks 0).toNat:Int))/\w'.cell? ⟨B,1,none⟩=some (.int .u8 ((ks 1).toNat:Int))/\w'.cell? ⟨B,2,none⟩=some (.int .u8 ((ks 2).toNat:Int))/\w'.cell? ⟨B,3,none⟩=some (.int .u8 ((ks 3).toNat:Int))/\w'.cell? ⟨B,4,none⟩=some (.int .u8 ((ks 4).toNat:Int))/\w'.cell? ⟨B,5,none⟩=some (.int .u8 ((ks 5).toNat:Int))/\w'.cell? ⟨B,6,none⟩=some (.int .u8 ((ks 6).toNat:Int))/\w'.cell? ⟨B,7,none⟩=some (.int .u8 ((ks 7).toNat:Int))/\w'.cell? ⟨B,8,none⟩=some (.int .u8 ((ks 8).toNat:Int))/\w'.cell? ⟨B,9,none⟩=some (.int .u8 ((ks 9).toNat:Int))/\w'.cell? ⟨B,10,none⟩=some (.int .u8 ((ks 10).toNat:Int))/\w'.cell? ⟨B,11,none⟩=some (.int .u8 ((ks 11).toNat:Int))/\w'.cell? ⟨B,12,none⟩=some (.int .u8 ((ks 12).toNat:Int))/\w'.cell? ⟨B,13,none⟩=some (.int .u8 ((ks 13).toNat:Int))/\w'.cell? ⟨B,14,none⟩=some (.int .u8 ((ks 14).toNat:Int))/\w'.cell? ⟨B,15,none⟩=some (.int .u8 ((ks 15).toNat:Int))) (exact k16 hK) (first | (go_at_call 257;refine Aj (cA _) ?_;rintro wq hb;clear cA;have av:=Blk.below hK hb;have Z:=Blk.below hZ hb;have M:=bt O hb;clear hK hZ O;have hK:=av;have hZ:=Z;have O:=M;clear av Z M hb) | (go_at_call 257;refine Aj (cB _) ?_;rintro wq hb;clear cB;have av:=Blk.below hK hb;have Z:=Blk.below hZ hb;have M:=bt O hb;clear hK hZ O;have hK:=av;have hZ:=Z;have O:=M;clear av Z M hb))
 all_goals
  have x0:=aw.o;have x1:=bb.o;have x2:=bq.o;have x3:=bn.o;have HZ:=I hZ;clear hZ;have HW:=I O;clear O;clear hK aw bb bq bn
 all_goals
  have c0:wq.cell? ⟨B+1,0,none⟩=some (.int .u64 0):=by rw[HZ.o.cell];rfl
  have c1:wq.cell? ⟨B+1,1,none⟩=some (.int .u64 0):=by rw[HZ.o.cell];rfl
  have c2:wq.cell? ⟨B+1,2,none⟩=some (.int .u64 0):=by rw[HZ.o.cell];rfl
  have c3:wq.cell? ⟨B+1,3,none⟩=some (.int .u64 0):=by rw[HZ.o.cell];rfl
  have c4:wq.cell? ⟨B+1,4,none⟩=some (.int .u64 0):=by rw[HZ.o.cell];rfl
  have c5:wq.cell? ⟨B+1,5,none⟩=some (.int .u64 0):=by rw[HZ.o.cell];rfl
  have fz:=HZ.o.frozen;clear bs bx
 all_goals go_wp2_with fail
 all_goals
  have hE:=Blk.set6 (a:=wv v0) (b:=wv v1) (c:=wv v2) (d:=wv v3) (e:=.int .u64 0) (f:=.int .u64 0) HZ.o;rw[MI] at hE;have hq:=Ao (P:=Tryz.prog) hE Tryz.underlying312 rfl (by kernel_rfl);refine bodyPost_ret (v:=.agg #[wv v0,wv v1,wv v2,wv v3,.int .u64 0,.int .u64 0]) ?_ ?_ ?_
  ·exact Au 2 312 ⟨B+1,0,none⟩ Tryz.results241 rfl hq
  ·rfl
  refine⟨rfl,?_⟩;have hle:w.heap.size<=B+1:=by have:=EB.o;omega
  repeat (refine AS ?_ hle _)
  exact HW.o
def Rows (w:World) (B:Nat) (A:Option Addr) (rows:List (List UInt8)):Prop:=
 ∃vs:List Value,vs.length=rows.length/\Rd w B A vs/\∀i (h:i<rows.length),∃(Ai:Option Addr) (ci:Nat),vs[i]? = some (.slice Ai (rows[i]).length ci)/\Rd w B Ai (bvs rows[i])
theorem Rows.below {w w':World} {B:Nat} {A:Option Addr} {rows:List (List UInt8)} (h:Rows w B A rows) (M:Below B w w'):Rows w' B A rows:=by
 obtain⟨O,h1,h2,Z⟩:=h;refine⟨O,h1,h2.below M,fun i hi=>?_⟩;obtain⟨Ai,ci,h4,h5⟩:=Z i hi;exact⟨Ai,ci,h4,h5.below M⟩
theorem Rows.more {w:World} {B B':Nat} {A:Option Addr} {rows:List (List UInt8)} (h:Rows w B A rows) (hB:B<=B'):Rows w B' A rows:=by
 obtain⟨M,Z,h2,O⟩:=h;refine⟨M,Z,h2.more hB,fun i hi=>?_⟩;obtain⟨Ai,ci,h4,h5⟩:=O i hi;exact⟨Ai,ci,h4,h5.more hB⟩
def flat (rows:List (List UInt8)):List UInt8:=rows.flatten
theorem Ty (rows:List (List UInt8)) (i:Nat) (h:i<rows.length):flat (rows.take (i+1))=flat (rows.take i)++rows[i]:=by
 unfold flat;rw[List.take_succ_eq_append_getElem h,List.flatten_append];simp
theorem Jm (rows:List (List UInt8)) (i:Nat):(flat (rows.take i)).length<=(flat rows).length:=by
 have h:rows=rows.take i++rows.drop i:=(List.take_append_drop i rows).symm;have M:flat rows=flat (rows.take i)++flat (rows.drop i):=by
  unfold flat;rw[<-List.flatten_append,List.take_append_drop]
 rw[M,List.length_append];omega
def Oo (ks:Nat->UInt8) (l:List UInt8):Array Value:=stc (stOf ks l)
theorem QT (g:Nat) (ks:Nat->UInt8) (l:List UInt8) (y:UInt8) (w:World) (M:l.length<100000) (hB:Blk w g 312 (Oo ks l)) :
  Calls Tryz.prog 242 #[.pointer (some ⟨g,0,none⟩),.int .u8 (y.toNat:Int)] w fun e w'=>e=.returned (.tuple #[])/\Blk w' g 312 (Oo ks (l++[y]))/\w.grownBy w' (some g):=by
 have h:=On g (stOf ks l) y w (by rw[cO];exact M) (Yr ks l) hB;rw[<-MD] at h;exact h
theorem db (g:Nat) (ks:Nat->UInt8) (l:List UInt8) (w:World) (hB:Blk w g 312 (Oo ks l)) :
  Calls Tryz.prog 243 #[.pointer (some ⟨g,0,none⟩)] w fun e w'=>e=.returned (wv (Ia ks l))/\w.grownBy w' (some g):=
 ZT g (stOf ks l) w (Nat.lt_of_lt_of_le (Yr ks l) (WE _ (by omega))) hB
theorem Tz (l:List UInt8) (j:Nat) (h:j<l.length):l.take (j+1)=l.take j++[l[j]]:=List.take_succ_eq_append_getElem h
theorem ZU (ks:Nat->UInt8) (A:Option Addr) (n c:Nat) (rows:List (List UInt8)) (w:World) (hn:n=rows.length) (ea:n<=100000) (hl:(flat rows).length<100000) (hr:Rows w w.heap.size A rows) :
  Calls Tryz.prog 217 #[.agg (AR ks),.slice A n c] w fun e w'=>e=.returned (wv (Ia ks (flat rows)))/\Below w.heap.size w w':=by
 obtain⟨vs,hv,cd,Z⟩:=hr;obtain⟨B,eB⟩:=Ak (w.heap.size);rw[<-eB] at cd Z;have EB:=I eB;have ec:=I cd;clear cd;have bB:=I Z;clear Z;have HN:=I hn;clear hn;have e5:(n:Int)<=100000:=by omega
 clear ea;have HL:=I hl;clear hl;have HV:=I hv;clear hv;have hk:AR ks=#[.int .u8 ((ks 0).toNat:Int),.int .u8 ((ks 1).toNat:Int),.int .u8 ((ks 2).toNat:Int),.int .u8 ((ks 3).toNat:Int),.int .u8 ((ks 4).toNat:Int),.int .u8 ((ks 5).toNat:Int),.int .u8 ((ks 6).toNat:Int),.int .u8 ((ks 7).toNat:Int),.int .u8 ((ks 8).toNat:Int),.int .u8 ((ks 9).toNat:Int),.int .u8 ((ks 10).toNat:Int),.int .u8 ((ks 11).toNat:Int),.int .u8 ((ks 12).toNat:Int),.int .u8 ((ks 13).toNat:Int),.int .u8 ((ks 14).toNat:Int),.int .u8 ((ks 15).toNat:Int)]:=rfl;have cb:=He ks;rw[hk] at cb⊢;have hs:stc ⟨start ks,0,0⟩=#[wv (start ks).a,wv (start ks).b,wv (start ks).c,wv (start ks).d,.int .u64 0,.int .u64 0]:=rfl;rw[hs] at cb;have cc:Oo ks []=#[wv (start ks).a,wv (start ks).b,wv (start ks).c,wv (start ks).d,.int .u64 0,.int .u64 0]:=rfl;obtain⟨p0,e0⟩:∃x,x=(start ks).a:=⟨_,rfl⟩;obtain⟨p1,e1⟩:∃x,x=(start ks).b:=⟨_,rfl⟩;obtain⟨p2,e2⟩:∃x,x=(start ks).c:=⟨_,rfl⟩;obtain⟨p3,e3⟩:∃x,x=(start ks).d:=⟨_,rfl⟩;rw[<-e0,<-e1,<-e2,<-e3] at cc cb;have cq:=I cc;clear cc;clear hk hs e0 e1 e2 e3;go_enter Tryz.func217,Tryz.ntmps217
 go_upto_region 2 with(go_at_call 241;refine Aj (cb _) ?_;rintro w1 cy;have cu:Below w.heap.size w w1:=((Below.refl w.heap.size w).alloc Ag _).trans (cy.mono (by simp));have bq:=I cu;clear cu cy cb)
 clear eB;obtain⟨g,eg⟩:=Ak (w1.heap.size);have cm:Blk (w1.alloc (.cells #[.int .u64 (p0.toNat:Int),.int .u64 (p1.toNat:Int),.int .u64 (p2.toNat:Int),.int .u64 (p3.toNat:Int),.int .u64 0,.int .u64 0] 312)) g 312 (Oo ks []):=Blk.new_of w1 g _ _ _ cq.o.symm eg.symm;have ck:Below B w (w1.alloc (.cells #[.int .u64 (p0.toNat:Int),.int .u64 (p1.toNat:Int),.int .u64 (p2.toNat:Int),.int .u64 (p3.toNat:Int),.int .u64 0,.int .u64 0] 312)):=by rw[EB.o];exact bq.o.alloc bq.o.size _
 have hg:B<=g:=by rw[eg,EB.o];exact bq.o.size
 rw[<-eg];generalize w1.alloc (.cells #[.int .u64 (p0.toNat:Int),.int .u64 (p1.toNat:Int),.int .u64 (p2.toNat:Int),.int .u64 (p3.toNat:Int),.int .u64 0,.int .u64 0] 312)=w2 at cm ck⊢;have cB:=I cm;clear cm;have cL:=I ck;clear ck;have bs:=I hg;clear hg;clear cq bq eg
 go_wp2_with fail
 go_loopw [14] (fun iv wr=>∃i:Nat,i<=n/\iv=.int .i64 (i:Int)/\Below B w wr/\Blk wr g 312 (Oo ks (flat (rows.take i)))) (fun iv _=>n - (intOf iv).toNat)
 case atStart=>exact⟨0,Nat.zero_le _,rfl,cL.o,by rw[List.take_zero];exact cB.o⟩
 case round=>
  clear cB cL;obtain⟨i,hi,rfl,hW,hB⟩:=hrel;have HW:=I hW;clear hW;have HB:=I hB;clear hB
  by_cases hx:i=n
  ·have he:rows.take i=rows:=List.take_of_length_le (by have:=HN.o;omega)
   have ce:=db g ks (flat (rows.take i)) wr HB.o;rw[he] at ce;subst hx;clear he
   go_wp2_with (go_at_call 243;refine Aj ce ?_;rintro w3 cA;clear ce;have cP:=I cA;clear cA)
   go_ret;exact⟨rfl,by rw[<-EB.o];exact Az HW.o cP.o (by have:=HW.o.size;have:=Blk.lt HB.o;have:=bs.o;omega) bs.o⟩
  ·have ef:i<n:=by omega
   have bn:i<rows.length:=by have:=HN.o;omega
   have e1:(i:Int)<(n:Int):=by omega
   have e2:(0:Int)<=(i:Int):=by omega
   obtain⟨row,bb⟩:∃r,r=rows[i]:=⟨_,rfl⟩;obtain⟨pre,aw⟩:∃r,r=flat (rows.take i):=⟨_,rfl⟩;have av:flat (rows.take (i+1))=pre++row:=by rw[aw,bb];exact Ty rows i bn
   have hlen:(pre++row).length<100000:=by rw[<-av];exact Nat.lt_of_le_of_lt (Jm rows (i+1)) HL.o
   obtain⟨Ai,ci,cn,cf⟩:=bB.o i bn;rw[<-bb] at cn cf;have bx:=HB.o;rw[<-aw] at bx;have cp:=I bx;clear bx HB;obtain⟨b,o,rfl,cX,O⟩:=ec.o.at_ cn;obtain⟨m,em⟩:=Ak (row.length);rw[<-em] at O;have hc:wr.cell? ⟨b,o+i,none⟩=some (.slice Ai m ci):=(HW.o.cell (p:=⟨b,o+i,none⟩) cX).trans O;have cQ:=I av;clear av;have ed:=I cf;clear cf;have HX:=I hx;clear hx;have HI:=I hi;clear hi;have e6:(m:Int)<100000:=by have:=hlen;rw[List.length_append] at this;omega
   have HM:=I em;clear em;have eb:=I hlen;clear hlen;have ej:=I bn;clear cn O bb aw bn
   go_wp2_with fail
   go_loopw [20] (fun jv wx=>∃j:Nat,j<=m/\jv=.int .i64 (j:Int)/\Below B w wx/\Blk wx g 312 (Oo ks (pre++row.take j))) (fun jv _=>m - (intOf jv).toNat)
   case atStart=>exact⟨0,Nat.zero_le _,rfl,HW.o,by rw[List.take_zero,List.append_nil];exact cp.o⟩
   case round=>
    clear hc HW cp;obtain⟨j,hj,rfl,cM,cr⟩:=hrel;have cg:=I cM;clear cM;have cj:=I cr;clear cr
    by_cases hy:j=m
    ·have he:row.take j=row:=List.take_of_length_le (by have:=HM.o;omega)
     have HE:=I he;clear he;subst hy
     go_wp2_with fail
     go_roundw
     case rel=>exact⟨i+1,by omega,by go_num,cg.o,by rw[cQ.o];have:=cj.o;rw[HE.o] at this;exact this⟩
     case measure=>simp [intOf];omega
    ·have ek:j<m:=by omega
     have bz:j<row.length:=by have:=HM.o;omega
     have f1:(j:Int)<(m:Int):=by omega
     have f2:(0:Int)<=(j:Int):=by omega
     obtain⟨b2,o2,rfl,cY,M⟩:=ed.o.at_ (Fw bz);obtain⟨y,ey⟩:=Ak (row[j]);rw[<-ey] at M;have ei:wr.cell? ⟨b2,o2+j,none⟩=some (.int .u8 (y.toNat:Int)):=(cg.o.cell (p:=⟨b2,o2+j,none⟩) cY).trans M;have cw:(pre++row.take j)++[y]=pre++row.take (j+1):=by rw[Tz row j bz,<-ey,List.append_assoc]
     have ca:=QT g ks (pre++row.take j) y wr (by have:=eb.o;rw[List.length_append] at this⊢;have:(row.take j).length<=row.length:=by{rw[List.length_take];omega};omega) cj.o;rw[cw] at ca;have HY:=I hy;clear hy;have HJ:=I hj;clear hj;have cZ:=I (Blk.lt cj.o);clear M ey cw bz
     go_wp2_with (go_at_call 242;refine Aj ca ?_;rintro w4 ⟨cx,ct⟩;clear ca;have cT:=I cx;have cR:=I ct;clear cx ct)
     go_roundw
     case rel=>exact⟨j+1,by omega,by go_num,Az cg.o cR.o (by have:=cZ.o;have:=bs.o;omega) bs.o,cT.o⟩
     case measure=>simp [intOf];omega
theorem TA (n:Int):bits .and .i64 n 255=n % 256:=by
 have M:(BitVec.ofInt 64 255).toNat=2 ^ 8 - 1:=by decide
 have key:(BitVec.ofInt 64 n &&& BitVec.ofInt 64 255).toNat=(n % ((2 ^ 64:Nat):Int)).toNat % 2 ^ 8:=by
  rw[BitVec.toNat_and,BitVec.toNat_ofInt,M,Nat.and_two_pow_sub_one_eq_mod]
 show IntKind.i64.wrap ((BitVec.ofInt 64 n &&& BitVec.ofInt 64 255).toNat:Nat)=n % 256;rw[key,IntKind.wrap_i64];omega
theorem Rd.drop {w:World} {B:Nat} {x:Addr} {l:List UInt8} (h:Rd w B (some x) (bvs l)) (p:Nat):Rd w B (some (x.add p)) (bvs (l.drop p)):=by
 rcases h with h | ⟨b,o,M,Z,O⟩
 ·left
  have:l = []:=List.map_eq_nil_iff.1 h;rw[this];simp [bvs]
 ·injection M with M
  subst M;rw[addr_add];refine .inr ⟨b,o+p,rfl,Z,fun i u hu=>?_⟩;have:(bvs l)[p+i]? = some u:=by
   rw[<-hu];simp [bvs,List.getElem?_drop]
  have:=O _ _ this
  rwa [Nat.add_assoc]
theorem Rd.take {w:World} {B:Nat} {A:Option Addr} {l:List UInt8} (h:Rd w B A (bvs l)) (k:Nat):Rd w B A (bvs (l.take k)):=by
 rcases h with h | ⟨b,o,O,Z,M⟩
 ·left
  have:l = []:=List.map_eq_nil_iff.1 h;rw[this];simp [bvs]
 ·refine .inr ⟨b,o,O,Z,fun i u hu=>M i u ?_⟩
  rw[<-hu];have hi:i<k:=by
   rcases Nat.lt_or_ge i k with g | g
   ·exact g
   ·rw[List.getElem?_eq_none (by simp [bvs];omega)] at hu;cases hu
  simp [bvs,hi]
theorem rd_key {w:World} {B:Nat} {t:TypeId} {ks:Nat->UInt8} (h:Blk w B t (AR ks)) (o:Nat) (M:o+8<=16):Rd w (B+1) (some ⟨B,o,none⟩) (bvs ((List.range 8).map fun i=>ks (o+i))):=by
 refine .inr ⟨B,o,rfl,by omega,fun i u hu=>?_⟩;have hi:i<8:=by
  rcases Nat.lt_or_ge i 8 with g | g
  ·exact g
  ·rw[List.getElem?_eq_none (by simp [bvs];omega)] at hu;cases hu
 rw[h.cell,FU _ _ (by omega)];rw[<-hu];simp [bvs,hi]
theorem Yt {w:World} {B:Nat} {t:TypeId} {ks:Nat->UInt8} (h:Blk w B t (AR ks)):Calls Tryz.prog 109 #[.slice (some ⟨B,0,none⟩) 8 16] w fun e w'=>e=.returned (wv (kA ks))/\w'=w:=by
 have M:=rd_key h 0 (by decide);have:=Om (some ⟨B,0,none⟩) 8 16 _ w (B+1) (by simp) (by decide) M;have e:((List.range 8).map fun i=>ks (0+i))=(List.range 8).map ks:=by simp
 rw[e] at this;exact this
theorem Yu {w:World} {B:Nat} {t:TypeId} {ks:Nat->UInt8} (h:Blk w B t (AR ks)):Calls Tryz.prog 109 #[.slice (some ⟨B,8,none⟩) 8 8] w fun e w'=>e=.returned (wv (kB ks))/\w'=w:=
 Om (some ⟨B,8,none⟩) 8 8 _ w (B+1) (by simp) (by decide) (rd_key h 8 (by decide))
theorem TB (ks:Nat->UInt8) (l:List UInt8):bits .or .u64 (BK (l.drop (8*(l.length / 8))):Nat) (IntKind.u64.wrap (((l.length % 256:Nat):Int)*72057594037927936))=((QR (stOf ks l)).toNat:Int):=by
 have M:BK (l.drop (8*(l.length / 8)))<72057594037927936:=Tv (by rw[List.length_drop];omega);have h:=PH (BK (l.drop (8*(l.length / 8)))) (l.length % 256) M;rw[IntKind.wrap_u64,h,Nat.mod_mod];rw[MH _ (by rw[FX];exact M),FX]
def stcV (ks:Nat->UInt8):Array Value:=DU (start ks)
theorem TC (ks:Nat->UInt8) (x:Addr) (n c:Nat) (l:List UInt8) (w:World) (hn:n=l.length) (hl:n<=100000) (hc:n<=c) (hm:c<=maxLen) (hr:Rd w w.heap.size (some x) (bvs l)) :
  Calls Tryz.prog 78 #[.agg (AR ks),.slice (some x) n c] w fun e w'=>e=.returned (wv (Ia ks l))/\Below w.heap.size w w':=by
 obtain⟨B,eB⟩:=Ak (w.heap.size);rw[<-eB] at hr;have EB:=I eB;have HR:=I hr;clear hr;have HN:=I hn;clear hn;have eE:AR ks=#[.int .u8 ((ks 0).toNat:Int),.int .u8 ((ks 1).toNat:Int),.int .u8 ((ks 2).toNat:Int),.int .u8 ((ks 3).toNat:Int),.int .u8 ((ks 4).toNat:Int),.int .u8 ((ks 5).toNat:Int),.int .u8 ((ks 6).toNat:Int),.int .u8 ((ks 7).toNat:Int),.int .u8 ((ks 8).toNat:Int),.int .u8 ((ks 9).toNat:Int),.int .u8 ((ks 10).toNat:Int),.int .u8 ((ks 11).toNat:Int),.int .u8 ((ks 12).toNat:Int),.int .u8 ((ks 13).toNat:Int),.int .u8 ((ks 14).toNat:Int),.int .u8 ((ks 15).toNat:Int)]:=rfl;have cy:stcV ks=#[wv (start ks).a,wv (start ks).b,wv (start ks).c,wv (start ks).d]:=rfl;obtain⟨p,ep⟩:∃x,x=kA ks:=⟨_,rfl⟩;obtain⟨q,eq⟩:∃x,x=kB ks:=⟨_,rfl⟩;obtain⟨v0,e0⟩:∃x,x=0x736f6d6570736575#64 ^^^ p:=⟨_,rfl⟩;obtain⟨v1,e1⟩:∃x,x=0x646f72616e646f6d#64 ^^^ q:=⟨_,rfl⟩;obtain⟨v2,e2⟩:∃x,x=0x6c7967656e657261#64 ^^^ p:=⟨_,rfl⟩;obtain⟨v3,e3⟩:∃x,x=0x7465646279746573#64 ^^^ q:=⟨_,rfl⟩;have x0:bits .xor .u64 8317987319222330741 (p.toNat:Int)=(v0.toNat:Int):=by rw[e0];exact Bu 0x736f6d6570736575#64 p
 have x1:bits .xor .u64 7237128888997146477 (q.toNat:Int)=(v1.toNat:Int):=by rw[e1];exact Bu 0x646f72616e646f6d#64 q
 have x2:bits .xor .u64 7816392313619706465 (p.toNat:Int)=(v2.toNat:Int):=by rw[e2];exact Bu 0x6c7967656e657261#64 p
 have x3:bits .xor .u64 8387220255154660723 (q.toNat:Int)=(v3.toNat:Int):=by rw[e3];exact Bu 0x7465646279746573#64 q
 have hs:stcV ks=#[.int .u64 (v0.toNat:Int),.int .u64 (v1.toNat:Int),.int .u64 (v2.toNat:Int),.int .u64 (v3.toNat:Int)]:=by
  rw[cy,e0,e1,e2,e3,ep,eq];rfl
 have HS:=I hs;clear hs;obtain⟨kz,ca⟩:=Ak (AR ks);rw[<-ca];have eK:=I ca;have hK:Blk (w.alloc (.cells kz 166)) B 166 (AR ks):=Blk.new_of w B _ _ _ ca eB.symm;have hW:Below B w (w.alloc (.cells kz 166)):=by rw[eB];exact(Below.refl _ w).alloc Ag _
 clear cy e0 e1 e2 e3;have cA:=Yt (hK.drewN 1);have cB:=Yu (hK.drewN 1);rw[<-ep] at cA;rw[<-eq] at cB;have HW:=I hW;clear hW;clear eE ca ep eq hK;go_enter Tryz.func78,Tryz.ntmps78
 go_upto_region 1 with fail
 rw[<-eB];clear eB;have HM:=I hm;clear hm;generalize w.alloc (.cells kz 166)=w1 at cA cB HW⊢;refine wp_region_still_lit (by kernel_rfl) (by kernel_rfl) ?_;change wpStill _ _ w1.drew _ _ _
 repeat still_step
 still_call cA
 repeat still_step
 still_call cB
 repeat still_step
 refine wpStill_nil ?_
 try change _ w1.drew
 clear cA cB
 go_upto_region 3 with fail
 obtain⟨g,eg⟩:=Ak (w1.heap.size);have ck:Blk (w1.alloc (.cells #[.int .u64 (v0.toNat:Int),.int .u64 (v1.toNat:Int),.int .u64 (v2.toNat:Int),.int .u64 (v3.toNat:Int)] 219)).drew g 219 (DU (full ks l (0 / 8))):=Blk.drewN (Blk.new_of w1 g _ _ _ HS.o.symm eg.symm) 1;have cg:Below B w (w1.alloc (.cells #[.int .u64 (v0.toNat:Int),.int .u64 (v1.toNat:Int),.int .u64 (v2.toNat:Int),.int .u64 (v3.toNat:Int)] 219)).drew:=below_drewN (HW.o.alloc (by rw[EB.o];exact HW.o.size) _) 1;have hg:B<=g:=by rw[eg,EB.o];exact HW.o.size
 rw[<-eg];generalize (w1.alloc (.cells #[.int .u64 (v0.toNat:Int),.int .u64 (v1.toNat:Int),.int .u64 (v2.toNat:Int),.int .u64 (v3.toNat:Int)] 219)).drew=w2 at ck cg⊢;have cX:=I ck;clear ck;have ej:=I cg;clear cg;have Z:=I hg;clear hg;clear HS HW eg x0 x1 x2 x3;have l5:(n:Int)<=100000:=by omega
 have c0:(n:Int)<=(c:Int):=by omega
 have eL:c<=9223372036854775807:=by have:=HM.o;unfold maxLen at this;omega
 have eJ:(c:Int)<=9223372036854775807:=by omega
 go_wp2_with fail
 go_loopw [8] (fun iv wr=>∃u:Nat,u<=n/\u % 8=0/\iv=.int .i64 (u:Int)/\Below B w wr/\Blk wr g 219 (DU (full ks l (u / 8)))) (fun iv _=>n - (intOf iv).toNat)
 case atStart=>exact⟨0,Nat.zero_le _,rfl,rfl,ej.o,cX.o⟩
 case round=>
  clear cX ej;obtain⟨u,hu,cT,rfl,hW,hB⟩:=hrel;have HW:=I hW;clear hW;have HB:=I hB;clear hB;have bs:=I cT;clear cT;have d0:(0:Int)<=(u:Int):=by omega
  have d1:(u:Int)<=(n:Int):=by omega
  by_cases hx:n - u<8
  ·have hj:u / 8=n / 8:=by have:=bs.o;omega
   have t1:(n:Int) - (u:Int)<8:=by omega
   have HX:=I hx;clear hx;have HJ:=I hj;clear hj;obtain⟨k,ek⟩:=Ak (n % 256);have hand:bits .and .i64 (n:Int) 255=(k:Int):=by rw[TA,ek];omega
   have k1:(k:Int)<256:=by omega
   have k2:(0:Int)<=(k:Int):=by omega
   have eo:IntKind.u64.wrap (k:Int)=(k:Int):=by rw[IntKind.wrap_u64];omega
   have bB:u=8*(l.length / 8):=by have:=bs.o;have:=HN.o;have:=HX.o;omega
   have cw:(l.drop u).length=n - u:=by rw[List.length_drop,HN.o]
   obtain⟨mw,av⟩:∃m,m=wd (BK (l.drop u)):=⟨_,rfl⟩;obtain⟨lw,cq⟩:∃m,m=QR (stOf ks l):=⟨_,rfl⟩;have ei:mw.toNat=BK (l.drop u):=by rw[av];exact Ko _ (Ll (by have:=HX.o;omega))
   have cR:bits .or .u64 (mw.toNat:Int) (IntKind.u64.wrap ((k:Int)*72057594037927936))=(lw.toNat:Int):=by
    have h:=TB ks l;rw[<-bB,<-ei,<-HN.o,<-ek,<-cq] at h;exact h
   have ew:bits .or .u64 (mw.toNat:Int) ((k:Int)*72057594037927936)=(lw.toNat:Int):=by
    rw[<-cR,IntKind.wrap_u64];congr 1;omega
   have cA:=Om (some (x.add u)) (n - u) (c - u) (l.drop u) wr B cw.symm (by have:=HX.o;omega) (Rd.drop (HR.o.below HW.o) u);have cB:u=c->Calls Tryz.prog 109 #[.slice (some x) 0 0] wr fun e w'=>e=.returned (wv (wd (BK (l.drop u))))/\w'=wr:=fun h=>Om (some x) 0 0 (l.drop u) wr B (by omega) (by decide) (.inl (by rw[List.eq_nil_of_length_eq_zero (l:=l.drop u) (by omega)];rfl))
   rw[<-av] at cA;rw[<-av] at cB;obtain⟨⟨a,b,cc,d⟩,e1⟩:∃t,t=addM (full ks l (u / 8)) lw:=⟨_,rfl⟩;obtain⟨c1,ec⟩:∃x,x=cc ^^^ 255#64:=⟨_,rfl⟩;obtain⟨V0,eV⟩:∃x:V,x=⟨a,b,c1,d⟩:=⟨_,rfl⟩;obtain⟨⟨a2,b2,c2,d2⟩,e2⟩:∃t,t=rnds 4 V0:=⟨_,rfl⟩;obtain⟨q1,cm⟩:∃x,x=a2 ^^^ b2:=⟨_,rfl⟩;obtain⟨q2,cj⟩:∃x,x=q1 ^^^ c2:=⟨_,rfl⟩;obtain⟨q3,cd⟩:∃x,x=q2 ^^^ d2:=⟨_,rfl⟩;have cb:Ia ks l=q3:=by
    have hv:(stOf ks l).v=full ks l (u / 8):=by rw[FX,HJ.o,HN.o]
    rw[Ia,finS,<-cq,hv,<-e1,fin,<-ec,<-eV,<-e2,allX,<-cm,<-cj,<-cd]
   have x0:bits .xor .u64 (cc.toNat:Int) 255=(c1.toNat:Int):=by rw[ec];exact Bu cc 255#64
   have x1:bits .xor .u64 (a2.toNat:Int) (b2.toNat:Int)=(q1.toNat:Int):=by rw[cm];exact Bu _ _
   have x2:bits .xor .u64 (q1.toNat:Int) (c2.toNat:Int)=(q2.toNat:Int):=by rw[cj];exact Bu _ _
   have x3:bits .xor .u64 (q2.toNat:Int) (d2.toNat:Int)=(q3.toNat:Int):=by rw[cd];exact Bu _ _
   have ct:=ZS g (full ks l (u / 8)) lw wr HB.o;rw[<-e1] at ct;have ed:=I cb;clear cb;have EV:=I eV;clear eV;have E2:=I e2;clear e2;have cY:=I x0;clear x0;have ez:=I x1;clear x1;have et:=I x2;clear x2;have ev:=I x3;clear x3;have bn:=I (Blk.lt HB.o);clear e1 ec cm cj cd ei av cq cw bB ek HJ bs
   go_upto_region 7 with fail
   go_cut [] from 39 to 50 (fun wx=>Below B w wx/\Blk wx g 219 (DU ⟨a,b,cc,d⟩))
   case first=>
    have bx:u=c\/u<c:=by omega
    rcases bx with bx | bx
    ·have cZ:=cB bx;clear cB
     clear cA;subst bx
     go_wp2_with (first
      |(go_at_call 109;refine Aj cZ ?_;rintro w' hw;have hw:=hw.symm;subst hw;clear cZ)
      |(go_at_call 110;refine Aj ct ?_;rintro v1 ⟨M,aw⟩;clear ct;have O:=I M;have bb:=I (Az HW.o aw (by have:=bn.o;have:=Z.o;omega) Z.o);clear M aw))
     go_meet
     exact⟨bb.o,O.o⟩
    ·clear cB
     have eF:(u:Int)<(c:Int):=by omega
     go_wp2_with (first
      |(go_at_call 109;refine Aj cA ?_;rintro w' hw;have hw:=hw.symm;subst hw;clear cA)
      |(go_at_call 110;refine Aj ct ?_;rintro v1 ⟨M,aw⟩;clear ct;have O:=I M;have bb:=I (Az HW.o aw (by have:=bn.o;have:=Z.o;omega) Z.o);clear M aw))
     go_meet
     exact⟨bb.o,O.o⟩
   case rest=>
    obtain⟨ea,M⟩:=hcut;have O:=I M;clear M;have bb:=I ea;clear ea;have k2:wc.cell? ⟨g,2,none⟩=some (.int .u64 (cc.toNat:Int)):=by rw[O.o.cell];rfl
    have fz:=O.o.frozen;have x0:=cY.o;clear cY hand eo cR ew cA cB ct
    go_upto_region 8 with fail
    refine wp_region_still_tail 8 (by kernel_rfl) (by kernel_rfl) ?_;simp only[List.take_succ_cons,List.take_zero,List.drop_succ_cons,List.drop_zero];change wpStill _ _ wc.drew _ _ _
    repeat still_step
    refine wpStill_nil ?_;change wpList _ _ _ _ _ wc.drew
    go_upto_region 9 with fail
    have cf:Blk (wc.setCell ⟨g,2,none⟩ (.int .u64 (c1.toNat:Int))).drew g 219 (DU V0):=by rw[EV.o];exact Blk.set O.o 2 (wv c1)
    have cn:Below B w (wc.setCell ⟨g,2,none⟩ (.int .u64 (c1.toNat:Int))).drew:=below_drewN (AS bb.o Z.o _) 1;generalize (wc.setCell ⟨g,2,none⟩ (.int .u64 (c1.toNat:Int))).drew=v2 at cf cn⊢;have cu:=I cf;clear cf;have cM:=I cn;clear cn;clear k2 fz x0 O bb bn HB HW
    go_wp2_with fail
    go_loopw [9] (fun iv wr=>∃i:Nat,i<=4/\iv=.int .i64 (i:Int)/\Below B w wr/\Blk wr g 219 (DU (rnds i V0))) (fun iv _=>4 - (intOf iv).toNat)
    case atStart=>exact⟨0,by decide,rfl,cM.o,cu.o⟩
    case round=>
     obtain⟨i,hi,rfl,cP,ef⟩:=hrel;clear cu cM;have cp:=I ef;clear ef;have cL:=I cP;clear cP
     by_cases hi4:i=4
     ·subst hi4
      have bq:=cp.o;rw[<-E2.o] at bq;have k0:wr.cell? ⟨g,0,none⟩=some (.int .u64 (a2.toNat:Int)):=by rw[bq.cell];rfl
      have k1:wr.cell? ⟨g,1,none⟩=some (.int .u64 (b2.toNat:Int)):=by rw[bq.cell];rfl
      have k2:wr.cell? ⟨g,2,none⟩=some (.int .u64 (c2.toNat:Int)):=by rw[bq.cell];rfl
      have k3:wr.cell? ⟨g,3,none⟩=some (.int .u64 (d2.toNat:Int)):=by rw[bq.cell];rfl
      have x1:=ez.o;have x2:=et.o;have x3:=ev.o;clear bq
      go_upto_region 13 with fail
      refine wp_region_still_lit (by kernel_rfl) (by kernel_rfl) ?_;change wpStill _ _ wr.drew _ _ _
      repeat still_step
      refine wpStill_nil ?_
      try change _ wr.drew
      go_wp2_with fail
      go_ret;exact⟨by rw[ed.o];rfl,by rw[<-EB.o];exact below_drewN cL.o 1⟩
     ·have j1:(i:Int)<4:=by omega
      have j2:(0:Int)<=(i:Int):=by omega
      have cr:=PI g (rnds i V0) wr cp.o;have bn:=I (Blk.lt cp.o);have ey:=I hi4;clear hi4
      go_wp2_with (go_at_call 111;refine Aj cr ?_;rintro v4 ⟨cQ,cx⟩;clear cr;have er:=I cQ;have eu:=I cx;clear cQ cx)
      go_roundw
      case rel=>exact⟨i+1,by have:=ey.o;omega,by go_num,Az cL.o eu.o (by have:=bn.o;have:=Z.o;omega) Z.o,er.o⟩
      case measure=>simp [intOf];omega
  ·have t1:(8:Int)<=(n:Int) - (u:Int):=by omega
   have t2:(u:Int)+8<=(n:Int):=by omega
   have t3:u+8<=n:=by omega
   have HX:=I hx;clear hx;have hj:(u+8) / 8=u / 8+1:=by omega
   have bB:u=8*(u / 8):=by have:=bs.o;omega
   have eb:((l.drop u).take 8).length=8:=by rw[List.length_take,List.length_drop,<-HN.o];omega
   have cA:=Om (some (x.add u)) 8 (c - u) ((l.drop u).take 8) wr B eb.symm (by decide) (Rd.take (Rd.drop (HR.o.below HW.o) u) 8);obtain⟨mw,av⟩:∃m,m=wd (BK ((l.drop u).take 8)):=⟨_,rfl⟩;rw[<-av] at cA;have bz:addM (full ks l (u / 8)) mw=full ks l ((u+8) / 8):=by rw[hj,full,<-bB,<-av]
   have ct:=ZS g (full ks l (u / 8)) mw wr HB.o;rw[bz] at ct;have bn:=I (Blk.lt HB.o);clear hj bB eb av bz
   go_wp2_with (first
    |(go_at_call 109;refine Aj cA ?_;rintro w' hw;have hw:=hw.symm;subst hw;clear cA)
    |(go_at_call 110;refine Aj ct ?_;rintro v1 ⟨M,aw⟩;clear ct;have O:=I M;have bb:=I (Az HW.o aw (by have:=bn.o;have:=Z.o;omega) Z.o);clear M aw))
   go_roundw
   case rel=>exact⟨u+8,by omega,by have:=bs.o;omega,by go_num,bb.o,O.o⟩
   case measure=>simp [intOf];omega
theorem TD (ks:Nat->UInt8) (n c:Nat) (l:List UInt8) (w:World) (hn:n=l.length) (hl:n<=100000) (hc:n<=c) (hm:c<=maxLen) (h0:n=0) :
  Calls Tryz.prog 78 #[.agg (AR ks),.slice none n c] w fun e w'=>e=.returned (wv (Ia ks l))/\Below w.heap.size w w':=by
 obtain⟨B,eB⟩:=Ak (w.heap.size);have EB:=I eB;have H0:=I h0;clear h0;have HN:=I hn;clear hn;have ey:AR ks=#[.int .u8 ((ks 0).toNat:Int),.int .u8 ((ks 1).toNat:Int),.int .u8 ((ks 2).toNat:Int),.int .u8 ((ks 3).toNat:Int),.int .u8 ((ks 4).toNat:Int),.int .u8 ((ks 5).toNat:Int),.int .u8 ((ks 6).toNat:Int),.int .u8 ((ks 7).toNat:Int),.int .u8 ((ks 8).toNat:Int),.int .u8 ((ks 9).toNat:Int),.int .u8 ((ks 10).toNat:Int),.int .u8 ((ks 11).toNat:Int),.int .u8 ((ks 12).toNat:Int),.int .u8 ((ks 13).toNat:Int),.int .u8 ((ks 14).toNat:Int),.int .u8 ((ks 15).toNat:Int)]:=rfl;have cw:stcV ks=#[wv (start ks).a,wv (start ks).b,wv (start ks).c,wv (start ks).d]:=rfl;obtain⟨p,ep⟩:∃x,x=kA ks:=⟨_,rfl⟩;obtain⟨q,eq⟩:∃x,x=kB ks:=⟨_,rfl⟩;obtain⟨v0,e0⟩:∃x,x=0x736f6d6570736575#64 ^^^ p:=⟨_,rfl⟩;obtain⟨v1,e1⟩:∃x,x=0x646f72616e646f6d#64 ^^^ q:=⟨_,rfl⟩;obtain⟨v2,e2⟩:∃x,x=0x6c7967656e657261#64 ^^^ p:=⟨_,rfl⟩;obtain⟨v3,e3⟩:∃x,x=0x7465646279746573#64 ^^^ q:=⟨_,rfl⟩;have x0:bits .xor .u64 8317987319222330741 (p.toNat:Int)=(v0.toNat:Int):=by rw[e0];exact Bu 0x736f6d6570736575#64 p
 have x1:bits .xor .u64 7237128888997146477 (q.toNat:Int)=(v1.toNat:Int):=by rw[e1];exact Bu 0x646f72616e646f6d#64 q
 have x2:bits .xor .u64 7816392313619706465 (p.toNat:Int)=(v2.toNat:Int):=by rw[e2];exact Bu 0x6c7967656e657261#64 p
 have x3:bits .xor .u64 8387220255154660723 (q.toNat:Int)=(v3.toNat:Int):=by rw[e3];exact Bu 0x7465646279746573#64 q
 have hs:stcV ks=#[.int .u64 (v0.toNat:Int),.int .u64 (v1.toNat:Int),.int .u64 (v2.toNat:Int),.int .u64 (v3.toNat:Int)]:=by
  rw[cw,e0,e1,e2,e3,ep,eq];rfl
 have HS:=I hs;clear hs;obtain⟨kz,bx⟩:=Ak (AR ks);rw[<-bx];have eF:=I bx;have hK:Blk (w.alloc (.cells kz 166)) B 166 (AR ks):=Blk.new_of w B _ _ _ bx eB.symm;have hW:Below B w (w.alloc (.cells kz 166)):=by rw[eB];exact(Below.refl _ w).alloc Ag _
 clear cw e0 e1 e2 e3;have cA:=Yt (hK.drewN 1);have cB:=Yu (hK.drewN 1);rw[<-ep] at cA;rw[<-eq] at cB;have HW:=I hW;clear hW;clear ey bx ep eq hK;go_enter Tryz.func78,Tryz.ntmps78
 go_upto_region 1 with fail
 rw[<-eB];clear eB;have HM:=I hm;clear hm;generalize w.alloc (.cells kz 166)=w1 at cA cB HW⊢;refine wp_region_still_lit (by kernel_rfl) (by kernel_rfl) ?_;change wpStill _ _ w1.drew _ _ _
 repeat still_step
 still_call cA
 repeat still_step
 still_call cB
 repeat still_step
 refine wpStill_nil ?_
 try change _ w1.drew
 clear cA cB
 go_upto_region 3 with fail
 obtain⟨g,eg⟩:=Ak (w1.heap.size);have cg:Blk (w1.alloc (.cells #[.int .u64 (v0.toNat:Int),.int .u64 (v1.toNat:Int),.int .u64 (v2.toNat:Int),.int .u64 (v3.toNat:Int)] 219)).drew g 219 (DU (full ks l (0 / 8))):=Blk.drewN (Blk.new_of w1 g _ _ _ HS.o.symm eg.symm) 1;have cb:Below B w (w1.alloc (.cells #[.int .u64 (v0.toNat:Int),.int .u64 (v1.toNat:Int),.int .u64 (v2.toNat:Int),.int .u64 (v3.toNat:Int)] 219)).drew:=below_drewN (HW.o.alloc (by rw[EB.o];exact HW.o.size) _) 1;have hg:B<=g:=by rw[eg,EB.o];exact HW.o.size
 rw[<-eg];generalize (w1.alloc (.cells #[.int .u64 (v0.toNat:Int),.int .u64 (v1.toNat:Int),.int .u64 (v2.toNat:Int),.int .u64 (v3.toNat:Int)] 219)).drew=w2 at cg cb⊢;have cR:=I cg;clear cg;have ed:=I cb;clear cb;have Z:=I hg;clear hg;clear HS HW eg x0 x1 x2 x3;have l5:(n:Int)<=100000:=by omega
 have c0:(n:Int)<=(c:Int):=by omega
 have eJ:c<=9223372036854775807:=by have:=HM.o;unfold maxLen at this;omega
 have eE:(c:Int)<=9223372036854775807:=by omega
 go_wp2_with fail
 go_loopw [8] (fun iv wr=>∃u:Nat,u<=n/\u % 8=0/\iv=.int .i64 (u:Int)/\Below B w wr/\Blk wr g 219 (DU (full ks l (u / 8)))) (fun iv _=>n - (intOf iv).toNat)
 case atStart=>exact⟨0,Nat.zero_le _,rfl,rfl,ed.o,cR.o⟩
 case round=>
  clear cR ed;obtain⟨u,hu,cQ,rfl,hW,hB⟩:=hrel;have HW:=I hW;clear hW;have HB:=I hB;clear hB;have cd:=I cQ;clear cQ;have d0:(0:Int)<=(u:Int):=by omega
  have d1:(u:Int)<=(n:Int):=by omega
  by_cases hx:n - u<8
  ·have hj:u / 8=n / 8:=by have:=cd.o;omega
   have t1:(n:Int) - (u:Int)<8:=by omega
   have HX:=I hx;clear hx;have HJ:=I hj;clear hj;obtain⟨k,ek⟩:=Ak (n % 256);have hand:bits .and .i64 (n:Int) 255=(k:Int):=by rw[TA,ek];omega
   have k1:(k:Int)<256:=by omega
   have k2:(0:Int)<=(k:Int):=by omega
   have ei:IntKind.u64.wrap (k:Int)=(k:Int):=by rw[IntKind.wrap_u64];omega
   have ef:u=8*(l.length / 8):=by have:=cd.o;have:=HN.o;have:=HX.o;omega
   have cq:(l.drop u).length=n - u:=by rw[List.length_drop,HN.o]
   obtain⟨mw,bs⟩:∃m,m=wd (BK (l.drop u)):=⟨_,rfl⟩;obtain⟨lw,cn⟩:∃m,m=QR (stOf ks l):=⟨_,rfl⟩;have eb:mw.toNat=BK (l.drop u):=by rw[bs];exact Ko _ (Ll (by have:=HX.o;omega))
   have cP:bits .or .u64 (mw.toNat:Int) (IntKind.u64.wrap ((k:Int)*72057594037927936))=(lw.toNat:Int):=by
    have h:=TB ks l;rw[<-ef,<-eb,<-HN.o,<-ek,<-cn] at h;exact h
   have eu:bits .or .u64 (mw.toNat:Int) ((k:Int)*72057594037927936)=(lw.toNat:Int):=by
    rw[<-cP,IntKind.wrap_u64];congr 1;omega
   have cA:=Om none (n - u) (c - u) (l.drop u) wr B cq.symm (by have:=HX.o;omega) (.inl (by rw[List.eq_nil_of_length_eq_zero (l:=l.drop u) (by have:=H0.o;omega)];rfl));have cB:u=c->Calls Tryz.prog 109 #[.slice none 0 0] wr fun e w'=>e=.returned (wv (wd (BK (l.drop u))))/\w'=wr:=fun h=>Om none 0 0 (l.drop u) wr B (by omega) (by decide) (.inl (by rw[List.eq_nil_of_length_eq_zero (l:=l.drop u) (by omega)];rfl))
   rw[<-bs] at cA;rw[<-bs] at cB;obtain⟨⟨a,b,cc,d⟩,e1⟩:∃t,t=addM (full ks l (u / 8)) lw:=⟨_,rfl⟩;obtain⟨c1,ec⟩:∃x,x=cc ^^^ 255#64:=⟨_,rfl⟩;obtain⟨V0,eV⟩:∃x:V,x=⟨a,b,c1,d⟩:=⟨_,rfl⟩;obtain⟨⟨a2,b2,c2,d2⟩,e2⟩:∃t,t=rnds 4 V0:=⟨_,rfl⟩;obtain⟨q1,cj⟩:∃x,x=a2 ^^^ b2:=⟨_,rfl⟩;obtain⟨q2,cf⟩:∃x,x=q1 ^^^ c2:=⟨_,rfl⟩;obtain⟨q3,bB⟩:∃x,x=q2 ^^^ d2:=⟨_,rfl⟩;have bz:Ia ks l=q3:=by
    have hv:(stOf ks l).v=full ks l (u / 8):=by rw[FX,HJ.o,HN.o]
    rw[Ia,finS,<-cn,hv,<-e1,fin,<-ec,<-eV,<-e2,allX,<-cj,<-cf,<-bB]
   have x0:bits .xor .u64 (cc.toNat:Int) 255=(c1.toNat:Int):=by rw[ec];exact Bu cc 255#64
   have x1:bits .xor .u64 (a2.toNat:Int) (b2.toNat:Int)=(q1.toNat:Int):=by rw[cj];exact Bu _ _
   have x2:bits .xor .u64 (q1.toNat:Int) (c2.toNat:Int)=(q2.toNat:Int):=by rw[cf];exact Bu _ _
   have x3:bits .xor .u64 (q2.toNat:Int) (d2.toNat:Int)=(q3.toNat:Int):=by rw[bB];exact Bu _ _
   have ct:=ZS g (full ks l (u / 8)) lw wr HB.o;rw[<-e1] at ct;have cZ:=I bz;clear bz;have EV:=I eV;clear eV;have E2:=I e2;clear e2;have cT:=I x0;clear x0;have ew:=I x1;clear x1;have eo:=I x2;clear x2;have et:=I x3;clear x3;have bn:=I (Blk.lt HB.o);clear e1 ec cj cf bB eb bs cn cq ef ek HJ cd
   go_upto_region 7 with fail
   go_cut [] from 39 to 50 (fun wx=>Below B w wx/\Blk wx g 219 (DU ⟨a,b,cc,d⟩))
   case first=>
    have bb:u=c\/u<c:=by omega
    rcases bb with bb | bb
    ·have cX:=cB bb;clear cB
     clear cA;subst bb
     go_wp2_with (first
      |(go_at_call 109;refine Aj cX ?_;rintro w' hw;have hw:=hw.symm;subst hw;clear cX)
      |(go_at_call 110;refine Aj ct ?_;rintro v1 ⟨O,bq⟩;clear ct;have M:=I O;have aw:=I (Az HW.o bq (by have:=bn.o;have:=Z.o;omega) Z.o);clear O bq))
     go_meet
     exact⟨aw.o,M.o⟩
    ·clear cB
     have ez:(u:Int)<(c:Int):=by omega
     go_wp2_with (first
      |(go_at_call 109;refine Aj cA ?_;rintro w' hw;have hw:=hw.symm;subst hw;clear cA)
      |(go_at_call 110;refine Aj ct ?_;rintro v1 ⟨O,bq⟩;clear ct;have M:=I O;have aw:=I (Az HW.o bq (by have:=bn.o;have:=Z.o;omega) Z.o);clear O bq))
     go_meet
     exact⟨aw.o,M.o⟩
   case rest=>
    obtain⟨cY,O⟩:=hcut;have M:=I O;clear O;have aw:=I cY;clear cY;have k2:wc.cell? ⟨g,2,none⟩=some (.int .u64 (cc.toNat:Int)):=by rw[M.o.cell];rfl
    have fz:=M.o.frozen;have x0:=cT.o;clear cT hand ei cP eu cA cB ct
    go_upto_region 8 with fail
    refine wp_region_still_tail 8 (by kernel_rfl) (by kernel_rfl) ?_;simp only[List.take_succ_cons,List.take_zero,List.drop_succ_cons,List.drop_zero];change wpStill _ _ wc.drew _ _ _
    repeat still_step
    refine wpStill_nil ?_;change wpList _ _ _ _ _ wc.drew
    go_upto_region 9 with fail
    have ca:Blk (wc.setCell ⟨g,2,none⟩ (.int .u64 (c1.toNat:Int))).drew g 219 (DU V0):=by rw[EV.o];exact Blk.set M.o 2 (wv c1)
    have ck:Below B w (wc.setCell ⟨g,2,none⟩ (.int .u64 (c1.toNat:Int))).drew:=below_drewN (AS aw.o Z.o _) 1;generalize (wc.setCell ⟨g,2,none⟩ (.int .u64 (c1.toNat:Int))).drew=v2 at ca ck⊢;have cp:=I ca;clear ca;have cy:=I ck;clear ck;clear k2 fz x0 M aw bn HB HW
    go_wp2_with fail
    go_loopw [9] (fun iv wr=>∃i:Nat,i<=4/\iv=.int .i64 (i:Int)/\Below B w wr/\Blk wr g 219 (DU (rnds i V0))) (fun iv _=>4 - (intOf iv).toNat)
    case atStart=>exact⟨0,by decide,rfl,cy.o,cp.o⟩
    case round=>
     obtain⟨i,hi,rfl,cL,ea⟩:=hrel;clear cp cy;have cm:=I ea;clear ea;have cx:=I cL;clear cL
     by_cases hi4:i=4
     ·subst hi4
      have av:=cm.o;rw[<-E2.o] at av;have k0:wr.cell? ⟨g,0,none⟩=some (.int .u64 (a2.toNat:Int)):=by rw[av.cell];rfl
      have k1:wr.cell? ⟨g,1,none⟩=some (.int .u64 (b2.toNat:Int)):=by rw[av.cell];rfl
      have k2:wr.cell? ⟨g,2,none⟩=some (.int .u64 (c2.toNat:Int)):=by rw[av.cell];rfl
      have k3:wr.cell? ⟨g,3,none⟩=some (.int .u64 (d2.toNat:Int)):=by rw[av.cell];rfl
      have x1:=ew.o;have x2:=eo.o;have x3:=et.o;clear av
      go_upto_region 13 with fail
      refine wp_region_still_lit (by kernel_rfl) (by kernel_rfl) ?_;change wpStill _ _ wr.drew _ _ _
      repeat still_step
      refine wpStill_nil ?_
      try change _ wr.drew
      go_wp2_with fail
      go_ret;exact⟨by rw[cZ.o];rfl,by rw[<-EB.o];exact below_drewN cx.o 1⟩
     ·have j1:(i:Int)<4:=by omega
      have j2:(0:Int)<=(i:Int):=by omega
      have cr:=PI g (rnds i V0) wr cm.o;have bn:=I (Blk.lt cm.o);have ev:=I hi4;clear hi4
      go_wp2_with (go_at_call 111;refine Aj cr ?_;rintro v4 ⟨cM,cu⟩;clear cr;have ej:=I cM;have er:=I cu;clear cM cu)
      go_roundw
      case rel=>exact⟨i+1,by have:=ev.o;omega,by go_num,Az cx.o er.o (by have:=bn.o;have:=Z.o;omega) Z.o,ej.o⟩
      case measure=>simp [intOf];omega
  ·have t1:(8:Int)<=(n:Int) - (u:Int):=by omega
   exact absurd H0.o (by omega)
theorem WH (ks:Nat->UInt8) (A:Option Addr) (n c:Nat) (l:List UInt8) (w:World) (M:n=l.length) (O:n<=100000) (hc:n<=c) (hm:c<=maxLen) (Z:Rd w w.heap.size A (bvs l)) :
  Calls Tryz.prog 78 #[.agg (AR ks),.slice A n c] w fun e w'=>e=.returned (wv (Ia ks l))/\Below w.heap.size w w':=by
 cases A with
 |some x=>exact TC ks x n c l w M O hc hm Z
 |none=>
  refine TD ks n c l w M O hc hm ?_;rcases Z with h | ⟨b,o,h1,_,_⟩
  ·rw[M,List.map_eq_nil_iff.1 h];rfl
  ·cases h1
theorem Cp:(Tryz.prog.info? 5).map (fun i=>(i.zero,i.size,i.bytes))=some (some (.int .u8 0),1,1):=by kernel_rfl
theorem Hc (w:World) (t:TypeId) (cs:Array Value) (l:List Value) (h:cs.toList=l) (N:Nat) (M:w.heap.size=N):Rd (w.alloc (.cells cs t)) (N+1) (some ⟨N,0,none⟩) l:=by
 subst M;refine .inr ⟨w.heap.size,0,rfl,by omega,fun i u hu=>?_⟩;rw[Nat.zero_add,(Blk.new w t cs).cell i];rw[<-h] at hu
 simpa using hu
theorem Fe {w w':World} {base:Nat} {t:TypeId} {v:Value} {n:Nat} {xs:List Value} {o:Obj} (h:w.ownsRow base t 1 v n xs) (e:w'.heap=w.heap.push o):w'.ownsRow base t 1 v n xs:=by
 obtain⟨Z,h | ⟨g,cap,cur,hv,hg,M,hr⟩⟩:=h
 ·exact⟨Z,.inl h⟩
 ·refine⟨Z,.inr ⟨g,cap,cur,hv,hg,?_,hr⟩⟩
  have O:=Blk.lt (t:=t) (cs:=cur) M;rw[e,Array.getElem?_push_lt O,<-Array.getElem?_eq_getElem O];exact M
theorem QU {w:World} (t:TypeId) (M:List Value) (rows:List (List UInt8)) (cs:Array Value) (hc:cs.toList=M) (Z:M.length=rows.length)
  (h:∀i (h:i<rows.length),∃(O:Option Addr) (ci:Nat),M[i]? = some (.slice O (rows[i]).length ci)/\Rd w w.heap.size O (bvs rows[i])):Rows (w.alloc (.cells cs t)) (w.alloc (.cells cs t)).heap.size (some ⟨w.heap.size,0,none⟩) rows:=by
 refine⟨M,Z,(Hc w t cs M hc w.heap.size rfl).more (by simp),fun i hi=>?_⟩;obtain⟨O,ci,h1,h2⟩:=h i hi;exact⟨O,ci,h1,(h2.alloc Ag _).more (by simp)⟩
end Si
end Go.Proofs.YtiecjolmennkfaaGreat
