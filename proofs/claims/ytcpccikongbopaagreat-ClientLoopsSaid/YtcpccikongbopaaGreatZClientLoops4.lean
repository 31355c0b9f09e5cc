import Derived.Test.YtcpccikongbopaaGreatZClientLoops1
set_option maxHeartbeats 25600000
set_option maxRecDepth 100000
set_option linter.unusedVariables false
set_option linter.unusedSimpArgs false
namespace Go.Proofs.YtcpccikongbopaaGreat
namespace Si
open Go.RowKit Ae
abbrev Wd:=BitVec 64
def rot (v:Wd) (s:Nat):Wd:=(v <<< s) ||| (v >>> (64 - s))
abbrev wv (v:Wd):Value:=.int .u64 (v.toNat:Int)
def wd (n:Nat):Wd:=BitVec.ofNat 64 n
theorem FZ (v:Wd):v.toNat<18446744073709551616:=v.isLt
theorem Jl (n:Nat) (h:n<18446744073709551616):(wd n).toNat=n:=by
 rw[wd,BitVec.toNat_ofNat];exact Nat.mod_eq_of_lt h
theorem BH (x y:Wd):bits .xor .u64 (x.toNat:Int) (y.toNat:Int)=((x ^^^ y).toNat:Int):=by
 rw[u64_xor_nat _ _ x.isLt y.isLt,BitVec.toNat_xor]
theorem FO (x y:Wd):((x.toNat:Int)+(y.toNat:Int)) % 18446744073709551616=((x+y).toNat:Int):=by
 rw[BitVec.toNat_add];omega
theorem Ht (x y:Wd):IntKind.u64.wrap ((x.toNat:Int)+(y.toNat:Int))=((x+y).toNat:Int):=by
 rw[IntKind.wrap_u64,FO]
theorem JI (v:Wd) (s:Nat):(rot v s).toNat=(v.toNat*2 ^ s % 18446744073709551616) ||| (v.toNat / 2 ^ (64 - s)):=by
 simp [rot,BitVec.toNat_or,BitVec.toNat_shiftLeft,BitVec.toNat_ushiftRight,Nat.shiftLeft_eq,Nat.shiftRight_eq_div_pow]
theorem Hr (v:Wd) (a b:Nat) (s:Nat) (M:a=v.toNat*2 ^ s % 18446744073709551616) (O:b=v.toNat / 2 ^ (64 - s)):bits .or .u64 (a:Int) (b:Int)=((rot v s).toNat:Int):=by
 rw[u64_or_nat a b (by omega) (by have:=FZ v;have:=Nat.div_le_self v.toNat (2 ^ (64 - s));omega),JI,M,O]
theorem or13 (v:Wd):bits .or .u64 ((v.toNat:Int)*8192 % 18446744073709551616) ((v.toNat:Int) / 2251799813685248)=((rot v 13).toNat:Int):=Hr v _ _ 13 rfl rfl
theorem or32 (v:Wd):bits .or .u64 ((v.toNat:Int)*4294967296 % 18446744073709551616) ((v.toNat:Int) / 4294967296)=((rot v 32).toNat:Int):=Hr v _ _ 32 rfl rfl
theorem or16 (v:Wd):bits .or .u64 ((v.toNat:Int)*65536 % 18446744073709551616) ((v.toNat:Int) / 281474976710656)=((rot v 16).toNat:Int):=Hr v _ _ 16 rfl rfl
theorem or21 (v:Wd):bits .or .u64 ((v.toNat:Int)*2097152 % 18446744073709551616) ((v.toNat:Int) / 8796093022208)=((rot v 21).toNat:Int):=Hr v _ _ 21 rfl rfl
theorem or17 (v:Wd):bits .or .u64 ((v.toNat:Int)*131072 % 18446744073709551616) ((v.toNat:Int) / 140737488355328)=((rot v 17).toNat:Int):=Hr v _ _ 17 rfl rfl
def BS:List UInt8->Nat
 | []=>0
 |b :: l=>b.toNat+256*BS l
theorem Gx:∀l,BS l<256 ^ l.length
 | []=>by simp [BS]
 |b :: l=>by
  have h:=Gx l;have M:=b.toNat_lt;rw[BS,List.length_cons,Nat.pow_succ];omega
theorem GX (b:UInt8):∀l,BS (l++[b])=BS l+b.toNat*256 ^ l.length
 | []=>by simp [BS]
 |c :: l=>by
  rw[List.cons_append,BS,GX b l,BS,List.length_cons,Nat.pow_succ,Nat.mul_add,Nat.add_assoc]
  congr 2
  rw[Nat.mul_comm,Nat.mul_assoc]
theorem JM {l:List UInt8} (h:l.length<=8):BS l<18446744073709551616:=
 Nat.lt_of_lt_of_le (Gx l) (Nat.pow_le_pow_right (by decide) h:256 ^ l.length<=256 ^ 8)
theorem PK {l:List UInt8} (h:l.length<=7):BS l<72057594037927936:=
 Nat.lt_of_lt_of_le (Gx l) (Nat.pow_le_pow_right (by decide) h:256 ^ l.length<=256 ^ 7)
structure V where
 a:Wd
 b:Wd
 c:Wd
 d:Wd
def rnd (s:V):V:=
 let a1:=s.a+s.b
 let b1:=rot s.b 13 ^^^ a1
 let a2:=rot a1 32
 let c1:=s.c+s.d
 let d1:=rot s.d 16 ^^^ c1
 let a3:=a2+d1
 let d2:=rot d1 21 ^^^ a3
 let c2:=c1+b1
 let b2:=rot b1 17 ^^^ c2
 let c3:=rot c2 32
 ⟨a3,b2,c3,d2⟩
def rnds:Nat->V->V
 |0,s=>s
 |n+1,s=>rnd (rnds n s)
def addM (s:V) (m:Wd):V:=⟨(rnds 2 ⟨s.a,s.b,s.c,s.d ^^^ m⟩).a ^^^ m,(rnds 2 ⟨s.a,s.b,s.c,s.d ^^^ m⟩).b,(rnds 2 ⟨s.a,s.b,s.c,s.d ^^^ m⟩).c,(rnds 2 ⟨s.a,s.b,s.c,s.d ^^^ m⟩).d⟩
def allX (s:V):Wd:=s.a ^^^ s.b ^^^ s.c ^^^ s.d
def fin (s:V):Wd:=allX (rnds 4 ⟨s.a,s.b,s.c ^^^ 255#64,s.d⟩)
def kA (ks:Nat->UInt8):Wd:=wd (BS ((List.range 8).map ks))
def kB (ks:Nat->UInt8):Wd:=wd (BS ((List.range 8).map fun i=>ks (8+i)))
def start (ks:Nat->UInt8):V:=⟨0x736f6d6570736575#64 ^^^ kA ks,0x646f72616e646f6d#64 ^^^ kB ks,0x6c7967656e657261#64 ^^^ kA ks,0x7465646279746573#64 ^^^ kB ks⟩
structure St where
 v:V
 r:Nat
 n:Nat
def addB (s:St) (b:UInt8):St:=
 if (s.n+1) % 8=0 then ⟨addM s.v (wd (s.r+b.toNat*256 ^ (s.n % 8))),0,s.n+1⟩ else ⟨s.v,s.r+b.toNat*256 ^ (s.n % 8),s.n+1⟩
theorem ML (s:St) (b:UInt8) (h:(s.n+1) % 8=0):addB s b=⟨addM s.v (wd (s.r+b.toNat*256 ^ (s.n % 8))),0,s.n+1⟩:=if_pos h
theorem PL (s:St) (b:UInt8) (h:¬(s.n+1) % 8=0):addB s b=⟨s.v,s.r+b.toNat*256 ^ (s.n % 8),s.n+1⟩:=if_neg h
def stOf (ks:Nat->UInt8) (l:List UInt8):St:=l.foldl addB ⟨start ks,0,0⟩
def Oa (s:St):Wd:=wd (s.r+s.n % 256*72057594037927936)
def finS (s:St):Wd:=fin (addM s.v (Oa s))
def GY (ks:Nat->UInt8) (l:List UInt8):Wd:=finS (stOf ks l)
theorem KA (ks:Nat->UInt8) (l:List UInt8) (b:UInt8):stOf ks (l++[b])=addB (stOf ks l) b:=by simp [stOf]
def full (ks:Nat->UInt8) (p:List UInt8):Nat->V
 |0=>start ks
 |j+1=>addM (full ks p j) (wd (BS ((p.drop (8*j)).take 8)))
theorem KC (ks:Nat->UInt8) (p:List UInt8):∀n,n<=p.length->stOf ks (p.take n)=⟨full ks p (n / 8),BS ((p.take n).drop (8*(n / 8))),n⟩
 |0,_=>by simp [stOf,full,BS]
 |n+1,h=>by
  have ih:=KC ks p n (by omega);have O:n<p.length:=by omega
  have Y:p.take (n+1)=p.take n++[p[n]]:=by rw[List.take_succ_eq_append_getElem O]
  have el:((p.take n).drop (8*(n / 8))).length=n % 8:=by rw[List.length_drop,List.length_take];omega
  have ew:(p.take (n+1)).drop (8*(n / 8))=(p.take n).drop (8*(n / 8))++[p[n]]:=by
   rw[Y,List.drop_append_of_le_length (by rw[List.length_take];omega)]
  have X:BS ((p.take (n+1)).drop (8*(n / 8)))=BS ((p.take n).drop (8*(n / 8)))+p[n].toNat*256 ^ (n % 8):=by rw[ew,GX,el]
  have e0:stOf ks (p.take (n+1))=addB (stOf ks (p.take n)) p[n]:=by rw[Y,KA]
  have ez:(p.take (n+1)).drop (n+1) = []:=List.drop_of_length_le (by rw[List.length_take];omega);rw[e0,ih]
  by_cases h8:(n+1) % 8=0
  ·have M:(n+1) / 8=n / 8+1:=by omega
   have hm:8*((n+1) / 8)=n+1:=by omega
   have Z:(p.take (n+1)).drop (8*(n / 8))=(p.drop (8*(n / 8))).take 8:=by rw[List.drop_take,show n+1 - 8*(n / 8)=8 by omega]
   rw[ML _ _ h8,<-X,hm,ez,M,full,Z];simp only[BS]
  ·have M:(n+1) / 8=n / 8:=by omega
   rw[PL _ _ h8,M,X]
theorem FF (ks:Nat->UInt8) (p:List UInt8):stOf ks p=⟨full ks p (p.length / 8),BS (p.drop (8*(p.length / 8))),p.length⟩:=by
 have h:=KC ks p p.length Af
 rwa [List.take_length] at h
theorem Xj (ks:Nat->UInt8) (p:List UInt8):(stOf ks p).n=p.length:=by rw[FF]
theorem Uu (ks:Nat->UInt8) (p:List UInt8):(stOf ks p).r<256 ^ ((stOf ks p).n % 8):=by
 rw[FF];have h:=Gx (p.drop (8*(p.length / 8)));rw[List.length_drop] at h
 rwa [show p.length - 8*(p.length / 8)=p.length % 8 by omega] at h
theorem SF (k:Nat) (h:k<=7):256 ^ k<=72057594037927936:=(Nat.pow_le_pow_right (by decide) h:256 ^ k<=256 ^ 7)
theorem KD (r b k:Nat) (M:r<256 ^ k):r ||| b*256 ^ k=r+b*256 ^ k:=by
 have e:(256:Nat) ^ k=2 ^ (8*k):=by rw[Nat.pow_mul]
 rw[e] at M⊢;have h:=Nat.shiftLeft_add_eq_or_of_lt M b;rw[Nat.shiftLeft_eq] at h;rw[Nat.or_comm,<-h,Nat.add_comm]
theorem MM (r:Nat) (b:UInt8) (k:Nat) (M:r<256 ^ k):r+b.toNat*256 ^ k<256 ^ (k+1):=by
 have O:=b.toNat_lt;rw[Nat.pow_succ];have:b.toNat*256 ^ k<=255*256 ^ k:=Nat.mul_le_mul_right _ (by omega);omega
theorem JN (r:Nat) (b:UInt8) (k:Nat) (hk:k<=7) (M:r<256 ^ k) (X:Int) (O:X=((b.toNat*256 ^ k:Nat):Int)):bits .or .u64 (r:Int) X=((r+b.toNat*256 ^ k:Nat):Int):=by
 have hp:=SF k hk;have hl:=MM r b k M;have Z:(256:Nat) ^ (k+1)<=256 ^ 8:=Nat.pow_le_pow_right (by decide) (by omega);have Y:(256:Nat) ^ 8=18446744073709551616:=by decide
 rw[O,u64_or_nat _ _ (by omega) (by omega),KD r _ k M]
theorem MN (r n:Nat) (O:r<72057594037927936):bits .or .u64 (r:Int) ((n:Int)*72057594037927936 % 18446744073709551616)=((r+n % 256*72057594037927936:Nat):Int):=by
 have e:(n:Int)*72057594037927936 % 18446744073709551616=((n % 256*256 ^ 7:Nat):Int):=by
  have:(256:Nat) ^ 7=72057594037927936:=by decide
  rw[this];omega
 have M:(UInt8.ofNat (n % 256)).toNat=n % 256:=by simp
 have h:=JN r (UInt8.ofNat (n % 256)) 7 (by decide) O ((n:Int)*72057594037927936 % 18446744073709551616) (by rw[e,M]);rw[h,M]
theorem Xk (v:Wd) (w:World):Calls Tryz.prog 227 #[wv v,.int .i64 13] w fun e w'=>e=.returned (wv (rot v 13))/\w'=w:=by
 have hand:bits .and .u64 13 63=13:=by kernel_rfl
 have M:=or13 v;rw[<-IntKind.wrap_u64] at M;go_enter Tryz.func227,Tryz.ntmps227
 go_wp2
 go_ret;exact⟨rfl,rfl⟩
theorem Uv (v:Wd) (w:World):Calls Tryz.prog 227 #[wv v,.int .i64 32] w fun e w'=>e=.returned (wv (rot v 32))/\w'=w:=by
 have hand:bits .and .u64 32 63=32:=by kernel_rfl
 have M:=or32 v;rw[<-IntKind.wrap_u64] at M;go_enter Tryz.func227,Tryz.ntmps227
 go_wp2
 go_ret;exact⟨rfl,rfl⟩
theorem Xl (v:Wd) (w:World):Calls Tryz.prog 227 #[wv v,.int .i64 16] w fun e w'=>e=.returned (wv (rot v 16))/\w'=w:=by
 have hand:bits .and .u64 16 63=16:=by kernel_rfl
 have M:=or16 v;rw[<-IntKind.wrap_u64] at M;go_enter Tryz.func227,Tryz.ntmps227
 go_wp2
 go_ret;exact⟨rfl,rfl⟩
theorem Xm (v:Wd) (w:World):Calls Tryz.prog 227 #[wv v,.int .i64 21] w fun e w'=>e=.returned (wv (rot v 21))/\w'=w:=by
 have hand:bits .and .u64 21 63=21:=by kernel_rfl
 have M:=or21 v;rw[<-IntKind.wrap_u64] at M;go_enter Tryz.func227,Tryz.ntmps227
 go_wp2
 go_ret;exact⟨rfl,rfl⟩
theorem Xn (v:Wd) (w:World):Calls Tryz.prog 227 #[wv v,.int .i64 17] w fun e w'=>e=.returned (wv (rot v 17))/\w'=w:=by
 have hand:bits .and .u64 17 63=17:=by kernel_rfl
 have M:=or17 v;rw[<-IntKind.wrap_u64] at M;go_enter Tryz.func227,Tryz.ntmps227
 go_wp2
 go_ret;exact⟨rfl,rfl⟩
theorem VA (v:Wd) (w:World):Calls Tryz.prog 171 #[wv v,.int .u64 13] w fun e w'=>e=.returned (wv (rot v 13))/\w'=w:=by
 have M:=or13 v;rw[<-IntKind.wrap_u64] at M;go_enter Tryz.func171,Tryz.ntmps171
 go_wp2
 go_ret;exact⟨rfl,rfl⟩
theorem PM (v:Wd) (w:World):Calls Tryz.prog 171 #[wv v,.int .u64 32] w fun e w'=>e=.returned (wv (rot v 32))/\w'=w:=by
 have M:=or32 v;rw[<-IntKind.wrap_u64] at M;go_enter Tryz.func171,Tryz.ntmps171
 go_wp2
 go_ret;exact⟨rfl,rfl⟩
theorem VB (v:Wd) (w:World):Calls Tryz.prog 171 #[wv v,.int .u64 16] w fun e w'=>e=.returned (wv (rot v 16))/\w'=w:=by
 have M:=or16 v;rw[<-IntKind.wrap_u64] at M;go_enter Tryz.func171,Tryz.ntmps171
 go_wp2
 go_ret;exact⟨rfl,rfl⟩
theorem VC (v:Wd) (w:World):Calls Tryz.prog 171 #[wv v,.int .u64 21] w fun e w'=>e=.returned (wv (rot v 21))/\w'=w:=by
 have M:=or21 v;rw[<-IntKind.wrap_u64] at M;go_enter Tryz.func171,Tryz.ntmps171
 go_wp2
 go_ret;exact⟨rfl,rfl⟩
theorem VD (v:Wd) (w:World):Calls Tryz.prog 171 #[wv v,.int .u64 17] w fun e w'=>e=.returned (wv (rot v 17))/\w'=w:=by
 have M:=or17 v;rw[<-IntKind.wrap_u64] at M;go_enter Tryz.func171,Tryz.ntmps171
 go_wp2
 go_ret;exact⟨rfl,rfl⟩
theorem VE (M:Nat) (b:UInt8) (X:M<72057594037927936):bits .or .u64 ((M:Int)*256) (b.toNat:Int)=((b.toNat+256*M:Nat):Int):=by
 have O:=b.toNat_lt;have e:(M:Int)*256=((M*256:Nat):Int):=by omega
 rw[e,u64_or_nat _ _ (by omega) (by omega)];have h:=nat_join 8 (M*256) b.toNat (by omega) (by omega);rw[h];omega
theorem LD (A:Option Addr) (n c:Nat) (l:List UInt8) (w:World) (B:Nat) (hn:n=l.length) (h8:n<=8) (hr:Rd w B A (bvs l)) :
  Calls Tryz.prog 131 #[.slice A n c] w fun e w'=>e=.returned (wv (wd (BS l)))/\w'=w:=by
 have HR:=I hr;clear hr;have HN:=I hn;clear hn;have H8:=I h8;clear h8;have e8:(n:Int)<=8:=by have:=H8.o;omega
 go_enter Tryz.func131,Tryz.ntmps131
 go_wp2_with fail
 go_loop [3,4] (fun mv iv=>∃j:Nat,j<=n/\iv=.int .i64 ((j:Int) - 1)/\mv=.int .u64 (BS (l.drop j):Nat)) (fun _ iv=>(intOf iv+1).toNat)
 case atStart=>exact⟨n,Nat.le_refl _,by go_num,by rw[List.drop_of_length_le (by have:=HN.o;omega)];rfl⟩
 case round=>
  obtain⟨j,hj,rfl,rfl⟩:=hrel;cases j with
  |zero=>
   have e:(BS l:Int)=((wd (BS l)).toNat:Int):=by rw[Jl _ (JM (by have:=HN.o;have:=H8.o;omega))]
   rw[List.drop_zero];obtain⟨x,ex⟩:=Aj (BS l);rw[<-ex] at e⊢;have E:=I e;clear e;have EX:=I ex;clear ex
   go_wp2_with fail
   go_ret;exact⟨by rw[wv,<-EX.o];simp [E.o],rfl⟩
  |succ j=>
   have hc:((j+1:Nat):Int) - 1=(j:Int):=by omega
   rw[hc];have X:j<l.length:=by have:=HN.o;omega
   have hr:=HR.o;obtain⟨b,o,rfl,ad,O⟩:=hr.at_ (DT X);have Y:w.cell? ⟨b,o+j,none⟩=some (.int .u8 ((l[j]).toNat:Int)):=O;clear O;obtain⟨y,ey⟩:=Aj (l[j]);rw[<-ey] at Y;obtain⟨M,eM⟩:=Aj (BS (l.drop (j+1)));rw[<-eM];have hM:M<72057594037927936:=by rw[eM];exact PK (by rw[List.length_drop];have:=HN.o;have:=H8.o;omega)
   have e2:y.toNat+256*M=BS (l.drop j):=by rw[eM,ey,List.drop_eq_getElem_cons X,BS]
   have hx:=VE M y hM;rw[e2] at hx;obtain⟨M2,Z⟩:∃M,M=BS (l.drop j):=⟨_,rfl⟩;rw[<-Z] at hx;have aa:=I Z;have e3:(0:Int)<=(j:Int):=by omega
   have e4:(j:Int)<(n:Int):=by omega
   have e5:j<n:=by omega
   have e7:(j:Int)<8:=by omega
   have hy:IntKind.u64.wrap (y.toNat:Int)=(y.toNat:Int):=by rw[IntKind.wrap_u64];have:=y.toNat_lt;omega
   have HJ:=I hj;have ab:=I X;clear hj X hr eM e2 ey Z
   go_wp2_with fail
   go_round
   case rel=>exact⟨j,by omega,by go_num,by rw[aa.o]⟩
   case measure=>simp [intOf]
def key8 (f:Nat->UInt8):Array Value:=#[.int .u8 (f 0).toNat,.int .u8 (f 1).toNat,.int .u8 (f 2).toNat,.int .u8 (f 3).toNat,.int .u8 (f 4).toNat,.int .u8 (f 5).toNat,.int .u8 (f 6).toNat,.int .u8 (f 7).toNat]
def GZ (f:Nat->UInt8) (i:Nat):Nat:=BS ((List.range i).map f)
theorem Ob (f:Nat->UInt8) (i:Nat):GZ f (i+1)=GZ f i+(f i).toNat*256 ^ i:=by
 unfold GZ;rw[List.range_succ,List.map_append,List.map_singleton,GX];simp
theorem SG (f:Nat->UInt8) (i:Nat):GZ f i<256 ^ i:=by
 have:=Gx ((List.range i).map f)
 simpa [GZ] using this
theorem or_at (f:Nat->UInt8) (i:Nat) (K:Int) (M:i<=7) (X:K=((256 ^ i:Nat):Int)):bits .or .u64 (GZ f i:Nat) (IntKind.u64.wrap (((f i).toNat:Int)*K))=(GZ f (i+1):Nat):=by
 rw[Ob];refine JN _ _ i M (SG f i) _ ?_;have O:=SF i M;have Y:=(f i).toNat_lt;have Z:(f i).toNat*256 ^ i<=255*72057594037927936:=Nat.mul_le_mul (by omega) O;rw[X,IntKind.wrap_u64,<-Int.natCast_mul];omega
theorem Du (f:Nat->UInt8) (w:World) :
  Calls Tryz.prog 215 #[.agg (key8 f)] w fun e w'=>e=.returned (wv (wd (GZ f 8)))/\Below w.heap.size w w':=by
 unfold key8;go_enter Tryz.func215,Tryz.ntmps215
 go_wp2_with fail
 go_loop [3,7] (fun mv iv=>∃j:Nat,j<=8/\iv=.int .i64 (j:Int)/\mv=.int .u64 (GZ f j:Nat)) (fun _ iv=>8 - (intOf iv).toNat)
 case atStart=>exact⟨0,by decide,rfl,rfl⟩
 case round=>
  obtain⟨j,hj,rfl,rfl⟩:=hrel;obtain⟨M,eM⟩:=Aj (GZ f j);obtain⟨M2,aa⟩:∃M,M=GZ f (j+1):=⟨_,rfl⟩;have O:∀K:Int,j<=7->K=((256 ^ j:Nat):Int)->bits .or .u64 (M:Int) (IntKind.u64.wrap (((f j).toNat:Int)*K))=(M2:Int):=fun K h1 h2=>by rw[eM,aa];exact or_at f j K h1 h2
  rw[<-eM];have EM:=I eM;clear eM;have X:=I aa;clear aa;have hs:j=0\/j=1\/j=2\/j=3\/j=4\/j=5\/j=6\/j=7\/j=8:=by omega
  clear hj;rcases hs with rfl | rfl | rfl | rfl | rfl | rfl | rfl | rfl | rfl
  ·have O:=O 1 (by decide) (by decide)
   have Y:IntKind.u64.wrap ((f 0).toNat:Int)=((f 0).toNat:Int):=by rw[IntKind.wrap_u64];have:=(f 0).toNat_lt;omega
   rw[Int.mul_one,Y] at O;have Z:∀w:World,(Instr.index 290 (.agg #[.int .u8 (f 0).toNat,.int .u8 (f 1).toNat,.int .u8 (f 2).toNat,.int .u8 (f 3).toNat,.int .u8 (f 4).toNat,.int .u8 (f 5).toNat,.int .u8 (f 6).toNat,.int .u8 (f 7).toNat]) (.int .i64 0)).run Tryz.prog w=.ok (.int .u8 (f 0).toNat) w:=fun _=>by kernel_rfl
   go_wp2_with fail
   go_round
   case rel=>exact⟨1,by decide,by go_num,by rw[X.o]⟩
   case measure=>simp [intOf]
  ·have O:=O 256 (by decide) (by decide)
   have Y:IntKind.u64.wrap ((f 1).toNat:Int)=((f 1).toNat:Int):=by rw[IntKind.wrap_u64];have:=(f 1).toNat_lt;omega
   have Z:∀w:World,(Instr.index 290 (.agg #[.int .u8 (f 0).toNat,.int .u8 (f 1).toNat,.int .u8 (f 2).toNat,.int .u8 (f 3).toNat,.int .u8 (f 4).toNat,.int .u8 (f 5).toNat,.int .u8 (f 6).toNat,.int .u8 (f 7).toNat]) (.int .i64 1)).run Tryz.prog w=.ok (.int .u8 (f 1).toNat) w:=fun _=>by kernel_rfl
   go_wp2_with fail
   go_round
   case rel=>exact⟨2,by decide,by go_num,by rw[X.o]⟩
   case measure=>simp [intOf]
  ·have O:=O 65536 (by decide) (by decide)
   have Y:IntKind.u64.wrap ((f 2).toNat:Int)=((f 2).toNat:Int):=by rw[IntKind.wrap_u64];have:=(f 2).toNat_lt;omega
   have Z:∀w:World,(Instr.index 290 (.agg #[.int .u8 (f 0).toNat,.int .u8 (f 1).toNat,.int .u8 (f 2).toNat,.int .u8 (f 3).toNat,.int .u8 (f 4).toNat,.int .u8 (f 5).toNat,.int .u8 (f 6).toNat,.int .u8 (f 7).toNat]) (.int .i64 2)).run Tryz.prog w=.ok (.int .u8 (f 2).toNat) w:=fun _=>by kernel_rfl
   go_wp2_with fail
   go_round
   case rel=>exact⟨3,by decide,by go_num,by rw[X.o]⟩
   case measure=>simp [intOf]
  ·have O:=O 16777216 (by decide) (by decide)
   have Y:IntKind.u64.wrap ((f 3).toNat:Int)=((f 3).toNat:Int):=by rw[IntKind.wrap_u64];have:=(f 3).toNat_lt;omega
   have Z:∀w:World,(Instr.index 290 (.agg #[.int .u8 (f 0).toNat,.int .u8 (f 1).toNat,.int .u8 (f 2).toNat,.int .u8 (f 3).toNat,.int .u8 (f 4).toNat,.int .u8 (f 5).toNat,.int .u8 (f 6).toNat,.int .u8 (f 7).toNat]) (.int .i64 3)).run Tryz.prog w=.ok (.int .u8 (f 3).toNat) w:=fun _=>by kernel_rfl
   go_wp2_with fail
   go_round
   case rel=>exact⟨4,by decide,by go_num,by rw[X.o]⟩
   case measure=>simp [intOf]
  ·have O:=O 4294967296 (by decide) (by decide)
   have Y:IntKind.u64.wrap ((f 4).toNat:Int)=((f 4).toNat:Int):=by rw[IntKind.wrap_u64];have:=(f 4).toNat_lt;omega
   have Z:∀w:World,(Instr.index 290 (.agg #[.int .u8 (f 0).toNat,.int .u8 (f 1).toNat,.int .u8 (f 2).toNat,.int .u8 (f 3).toNat,.int .u8 (f 4).toNat,.int .u8 (f 5).toNat,.int .u8 (f 6).toNat,.int .u8 (f 7).toNat]) (.int .i64 4)).run Tryz.prog w=.ok (.int .u8 (f 4).toNat) w:=fun _=>by kernel_rfl
   go_wp2_with fail
   go_round
   case rel=>exact⟨5,by decide,by go_num,by rw[X.o]⟩
   case measure=>simp [intOf]
  ·have O:=O 1099511627776 (by decide) (by decide)
   have Y:IntKind.u64.wrap ((f 5).toNat:Int)=((f 5).toNat:Int):=by rw[IntKind.wrap_u64];have:=(f 5).toNat_lt;omega
   have Z:∀w:World,(Instr.index 290 (.agg #[.int .u8 (f 0).toNat,.int .u8 (f 1).toNat,.int .u8 (f 2).toNat,.int .u8 (f 3).toNat,.int .u8 (f 4).toNat,.int .u8 (f 5).toNat,.int .u8 (f 6).toNat,.int .u8 (f 7).toNat]) (.int .i64 5)).run Tryz.prog w=.ok (.int .u8 (f 5).toNat) w:=fun _=>by kernel_rfl
   go_wp2_with fail
   go_round
   case rel=>exact⟨6,by decide,by go_num,by rw[X.o]⟩
   case measure=>simp [intOf]
  ·have O:=O 281474976710656 (by decide) (by decide)
   have Y:IntKind.u64.wrap ((f 6).toNat:Int)=((f 6).toNat:Int):=by rw[IntKind.wrap_u64];have:=(f 6).toNat_lt;omega
   have Z:∀w:World,(Instr.index 290 (.agg #[.int .u8 (f 0).toNat,.int .u8 (f 1).toNat,.int .u8 (f 2).toNat,.int .u8 (f 3).toNat,.int .u8 (f 4).toNat,.int .u8 (f 5).toNat,.int .u8 (f 6).toNat,.int .u8 (f 7).toNat]) (.int .i64 6)).run Tryz.prog w=.ok (.int .u8 (f 6).toNat) w:=fun _=>by kernel_rfl
   go_wp2_with fail
   go_round
   case rel=>exact⟨7,by decide,by go_num,by rw[X.o]⟩
   case measure=>simp [intOf]
  ·have O:=O 72057594037927936 (by decide) (by decide)
   have Y:IntKind.u64.wrap ((f 7).toNat:Int)=((f 7).toNat:Int):=by rw[IntKind.wrap_u64];have:=(f 7).toNat_lt;omega
   have Z:∀w:World,(Instr.index 290 (.agg #[.int .u8 (f 0).toNat,.int .u8 (f 1).toNat,.int .u8 (f 2).toNat,.int .u8 (f 3).toNat,.int .u8 (f 4).toNat,.int .u8 (f 5).toNat,.int .u8 (f 6).toNat,.int .u8 (f 7).toNat]) (.int .i64 7)).run Tryz.prog w=.ok (.int .u8 (f 7).toNat) w:=fun _=>by kernel_rfl
   go_wp2_with fail
   go_round
   case rel=>exact⟨8,by decide,by go_num,by rw[X.o]⟩
   case measure=>simp [intOf]
  ·have O:=Jl (GZ f 8) (JM (by simp))
   have hz:M=(wd (GZ f 8)).toNat:=by rw[O];exact EM.o
   have HZ:=I hz;clear hz;clear O
   go_wp2_with fail
   go_ret;exact⟨by rw[wv,<-HZ.o];rfl,(Below.refl w.heap.size w).alloc Af _⟩
def IB (s:V) (R N:Value):Array Value:=#[wv s.a,wv s.b,wv s.c,wv s.d,R,N]
def DE (s:V):Array Value:=#[wv s.a,wv s.b,wv s.c,wv s.d]
theorem Jm (g n:Nat) (s:V) (R N:Value) (w:World) (hn:n<=4) (hB:Blk w g 274 (IB s R N)) :
  Calls Tryz.prog 217 #[.pointer (some ⟨g,0,none⟩),.int .i64 (n:Int)] w fun e w'=>e=.returned (.tuple #[])/\Blk w' g 274 (IB (rnds n s) R N)/\w.grownBy w' (some g):=by
 have HB:=I hB;clear hB;go_enter Tryz.func217,Tryz.ntmps217
 go_wp2_with fail
 go_loopw [5] (fun iv wr=>∃i:Nat,i<=n/\iv=.int .i64 (i:Int)/\Blk wr g 274 (IB (rnds i s) R N)/\w.grownBy wr (some g)) (fun iv _=>n - (intOf iv).toNat)
 case atStart=>exact⟨0,Nat.zero_le _,rfl,HB.o,World.grownBy.refl w _⟩
 case round=>
  obtain⟨i,hi,rfl,hB,hG⟩:=hrel
  by_cases hx:i=n
  ·subst hx
   have M:=I hB;clear hB;have ar:=I hG;clear hG
   go_wp2_with fail
   go_end0
   exact⟨rfl,M.o,ar.o⟩
  ·have cu:i<n:=by omega
   have e1:(i:Int)<(n:Int):=by omega
   have e2:(0:Int)<=(i:Int):=by omega
   have e3:(i:Int)<4:=by omega
   have HX:=I hx;clear hx;have HI:=I hi;clear hi;obtain⟨⟨a,b,c,d⟩,es⟩:∃t,t=rnds i s:=⟨_,rfl⟩;rw[<-es] at hB;have ES:=I es;clear es;have M:=I (show Blk wr g 274 #[wv a,wv b,wv c,wv d,R,N] from hB);clear hB;have ar:=I hG;clear hG
   go_upto_region 2 with fail
   obtain⟨a1,aj⟩:∃x,x=a+b:=⟨_,rfl⟩;obtain⟨q1,aU⟩:∃x,x=rot b 13:=⟨_,rfl⟩;obtain⟨b1,aD⟩:∃x,x=q1 ^^^ a1:=⟨_,rfl⟩;obtain⟨a2,aw⟩:∃x,x=rot a1 32:=⟨_,rfl⟩;obtain⟨c1,ai⟩:∃x,x=c+d:=⟨_,rfl⟩;obtain⟨q4,aB⟩:∃x,x=rot d 16:=⟨_,rfl⟩;obtain⟨d1,aC⟩:∃x,x=q4 ^^^ c1:=⟨_,rfl⟩;obtain⟨a3,ag⟩:∃x,x=a2+d1:=⟨_,rfl⟩;obtain⟨q6,aT⟩:∃x,x=rot d1 21:=⟨_,rfl⟩;obtain⟨d2,an⟩:∃x,x=q6 ^^^ a3:=⟨_,rfl⟩;obtain⟨c2,ah⟩:∃x,x=c1+b1:=⟨_,rfl⟩;obtain⟨q8,aN⟩:∃x,x=rot b1 17:=⟨_,rfl⟩;obtain⟨b2,aP⟩:∃x,x=q8 ^^^ c2:=⟨_,rfl⟩;obtain⟨c3,aQ⟩:∃x,x=rot c2 32:=⟨_,rfl⟩;have ak:rnd ⟨a,b,c,d⟩=⟨a3,b2,c3,d2⟩:=by subst aj aU aD aw ai aB aC ag aT an ah aN aP aQ;rfl
   have bJ:=I ak;clear ak;have x0:IntKind.u64.wrap ((a.toNat:Int)+(b.toNat:Int))=(a1.toNat:Int):=by rw[aj];exact Ht _ _
   have y0:((a.toNat:Int)+(b.toNat:Int)) % 18446744073709551616=(a1.toNat:Int):=by rw[aj];exact FO _ _
   have X0:=I x0;clear x0;have Y0:=I y0;clear y0;have x1:bits .xor .u64 (q1.toNat:Int) (a1.toNat:Int)=(b1.toNat:Int):=by rw[aD];exact BH _ _
   have X1:=I x1;clear x1;have l1:=Xk b;rw[<-aU] at l1;have l2:=Uv a1;rw[<-aw] at l2;have x3:IntKind.u64.wrap ((c.toNat:Int)+(d.toNat:Int))=(c1.toNat:Int):=by rw[ai];exact Ht _ _
   have y3:((c.toNat:Int)+(d.toNat:Int)) % 18446744073709551616=(c1.toNat:Int):=by rw[ai];exact FO _ _
   have X3:=I x3;clear x3;have Y3:=I y3;clear y3;have x4:bits .xor .u64 (q4.toNat:Int) (c1.toNat:Int)=(d1.toNat:Int):=by rw[aC];exact BH _ _
   have X4:=I x4;clear x4;have l4:=Xl d;rw[<-aB] at l4;have x5:IntKind.u64.wrap ((a2.toNat:Int)+(d1.toNat:Int))=(a3.toNat:Int):=by rw[ag];exact Ht _ _
   have y5:((a2.toNat:Int)+(d1.toNat:Int)) % 18446744073709551616=(a3.toNat:Int):=by rw[ag];exact FO _ _
   have X5:=I x5;clear x5;have Y5:=I y5;clear y5;have x6:bits .xor .u64 (q6.toNat:Int) (a3.toNat:Int)=(d2.toNat:Int):=by rw[an];exact BH _ _
   have X6:=I x6;clear x6;have l6:=Xm d1;rw[<-aT] at l6;have x7:IntKind.u64.wrap ((c1.toNat:Int)+(b1.toNat:Int))=(c2.toNat:Int):=by rw[ah];exact Ht _ _
   have y7:((c1.toNat:Int)+(b1.toNat:Int)) % 18446744073709551616=(c2.toNat:Int):=by rw[ah];exact FO _ _
   have X7:=I x7;clear x7;have Y7:=I y7;clear y7;have x8:bits .xor .u64 (q8.toNat:Int) (c2.toNat:Int)=(b2.toNat:Int):=by rw[aP];exact BH _ _
   have X8:=I x8;clear x8;have l8:=Xn b1;rw[<-aN] at l8;have l9:=Uv c2;rw[<-aQ] at l9;clear aj aU aD aw ai aB aC ag aT an ah aN aP aQ;have cp:=Blk.frozen M.o;have bh:wr.cell? ⟨g,0,none⟩=some (.int .u64 (a.toNat:Int)):=by rw[Blk.cell M.o];rfl
   have bW:wr.cell? ⟨g,1,none⟩=some (.int .u64 (b.toNat:Int)):=by rw[Blk.cell M.o];rfl
   have bA:wr.cell? ⟨g,2,none⟩=some (.int .u64 (c.toNat:Int)):=by rw[Blk.cell M.o];rfl
   have bX:wr.cell? ⟨g,3,none⟩=some (.int .u64 (d.toNat:Int)):=by rw[Blk.cell M.o];rfl
   have x0:=X0.o;have y0:=Y0.o;refine wp_region_still_tail 11 (by kernel_rfl) (by kernel_rfl) ?_;simp only[List.take_succ_cons,List.take_zero,List.drop_succ_cons,List.drop_zero];change wpStill _ _ wr.drew _ _ _
   repeat still_step
   refine wpStill_nil ?_;change wpList _ _ _ _ _ wr.drew
   go_upto_region 3 with fail
   have av:Blk (wr.setCell ⟨g,0,none⟩ (.int .u64 (a1.toNat:Int))).drew g 274 #[wv a1,wv b,wv c,wv d,R,N]:=Blk.set M.o 0 (wv a1);have aM:w.grownBy (wr.setCell ⟨g,0,none⟩ (.int .u64 (a1.toNat:Int))).drew (some g):=Bh (Ar ar.o (.inl rfl) _);generalize (wr.setCell ⟨g,0,none⟩ (.int .u64 (a1.toNat:Int))).drew=v1 at av aM⊢;clear cp bh bW bA bX x0 y0 X0 Y0;have O:=I av;clear av;have bK:=I aM;clear aM;have ct:=Blk.frozen O.o;have aX:v1.cell? ⟨g,0,none⟩=some (.int .u64 (a1.toNat:Int)):=by rw[Blk.cell O.o];rfl
   have ba:v1.cell? ⟨g,1,none⟩=some (.int .u64 (b.toNat:Int)):=by rw[Blk.cell O.o];rfl
   have bL:v1.cell? ⟨g,2,none⟩=some (.int .u64 (c.toNat:Int)):=by rw[Blk.cell O.o];rfl
   have bI:v1.cell? ⟨g,3,none⟩=some (.int .u64 (d.toNat:Int)):=by rw[Blk.cell O.o];rfl
   have x1:=X1.o;refine wp_region_still_tail 13 (by kernel_rfl) (by kernel_rfl) ?_;simp only[List.take_succ_cons,List.take_zero,List.drop_succ_cons,List.drop_zero];change wpStill _ _ v1.drew _ _ _
   repeat still_step
   still_call (l1 v1.drew)
   repeat still_step
   refine wpStill_nil ?_;change wpList _ _ _ _ _ v1.drew
   go_upto_region 4 with fail
   have aV:Blk (v1.setCell ⟨g,1,none⟩ (.int .u64 (b1.toNat:Int))).drew g 274 #[wv a1,wv b1,wv c,wv d,R,N]:=Blk.set O.o 1 (wv b1);have az:w.grownBy (v1.setCell ⟨g,1,none⟩ (.int .u64 (b1.toNat:Int))).drew (some g):=Bh (Ar bK.o (.inl rfl) _);generalize (v1.setCell ⟨g,1,none⟩ (.int .u64 (b1.toNat:Int))).drew=v2 at aV az⊢;clear ct aX ba bL bI x1 X1 l1;clear O bK;have ae:=I aV;clear aV;have bY:=I az;clear az;have cr:=Blk.frozen ae.o;have bq:v2.cell? ⟨g,0,none⟩=some (.int .u64 (a1.toNat:Int)):=by rw[Blk.cell ae.o];rfl
   have aY:v2.cell? ⟨g,1,none⟩=some (.int .u64 (b1.toNat:Int)):=by rw[Blk.cell ae.o];rfl
   have bg:v2.cell? ⟨g,2,none⟩=some (.int .u64 (c.toNat:Int)):=by rw[Blk.cell ae.o];rfl
   have bo:v2.cell? ⟨g,3,none⟩=some (.int .u64 (d.toNat:Int)):=by rw[Blk.cell ae.o];rfl
   go_upto_region 5 with(go_at_call 227;refine Ah (l2 _) ?_;rintro w' hw;have hw:=hw.symm;subst hw)
   have aI:Blk (v2.setCell ⟨g,0,none⟩ (.int .u64 (a2.toNat:Int))) g 274 #[wv a2,wv b1,wv c,wv d,R,N]:=Blk.set ae.o 0 (wv a2);have ao:w.grownBy (v2.setCell ⟨g,0,none⟩ (.int .u64 (a2.toNat:Int))) (some g):=(Ar bY.o (.inl rfl) _);generalize (v2.setCell ⟨g,0,none⟩ (.int .u64 (a2.toNat:Int)))=v3 at aI ao⊢;clear cr bq aY bg bo l2;clear ae bY;have X:=I aI;clear aI;have bN:=I ao;clear ao;have cn:=Blk.frozen X.o;have bw:v3.cell? ⟨g,0,none⟩=some (.int .u64 (a2.toNat:Int)):=by rw[Blk.cell X.o];rfl
   have bu:v3.cell? ⟨g,1,none⟩=some (.int .u64 (b1.toNat:Int)):=by rw[Blk.cell X.o];rfl
   have bG:v3.cell? ⟨g,2,none⟩=some (.int .u64 (c.toNat:Int)):=by rw[Blk.cell X.o];rfl
   have bR:v3.cell? ⟨g,3,none⟩=some (.int .u64 (d.toNat:Int)):=by rw[Blk.cell X.o];rfl
   have x3:=X3.o;have y3:=Y3.o;refine wp_region_still_tail 11 (by kernel_rfl) (by kernel_rfl) ?_;simp only[List.take_succ_cons,List.take_zero,List.drop_succ_cons,List.drop_zero];change wpStill _ _ v3.drew _ _ _
   repeat still_step
   refine wpStill_nil ?_;change wpList _ _ _ _ _ v3.drew
   go_upto_region 6 with fail
   have ay:Blk (v3.setCell ⟨g,2,none⟩ (.int .u64 (c1.toNat:Int))).drew g 274 #[wv a2,wv b1,wv c1,wv d,R,N]:=Blk.set X.o 2 (wv c1);have aL:w.grownBy (v3.setCell ⟨g,2,none⟩ (.int .u64 (c1.toNat:Int))).drew (some g):=Bh (Ar bN.o (.inl rfl) _);generalize (v3.setCell ⟨g,2,none⟩ (.int .u64 (c1.toNat:Int))).drew=v4 at ay aL⊢;clear cn bw bu bG bR x3 y3 X3 Y3;clear X bN;have Y:=I ay;clear ay;have bV:=I aL;clear aL;have cd:=Blk.frozen Y.o;have bB:v4.cell? ⟨g,0,none⟩=some (.int .u64 (a2.toNat:Int)):=by rw[Blk.cell Y.o];rfl
   have bb:v4.cell? ⟨g,1,none⟩=some (.int .u64 (b1.toNat:Int)):=by rw[Blk.cell Y.o];rfl
   have bz:v4.cell? ⟨g,2,none⟩=some (.int .u64 (c1.toNat:Int)):=by rw[Blk.cell Y.o];rfl
   have bm:v4.cell? ⟨g,3,none⟩=some (.int .u64 (d.toNat:Int)):=by rw[Blk.cell Y.o];rfl
   have x4:=X4.o;refine wp_region_still_tail 13 (by kernel_rfl) (by kernel_rfl) ?_;simp only[List.take_succ_cons,List.take_zero,List.drop_succ_cons,List.drop_zero];change wpStill _ _ v4.drew _ _ _
   repeat still_step
   still_call (l4 v4.drew)
   repeat still_step
   refine wpStill_nil ?_;change wpList _ _ _ _ _ v4.drew
   go_upto_region 7 with fail
   have aA:Blk (v4.setCell ⟨g,3,none⟩ (.int .u64 (d1.toNat:Int))).drew g 274 #[wv a2,wv b1,wv c1,wv d1,R,N]:=Blk.set Y.o 3 (wv d1);have aO:w.grownBy (v4.setCell ⟨g,3,none⟩ (.int .u64 (d1.toNat:Int))).drew (some g):=Bh (Ar bV.o (.inl rfl) _);generalize (v4.setCell ⟨g,3,none⟩ (.int .u64 (d1.toNat:Int))).drew=v5 at aA aO⊢;clear cd bB bb bz bm x4 X4 l4;clear Y bV;have aa:=I aA;clear aA;have bF:=I aO;clear aO;have cc:=Blk.frozen aa.o;have bU:v5.cell? ⟨g,0,none⟩=some (.int .u64 (a2.toNat:Int)):=by rw[Blk.cell aa.o];rfl
   have bf:v5.cell? ⟨g,1,none⟩=some (.int .u64 (b1.toNat:Int)):=by rw[Blk.cell aa.o];rfl
   have bO:v5.cell? ⟨g,2,none⟩=some (.int .u64 (c1.toNat:Int)):=by rw[Blk.cell aa.o];rfl
   have bH:v5.cell? ⟨g,3,none⟩=some (.int .u64 (d1.toNat:Int)):=by rw[Blk.cell aa.o];rfl
   have x5:=X5.o;have y5:=Y5.o;refine wp_region_still_tail 11 (by kernel_rfl) (by kernel_rfl) ?_;simp only[List.take_succ_cons,List.take_zero,List.drop_succ_cons,List.drop_zero];change wpStill _ _ v5.drew _ _ _
   repeat still_step
   refine wpStill_nil ?_;change wpList _ _ _ _ _ v5.drew
   go_upto_region 8 with fail
   have aK:Blk (v5.setCell ⟨g,0,none⟩ (.int .u64 (a3.toNat:Int))).drew g 274 #[wv a3,wv b1,wv c1,wv d1,R,N]:=Blk.set aa.o 0 (wv a3);have aH:w.grownBy (v5.setCell ⟨g,0,none⟩ (.int .u64 (a3.toNat:Int))).drew (some g):=Bh (Ar bF.o (.inl rfl) _);generalize (v5.setCell ⟨g,0,none⟩ (.int .u64 (a3.toNat:Int))).drew=v6 at aK aH⊢;clear cc bU bf bO bH x5 y5 X5 Y5;clear aa bF;have af:=I aK;clear aK;have br:=I aH;clear aH;have cm:=Blk.frozen af.o;have cb:v6.cell? ⟨g,0,none⟩=some (.int .u64 (a3.toNat:Int)):=by rw[Blk.cell af.o];rfl
   have bn:v6.cell? ⟨g,1,none⟩=some (.int .u64 (b1.toNat:Int)):=by rw[Blk.cell af.o];rfl
   have bM:v6.cell? ⟨g,2,none⟩=some (.int .u64 (c1.toNat:Int)):=by rw[Blk.cell af.o];rfl
   have bd:v6.cell? ⟨g,3,none⟩=some (.int .u64 (d1.toNat:Int)):=by rw[Blk.cell af.o];rfl
   have x6:=X6.o;refine wp_region_still_tail 13 (by kernel_rfl) (by kernel_rfl) ?_;simp only[List.take_succ_cons,List.take_zero,List.drop_succ_cons,List.drop_zero];change wpStill _ _ v6.drew _ _ _
   repeat still_step
   still_call (l6 v6.drew)
   repeat still_step
   refine wpStill_nil ?_;change wpList _ _ _ _ _ v6.drew
   go_upto_region 9 with fail
   have aF:Blk (v6.setCell ⟨g,3,none⟩ (.int .u64 (d2.toNat:Int))).drew g 274 #[wv a3,wv b1,wv c1,wv d2,R,N]:=Blk.set af.o 3 (wv d2);have aR:w.grownBy (v6.setCell ⟨g,3,none⟩ (.int .u64 (d2.toNat:Int))).drew (some g):=Bh (Ar br.o (.inl rfl) _);generalize (v6.setCell ⟨g,3,none⟩ (.int .u64 (d2.toNat:Int))).drew=v7 at aF aR⊢;clear cm cb bn bM bd x6 X6 l6;clear af br;have ab:=I aF;clear aF;have bD:=I aR;clear aR;have ck:=Blk.frozen ab.o;have bQ:v7.cell? ⟨g,0,none⟩=some (.int .u64 (a3.toNat:Int)):=by rw[Blk.cell ab.o];rfl
   have bE:v7.cell? ⟨g,1,none⟩=some (.int .u64 (b1.toNat:Int)):=by rw[Blk.cell ab.o];rfl
   have bl:v7.cell? ⟨g,2,none⟩=some (.int .u64 (c1.toNat:Int)):=by rw[Blk.cell ab.o];rfl
   have bC:v7.cell? ⟨g,3,none⟩=some (.int .u64 (d2.toNat:Int)):=by rw[Blk.cell ab.o];rfl
   have x7:=X7.o;have y7:=Y7.o;refine wp_region_still_tail 11 (by kernel_rfl) (by kernel_rfl) ?_;simp only[List.take_succ_cons,List.take_zero,List.drop_succ_cons,List.drop_zero];change wpStill _ _ v7.drew _ _ _
   repeat still_step
   refine wpStill_nil ?_;change wpList _ _ _ _ _ v7.drew
   go_upto_region 10 with fail
   have au:Blk (v7.setCell ⟨g,2,none⟩ (.int .u64 (c2.toNat:Int))).drew g 274 #[wv a3,wv b1,wv c2,wv d2,R,N]:=Blk.set ab.o 2 (wv c2);have aE:w.grownBy (v7.setCell ⟨g,2,none⟩ (.int .u64 (c2.toNat:Int))).drew (some g):=Bh (Ar bD.o (.inl rfl) _);generalize (v7.setCell ⟨g,2,none⟩ (.int .u64 (c2.toNat:Int))).drew=v8 at au aE⊢;clear ck bQ bE bl bC x7 y7 X7 Y7;clear ab bD;have ad:=I au;clear au;have bp:=I aE;clear aE;have cj:=Blk.frozen ad.o;have aZ:v8.cell? ⟨g,0,none⟩=some (.int .u64 (a3.toNat:Int)):=by rw[Blk.cell ad.o];rfl
   have bZ:v8.cell? ⟨g,1,none⟩=some (.int .u64 (b1.toNat:Int)):=by rw[Blk.cell ad.o];rfl
   have aW:v8.cell? ⟨g,2,none⟩=some (.int .u64 (c2.toNat:Int)):=by rw[Blk.cell ad.o];rfl
   have bx:v8.cell? ⟨g,3,none⟩=some (.int .u64 (d2.toNat:Int)):=by rw[Blk.cell ad.o];rfl
   have x8:=X8.o;refine wp_region_still_tail 13 (by kernel_rfl) (by kernel_rfl) ?_;simp only[List.take_succ_cons,List.take_zero,List.drop_succ_cons,List.drop_zero];change wpStill _ _ v8.drew _ _ _
   repeat still_step
   still_call (l8 v8.drew)
   repeat still_step
   refine wpStill_nil ?_;change wpList _ _ _ _ _ v8.drew
   go_upto_region 11 with fail
   have aG:Blk (v8.setCell ⟨g,1,none⟩ (.int .u64 (b2.toNat:Int))).drew g 274 #[wv a3,wv b2,wv c2,wv d2,R,N]:=Blk.set ad.o 1 (wv b2);have ax:w.grownBy (v8.setCell ⟨g,1,none⟩ (.int .u64 (b2.toNat:Int))).drew (some g):=Bh (Ar bp.o (.inl rfl) _);generalize (v8.setCell ⟨g,1,none⟩ (.int .u64 (b2.toNat:Int))).drew=v9 at aG ax⊢;clear cj aZ bZ aW bx x8 X8 l8;clear ad bp;have Z:=I aG;clear aG;have bj:=I ax;clear ax;have cq:=Blk.frozen Z.o;have bT:v9.cell? ⟨g,0,none⟩=some (.int .u64 (a3.toNat:Int)):=by rw[Blk.cell Z.o];rfl
   have bs:v9.cell? ⟨g,1,none⟩=some (.int .u64 (b2.toNat:Int)):=by rw[Blk.cell Z.o];rfl
   have bS:v9.cell? ⟨g,2,none⟩=some (.int .u64 (c2.toNat:Int)):=by rw[Blk.cell Z.o];rfl
   have bP:v9.cell? ⟨g,3,none⟩=some (.int .u64 (d2.toNat:Int)):=by rw[Blk.cell Z.o];rfl
   go_upto_region 12 with(go_at_call 227;refine Ah (l9 _) ?_;rintro w' hw;have hw:=hw.symm;subst hw)
   have aS:Blk (v9.setCell ⟨g,2,none⟩ (.int .u64 (c3.toNat:Int))) g 274 #[wv a3,wv b2,wv c3,wv d2,R,N]:=Blk.set Z.o 2 (wv c3);have aJ:w.grownBy (v9.setCell ⟨g,2,none⟩ (.int .u64 (c3.toNat:Int))) (some g):=(Ar bj.o (.inl rfl) _);generalize (v9.setCell ⟨g,2,none⟩ (.int .u64 (c3.toNat:Int)))=v10 at aS aJ⊢;clear cq bT bs bS bP l9;clear Z bj;have cf:=I aS;clear aS;have cg:=I aJ;clear aJ
   go_wp2_with fail
   go_roundw
   case rel=>exact⟨i+1,by omega,by go_num,by rw[rnds,<-ES.o,bJ.o];exact cf.o,cg.o⟩
   case measure=>simp [intOf];omega
theorem MO (g:Nat) (s:V) (w:World) (hB:Blk w g 226 (DE s)) :
  Calls Tryz.prog 133 #[.pointer (some ⟨g,0,none⟩)] w fun e w'=>e=.returned (.tuple #[])/\Blk w' g 226 (DE (rnd s))/\w.grownBy w' (some g):=by
 obtain⟨a,b,c,d⟩:=s;have af:=I (show Blk w g 226 #[wv a,wv b,wv c,wv d] from hB);clear hB;have cc:=I (World.grownBy.refl w (some g));go_enter Tryz.func133,Tryz.ntmps133
 go_upto_region 0 with fail
 obtain⟨a1,aj⟩:∃x,x=a+b:=⟨_,rfl⟩;obtain⟨q1,aR⟩:∃x,x=rot b 13:=⟨_,rfl⟩;obtain⟨b1,aC⟩:∃x,x=q1 ^^^ a1:=⟨_,rfl⟩;obtain⟨a2,av⟩:∃x,x=rot a1 32:=⟨_,rfl⟩;obtain⟨c1,ai⟩:∃x,x=c+d:=⟨_,rfl⟩;obtain⟨q4,aA⟩:∃x,x=rot d 16:=⟨_,rfl⟩;obtain⟨d1,aB⟩:∃x,x=q4 ^^^ c1:=⟨_,rfl⟩;obtain⟨a3,ag⟩:∃x,x=a2+d1:=⟨_,rfl⟩;obtain⟨q6,aQ⟩:∃x,x=rot d1 21:=⟨_,rfl⟩;obtain⟨d2,an⟩:∃x,x=q6 ^^^ a3:=⟨_,rfl⟩;obtain⟨c2,ah⟩:∃x,x=c1+b1:=⟨_,rfl⟩;obtain⟨q8,aL⟩:∃x,x=rot b1 17:=⟨_,rfl⟩;obtain⟨b2,aN⟩:∃x,x=q8 ^^^ c2:=⟨_,rfl⟩;obtain⟨c3,aO⟩:∃x,x=rot c2 32:=⟨_,rfl⟩;have ak:rnd ⟨a,b,c,d⟩=⟨a3,b2,c3,d2⟩:=by subst aj aR aC av ai aA aB ag aQ an ah aL aN aO;rfl
 have bH:=I ak;clear ak;have x0:IntKind.u64.wrap ((a.toNat:Int)+(b.toNat:Int))=(a1.toNat:Int):=by rw[aj];exact Ht _ _
 have y0:((a.toNat:Int)+(b.toNat:Int)) % 18446744073709551616=(a1.toNat:Int):=by rw[aj];exact FO _ _
 have X0:=I x0;clear x0;have Y0:=I y0;clear y0;have x1:bits .xor .u64 (q1.toNat:Int) (a1.toNat:Int)=(b1.toNat:Int):=by rw[aC];exact BH _ _
 have X1:=I x1;clear x1;have l1:=VA b;rw[<-aR] at l1;have l2:=PM a1;rw[<-av] at l2;have x3:IntKind.u64.wrap ((c.toNat:Int)+(d.toNat:Int))=(c1.toNat:Int):=by rw[ai];exact Ht _ _
 have y3:((c.toNat:Int)+(d.toNat:Int)) % 18446744073709551616=(c1.toNat:Int):=by rw[ai];exact FO _ _
 have X3:=I x3;clear x3;have Y3:=I y3;clear y3;have x4:bits .xor .u64 (q4.toNat:Int) (c1.toNat:Int)=(d1.toNat:Int):=by rw[aB];exact BH _ _
 have X4:=I x4;clear x4;have l4:=VB d;rw[<-aA] at l4;have x5:IntKind.u64.wrap ((a2.toNat:Int)+(d1.toNat:Int))=(a3.toNat:Int):=by rw[ag];exact Ht _ _
 have y5:((a2.toNat:Int)+(d1.toNat:Int)) % 18446744073709551616=(a3.toNat:Int):=by rw[ag];exact FO _ _
 have X5:=I x5;clear x5;have Y5:=I y5;clear y5;have x6:bits .xor .u64 (q6.toNat:Int) (a3.toNat:Int)=(d2.toNat:Int):=by rw[an];exact BH _ _
 have X6:=I x6;clear x6;have l6:=VC d1;rw[<-aQ] at l6;have x7:IntKind.u64.wrap ((c1.toNat:Int)+(b1.toNat:Int))=(c2.toNat:Int):=by rw[ah];exact Ht _ _
 have y7:((c1.toNat:Int)+(b1.toNat:Int)) % 18446744073709551616=(c2.toNat:Int):=by rw[ah];exact FO _ _
 have X7:=I x7;clear x7;have Y7:=I y7;clear y7;have x8:bits .xor .u64 (q8.toNat:Int) (c2.toNat:Int)=(b2.toNat:Int):=by rw[aN];exact BH _ _
 have X8:=I x8;clear x8;have l8:=VD b1;rw[<-aL] at l8;have l9:=PM c2;rw[<-aO] at l9;clear aj aR aC av ai aA aB ag aQ an ah aL aN aO;have cp:=Blk.frozen af.o;have bd:w.cell? ⟨g,0,none⟩=some (.int .u64 (a.toNat:Int)):=by rw[Blk.cell af.o];rfl
 have bU:w.cell? ⟨g,1,none⟩=some (.int .u64 (b.toNat:Int)):=by rw[Blk.cell af.o];rfl
 have bw:w.cell? ⟨g,2,none⟩=some (.int .u64 (c.toNat:Int)):=by rw[Blk.cell af.o];rfl
 have bV:w.cell? ⟨g,3,none⟩=some (.int .u64 (d.toNat:Int)):=by rw[Blk.cell af.o];rfl
 have x0:=X0.o;have y0:=Y0.o;refine wp_region_still_tail 12 (by kernel_rfl) (by kernel_rfl) ?_;simp only[List.take_succ_cons,List.take_zero,List.drop_succ_cons,List.drop_zero];change wpStill _ _ w.drew _ _ _
 repeat still_step
 refine wpStill_nil ?_;change wpList _ _ _ _ _ w.drew
 go_upto_region 1 with fail
 have au:Blk (w.setCell ⟨g,0,none⟩ (.int .u64 (a1.toNat:Int))).drew g 226 #[wv a1,wv b,wv c,wv d]:=Blk.set af.o 0 (wv a1);have aK:w.grownBy (w.setCell ⟨g,0,none⟩ (.int .u64 (a1.toNat:Int))).drew (some g):=Bh (Ar cc.o (.inl rfl) _);generalize (w.setCell ⟨g,0,none⟩ (.int .u64 (a1.toNat:Int))).drew=v1 at au aK⊢;clear cp bd bU bw bV x0 y0 X0 Y0;have M:=I au;clear au;have bI:=I aK;clear aK;have ct:=Blk.frozen M.o;have aU:v1.cell? ⟨g,0,none⟩=some (.int .u64 (a1.toNat:Int)):=by rw[Blk.cell M.o];rfl
 have aX:v1.cell? ⟨g,1,none⟩=some (.int .u64 (b.toNat:Int)):=by rw[Blk.cell M.o];rfl
 have bJ:v1.cell? ⟨g,2,none⟩=some (.int .u64 (c.toNat:Int)):=by rw[Blk.cell M.o];rfl
 have bG:v1.cell? ⟨g,3,none⟩=some (.int .u64 (d.toNat:Int)):=by rw[Blk.cell M.o];rfl
 have x1:=X1.o;refine wp_region_still_tail 13 (by kernel_rfl) (by kernel_rfl) ?_;simp only[List.take_succ_cons,List.take_zero,List.drop_succ_cons,List.drop_zero];change wpStill _ _ v1.drew _ _ _
 repeat still_step
 still_call (l1 v1.drew)
 repeat still_step
 refine wpStill_nil ?_;change wpList _ _ _ _ _ v1.drew
 go_upto_region 2 with fail
 have aS:Blk (v1.setCell ⟨g,1,none⟩ (.int .u64 (b1.toNat:Int))).drew g 226 #[wv a1,wv b1,wv c,wv d]:=Blk.set M.o 1 (wv b1);have ay:w.grownBy (v1.setCell ⟨g,1,none⟩ (.int .u64 (b1.toNat:Int))).drew (some g):=Bh (Ar bI.o (.inl rfl) _);generalize (v1.setCell ⟨g,1,none⟩ (.int .u64 (b1.toNat:Int))).drew=v2 at aS ay⊢;clear ct aU aX bJ bG x1 X1 l1;clear M bI;have ad:=I aS;clear aS;have bW:=I ay;clear ay;have cr:=Blk.frozen ad.o;have bn:v2.cell? ⟨g,0,none⟩=some (.int .u64 (a1.toNat:Int)):=by rw[Blk.cell ad.o];rfl
 have aV:v2.cell? ⟨g,1,none⟩=some (.int .u64 (b1.toNat:Int)):=by rw[Blk.cell ad.o];rfl
 have bb:v2.cell? ⟨g,2,none⟩=some (.int .u64 (c.toNat:Int)):=by rw[Blk.cell ad.o];rfl
 have bl:v2.cell? ⟨g,3,none⟩=some (.int .u64 (d.toNat:Int)):=by rw[Blk.cell ad.o];rfl
 refine wp_region_still_tail 8 (by kernel_rfl) (by kernel_rfl) ?_;simp only[List.take_succ_cons,List.take_zero,List.drop_succ_cons,List.drop_zero];change wpStill _ _ v2.drew _ _ _
 repeat still_step
 still_call (l2 v2.drew)
 repeat still_step
 refine wpStill_nil ?_;change wpList _ _ _ _ _ v2.drew
 go_upto_region 3 with fail
 have aH:Blk (v2.setCell ⟨g,0,none⟩ (.int .u64 (a2.toNat:Int))).drew g 226 #[wv a2,wv b1,wv c,wv d]:=Blk.set ad.o 0 (wv a2);have ao:w.grownBy (v2.setCell ⟨g,0,none⟩ (.int .u64 (a2.toNat:Int))).drew (some g):=Bh (Ar bW.o (.inl rfl) _);generalize (v2.setCell ⟨g,0,none⟩ (.int .u64 (a2.toNat:Int))).drew=v3 at aH ao⊢;clear cr bn aV bb bl l2;clear ad bW;have O:=I aH;clear aH;have bL:=I ao;clear ao;have cn:=Blk.frozen O.o;have br:v3.cell? ⟨g,0,none⟩=some (.int .u64 (a2.toNat:Int)):=by rw[Blk.cell O.o];rfl
 have bq:v3.cell? ⟨g,1,none⟩=some (.int .u64 (b1.toNat:Int)):=by rw[Blk.cell O.o];rfl
 have bE:v3.cell? ⟨g,2,none⟩=some (.int .u64 (c.toNat:Int)):=by rw[Blk.cell O.o];rfl
 have bP:v3.cell? ⟨g,3,none⟩=some (.int .u64 (d.toNat:Int)):=by rw[Blk.cell O.o];rfl
 have x3:=X3.o;have y3:=Y3.o;refine wp_region_still_tail 12 (by kernel_rfl) (by kernel_rfl) ?_;simp only[List.take_succ_cons,List.take_zero,List.drop_succ_cons,List.drop_zero];change wpStill _ _ v3.drew _ _ _
 repeat still_step
 refine wpStill_nil ?_;change wpList _ _ _ _ _ v3.drew
 go_upto_region 4 with fail
 have ax:Blk (v3.setCell ⟨g,2,none⟩ (.int .u64 (c1.toNat:Int))).drew g 226 #[wv a2,wv b1,wv c1,wv d]:=Blk.set O.o 2 (wv c1);have aJ:w.grownBy (v3.setCell ⟨g,2,none⟩ (.int .u64 (c1.toNat:Int))).drew (some g):=Bh (Ar bL.o (.inl rfl) _);generalize (v3.setCell ⟨g,2,none⟩ (.int .u64 (c1.toNat:Int))).drew=v4 at ax aJ⊢;clear cn br bq bE bP x3 y3 X3 Y3;clear O bL;have X:=I ax;clear ax;have bT:=I aJ;clear aJ;have cd:=Blk.frozen X.o;have bx:v4.cell? ⟨g,0,none⟩=some (.int .u64 (a2.toNat:Int)):=by rw[Blk.cell X.o];rfl
 have aY:v4.cell? ⟨g,1,none⟩=some (.int .u64 (b1.toNat:Int)):=by rw[Blk.cell X.o];rfl
 have bu:v4.cell? ⟨g,2,none⟩=some (.int .u64 (c1.toNat:Int)):=by rw[Blk.cell X.o];rfl
 have bh:v4.cell? ⟨g,3,none⟩=some (.int .u64 (d.toNat:Int)):=by rw[Blk.cell X.o];rfl
 have x4:=X4.o;refine wp_region_still_tail 13 (by kernel_rfl) (by kernel_rfl) ?_;simp only[List.take_succ_cons,List.take_zero,List.drop_succ_cons,List.drop_zero];change wpStill _ _ v4.drew _ _ _
 repeat still_step
 still_call (l4 v4.drew)
 repeat still_step
 refine wpStill_nil ?_;change wpList _ _ _ _ _ v4.drew
 go_upto_region 5 with fail
 have az:Blk (v4.setCell ⟨g,3,none⟩ (.int .u64 (d1.toNat:Int))).drew g 226 #[wv a2,wv b1,wv c1,wv d1]:=Blk.set X.o 3 (wv d1);have aM:w.grownBy (v4.setCell ⟨g,3,none⟩ (.int .u64 (d1.toNat:Int))).drew (some g):=Bh (Ar bT.o (.inl rfl) _);generalize (v4.setCell ⟨g,3,none⟩ (.int .u64 (d1.toNat:Int))).drew=v5 at az aM⊢;clear cd bx aY bu bh x4 X4 l4;clear X bT;have Z:=I az;clear az;have bD:=I aM;clear aM;have cb:=Blk.frozen Z.o;have bS:v5.cell? ⟨g,0,none⟩=some (.int .u64 (a2.toNat:Int)):=by rw[Blk.cell Z.o];rfl
 have ba:v5.cell? ⟨g,1,none⟩=some (.int .u64 (b1.toNat:Int)):=by rw[Blk.cell Z.o];rfl
 have bM:v5.cell? ⟨g,2,none⟩=some (.int .u64 (c1.toNat:Int)):=by rw[Blk.cell Z.o];rfl
 have bF:v5.cell? ⟨g,3,none⟩=some (.int .u64 (d1.toNat:Int)):=by rw[Blk.cell Z.o];rfl
 have x5:=X5.o;have y5:=Y5.o;refine wp_region_still_tail 12 (by kernel_rfl) (by kernel_rfl) ?_;simp only[List.take_succ_cons,List.take_zero,List.drop_succ_cons,List.drop_zero];change wpStill _ _ v5.drew _ _ _
 repeat still_step
 refine wpStill_nil ?_;change wpList _ _ _ _ _ v5.drew
 go_upto_region 6 with fail
 have aI:Blk (v5.setCell ⟨g,0,none⟩ (.int .u64 (a3.toNat:Int))).drew g 226 #[wv a3,wv b1,wv c1,wv d1]:=Blk.set Z.o 0 (wv a3);have aG:w.grownBy (v5.setCell ⟨g,0,none⟩ (.int .u64 (a3.toNat:Int))).drew (some g):=Bh (Ar bD.o (.inl rfl) _);generalize (v5.setCell ⟨g,0,none⟩ (.int .u64 (a3.toNat:Int))).drew=v6 at aI aG⊢;clear cb bS ba bM bF x5 y5 X5 Y5;clear Z bD;have ae:=I aI;clear aI;have bo:=I aG;clear aG;have cm:=Blk.frozen ae.o;have bZ:v6.cell? ⟨g,0,none⟩=some (.int .u64 (a3.toNat:Int)):=by rw[Blk.cell ae.o];rfl
 have bj:v6.cell? ⟨g,1,none⟩=some (.int .u64 (b1.toNat:Int)):=by rw[Blk.cell ae.o];rfl
 have bK:v6.cell? ⟨g,2,none⟩=some (.int .u64 (c1.toNat:Int)):=by rw[Blk.cell ae.o];rfl
 have aZ:v6.cell? ⟨g,3,none⟩=some (.int .u64 (d1.toNat:Int)):=by rw[Blk.cell ae.o];rfl
 have x6:=X6.o;refine wp_region_still_tail 13 (by kernel_rfl) (by kernel_rfl) ?_;simp only[List.take_succ_cons,List.take_zero,List.drop_succ_cons,List.drop_zero];change wpStill _ _ v6.drew _ _ _
 repeat still_step
 still_call (l6 v6.drew)
 repeat still_step
 refine wpStill_nil ?_;change wpList _ _ _ _ _ v6.drew
 go_upto_region 7 with fail
 have aE:Blk (v6.setCell ⟨g,3,none⟩ (.int .u64 (d2.toNat:Int))).drew g 226 #[wv a3,wv b1,wv c1,wv d2]:=Blk.set ae.o 3 (wv d2);have aP:w.grownBy (v6.setCell ⟨g,3,none⟩ (.int .u64 (d2.toNat:Int))).drew (some g):=Bh (Ar bo.o (.inl rfl) _);generalize (v6.setCell ⟨g,3,none⟩ (.int .u64 (d2.toNat:Int))).drew=v7 at aE aP⊢;clear cm bZ bj bK aZ x6 X6 l6;clear ae bo;have aa:=I aE;clear aE;have bA:=I aP;clear aP;have ck:=Blk.frozen aa.o;have bO:v7.cell? ⟨g,0,none⟩=some (.int .u64 (a3.toNat:Int)):=by rw[Blk.cell aa.o];rfl
 have bC:v7.cell? ⟨g,1,none⟩=some (.int .u64 (b1.toNat:Int)):=by rw[Blk.cell aa.o];rfl
 have bg:v7.cell? ⟨g,2,none⟩=some (.int .u64 (c1.toNat:Int)):=by rw[Blk.cell aa.o];rfl
 have bz:v7.cell? ⟨g,3,none⟩=some (.int .u64 (d2.toNat:Int)):=by rw[Blk.cell aa.o];rfl
 have x7:=X7.o;have y7:=Y7.o;refine wp_region_still_tail 12 (by kernel_rfl) (by kernel_rfl) ?_;simp only[List.take_succ_cons,List.take_zero,List.drop_succ_cons,List.drop_zero];change wpStill _ _ v7.drew _ _ _
 repeat still_step
 refine wpStill_nil ?_;change wpList _ _ _ _ _ v7.drew
 go_upto_region 8 with fail
 have ar:Blk (v7.setCell ⟨g,2,none⟩ (.int .u64 (c2.toNat:Int))).drew g 226 #[wv a3,wv b1,wv c2,wv d2]:=Blk.set aa.o 2 (wv c2);have aD:w.grownBy (v7.setCell ⟨g,2,none⟩ (.int .u64 (c2.toNat:Int))).drew (some g):=Bh (Ar bA.o (.inl rfl) _);generalize (v7.setCell ⟨g,2,none⟩ (.int .u64 (c2.toNat:Int))).drew=v8 at ar aD⊢;clear ck bO bC bg bz x7 y7 X7 Y7;clear aa bA;have ab:=I ar;clear ar;have bm:=I aD;clear aD;have cj:=Blk.frozen ab.o;have aW:v8.cell? ⟨g,0,none⟩=some (.int .u64 (a3.toNat:Int)):=by rw[Blk.cell ab.o];rfl
 have bX:v8.cell? ⟨g,1,none⟩=some (.int .u64 (b1.toNat:Int)):=by rw[Blk.cell ab.o];rfl
 have aT:v8.cell? ⟨g,2,none⟩=some (.int .u64 (c2.toNat:Int)):=by rw[Blk.cell ab.o];rfl
 have bs:v8.cell? ⟨g,3,none⟩=some (.int .u64 (d2.toNat:Int)):=by rw[Blk.cell ab.o];rfl
 have x8:=X8.o;refine wp_region_still_tail 13 (by kernel_rfl) (by kernel_rfl) ?_;simp only[List.take_succ_cons,List.take_zero,List.drop_succ_cons,List.drop_zero];change wpStill _ _ v8.drew _ _ _
 repeat still_step
 still_call (l8 v8.drew)
 repeat still_step
 refine wpStill_nil ?_;change wpList _ _ _ _ _ v8.drew
 go_upto_region 9 with fail
 have aF:Blk (v8.setCell ⟨g,1,none⟩ (.int .u64 (b2.toNat:Int))).drew g 226 #[wv a3,wv b2,wv c2,wv d2]:=Blk.set ab.o 1 (wv b2);have aw:w.grownBy (v8.setCell ⟨g,1,none⟩ (.int .u64 (b2.toNat:Int))).drew (some g):=Bh (Ar bm.o (.inl rfl) _);generalize (v8.setCell ⟨g,1,none⟩ (.int .u64 (b2.toNat:Int))).drew=v9 at aF aw⊢;clear cj aW bX aT bs x8 X8 l8;clear ab bm;have Y:=I aF;clear aF;have bf:=I aw;clear aw;have cq:=Blk.frozen Y.o;have bR:v9.cell? ⟨g,0,none⟩=some (.int .u64 (a3.toNat:Int)):=by rw[Blk.cell Y.o];rfl
 have bp:v9.cell? ⟨g,1,none⟩=some (.int .u64 (b2.toNat:Int)):=by rw[Blk.cell Y.o];rfl
 have bQ:v9.cell? ⟨g,2,none⟩=some (.int .u64 (c2.toNat:Int)):=by rw[Blk.cell Y.o];rfl
 have bN:v9.cell? ⟨g,3,none⟩=some (.int .u64 (d2.toNat:Int)):=by rw[Blk.cell Y.o];rfl
 refine wp_region_still_tail 8 (by kernel_rfl) (by kernel_rfl) ?_;simp only[List.take_succ_cons,List.take_zero,List.drop_succ_cons,List.drop_zero];change wpStill _ _ v9.drew _ _ _
 repeat still_step
 still_call (l9 v9.drew)
 repeat still_step
 refine wpStill_nil ?_;change wpList _ _ _ _ _ v9.drew
 go_wp2_with fail
 have bY:Blk (v9.setCell ⟨g,2,none⟩ (.int .u64 (c3.toNat:Int))).drew g 226 #[wv a3,wv b2,wv c3,wv d2]:=Blk.set Y.o 2 (wv c3);have bB:w.grownBy (v9.setCell ⟨g,2,none⟩ (.int .u64 (c3.toNat:Int))).drew (some g):=Bh (Ar bf.o (.inl rfl) _);clear cq bR bp bQ bN l9;clear Y bf;have cf:=I bY;clear bY;have cg:=I bB;clear bB
 go_end0
 exact⟨rfl,by rw[bH.o];exact cf.o,cg.o⟩
theorem IC (g:Nat) (s:V) (R N:Value) (m:Wd) (w:World) (hB:Blk w g 274 (IB s R N)) :
  Calls Tryz.prog 216 #[.pointer (some ⟨g,0,none⟩),wv m] w fun e w'=>e=.returned (.tuple #[])/\Blk w' g 274 (IB (addM s m) R N)/\w.grownBy w' (some g):=by
 obtain⟨a,b,c,d⟩:=s;obtain⟨O,ed⟩:∃x,x=d ^^^ m:=⟨_,rfl⟩;obtain⟨⟨a2,b2,c2,d2⟩,e2⟩:∃t,t=rnds 2 ⟨a,b,c,O⟩:=⟨_,rfl⟩;obtain⟨a3,ea⟩:∃x,x=a2 ^^^ m:=⟨_,rfl⟩;have X:addM ⟨a,b,c,d⟩ m=⟨a3,b2,c2,d2⟩:=by simp only[addM,<-ed,<-e2,<-ea]
 have x1:bits .xor .u64 (d.toNat:Int) (m.toNat:Int)=(O.toNat:Int):=by rw[ed];exact BH _ _
 have x2:bits .xor .u64 (a2.toNat:Int) (m.toNat:Int)=(a3.toNat:Int):=by rw[ea];exact BH _ _
 have ab:=I X;clear X;have E2:=I e2;clear e2;clear ed ea;have fz:=hB.frozen;have k3:w.cell? ⟨g,3,none⟩=some (.int .u64 (d.toNat:Int)):=by rw[hB.cell];rfl
 have HB:=I (show Blk w g 274 #[wv a,wv b,wv c,wv d,R,N] from hB);clear hB;have HG:=I (World.grownBy.refl w (some g));go_enter Tryz.func216,Tryz.ntmps216
 go_upto_region 1 with fail
 have Z:Blk (w.setCell ⟨g,3,none⟩ (.int .u64 (O.toNat:Int))) g 274 #[wv a,wv b,wv c,wv O,R,N]:=Blk.set HB.o 3 (wv O);have Y:w.grownBy (w.setCell ⟨g,3,none⟩ (.int .u64 (O.toNat:Int))) (some g):=Ar HG.o (.inl rfl) _;generalize w.setCell ⟨g,3,none⟩ (.int .u64 (O.toNat:Int))=v1 at Z Y⊢;have c1:=Jm g 2 ⟨a,b,c,O⟩ R N v1 (by decide) Z;rw[<-E2.o] at c1;have af:=I Y;clear Z Y fz k3 HB HG x1
 go_upto_region 2 with(go_at_call 217;refine Ah c1 ?_;rintro v2 ⟨M,aa⟩;clear c1;have k0:v2.cell? ⟨g,0,none⟩=some (.int .u64 (a2.toNat:Int)):=by{rw[M.cell];rfl};have ag:=M.frozen;have ae:=I M;have ad:=I aa;clear M aa)
 go_wp2_with fail
 go_end0
 exact⟨rfl,by rw[ab.o];exact Blk.set ae.o 0 (wv a3),Ar (World.grownBy.trans af.o ad.o) (.inl rfl) _⟩
theorem VF (g:Nat) (s:V) (m:Wd) (w:World) (hB:Blk w g 226 (DE s)) :
  Calls Tryz.prog 132 #[.pointer (some ⟨g,0,none⟩),wv m] w fun e w'=>e=.returned (.tuple #[])/\Blk w' g 226 (DE (addM s m))/\w.grownBy w' (some g):=by
 obtain⟨a,b,c,d⟩:=s;obtain⟨O,ed⟩:∃x,x=d ^^^ m:=⟨_,rfl⟩;obtain⟨t1,e1⟩:∃t,t=rnd ⟨a,b,c,O⟩:=⟨_,rfl⟩;obtain⟨⟨a2,b2,c2,d2⟩,e2⟩:∃t,t=rnd t1:=⟨_,rfl⟩;obtain⟨a3,ea⟩:∃x,x=a2 ^^^ m:=⟨_,rfl⟩;have hr:rnds 2 ⟨a,b,c,O⟩=⟨a2,b2,c2,d2⟩:=by rw[e2,e1];rfl
 have X:addM ⟨a,b,c,d⟩ m=⟨a3,b2,c2,d2⟩:=by simp only[addM,<-ed,hr,<-ea]
 have x1:bits .xor .u64 (d.toNat:Int) (m.toNat:Int)=(O.toNat:Int):=by rw[ed];exact BH _ _
 have x2:bits .xor .u64 (a2.toNat:Int) (m.toNat:Int)=(a3.toNat:Int):=by rw[ea];exact BH _ _
 have ae:=I X;clear X hr;have E1:=I e1;clear e1;have E2:=I e2;clear e2;clear ed ea;have fz:=hB.frozen;have k3:w.cell? ⟨g,3,none⟩=some (.int .u64 (d.toNat:Int)):=by rw[hB.cell];rfl
 have HB:=I (show Blk w g 226 #[wv a,wv b,wv c,wv d] from hB);clear hB;have HG:=I (World.grownBy.refl w (some g));go_enter Tryz.func132,Tryz.ntmps132
 go_upto_region 0 with fail
 refine wp_region_still_tail 9 (by kernel_rfl) (by kernel_rfl) ?_;simp only[List.take_succ_cons,List.take_zero,List.drop_succ_cons,List.drop_zero];change wpStill _ _ w.drew _ _ _
 repeat still_step
 refine wpStill_nil ?_;change wpList _ _ _ _ _ w.drew
 go_upto_region 1 with fail
 have Z:Blk (w.setCell ⟨g,3,none⟩ (.int .u64 (O.toNat:Int))).drew g 226 #[wv a,wv b,wv c,wv O]:=Blk.set HB.o 3 (wv O);have Y:w.grownBy (w.setCell ⟨g,3,none⟩ (.int .u64 (O.toNat:Int))).drew (some g):=Bh (Ar HG.o (.inl rfl) _);generalize (w.setCell ⟨g,3,none⟩ (.int .u64 (O.toNat:Int))).drew=v1 at Z Y⊢;have c1:=MO g ⟨a,b,c,O⟩ v1 Z;rw[<-E1.o] at c1;have ai:=I Y;clear Z Y fz k3 HB HG x1
 go_upto_region 2 with(go_at_call 133;refine Ah c1 ?_;rintro v2 ⟨aa,ab⟩;clear c1;have c2:=MO g t1 v2 aa;rw[<-E2.o] at c2;have af:=I ab;clear aa ab)
 go_upto_region 3 with(go_at_call 133;refine Ah c2 ?_;rintro v3 ⟨M,ad⟩;clear c2;have k0:v3.cell? ⟨g,0,none⟩=some (.int .u64 (a2.toNat:Int)):=by{rw[M.cell];rfl};have aj:=M.frozen;have ag:=I M;have ah:=I ad;clear M ad)
 refine wp_region_still_tail 9 (by kernel_rfl) (by kernel_rfl) ?_;simp only[List.take_succ_cons,List.take_zero,List.drop_succ_cons,List.drop_zero];change wpStill _ _ v3.drew _ _ _
 repeat still_step
 refine wpStill_nil ?_;change wpList _ _ _ _ _ v3.drew
 go_wp2_with fail
 go_end0
 exact⟨rfl,by rw[ae.o];exact Blk.set ag.o 0 (wv a3),Bh (Ar (World.grownBy.trans (World.grownBy.trans ai.o af.o) ah.o) (.inl rfl) _)⟩
def stc (s:St):Array Value:=IB s.v (.int .u64 (s.r:Int)) (.int .u64 (s.n:Int))
theorem LF (g:Nat) (s:St) (y:UInt8) (w:World) (hn:s.n<100000) (hr:s.r<256 ^ (s.n % 8)) (hB:Blk w g 274 (stc s)) :
  Calls Tryz.prog 202 #[.pointer (some ⟨g,0,none⟩),.int .u8 (y.toNat:Int)] w fun e w'=>e=.returned (.tuple #[])/\Blk w' g 274 (stc (addB s y))/\w.grownBy w' (some g):=by
 obtain⟨⟨a,b,c,d⟩,r,n⟩:=s;have hn:n<100000:=hn;have hr:r<256 ^ (n % 8):=hr;obtain⟨r2,e2⟩:∃x,x=r+y.toNat*256 ^ (n % 8):=⟨_,rfl⟩;have hx:∀K:Int,K=((256 ^ (n % 8):Nat):Int)->bits .or .u64 (r:Int) (IntKind.u64.wrap ((y.toNat:Int)*K))=(r2:Int):=fun K hK=>by
  rw[e2];refine JN r y (n % 8) (by omega) hr _ ?_;have h1:=SF (n % 8) (by omega);have h2:=y.toNat_lt;have h3:y.toNat*256 ^ (n % 8)<=255*72057594037927936:=Nat.mul_le_mul (by omega) h1;rw[hK,IntKind.wrap_u64,<-Int.natCast_mul];omega
 have ah:r2<18446744073709551616:=by
  have h1:=MM r y (n % 8) hr;have h2:(256:Nat) ^ (n % 8+1)<=256 ^ 8:=Nat.pow_le_pow_right (by decide) (by omega);have h3:(256:Nat) ^ 8=18446744073709551616:=by decide
  omega
 have ai:¬(n+1) % 8=0->stc (addB ⟨⟨a,b,c,d⟩,r,n⟩ y)=#[wv a,wv b,wv c,wv d,.int .u64 (r2:Int),.int .u64 ((n:Int)+1)]:=fun h=>by
  rw[PL _ _ h,e2]
  rfl
 have ag:(n+1) % 8=0->stc (addB ⟨⟨a,b,c,d⟩,r,n⟩ y)=IB (addM ⟨a,b,c,d⟩ (wd r2)) (.int .u64 0) (.int .u64 ((n:Int)+1)):=fun h=>by
  rw[ML _ _ h,e2]
  rfl
 have ae:=I ai;clear ai;have ak:=I ag;clear ag;have an:=I ah;clear ah;have hy:IntKind.u64.wrap (y.toNat:Int)=(y.toNat:Int):=by rw[IntKind.wrap_u64];have:=y.toNat_lt;omega
 have fz:=hB.frozen;have k4:w.cell? ⟨g,4,none⟩=some (.int .u64 (r:Int)):=by rw[hB.cell];rfl
 have k5:w.cell? ⟨g,5,none⟩=some (.int .u64 (n:Int)):=by rw[hB.cell];rfl
 have HB:=I (show Blk w g 274 #[wv a,wv b,wv c,wv d,.int .u64 (r:Int),.int .u64 (n:Int)] from hB);clear hB;have HG:=I (World.grownBy.refl w (some g));have HN:=I hn;clear e2 hr;have hk:n % 8=0\/n % 8=1\/n % 8=2\/n % 8=3\/n % 8=4\/n % 8=5\/n % 8=6\/n % 8=7:=by omega
 have n0:(0:Int)<=(n:Int):=by omega
 have n1:(n:Int)<100000:=by omega
 clear hn;rcases hk with hk | hk | hk | hk | hk | hk | hk | hk
 ·have hx:=hx 1 (by rw[hk];decide)
  rw[Int.mul_one,hy] at hx;have m1:(n:Int).tmod 8=0:=by rw[Int.tmod_eq_emod_of_nonneg n0];omega
  have m2:((n:Int)+1).tmod 8=1:=by rw[Int.tmod_eq_emod_of_nonneg (by omega)];omega
  have m3:n % 8=0:=hk;have hw:IntKind.u64.wrap 0=0:=by kernel_rfl
  have m4:(n:Int) % 8=0:=by omega
  have m5:(n+1) % 8=1:=by omega
  have M5:=I m5;clear m5;clear hk;go_enter Tryz.func202,Tryz.ntmps202
  go_upto_region 0 with fail
  refine wp_region_still_tail 16 (by kernel_rfl) (by kernel_rfl) ?_;simp only[List.take_succ_cons,List.take_zero,List.drop_succ_cons,List.drop_zero];change wpStill _ _ w.drew _ _ _
  repeat still_step
  refine wpStill_nil ?_;change wpList _ _ _ _ _ w.drew
  go_upto_region 1 with fail
  have O:Blk (w.setCell ⟨g,4,none⟩ (.int .u64 (r2:Int))).drew g 274 #[wv a,wv b,wv c,wv d,.int .u64 (r2:Int),.int .u64 (n:Int)]:=Blk.set HB.o 4 (.int .u64 (r2:Int));have X:w.grownBy (w.setCell ⟨g,4,none⟩ (.int .u64 (r2:Int))).drew (some g):=Bh (Ar HG.o (.inl rfl) _);generalize (w.setCell ⟨g,4,none⟩ (.int .u64 (r2:Int))).drew=v1 at O X⊢;clear fz k4 k5 HB HG hx m1 m3 m4 hw hy;have fz:=O.frozen;have k5:v1.cell? ⟨g,5,none⟩=some (.int .u64 (n:Int)):=by rw[O.cell];rfl
  have Z:=I O;clear O;have aa:=I X;clear X
  go_upto_region 2 with fail
  have M:Blk (v1.setCell ⟨g,5,none⟩ (.int .u64 ((n:Int)+1))) g 274 #[wv a,wv b,wv c,wv d,.int .u64 (r2:Int),.int .u64 ((n:Int)+1)]:=Blk.set Z.o 5 (.int .u64 ((n:Int)+1));have Y:w.grownBy (v1.setCell ⟨g,5,none⟩ (.int .u64 ((n:Int)+1))) (some g):=Ar aa.o (.inl rfl) _;generalize (v1.setCell ⟨g,5,none⟩ (.int .u64 ((n:Int)+1)))=v2 at M Y⊢;clear fz k5 Z aa;have fz:=M.frozen;have k4:v2.cell? ⟨g,4,none⟩=some (.int .u64 (r2:Int)):=by rw[M.cell];rfl
  have k5:v2.cell? ⟨g,5,none⟩=some (.int .u64 ((n:Int)+1)):=by rw[M.cell];rfl
  have ad:=I M;clear M;have ab:=I Y;clear Y
  go_wp2_with fail
  go_end0
  exact⟨rfl,by rw[ae.o (by have:=M5.o;omega)];exact ad.o,ab.o⟩
 ·have hx:=hx 256 (by rw[hk];decide)
  have m1:(n:Int).tmod 8=1:=by rw[Int.tmod_eq_emod_of_nonneg n0];omega
  have m2:((n:Int)+1).tmod 8=2:=by rw[Int.tmod_eq_emod_of_nonneg (by omega)];omega
  have m3:n % 8=1:=hk;have hw:IntKind.u64.wrap 8=8:=by kernel_rfl
  have m4:(n:Int) % 8=1:=by omega
  have m5:(n+1) % 8=2:=by omega
  have M5:=I m5;clear m5;clear hk;go_enter Tryz.func202,Tryz.ntmps202
  go_upto_region 0 with fail
  refine wp_region_still_tail 16 (by kernel_rfl) (by kernel_rfl) ?_;simp only[List.take_succ_cons,List.take_zero,List.drop_succ_cons,List.drop_zero];change wpStill _ _ w.drew _ _ _
  repeat still_step
  refine wpStill_nil ?_;change wpList _ _ _ _ _ w.drew
  go_upto_region 1 with fail
  have O:Blk (w.setCell ⟨g,4,none⟩ (.int .u64 (r2:Int))).drew g 274 #[wv a,wv b,wv c,wv d,.int .u64 (r2:Int),.int .u64 (n:Int)]:=Blk.set HB.o 4 (.int .u64 (r2:Int));have X:w.grownBy (w.setCell ⟨g,4,none⟩ (.int .u64 (r2:Int))).drew (some g):=Bh (Ar HG.o (.inl rfl) _);generalize (w.setCell ⟨g,4,none⟩ (.int .u64 (r2:Int))).drew=v1 at O X⊢;clear fz k4 k5 HB HG hx m1 m3 m4 hw hy;have fz:=O.frozen;have k5:v1.cell? ⟨g,5,none⟩=some (.int .u64 (n:Int)):=by rw[O.cell];rfl
  have Z:=I O;clear O;have aa:=I X;clear X
  go_upto_region 2 with fail
  have M:Blk (v1.setCell ⟨g,5,none⟩ (.int .u64 ((n:Int)+1))) g 274 #[wv a,wv b,wv c,wv d,.int .u64 (r2:Int),.int .u64 ((n:Int)+1)]:=Blk.set Z.o 5 (.int .u64 ((n:Int)+1));have Y:w.grownBy (v1.setCell ⟨g,5,none⟩ (.int .u64 ((n:Int)+1))) (some g):=Ar aa.o (.inl rfl) _;generalize (v1.setCell ⟨g,5,none⟩ (.int .u64 ((n:Int)+1)))=v2 at M Y⊢;clear fz k5 Z aa;have fz:=M.frozen;have k4:v2.cell? ⟨g,4,none⟩=some (.int .u64 (r2:Int)):=by rw[M.cell];rfl
  have k5:v2.cell? ⟨g,5,none⟩=some (.int .u64 ((n:Int)+1)):=by rw[M.cell];rfl
  have ad:=I M;clear M;have ab:=I Y;clear Y
  go_wp2_with fail
  go_end0
  exact⟨rfl,by rw[ae.o (by have:=M5.o;omega)];exact ad.o,ab.o⟩
 ·have hx:=hx 65536 (by rw[hk];decide)
  have m1:(n:Int).tmod 8=2:=by rw[Int.tmod_eq_emod_of_nonneg n0];omega
  have m2:((n:Int)+1).tmod 8=3:=by rw[Int.tmod_eq_emod_of_nonneg (by omega)];omega
  have m3:n % 8=2:=hk;have hw:IntKind.u64.wrap 16=16:=by kernel_rfl
  have m4:(n:Int) % 8=2:=by omega
  have m5:(n+1) % 8=3:=by omega
  have M5:=I m5;clear m5;clear hk;go_enter Tryz.func202,Tryz.ntmps202
  go_upto_region 0 with fail
  refine wp_region_still_tail 16 (by kernel_rfl) (by kernel_rfl) ?_;simp only[List.take_succ_cons,List.take_zero,List.drop_succ_cons,List.drop_zero];change wpStill _ _ w.drew _ _ _
  repeat still_step
  refine wpStill_nil ?_;change wpList _ _ _ _ _ w.drew
  go_upto_region 1 with fail
  have O:Blk (w.setCell ⟨g,4,none⟩ (.int .u64 (r2:Int))).drew g 274 #[wv a,wv b,wv c,wv d,.int .u64 (r2:Int),.int .u64 (n:Int)]:=Blk.set HB.o 4 (.int .u64 (r2:Int));have X:w.grownBy (w.setCell ⟨g,4,none⟩ (.int .u64 (r2:Int))).drew (some g):=Bh (Ar HG.o (.inl rfl) _);generalize (w.setCell ⟨g,4,none⟩ (.int .u64 (r2:Int))).drew=v1 at O X⊢;clear fz k4 k5 HB HG hx m1 m3 m4 hw hy;have fz:=O.frozen;have k5:v1.cell? ⟨g,5,none⟩=some (.int .u64 (n:Int)):=by rw[O.cell];rfl
  have Z:=I O;clear O;have aa:=I X;clear X
  go_upto_region 2 with fail
  have M:Blk (v1.setCell ⟨g,5,none⟩ (.int .u64 ((n:Int)+1))) g 274 #[wv a,wv b,wv c,wv d,.int .u64 (r2:Int),.int .u64 ((n:Int)+1)]:=Blk.set Z.o 5 (.int .u64 ((n:Int)+1));have Y:w.grownBy (v1.setCell ⟨g,5,none⟩ (.int .u64 ((n:Int)+1))) (some g):=Ar aa.o (.inl rfl) _;generalize (v1.setCell ⟨g,5,none⟩ (.int .u64 ((n:Int)+1)))=v2 at M Y⊢;clear fz k5 Z aa;have fz:=M.frozen;have k4:v2.cell? ⟨g,4,none⟩=some (.int .u64 (r2:Int)):=by rw[M.cell];rfl
  have k5:v2.cell? ⟨g,5,none⟩=some (.int .u64 ((n:Int)+1)):=by rw[M.cell];rfl
  have ad:=I M;clear M;have ab:=I Y;clear Y
  go_wp2_with fail
  go_end0
  exact⟨rfl,by rw[ae.o (by have:=M5.o;omega)];exact ad.o,ab.o⟩
 ·have hx:=hx 16777216 (by rw[hk];decide)
  have m1:(n:Int).tmod 8=3:=by rw[Int.tmod_eq_emod_of_nonneg n0];omega
  have m2:((n:Int)+1).tmod 8=4:=by rw[Int.tmod_eq_emod_of_nonneg (by omega)];omega
  have m3:n % 8=3:=hk;have hw:IntKind.u64.wrap 24=24:=by kernel_rfl
  have m4:(n:Int) % 8=3:=by omega
  have m5:(n+1) % 8=4:=by omega
  have M5:=I m5;clear m5;clear hk;go_enter Tryz.func202,Tryz.ntmps202
  go_upto_region 0 with fail
  refine wp_region_still_tail 16 (by kernel_rfl) (by kernel_rfl) ?_;simp only[List.take_succ_cons,List.take_zero,List.drop_succ_cons,List.drop_zero];change wpStill _ _ w.drew _ _ _
  repeat still_step
  refine wpStill_nil ?_;change wpList _ _ _ _ _ w.drew
  go_upto_region 1 with fail
  have O:Blk (w.setCell ⟨g,4,none⟩ (.int .u64 (r2:Int))).drew g 274 #[wv a,wv b,wv c,wv d,.int .u64 (r2:Int),.int .u64 (n:Int)]:=Blk.set HB.o 4 (.int .u64 (r2:Int));have X:w.grownBy (w.setCell ⟨g,4,none⟩ (.int .u64 (r2:Int))).drew (some g):=Bh (Ar HG.o (.inl rfl) _);generalize (w.setCell ⟨g,4,none⟩ (.int .u64 (r2:Int))).drew=v1 at O X⊢;clear fz k4 k5 HB HG hx m1 m3 m4 hw hy;have fz:=O.frozen;have k5:v1.cell? ⟨g,5,none⟩=some (.int .u64 (n:Int)):=by rw[O.cell];rfl
  have Z:=I O;clear O;have aa:=I X;clear X
  go_upto_region 2 with fail
  have M:Blk (v1.setCell ⟨g,5,none⟩ (.int .u64 ((n:Int)+1))) g 274 #[wv a,wv b,wv c,wv d,.int .u64 (r2:Int),.int .u64 ((n:Int)+1)]:=Blk.set Z.o 5 (.int .u64 ((n:Int)+1));have Y:w.grownBy (v1.setCell ⟨g,5,none⟩ (.int .u64 ((n:Int)+1))) (some g):=Ar aa.o (.inl rfl) _;generalize (v1.setCell ⟨g,5,none⟩ (.int .u64 ((n:Int)+1)))=v2 at M Y⊢;clear fz k5 Z aa;have fz:=M.frozen;have k4:v2.cell? ⟨g,4,none⟩=some (.int .u64 (r2:Int)):=by rw[M.cell];rfl
  have k5:v2.cell? ⟨g,5,none⟩=some (.int .u64 ((n:Int)+1)):=by rw[M.cell];rfl
  have ad:=I M;clear M;have ab:=I Y;clear Y
  go_wp2_with fail
  go_end0
  exact⟨rfl,by rw[ae.o (by have:=M5.o;omega)];exact ad.o,ab.o⟩
 ·have hx:=hx 4294967296 (by rw[hk];decide)
  have m1:(n:Int).tmod 8=4:=by rw[Int.tmod_eq_emod_of_nonneg n0];omega
  have m2:((n:Int)+1).tmod 8=5:=by rw[Int.tmod_eq_emod_of_nonneg (by omega)];omega
  have m3:n % 8=4:=hk;have hw:IntKind.u64.wrap 32=32:=by kernel_rfl
  have m4:(n:Int) % 8=4:=by omega
  have m5:(n+1) % 8=5:=by omega
  have M5:=I m5;clear m5;clear hk;go_enter Tryz.func202,Tryz.ntmps202
  go_upto_region 0 with fail
  refine wp_region_still_tail 16 (by kernel_rfl) (by kernel_rfl) ?_;simp only[List.take_succ_cons,List.take_zero,List.drop_succ_cons,List.drop_zero];change wpStill _ _ w.drew _ _ _
  repeat still_step
  refine wpStill_nil ?_;change wpList _ _ _ _ _ w.drew
  go_upto_region 1 with fail
  have O:Blk (w.setCell ⟨g,4,none⟩ (.int .u64 (r2:Int))).drew g 274 #[wv a,wv b,wv c,wv d,.int .u64 (r2:Int),.int .u64 (n:Int)]:=Blk.set HB.o 4 (.int .u64 (r2:Int));have X:w.grownBy (w.setCell ⟨g,4,none⟩ (.int .u64 (r2:Int))).drew (some g):=Bh (Ar HG.o (.inl rfl) _);generalize (w.setCell ⟨g,4,none⟩ (.int .u64 (r2:Int))).drew=v1 at O X⊢;clear fz k4 k5 HB HG hx m1 m3 m4 hw hy;have fz:=O.frozen;have k5:v1.cell? ⟨g,5,none⟩=some (.int .u64 (n:Int)):=by rw[O.cell];rfl
  have Z:=I O;clear O;have aa:=I X;clear X
  go_upto_region 2 with fail
  have M:Blk (v1.setCell ⟨g,5,none⟩ (.int .u64 ((n:Int)+1))) g 274 #[wv a,wv b,wv c,wv d,.int .u64 (r2:Int),.int .u64 ((n:Int)+1)]:=Blk.set Z.o 5 (.int .u64 ((n:Int)+1));have Y:w.grownBy (v1.setCell ⟨g,5,none⟩ (.int .u64 ((n:Int)+1))) (some g):=Ar aa.o (.inl rfl) _;generalize (v1.setCell ⟨g,5,none⟩ (.int .u64 ((n:Int)+1)))=v2 at M Y⊢;clear fz k5 Z aa;have fz:=M.frozen;have k4:v2.cell? ⟨g,4,none⟩=some (.int .u64 (r2:Int)):=by rw[M.cell];rfl
  have k5:v2.cell? ⟨g,5,none⟩=some (.int .u64 ((n:Int)+1)):=by rw[M.cell];rfl
  have ad:=I M;clear M;have ab:=I Y;clear Y
  go_wp2_with fail
  go_end0
  exact⟨rfl,by rw[ae.o (by have:=M5.o;omega)];exact ad.o,ab.o⟩
 ·have hx:=hx 1099511627776 (by rw[hk];decide)
  have m1:(n:Int).tmod 8=5:=by rw[Int.tmod_eq_emod_of_nonneg n0];omega
  have m2:((n:Int)+1).tmod 8=6:=by rw[Int.tmod_eq_emod_of_nonneg (by omega)];omega
  have m3:n % 8=5:=hk;have hw:IntKind.u64.wrap 40=40:=by kernel_rfl
  have m4:(n:Int) % 8=5:=by omega
  have m5:(n+1) % 8=6:=by omega
  have M5:=I m5;clear m5;clear hk;go_enter Tryz.func202,Tryz.ntmps202
  go_upto_region 0 with fail
  refine wp_region_still_tail 16 (by kernel_rfl) (by kernel_rfl) ?_;simp only[List.take_succ_cons,List.take_zero,List.drop_succ_cons,List.drop_zero];change wpStill _ _ w.drew _ _ _
  repeat still_step
  refine wpStill_nil ?_;change wpList _ _ _ _ _ w.drew
  go_upto_region 1 with fail
  have O:Blk (w.setCell ⟨g,4,none⟩ (.int .u64 (r2:Int))).drew g 274 #[wv a,wv b,wv c,wv d,.int .u64 (r2:Int),.int .u64 (n:Int)]:=Blk.set HB.o 4 (.int .u64 (r2:Int));have X:w.grownBy (w.setCell ⟨g,4,none⟩ (.int .u64 (r2:Int))).drew (some g):=Bh (Ar HG.o (.inl rfl) _);generalize (w.setCell ⟨g,4,none⟩ (.int .u64 (r2:Int))).drew=v1 at O X⊢;clear fz k4 k5 HB HG hx m1 m3 m4 hw hy;have fz:=O.frozen;have k5:v1.cell? ⟨g,5,none⟩=some (.int .u64 (n:Int)):=by rw[O.cell];rfl
  have Z:=I O;clear O;have aa:=I X;clear X
  go_upto_region 2 with fail
  have M:Blk (v1.setCell ⟨g,5,none⟩ (.int .u64 ((n:Int)+1))) g 274 #[wv a,wv b,wv c,wv d,.int .u64 (r2:Int),.int .u64 ((n:Int)+1)]:=Blk.set Z.o 5 (.int .u64 ((n:Int)+1));have Y:w.grownBy (v1.setCell ⟨g,5,none⟩ (.int .u64 ((n:Int)+1))) (some g):=Ar aa.o (.inl rfl) _;generalize (v1.setCell ⟨g,5,none⟩ (.int .u64 ((n:Int)+1)))=v2 at M Y⊢;clear fz k5 Z aa;have fz:=M.frozen;have k4:v2.cell? ⟨g,4,none⟩=some (.int .u64 (r2:Int)):=by rw[M.cell];rfl
  have k5:v2.cell? ⟨g,5,none⟩=some (.int .u64 ((n:Int)+1)):=by rw[M.cell];rfl
  have ad:=I M;clear M;have ab:=I Y;clear Y
  go_wp2_with fail
  go_end0
  exact⟨rfl,by rw[ae.o (by have:=M5.o;omega)];exact ad.o,ab.o⟩
 ·have hx:=hx 281474976710656 (by rw[hk];decide)
  have m1:(n:Int).tmod 8=6:=by rw[Int.tmod_eq_emod_of_nonneg n0];omega
  have m2:((n:Int)+1).tmod 8=7:=by rw[Int.tmod_eq_emod_of_nonneg (by omega)];omega
  have m3:n % 8=6:=hk;have hw:IntKind.u64.wrap 48=48:=by kernel_rfl
  have m4:(n:Int) % 8=6:=by omega
  have m5:(n+1) % 8=7:=by omega
  have M5:=I m5;clear m5;clear hk;go_enter Tryz.func202,Tryz.ntmps202
  go_upto_region 0 with fail
  refine wp_region_still_tail 16 (by kernel_rfl) (by kernel_rfl) ?_;simp only[List.take_succ_cons,List.take_zero,List.drop_succ_cons,List.drop_zero];change wpStill _ _ w.drew _ _ _
  repeat still_step
  refine wpStill_nil ?_;change wpList _ _ _ _ _ w.drew
  go_upto_region 1 with fail
  have O:Blk (w.setCell ⟨g,4,none⟩ (.int .u64 (r2:Int))).drew g 274 #[wv a,wv b,wv c,wv d,.int .u64 (r2:Int),.int .u64 (n:Int)]:=Blk.set HB.o 4 (.int .u64 (r2:Int));have X:w.grownBy (w.setCell ⟨g,4,none⟩ (.int .u64 (r2:Int))).drew (some g):=Bh (Ar HG.o (.inl rfl) _);generalize (w.setCell ⟨g,4,none⟩ (.int .u64 (r2:Int))).drew=v1 at O X⊢;clear fz k4 k5 HB HG hx m1 m3 m4 hw hy;have fz:=O.frozen;have k5:v1.cell? ⟨g,5,none⟩=some (.int .u64 (n:Int)):=by rw[O.cell];rfl
  have Z:=I O;clear O;have aa:=I X;clear X
  go_upto_region 2 with fail
  have M:Blk (v1.setCell ⟨g,5,none⟩ (.int .u64 ((n:Int)+1))) g 274 #[wv a,wv b,wv c,wv d,.int .u64 (r2:Int),.int .u64 ((n:Int)+1)]:=Blk.set Z.o 5 (.int .u64 ((n:Int)+1));have Y:w.grownBy (v1.setCell ⟨g,5,none⟩ (.int .u64 ((n:Int)+1))) (some g):=Ar aa.o (.inl rfl) _;generalize (v1.setCell ⟨g,5,none⟩ (.int .u64 ((n:Int)+1)))=v2 at M Y⊢;clear fz k5 Z aa;have fz:=M.frozen;have k4:v2.cell? ⟨g,4,none⟩=some (.int .u64 (r2:Int)):=by rw[M.cell];rfl
  have k5:v2.cell? ⟨g,5,none⟩=some (.int .u64 ((n:Int)+1)):=by rw[M.cell];rfl
  have ad:=I M;clear M;have ab:=I Y;clear Y
  go_wp2_with fail
  go_end0
  exact⟨rfl,by rw[ae.o (by have:=M5.o;omega)];exact ad.o,ab.o⟩
 ·have hx:=hx 72057594037927936 (by rw[hk];decide)
  have m1:(n:Int).tmod 8=7:=by rw[Int.tmod_eq_emod_of_nonneg n0];omega
  have m2:((n:Int)+1).tmod 8=0:=by rw[Int.tmod_eq_emod_of_nonneg (by omega)];omega
  have m3:n % 8=7:=hk;have hw:IntKind.u64.wrap 56=56:=by kernel_rfl
  have m4:(n:Int) % 8=7:=by omega
  have m5:(n+1) % 8=0:=by omega
  have M5:=I m5;clear m5;clear hk;go_enter Tryz.func202,Tryz.ntmps202
  go_upto_region 0 with fail
  refine wp_region_still_tail 16 (by kernel_rfl) (by kernel_rfl) ?_;simp only[List.take_succ_cons,List.take_zero,List.drop_succ_cons,List.drop_zero];change wpStill _ _ w.drew _ _ _
  repeat still_step
  refine wpStill_nil ?_;change wpList _ _ _ _ _ w.drew
  go_upto_region 1 with fail
  have O:Blk (w.setCell ⟨g,4,none⟩ (.int .u64 (r2:Int))).drew g 274 #[wv a,wv b,wv c,wv d,.int .u64 (r2:Int),.int .u64 (n:Int)]:=Blk.set HB.o 4 (.int .u64 (r2:Int));have X:w.grownBy (w.setCell ⟨g,4,none⟩ (.int .u64 (r2:Int))).drew (some g):=Bh (Ar HG.o (.inl rfl) _);generalize (w.setCell ⟨g,4,none⟩ (.int .u64 (r2:Int))).drew=v1 at O X⊢;clear fz k4 k5 HB HG hx m1 m3 m4 hw hy;have fz:=O.frozen;have k5:v1.cell? ⟨g,5,none⟩=some (.int .u64 (n:Int)):=by rw[O.cell];rfl
  have Z:=I O;clear O;have aa:=I X;clear X
  go_upto_region 2 with fail
  have M:Blk (v1.setCell ⟨g,5,none⟩ (.int .u64 ((n:Int)+1))) g 274 #[wv a,wv b,wv c,wv d,.int .u64 (r2:Int),.int .u64 ((n:Int)+1)]:=Blk.set Z.o 5 (.int .u64 ((n:Int)+1));have Y:w.grownBy (v1.setCell ⟨g,5,none⟩ (.int .u64 ((n:Int)+1))) (some g):=Ar aa.o (.inl rfl) _;generalize (v1.setCell ⟨g,5,none⟩ (.int .u64 ((n:Int)+1)))=v2 at M Y⊢;clear fz k5 Z aa;have fz:=M.frozen;have k4:v2.cell? ⟨g,4,none⟩=some (.int .u64 (r2:Int)):=by rw[M.cell];rfl
  have k5:v2.cell? ⟨g,5,none⟩=some (.int .u64 ((n:Int)+1)):=by rw[M.cell];rfl
  have ad:=I M;clear M;have ab:=I Y;clear Y;have c1:=IC g ⟨a,b,c,d⟩ (.int .u64 (r2:Int)) (.int .u64 ((n:Int)+1)) (wd r2) v2 ad.o;rw[wv,Jl r2 an.o] at c1
  go_wp2_with (go_at_call 216;refine Ah c1 ?_;rintro v3 ⟨af,aj⟩;clear c1;have k4:v3.cell? ⟨g,4,none⟩=some (.int .u64 (r2:Int)):=by{rw[af.cell];rfl};have fz:=af.frozen;have ao:=I af;have ar:=I aj;clear af aj)
  go_end0
  exact⟨rfl,by rw[ak.o M5.o];exact Blk.set ao.o 4 (.int .u64 0),Ar (World.grownBy.trans ab.o ar.o) (.inl rfl) _⟩
theorem KE (s:St) (M:s.r<72057594037927936):(Oa s).toNat=s.r+s.n % 256*72057594037927936:=Jl _ (by omega)
theorem VG (g:Nat) (s:St) (w:World) (hr:s.r<72057594037927936) (hB:Blk w g 274 (stc s)) :
  Calls Tryz.prog 203 #[.pointer (some ⟨g,0,none⟩)] w fun e w'=>e=.returned (wv (finS s))/\w.grownBy w' (some g):=by
 have hl:=KE s hr;have hx:=MN s.r s.n hr;rw[<-hl,<-IntKind.wrap_u64] at hx;obtain⟨lw,el⟩:∃x,x=Oa s:=⟨_,rfl⟩;obtain⟨⟨a,b,c,d⟩,e1⟩:∃t,t=addM s.v lw:=⟨_,rfl⟩;obtain⟨c1,ec⟩:∃x,x=c ^^^ 255#64:=⟨_,rfl⟩;obtain⟨⟨a2,b2,c2,d2⟩,e2⟩:∃t,t=rnds 4 ⟨a,b,c1,d⟩:=⟨_,rfl⟩;obtain⟨q1,af⟩:∃x,x=a2 ^^^ b2:=⟨_,rfl⟩;obtain⟨q2,ad⟩:∃x,x=q1 ^^^ c2:=⟨_,rfl⟩;obtain⟨q3,ab⟩:∃x,x=q2 ^^^ d2:=⟨_,rfl⟩;have Y:finS s=q3:=by rw[finS,<-el,<-e1,fin,<-ec,<-e2,allX,<-af,<-ad,<-ab]
 have x0:bits .xor .u64 (c.toNat:Int) 255=(c1.toNat:Int):=by rw[ec];exact BH c 255#64
 have x1:bits .xor .u64 (a2.toNat:Int) (b2.toNat:Int)=(q1.toNat:Int):=by rw[af];exact BH _ _
 have x2:bits .xor .u64 (q1.toNat:Int) (c2.toNat:Int)=(q2.toNat:Int):=by rw[ad];exact BH _ _
 have x3:bits .xor .u64 (q2.toNat:Int) (d2.toNat:Int)=(q3.toNat:Int):=by rw[ab];exact BH _ _
 rw[<-el] at hx;obtain⟨v,r,n⟩:=s;have hx:bits .or .u64 (r:Int) (IntKind.u64.wrap ((n:Int)*72057594037927936))=(lw.toNat:Int):=hx;have e1:⟨a,b,c,d⟩=addM v lw:=e1;have ca:=IC g v (.int .u64 (r:Int)) (.int .u64 (n:Int)) lw w.drew (Blk.drewN hB 1);rw[<-e1] at ca;have ai:=I Y;clear Y;have E2:=I e2;clear e2;have k4:w.cell? ⟨g,4,none⟩=some (.int .u64 (r:Int)):=by rw[hB.cell];rfl
 have k5:w.cell? ⟨g,5,none⟩=some (.int .u64 (n:Int)):=by rw[hB.cell];rfl
 have fz:=hB.frozen;have ag:=I x0;clear x0;have av:=I x1;clear x1;have ao:=I x2;clear x2;have ar:=I x3;clear x3;clear el e1 ec af ad ab hl hr hB;go_enter Tryz.func203,Tryz.ntmps203
 go_upto_region 1 with fail
 refine wp_region_still_tail 11 (by kernel_rfl) (by kernel_rfl) ?_;simp only[List.take_succ_cons,List.take_zero,List.drop_succ_cons,List.drop_zero];change wpStill _ _ w.drew _ _ _
 repeat still_step
 refine wpStill_nil ?_;change wpList _ _ _ _ _ w.drew;clear hx k4 k5 fz
 go_upto_region 2 with(go_at_call 216;refine Ah ca ?_;rintro v1 ⟨X,M⟩;clear ca;have M:w.grownBy v1 (some g):=⟨M.os,M.tape,M.output,M.size,M.block⟩;have k2:v1.cell? ⟨g,2,none⟩=some (.int .u64 (c.toNat:Int)):=by{rw[X.cell];rfl};have fz:=X.frozen;have ak:=I X;have an:=I M;clear X M)
 have x0:=ag.o;clear ag
 go_upto_region 3 with fail
 have Z:Blk (v1.setCell ⟨g,2,none⟩ (.int .u64 (c1.toNat:Int))) g 274 #[wv a,wv b,wv c1,wv d,.int .u64 (r:Int),.int .u64 (n:Int)]:=Blk.set ak.o 2 (wv c1);have aa:w.grownBy (v1.setCell ⟨g,2,none⟩ (.int .u64 (c1.toNat:Int))) (some g):=Ar an.o (.inl rfl) _;generalize (v1.setCell ⟨g,2,none⟩ (.int .u64 (c1.toNat:Int)))=v2 at Z aa⊢;have ae:=Jm g 4 ⟨a,b,c1,d⟩ (.int .u64 (r:Int)) (.int .u64 (n:Int)) v2 (by decide) Z;rw[<-E2.o] at ae;have au:=I aa;clear Z aa fz k2 ak an x0
 go_upto_region 4 with(go_at_call 217;refine Ah ae ?_;rintro v3 ⟨aj,ah⟩;clear ae;have O:=I aj;have aw:=I ah;clear aj ah)
 have k0:v3.cell? ⟨g,0,none⟩=some (.int .u64 (a2.toNat:Int)):=by rw[O.o.cell];rfl
 have k1:v3.cell? ⟨g,1,none⟩=some (.int .u64 (b2.toNat:Int)):=by rw[O.o.cell];rfl
 have k2:v3.cell? ⟨g,2,none⟩=some (.int .u64 (c2.toNat:Int)):=by rw[O.o.cell];rfl
 have k3:v3.cell? ⟨g,3,none⟩=some (.int .u64 (d2.toNat:Int)):=by rw[O.o.cell];rfl
 have x1:=av.o;have x2:=ao.o;have x3:=ar.o;refine wp_region_still_lit (by kernel_rfl) (by kernel_rfl) ?_;change wpStill _ _ v3.drew _ _ _
 repeat still_step
 refine wpStill_nil ?_
 try change _ v3.drew
 go_wp2_with fail
 go_ret;exact⟨by rw[ai.o];rfl,Bh (World.grownBy.trans au.o aw.o)⟩
theorem Blk.new_of (w:World) (g:Nat) (t:TypeId) (cs M:Array Value) (e:cs=M) (O:w.heap.size=g):Blk (w.alloc (.cells cs t)) g t M:=O▸e▸Blk.new w t cs
theorem AX {B:Nat} {a w:World} (h:Below B a w) {p:Addr} (O:B<=p.block) (u:Value):Below B a (w.setCell p u):=
 ⟨h.os,h.tape,h.output,by simpa [World.setCell] using h.size,fun i M=>(Below.heap_setCell w p u i (by omega)).trans (h.block i M)⟩
theorem Al {P:Program} {fn:Func} {tmps:Array Value} {w:World} {v:Value} (t:Nat) (ty:TypeId) (a:Addr) (M:fn.results=#[.cell t ty]) (X:tmps.getD t undef=.pointer (some a)) (Y:(loadVar ty a).run P w=.ok v w) :
  (results fn tmps).run P w=.ok v w:=by
 have O:tmps[t]?.getD undef=.pointer (some a):=by simpa using X
 simp [results,M,O,asAddr,Y]
theorem Ao {P:Program} {w:World} {g:Nat} {t ty:TypeId} {cs:Array Value} {d:TypeDesc} (h:Blk w g t cs) (hu:P.underlying ty=some d) (O:d.isRow=true) (X:(P.info? ty).map (·.size)=some cs.size) :
  (loadVar ty ⟨g,0,none⟩).run P w=.ok (.agg cs) w:=by
 have M:w.rangeAt g 0 cs.toList:=fun j v Y=>by rw[Nat.zero_add,h.cell];simpa using Y
 have:=run_loadVar_mid (P:=P) w g 0 ty cs.toList d M hu O (by simpa using X)
 simpa using this
def AN (ks:Nat->UInt8):Array Value:=((List.range 16).map (fun i=>bv (ks i))).toArray
theorem Blk.far {w:World} {g:Nat} {t:TypeId} {cs:Array Value} (h:Blk w g t cs) (p:Addr) (u:Value) (M:p.block≠g):Blk (w.setCell p u) g t cs:=
 (Below.heap_setCell w p u g (fun e=>M e.symm)).trans h
theorem Ac {w:World} {g:Nat} {t:TypeId} {cs:Array Value} (h:Blk w g t cs):w.rangeAt g 0 cs.toList:=fun j v M=>by
 rw[Nat.zero_add,h.cell];simpa using M
theorem Am {w:World} {g:Nat} {t:TypeId} {cs:Array Value} (h:Blk w g t cs):w.there g 0 cs.size:=fun j M=>by
 rw[Nat.zero_add];exact⟨by rw[h.cell,Array.getElem?_eq_getElem M];rfl,h.frozen j⟩
theorem Bz {B:Nat} {a:World} (b:Nat) (M:B<=b):∀(vs:List Value) (o:Nat) (w:World),Below B a w->Below B a (w.setCells b o vs)
 | [],_,_,h=>h
 |v :: r,o,w,h=>Bz b M r (o+1) _ (AX h M v)
def ksOf (l:List UInt8) (i:Nat):UInt8:=l.getD i 0
theorem FC (f:Nat->UInt8) (j:Nat) (M:j<16):(AN f)[j]? = some (bv (f j)):=by
 rw[AN,List.getElem?_toArray];simp [M]
theorem k16 {w':World} {B:Nat} {t:TypeId} {ks:Nat->UInt8} (h:Blk w' B t (AN ks)):w'.cell? ⟨B,0,none⟩=some (.int .u8 ((ks 0).toNat:Int))/\w'.cell? ⟨B,1,none⟩=some (.int .u8 ((ks 1).toNat:Int))/\w'.cell? ⟨B,2,none⟩=some (.int .u8 ((ks 2).toNat:Int))/\w'.cell? ⟨B,3,none⟩=some (.int .u8 ((ks 3).toNat:Int))/\w'.cell? ⟨B,4,none⟩=some (.int .u8 ((ks 4).toNat:Int))/\w'.cell? ⟨B,5,none⟩=some (.int .u8 ((ks 5).toNat:Int))/\w'.cell? ⟨B,6,none⟩=some (.int .u8 ((ks 6).toNat:Int))/\w'.cell? ⟨B,7,none⟩=some (.int .u8 ((ks 7).toNat:Int))/\w'.cell? ⟨B,8,none⟩=some (.int .u8 ((ks 8).toNat:Int))/\w'.cell? ⟨B,9,none⟩=some (.int .u8 ((ks 9).toNat:Int))/\w'.cell? ⟨B,10,none⟩=some (.int .u8 ((ks 10).toNat:Int))/\w'.cell? ⟨B,11,none⟩=some (.int .u8 ((ks 11).toNat:Int))/\w'.cell? ⟨B,12,none⟩=some (.int .u8 ((ks 12).toNat:Int))/\w'.cell? ⟨B,13,none⟩=some (.int .u8 ((ks 13).toNat:Int))/\w'.cell? ⟨B,14,none⟩=some (.int .u8 ((ks 14).toNat:Int))/\w'.cell? ⟨B,15,none⟩=some (.int .u8 ((ks 15).toNat:Int)):=by
 refine⟨?_,?_,?_,?_,?_,?_,?_,?_,?_,?_,?_,?_,?_,?_,?_,?_⟩<;>(rw[h.cell];rfl)
theorem KF (w:World) (g:Nat) (a b c d e f:Value):w.setCells g 0 [a,b,c,d,e,f]=(((((w.setCell ⟨g,0,none⟩ a).setCell ⟨g,1,none⟩ b).setCell ⟨g,2,none⟩ c).setCell ⟨g,3,none⟩ d).setCell ⟨g,4,none⟩ e).setCell ⟨g,5,none⟩ f:=rfl
theorem Blk.set6 {w:World} {g:Nat} {t:TypeId} {a b c d e f M Z c' Y X O:Value} (h:Blk w g t #[M,Z,c',Y,X,O]):Blk (w.setCells g 0 [a,b,c,d,e,f]) g t #[a,b,c,d,e,f]:=by
 rw[KF];have:=(((((h.set 0 a).set 1 b).set 2 c).set 3 d).set 4 e).set 5 f
 simpa using this
def Xo:Array Value:=#[.int .u64 0,.int .u64 0,.int .u64 0,.int .u64 0,.int .u64 0,.int .u64 0]
theorem PN (ks:Nat->UInt8) (w:World):Calls Tryz.prog 201 #[.agg (AN ks)] w fun e w'=>e=.returned (.agg (stc ⟨start ks,0,0⟩))/\Below w.heap.size w w':=by
 have hk:AN ks=#[.int .u8 ((ks 0).toNat:Int),.int .u8 ((ks 1).toNat:Int),.int .u8 ((ks 2).toNat:Int),.int .u8 ((ks 3).toNat:Int),.int .u8 ((ks 4).toNat:Int),.int .u8 ((ks 5).toNat:Int),.int .u8 ((ks 6).toNat:Int),.int .u8 ((ks 7).toNat:Int),.int .u8 ((ks 8).toNat:Int),.int .u8 ((ks 9).toNat:Int),.int .u8 ((ks 10).toNat:Int),.int .u8 ((ks 11).toNat:Int),.int .u8 ((ks 12).toNat:Int),.int .u8 ((ks 13).toNat:Int),.int .u8 ((ks 14).toNat:Int),.int .u8 ((ks 15).toNat:Int)]:=rfl;have cA:∀w,Calls Tryz.prog 215 #[.agg #[.int .u8 ((ks 0).toNat:Int),.int .u8 ((ks 1).toNat:Int),.int .u8 ((ks 2).toNat:Int),.int .u8 ((ks 3).toNat:Int),.int .u8 ((ks 4).toNat:Int),.int .u8 ((ks 5).toNat:Int),.int .u8 ((ks 6).toNat:Int),.int .u8 ((ks 7).toNat:Int)]] w fun e w'=>e=.returned (wv (kA ks))/\Below w.heap.size w w':=fun w=>Du ks w
 have cB:∀w,Calls Tryz.prog 215 #[.agg #[.int .u8 ((ks 8).toNat:Int),.int .u8 ((ks 9).toNat:Int),.int .u8 ((ks 10).toNat:Int),.int .u8 ((ks 11).toNat:Int),.int .u8 ((ks 12).toNat:Int),.int .u8 ((ks 13).toNat:Int),.int .u8 ((ks 14).toNat:Int),.int .u8 ((ks 15).toNat:Int)]] w fun e w'=>e=.returned (wv (kB ks))/\Below w.heap.size w w':=fun w=>Du (fun i=>ks (8+i)) w
 obtain⟨p,ep⟩:∃x,x=kA ks:=⟨_,rfl⟩;obtain⟨q,eq⟩:∃x,x=kB ks:=⟨_,rfl⟩;obtain⟨v0,e0⟩:∃x,x=0x736f6d6570736575#64 ^^^ p:=⟨_,rfl⟩;obtain⟨v1,e1⟩:∃x,x=0x646f72616e646f6d#64 ^^^ q:=⟨_,rfl⟩;obtain⟨v2,e2⟩:∃x,x=0x6c7967656e657261#64 ^^^ p:=⟨_,rfl⟩;obtain⟨v3,e3⟩:∃x,x=0x7465646279746573#64 ^^^ q:=⟨_,rfl⟩;have x0:bits .xor .u64 8317987319222330741 (p.toNat:Int)=(v0.toNat:Int):=by rw[e0];exact BH 0x736f6d6570736575#64 p
 have x1:bits .xor .u64 7237128888997146477 (q.toNat:Int)=(v1.toNat:Int):=by rw[e1];exact BH 0x646f72616e646f6d#64 q
 have x2:bits .xor .u64 7816392313619706465 (p.toNat:Int)=(v2.toNat:Int):=by rw[e2];exact BH 0x6c7967656e657261#64 p
 have x3:bits .xor .u64 8387220255154660723 (q.toNat:Int)=(v3.toNat:Int):=by rw[e3];exact BH 0x7465646279746573#64 q
 have hs:stc ⟨start ks,0,0⟩=#[wv v0,wv v1,wv v2,wv v3,.int .u64 0,.int .u64 0]:=by
  rw[e0,e1,e2,e3,ep,eq];rfl
 rw[<-ep] at cA;rw[<-eq] at cB;rw[hs];clear hs ep eq e0 e1 e2 e3;obtain⟨B,eB⟩:=Aj (w.heap.size);have EB:=I eB;rw[hk];clear hk;go_enter Tryz.func201,Tryz.ntmps201
 go_upto_region 1 with fail
 rw[<-eB];clear eB;have ag:∀w:World,(Instr.arrayAt 290 (.slice (some ⟨B,0,none⟩) 8 16)).run Tryz.prog w=.ok (.pointer (some ⟨B,0,none⟩)) w:=fun _=>by kernel_rfl
 have ah:∀w:World,(Instr.arrayAt 290 (.slice (some ⟨B,8,none⟩) 8 8)).run Tryz.prog w=.ok (.pointer (some ⟨B,8,none⟩)) w:=fun _=>by kernel_rfl
 have O:Blk ((w.alloc (.cells #[.int .u8 ((ks 0).toNat:Int),.int .u8 ((ks 1).toNat:Int),.int .u8 ((ks 2).toNat:Int),.int .u8 ((ks 3).toNat:Int),.int .u8 ((ks 4).toNat:Int),.int .u8 ((ks 5).toNat:Int),.int .u8 ((ks 6).toNat:Int),.int .u8 ((ks 7).toNat:Int),.int .u8 ((ks 8).toNat:Int),.int .u8 ((ks 9).toNat:Int),.int .u8 ((ks 10).toNat:Int),.int .u8 ((ks 11).toNat:Int),.int .u8 ((ks 12).toNat:Int),.int .u8 ((ks 13).toNat:Int),.int .u8 ((ks 14).toNat:Int),.int .u8 ((ks 15).toNat:Int)] 166)).alloc (.cells #[.int .u64 0,.int .u64 0,.int .u64 0,.int .u64 0,.int .u64 0,.int .u64 0] 274)) B 166 (AN ks):=Blk.alloc (Blk.new_of w B _ _ (AN ks) rfl EB.o.symm) _;have X:Blk ((w.alloc (.cells #[.int .u8 ((ks 0).toNat:Int),.int .u8 ((ks 1).toNat:Int),.int .u8 ((ks 2).toNat:Int),.int .u8 ((ks 3).toNat:Int),.int .u8 ((ks 4).toNat:Int),.int .u8 ((ks 5).toNat:Int),.int .u8 ((ks 6).toNat:Int),.int .u8 ((ks 7).toNat:Int),.int .u8 ((ks 8).toNat:Int),.int .u8 ((ks 9).toNat:Int),.int .u8 ((ks 10).toNat:Int),.int .u8 ((ks 11).toNat:Int),.int .u8 ((ks 12).toNat:Int),.int .u8 ((ks 13).toNat:Int),.int .u8 ((ks 14).toNat:Int),.int .u8 ((ks 15).toNat:Int)] 166)).alloc (.cells #[.int .u64 0,.int .u64 0,.int .u64 0,.int .u64 0,.int .u64 0,.int .u64 0] 274)) (B+1) 274 Xo:=Blk.new_of (w.alloc _) (B+1) _ _ Xo rfl (by have:=EB.o;simp;omega);have M:Below w.heap.size w ((w.alloc (.cells #[.int .u8 ((ks 0).toNat:Int),.int .u8 ((ks 1).toNat:Int),.int .u8 ((ks 2).toNat:Int),.int .u8 ((ks 3).toNat:Int),.int .u8 ((ks 4).toNat:Int),.int .u8 ((ks 5).toNat:Int),.int .u8 ((ks 6).toNat:Int),.int .u8 ((ks 7).toNat:Int),.int .u8 ((ks 8).toNat:Int),.int .u8 ((ks 9).toNat:Int),.int .u8 ((ks 10).toNat:Int),.int .u8 ((ks 11).toNat:Int),.int .u8 ((ks 12).toNat:Int),.int .u8 ((ks 13).toNat:Int),.int .u8 ((ks 14).toNat:Int),.int .u8 ((ks 15).toNat:Int)] 166)).alloc (.cells #[.int .u64 0,.int .u64 0,.int .u64 0,.int .u64 0,.int .u64 0,.int .u64 0] 274)):=((Below.refl w.heap.size w).alloc Af _).alloc (by simp) _;have af:=I x0;clear x0;have ae:=I x1;clear x1;have ab:=I x2;clear x2;have ad:=I x3;clear x3;generalize ((w.alloc (.cells #[.int .u8 ((ks 0).toNat:Int),.int .u8 ((ks 1).toNat:Int),.int .u8 ((ks 2).toNat:Int),.int .u8 ((ks 3).toNat:Int),.int .u8 ((ks 4).toNat:Int),.int .u8 ((ks 5).toNat:Int),.int .u8 ((ks 6).toNat:Int),.int .u8 ((ks 7).toNat:Int),.int .u8 ((ks 8).toNat:Int),.int .u8 ((ks 9).toNat:Int),.int .u8 ((ks 10).toNat:Int),.int .u8 ((ks 11).toNat:Int),.int .u8 ((ks 12).toNat:Int),.int .u8 ((ks 13).toNat:Int),.int .u8 ((ks 14).toNat:Int),.int .u8 ((ks 15).toNat:Int)] 166)).alloc (.cells #[.int .u64 0,.int .u64 0,.int .u64 0,.int .u64 0,.int .u64 0,.int .u64 0] 274))=W1 at O X M⊢;have O:Blk W1.drew B 166 (AN ks):=O;have X:Blk W1.drew (B+1) 274 #[.int .u64 0,.int .u64 0,.int .u64 0,.int .u64 0,.int .u64 0,.int .u64 0]:=X;have M:Below w.heap.size w W1.drew:=below_drewN M 1
 go_region_held3 (fun w'=>w'.cell? ⟨B,0,none⟩=some (.int .u8 ((ks 0).toNat:Int))/\w'.cell? ⟨B,1,none⟩=some (.int .u8 ((ks 1).toNat:Int))/\w'.cell? ⟨B,2,none⟩=some (.int .u8 ((ks 2).toNat:Int))/\w'.cell? ⟨B,3,none⟩=some (.int .u8 ((ks 3).toNat:Int))/\w'.cell? ⟨B,4,none⟩=some (.int .u8 ((ks 4).toNat:Int))/\w'.cell? ⟨B,5,none⟩=some (.int .u8 ((ks 5).toNat:Int))/\w'.cell? ⟨B,6,none⟩=some (.int .u8 ((ks 6).toNat:Int))/\w'.cell? ⟨B,7,none⟩=some (.int .u8 ((ks 7).toNat:Int))/\w'.cell? ⟨B,8,none⟩=some (.int .u8 ((ks 8).toNat:Int))/\w'.cell? ⟨B,9,none⟩=some (.int .u8 ((ks 9).toNat:Int))/\w'.cell? ⟨B,10,none⟩=some (.int .u8 ((ks 10).toNat:Int))/\w'.cell? ⟨B,11,none⟩=some (.int .u8 ((ks 11).toNat:Int))/\w'.cell? ⟨B,12,none⟩=some (.int .u8 ((ks 12).toNat:Int))/\w'.cell? ⟨B,13,none⟩=some (.int .u8 ((ks 13).toNat:Int))/\w'.cell? ⟨B,14,none⟩=some (.int .u8 ((ks 14).toNat:Int))/\w'.cell? ⟨B,15,none⟩=some (.int .u8 ((ks 15).toNat:Int))) (exact k16 O) (first | (go_at_call 215;refine Ah (cA _) ?_;rintro wq hb;clear cA;have Y:=Blk.below O hb;have Z:=Blk.below X hb;have aa:=bt M hb;clear O X M;have O:=Y;have X:=Z;have M:=aa;clear Y Z aa hb) | (go_at_call 215;refine Ah (cB _) ?_;rintro wq hb;clear cB;have Y:=Blk.below O hb;have Z:=Blk.below X hb;have aa:=bt M hb;clear O X M;have O:=Y;have X:=Z;have M:=aa;clear Y Z aa hb))
 all_goals
  have x0:=af.o;have x1:=ae.o;have x2:=ab.o;have x3:=ad.o;have HZ:=I X;clear X;have HW:=I M;clear M;clear O af ae ab ad
 all_goals
  have c0:wq.cell? ⟨B+1,0,none⟩=some (.int .u64 0):=by rw[HZ.o.cell];rfl
  have c1:wq.cell? ⟨B+1,1,none⟩=some (.int .u64 0):=by rw[HZ.o.cell];rfl
  have c2:wq.cell? ⟨B+1,2,none⟩=some (.int .u64 0):=by rw[HZ.o.cell];rfl
  have c3:wq.cell? ⟨B+1,3,none⟩=some (.int .u64 0):=by rw[HZ.o.cell];rfl
  have c4:wq.cell? ⟨B+1,4,none⟩=some (.int .u64 0):=by rw[HZ.o.cell];rfl
  have c5:wq.cell? ⟨B+1,5,none⟩=some (.int .u64 0):=by rw[HZ.o.cell];rfl
  have fz:=HZ.o.frozen;clear ag ah
 all_goals go_wp2_with fail
 all_goals
  have hE:=Blk.set6 (a:=wv v0) (b:=wv v1) (c:=wv v2) (d:=wv v3) (e:=.int .u64 0) (f:=.int .u64 0) HZ.o;rw[KF] at hE;have hq:=Ao (P:=Tryz.prog) hE Tryz.underlying274 rfl (by kernel_rfl);refine bodyPost_ret (v:=.agg #[wv v0,wv v1,wv v2,wv v3,.int .u64 0,.int .u64 0]) ?_ ?_ ?_
  ·exact Al 2 274 ⟨B+1,0,none⟩ Tryz.results201 rfl hq
  ·rfl
  refine⟨rfl,?_⟩;have hle:w.heap.size<=B+1:=by have:=EB.o;omega
  repeat (refine AX ?_ hle _)
  exact HW.o
end Si
end Go.Proofs.YtcpccikongbopaaGreat
