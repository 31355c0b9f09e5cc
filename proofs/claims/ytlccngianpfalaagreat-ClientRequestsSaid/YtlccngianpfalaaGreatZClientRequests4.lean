import Derived.Test.YtlccngianpfalaaGreatZClientRequests1
set_option maxHeartbeats 25600000
set_option maxRecDepth 100000
set_option linter.unusedVariables false
set_option linter.unusedSimpArgs false
namespace Go.Proofs.YtlccngianpfalaaGreat
namespace Si
open Go.RowKit Ae
abbrev Wd:=BitVec 64
def rot (v:Wd) (s:Nat):Wd:=(v <<< s) ||| (v >>> (64 - s))
abbrev wv (v:Wd):Value:=.int .u64 (v.toNat:Int)
def wd (n:Nat):Wd:=BitVec.ofNat 64 n
theorem Gh (v:Wd):v.toNat<18446744073709551616:=v.isLt
theorem Jq (n:Nat) (h:n<18446744073709551616):(wd n).toNat=n:=by
 rw[wd,BitVec.toNat_ofNat];exact Nat.mod_eq_of_lt h
theorem BD (x y:Wd):bits .xor .u64 (x.toNat:Int) (y.toNat:Int)=((x ^^^ y).toNat:Int):=by
 rw[u64_xor_nat _ _ x.isLt y.isLt,BitVec.toNat_xor]
theorem FZ (x y:Wd):((x.toNat:Int)+(y.toNat:Int)) % 18446744073709551616=((x+y).toNat:Int):=by
 rw[BitVec.toNat_add];omega
theorem Ht (x y:Wd):IntKind.u64.wrap ((x.toNat:Int)+(y.toNat:Int))=((x+y).toNat:Int):=by
 rw[IntKind.wrap_u64,FZ]
theorem JN (v:Wd) (s:Nat):(rot v s).toNat=(v.toNat*2 ^ s % 18446744073709551616) ||| (v.toNat / 2 ^ (64 - s)):=by
 simp [rot,BitVec.toNat_or,BitVec.toNat_shiftLeft,BitVec.toNat_ushiftRight,Nat.shiftLeft_eq,Nat.shiftRight_eq_div_pow]
theorem Hr (v:Wd) (a b:Nat) (s:Nat) (O:a=v.toNat*2 ^ s % 18446744073709551616) (M:b=v.toNat / 2 ^ (64 - s)):bits .or .u64 (a:Int) (b:Int)=((rot v s).toNat:Int):=by
 rw[u64_or_nat a b (by omega) (by have:=Gh v;have:=Nat.div_le_self v.toNat (2 ^ (64 - s));omega),JN,O,M]
theorem or13 (v:Wd):bits .or .u64 ((v.toNat:Int)*8192 % 18446744073709551616) ((v.toNat:Int) / 2251799813685248)=((rot v 13).toNat:Int):=Hr v _ _ 13 rfl rfl
theorem or32 (v:Wd):bits .or .u64 ((v.toNat:Int)*4294967296 % 18446744073709551616) ((v.toNat:Int) / 4294967296)=((rot v 32).toNat:Int):=Hr v _ _ 32 rfl rfl
theorem or16 (v:Wd):bits .or .u64 ((v.toNat:Int)*65536 % 18446744073709551616) ((v.toNat:Int) / 281474976710656)=((rot v 16).toNat:Int):=Hr v _ _ 16 rfl rfl
theorem or21 (v:Wd):bits .or .u64 ((v.toNat:Int)*2097152 % 18446744073709551616) ((v.toNat:Int) / 8796093022208)=((rot v 21).toNat:Int):=Hr v _ _ 21 rfl rfl
theorem or17 (v:Wd):bits .or .u64 ((v.toNat:Int)*131072 % 18446744073709551616) ((v.toNat:Int) / 140737488355328)=((rot v 17).toNat:Int):=Hr v _ _ 17 rfl rfl
def BQ:List UInt8->Nat
 | []=>0
 |b :: l=>b.toNat+256*BQ l
theorem GG:∀l,BQ l<256 ^ l.length
 | []=>by simp [BQ]
 |b :: l=>by
  have h:=GG l;have M:=b.toNat_lt;rw[BQ,List.length_cons,Nat.pow_succ];omega
theorem Hb (b:UInt8):∀l,BQ (l++[b])=BQ l+b.toNat*256 ^ l.length
 | []=>by simp [BQ]
 |c :: l=>by
  rw[List.cons_append,BQ,Hb b l,BQ,List.length_cons,Nat.pow_succ,Nat.mul_add,Nat.add_assoc]
  congr 2
  rw[Nat.mul_comm,Nat.mul_assoc]
theorem JR {l:List UInt8} (h:l.length<=8):BQ l<18446744073709551616:=
 Nat.lt_of_lt_of_le (GG l) (Nat.pow_le_pow_right (by decide) h:256 ^ l.length<=256 ^ 8)
theorem PV {l:List UInt8} (h:l.length<=7):BQ l<72057594037927936:=
 Nat.lt_of_lt_of_le (GG l) (Nat.pow_le_pow_right (by decide) h:256 ^ l.length<=256 ^ 7)
structure V where
 a:Wd
 b:Wd
 c:Wd
 d:Wd
def rnd (s:V):V:=
 let a1:=s.a+s.b
 let b1:=rot s.b 13 ^^^ a1
 let a2:=rot a1 32
 let c1:=s.c+s.d
 let d1:=rot s.d 16 ^^^ c1
 let a3:=a2+d1
 let d2:=rot d1 21 ^^^ a3
 let c2:=c1+b1
 let b2:=rot b1 17 ^^^ c2
 let c3:=rot c2 32
 ⟨a3,b2,c3,d2⟩
def rnds:Nat->V->V
 |0,s=>s
 |n+1,s=>rnd (rnds n s)
def addM (s:V) (m:Wd):V:=⟨(rnds 2 ⟨s.a,s.b,s.c,s.d ^^^ m⟩).a ^^^ m,(rnds 2 ⟨s.a,s.b,s.c,s.d ^^^ m⟩).b,(rnds 2 ⟨s.a,s.b,s.c,s.d ^^^ m⟩).c,(rnds 2 ⟨s.a,s.b,s.c,s.d ^^^ m⟩).d⟩
def allX (s:V):Wd:=s.a ^^^ s.b ^^^ s.c ^^^ s.d
def fin (s:V):Wd:=allX (rnds 4 ⟨s.a,s.b,s.c ^^^ 255#64,s.d⟩)
def kA (ks:Nat->UInt8):Wd:=wd (BQ ((List.range 8).map ks))
def kB (ks:Nat->UInt8):Wd:=wd (BQ ((List.range 8).map fun i=>ks (8+i)))
def start (ks:Nat->UInt8):V:=⟨0x736f6d6570736575#64 ^^^ kA ks,0x646f72616e646f6d#64 ^^^ kB ks,0x6c7967656e657261#64 ^^^ kA ks,0x7465646279746573#64 ^^^ kB ks⟩
structure St where
 v:V
 r:Nat
 n:Nat
def addB (s:St) (b:UInt8):St:=
 if (s.n+1) % 8=0 then ⟨addM s.v (wd (s.r+b.toNat*256 ^ (s.n % 8))),0,s.n+1⟩ else ⟨s.v,s.r+b.toNat*256 ^ (s.n % 8),s.n+1⟩
theorem MU (s:St) (b:UInt8) (h:(s.n+1) % 8=0):addB s b=⟨addM s.v (wd (s.r+b.toNat*256 ^ (s.n % 8))),0,s.n+1⟩:=if_pos h
theorem PY (s:St) (b:UInt8) (h:¬(s.n+1) % 8=0):addB s b=⟨s.v,s.r+b.toNat*256 ^ (s.n % 8),s.n+1⟩:=if_neg h
def stOf (ks:Nat->UInt8) (l:List UInt8):St:=l.foldl addB ⟨start ks,0,0⟩
def Oh (s:St):Wd:=wd (s.r+s.n % 256*72057594037927936)
def finS (s:St):Wd:=fin (addM s.v (Oh s))
def Hc (ks:Nat->UInt8) (l:List UInt8):Wd:=finS (stOf ks l)
theorem KK (ks:Nat->UInt8) (l:List UInt8) (b:UInt8):stOf ks (l++[b])=addB (stOf ks l) b:=by simp [stOf]
def full (ks:Nat->UInt8) (p:List UInt8):Nat->V
 |0=>start ks
 |j+1=>addM (full ks p j) (wd (BQ ((p.drop (8*j)).take 8)))
theorem KL (ks:Nat->UInt8) (p:List UInt8):∀n,n<=p.length->stOf ks (p.take n)=⟨full ks p (n / 8),BQ ((p.take n).drop (8*(n / 8))),n⟩
 |0,_=>by simp [stOf,full,BQ]
 |n+1,h=>by
  have ih:=KL ks p n (by omega);have O:n<p.length:=by omega
  have X:p.take (n+1)=p.take n++[p[n]]:=by rw[List.take_succ_eq_append_getElem O]
  have el:((p.take n).drop (8*(n / 8))).length=n % 8:=by rw[List.length_drop,List.length_take];omega
  have ew:(p.take (n+1)).drop (8*(n / 8))=(p.take n).drop (8*(n / 8))++[p[n]]:=by
   rw[X,List.drop_append_of_le_length (by rw[List.length_take];omega)]
  have Y:BQ ((p.take (n+1)).drop (8*(n / 8)))=BQ ((p.take n).drop (8*(n / 8)))+p[n].toNat*256 ^ (n % 8):=by rw[ew,Hb,el]
  have e0:stOf ks (p.take (n+1))=addB (stOf ks (p.take n)) p[n]:=by rw[X,KK]
  have ez:(p.take (n+1)).drop (n+1) = []:=List.drop_of_length_le (by rw[List.length_take];omega);rw[e0,ih]
  by_cases h8:(n+1) % 8=0
  ·have M:(n+1) / 8=n / 8+1:=by omega
   have hm:8*((n+1) / 8)=n+1:=by omega
   have Z:(p.take (n+1)).drop (8*(n / 8))=(p.drop (8*(n / 8))).take 8:=by rw[List.drop_take,show n+1 - 8*(n / 8)=8 by omega]
   rw[MU _ _ h8,<-Y,hm,ez,M,full,Z];simp only[BQ]
  ·have M:(n+1) / 8=n / 8:=by omega
   rw[PY _ _ h8,M,Y]
theorem FP (ks:Nat->UInt8) (p:List UInt8):stOf ks p=⟨full ks p (p.length / 8),BQ (p.drop (8*(p.length / 8))),p.length⟩:=by
 have h:=KL ks p p.length Af
 rwa [List.take_length] at h
theorem Xr (ks:Nat->UInt8) (p:List UInt8):(stOf ks p).n=p.length:=by rw[FP]
theorem UJ (ks:Nat->UInt8) (p:List UInt8):(stOf ks p).r<256 ^ ((stOf ks p).n % 8):=by
 rw[FP];have h:=GG (p.drop (8*(p.length / 8)));rw[List.length_drop] at h
 rwa [show p.length - 8*(p.length / 8)=p.length % 8 by omega] at h
theorem SS (k:Nat) (h:k<=7):256 ^ k<=72057594037927936:=(Nat.pow_le_pow_right (by decide) h:256 ^ k<=256 ^ 7)
theorem KM (r b k:Nat) (M:r<256 ^ k):r ||| b*256 ^ k=r+b*256 ^ k:=by
 have e:(256:Nat) ^ k=2 ^ (8*k):=by rw[Nat.pow_mul]
 rw[e] at M⊢;have h:=Nat.shiftLeft_add_eq_or_of_lt M b;rw[Nat.shiftLeft_eq] at h;rw[Nat.or_comm,<-h,Nat.add_comm]
theorem MV (r:Nat) (b:UInt8) (k:Nat) (M:r<256 ^ k):r+b.toNat*256 ^ k<256 ^ (k+1):=by
 have O:=b.toNat_lt;rw[Nat.pow_succ];have:b.toNat*256 ^ k<=255*256 ^ k:=Nat.mul_le_mul_right _ (by omega);omega
theorem JS (r:Nat) (b:UInt8) (k:Nat) (hk:k<=7) (M:r<256 ^ k) (X:Int) (O:X=((b.toNat*256 ^ k:Nat):Int)):bits .or .u64 (r:Int) X=((r+b.toNat*256 ^ k:Nat):Int):=by
 have hp:=SS k hk;have hl:=MV r b k M;have Z:(256:Nat) ^ (k+1)<=256 ^ 8:=Nat.pow_le_pow_right (by decide) (by omega);have Y:(256:Nat) ^ 8=18446744073709551616:=by decide
 rw[O,u64_or_nat _ _ (by omega) (by omega),KM r _ k M]
theorem MW (r n:Nat) (O:r<72057594037927936):bits .or .u64 (r:Int) ((n:Int)*72057594037927936 % 18446744073709551616)=((r+n % 256*72057594037927936:Nat):Int):=by
 have e:(n:Int)*72057594037927936 % 18446744073709551616=((n % 256*256 ^ 7:Nat):Int):=by
  have:(256:Nat) ^ 7=72057594037927936:=by decide
  rw[this];omega
 have M:(UInt8.ofNat (n % 256)).toNat=n % 256:=by simp
 have h:=JS r (UInt8.ofNat (n % 256)) 7 (by decide) O ((n:Int)*72057594037927936 % 18446744073709551616) (by rw[e,M]);rw[h,M]
theorem Xs (v:Wd) (w:World):Calls Tryz.prog 221 #[wv v,.int .i64 13] w fun e w'=>e=.returned (wv (rot v 13))/\w'=w:=by
 have hand:bits .and .u64 13 63=13:=by kernel_rfl
 have M:=or13 v;rw[<-IntKind.wrap_u64] at M;go_enter Tryz.func221,Tryz.ntmps221
 go_wp2
 go_ret;exact⟨rfl,rfl⟩
theorem UK (v:Wd) (w:World):Calls Tryz.prog 221 #[wv v,.int .i64 32] w fun e w'=>e=.returned (wv (rot v 32))/\w'=w:=by
 have hand:bits .and .u64 32 63=32:=by kernel_rfl
 have M:=or32 v;rw[<-IntKind.wrap_u64] at M;go_enter Tryz.func221,Tryz.ntmps221
 go_wp2
 go_ret;exact⟨rfl,rfl⟩
theorem Xt (v:Wd) (w:World):Calls Tryz.prog 221 #[wv v,.int .i64 16] w fun e w'=>e=.returned (wv (rot v 16))/\w'=w:=by
 have hand:bits .and .u64 16 63=16:=by kernel_rfl
 have M:=or16 v;rw[<-IntKind.wrap_u64] at M;go_enter Tryz.func221,Tryz.ntmps221
 go_wp2
 go_ret;exact⟨rfl,rfl⟩
theorem Xu (v:Wd) (w:World):Calls Tryz.prog 221 #[wv v,.int .i64 21] w fun e w'=>e=.returned (wv (rot v 21))/\w'=w:=by
 have hand:bits .and .u64 21 63=21:=by kernel_rfl
 have M:=or21 v;rw[<-IntKind.wrap_u64] at M;go_enter Tryz.func221,Tryz.ntmps221
 go_wp2
 go_ret;exact⟨rfl,rfl⟩
theorem Xv (v:Wd) (w:World):Calls Tryz.prog 221 #[wv v,.int .i64 17] w fun e w'=>e=.returned (wv (rot v 17))/\w'=w:=by
 have hand:bits .and .u64 17 63=17:=by kernel_rfl
 have M:=or17 v;rw[<-IntKind.wrap_u64] at M;go_enter Tryz.func221,Tryz.ntmps221
 go_wp2
 go_ret;exact⟨rfl,rfl⟩
theorem VJ (v:Wd) (w:World):Calls Tryz.prog 159 #[wv v,.int .u64 13] w fun e w'=>e=.returned (wv (rot v 13))/\w'=w:=by
 have M:=or13 v;rw[<-IntKind.wrap_u64] at M;go_enter Tryz.func159,Tryz.ntmps159
 go_wp2
 go_ret;exact⟨rfl,rfl⟩
theorem PZ (v:Wd) (w:World):Calls Tryz.prog 159 #[wv v,.int .u64 32] w fun e w'=>e=.returned (wv (rot v 32))/\w'=w:=by
 have M:=or32 v;rw[<-IntKind.wrap_u64] at M;go_enter Tryz.func159,Tryz.ntmps159
 go_wp2
 go_ret;exact⟨rfl,rfl⟩
theorem VK (v:Wd) (w:World):Calls Tryz.prog 159 #[wv v,.int .u64 16] w fun e w'=>e=.returned (wv (rot v 16))/\w'=w:=by
 have M:=or16 v;rw[<-IntKind.wrap_u64] at M;go_enter Tryz.func159,Tryz.ntmps159
 go_wp2
 go_ret;exact⟨rfl,rfl⟩
theorem VL (v:Wd) (w:World):Calls Tryz.prog 159 #[wv v,.int .u64 21] w fun e w'=>e=.returned (wv (rot v 21))/\w'=w:=by
 have M:=or21 v;rw[<-IntKind.wrap_u64] at M;go_enter Tryz.func159,Tryz.ntmps159
 go_wp2
 go_ret;exact⟨rfl,rfl⟩
theorem VM (v:Wd) (w:World):Calls Tryz.prog 159 #[wv v,.int .u64 17] w fun e w'=>e=.returned (wv (rot v 17))/\w'=w:=by
 have M:=or17 v;rw[<-IntKind.wrap_u64] at M;go_enter Tryz.func159,Tryz.ntmps159
 go_wp2
 go_ret;exact⟨rfl,rfl⟩
theorem VN (M:Nat) (b:UInt8) (X:M<72057594037927936):bits .or .u64 ((M:Int)*256) (b.toNat:Int)=((b.toNat+256*M:Nat):Int):=by
 have O:=b.toNat_lt;have e:(M:Int)*256=((M*256:Nat):Int):=by omega
 rw[e,u64_or_nat _ _ (by omega) (by omega)];have h:=nat_join 8 (M*256) b.toNat (by omega) (by omega);rw[h];omega
theorem LN (A:Option Addr) (n c:Nat) (l:List UInt8) (w:World) (B:Nat) (hn:n=l.length) (h8:n<=8) (hr:Rd w B A (bvs l)) :
  Calls Tryz.prog 119 #[.slice A n c] w fun e w'=>e=.returned (wv (wd (BQ l)))/\w'=w:=by
 have HR:=I hr;clear hr;have HN:=I hn;clear hn;have H8:=I h8;clear h8;have e8:(n:Int)<=8:=by have:=H8.o;omega
 go_enter Tryz.func119,Tryz.ntmps119
 go_wp2_with fail
 go_loop [3,4] (fun mv iv=>∃j:Nat,j<=n/\iv=.int .i64 ((j:Int) - 1)/\mv=.int .u64 (BQ (l.drop j):Nat)) (fun _ iv=>(intOf iv+1).toNat)
 case atStart=>exact⟨n,Nat.le_refl _,by go_num,by rw[List.drop_of_length_le (by have:=HN.o;omega)];rfl⟩
 case round=>
  obtain⟨j,hj,rfl,rfl⟩:=hrel;cases j with
  |zero=>
   have e:(BQ l:Int)=((wd (BQ l)).toNat:Int):=by rw[Jq _ (JR (by have:=HN.o;have:=H8.o;omega))]
   rw[List.drop_zero];obtain⟨x,ex⟩:=Aj (BQ l);rw[<-ex] at e⊢;have E:=I e;clear e;have EX:=I ex;clear ex
   go_wp2_with fail
   go_ret;exact⟨by rw[wv,<-EX.o];simp [E.o],rfl⟩
  |succ j=>
   have hc:((j+1:Nat):Int) - 1=(j:Int):=by omega
   rw[hc];have X:j<l.length:=by have:=HN.o;omega
   have hr:=HR.o;obtain⟨b,o,rfl,ad,O⟩:=hr.at_ (DR X);have Z:w.cell? ⟨b,o+j,none⟩=some (.int .u8 ((l[j]).toNat:Int)):=O;clear O;obtain⟨y,ey⟩:=Aj (l[j]);rw[<-ey] at Z;obtain⟨M,eM⟩:=Aj (BQ (l.drop (j+1)));rw[<-eM];have hM:M<72057594037927936:=by rw[eM];exact PV (by rw[List.length_drop];have:=HN.o;have:=H8.o;omega)
   have e2:y.toNat+256*M=BQ (l.drop j):=by rw[eM,ey,List.drop_eq_getElem_cons X,BQ]
   have hx:=VN M y hM;rw[e2] at hx;obtain⟨M2,Y⟩:∃M,M=BQ (l.drop j):=⟨_,rfl⟩;rw[<-Y] at hx;have aa:=I Y;have e3:(0:Int)<=(j:Int):=by omega
   have e4:(j:Int)<(n:Int):=by omega
   have e5:j<n:=by omega
   have e7:(j:Int)<8:=by omega
   have hy:IntKind.u64.wrap (y.toNat:Int)=(y.toNat:Int):=by rw[IntKind.wrap_u64];have:=y.toNat_lt;omega
   have HJ:=I hj;have ab:=I X;clear hj X hr eM e2 ey Y
   go_wp2_with fail
   go_round
   case rel=>exact⟨j,by omega,by go_num,by rw[aa.o]⟩
   case measure=>simp [intOf]
def key8 (f:Nat->UInt8):Array Value:=#[.int .u8 (f 0).toNat,.int .u8 (f 1).toNat,.int .u8 (f 2).toNat,.int .u8 (f 3).toNat,.int .u8 (f 4).toNat,.int .u8 (f 5).toNat,.int .u8 (f 6).toNat,.int .u8 (f 7).toNat]
def Hd (f:Nat->UInt8) (i:Nat):Nat:=BQ ((List.range i).map f)
theorem Oi (f:Nat->UInt8) (i:Nat):Hd f (i+1)=Hd f i+(f i).toNat*256 ^ i:=by
 unfold Hd;rw[List.range_succ,List.map_append,List.map_singleton,Hb];simp
theorem SU (f:Nat->UInt8) (i:Nat):Hd f i<256 ^ i:=by
 have:=GG ((List.range i).map f)
 simpa [Hd] using this
theorem or_at (f:Nat->UInt8) (i:Nat) (K:Int) (M:i<=7) (X:K=((256 ^ i:Nat):Int)):bits .or .u64 (Hd f i:Nat) (IntKind.u64.wrap (((f i).toNat:Int)*K))=(Hd f (i+1):Nat):=by
 rw[Oi];refine JS _ _ i M (SU f i) _ ?_;have O:=SS i M;have Z:=(f i).toNat_lt;have Y:(f i).toNat*256 ^ i<=255*72057594037927936:=Nat.mul_le_mul (by omega) O;rw[X,IntKind.wrap_u64,<-Int.natCast_mul];omega
theorem DA (f:Nat->UInt8) (w:World) :
  Calls Tryz.prog 209 #[.agg (key8 f)] w fun e w'=>e=.returned (wv (wd (Hd f 8)))/\Below w.heap.size w w':=by
 unfold key8;go_enter Tryz.func209,Tryz.ntmps209
 go_wp2_with fail
 go_loop [3,7] (fun mv iv=>∃j:Nat,j<=8/\iv=.int .i64 (j:Int)/\mv=.int .u64 (Hd f j:Nat)) (fun _ iv=>8 - (intOf iv).toNat)
 case atStart=>exact⟨0,by decide,rfl,rfl⟩
 case round=>
  obtain⟨j,hj,rfl,rfl⟩:=hrel;obtain⟨M,eM⟩:=Aj (Hd f j);obtain⟨M2,Z⟩:∃M,M=Hd f (j+1):=⟨_,rfl⟩;have O:∀K:Int,j<=7->K=((256 ^ j:Nat):Int)->bits .or .u64 (M:Int) (IntKind.u64.wrap (((f j).toNat:Int)*K))=(M2:Int):=fun K h1 h2=>by rw[eM,Z];exact or_at f j K h1 h2
  rw[<-eM];have EM:=I eM;clear eM;have X:=I Z;clear Z;have hs:j=0\/j=1\/j=2\/j=3\/j=4\/j=5\/j=6\/j=7\/j=8:=by omega
  clear hj;rcases hs with rfl | rfl | rfl | rfl | rfl | rfl | rfl | rfl | rfl
  ·have O:=O 1 (by decide) (by decide)
   have Y:IntKind.u64.wrap ((f 0).toNat:Int)=((f 0).toNat:Int):=by rw[IntKind.wrap_u64];have:=(f 0).toNat_lt;omega
   rw[Int.mul_one,Y] at O;have hi:∀w:World,(Instr.index 288 (.agg #[.int .u8 (f 0).toNat,.int .u8 (f 1).toNat,.int .u8 (f 2).toNat,.int .u8 (f 3).toNat,.int .u8 (f 4).toNat,.int .u8 (f 5).toNat,.int .u8 (f 6).toNat,.int .u8 (f 7).toNat]) (.int .i64 0)).run Tryz.prog w=.ok (.int .u8 (f 0).toNat) w:=fun _=>by kernel_rfl
   go_wp2_with fail
   go_round
   case rel=>exact⟨1,by decide,by go_num,by rw[X.o]⟩
   case measure=>simp [intOf]
  ·have O:=O 256 (by decide) (by decide)
   have Y:IntKind.u64.wrap ((f 1).toNat:Int)=((f 1).toNat:Int):=by rw[IntKind.wrap_u64];have:=(f 1).toNat_lt;omega
   have hi:∀w:World,(Instr.index 288 (.agg #[.int .u8 (f 0).toNat,.int .u8 (f 1).toNat,.int .u8 (f 2).toNat,.int .u8 (f 3).toNat,.int .u8 (f 4).toNat,.int .u8 (f 5).toNat,.int .u8 (f 6).toNat,.int .u8 (f 7).toNat]) (.int .i64 1)).run Tryz.prog w=.ok (.int .u8 (f 1).toNat) w:=fun _=>by kernel_rfl
   go_wp2_with fail
   go_round
   case rel=>exact⟨2,by decide,by go_num,by rw[X.o]⟩
   case measure=>simp [intOf]
  ·have O:=O 65536 (by decide) (by decide)
   have Y:IntKind.u64.wrap ((f 2).toNat:Int)=((f 2).toNat:Int):=by rw[IntKind.wrap_u64];have:=(f 2).toNat_lt;omega
   have hi:∀w:World,(Instr.index 288 (.agg #[.int .u8 (f 0).toNat,.int .u8 (f 1).toNat,.int .u8 (f 2).toNat,.int .u8 (f 3).toNat,.int .u8 (f 4).toNat,.int .u8 (f 5).toNat,.int .u8 (f 6).toNat,.int .u8 (f 7).toNat]) (.int .i64 2)).run Tryz.prog w=.ok (.int .u8 (f 2).toNat) w:=fun _=>by kernel_rfl
   go_wp2_with fail
   go_round
   case rel=>exact⟨3,by decide,by go_num,by rw[X.o]⟩
   case measure=>simp [intOf]
  ·have O:=O 16777216 (by decide) (by decide)
   have Y:IntKind.u64.wrap ((f 3).toNat:Int)=((f 3).toNat:Int):=by rw[IntKind.wrap_u64];have:=(f 3).toNat_lt;omega
   have hi:∀w:World,(Instr.index 288 (.agg #[.int .u8 (f 0).toNat,.int .u8 (f 1).toNat,.int .u8 (f 2).toNat,.int .u8 (f 3).toNat,.int .u8 (f 4).toNat,.int .u8 (f 5).toNat,.int .u8 (f 6).toNat,.int .u8 (f 7).toNat]) (.int .i64 3)).run Tryz.prog w=.ok (.int .u8 (f 3).toNat) w:=fun _=>by kernel_rfl
   go_wp2_with fail
   go_round
   case rel=>exact⟨4,by decide,by go_num,by rw[X.o]⟩
   case measure=>simp [intOf]
  ·have O:=O 4294967296 (by decide) (by decide)
   have Y:IntKind.u64.wrap ((f 4).toNat:Int)=((f 4).toNat:Int):=by rw[IntKind.wrap_u64];have:=(f 4).toNat_lt;omega
   have hi:∀w:World,(Instr.index 288 (.agg #[.int .u8 (f 0).toNat,.int .u8 (f 1).toNat,.int .u8 (f 2).toNat,.int .u8 (f 3).toNat,.int .u8 (f 4).toNat,.int .u8 (f 5).toNat,.int .u8 (f 6).toNat,.int .u8 (f 7).toNat]) (.int .i64 4)).run Tryz.prog w=.ok (.int .u8 (f 4).toNat) w:=fun _=>by kernel_rfl
   go_wp2_with fail
   go_round
   case rel=>exact⟨5,by decide,by go_num,by rw[X.o]⟩
   case measure=>simp [intOf]
  ·have O:=O 1099511627776 (by decide) (by decide)
   have Y:IntKind.u64.wrap ((f 5).toNat:Int)=((f 5).toNat:Int):=by rw[IntKind.wrap_u64];have:=(f 5).toNat_lt;omega
   have hi:∀w:World,(Instr.index 288 (.agg #[.int .u8 (f 0).toNat,.int .u8 (f 1).toNat,.int .u8 (f 2).toNat,.int .u8 (f 3).toNat,.int .u8 (f 4).toNat,.int .u8 (f 5).toNat,.int .u8 (f 6).toNat,.int .u8 (f 7).toNat]) (.int .i64 5)).run Tryz.prog w=.ok (.int .u8 (f 5).toNat) w:=fun _=>by kernel_rfl
   go_wp2_with fail
   go_round
   case rel=>exact⟨6,by decide,by go_num,by rw[X.o]⟩
   case measure=>simp [intOf]
  ·have O:=O 281474976710656 (by decide) (by decide)
   have Y:IntKind.u64.wrap ((f 6).toNat:Int)=((f 6).toNat:Int):=by rw[IntKind.wrap_u64];have:=(f 6).toNat_lt;omega
   have hi:∀w:World,(Instr.index 288 (.agg #[.int .u8 (f 0).toNat,.int .u8 (f 1).toNat,.int .u8 (f 2).toNat,.int .u8 (f 3).toNat,.int .u8 (f 4).toNat,.int .u8 (f 5).toNat,.int .u8 (f 6).toNat,.int .u8 (f 7).toNat]) (.int .i64 6)).run Tryz.prog w=.ok (.int .u8 (f 6).toNat) w:=fun _=>by kernel_rfl
   go_wp2_with fail
   go_round
   case rel=>exact⟨7,by decide,by go_num,by rw[X.o]⟩
   case measure=>simp [intOf]
  ·have O:=O 72057594037927936 (by decide) (by decide)
   have Y:IntKind.u64.wrap ((f 7).toNat:Int)=((f 7).toNat:Int):=by rw[IntKind.wrap_u64];have:=(f 7).toNat_lt;omega
   have hi:∀w:World,(Instr.index 288 (.agg #[.int .u8 (f 0).toNat,.int .u8 (f 1).toNat,.int .u8 (f 2).toNat,.int .u8 (f 3).toNat,.int .u8 (f 4).toNat,.int .u8 (f 5).toNat,.int .u8 (f 6).toNat,.int .u8 (f 7).toNat]) (.int .i64 7)).run Tryz.prog w=.ok (.int .u8 (f 7).toNat) w:=fun _=>by kernel_rfl
   go_wp2_with fail
   go_round
   case rel=>exact⟨8,by decide,by go_num,by rw[X.o]⟩
   case measure=>simp [intOf]
  ·have O:=Jq (Hd f 8) (JR (by simp))
   have hz:M=(wd (Hd f 8)).toNat:=by rw[O];exact EM.o
   have HZ:=I hz;clear hz;clear O
   go_wp2_with fail
   go_ret;exact⟨by rw[wv,<-HZ.o];rfl,(Below.refl w.heap.size w).alloc Af _⟩
def ID (s:V) (R N:Value):Array Value:=#[wv s.a,wv s.b,wv s.c,wv s.d,R,N]
def DJ (s:V):Array Value:=#[wv s.a,wv s.b,wv s.c,wv s.d]
theorem Jr (g n:Nat) (s:V) (R N:Value) (w:World) (hn:n<=4) (hB:Blk w g 276 (ID s R N)) :
  Calls Tryz.prog 211 #[.pointer (some ⟨g,0,none⟩),.int .i64 (n:Int)] w fun e w'=>e=.returned (.tuple #[])/\Blk w' g 276 (ID (rnds n s) R N)/\w.grownBy w' (some g):=by
 have HB:=I hB;clear hB;go_enter Tryz.func211,Tryz.ntmps211
 go_wp2_with fail
 go_loopw [5] (fun iv wr=>∃i:Nat,i<=n/\iv=.int .i64 (i:Int)/\Blk wr g 276 (ID (rnds i s) R N)/\w.grownBy wr (some g)) (fun iv _=>n - (intOf iv).toNat)
 case atStart=>exact⟨0,Nat.zero_le _,rfl,HB.o,World.grownBy.refl w _⟩
 case round=>
  obtain⟨i,hi,rfl,hB,hG⟩:=hrel
  by_cases hx:i=n
  ·subst hx
   have M:=I hB;clear hB;have aA:=I hG;clear hG
   go_wp2_with fail
   go_end0
   exact⟨rfl,M.o,aA.o⟩
  ·have ct:i<n:=by omega
   have e1:(i:Int)<(n:Int):=by omega
   have e2:(0:Int)<=(i:Int):=by omega
   have e3:(i:Int)<4:=by omega
   have HX:=I hx;clear hx;have HI:=I hi;clear hi;obtain⟨⟨a,b,c,d⟩,es⟩:∃t,t=rnds i s:=⟨_,rfl⟩;rw[<-es] at hB;have ES:=I es;clear es;have M:=I (show Blk wr g 276 #[wv a,wv b,wv c,wv d,R,N] from hB);clear hB;have aA:=I hG;clear hG
   go_upto_region 2 with fail
   obtain⟨a1,ah⟩:∃x,x=a+b:=⟨_,rfl⟩;obtain⟨q1,ax⟩:∃x,x=rot b 13:=⟨_,rfl⟩;obtain⟨b1,aN⟩:∃x,x=q1 ^^^ a1:=⟨_,rfl⟩;obtain⟨a2,aP⟩:∃x,x=rot a1 32:=⟨_,rfl⟩;obtain⟨c1,ai⟩:∃x,x=c+d:=⟨_,rfl⟩;obtain⟨q4,ar⟩:∃x,x=rot d 16:=⟨_,rfl⟩;obtain⟨d1,aH⟩:∃x,x=q4 ^^^ c1:=⟨_,rfl⟩;obtain⟨a3,aj⟩:∃x,x=a2+d1:=⟨_,rfl⟩;obtain⟨q6,aS⟩:∃x,x=rot d1 21:=⟨_,rfl⟩;obtain⟨d2,aB⟩:∃x,x=q6 ^^^ a3:=⟨_,rfl⟩;obtain⟨c2,ag⟩:∃x,x=c1+b1:=⟨_,rfl⟩;obtain⟨q8,aM⟩:∃x,x=rot b1 17:=⟨_,rfl⟩;obtain⟨b2,aL⟩:∃x,x=q8 ^^^ c2:=⟨_,rfl⟩;obtain⟨c3,aI⟩:∃x,x=rot c2 32:=⟨_,rfl⟩;have ak:rnd ⟨a,b,c,d⟩=⟨a3,b2,c3,d2⟩:=by subst ah ax aN aP ai ar aH aj aS aB ag aM aL aI;rfl
   have bd:=I ak;clear ak;have x0:IntKind.u64.wrap ((a.toNat:Int)+(b.toNat:Int))=(a1.toNat:Int):=by rw[ah];exact Ht _ _
   have y0:((a.toNat:Int)+(b.toNat:Int)) % 18446744073709551616=(a1.toNat:Int):=by rw[ah];exact FZ _ _
   have X0:=I x0;clear x0;have Y0:=I y0;clear y0;have x1:bits .xor .u64 (q1.toNat:Int) (a1.toNat:Int)=(b1.toNat:Int):=by rw[aN];exact BD _ _
   have X1:=I x1;clear x1;have l1:=Xs b;rw[<-ax] at l1;have l2:=UK a1;rw[<-aP] at l2;have x3:IntKind.u64.wrap ((c.toNat:Int)+(d.toNat:Int))=(c1.toNat:Int):=by rw[ai];exact Ht _ _
   have y3:((c.toNat:Int)+(d.toNat:Int)) % 18446744073709551616=(c1.toNat:Int):=by rw[ai];exact FZ _ _
   have X3:=I x3;clear x3;have Y3:=I y3;clear y3;have x4:bits .xor .u64 (q4.toNat:Int) (c1.toNat:Int)=(d1.toNat:Int):=by rw[aH];exact BD _ _
   have X4:=I x4;clear x4;have l4:=Xt d;rw[<-ar] at l4;have x5:IntKind.u64.wrap ((a2.toNat:Int)+(d1.toNat:Int))=(a3.toNat:Int):=by rw[aj];exact Ht _ _
   have y5:((a2.toNat:Int)+(d1.toNat:Int)) % 18446744073709551616=(a3.toNat:Int):=by rw[aj];exact FZ _ _
   have X5:=I x5;clear x5;have Y5:=I y5;clear y5;have x6:bits .xor .u64 (q6.toNat:Int) (a3.toNat:Int)=(d2.toNat:Int):=by rw[aB];exact BD _ _
   have X6:=I x6;clear x6;have l6:=Xu d1;rw[<-aS] at l6;have x7:IntKind.u64.wrap ((c1.toNat:Int)+(b1.toNat:Int))=(c2.toNat:Int):=by rw[ag];exact Ht _ _
   have y7:((c1.toNat:Int)+(b1.toNat:Int)) % 18446744073709551616=(c2.toNat:Int):=by rw[ag];exact FZ _ _
   have X7:=I x7;clear x7;have Y7:=I y7;clear y7;have x8:bits .xor .u64 (q8.toNat:Int) (c2.toNat:Int)=(b2.toNat:Int):=by rw[aL];exact BD _ _
   have X8:=I x8;clear x8;have l8:=Xv b1;rw[<-aM] at l8;have l9:=UK c2;rw[<-aI] at l9;clear ah ax aN aP ai ar aH aj aS aB ag aM aL aI;have ck:=Blk.frozen M.o;have bn:wr.cell? ⟨g,0,none⟩=some (.int .u64 (a.toNat:Int)):=by rw[Blk.cell M.o];rfl
   have bK:wr.cell? ⟨g,1,none⟩=some (.int .u64 (b.toNat:Int)):=by rw[Blk.cell M.o];rfl
   have bq:wr.cell? ⟨g,2,none⟩=some (.int .u64 (c.toNat:Int)):=by rw[Blk.cell M.o];rfl
   have bC:wr.cell? ⟨g,3,none⟩=some (.int .u64 (d.toNat:Int)):=by rw[Blk.cell M.o];rfl
   have x0:=X0.o;have y0:=Y0.o;refine wp_region_still_tail 11 (by kernel_rfl) (by kernel_rfl) ?_;simp only[List.take_succ_cons,List.take_zero,List.drop_succ_cons,List.drop_zero];change wpStill _ _ wr.drew _ _ _
   repeat still_step
   refine wpStill_nil ?_;change wpList _ _ _ _ _ wr.drew
   go_upto_region 3 with fail
   have aC:Blk (wr.setCell ⟨g,0,none⟩ (.int .u64 (a1.toNat:Int))).drew g 276 #[wv a1,wv b,wv c,wv d,R,N]:=Blk.set M.o 0 (wv a1);have ao:w.grownBy (wr.setCell ⟨g,0,none⟩ (.int .u64 (a1.toNat:Int))).drew (some g):=Bg (Ar aA.o (.inl rfl) _);generalize (wr.setCell ⟨g,0,none⟩ (.int .u64 (a1.toNat:Int))).drew=v1 at aC ao⊢;clear ck bn bK bq bC x0 y0 X0 Y0;have Z:=I aC;clear aC;have bP:=I ao;clear ao;have cn:=Blk.frozen Z.o;have bD:v1.cell? ⟨g,0,none⟩=some (.int .u64 (a1.toNat:Int)):=by rw[Blk.cell Z.o];rfl
   have bB:v1.cell? ⟨g,1,none⟩=some (.int .u64 (b.toNat:Int)):=by rw[Blk.cell Z.o];rfl
   have bm:v1.cell? ⟨g,2,none⟩=some (.int .u64 (c.toNat:Int)):=by rw[Blk.cell Z.o];rfl
   have bR:v1.cell? ⟨g,3,none⟩=some (.int .u64 (d.toNat:Int)):=by rw[Blk.cell Z.o];rfl
   have x1:=X1.o;refine wp_region_still_tail 13 (by kernel_rfl) (by kernel_rfl) ?_;simp only[List.take_succ_cons,List.take_zero,List.drop_succ_cons,List.drop_zero];change wpStill _ _ v1.drew _ _ _
   repeat still_step
   still_call (l1 v1.drew)
   repeat still_step
   refine wpStill_nil ?_;change wpList _ _ _ _ _ v1.drew
   go_upto_region 4 with fail
   have aE:Blk (v1.setCell ⟨g,1,none⟩ (.int .u64 (b1.toNat:Int))).drew g 276 #[wv a1,wv b1,wv c,wv d,R,N]:=Blk.set Z.o 1 (wv b1);have az:w.grownBy (v1.setCell ⟨g,1,none⟩ (.int .u64 (b1.toNat:Int))).drew (some g):=Bg (Ar bP.o (.inl rfl) _);generalize (v1.setCell ⟨g,1,none⟩ (.int .u64 (b1.toNat:Int))).drew=v2 at aE az⊢;clear cn bD bB bm bR x1 X1 l1;clear Z bP;have X:=I aE;clear aE;have bf:=I az;clear az;have cp:=Blk.frozen X.o;have bp:v2.cell? ⟨g,0,none⟩=some (.int .u64 (a1.toNat:Int)):=by rw[Blk.cell X.o];rfl
   have aX:v2.cell? ⟨g,1,none⟩=some (.int .u64 (b1.toNat:Int)):=by rw[Blk.cell X.o];rfl
   have bW:v2.cell? ⟨g,2,none⟩=some (.int .u64 (c.toNat:Int)):=by rw[Blk.cell X.o];rfl
   have bj:v2.cell? ⟨g,3,none⟩=some (.int .u64 (d.toNat:Int)):=by rw[Blk.cell X.o];rfl
   go_upto_region 5 with(go_at_call 221;refine Ah (l2 _) ?_;rintro w' hw;have hw:=hw.symm;subst hw)
   have aF:Blk (v2.setCell ⟨g,0,none⟩ (.int .u64 (a2.toNat:Int))) g 276 #[wv a2,wv b1,wv c,wv d,R,N]:=Blk.set X.o 0 (wv a2);have aO:w.grownBy (v2.setCell ⟨g,0,none⟩ (.int .u64 (a2.toNat:Int))) (some g):=(Ar bf.o (.inl rfl) _);generalize (v2.setCell ⟨g,0,none⟩ (.int .u64 (a2.toNat:Int)))=v3 at aF aO⊢;clear cp bp aX bW bj l2;clear X bf;have ab:=I aF;clear aF;have bl:=I aO;clear aO;have cm:=Blk.frozen ab.o;have bO:v3.cell? ⟨g,0,none⟩=some (.int .u64 (a2.toNat:Int)):=by rw[Blk.cell ab.o];rfl
   have aZ:v3.cell? ⟨g,1,none⟩=some (.int .u64 (b1.toNat:Int)):=by rw[Blk.cell ab.o];rfl
   have bE:v3.cell? ⟨g,2,none⟩=some (.int .u64 (c.toNat:Int)):=by rw[Blk.cell ab.o];rfl
   have bX:v3.cell? ⟨g,3,none⟩=some (.int .u64 (d.toNat:Int)):=by rw[Blk.cell ab.o];rfl
   have x3:=X3.o;have y3:=Y3.o;refine wp_region_still_tail 11 (by kernel_rfl) (by kernel_rfl) ?_;simp only[List.take_succ_cons,List.take_zero,List.drop_succ_cons,List.drop_zero];change wpStill _ _ v3.drew _ _ _
   repeat still_step
   refine wpStill_nil ?_;change wpList _ _ _ _ _ v3.drew
   go_upto_region 6 with fail
   have an:Blk (v3.setCell ⟨g,2,none⟩ (.int .u64 (c1.toNat:Int))).drew g 276 #[wv a2,wv b1,wv c1,wv d,R,N]:=Blk.set ab.o 2 (wv c1);have aT:w.grownBy (v3.setCell ⟨g,2,none⟩ (.int .u64 (c1.toNat:Int))).drew (some g):=Bg (Ar bl.o (.inl rfl) _);generalize (v3.setCell ⟨g,2,none⟩ (.int .u64 (c1.toNat:Int))).drew=v4 at an aT⊢;clear cm bO aZ bE bX x3 y3 X3 Y3;clear ab bl;have ad:=I an;clear an;have bs:=I aT;clear aT;have cg:=Blk.frozen ad.o;have bI:v4.cell? ⟨g,0,none⟩=some (.int .u64 (a2.toNat:Int)):=by rw[Blk.cell ad.o];rfl
   have aY:v4.cell? ⟨g,1,none⟩=some (.int .u64 (b1.toNat:Int)):=by rw[Blk.cell ad.o];rfl
   have ba:v4.cell? ⟨g,2,none⟩=some (.int .u64 (c1.toNat:Int)):=by rw[Blk.cell ad.o];rfl
   have bN:v4.cell? ⟨g,3,none⟩=some (.int .u64 (d.toNat:Int)):=by rw[Blk.cell ad.o];rfl
   have x4:=X4.o;refine wp_region_still_tail 13 (by kernel_rfl) (by kernel_rfl) ?_;simp only[List.take_succ_cons,List.take_zero,List.drop_succ_cons,List.drop_zero];change wpStill _ _ v4.drew _ _ _
   repeat still_step
   still_call (l4 v4.drew)
   repeat still_step
   refine wpStill_nil ?_;change wpList _ _ _ _ _ v4.drew
   go_upto_region 7 with fail
   have al:Blk (v4.setCell ⟨g,3,none⟩ (.int .u64 (d1.toNat:Int))).drew g 276 #[wv a2,wv b1,wv c1,wv d1,R,N]:=Blk.set ad.o 3 (wv d1);have aw:w.grownBy (v4.setCell ⟨g,3,none⟩ (.int .u64 (d1.toNat:Int))).drew (some g):=Bg (Ar bs.o (.inl rfl) _);generalize (v4.setCell ⟨g,3,none⟩ (.int .u64 (d1.toNat:Int))).drew=v5 at al aw⊢;clear cg bI aY ba bN x4 X4 l4;clear ad bs;have O:=I al;clear al;have bM:=I aw;clear aw;have cc:=Blk.frozen O.o;have bG:v5.cell? ⟨g,0,none⟩=some (.int .u64 (a2.toNat:Int)):=by rw[Blk.cell O.o];rfl
   have bS:v5.cell? ⟨g,1,none⟩=some (.int .u64 (b1.toNat:Int)):=by rw[Blk.cell O.o];rfl
   have bT:v5.cell? ⟨g,2,none⟩=some (.int .u64 (c1.toNat:Int)):=by rw[Blk.cell O.o];rfl
   have bo:v5.cell? ⟨g,3,none⟩=some (.int .u64 (d1.toNat:Int)):=by rw[Blk.cell O.o];rfl
   have x5:=X5.o;have y5:=Y5.o;refine wp_region_still_tail 11 (by kernel_rfl) (by kernel_rfl) ?_;simp only[List.take_succ_cons,List.take_zero,List.drop_succ_cons,List.drop_zero];change wpStill _ _ v5.drew _ _ _
   repeat still_step
   refine wpStill_nil ?_;change wpList _ _ _ _ _ v5.drew
   go_upto_region 8 with fail
   have aJ:Blk (v5.setCell ⟨g,0,none⟩ (.int .u64 (a3.toNat:Int))).drew g 276 #[wv a3,wv b1,wv c1,wv d1,R,N]:=Blk.set O.o 0 (wv a3);have av:w.grownBy (v5.setCell ⟨g,0,none⟩ (.int .u64 (a3.toNat:Int))).drew (some g):=Bg (Ar bM.o (.inl rfl) _);generalize (v5.setCell ⟨g,0,none⟩ (.int .u64 (a3.toNat:Int))).drew=v6 at aJ av⊢;clear cc bG bS bT bo x5 y5 X5 Y5;clear O bM;have Y:=I aJ;clear aJ;have bh:=I av;clear av;have cf:=Blk.frozen Y.o;have bQ:v6.cell? ⟨g,0,none⟩=some (.int .u64 (a3.toNat:Int)):=by rw[Blk.cell Y.o];rfl
   have aW:v6.cell? ⟨g,1,none⟩=some (.int .u64 (b1.toNat:Int)):=by rw[Blk.cell Y.o];rfl
   have bY:v6.cell? ⟨g,2,none⟩=some (.int .u64 (c1.toNat:Int)):=by rw[Blk.cell Y.o];rfl
   have bx:v6.cell? ⟨g,3,none⟩=some (.int .u64 (d1.toNat:Int)):=by rw[Blk.cell Y.o];rfl
   have x6:=X6.o;refine wp_region_still_tail 13 (by kernel_rfl) (by kernel_rfl) ?_;simp only[List.take_succ_cons,List.take_zero,List.drop_succ_cons,List.drop_zero];change wpStill _ _ v6.drew _ _ _
   repeat still_step
   still_call (l6 v6.drew)
   repeat still_step
   refine wpStill_nil ?_;change wpList _ _ _ _ _ v6.drew
   go_upto_region 9 with fail
   have ay:Blk (v6.setCell ⟨g,3,none⟩ (.int .u64 (d2.toNat:Int))).drew g 276 #[wv a3,wv b1,wv c1,wv d2,R,N]:=Blk.set Y.o 3 (wv d2);have aK:w.grownBy (v6.setCell ⟨g,3,none⟩ (.int .u64 (d2.toNat:Int))).drew (some g):=Bg (Ar bh.o (.inl rfl) _);generalize (v6.setCell ⟨g,3,none⟩ (.int .u64 (d2.toNat:Int))).drew=v7 at ay aK⊢;clear cf bQ aW bY bx x6 X6 l6;clear Y bh;have ae:=I ay;clear ay;have bg:=I aK;clear aK;have cj:=Blk.frozen ae.o;have bH:v7.cell? ⟨g,0,none⟩=some (.int .u64 (a3.toNat:Int)):=by rw[Blk.cell ae.o];rfl
   have bu:v7.cell? ⟨g,1,none⟩=some (.int .u64 (b1.toNat:Int)):=by rw[Blk.cell ae.o];rfl
   have bA:v7.cell? ⟨g,2,none⟩=some (.int .u64 (c1.toNat:Int)):=by rw[Blk.cell ae.o];rfl
   have bw:v7.cell? ⟨g,3,none⟩=some (.int .u64 (d2.toNat:Int)):=by rw[Blk.cell ae.o];rfl
   have x7:=X7.o;have y7:=Y7.o;refine wp_region_still_tail 11 (by kernel_rfl) (by kernel_rfl) ?_;simp only[List.take_succ_cons,List.take_zero,List.drop_succ_cons,List.drop_zero];change wpStill _ _ v7.drew _ _ _
   repeat still_step
   refine wpStill_nil ?_;change wpList _ _ _ _ _ v7.drew
   go_upto_region 10 with fail
   have aQ:Blk (v7.setCell ⟨g,2,none⟩ (.int .u64 (c2.toNat:Int))).drew g 276 #[wv a3,wv b1,wv c2,wv d2,R,N]:=Blk.set ae.o 2 (wv c2);have aD:w.grownBy (v7.setCell ⟨g,2,none⟩ (.int .u64 (c2.toNat:Int))).drew (some g):=Bg (Ar bg.o (.inl rfl) _);generalize (v7.setCell ⟨g,2,none⟩ (.int .u64 (c2.toNat:Int))).drew=v8 at aQ aD⊢;clear cj bH bu bA bw x7 y7 X7 Y7;clear ae bg;have aa:=I aQ;clear aQ;have bb:=I aD;clear aD;have cq:=Blk.frozen aa.o;have bV:v8.cell? ⟨g,0,none⟩=some (.int .u64 (a3.toNat:Int)):=by rw[Blk.cell aa.o];rfl
   have bU:v8.cell? ⟨g,1,none⟩=some (.int .u64 (b1.toNat:Int)):=by rw[Blk.cell aa.o];rfl
   have bL:v8.cell? ⟨g,2,none⟩=some (.int .u64 (c2.toNat:Int)):=by rw[Blk.cell aa.o];rfl
   have aV:v8.cell? ⟨g,3,none⟩=some (.int .u64 (d2.toNat:Int)):=by rw[Blk.cell aa.o];rfl
   have x8:=X8.o;refine wp_region_still_tail 13 (by kernel_rfl) (by kernel_rfl) ?_;simp only[List.take_succ_cons,List.take_zero,List.drop_succ_cons,List.drop_zero];change wpStill _ _ v8.drew _ _ _
   repeat still_step
   still_call (l8 v8.drew)
   repeat still_step
   refine wpStill_nil ?_;change wpList _ _ _ _ _ v8.drew
   go_upto_region 11 with fail
   have au:Blk (v8.setCell ⟨g,1,none⟩ (.int .u64 (b2.toNat:Int))).drew g 276 #[wv a3,wv b2,wv c2,wv d2,R,N]:=Blk.set aa.o 1 (wv b2);have aG:w.grownBy (v8.setCell ⟨g,1,none⟩ (.int .u64 (b2.toNat:Int))).drew (some g):=Bg (Ar bb.o (.inl rfl) _);generalize (v8.setCell ⟨g,1,none⟩ (.int .u64 (b2.toNat:Int))).drew=v9 at au aG⊢;clear cq bV bU bL aV x8 X8 l8;clear aa bb;have af:=I au;clear au;have br:=I aG;clear aG;have cb:=Blk.frozen af.o;have bz:v9.cell? ⟨g,0,none⟩=some (.int .u64 (a3.toNat:Int)):=by rw[Blk.cell af.o];rfl
   have bF:v9.cell? ⟨g,1,none⟩=some (.int .u64 (b2.toNat:Int)):=by rw[Blk.cell af.o];rfl
   have bJ:v9.cell? ⟨g,2,none⟩=some (.int .u64 (c2.toNat:Int)):=by rw[Blk.cell af.o];rfl
   have bZ:v9.cell? ⟨g,3,none⟩=some (.int .u64 (d2.toNat:Int)):=by rw[Blk.cell af.o];rfl
   go_upto_region 12 with(go_at_call 221;refine Ah (l9 _) ?_;rintro w' hw;have hw:=hw.symm;subst hw)
   have aU:Blk (v9.setCell ⟨g,2,none⟩ (.int .u64 (c3.toNat:Int))) g 276 #[wv a3,wv b2,wv c3,wv d2,R,N]:=Blk.set af.o 2 (wv c3);have aR:w.grownBy (v9.setCell ⟨g,2,none⟩ (.int .u64 (c3.toNat:Int))) (some g):=(Ar br.o (.inl rfl) _);generalize (v9.setCell ⟨g,2,none⟩ (.int .u64 (c3.toNat:Int)))=v10 at aU aR⊢;clear cb bz bF bJ bZ l9;clear af br;have cd:=I aU;clear aU;have cr:=I aR;clear aR
   go_wp2_with fail
   go_roundw
   case rel=>exact⟨i+1,by omega,by go_num,by rw[rnds,<-ES.o,bd.o];exact cd.o,cr.o⟩
   case measure=>simp [intOf];omega
theorem MX (g:Nat) (s:V) (w:World) (hB:Blk w g 218 (DJ s)) :
  Calls Tryz.prog 121 #[.pointer (some ⟨g,0,none⟩)] w fun e w'=>e=.returned (.tuple #[])/\Blk w' g 218 (DJ (rnd s))/\w.grownBy w' (some g):=by
 obtain⟨a,b,c,d⟩:=s;have af:=I (show Blk w g 218 #[wv a,wv b,wv c,wv d] from hB);clear hB;have cg:=I (World.grownBy.refl w (some g));go_enter Tryz.func121,Tryz.ntmps121
 go_upto_region 0 with fail
 obtain⟨a1,ah⟩:∃x,x=a+b:=⟨_,rfl⟩;obtain⟨q1,ax⟩:∃x,x=rot b 13:=⟨_,rfl⟩;obtain⟨b1,aM⟩:∃x,x=q1 ^^^ a1:=⟨_,rfl⟩;obtain⟨a2,aO⟩:∃x,x=rot a1 32:=⟨_,rfl⟩;obtain⟨c1,ai⟩:∃x,x=c+d:=⟨_,rfl⟩;obtain⟨q4,ar⟩:∃x,x=rot d 16:=⟨_,rfl⟩;obtain⟨d1,aG⟩:∃x,x=q4 ^^^ c1:=⟨_,rfl⟩;obtain⟨a3,aj⟩:∃x,x=a2+d1:=⟨_,rfl⟩;obtain⟨q6,aQ⟩:∃x,x=rot d1 21:=⟨_,rfl⟩;obtain⟨d2,aA⟩:∃x,x=q6 ^^^ a3:=⟨_,rfl⟩;obtain⟨c2,ag⟩:∃x,x=c1+b1:=⟨_,rfl⟩;obtain⟨q8,aL⟩:∃x,x=rot b1 17:=⟨_,rfl⟩;obtain⟨b2,aK⟩:∃x,x=q8 ^^^ c2:=⟨_,rfl⟩;obtain⟨c3,aH⟩:∃x,x=rot c2 32:=⟨_,rfl⟩;have ak:rnd ⟨a,b,c,d⟩=⟨a3,b2,c3,d2⟩:=by subst ah ax aM aO ai ar aG aj aQ aA ag aL aK aH;rfl
 have aZ:=I ak;clear ak;have x0:IntKind.u64.wrap ((a.toNat:Int)+(b.toNat:Int))=(a1.toNat:Int):=by rw[ah];exact Ht _ _
 have y0:((a.toNat:Int)+(b.toNat:Int)) % 18446744073709551616=(a1.toNat:Int):=by rw[ah];exact FZ _ _
 have X0:=I x0;clear x0;have Y0:=I y0;clear y0;have x1:bits .xor .u64 (q1.toNat:Int) (a1.toNat:Int)=(b1.toNat:Int):=by rw[aM];exact BD _ _
 have X1:=I x1;clear x1;have l1:=VJ b;rw[<-ax] at l1;have l2:=PZ a1;rw[<-aO] at l2;have x3:IntKind.u64.wrap ((c.toNat:Int)+(d.toNat:Int))=(c1.toNat:Int):=by rw[ai];exact Ht _ _
 have y3:((c.toNat:Int)+(d.toNat:Int)) % 18446744073709551616=(c1.toNat:Int):=by rw[ai];exact FZ _ _
 have X3:=I x3;clear x3;have Y3:=I y3;clear y3;have x4:bits .xor .u64 (q4.toNat:Int) (c1.toNat:Int)=(d1.toNat:Int):=by rw[aG];exact BD _ _
 have X4:=I x4;clear x4;have l4:=VK d;rw[<-ar] at l4;have x5:IntKind.u64.wrap ((a2.toNat:Int)+(d1.toNat:Int))=(a3.toNat:Int):=by rw[aj];exact Ht _ _
 have y5:((a2.toNat:Int)+(d1.toNat:Int)) % 18446744073709551616=(a3.toNat:Int):=by rw[aj];exact FZ _ _
 have X5:=I x5;clear x5;have Y5:=I y5;clear y5;have x6:bits .xor .u64 (q6.toNat:Int) (a3.toNat:Int)=(d2.toNat:Int):=by rw[aA];exact BD _ _
 have X6:=I x6;clear x6;have l6:=VL d1;rw[<-aQ] at l6;have x7:IntKind.u64.wrap ((c1.toNat:Int)+(b1.toNat:Int))=(c2.toNat:Int):=by rw[ag];exact Ht _ _
 have y7:((c1.toNat:Int)+(b1.toNat:Int)) % 18446744073709551616=(c2.toNat:Int):=by rw[ag];exact FZ _ _
 have X7:=I x7;clear x7;have Y7:=I y7;clear y7;have x8:bits .xor .u64 (q8.toNat:Int) (c2.toNat:Int)=(b2.toNat:Int):=by rw[aK];exact BD _ _
 have X8:=I x8;clear x8;have l8:=VM b1;rw[<-aL] at l8;have l9:=PZ c2;rw[<-aH] at l9;clear ah ax aM aO ai ar aG aj aQ aA ag aL aK aH;have ck:=Blk.frozen af.o;have bj:w.cell? ⟨g,0,none⟩=some (.int .u64 (a.toNat:Int)):=by rw[Blk.cell af.o];rfl
 have bH:w.cell? ⟨g,1,none⟩=some (.int .u64 (b.toNat:Int)):=by rw[Blk.cell af.o];rfl
 have bn:w.cell? ⟨g,2,none⟩=some (.int .u64 (c.toNat:Int)):=by rw[Blk.cell af.o];rfl
 have bz:w.cell? ⟨g,3,none⟩=some (.int .u64 (d.toNat:Int)):=by rw[Blk.cell af.o];rfl
 have x0:=X0.o;have y0:=Y0.o;refine wp_region_still_tail 12 (by kernel_rfl) (by kernel_rfl) ?_;simp only[List.take_succ_cons,List.take_zero,List.drop_succ_cons,List.drop_zero];change wpStill _ _ w.drew _ _ _
 repeat still_step
 refine wpStill_nil ?_;change wpList _ _ _ _ _ w.drew
 go_upto_region 1 with fail
 have aB:Blk (w.setCell ⟨g,0,none⟩ (.int .u64 (a1.toNat:Int))).drew g 218 #[wv a1,wv b,wv c,wv d]:=Blk.set af.o 0 (wv a1);have ao:w.grownBy (w.setCell ⟨g,0,none⟩ (.int .u64 (a1.toNat:Int))).drew (some g):=Bg (Ar cg.o (.inl rfl) _);generalize (w.setCell ⟨g,0,none⟩ (.int .u64 (a1.toNat:Int))).drew=v1 at aB ao⊢;clear ck bj bH bn bz x0 y0 X0 Y0;have Y:=I aB;clear aB;have bM:=I ao;clear ao;have cn:=Blk.frozen Y.o;have bA:v1.cell? ⟨g,0,none⟩=some (.int .u64 (a1.toNat:Int)):=by rw[Blk.cell Y.o];rfl
 have bx:v1.cell? ⟨g,1,none⟩=some (.int .u64 (b.toNat:Int)):=by rw[Blk.cell Y.o];rfl
 have bh:v1.cell? ⟨g,2,none⟩=some (.int .u64 (c.toNat:Int)):=by rw[Blk.cell Y.o];rfl
 have bO:v1.cell? ⟨g,3,none⟩=some (.int .u64 (d.toNat:Int)):=by rw[Blk.cell Y.o];rfl
 have x1:=X1.o;refine wp_region_still_tail 13 (by kernel_rfl) (by kernel_rfl) ?_;simp only[List.take_succ_cons,List.take_zero,List.drop_succ_cons,List.drop_zero];change wpStill _ _ v1.drew _ _ _
 repeat still_step
 still_call (l1 v1.drew)
 repeat still_step
 refine wpStill_nil ?_;change wpList _ _ _ _ _ v1.drew
 go_upto_region 2 with fail
 have aD:Blk (v1.setCell ⟨g,1,none⟩ (.int .u64 (b1.toNat:Int))).drew g 218 #[wv a1,wv b1,wv c,wv d]:=Blk.set Y.o 1 (wv b1);have az:w.grownBy (v1.setCell ⟨g,1,none⟩ (.int .u64 (b1.toNat:Int))).drew (some g):=Bg (Ar bM.o (.inl rfl) _);generalize (v1.setCell ⟨g,1,none⟩ (.int .u64 (b1.toNat:Int))).drew=v2 at aD az⊢;clear cn bA bx bh bO x1 X1 l1;clear Y bM;have O:=I aD;clear aD;have ba:=I az;clear az;have cp:=Blk.frozen O.o;have bm:v2.cell? ⟨g,0,none⟩=some (.int .u64 (a1.toNat:Int)):=by rw[Blk.cell O.o];rfl
 have aU:v2.cell? ⟨g,1,none⟩=some (.int .u64 (b1.toNat:Int)):=by rw[Blk.cell O.o];rfl
 have bU:v2.cell? ⟨g,2,none⟩=some (.int .u64 (c.toNat:Int)):=by rw[Blk.cell O.o];rfl
 have bf:v2.cell? ⟨g,3,none⟩=some (.int .u64 (d.toNat:Int)):=by rw[Blk.cell O.o];rfl
 refine wp_region_still_tail 8 (by kernel_rfl) (by kernel_rfl) ?_;simp only[List.take_succ_cons,List.take_zero,List.drop_succ_cons,List.drop_zero];change wpStill _ _ v2.drew _ _ _
 repeat still_step
 still_call (l2 v2.drew)
 repeat still_step
 refine wpStill_nil ?_;change wpList _ _ _ _ _ v2.drew
 go_upto_region 3 with fail
 have aE:Blk (v2.setCell ⟨g,0,none⟩ (.int .u64 (a2.toNat:Int))).drew g 218 #[wv a2,wv b1,wv c,wv d]:=Blk.set O.o 0 (wv a2);have aN:w.grownBy (v2.setCell ⟨g,0,none⟩ (.int .u64 (a2.toNat:Int))).drew (some g):=Bg (Ar ba.o (.inl rfl) _);generalize (v2.setCell ⟨g,0,none⟩ (.int .u64 (a2.toNat:Int))).drew=v3 at aE aN⊢;clear cp bm aU bU bf l2;clear O ba;have ad:=I aE;clear aE;have bg:=I aN;clear aN;have cm:=Blk.frozen ad.o;have bL:v3.cell? ⟨g,0,none⟩=some (.int .u64 (a2.toNat:Int)):=by rw[Blk.cell ad.o];rfl
 have aW:v3.cell? ⟨g,1,none⟩=some (.int .u64 (b1.toNat:Int)):=by rw[Blk.cell ad.o];rfl
 have bB:v3.cell? ⟨g,2,none⟩=some (.int .u64 (c.toNat:Int)):=by rw[Blk.cell ad.o];rfl
 have bW:v3.cell? ⟨g,3,none⟩=some (.int .u64 (d.toNat:Int)):=by rw[Blk.cell ad.o];rfl
 have x3:=X3.o;have y3:=Y3.o;refine wp_region_still_tail 12 (by kernel_rfl) (by kernel_rfl) ?_;simp only[List.take_succ_cons,List.take_zero,List.drop_succ_cons,List.drop_zero];change wpStill _ _ v3.drew _ _ _
 repeat still_step
 refine wpStill_nil ?_;change wpList _ _ _ _ _ v3.drew
 go_upto_region 4 with fail
 have an:Blk (v3.setCell ⟨g,2,none⟩ (.int .u64 (c1.toNat:Int))).drew g 218 #[wv a2,wv b1,wv c1,wv d]:=Blk.set ad.o 2 (wv c1);have aR:w.grownBy (v3.setCell ⟨g,2,none⟩ (.int .u64 (c1.toNat:Int))).drew (some g):=Bg (Ar bg.o (.inl rfl) _);generalize (v3.setCell ⟨g,2,none⟩ (.int .u64 (c1.toNat:Int))).drew=v4 at an aR⊢;clear cm bL aW bB bW x3 y3 X3 Y3;clear ad bg;have aa:=I an;clear an;have bp:=I aR;clear aR;have cf:=Blk.frozen aa.o;have bF:v4.cell? ⟨g,0,none⟩=some (.int .u64 (a2.toNat:Int)):=by rw[Blk.cell aa.o];rfl
 have aV:v4.cell? ⟨g,1,none⟩=some (.int .u64 (b1.toNat:Int)):=by rw[Blk.cell aa.o];rfl
 have aX:v4.cell? ⟨g,2,none⟩=some (.int .u64 (c1.toNat:Int)):=by rw[Blk.cell aa.o];rfl
 have bK:v4.cell? ⟨g,3,none⟩=some (.int .u64 (d.toNat:Int)):=by rw[Blk.cell aa.o];rfl
 have x4:=X4.o;refine wp_region_still_tail 13 (by kernel_rfl) (by kernel_rfl) ?_;simp only[List.take_succ_cons,List.take_zero,List.drop_succ_cons,List.drop_zero];change wpStill _ _ v4.drew _ _ _
 repeat still_step
 still_call (l4 v4.drew)
 repeat still_step
 refine wpStill_nil ?_;change wpList _ _ _ _ _ v4.drew
 go_upto_region 5 with fail
 have al:Blk (v4.setCell ⟨g,3,none⟩ (.int .u64 (d1.toNat:Int))).drew g 218 #[wv a2,wv b1,wv c1,wv d1]:=Blk.set aa.o 3 (wv d1);have aw:w.grownBy (v4.setCell ⟨g,3,none⟩ (.int .u64 (d1.toNat:Int))).drew (some g):=Bg (Ar bp.o (.inl rfl) _);generalize (v4.setCell ⟨g,3,none⟩ (.int .u64 (d1.toNat:Int))).drew=v5 at al aw⊢;clear cf bF aV aX bK x4 X4 l4;clear aa bp;have M:=I al;clear al;have bJ:=I aw;clear aw;have cb:=Blk.frozen M.o;have bD:v5.cell? ⟨g,0,none⟩=some (.int .u64 (a2.toNat:Int)):=by rw[Blk.cell M.o];rfl
 have bP:v5.cell? ⟨g,1,none⟩=some (.int .u64 (b1.toNat:Int)):=by rw[Blk.cell M.o];rfl
 have bR:v5.cell? ⟨g,2,none⟩=some (.int .u64 (c1.toNat:Int)):=by rw[Blk.cell M.o];rfl
 have bl:v5.cell? ⟨g,3,none⟩=some (.int .u64 (d1.toNat:Int)):=by rw[Blk.cell M.o];rfl
 have x5:=X5.o;have y5:=Y5.o;refine wp_region_still_tail 12 (by kernel_rfl) (by kernel_rfl) ?_;simp only[List.take_succ_cons,List.take_zero,List.drop_succ_cons,List.drop_zero];change wpStill _ _ v5.drew _ _ _
 repeat still_step
 refine wpStill_nil ?_;change wpList _ _ _ _ _ v5.drew
 go_upto_region 6 with fail
 have aI:Blk (v5.setCell ⟨g,0,none⟩ (.int .u64 (a3.toNat:Int))).drew g 218 #[wv a3,wv b1,wv c1,wv d1]:=Blk.set M.o 0 (wv a3);have av:w.grownBy (v5.setCell ⟨g,0,none⟩ (.int .u64 (a3.toNat:Int))).drew (some g):=Bg (Ar bJ.o (.inl rfl) _);generalize (v5.setCell ⟨g,0,none⟩ (.int .u64 (a3.toNat:Int))).drew=v6 at aI av⊢;clear cb bD bP bR bl x5 y5 X5 Y5;clear M bJ;have X:=I aI;clear aI;have bd:=I av;clear av;have cd:=Blk.frozen X.o;have bN:v6.cell? ⟨g,0,none⟩=some (.int .u64 (a3.toNat:Int)):=by rw[Blk.cell X.o];rfl
 have aT:v6.cell? ⟨g,1,none⟩=some (.int .u64 (b1.toNat:Int)):=by rw[Blk.cell X.o];rfl
 have bX:v6.cell? ⟨g,2,none⟩=some (.int .u64 (c1.toNat:Int)):=by rw[Blk.cell X.o];rfl
 have bs:v6.cell? ⟨g,3,none⟩=some (.int .u64 (d1.toNat:Int)):=by rw[Blk.cell X.o];rfl
 have x6:=X6.o;refine wp_region_still_tail 13 (by kernel_rfl) (by kernel_rfl) ?_;simp only[List.take_succ_cons,List.take_zero,List.drop_succ_cons,List.drop_zero];change wpStill _ _ v6.drew _ _ _
 repeat still_step
 still_call (l6 v6.drew)
 repeat still_step
 refine wpStill_nil ?_;change wpList _ _ _ _ _ v6.drew
 go_upto_region 7 with fail
 have ay:Blk (v6.setCell ⟨g,3,none⟩ (.int .u64 (d2.toNat:Int))).drew g 218 #[wv a3,wv b1,wv c1,wv d2]:=Blk.set X.o 3 (wv d2);have aJ:w.grownBy (v6.setCell ⟨g,3,none⟩ (.int .u64 (d2.toNat:Int))).drew (some g):=Bg (Ar bd.o (.inl rfl) _);generalize (v6.setCell ⟨g,3,none⟩ (.int .u64 (d2.toNat:Int))).drew=v7 at ay aJ⊢;clear cd bN aT bX bs x6 X6 l6;clear X bd;have ab:=I ay;clear ay;have bb:=I aJ;clear aJ;have cj:=Blk.frozen ab.o;have bE:v7.cell? ⟨g,0,none⟩=some (.int .u64 (a3.toNat:Int)):=by rw[Blk.cell ab.o];rfl
 have bq:v7.cell? ⟨g,1,none⟩=some (.int .u64 (b1.toNat:Int)):=by rw[Blk.cell ab.o];rfl
 have bw:v7.cell? ⟨g,2,none⟩=some (.int .u64 (c1.toNat:Int)):=by rw[Blk.cell ab.o];rfl
 have br:v7.cell? ⟨g,3,none⟩=some (.int .u64 (d2.toNat:Int)):=by rw[Blk.cell ab.o];rfl
 have x7:=X7.o;have y7:=Y7.o;refine wp_region_still_tail 12 (by kernel_rfl) (by kernel_rfl) ?_;simp only[List.take_succ_cons,List.take_zero,List.drop_succ_cons,List.drop_zero];change wpStill _ _ v7.drew _ _ _
 repeat still_step
 refine wpStill_nil ?_;change wpList _ _ _ _ _ v7.drew
 go_upto_region 8 with fail
 have aP:Blk (v7.setCell ⟨g,2,none⟩ (.int .u64 (c2.toNat:Int))).drew g 218 #[wv a3,wv b1,wv c2,wv d2]:=Blk.set ab.o 2 (wv c2);have aC:w.grownBy (v7.setCell ⟨g,2,none⟩ (.int .u64 (c2.toNat:Int))).drew (some g):=Bg (Ar bb.o (.inl rfl) _);generalize (v7.setCell ⟨g,2,none⟩ (.int .u64 (c2.toNat:Int))).drew=v8 at aP aC⊢;clear cj bE bq bw br x7 y7 X7 Y7;clear ab bb;have Z:=I aP;clear aP;have aY:=I aC;clear aC;have cq:=Blk.frozen Z.o;have bT:v8.cell? ⟨g,0,none⟩=some (.int .u64 (a3.toNat:Int)):=by rw[Blk.cell Z.o];rfl
 have bS:v8.cell? ⟨g,1,none⟩=some (.int .u64 (b1.toNat:Int)):=by rw[Blk.cell Z.o];rfl
 have bI:v8.cell? ⟨g,2,none⟩=some (.int .u64 (c2.toNat:Int)):=by rw[Blk.cell Z.o];rfl
 have aS:v8.cell? ⟨g,3,none⟩=some (.int .u64 (d2.toNat:Int)):=by rw[Blk.cell Z.o];rfl
 have x8:=X8.o;refine wp_region_still_tail 13 (by kernel_rfl) (by kernel_rfl) ?_;simp only[List.take_succ_cons,List.take_zero,List.drop_succ_cons,List.drop_zero];change wpStill _ _ v8.drew _ _ _
 repeat still_step
 still_call (l8 v8.drew)
 repeat still_step
 refine wpStill_nil ?_;change wpList _ _ _ _ _ v8.drew
 go_upto_region 9 with fail
 have au:Blk (v8.setCell ⟨g,1,none⟩ (.int .u64 (b2.toNat:Int))).drew g 218 #[wv a3,wv b2,wv c2,wv d2]:=Blk.set Z.o 1 (wv b2);have aF:w.grownBy (v8.setCell ⟨g,1,none⟩ (.int .u64 (b2.toNat:Int))).drew (some g):=Bg (Ar aY.o (.inl rfl) _);generalize (v8.setCell ⟨g,1,none⟩ (.int .u64 (b2.toNat:Int))).drew=v9 at au aF⊢;clear cq bT bS bI aS x8 X8 l8;clear Z aY;have ae:=I au;clear au;have bo:=I aF;clear aF;have bZ:=Blk.frozen ae.o;have bu:v9.cell? ⟨g,0,none⟩=some (.int .u64 (a3.toNat:Int)):=by rw[Blk.cell ae.o];rfl
 have bC:v9.cell? ⟨g,1,none⟩=some (.int .u64 (b2.toNat:Int)):=by rw[Blk.cell ae.o];rfl
 have bG:v9.cell? ⟨g,2,none⟩=some (.int .u64 (c2.toNat:Int)):=by rw[Blk.cell ae.o];rfl
 have bY:v9.cell? ⟨g,3,none⟩=some (.int .u64 (d2.toNat:Int)):=by rw[Blk.cell ae.o];rfl
 refine wp_region_still_tail 8 (by kernel_rfl) (by kernel_rfl) ?_;simp only[List.take_succ_cons,List.take_zero,List.drop_succ_cons,List.drop_zero];change wpStill _ _ v9.drew _ _ _
 repeat still_step
 still_call (l9 v9.drew)
 repeat still_step
 refine wpStill_nil ?_;change wpList _ _ _ _ _ v9.drew
 go_wp2_with fail
 have bV:Blk (v9.setCell ⟨g,2,none⟩ (.int .u64 (c3.toNat:Int))).drew g 218 #[wv a3,wv b2,wv c3,wv d2]:=Blk.set ae.o 2 (wv c3);have bQ:w.grownBy (v9.setCell ⟨g,2,none⟩ (.int .u64 (c3.toNat:Int))).drew (some g):=Bg (Ar bo.o (.inl rfl) _);clear bZ bu bC bG bY l9;clear ae bo;have cc:=I bV;clear bV;have cr:=I bQ;clear bQ
 go_end0
 exact⟨rfl,by rw[aZ.o];exact cc.o,cr.o⟩
theorem IF (g:Nat) (s:V) (R N:Value) (m:Wd) (w:World) (hB:Blk w g 276 (ID s R N)) :
  Calls Tryz.prog 210 #[.pointer (some ⟨g,0,none⟩),wv m] w fun e w'=>e=.returned (.tuple #[])/\Blk w' g 276 (ID (addM s m) R N)/\w.grownBy w' (some g):=by
 obtain⟨a,b,c,d⟩:=s;obtain⟨X,ed⟩:∃x,x=d ^^^ m:=⟨_,rfl⟩;obtain⟨⟨a2,b2,c2,d2⟩,e2⟩:∃t,t=rnds 2 ⟨a,b,c,X⟩:=⟨_,rfl⟩;obtain⟨a3,ea⟩:∃x,x=a2 ^^^ m:=⟨_,rfl⟩;have O:addM ⟨a,b,c,d⟩ m=⟨a3,b2,c2,d2⟩:=by simp only[addM,<-ed,<-e2,<-ea]
 have x1:bits .xor .u64 (d.toNat:Int) (m.toNat:Int)=(X.toNat:Int):=by rw[ed];exact BD _ _
 have x2:bits .xor .u64 (a2.toNat:Int) (m.toNat:Int)=(a3.toNat:Int):=by rw[ea];exact BD _ _
 have aa:=I O;clear O;have E2:=I e2;clear e2;clear ed ea;have fz:=hB.frozen;have k3:w.cell? ⟨g,3,none⟩=some (.int .u64 (d.toNat:Int)):=by rw[hB.cell];rfl
 have HB:=I (show Blk w g 276 #[wv a,wv b,wv c,wv d,R,N] from hB);clear hB;have HG:=I (World.grownBy.refl w (some g));go_enter Tryz.func210,Tryz.ntmps210
 go_upto_region 1 with fail
 have Y:Blk (w.setCell ⟨g,3,none⟩ (.int .u64 (X.toNat:Int))) g 276 #[wv a,wv b,wv c,wv X,R,N]:=Blk.set HB.o 3 (wv X);have Z:w.grownBy (w.setCell ⟨g,3,none⟩ (.int .u64 (X.toNat:Int))) (some g):=Ar HG.o (.inl rfl) _;generalize w.setCell ⟨g,3,none⟩ (.int .u64 (X.toNat:Int))=v1 at Y Z⊢;have c1:=Jr g 2 ⟨a,b,c,X⟩ R N v1 (by decide) Y;rw[<-E2.o] at c1;have ad:=I Z;clear Y Z fz k3 HB HG x1
 go_upto_region 2 with(go_at_call 211;refine Ah c1 ?_;rintro v2 ⟨M,ab⟩;clear c1;have k0:v2.cell? ⟨g,0,none⟩=some (.int .u64 (a2.toNat:Int)):=by{rw[M.cell];rfl};have ag:=M.frozen;have ae:=I M;have af:=I ab;clear M ab)
 go_wp2_with fail
 go_end0
 exact⟨rfl,by rw[aa.o];exact Blk.set ae.o 0 (wv a3),Ar (World.grownBy.trans ad.o af.o) (.inl rfl) _⟩
theorem VO (g:Nat) (s:V) (m:Wd) (w:World) (hB:Blk w g 218 (DJ s)) :
  Calls Tryz.prog 120 #[.pointer (some ⟨g,0,none⟩),wv m] w fun e w'=>e=.returned (.tuple #[])/\Blk w' g 218 (DJ (addM s m))/\w.grownBy w' (some g):=by
 obtain⟨a,b,c,d⟩:=s;obtain⟨O,ed⟩:∃x,x=d ^^^ m:=⟨_,rfl⟩;obtain⟨t1,e1⟩:∃t,t=rnd ⟨a,b,c,O⟩:=⟨_,rfl⟩;obtain⟨⟨a2,b2,c2,d2⟩,e2⟩:∃t,t=rnd t1:=⟨_,rfl⟩;obtain⟨a3,ea⟩:∃x,x=a2 ^^^ m:=⟨_,rfl⟩;have hr:rnds 2 ⟨a,b,c,O⟩=⟨a2,b2,c2,d2⟩:=by rw[e2,e1];rfl
 have X:addM ⟨a,b,c,d⟩ m=⟨a3,b2,c2,d2⟩:=by simp only[addM,<-ed,hr,<-ea]
 have x1:bits .xor .u64 (d.toNat:Int) (m.toNat:Int)=(O.toNat:Int):=by rw[ed];exact BD _ _
 have x2:bits .xor .u64 (a2.toNat:Int) (m.toNat:Int)=(a3.toNat:Int):=by rw[ea];exact BD _ _
 have ad:=I X;clear X hr;have E1:=I e1;clear e1;have E2:=I e2;clear e2;clear ed ea;have fz:=hB.frozen;have k3:w.cell? ⟨g,3,none⟩=some (.int .u64 (d.toNat:Int)):=by rw[hB.cell];rfl
 have HB:=I (show Blk w g 218 #[wv a,wv b,wv c,wv d] from hB);clear hB;have HG:=I (World.grownBy.refl w (some g));go_enter Tryz.func120,Tryz.ntmps120
 go_upto_region 0 with fail
 refine wp_region_still_tail 9 (by kernel_rfl) (by kernel_rfl) ?_;simp only[List.take_succ_cons,List.take_zero,List.drop_succ_cons,List.drop_zero];change wpStill _ _ w.drew _ _ _
 repeat still_step
 refine wpStill_nil ?_;change wpList _ _ _ _ _ w.drew
 go_upto_region 1 with fail
 have Y:Blk (w.setCell ⟨g,3,none⟩ (.int .u64 (O.toNat:Int))).drew g 218 #[wv a,wv b,wv c,wv O]:=Blk.set HB.o 3 (wv O);have Z:w.grownBy (w.setCell ⟨g,3,none⟩ (.int .u64 (O.toNat:Int))).drew (some g):=Bg (Ar HG.o (.inl rfl) _);generalize (w.setCell ⟨g,3,none⟩ (.int .u64 (O.toNat:Int))).drew=v1 at Y Z⊢;have c1:=MX g ⟨a,b,c,O⟩ v1 Y;rw[<-E1.o] at c1;have ah:=I Z;clear Y Z fz k3 HB HG x1
 go_upto_region 2 with(go_at_call 121;refine Ah c1 ?_;rintro v2 ⟨aa,ae⟩;clear c1;have c2:=MX g t1 v2 aa;rw[<-E2.o] at c2;have ai:=I ae;clear aa ae)
 go_upto_region 3 with(go_at_call 121;refine Ah c2 ?_;rintro v3 ⟨M,ab⟩;clear c2;have k0:v3.cell? ⟨g,0,none⟩=some (.int .u64 (a2.toNat:Int)):=by{rw[M.cell];rfl};have aj:=M.frozen;have af:=I M;have ag:=I ab;clear M ab)
 refine wp_region_still_tail 9 (by kernel_rfl) (by kernel_rfl) ?_;simp only[List.take_succ_cons,List.take_zero,List.drop_succ_cons,List.drop_zero];change wpStill _ _ v3.drew _ _ _
 repeat still_step
 refine wpStill_nil ?_;change wpList _ _ _ _ _ v3.drew
 go_wp2_with fail
 go_end0
 exact⟨rfl,by rw[ad.o];exact Blk.set af.o 0 (wv a3),Bg (Ar (World.grownBy.trans (World.grownBy.trans ah.o ai.o) ag.o) (.inl rfl) _)⟩
def stc (s:St):Array Value:=ID s.v (.int .u64 (s.r:Int)) (.int .u64 (s.n:Int))
theorem LO (g:Nat) (s:St) (y:UInt8) (w:World) (hn:s.n<100000) (hr:s.r<256 ^ (s.n % 8)) (hB:Blk w g 276 (stc s)) :
  Calls Tryz.prog 199 #[.pointer (some ⟨g,0,none⟩),.int .u8 (y.toNat:Int)] w fun e w'=>e=.returned (.tuple #[])/\Blk w' g 276 (stc (addB s y))/\w.grownBy w' (some g):=by
 obtain⟨⟨a,b,c,d⟩,r,n⟩:=s;have hn:n<100000:=hn;have hr:r<256 ^ (n % 8):=hr;obtain⟨r2,e2⟩:∃x,x=r+y.toNat*256 ^ (n % 8):=⟨_,rfl⟩;have hx:∀K:Int,K=((256 ^ (n % 8):Nat):Int)->bits .or .u64 (r:Int) (IntKind.u64.wrap ((y.toNat:Int)*K))=(r2:Int):=fun K hK=>by
  rw[e2];refine JS r y (n % 8) (by omega) hr _ ?_;have h1:=SS (n % 8) (by omega);have h2:=y.toNat_lt;have h3:y.toNat*256 ^ (n % 8)<=255*72057594037927936:=Nat.mul_le_mul (by omega) h1;rw[hK,IntKind.wrap_u64,<-Int.natCast_mul];omega
 have ai:r2<18446744073709551616:=by
  have h1:=MV r y (n % 8) hr;have h2:(256:Nat) ^ (n % 8+1)<=256 ^ 8:=Nat.pow_le_pow_right (by decide) (by omega);have h3:(256:Nat) ^ 8=18446744073709551616:=by decide
  omega
 have ak:¬(n+1) % 8=0->stc (addB ⟨⟨a,b,c,d⟩,r,n⟩ y)=#[wv a,wv b,wv c,wv d,.int .u64 (r2:Int),.int .u64 ((n:Int)+1)]:=fun h=>by
  rw[PY _ _ h,e2]
  rfl
 have ag:(n+1) % 8=0->stc (addB ⟨⟨a,b,c,d⟩,r,n⟩ y)=ID (addM ⟨a,b,c,d⟩ (wd r2)) (.int .u64 0) (.int .u64 ((n:Int)+1)):=fun h=>by
  rw[MU _ _ h,e2]
  rfl
 have ae:=I ak;clear ak;have ah:=I ag;clear ag;have an:=I ai;clear ai;have hy:IntKind.u64.wrap (y.toNat:Int)=(y.toNat:Int):=by rw[IntKind.wrap_u64];have:=y.toNat_lt;omega
 have fz:=hB.frozen;have k4:w.cell? ⟨g,4,none⟩=some (.int .u64 (r:Int)):=by rw[hB.cell];rfl
 have k5:w.cell? ⟨g,5,none⟩=some (.int .u64 (n:Int)):=by rw[hB.cell];rfl
 have HB:=I (show Blk w g 276 #[wv a,wv b,wv c,wv d,.int .u64 (r:Int),.int .u64 (n:Int)] from hB);clear hB;have HG:=I (World.grownBy.refl w (some g));have HN:=I hn;clear e2 hr;have hk:n % 8=0\/n % 8=1\/n % 8=2\/n % 8=3\/n % 8=4\/n % 8=5\/n % 8=6\/n % 8=7:=by omega
 have n0:(0:Int)<=(n:Int):=by omega
 have n1:(n:Int)<100000:=by omega
 clear hn;rcases hk with hk | hk | hk | hk | hk | hk | hk | hk
 ·have hx:=hx 1 (by rw[hk];decide)
  rw[Int.mul_one,hy] at hx;have m1:(n:Int).tmod 8=0:=by rw[Int.tmod_eq_emod_of_nonneg n0];omega
  have m2:((n:Int)+1).tmod 8=1:=by rw[Int.tmod_eq_emod_of_nonneg (by omega)];omega
  have m3:n % 8=0:=hk;have hw:IntKind.u64.wrap 0=0:=by kernel_rfl
  have m4:(n:Int) % 8=0:=by omega
  have m5:(n+1) % 8=1:=by omega
  have M5:=I m5;clear m5;clear hk;go_enter Tryz.func199,Tryz.ntmps199
  go_upto_region 0 with fail
  refine wp_region_still_tail 16 (by kernel_rfl) (by kernel_rfl) ?_;simp only[List.take_succ_cons,List.take_zero,List.drop_succ_cons,List.drop_zero];change wpStill _ _ w.drew _ _ _
  repeat still_step
  refine wpStill_nil ?_;change wpList _ _ _ _ _ w.drew
  go_upto_region 1 with fail
  have O:Blk (w.setCell ⟨g,4,none⟩ (.int .u64 (r2:Int))).drew g 276 #[wv a,wv b,wv c,wv d,.int .u64 (r2:Int),.int .u64 (n:Int)]:=Blk.set HB.o 4 (.int .u64 (r2:Int));have Y:w.grownBy (w.setCell ⟨g,4,none⟩ (.int .u64 (r2:Int))).drew (some g):=Bg (Ar HG.o (.inl rfl) _);generalize (w.setCell ⟨g,4,none⟩ (.int .u64 (r2:Int))).drew=v1 at O Y⊢;clear fz k4 k5 HB HG hx m1 m3 m4 hw hy;have fz:=O.frozen;have k5:v1.cell? ⟨g,5,none⟩=some (.int .u64 (n:Int)):=by rw[O.cell];rfl
  have Z:=I O;clear O;have aa:=I Y;clear Y
  go_upto_region 2 with fail
  have M:Blk (v1.setCell ⟨g,5,none⟩ (.int .u64 ((n:Int)+1))) g 276 #[wv a,wv b,wv c,wv d,.int .u64 (r2:Int),.int .u64 ((n:Int)+1)]:=Blk.set Z.o 5 (.int .u64 ((n:Int)+1));have X:w.grownBy (v1.setCell ⟨g,5,none⟩ (.int .u64 ((n:Int)+1))) (some g):=Ar aa.o (.inl rfl) _;generalize (v1.setCell ⟨g,5,none⟩ (.int .u64 ((n:Int)+1)))=v2 at M X⊢;clear fz k5 Z aa;have fz:=M.frozen;have k4:v2.cell? ⟨g,4,none⟩=some (.int .u64 (r2:Int)):=by rw[M.cell];rfl
  have k5:v2.cell? ⟨g,5,none⟩=some (.int .u64 ((n:Int)+1)):=by rw[M.cell];rfl
  have ab:=I M;clear M;have ad:=I X;clear X
  go_wp2_with fail
  go_end0
  exact⟨rfl,by rw[ae.o (by have:=M5.o;omega)];exact ab.o,ad.o⟩
 ·have hx:=hx 256 (by rw[hk];decide)
  have m1:(n:Int).tmod 8=1:=by rw[Int.tmod_eq_emod_of_nonneg n0];omega
  have m2:((n:Int)+1).tmod 8=2:=by rw[Int.tmod_eq_emod_of_nonneg (by omega)];omega
  have m3:n % 8=1:=hk;have hw:IntKind.u64.wrap 8=8:=by kernel_rfl
  have m4:(n:Int) % 8=1:=by omega
  have m5:(n+1) % 8=2:=by omega
  have M5:=I m5;clear m5;clear hk;go_enter Tryz.func199,Tryz.ntmps199
  go_upto_region 0 with fail
  refine wp_region_still_tail 16 (by kernel_rfl) (by kernel_rfl) ?_;simp only[List.take_succ_cons,List.take_zero,List.drop_succ_cons,List.drop_zero];change wpStill _ _ w.drew _ _ _
  repeat still_step
  refine wpStill_nil ?_;change wpList _ _ _ _ _ w.drew
  go_upto_region 1 with fail
  have O:Blk (w.setCell ⟨g,4,none⟩ (.int .u64 (r2:Int))).drew g 276 #[wv a,wv b,wv c,wv d,.int .u64 (r2:Int),.int .u64 (n:Int)]:=Blk.set HB.o 4 (.int .u64 (r2:Int));have Y:w.grownBy (w.setCell ⟨g,4,none⟩ (.int .u64 (r2:Int))).drew (some g):=Bg (Ar HG.o (.inl rfl) _);generalize (w.setCell ⟨g,4,none⟩ (.int .u64 (r2:Int))).drew=v1 at O Y⊢;clear fz k4 k5 HB HG hx m1 m3 m4 hw hy;have fz:=O.frozen;have k5:v1.cell? ⟨g,5,none⟩=some (.int .u64 (n:Int)):=by rw[O.cell];rfl
  have Z:=I O;clear O;have aa:=I Y;clear Y
  go_upto_region 2 with fail
  have M:Blk (v1.setCell ⟨g,5,none⟩ (.int .u64 ((n:Int)+1))) g 276 #[wv a,wv b,wv c,wv d,.int .u64 (r2:Int),.int .u64 ((n:Int)+1)]:=Blk.set Z.o 5 (.int .u64 ((n:Int)+1));have X:w.grownBy (v1.setCell ⟨g,5,none⟩ (.int .u64 ((n:Int)+1))) (some g):=Ar aa.o (.inl rfl) _;generalize (v1.setCell ⟨g,5,none⟩ (.int .u64 ((n:Int)+1)))=v2 at M X⊢;clear fz k5 Z aa;have fz:=M.frozen;have k4:v2.cell? ⟨g,4,none⟩=some (.int .u64 (r2:Int)):=by rw[M.cell];rfl
  have k5:v2.cell? ⟨g,5,none⟩=some (.int .u64 ((n:Int)+1)):=by rw[M.cell];rfl
  have ab:=I M;clear M;have ad:=I X;clear X
  go_wp2_with fail
  go_end0
  exact⟨rfl,by rw[ae.o (by have:=M5.o;omega)];exact ab.o,ad.o⟩
 ·have hx:=hx 65536 (by rw[hk];decide)
  have m1:(n:Int).tmod 8=2:=by rw[Int.tmod_eq_emod_of_nonneg n0];omega
  have m2:((n:Int)+1).tmod 8=3:=by rw[Int.tmod_eq_emod_of_nonneg (by omega)];omega
  have m3:n % 8=2:=hk;have hw:IntKind.u64.wrap 16=16:=by kernel_rfl
  have m4:(n:Int) % 8=2:=by omega
  have m5:(n+1) % 8=3:=by omega
  have M5:=I m5;clear m5;clear hk;go_enter Tryz.func199,Tryz.ntmps199
  go_upto_region 0 with fail
  refine wp_region_still_tail 16 (by kernel_rfl) (by kernel_rfl) ?_;simp only[List.take_succ_cons,List.take_zero,List.drop_succ_cons,List.drop_zero];change wpStill _ _ w.drew _ _ _
  repeat still_step
  refine wpStill_nil ?_;change wpList _ _ _ _ _ w.drew
  go_upto_region 1 with fail
  have O:Blk (w.setCell ⟨g,4,none⟩ (.int .u64 (r2:Int))).drew g 276 #[wv a,wv b,wv c,wv d,.int .u64 (r2:Int),.int .u64 (n:Int)]:=Blk.set HB.o 4 (.int .u64 (r2:Int));have Y:w.grownBy (w.setCell ⟨g,4,none⟩ (.int .u64 (r2:Int))).drew (some g):=Bg (Ar HG.o (.inl rfl) _);generalize (w.setCell ⟨g,4,none⟩ (.int .u64 (r2:Int))).drew=v1 at O Y⊢;clear fz k4 k5 HB HG hx m1 m3 m4 hw hy;have fz:=O.frozen;have k5:v1.cell? ⟨g,5,none⟩=some (.int .u64 (n:Int)):=by rw[O.cell];rfl
  have Z:=I O;clear O;have aa:=I Y;clear Y
  go_upto_region 2 with fail
  have M:Blk (v1.setCell ⟨g,5,none⟩ (.int .u64 ((n:Int)+1))) g 276 #[wv a,wv b,wv c,wv d,.int .u64 (r2:Int),.int .u64 ((n:Int)+1)]:=Blk.set Z.o 5 (.int .u64 ((n:Int)+1));have X:w.grownBy (v1.setCell ⟨g,5,none⟩ (.int .u64 ((n:Int)+1))) (some g):=Ar aa.o (.inl rfl) _;generalize (v1.setCell ⟨g,5,none⟩ (.int .u64 ((n:Int)+1)))=v2 at M X⊢;clear fz k5 Z aa;have fz:=M.frozen;have k4:v2.cell? ⟨g,4,none⟩=some (.int .u64 (r2:Int)):=by rw[M.cell];rfl
  have k5:v2.cell? ⟨g,5,none⟩=some (.int .u64 ((n:Int)+1)):=by rw[M.cell];rfl
  have ab:=I M;clear M;have ad:=I X;clear X
  go_wp2_with fail
  go_end0
  exact⟨rfl,by rw[ae.o (by have:=M5.o;omega)];exact ab.o,ad.o⟩
 ·have hx:=hx 16777216 (by rw[hk];decide)
  have m1:(n:Int).tmod 8=3:=by rw[Int.tmod_eq_emod_of_nonneg n0];omega
  have m2:((n:Int)+1).tmod 8=4:=by rw[Int.tmod_eq_emod_of_nonneg (by omega)];omega
  have m3:n % 8=3:=hk;have hw:IntKind.u64.wrap 24=24:=by kernel_rfl
  have m4:(n:Int) % 8=3:=by omega
  have m5:(n+1) % 8=4:=by omega
  have M5:=I m5;clear m5;clear hk;go_enter Tryz.func199,Tryz.ntmps199
  go_upto_region 0 with fail
  refine wp_region_still_tail 16 (by kernel_rfl) (by kernel_rfl) ?_;simp only[List.take_succ_cons,List.take_zero,List.drop_succ_cons,List.drop_zero];change wpStill _ _ w.drew _ _ _
  repeat still_step
  refine wpStill_nil ?_;change wpList _ _ _ _ _ w.drew
  go_upto_region 1 with fail
  have O:Blk (w.setCell ⟨g,4,none⟩ (.int .u64 (r2:Int))).drew g 276 #[wv a,wv b,wv c,wv d,.int .u64 (r2:Int),.int .u64 (n:Int)]:=Blk.set HB.o 4 (.int .u64 (r2:Int));have Y:w.grownBy (w.setCell ⟨g,4,none⟩ (.int .u64 (r2:Int))).drew (some g):=Bg (Ar HG.o (.inl rfl) _);generalize (w.setCell ⟨g,4,none⟩ (.int .u64 (r2:Int))).drew=v1 at O Y⊢;clear fz k4 k5 HB HG hx m1 m3 m4 hw hy;have fz:=O.frozen;have k5:v1.cell? ⟨g,5,none⟩=some (.int .u64 (n:Int)):=by rw[O.cell];rfl
  have Z:=I O;clear O;have aa:=I Y;clear Y
  go_upto_region 2 with fail
  have M:Blk (v1.setCell ⟨g,5,none⟩ (.int .u64 ((n:Int)+1))) g 276 #[wv a,wv b,wv c,wv d,.int .u64 (r2:Int),.int .u64 ((n:Int)+1)]:=Blk.set Z.o 5 (.int .u64 ((n:Int)+1));have X:w.grownBy (v1.setCell ⟨g,5,none⟩ (.int .u64 ((n:Int)+1))) (some g):=Ar aa.o (.inl rfl) _;generalize (v1.setCell ⟨g,5,none⟩ (.int .u64 ((n:Int)+1)))=v2 at M X⊢;clear fz k5 Z aa;have fz:=M.frozen;have k4:v2.cell? ⟨g,4,none⟩=some (.int .u64 (r2:Int)):=by rw[M.cell];rfl
  have k5:v2.cell? ⟨g,5,none⟩=some (.int .u64 ((n:Int)+1)):=by rw[M.cell];rfl
  have ab:=I M;clear M;have ad:=I X;clear X
  go_wp2_with fail
  go_end0
  exact⟨rfl,by rw[ae.o (by have:=M5.o;omega)];exact ab.o,ad.o⟩
 ·have hx:=hx 4294967296 (by rw[hk];decide)
  have m1:(n:Int).tmod 8=4:=by rw[Int.tmod_eq_emod_of_nonneg n0];omega
  have m2:((n:Int)+1).tmod 8=5:=by rw[Int.tmod_eq_emod_of_nonneg (by omega)];omega
  have m3:n % 8=4:=hk;have hw:IntKind.u64.wrap 32=32:=by kernel_rfl
  have m4:(n:Int) % 8=4:=by omega
  have m5:(n+1) % 8=5:=by omega
  have M5:=I m5;clear m5;clear hk;go_enter Tryz.func199,Tryz.ntmps199
  go_upto_region 0 with fail
  refine wp_region_still_tail 16 (by kernel_rfl) (by kernel_rfl) ?_;simp only[List.take_succ_cons,List.take_zero,List.drop_succ_cons,List.drop_zero];change wpStill _ _ w.drew _ _ _
  repeat still_step
  refine wpStill_nil ?_;change wpList _ _ _ _ _ w.drew
  go_upto_region 1 with fail
  have O:Blk (w.setCell ⟨g,4,none⟩ (.int .u64 (r2:Int))).drew g 276 #[wv a,wv b,wv c,wv d,.int .u64 (r2:Int),.int .u64 (n:Int)]:=Blk.set HB.o 4 (.int .u64 (r2:Int));have Y:w.grownBy (w.setCell ⟨g,4,none⟩ (.int .u64 (r2:Int))).drew (some g):=Bg (Ar HG.o (.inl rfl) _);generalize (w.setCell ⟨g,4,none⟩ (.int .u64 (r2:Int))).drew=v1 at O Y⊢;clear fz k4 k5 HB HG hx m1 m3 m4 hw hy;have fz:=O.frozen;have k5:v1.cell? ⟨g,5,none⟩=some (.int .u64 (n:Int)):=by rw[O.cell];rfl
  have Z:=I O;clear O;have aa:=I Y;clear Y
  go_upto_region 2 with fail
  have M:Blk (v1.setCell ⟨g,5,none⟩ (.int .u64 ((n:Int)+1))) g 276 #[wv a,wv b,wv c,wv d,.int .u64 (r2:Int),.int .u64 ((n:Int)+1)]:=Blk.set Z.o 5 (.int .u64 ((n:Int)+1));have X:w.grownBy (v1.setCell ⟨g,5,none⟩ (.int .u64 ((n:Int)+1))) (some g):=Ar aa.o (.inl rfl) _;generalize (v1.setCell ⟨g,5,none⟩ (.int .u64 ((n:Int)+1)))=v2 at M X⊢;clear fz k5 Z aa;have fz:=M.frozen;have k4:v2.cell? ⟨g,4,none⟩=some (.int .u64 (r2:Int)):=by rw[M.cell];rfl
  have k5:v2.cell? ⟨g,5,none⟩=some (.int .u64 ((n:Int)+1)):=by rw[M.cell];rfl
  have ab:=I M;clear M;have ad:=I X;clear X
  go_wp2_with fail
  go_end0
  exact⟨rfl,by rw[ae.o (by have:=M5.o;omega)];exact ab.o,ad.o⟩
 ·have hx:=hx 1099511627776 (by rw[hk];decide)
  have m1:(n:Int).tmod 8=5:=by rw[Int.tmod_eq_emod_of_nonneg n0];omega
  have m2:((n:Int)+1).tmod 8=6:=by rw[Int.tmod_eq_emod_of_nonneg (by omega)];omega
  have m3:n % 8=5:=hk;have hw:IntKind.u64.wrap 40=40:=by kernel_rfl
  have m4:(n:Int) % 8=5:=by omega
  have m5:(n+1) % 8=6:=by omega
  have M5:=I m5;clear m5;clear hk;go_enter Tryz.func199,Tryz.ntmps199
  go_upto_region 0 with fail
  refine wp_region_still_tail 16 (by kernel_rfl) (by kernel_rfl) ?_;simp only[List.take_succ_cons,List.take_zero,List.drop_succ_cons,List.drop_zero];change wpStill _ _ w.drew _ _ _
  repeat still_step
  refine wpStill_nil ?_;change wpList _ _ _ _ _ w.drew
  go_upto_region 1 with fail
  have O:Blk (w.setCell ⟨g,4,none⟩ (.int .u64 (r2:Int))).drew g 276 #[wv a,wv b,wv c,wv d,.int .u64 (r2:Int),.int .u64 (n:Int)]:=Blk.set HB.o 4 (.int .u64 (r2:Int));have Y:w.grownBy (w.setCell ⟨g,4,none⟩ (.int .u64 (r2:Int))).drew (some g):=Bg (Ar HG.o (.inl rfl) _);generalize (w.setCell ⟨g,4,none⟩ (.int .u64 (r2:Int))).drew=v1 at O Y⊢;clear fz k4 k5 HB HG hx m1 m3 m4 hw hy;have fz:=O.frozen;have k5:v1.cell? ⟨g,5,none⟩=some (.int .u64 (n:Int)):=by rw[O.cell];rfl
  have Z:=I O;clear O;have aa:=I Y;clear Y
  go_upto_region 2 with fail
  have M:Blk (v1.setCell ⟨g,5,none⟩ (.int .u64 ((n:Int)+1))) g 276 #[wv a,wv b,wv c,wv d,.int .u64 (r2:Int),.int .u64 ((n:Int)+1)]:=Blk.set Z.o 5 (.int .u64 ((n:Int)+1));have X:w.grownBy (v1.setCell ⟨g,5,none⟩ (.int .u64 ((n:Int)+1))) (some g):=Ar aa.o (.inl rfl) _;generalize (v1.setCell ⟨g,5,none⟩ (.int .u64 ((n:Int)+1)))=v2 at M X⊢;clear fz k5 Z aa;have fz:=M.frozen;have k4:v2.cell? ⟨g,4,none⟩=some (.int .u64 (r2:Int)):=by rw[M.cell];rfl
  have k5:v2.cell? ⟨g,5,none⟩=some (.int .u64 ((n:Int)+1)):=by rw[M.cell];rfl
  have ab:=I M;clear M;have ad:=I X;clear X
  go_wp2_with fail
  go_end0
  exact⟨rfl,by rw[ae.o (by have:=M5.o;omega)];exact ab.o,ad.o⟩
 ·have hx:=hx 281474976710656 (by rw[hk];decide)
  have m1:(n:Int).tmod 8=6:=by rw[Int.tmod_eq_emod_of_nonneg n0];omega
  have m2:((n:Int)+1).tmod 8=7:=by rw[Int.tmod_eq_emod_of_nonneg (by omega)];omega
  have m3:n % 8=6:=hk;have hw:IntKind.u64.wrap 48=48:=by kernel_rfl
  have m4:(n:Int) % 8=6:=by omega
  have m5:(n+1) % 8=7:=by omega
  have M5:=I m5;clear m5;clear hk;go_enter Tryz.func199,Tryz.ntmps199
  go_upto_region 0 with fail
  refine wp_region_still_tail 16 (by kernel_rfl) (by kernel_rfl) ?_;simp only[List.take_succ_cons,List.take_zero,List.drop_succ_cons,List.drop_zero];change wpStill _ _ w.drew _ _ _
  repeat still_step
  refine wpStill_nil ?_;change wpList _ _ _ _ _ w.drew
  go_upto_region 1 with fail
  have O:Blk (w.setCell ⟨g,4,none⟩ (.int .u64 (r2:Int))).drew g 276 #[wv a,wv b,wv c,wv d,.int .u64 (r2:Int),.int .u64 (n:Int)]:=Blk.set HB.o 4 (.int .u64 (r2:Int));have Y:w.grownBy (w.setCell ⟨g,4,none⟩ (.int .u64 (r2:Int))).drew (some g):=Bg (Ar HG.o (.inl rfl) _);generalize (w.setCell ⟨g,4,none⟩ (.int .u64 (r2:Int))).drew=v1 at O Y⊢;clear fz k4 k5 HB HG hx m1 m3 m4 hw hy;have fz:=O.frozen;have k5:v1.cell? ⟨g,5,none⟩=some (.int .u64 (n:Int)):=by rw[O.cell];rfl
  have Z:=I O;clear O;have aa:=I Y;clear Y
  go_upto_region 2 with fail
  have M:Blk (v1.setCell ⟨g,5,none⟩ (.int .u64 ((n:Int)+1))) g 276 #[wv a,wv b,wv c,wv d,.int .u64 (r2:Int),.int .u64 ((n:Int)+1)]:=Blk.set Z.o 5 (.int .u64 ((n:Int)+1));have X:w.grownBy (v1.setCell ⟨g,5,none⟩ (.int .u64 ((n:Int)+1))) (some g):=Ar aa.o (.inl rfl) _;generalize (v1.setCell ⟨g,5,none⟩ (.int .u64 ((n:Int)+1)))=v2 at M X⊢;clear fz k5 Z aa;have fz:=M.frozen;have k4:v2.cell? ⟨g,4,none⟩=some (.int .u64 (r2:Int)):=by rw[M.cell];rfl
  have k5:v2.cell? ⟨g,5,none⟩=some (.int .u64 ((n:Int)+1)):=by rw[M.cell];rfl
  have ab:=I M;clear M;have ad:=I X;clear X
  go_wp2_with fail
  go_end0
  exact⟨rfl,by rw[ae.o (by have:=M5.o;omega)];exact ab.o,ad.o⟩
 ·have hx:=hx 72057594037927936 (by rw[hk];decide)
  have m1:(n:Int).tmod 8=7:=by rw[Int.tmod_eq_emod_of_nonneg n0];omega
  have m2:((n:Int)+1).tmod 8=0:=by rw[Int.tmod_eq_emod_of_nonneg (by omega)];omega
  have m3:n % 8=7:=hk;have hw:IntKind.u64.wrap 56=56:=by kernel_rfl
  have m4:(n:Int) % 8=7:=by omega
  have m5:(n+1) % 8=0:=by omega
  have M5:=I m5;clear m5;clear hk;go_enter Tryz.func199,Tryz.ntmps199
  go_upto_region 0 with fail
  refine wp_region_still_tail 16 (by kernel_rfl) (by kernel_rfl) ?_;simp only[List.take_succ_cons,List.take_zero,List.drop_succ_cons,List.drop_zero];change wpStill _ _ w.drew _ _ _
  repeat still_step
  refine wpStill_nil ?_;change wpList _ _ _ _ _ w.drew
  go_upto_region 1 with fail
  have O:Blk (w.setCell ⟨g,4,none⟩ (.int .u64 (r2:Int))).drew g 276 #[wv a,wv b,wv c,wv d,.int .u64 (r2:Int),.int .u64 (n:Int)]:=Blk.set HB.o 4 (.int .u64 (r2:Int));have Y:w.grownBy (w.setCell ⟨g,4,none⟩ (.int .u64 (r2:Int))).drew (some g):=Bg (Ar HG.o (.inl rfl) _);generalize (w.setCell ⟨g,4,none⟩ (.int .u64 (r2:Int))).drew=v1 at O Y⊢;clear fz k4 k5 HB HG hx m1 m3 m4 hw hy;have fz:=O.frozen;have k5:v1.cell? ⟨g,5,none⟩=some (.int .u64 (n:Int)):=by rw[O.cell];rfl
  have Z:=I O;clear O;have aa:=I Y;clear Y
  go_upto_region 2 with fail
  have M:Blk (v1.setCell ⟨g,5,none⟩ (.int .u64 ((n:Int)+1))) g 276 #[wv a,wv b,wv c,wv d,.int .u64 (r2:Int),.int .u64 ((n:Int)+1)]:=Blk.set Z.o 5 (.int .u64 ((n:Int)+1));have X:w.grownBy (v1.setCell ⟨g,5,none⟩ (.int .u64 ((n:Int)+1))) (some g):=Ar aa.o (.inl rfl) _;generalize (v1.setCell ⟨g,5,none⟩ (.int .u64 ((n:Int)+1)))=v2 at M X⊢;clear fz k5 Z aa;have fz:=M.frozen;have k4:v2.cell? ⟨g,4,none⟩=some (.int .u64 (r2:Int)):=by rw[M.cell];rfl
  have k5:v2.cell? ⟨g,5,none⟩=some (.int .u64 ((n:Int)+1)):=by rw[M.cell];rfl
  have ab:=I M;clear M;have ad:=I X;clear X;have c1:=IF g ⟨a,b,c,d⟩ (.int .u64 (r2:Int)) (.int .u64 ((n:Int)+1)) (wd r2) v2 ab.o;rw[wv,Jq r2 an.o] at c1
  go_wp2_with (go_at_call 210;refine Ah c1 ?_;rintro v3 ⟨af,aj⟩;clear c1;have k4:v3.cell? ⟨g,4,none⟩=some (.int .u64 (r2:Int)):=by{rw[af.cell];rfl};have fz:=af.frozen;have al:=I af;have ao:=I aj;clear af aj)
  go_end0
  exact⟨rfl,by rw[ah.o M5.o];exact Blk.set al.o 4 (.int .u64 0),Ar (World.grownBy.trans ad.o ao.o) (.inl rfl) _⟩
theorem KO (s:St) (M:s.r<72057594037927936):(Oh s).toNat=s.r+s.n % 256*72057594037927936:=Jq _ (by omega)
theorem VP (g:Nat) (s:St) (w:World) (hr:s.r<72057594037927936) (hB:Blk w g 276 (stc s)) :
  Calls Tryz.prog 200 #[.pointer (some ⟨g,0,none⟩)] w fun e w'=>e=.returned (wv (finS s))/\w.grownBy w' (some g):=by
 have hl:=KO s hr;have hx:=MW s.r s.n hr;rw[<-hl,<-IntKind.wrap_u64] at hx;obtain⟨lw,el⟩:∃x,x=Oh s:=⟨_,rfl⟩;obtain⟨⟨a,b,c,d⟩,e1⟩:∃t,t=addM s.v lw:=⟨_,rfl⟩;obtain⟨c1,ec⟩:∃x,x=c ^^^ 255#64:=⟨_,rfl⟩;obtain⟨⟨a2,b2,c2,d2⟩,e2⟩:∃t,t=rnds 4 ⟨a,b,c1,d⟩:=⟨_,rfl⟩;obtain⟨q1,ab⟩:∃x,x=a2 ^^^ b2:=⟨_,rfl⟩;obtain⟨q2,Z⟩:∃x,x=q1 ^^^ c2:=⟨_,rfl⟩;obtain⟨q3,ae⟩:∃x,x=q2 ^^^ d2:=⟨_,rfl⟩;have Y:finS s=q3:=by rw[finS,<-el,<-e1,fin,<-ec,<-e2,allX,<-ab,<-Z,<-ae]
 have x0:bits .xor .u64 (c.toNat:Int) 255=(c1.toNat:Int):=by rw[ec];exact BD c 255#64
 have x1:bits .xor .u64 (a2.toNat:Int) (b2.toNat:Int)=(q1.toNat:Int):=by rw[ab];exact BD _ _
 have x2:bits .xor .u64 (q1.toNat:Int) (c2.toNat:Int)=(q2.toNat:Int):=by rw[Z];exact BD _ _
 have x3:bits .xor .u64 (q2.toNat:Int) (d2.toNat:Int)=(q3.toNat:Int):=by rw[ae];exact BD _ _
 rw[<-el] at hx;obtain⟨v,r,n⟩:=s;have hx:bits .or .u64 (r:Int) (IntKind.u64.wrap ((n:Int)*72057594037927936))=(lw.toNat:Int):=hx;have e1:⟨a,b,c,d⟩=addM v lw:=e1;have ca:=IF g v (.int .u64 (r:Int)) (.int .u64 (n:Int)) lw w.drew (Blk.drewN hB 1);rw[<-e1] at ca;have ah:=I Y;clear Y;have E2:=I e2;clear e2;have k4:w.cell? ⟨g,4,none⟩=some (.int .u64 (r:Int)):=by rw[hB.cell];rfl
 have k5:w.cell? ⟨g,5,none⟩=some (.int .u64 (n:Int)):=by rw[hB.cell];rfl
 have fz:=hB.frozen;have ak:=I x0;clear x0;have av:=I x1;clear x1;have ao:=I x2;clear x2;have an:=I x3;clear x3;clear el e1 ec ab Z ae hl hr hB;go_enter Tryz.func200,Tryz.ntmps200
 go_upto_region 1 with fail
 refine wp_region_still_tail 11 (by kernel_rfl) (by kernel_rfl) ?_;simp only[List.take_succ_cons,List.take_zero,List.drop_succ_cons,List.drop_zero];change wpStill _ _ w.drew _ _ _
 repeat still_step
 refine wpStill_nil ?_;change wpList _ _ _ _ _ w.drew;clear hx k4 k5 fz
 go_upto_region 2 with(go_at_call 210;refine Ah ca ?_;rintro v1 ⟨X,M⟩;clear ca;have M:w.grownBy v1 (some g):=⟨M.os,M.tape,M.output,M.size,M.block⟩;have k2:v1.cell? ⟨g,2,none⟩=some (.int .u64 (c.toNat:Int)):=by{rw[X.cell];rfl};have fz:=X.frozen;have aj:=I X;have ai:=I M;clear X M)
 have x0:=ak.o;clear ak
 go_upto_region 3 with fail
 have af:Blk (v1.setCell ⟨g,2,none⟩ (.int .u64 (c1.toNat:Int))) g 276 #[wv a,wv b,wv c1,wv d,.int .u64 (r:Int),.int .u64 (n:Int)]:=Blk.set aj.o 2 (wv c1);have aa:w.grownBy (v1.setCell ⟨g,2,none⟩ (.int .u64 (c1.toNat:Int))) (some g):=Ar ai.o (.inl rfl) _;generalize (v1.setCell ⟨g,2,none⟩ (.int .u64 (c1.toNat:Int)))=v2 at af aa⊢;have ad:=Jr g 4 ⟨a,b,c1,d⟩ (.int .u64 (r:Int)) (.int .u64 (n:Int)) v2 (by decide) af;rw[<-E2.o] at ad;have ar:=I aa;clear af aa fz k2 aj ai x0
 go_upto_region 4 with(go_at_call 211;refine Ah ad ?_;rintro v3 ⟨ag,al⟩;clear ad;have O:=I ag;have au:=I al;clear ag al)
 have k0:v3.cell? ⟨g,0,none⟩=some (.int .u64 (a2.toNat:Int)):=by rw[O.o.cell];rfl
 have k1:v3.cell? ⟨g,1,none⟩=some (.int .u64 (b2.toNat:Int)):=by rw[O.o.cell];rfl
 have k2:v3.cell? ⟨g,2,none⟩=some (.int .u64 (c2.toNat:Int)):=by rw[O.o.cell];rfl
 have k3:v3.cell? ⟨g,3,none⟩=some (.int .u64 (d2.toNat:Int)):=by rw[O.o.cell];rfl
 have x1:=av.o;have x2:=ao.o;have x3:=an.o;refine wp_region_still_lit (by kernel_rfl) (by kernel_rfl) ?_;change wpStill _ _ v3.drew _ _ _
 repeat still_step
 refine wpStill_nil ?_
 try change _ v3.drew
 go_wp2_with fail
 go_ret;exact⟨by rw[ah.o];rfl,Bg (World.grownBy.trans ar.o au.o)⟩
theorem Blk.new_of (w:World) (g:Nat) (t:TypeId) (cs M:Array Value) (e:cs=M) (O:w.heap.size=g):Blk (w.alloc (.cells cs t)) g t M:=O▸e▸Blk.new w t cs
theorem AY {B:Nat} {a w:World} (h:Below B a w) {p:Addr} (O:B<=p.block) (u:Value):Below B a (w.setCell p u):=
 ⟨h.os,h.tape,h.output,by simpa [World.setCell] using h.size,fun i M=>(Below.heap_setCell w p u i (by omega)).trans (h.block i M)⟩
theorem Al {P:Program} {fn:Func} {tmps:Array Value} {w:World} {v:Value} (t:Nat) (ty:TypeId) (a:Addr) (M:fn.results=#[.cell t ty]) (X:tmps.getD t undef=.pointer (some a)) (Y:(loadVar ty a).run P w=.ok v w) :
  (results fn tmps).run P w=.ok v w:=by
 have O:tmps[t]?.getD undef=.pointer (some a):=by simpa using X
 simp [results,M,O,asAddr,Y]
theorem Ao {P:Program} {w:World} {g:Nat} {t ty:TypeId} {cs:Array Value} {d:TypeDesc} (h:Blk w g t cs) (hu:P.underlying ty=some d) (O:d.isRow=true) (M:(P.info? ty).map (·.size)=some cs.size) :
  (loadVar ty ⟨g,0,none⟩).run P w=.ok (.agg cs) w:=by
 have X:w.rangeAt g 0 cs.toList:=fun j v Y=>by rw[Nat.zero_add,h.cell];simpa using Y
 have:=run_loadVar_mid (P:=P) w g 0 ty cs.toList d X hu O (by simpa using M)
 simpa using this
def AM (ks:Nat->UInt8):Array Value:=((List.range 16).map (fun i=>bv (ks i))).toArray
theorem Blk.far {w:World} {g:Nat} {t:TypeId} {cs:Array Value} (h:Blk w g t cs) (p:Addr) (u:Value) (M:p.block≠g):Blk (w.setCell p u) g t cs:=
 (Below.heap_setCell w p u g (fun e=>M e.symm)).trans h
theorem Ac {w:World} {g:Nat} {t:TypeId} {cs:Array Value} (h:Blk w g t cs):w.rangeAt g 0 cs.toList:=fun j v M=>by
 rw[Nat.zero_add,h.cell];simpa using M
theorem Am {w:World} {g:Nat} {t:TypeId} {cs:Array Value} (h:Blk w g t cs):w.there g 0 cs.size:=fun j M=>by
 rw[Nat.zero_add];exact⟨by rw[h.cell,Array.getElem?_eq_getElem M];rfl,h.frozen j⟩
theorem Bx {B:Nat} {a:World} (b:Nat) (M:B<=b):∀(vs:List Value) (o:Nat) (w:World),Below B a w->Below B a (w.setCells b o vs)
 | [],_,_,h=>h
 |v :: r,o,w,h=>Bx b M r (o+1) _ (AY h M v)
def ksOf (l:List UInt8) (i:Nat):UInt8:=l.getD i 0
theorem FM (f:Nat->UInt8) (j:Nat) (M:j<16):(AM f)[j]? = some (bv (f j)):=by
 rw[AM,List.getElem?_toArray];simp [M]
theorem k16 {w':World} {B:Nat} {t:TypeId} {ks:Nat->UInt8} (h:Blk w' B t (AM ks)):w'.cell? ⟨B,0,none⟩=some (.int .u8 ((ks 0).toNat:Int))/\w'.cell? ⟨B,1,none⟩=some (.int .u8 ((ks 1).toNat:Int))/\w'.cell? ⟨B,2,none⟩=some (.int .u8 ((ks 2).toNat:Int))/\w'.cell? ⟨B,3,none⟩=some (.int .u8 ((ks 3).toNat:Int))/\w'.cell? ⟨B,4,none⟩=some (.int .u8 ((ks 4).toNat:Int))/\w'.cell? ⟨B,5,none⟩=some (.int .u8 ((ks 5).toNat:Int))/\w'.cell? ⟨B,6,none⟩=some (.int .u8 ((ks 6).toNat:Int))/\w'.cell? ⟨B,7,none⟩=some (.int .u8 ((ks 7).toNat:Int))/\w'.cell? ⟨B,8,none⟩=some (.int .u8 ((ks 8).toNat:Int))/\w'.cell? ⟨B,9,none⟩=some (.int .u8 ((ks 9).toNat:Int))/\w'.cell? ⟨B,10,none⟩=some (.int .u8 ((ks 10).toNat:Int))/\w'.cell? ⟨B,11,none⟩=some (.int .u8 ((ks 11).toNat:Int))/\w'.cell? ⟨B,12,none⟩=some (.int .u8 ((ks 12).toNat:Int))/\w'.cell? ⟨B,13,none⟩=some (.int .u8 ((ks 13).toNat:Int))/\w'.cell? ⟨B,14,none⟩=some (.int .u8 ((ks 14).toNat:Int))/\w'.cell? ⟨B,15,none⟩=some (.int .u8 ((ks 15).toNat:Int)):=by
 refine⟨?_,?_,?_,?_,?_,?_,?_,?_,?_,?_,?_,?_,?_,?_,?_,?_⟩<;>(rw[h.cell];rfl)
theorem KP (w:World) (g:Nat) (a b c d e f:Value):w.setCells g 0 [a,b,c,d,e,f]=(((((w.setCell ⟨g,0,none⟩ a).setCell ⟨g,1,none⟩ b).setCell ⟨g,2,none⟩ c).setCell ⟨g,3,none⟩ d).setCell ⟨g,4,none⟩ e).setCell ⟨g,5,none⟩ f:=rfl
theorem Blk.set6 {w:World} {g:Nat} {t:TypeId} {a b c d e f X O c' M Y Z:Value} (h:Blk w g t #[X,O,c',M,Y,Z]):Blk (w.setCells g 0 [a,b,c,d,e,f]) g t #[a,b,c,d,e,f]:=by
 rw[KP];have:=(((((h.set 0 a).set 1 b).set 2 c).set 3 d).set 4 e).set 5 f
 simpa using this
def Xw:Array Value:=#[.int .u64 0,.int .u64 0,.int .u64 0,.int .u64 0,.int .u64 0,.int .u64 0]
theorem Qa (ks:Nat->UInt8) (w:World):Calls Tryz.prog 198 #[.agg (AM ks)] w fun e w'=>e=.returned (.agg (stc ⟨start ks,0,0⟩))/\Below w.heap.size w w':=by
 have hk:AM ks=#[.int .u8 ((ks 0).toNat:Int),.int .u8 ((ks 1).toNat:Int),.int .u8 ((ks 2).toNat:Int),.int .u8 ((ks 3).toNat:Int),.int .u8 ((ks 4).toNat:Int),.int .u8 ((ks 5).toNat:Int),.int .u8 ((ks 6).toNat:Int),.int .u8 ((ks 7).toNat:Int),.int .u8 ((ks 8).toNat:Int),.int .u8 ((ks 9).toNat:Int),.int .u8 ((ks 10).toNat:Int),.int .u8 ((ks 11).toNat:Int),.int .u8 ((ks 12).toNat:Int),.int .u8 ((ks 13).toNat:Int),.int .u8 ((ks 14).toNat:Int),.int .u8 ((ks 15).toNat:Int)]:=rfl;have cA:∀w,Calls Tryz.prog 209 #[.agg #[.int .u8 ((ks 0).toNat:Int),.int .u8 ((ks 1).toNat:Int),.int .u8 ((ks 2).toNat:Int),.int .u8 ((ks 3).toNat:Int),.int .u8 ((ks 4).toNat:Int),.int .u8 ((ks 5).toNat:Int),.int .u8 ((ks 6).toNat:Int),.int .u8 ((ks 7).toNat:Int)]] w fun e w'=>e=.returned (wv (kA ks))/\Below w.heap.size w w':=fun w=>DA ks w
 have cB:∀w,Calls Tryz.prog 209 #[.agg #[.int .u8 ((ks 8).toNat:Int),.int .u8 ((ks 9).toNat:Int),.int .u8 ((ks 10).toNat:Int),.int .u8 ((ks 11).toNat:Int),.int .u8 ((ks 12).toNat:Int),.int .u8 ((ks 13).toNat:Int),.int .u8 ((ks 14).toNat:Int),.int .u8 ((ks 15).toNat:Int)]] w fun e w'=>e=.returned (wv (kB ks))/\Below w.heap.size w w':=fun w=>DA (fun i=>ks (8+i)) w
 obtain⟨p,ep⟩:∃x,x=kA ks:=⟨_,rfl⟩;obtain⟨q,eq⟩:∃x,x=kB ks:=⟨_,rfl⟩;obtain⟨v0,e0⟩:∃x,x=0x736f6d6570736575#64 ^^^ p:=⟨_,rfl⟩;obtain⟨v1,e1⟩:∃x,x=0x646f72616e646f6d#64 ^^^ q:=⟨_,rfl⟩;obtain⟨v2,e2⟩:∃x,x=0x6c7967656e657261#64 ^^^ p:=⟨_,rfl⟩;obtain⟨v3,e3⟩:∃x,x=0x7465646279746573#64 ^^^ q:=⟨_,rfl⟩;have x0:bits .xor .u64 8317987319222330741 (p.toNat:Int)=(v0.toNat:Int):=by rw[e0];exact BD 0x736f6d6570736575#64 p
 have x1:bits .xor .u64 7237128888997146477 (q.toNat:Int)=(v1.toNat:Int):=by rw[e1];exact BD 0x646f72616e646f6d#64 q
 have x2:bits .xor .u64 7816392313619706465 (p.toNat:Int)=(v2.toNat:Int):=by rw[e2];exact BD 0x6c7967656e657261#64 p
 have x3:bits .xor .u64 8387220255154660723 (q.toNat:Int)=(v3.toNat:Int):=by rw[e3];exact BD 0x7465646279746573#64 q
 have hs:stc ⟨start ks,0,0⟩=#[wv v0,wv v1,wv v2,wv v3,.int .u64 0,.int .u64 0]:=by
  rw[e0,e1,e2,e3,ep,eq];rfl
 rw[<-ep] at cA;rw[<-eq] at cB;rw[hs];clear hs ep eq e0 e1 e2 e3;obtain⟨B,eB⟩:=Aj (w.heap.size);have EB:=I eB;rw[hk];clear hk;go_enter Tryz.func198,Tryz.ntmps198
 go_upto_region 1 with fail
 rw[<-eB];clear eB;have ah:∀w:World,(Instr.arrayAt 288 (.slice (some ⟨B,0,none⟩) 8 16)).run Tryz.prog w=.ok (.pointer (some ⟨B,0,none⟩)) w:=fun _=>by kernel_rfl
 have ag:∀w:World,(Instr.arrayAt 288 (.slice (some ⟨B,8,none⟩) 8 8)).run Tryz.prog w=.ok (.pointer (some ⟨B,8,none⟩)) w:=fun _=>by kernel_rfl
 have O:Blk ((w.alloc (.cells #[.int .u8 ((ks 0).toNat:Int),.int .u8 ((ks 1).toNat:Int),.int .u8 ((ks 2).toNat:Int),.int .u8 ((ks 3).toNat:Int),.int .u8 ((ks 4).toNat:Int),.int .u8 ((ks 5).toNat:Int),.int .u8 ((ks 6).toNat:Int),.int .u8 ((ks 7).toNat:Int),.int .u8 ((ks 8).toNat:Int),.int .u8 ((ks 9).toNat:Int),.int .u8 ((ks 10).toNat:Int),.int .u8 ((ks 11).toNat:Int),.int .u8 ((ks 12).toNat:Int),.int .u8 ((ks 13).toNat:Int),.int .u8 ((ks 14).toNat:Int),.int .u8 ((ks 15).toNat:Int)] 157)).alloc (.cells #[.int .u64 0,.int .u64 0,.int .u64 0,.int .u64 0,.int .u64 0,.int .u64 0] 276)) B 157 (AM ks):=Blk.alloc (Blk.new_of w B _ _ (AM ks) rfl EB.o.symm) _;have X:Blk ((w.alloc (.cells #[.int .u8 ((ks 0).toNat:Int),.int .u8 ((ks 1).toNat:Int),.int .u8 ((ks 2).toNat:Int),.int .u8 ((ks 3).toNat:Int),.int .u8 ((ks 4).toNat:Int),.int .u8 ((ks 5).toNat:Int),.int .u8 ((ks 6).toNat:Int),.int .u8 ((ks 7).toNat:Int),.int .u8 ((ks 8).toNat:Int),.int .u8 ((ks 9).toNat:Int),.int .u8 ((ks 10).toNat:Int),.int .u8 ((ks 11).toNat:Int),.int .u8 ((ks 12).toNat:Int),.int .u8 ((ks 13).toNat:Int),.int .u8 ((ks 14).toNat:Int),.int .u8 ((ks 15).toNat:Int)] 157)).alloc (.cells #[.int .u64 0,.int .u64 0,.int .u64 0,.int .u64 0,.int .u64 0,.int .u64 0] 276)) (B+1) 276 Xw:=Blk.new_of (w.alloc _) (B+1) _ _ Xw rfl (by have:=EB.o;simp;omega);have Z:Below w.heap.size w ((w.alloc (.cells #[.int .u8 ((ks 0).toNat:Int),.int .u8 ((ks 1).toNat:Int),.int .u8 ((ks 2).toNat:Int),.int .u8 ((ks 3).toNat:Int),.int .u8 ((ks 4).toNat:Int),.int .u8 ((ks 5).toNat:Int),.int .u8 ((ks 6).toNat:Int),.int .u8 ((ks 7).toNat:Int),.int .u8 ((ks 8).toNat:Int),.int .u8 ((ks 9).toNat:Int),.int .u8 ((ks 10).toNat:Int),.int .u8 ((ks 11).toNat:Int),.int .u8 ((ks 12).toNat:Int),.int .u8 ((ks 13).toNat:Int),.int .u8 ((ks 14).toNat:Int),.int .u8 ((ks 15).toNat:Int)] 157)).alloc (.cells #[.int .u64 0,.int .u64 0,.int .u64 0,.int .u64 0,.int .u64 0,.int .u64 0] 276)):=((Below.refl w.heap.size w).alloc Af _).alloc (by simp) _;have ad:=I x0;clear x0;have ae:=I x1;clear x1;have af:=I x2;clear x2;have ab:=I x3;clear x3;generalize ((w.alloc (.cells #[.int .u8 ((ks 0).toNat:Int),.int .u8 ((ks 1).toNat:Int),.int .u8 ((ks 2).toNat:Int),.int .u8 ((ks 3).toNat:Int),.int .u8 ((ks 4).toNat:Int),.int .u8 ((ks 5).toNat:Int),.int .u8 ((ks 6).toNat:Int),.int .u8 ((ks 7).toNat:Int),.int .u8 ((ks 8).toNat:Int),.int .u8 ((ks 9).toNat:Int),.int .u8 ((ks 10).toNat:Int),.int .u8 ((ks 11).toNat:Int),.int .u8 ((ks 12).toNat:Int),.int .u8 ((ks 13).toNat:Int),.int .u8 ((ks 14).toNat:Int),.int .u8 ((ks 15).toNat:Int)] 157)).alloc (.cells #[.int .u64 0,.int .u64 0,.int .u64 0,.int .u64 0,.int .u64 0,.int .u64 0] 276))=W1 at O X Z⊢;have O:Blk W1.drew B 157 (AM ks):=O;have X:Blk W1.drew (B+1) 276 #[.int .u64 0,.int .u64 0,.int .u64 0,.int .u64 0,.int .u64 0,.int .u64 0]:=X;have Z:Below w.heap.size w W1.drew:=below_drewN Z 1
 go_region_held3 (fun w'=>w'.cell? ⟨B,0,none⟩=some (.int .u8 ((ks 0).toNat:Int))/\w'.cell? ⟨B,1,none⟩=some (.int .u8 ((ks 1).toNat:Int))/\w'.cell? ⟨B,2,none⟩=some (.int .u8 ((ks 2).toNat:Int))/\w'.cell? ⟨B,3,none⟩=some (.int .u8 ((ks 3).toNat:Int))/\w'.cell? ⟨B,4,none⟩=some (.int .u8 ((ks 4).toNat:Int))/\w'.cell? ⟨B,5,none⟩=some (.int .u8 ((ks 5).toNat:Int))/\w'.cell? ⟨B,6,none⟩=some (.int .u8 ((ks 6).toNat:Int))/\w'.cell? ⟨B,7,none⟩=some (.int .u8 ((ks 7).toNat:Int))/\w'.cell? ⟨B,8,none⟩=some (.int .u8 ((ks 8).toNat:Int))/\w'.cell? ⟨B,9,none⟩=some (.int .u8 ((ks 9).toNat:Int))/\w'.cell? ⟨B,10,none⟩=some (.int .u8 ((ks 10).toNat:Int))/\w'.cell? ⟨B,11,none⟩=some (.int .u8 ((ks 11).toNat:Int))/\w'.cell? ⟨B,12,none⟩=some (.int .u8 ((ks 12).toNat:Int))/\w'.cell? ⟨B,13,none⟩=some (.int .u8 ((ks 13).toNat:Int))/\w'.cell? ⟨B,14,none⟩=some (.int .u8 ((ks 14).toNat:Int))/\w'.cell? ⟨B,15,none⟩=some (.int .u8 ((ks 15).toNat:Int))) (exact k16 O) (first | (go_at_call 209;refine Ah (cA _) ?_;rintro wq hb;clear cA;have M:=Blk.below O hb;have aa:=Blk.below X hb;have Y:=bt Z hb;clear O X Z;have O:=M;have X:=aa;have Z:=Y;clear M aa Y hb) | (go_at_call 209;refine Ah (cB _) ?_;rintro wq hb;clear cB;have M:=Blk.below O hb;have aa:=Blk.below X hb;have Y:=bt Z hb;clear O X Z;have O:=M;have X:=aa;have Z:=Y;clear M aa Y hb))
 all_goals
  have x0:=ad.o;have x1:=ae.o;have x2:=af.o;have x3:=ab.o;have HZ:=I X;clear X;have HW:=I Z;clear Z;clear O ad ae af ab
 all_goals
  have c0:wq.cell? ⟨B+1,0,none⟩=some (.int .u64 0):=by rw[HZ.o.cell];rfl
  have c1:wq.cell? ⟨B+1,1,none⟩=some (.int .u64 0):=by rw[HZ.o.cell];rfl
  have c2:wq.cell? ⟨B+1,2,none⟩=some (.int .u64 0):=by rw[HZ.o.cell];rfl
  have c3:wq.cell? ⟨B+1,3,none⟩=some (.int .u64 0):=by rw[HZ.o.cell];rfl
  have c4:wq.cell? ⟨B+1,4,none⟩=some (.int .u64 0):=by rw[HZ.o.cell];rfl
  have c5:wq.cell? ⟨B+1,5,none⟩=some (.int .u64 0):=by rw[HZ.o.cell];rfl
  have fz:=HZ.o.frozen;clear ah ag
 all_goals go_wp2_with fail
 all_goals
  have hE:=Blk.set6 (a:=wv v0) (b:=wv v1) (c:=wv v2) (d:=wv v3) (e:=.int .u64 0) (f:=.int .u64 0) HZ.o;rw[KP] at hE;have hq:=Ao (P:=Tryz.prog) hE Tryz.underlying276 rfl (by kernel_rfl);refine bodyPost_ret (v:=.agg #[wv v0,wv v1,wv v2,wv v3,.int .u64 0,.int .u64 0]) ?_ ?_ ?_
  ·exact Al 2 276 ⟨B+1,0,none⟩ Tryz.results198 rfl hq
  ·rfl
  refine⟨rfl,?_⟩;have hle:w.heap.size<=B+1:=by have:=EB.o;omega
  repeat (refine AY ?_ hle _)
  exact HW.o
end Si
end Go.Proofs.YtlccngianpfalaaGreat
