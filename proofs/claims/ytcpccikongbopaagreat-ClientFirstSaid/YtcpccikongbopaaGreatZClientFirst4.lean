import Derived.Test.YtcpccikongbopaaGreatZClientFirst1
set_option maxHeartbeats 25600000
set_option maxRecDepth 100000
set_option linter.unusedVariables false
set_option linter.unusedSimpArgs false
namespace Go.Proofs.YtcpccikongbopaaGreat
namespace Si
open Go.RowKit Ad
abbrev Wd:=BitVec 64
def rot (v:Wd) (s:Nat):Wd:=(v <<< s) ||| (v >>> (64 - s))
abbrev wv (v:Wd):Value:=.int .u64 (v.toNat:Int)
def wd (n:Nat):Wd:=BitVec.ofNat 64 n
theorem FH (v:Wd):v.toNat<18446744073709551616:=v.isLt
theorem IU (n:Nat) (h:n<18446744073709551616):(wd n).toNat=n:=by
 rw[wd,BitVec.toNat_ofNat];exact Nat.mod_eq_of_lt h
theorem Bu (x y:Wd):bits .xor .u64 (x.toNat:Int) (y.toNat:Int)=((x ^^^ y).toNat:Int):=by
 rw[u64_xor_nat _ _ x.isLt y.isLt,BitVec.toNat_xor]
theorem Fw (x y:Wd):((x.toNat:Int)+(y.toNat:Int)) % 18446744073709551616=((x+y).toNat:Int):=by
 rw[BitVec.toNat_add];omega
theorem GZ (x y:Wd):IntKind.u64.wrap ((x.toNat:Int)+(y.toNat:Int))=((x+y).toNat:Int):=by
 rw[IntKind.wrap_u64,Fw]
theorem Jn (v:Wd) (s:Nat):(rot v s).toNat=(v.toNat*2 ^ s % 18446744073709551616) ||| (v.toNat / 2 ^ (64 - s)):=by
 simp [rot,BitVec.toNat_or,BitVec.toNat_shiftLeft,BitVec.toNat_ushiftRight,Nat.shiftLeft_eq,Nat.shiftRight_eq_div_pow]
theorem GX (v:Wd) (a b:Nat) (s:Nat) (D:a=v.toNat*2 ^ s % 18446744073709551616) (E:b=v.toNat / 2 ^ (64 - s)):bits .or .u64 (a:Int) (b:Int)=((rot v s).toNat:Int):=by
 rw[u64_or_nat a b (by omega) (by have:=FH v;have:=Nat.div_le_self v.toNat (2 ^ (64 - s));omega),Jn,D,E]
theorem or13 (v:Wd):bits .or .u64 ((v.toNat:Int)*8192 % 18446744073709551616) ((v.toNat:Int) / 2251799813685248)=((rot v 13).toNat:Int):=GX v _ _ 13 rfl rfl
theorem or32 (v:Wd):bits .or .u64 ((v.toNat:Int)*4294967296 % 18446744073709551616) ((v.toNat:Int) / 4294967296)=((rot v 32).toNat:Int):=GX v _ _ 32 rfl rfl
theorem or16 (v:Wd):bits .or .u64 ((v.toNat:Int)*65536 % 18446744073709551616) ((v.toNat:Int) / 281474976710656)=((rot v 16).toNat:Int):=GX v _ _ 16 rfl rfl
theorem or21 (v:Wd):bits .or .u64 ((v.toNat:Int)*2097152 % 18446744073709551616) ((v.toNat:Int) / 8796093022208)=((rot v 21).toNat:Int):=GX v _ _ 21 rfl rfl
theorem or17 (v:Wd):bits .or .u64 ((v.toNat:Int)*131072 % 18446744073709551616) ((v.toNat:Int) / 140737488355328)=((rot v 17).toNat:Int):=GX v _ _ 17 rfl rfl
def BH:List UInt8->Nat
 | []=>0
 |b :: l=>b.toNat+256*BH l
theorem Gh:∀l,BH l<256 ^ l.length
 | []=>by simp [BH]
 |b :: l=>by
  have h:=Gh l;have D:=b.toNat_lt;rw[BH,List.length_cons,Nat.pow_succ];omega
theorem GB (b:UInt8):∀l,BH (l++[b])=BH l+b.toNat*256 ^ l.length
 | []=>by simp [BH]
 |c :: l=>by
  rw[List.cons_append,BH,GB b l,BH,List.length_cons,Nat.pow_succ,Nat.mul_add,Nat.add_assoc]
  congr 2
  rw[Nat.mul_comm,Nat.mul_assoc]
theorem Jr {l:List UInt8} (h:l.length<=8):BH l<18446744073709551616:=
 Nat.lt_of_lt_of_le (Gh l) (Nat.pow_le_pow_right (by decide) h:256 ^ l.length<=256 ^ 8)
theorem Pj {l:List UInt8} (h:l.length<=7):BH l<72057594037927936:=
 Nat.lt_of_lt_of_le (Gh l) (Nat.pow_le_pow_right (by decide) h:256 ^ l.length<=256 ^ 7)
structure V where
 a:Wd
 b:Wd
 c:Wd
 d:Wd
def rnd (s:V):V:=
 let a1:=s.a+s.b
 let b1:=rot s.b 13 ^^^ a1
 let a2:=rot a1 32
 let c1:=s.c+s.d
 let d1:=rot s.d 16 ^^^ c1
 let a3:=a2+d1
 let d2:=rot d1 21 ^^^ a3
 let c2:=c1+b1
 let b2:=rot b1 17 ^^^ c2
 let c3:=rot c2 32
 ⟨a3,b2,c3,d2⟩
def rnds:Nat->V->V
 |0,s=>s
 |n+1,s=>rnd (rnds n s)
def addM (s:V) (m:Wd):V:=⟨(rnds 2 ⟨s.a,s.b,s.c,s.d ^^^ m⟩).a ^^^ m,(rnds 2 ⟨s.a,s.b,s.c,s.d ^^^ m⟩).b,(rnds 2 ⟨s.a,s.b,s.c,s.d ^^^ m⟩).c,(rnds 2 ⟨s.a,s.b,s.c,s.d ^^^ m⟩).d⟩
def allX (s:V):Wd:=s.a ^^^ s.b ^^^ s.c ^^^ s.d
def fin (s:V):Wd:=allX (rnds 4 ⟨s.a,s.b,s.c ^^^ 255#64,s.d⟩)
def kA (ks:Nat->UInt8):Wd:=wd (BH ((List.range 8).map ks))
def kB (ks:Nat->UInt8):Wd:=wd (BH ((List.range 8).map fun i=>ks (8+i)))
def start (ks:Nat->UInt8):V:=⟨0x736f6d6570736575#64 ^^^ kA ks,0x646f72616e646f6d#64 ^^^ kB ks,0x6c7967656e657261#64 ^^^ kA ks,0x7465646279746573#64 ^^^ kB ks⟩
structure St where
 v:V
 r:Nat
 n:Nat
def addB (s:St) (b:UInt8):St:=
 if (s.n+1) % 8=0 then ⟨addM s.v (wd (s.r+b.toNat*256 ^ (s.n % 8))),0,s.n+1⟩ else ⟨s.v,s.r+b.toNat*256 ^ (s.n % 8),s.n+1⟩
theorem Mp (s:St) (b:UInt8) (h:(s.n+1) % 8=0):addB s b=⟨addM s.v (wd (s.r+b.toNat*256 ^ (s.n % 8))),0,s.n+1⟩:=if_pos h
theorem Pk (s:St) (b:UInt8) (h:¬(s.n+1) % 8=0):addB s b=⟨s.v,s.r+b.toNat*256 ^ (s.n % 8),s.n+1⟩:=if_neg h
def stOf (ks:Nat->UInt8) (l:List UInt8):St:=l.foldl addB ⟨start ks,0,0⟩
def Nt (s:St):Wd:=wd (s.r+s.n % 256*72057594037927936)
def finS (s:St):Wd:=fin (addM s.v (Nt s))
def GC (ks:Nat->UInt8) (l:List UInt8):Wd:=finS (stOf ks l)
theorem Kh (ks:Nat->UInt8) (l:List UInt8) (b:UInt8):stOf ks (l++[b])=addB (stOf ks l) b:=by simp [stOf]
def full (ks:Nat->UInt8) (p:List UInt8):Nat->V
 |0=>start ks
 |j+1=>addM (full ks p j) (wd (BH ((p.drop (8*j)).take 8)))
theorem Ki (ks:Nat->UInt8) (p:List UInt8):∀n,n<=p.length->stOf ks (p.take n)=⟨full ks p (n / 8),BH ((p.take n).drop (8*(n / 8))),n⟩
 |0,_=>by simp [stOf,full,BH]
 |n+1,h=>by
  have ih:=Ki ks p n (by omega);have D:n<p.length:=by omega
  have M:p.take (n+1)=p.take n++[p[n]]:=by rw[List.take_succ_eq_append_getElem D]
  have Z:((p.take n).drop (8*(n / 8))).length=n % 8:=by rw[List.length_drop,List.length_take];omega
  have X:(p.take (n+1)).drop (8*(n / 8))=(p.take n).drop (8*(n / 8))++[p[n]]:=by
   rw[M,List.drop_append_of_le_length (by rw[List.length_take];omega)]
  have F:BH ((p.take (n+1)).drop (8*(n / 8)))=BH ((p.take n).drop (8*(n / 8)))+p[n].toNat*256 ^ (n % 8):=by rw[X,GB,Z]
  have e0:stOf ks (p.take (n+1))=addB (stOf ks (p.take n)) p[n]:=by rw[M,Kh]
  have O:(p.take (n+1)).drop (n+1) = []:=List.drop_of_length_le (by rw[List.length_take];omega);rw[e0,ih]
  by_cases h8:(n+1) % 8=0
  ·have E:(n+1) / 8=n / 8+1:=by omega
   have hm:8*((n+1) / 8)=n+1:=by omega
   have Y:(p.take (n+1)).drop (8*(n / 8))=(p.drop (8*(n / 8))).take 8:=by rw[List.drop_take,show n+1 - 8*(n / 8)=8 by omega]
   rw[Mp _ _ h8,<-F,hm,O,E,full,Y];simp only[BH]
  ·have E:(n+1) / 8=n / 8:=by omega
   rw[Pk _ _ h8,E,F]
theorem Fo (ks:Nat->UInt8) (p:List UInt8):stOf ks p=⟨full ks p (p.length / 8),BH (p.drop (8*(p.length / 8))),p.length⟩:=by
 have h:=Ki ks p p.length Ae
 rwa [List.take_length] at h
theorem WN (ks:Nat->UInt8) (p:List UInt8):(stOf ks p).n=p.length:=by rw[Fo]
theorem TS (ks:Nat->UInt8) (p:List UInt8):(stOf ks p).r<256 ^ ((stOf ks p).n % 8):=by
 rw[Fo];have h:=Gh (p.drop (8*(p.length / 8)));rw[List.length_drop] at h
 rwa [show p.length - 8*(p.length / 8)=p.length % 8 by omega] at h
theorem RU (k:Nat) (h:k<=7):256 ^ k<=72057594037927936:=(Nat.pow_le_pow_right (by decide) h:256 ^ k<=256 ^ 7)
theorem Kj (r b k:Nat) (D:r<256 ^ k):r ||| b*256 ^ k=r+b*256 ^ k:=by
 have e:(256:Nat) ^ k=2 ^ (8*k):=by rw[Nat.pow_mul]
 rw[e] at D⊢;have h:=Nat.shiftLeft_add_eq_or_of_lt D b;rw[Nat.shiftLeft_eq] at h;rw[Nat.or_comm,<-h,Nat.add_comm]
theorem Mq (r:Nat) (b:UInt8) (k:Nat) (D:r<256 ^ k):r+b.toNat*256 ^ k<256 ^ (k+1):=by
 have E:=b.toNat_lt;rw[Nat.pow_succ];have:b.toNat*256 ^ k<=255*256 ^ k:=Nat.mul_le_mul_right _ (by omega);omega
theorem Js (r:Nat) (b:UInt8) (k:Nat) (hk:k<=7) (D:r<256 ^ k) (X:Int) (F:X=((b.toNat*256 ^ k:Nat):Int)):bits .or .u64 (r:Int) X=((r+b.toNat*256 ^ k:Nat):Int):=by
 have M:=RU k hk;have O:=Mq r b k D;have Y:(256:Nat) ^ (k+1)<=256 ^ 8:=Nat.pow_le_pow_right (by decide) (by omega);have E:(256:Nat) ^ 8=18446744073709551616:=by decide
 rw[F,u64_or_nat _ _ (by omega) (by omega),Kj r _ k D]
theorem Mr (r n:Nat) (E:r<72057594037927936):bits .or .u64 (r:Int) ((n:Int)*72057594037927936 % 18446744073709551616)=((r+n % 256*72057594037927936:Nat):Int):=by
 have e:(n:Int)*72057594037927936 % 18446744073709551616=((n % 256*256 ^ 7:Nat):Int):=by
  have:(256:Nat) ^ 7=72057594037927936:=by decide
  rw[this];omega
 have D:(UInt8.ofNat (n % 256)).toNat=n % 256:=by simp
 have h:=Js r (UInt8.ofNat (n % 256)) 7 (by decide) E ((n:Int)*72057594037927936 % 18446744073709551616) (by rw[e,D]);rw[h,D]
theorem WO (v:Wd) (w:World):Calls Tryz.prog 227 #[wv v,.int .i64 13] w fun e w'=>e=.returned (wv (rot v 13))/\w'=w:=by
 have hand:bits .and .u64 13 63=13:=by kernel_rfl
 have D:=or13 v;rw[<-IntKind.wrap_u64] at D;go_enter Tryz.func227,Tryz.ntmps227
 go_wp2
 go_ret;exact⟨rfl,rfl⟩
theorem TT (v:Wd) (w:World):Calls Tryz.prog 227 #[wv v,.int .i64 32] w fun e w'=>e=.returned (wv (rot v 32))/\w'=w:=by
 have hand:bits .and .u64 32 63=32:=by kernel_rfl
 have D:=or32 v;rw[<-IntKind.wrap_u64] at D;go_enter Tryz.func227,Tryz.ntmps227
 go_wp2
 go_ret;exact⟨rfl,rfl⟩
theorem WQ (v:Wd) (w:World):Calls Tryz.prog 227 #[wv v,.int .i64 16] w fun e w'=>e=.returned (wv (rot v 16))/\w'=w:=by
 have hand:bits .and .u64 16 63=16:=by kernel_rfl
 have D:=or16 v;rw[<-IntKind.wrap_u64] at D;go_enter Tryz.func227,Tryz.ntmps227
 go_wp2
 go_ret;exact⟨rfl,rfl⟩
theorem WR (v:Wd) (w:World):Calls Tryz.prog 227 #[wv v,.int .i64 21] w fun e w'=>e=.returned (wv (rot v 21))/\w'=w:=by
 have hand:bits .and .u64 21 63=21:=by kernel_rfl
 have D:=or21 v;rw[<-IntKind.wrap_u64] at D;go_enter Tryz.func227,Tryz.ntmps227
 go_wp2
 go_ret;exact⟨rfl,rfl⟩
theorem WS (v:Wd) (w:World):Calls Tryz.prog 227 #[wv v,.int .i64 17] w fun e w'=>e=.returned (wv (rot v 17))/\w'=w:=by
 have hand:bits .and .u64 17 63=17:=by kernel_rfl
 have D:=or17 v;rw[<-IntKind.wrap_u64] at D;go_enter Tryz.func227,Tryz.ntmps227
 go_wp2
 go_ret;exact⟨rfl,rfl⟩
theorem UY (v:Wd) (w:World):Calls Tryz.prog 171 #[wv v,.int .u64 13] w fun e w'=>e=.returned (wv (rot v 13))/\w'=w:=by
 have D:=or13 v;rw[<-IntKind.wrap_u64] at D;go_enter Tryz.func171,Tryz.ntmps171
 go_wp2
 go_ret;exact⟨rfl,rfl⟩
theorem Pl (v:Wd) (w:World):Calls Tryz.prog 171 #[wv v,.int .u64 32] w fun e w'=>e=.returned (wv (rot v 32))/\w'=w:=by
 have D:=or32 v;rw[<-IntKind.wrap_u64] at D;go_enter Tryz.func171,Tryz.ntmps171
 go_wp2
 go_ret;exact⟨rfl,rfl⟩
theorem UZ (v:Wd) (w:World):Calls Tryz.prog 171 #[wv v,.int .u64 16] w fun e w'=>e=.returned (wv (rot v 16))/\w'=w:=by
 have D:=or16 v;rw[<-IntKind.wrap_u64] at D;go_enter Tryz.func171,Tryz.ntmps171
 go_wp2
 go_ret;exact⟨rfl,rfl⟩
theorem Va (v:Wd) (w:World):Calls Tryz.prog 171 #[wv v,.int .u64 21] w fun e w'=>e=.returned (wv (rot v 21))/\w'=w:=by
 have D:=or21 v;rw[<-IntKind.wrap_u64] at D;go_enter Tryz.func171,Tryz.ntmps171
 go_wp2
 go_ret;exact⟨rfl,rfl⟩
theorem Vb (v:Wd) (w:World):Calls Tryz.prog 171 #[wv v,.int .u64 17] w fun e w'=>e=.returned (wv (rot v 17))/\w'=w:=by
 have D:=or17 v;rw[<-IntKind.wrap_u64] at D;go_enter Tryz.func171,Tryz.ntmps171
 go_wp2
 go_ret;exact⟨rfl,rfl⟩
theorem Vc (M:Nat) (b:UInt8) (D:M<72057594037927936):bits .or .u64 ((M:Int)*256) (b.toNat:Int)=((b.toNat+256*M:Nat):Int):=by
 have E:=b.toNat_lt;have e:(M:Int)*256=((M*256:Nat):Int):=by omega
 rw[e,u64_or_nat _ _ (by omega) (by omega)];have h:=nat_join 8 (M*256) b.toNat (by omega) (by omega);rw[h];omega
theorem Lh (A:Option Addr) (n c:Nat) (l:List UInt8) (w:World) (B:Nat) (hn:n=l.length) (h8:n<=8) (Y:Rd w B A (bvs l)) :
  Calls Tryz.prog 131 #[.slice A n c] w fun e w'=>e=.returned (wv (wd (BH l)))/\w'=w:=by
 have HR:=I Y;clear Y;have HN:=I hn;clear hn;have H8:=I h8;clear h8;have e8:(n:Int)<=8:=by have:=H8.o;omega
 go_enter Tryz.func131,Tryz.ntmps131
 go_wp2_with fail
 go_loop [3,4] (fun mv iv=>∃j:Nat,j<=n/\iv=.int .i64 ((j:Int) - 1)/\mv=.int .u64 (BH (l.drop j):Nat)) (fun _ iv=>(intOf iv+1).toNat)
 case atStart=>exact⟨n,Nat.le_refl _,by go_num,by rw[List.drop_of_length_le (by have:=HN.o;omega)];rfl⟩
 case round=>
  obtain⟨j,hj,rfl,rfl⟩:=hrel;cases j with
  |zero=>
   have e:(BH l:Int)=((wd (BH l)).toNat:Int):=by rw[IU _ (Jr (by have:=HN.o;have:=H8.o;omega))]
   rw[List.drop_zero];obtain⟨x,ex⟩:=Ah (BH l);rw[<-ex] at e⊢;have E:=I e;clear e;have EX:=I ex;clear ex
   go_wp2_with fail
   go_ret;exact⟨by rw[wv,<-EX.o];simp [E.o],rfl⟩
  |succ j=>
   have hc:((j+1:Nat):Int) - 1=(j:Int):=by omega
   rw[hc];have F:j<l.length:=by have:=HN.o;omega
   have Y:=HR.o;obtain⟨b,o,rfl,ab,D⟩:=Y.at_ (DH F);have O:w.cell? ⟨b,o+j,none⟩=some (.int .u8 ((l[j]).toNat:Int)):=D;clear D;obtain⟨y,ey⟩:=Ah (l[j]);rw[<-ey] at O;obtain⟨M,Z⟩:=Ah (BH (l.drop (j+1)));rw[<-Z];have hM:M<72057594037927936:=by rw[Z];exact Pj (by rw[List.length_drop];have:=HN.o;have:=H8.o;omega)
   have e2:y.toNat+256*M=BH (l.drop j):=by rw[Z,ey,List.drop_eq_getElem_cons F,BH]
   have hx:=Vc M y hM;rw[e2] at hx;obtain⟨M2,X⟩:∃M,M=BH (l.drop j):=⟨_,rfl⟩;rw[<-X] at hx;have aa:=I X;have e3:(0:Int)<=(j:Int):=by omega
   have e4:(j:Int)<(n:Int):=by omega
   have e5:j<n:=by omega
   have e7:(j:Int)<8:=by omega
   have hy:IntKind.u64.wrap (y.toNat:Int)=(y.toNat:Int):=by rw[IntKind.wrap_u64];have:=y.toNat_lt;omega
   have HJ:=I hj;have ad:=I F;clear hj F Y Z e2 ey X
   go_wp2_with fail
   go_round
   case rel=>exact⟨j,by omega,by go_num,by rw[aa.o]⟩
   case measure=>simp [intOf]
def key8 (f:Nat->UInt8):Array Value:=#[.int .u8 (f 0).toNat,.int .u8 (f 1).toNat,.int .u8 (f 2).toNat,.int .u8 (f 3).toNat,.int .u8 (f 4).toNat,.int .u8 (f 5).toNat,.int .u8 (f 6).toNat,.int .u8 (f 7).toNat]
def GD (f:Nat->UInt8) (i:Nat):Nat:=BH ((List.range i).map f)
theorem Nu (f:Nat->UInt8) (i:Nat):GD f (i+1)=GD f i+(f i).toNat*256 ^ i:=by
 unfold GD;rw[List.range_succ,List.map_append,List.map_singleton,GB];simp
theorem RV (f:Nat->UInt8) (i:Nat):GD f i<256 ^ i:=by
 have:=Gh ((List.range i).map f)
 simpa [GD] using this
theorem or_at (f:Nat->UInt8) (i:Nat) (K:Int) (D:i<=7) (E:K=((256 ^ i:Nat):Int)):bits .or .u64 (GD f i:Nat) (IntKind.u64.wrap (((f i).toNat:Int)*K))=(GD f (i+1):Nat):=by
 rw[Nu];refine Js _ _ i D (RV f i) _ ?_;have F:=RU i D;have M:=(f i).toNat_lt;have O:(f i).toNat*256 ^ i<=255*72057594037927936:=Nat.mul_le_mul (by omega) F;rw[E,IntKind.wrap_u64,<-Int.natCast_mul];omega
theorem Dl (f:Nat->UInt8) (w:World) :
  Calls Tryz.prog 215 #[.agg (key8 f)] w fun e w'=>e=.returned (wv (wd (GD f 8)))/\Below w.heap.size w w':=by
 unfold key8;go_enter Tryz.func215,Tryz.ntmps215
 go_wp2_with fail
 go_loop [3,7] (fun mv Z=>∃j:Nat,j<=8/\Z=.int .i64 (j:Int)/\mv=.int .u64 (GD f j:Nat)) (fun _ Z=>8 - (intOf Z).toNat)
 case atStart=>exact⟨0,by decide,rfl,rfl⟩
 case round=>
  obtain⟨j,hj,rfl,rfl⟩:=hrel;obtain⟨M,Y⟩:=Ah (GD f j);obtain⟨M2,O⟩:∃M,M=GD f (j+1):=⟨_,rfl⟩;have D:∀K:Int,j<=7->K=((256 ^ j:Nat):Int)->bits .or .u64 (M:Int) (IntKind.u64.wrap (((f j).toNat:Int)*K))=(M2:Int):=fun K h1 h2=>by rw[Y,O];exact or_at f j K h1 h2
  rw[<-Y];have EM:=I Y;clear Y;have E:=I O;clear O;have hs:j=0\/j=1\/j=2\/j=3\/j=4\/j=5\/j=6\/j=7\/j=8:=by omega
  clear hj;rcases hs with rfl | rfl | rfl | rfl | rfl | rfl | rfl | rfl | rfl
  ·have D:=D 1 (by decide) (by decide)
   have F:IntKind.u64.wrap ((f 0).toNat:Int)=((f 0).toNat:Int):=by rw[IntKind.wrap_u64];have:=(f 0).toNat_lt;omega
   rw[Int.mul_one,F] at D;have X:∀w:World,(Instr.index 290 (.agg #[.int .u8 (f 0).toNat,.int .u8 (f 1).toNat,.int .u8 (f 2).toNat,.int .u8 (f 3).toNat,.int .u8 (f 4).toNat,.int .u8 (f 5).toNat,.int .u8 (f 6).toNat,.int .u8 (f 7).toNat]) (.int .i64 0)).run Tryz.prog w=.ok (.int .u8 (f 0).toNat) w:=fun _=>by kernel_rfl
   go_wp2_with fail
   go_round
   case rel=>exact⟨1,by decide,by go_num,by rw[E.o]⟩
   case measure=>simp [intOf]
  ·have D:=D 256 (by decide) (by decide)
   have F:IntKind.u64.wrap ((f 1).toNat:Int)=((f 1).toNat:Int):=by rw[IntKind.wrap_u64];have:=(f 1).toNat_lt;omega
   have X:∀w:World,(Instr.index 290 (.agg #[.int .u8 (f 0).toNat,.int .u8 (f 1).toNat,.int .u8 (f 2).toNat,.int .u8 (f 3).toNat,.int .u8 (f 4).toNat,.int .u8 (f 5).toNat,.int .u8 (f 6).toNat,.int .u8 (f 7).toNat]) (.int .i64 1)).run Tryz.prog w=.ok (.int .u8 (f 1).toNat) w:=fun _=>by kernel_rfl
   go_wp2_with fail
   go_round
   case rel=>exact⟨2,by decide,by go_num,by rw[E.o]⟩
   case measure=>simp [intOf]
  ·have D:=D 65536 (by decide) (by decide)
   have F:IntKind.u64.wrap ((f 2).toNat:Int)=((f 2).toNat:Int):=by rw[IntKind.wrap_u64];have:=(f 2).toNat_lt;omega
   have X:∀w:World,(Instr.index 290 (.agg #[.int .u8 (f 0).toNat,.int .u8 (f 1).toNat,.int .u8 (f 2).toNat,.int .u8 (f 3).toNat,.int .u8 (f 4).toNat,.int .u8 (f 5).toNat,.int .u8 (f 6).toNat,.int .u8 (f 7).toNat]) (.int .i64 2)).run Tryz.prog w=.ok (.int .u8 (f 2).toNat) w:=fun _=>by kernel_rfl
   go_wp2_with fail
   go_round
   case rel=>exact⟨3,by decide,by go_num,by rw[E.o]⟩
   case measure=>simp [intOf]
  ·have D:=D 16777216 (by decide) (by decide)
   have F:IntKind.u64.wrap ((f 3).toNat:Int)=((f 3).toNat:Int):=by rw[IntKind.wrap_u64];have:=(f 3).toNat_lt;omega
   have X:∀w:World,(Instr.index 290 (.agg #[.int .u8 (f 0).toNat,.int .u8 (f 1).toNat,.int .u8 (f 2).toNat,.int .u8 (f 3).toNat,.int .u8 (f 4).toNat,.int .u8 (f 5).toNat,.int .u8 (f 6).toNat,.int .u8 (f 7).toNat]) (.int .i64 3)).run Tryz.prog w=.ok (.int .u8 (f 3).toNat) w:=fun _=>by kernel_rfl
   go_wp2_with fail
   go_round
   case rel=>exact⟨4,by decide,by go_num,by rw[E.o]⟩
   case measure=>simp [intOf]
  ·have D:=D 4294967296 (by decide) (by decide)
   have F:IntKind.u64.wrap ((f 4).toNat:Int)=((f 4).toNat:Int):=by rw[IntKind.wrap_u64];have:=(f 4).toNat_lt;omega
   have X:∀w:World,(Instr.index 290 (.agg #[.int .u8 (f 0).toNat,.int .u8 (f 1).toNat,.int .u8 (f 2).toNat,.int .u8 (f 3).toNat,.int .u8 (f 4).toNat,.int .u8 (f 5).toNat,.int .u8 (f 6).toNat,.int .u8 (f 7).toNat]) (.int .i64 4)).run Tryz.prog w=.ok (.int .u8 (f 4).toNat) w:=fun _=>by kernel_rfl
   go_wp2_with fail
   go_round
   case rel=>exact⟨5,by decide,by go_num,by rw[E.o]⟩
   case measure=>simp [intOf]
  ·have D:=D 1099511627776 (by decide) (by decide)
   have F:IntKind.u64.wrap ((f 5).toNat:Int)=((f 5).toNat:Int):=by rw[IntKind.wrap_u64];have:=(f 5).toNat_lt;omega
   have X:∀w:World,(Instr.index 290 (.agg #[.int .u8 (f 0).toNat,.int .u8 (f 1).toNat,.int .u8 (f 2).toNat,.int .u8 (f 3).toNat,.int .u8 (f 4).toNat,.int .u8 (f 5).toNat,.int .u8 (f 6).toNat,.int .u8 (f 7).toNat]) (.int .i64 5)).run Tryz.prog w=.ok (.int .u8 (f 5).toNat) w:=fun _=>by kernel_rfl
   go_wp2_with fail
   go_round
   case rel=>exact⟨6,by decide,by go_num,by rw[E.o]⟩
   case measure=>simp [intOf]
  ·have D:=D 281474976710656 (by decide) (by decide)
   have F:IntKind.u64.wrap ((f 6).toNat:Int)=((f 6).toNat:Int):=by rw[IntKind.wrap_u64];have:=(f 6).toNat_lt;omega
   have X:∀w:World,(Instr.index 290 (.agg #[.int .u8 (f 0).toNat,.int .u8 (f 1).toNat,.int .u8 (f 2).toNat,.int .u8 (f 3).toNat,.int .u8 (f 4).toNat,.int .u8 (f 5).toNat,.int .u8 (f 6).toNat,.int .u8 (f 7).toNat]) (.int .i64 6)).run Tryz.prog w=.ok (.int .u8 (f 6).toNat) w:=fun _=>by kernel_rfl
   go_wp2_with fail
   go_round
   case rel=>exact⟨7,by decide,by go_num,by rw[E.o]⟩
   case measure=>simp [intOf]
  ·have D:=D 72057594037927936 (by decide) (by decide)
   have F:IntKind.u64.wrap ((f 7).toNat:Int)=((f 7).toNat:Int):=by rw[IntKind.wrap_u64];have:=(f 7).toNat_lt;omega
   have X:∀w:World,(Instr.index 290 (.agg #[.int .u8 (f 0).toNat,.int .u8 (f 1).toNat,.int .u8 (f 2).toNat,.int .u8 (f 3).toNat,.int .u8 (f 4).toNat,.int .u8 (f 5).toNat,.int .u8 (f 6).toNat,.int .u8 (f 7).toNat]) (.int .i64 7)).run Tryz.prog w=.ok (.int .u8 (f 7).toNat) w:=fun _=>by kernel_rfl
   go_wp2_with fail
   go_round
   case rel=>exact⟨8,by decide,by go_num,by rw[E.o]⟩
   case measure=>simp [intOf]
  ·have D:=IU (GD f 8) (Jr (by simp))
   have hz:M=(wd (GD f 8)).toNat:=by rw[D];exact EM.o
   have HZ:=I hz;clear hz;clear D
   go_wp2_with fail
   go_ret;exact⟨by rw[wv,<-HZ.o];rfl,(Below.refl w.heap.size w).alloc Ae _⟩
def Ih (s:V) (R N:Value):Array Value:=#[wv s.a,wv s.b,wv s.c,wv s.d,R,N]
def Dt (s:V):Array Value:=#[wv s.a,wv s.b,wv s.c,wv s.d]
theorem IV (g n:Nat) (s:V) (R N:Value) (w:World) (hn:n<=4) (hB:Blk w g 274 (Ih s R N)) :
  Calls Tryz.prog 217 #[.pointer (some ⟨g,0,none⟩),.int .i64 (n:Int)] w fun e w'=>e=.returned (.tuple #[])/\Blk w' g 274 (Ih (rnds n s) R N)/\w.grownBy w' (some g):=by
 have HB:=I hB;clear hB;go_enter Tryz.func217,Tryz.ntmps217
 go_wp2_with fail
 go_loopw [5] (fun iv wr=>∃i:Nat,i<=n/\iv=.int .i64 (i:Int)/\Blk wr g 274 (Ih (rnds i s) R N)/\w.grownBy wr (some g)) (fun iv _=>n - (intOf iv).toNat)
 case atStart=>exact⟨0,Nat.zero_le _,rfl,HB.o,World.grownBy.refl w _⟩
 case round=>
  obtain⟨i,hi,rfl,hB,hG⟩:=hrel
  by_cases hx:i=n
  ·subst hx
   have D:=I hB;clear hB;have ak:=I hG;clear hG
   go_wp2_with fail
   go_end0
   exact⟨rfl,D.o,ak.o⟩
  ·have cp:i<n:=by omega
   have e1:(i:Int)<(n:Int):=by omega
   have e2:(0:Int)<=(i:Int):=by omega
   have e3:(i:Int)<4:=by omega
   have HX:=I hx;clear hx;have HI:=I hi;clear hi;obtain⟨⟨a,b,c,d⟩,es⟩:∃t,t=rnds i s:=⟨_,rfl⟩;rw[<-es] at hB;have ES:=I es;clear es;have D:=I (show Blk wr g 274 #[wv a,wv b,wv c,wv d,R,N] from hB);clear hB;have ak:=I hG;clear hG
   go_upto_region 2 with fail
   obtain⟨a1,af⟩:∃x,x=a+b:=⟨_,rfl⟩;obtain⟨q1,aC⟩:∃x,x=rot b 13:=⟨_,rfl⟩;obtain⟨b1,ar⟩:∃x,x=q1 ^^^ a1:=⟨_,rfl⟩;obtain⟨a2,ay⟩:∃x,x=rot a1 32:=⟨_,rfl⟩;obtain⟨c1,ad⟩:∃x,x=c+d:=⟨_,rfl⟩;obtain⟨q4,aB⟩:∃x,x=rot d 16:=⟨_,rfl⟩;obtain⟨d1,az⟩:∃x,x=q4 ^^^ c1:=⟨_,rfl⟩;obtain⟨a3,ae⟩:∃x,x=a2+d1:=⟨_,rfl⟩;obtain⟨q6,an⟩:∃x,x=rot d1 21:=⟨_,rfl⟩;obtain⟨d2,aL⟩:∃x,x=q6 ^^^ a3:=⟨_,rfl⟩;obtain⟨c2,ag⟩:∃x,x=c1+b1:=⟨_,rfl⟩;obtain⟨q8,aG⟩:∃x,x=rot b1 17:=⟨_,rfl⟩;obtain⟨b2,aw⟩:∃x,x=q8 ^^^ c2:=⟨_,rfl⟩;obtain⟨c3,ao⟩:∃x,x=rot c2 32:=⟨_,rfl⟩;have ah:rnd ⟨a,b,c,d⟩=⟨a3,b2,c3,d2⟩:=by subst af aC ar ay ad aB az ae an aL ag aG aw ao;rfl
   have bd:=I ah;clear ah;have x0:IntKind.u64.wrap ((a.toNat:Int)+(b.toNat:Int))=(a1.toNat:Int):=by rw[af];exact GZ _ _
   have y0:((a.toNat:Int)+(b.toNat:Int)) % 18446744073709551616=(a1.toNat:Int):=by rw[af];exact Fw _ _
   have X0:=I x0;clear x0;have Y0:=I y0;clear y0;have x1:bits .xor .u64 (q1.toNat:Int) (a1.toNat:Int)=(b1.toNat:Int):=by rw[ar];exact Bu _ _
   have X1:=I x1;clear x1;have l1:=WO b;rw[<-aC] at l1;have l2:=TT a1;rw[<-ay] at l2;have x3:IntKind.u64.wrap ((c.toNat:Int)+(d.toNat:Int))=(c1.toNat:Int):=by rw[ad];exact GZ _ _
   have y3:((c.toNat:Int)+(d.toNat:Int)) % 18446744073709551616=(c1.toNat:Int):=by rw[ad];exact Fw _ _
   have X3:=I x3;clear x3;have Y3:=I y3;clear y3;have x4:bits .xor .u64 (q4.toNat:Int) (c1.toNat:Int)=(d1.toNat:Int):=by rw[az];exact Bu _ _
   have X4:=I x4;clear x4;have l4:=WQ d;rw[<-aB] at l4;have x5:IntKind.u64.wrap ((a2.toNat:Int)+(d1.toNat:Int))=(a3.toNat:Int):=by rw[ae];exact GZ _ _
   have y5:((a2.toNat:Int)+(d1.toNat:Int)) % 18446744073709551616=(a3.toNat:Int):=by rw[ae];exact Fw _ _
   have X5:=I x5;clear x5;have Y5:=I y5;clear y5;have x6:bits .xor .u64 (q6.toNat:Int) (a3.toNat:Int)=(d2.toNat:Int):=by rw[aL];exact Bu _ _
   have X6:=I x6;clear x6;have l6:=WR d1;rw[<-an] at l6;have x7:IntKind.u64.wrap ((c1.toNat:Int)+(b1.toNat:Int))=(c2.toNat:Int):=by rw[ag];exact GZ _ _
   have y7:((c1.toNat:Int)+(b1.toNat:Int)) % 18446744073709551616=(c2.toNat:Int):=by rw[ag];exact Fw _ _
   have X7:=I x7;clear x7;have Y7:=I y7;clear y7;have x8:bits .xor .u64 (q8.toNat:Int) (c2.toNat:Int)=(b2.toNat:Int):=by rw[aw];exact Bu _ _
   have X8:=I x8;clear x8;have l8:=WS b1;rw[<-aG] at l8;have l9:=TT c2;rw[<-ao] at l9;clear af aC ar ay ad aB az ae an aL ag aG aw ao;have cj:=Blk.frozen D.o;have bw:wr.cell? ⟨g,0,none⟩=some (.int .u64 (a.toNat:Int)):=by rw[Blk.cell D.o];rfl
   have bI:wr.cell? ⟨g,1,none⟩=some (.int .u64 (b.toNat:Int)):=by rw[Blk.cell D.o];rfl
   have aS:wr.cell? ⟨g,2,none⟩=some (.int .u64 (c.toNat:Int)):=by rw[Blk.cell D.o];rfl
   have bS:wr.cell? ⟨g,3,none⟩=some (.int .u64 (d.toNat:Int)):=by rw[Blk.cell D.o];rfl
   have x0:=X0.o;have y0:=Y0.o;refine wp_region_still_tail 11 (by kernel_rfl) (by kernel_rfl) ?_;simp only[List.take_succ_cons,List.take_zero,List.drop_succ_cons,List.drop_zero];change wpStill _ _ wr.drew _ _ _
   repeat still_step
   refine wpStill_nil ?_;change wpList _ _ _ _ _ wr.drew
   go_upto_region 3 with fail
   have aF:Blk (wr.setCell ⟨g,0,none⟩ (.int .u64 (a1.toNat:Int))).drew g 274 #[wv a1,wv b,wv c,wv d,R,N]:=Blk.set D.o 0 (wv a1);have aI:w.grownBy (wr.setCell ⟨g,0,none⟩ (.int .u64 (a1.toNat:Int))).drew (some g):=AX (Ay ak.o (.inl rfl) _);generalize (wr.setCell ⟨g,0,none⟩ (.int .u64 (a1.toNat:Int))).drew=v1 at aF aI⊢;clear cj bw bI aS bS x0 y0 X0 Y0;have aa:=I aF;clear aF;have bU:=I aI;clear aI;have cg:=Blk.frozen aa.o;have bN:v1.cell? ⟨g,0,none⟩=some (.int .u64 (a1.toNat:Int)):=by rw[Blk.cell aa.o];rfl
   have bz:v1.cell? ⟨g,1,none⟩=some (.int .u64 (b.toNat:Int)):=by rw[Blk.cell aa.o];rfl
   have bo:v1.cell? ⟨g,2,none⟩=some (.int .u64 (c.toNat:Int)):=by rw[Blk.cell aa.o];rfl
   have bO:v1.cell? ⟨g,3,none⟩=some (.int .u64 (d.toNat:Int)):=by rw[Blk.cell aa.o];rfl
   have x1:=X1.o;refine wp_region_still_tail 13 (by kernel_rfl) (by kernel_rfl) ?_;simp only[List.take_succ_cons,List.take_zero,List.drop_succ_cons,List.drop_zero];change wpStill _ _ v1.drew _ _ _
   repeat still_step
   still_call (l1 v1.drew)
   repeat still_step
   refine wpStill_nil ?_;change wpList _ _ _ _ _ v1.drew
   go_upto_region 4 with fail
   have aM:Blk (v1.setCell ⟨g,1,none⟩ (.int .u64 (b1.toNat:Int))).drew g 274 #[wv a1,wv b1,wv c,wv d,R,N]:=Blk.set aa.o 1 (wv b1);have aA:w.grownBy (v1.setCell ⟨g,1,none⟩ (.int .u64 (b1.toNat:Int))).drew (some g):=AX (Ay bU.o (.inl rfl) _);generalize (v1.setCell ⟨g,1,none⟩ (.int .u64 (b1.toNat:Int))).drew=v2 at aM aA⊢;clear cg bN bz bo bO x1 X1 l1;clear aa bU;have E:=I aM;clear aM;have bR:=I aA;clear aA;have ck:=Blk.frozen E.o;have bM:v2.cell? ⟨g,0,none⟩=some (.int .u64 (a1.toNat:Int)):=by rw[Blk.cell E.o];rfl
   have bV:v2.cell? ⟨g,1,none⟩=some (.int .u64 (b1.toNat:Int)):=by rw[Blk.cell E.o];rfl
   have bx:v2.cell? ⟨g,2,none⟩=some (.int .u64 (c.toNat:Int)):=by rw[Blk.cell E.o];rfl
   have bH:v2.cell? ⟨g,3,none⟩=some (.int .u64 (d.toNat:Int)):=by rw[Blk.cell E.o];rfl
   go_upto_region 5 with(go_at_call 227;refine Ag (l2 _) ?_;rintro w' hw;have hw:=hw.symm;subst hw)
   have al:Blk (v2.setCell ⟨g,0,none⟩ (.int .u64 (a2.toNat:Int))) g 274 #[wv a2,wv b1,wv c,wv d,R,N]:=Blk.set E.o 0 (wv a2);have aQ:w.grownBy (v2.setCell ⟨g,0,none⟩ (.int .u64 (a2.toNat:Int))) (some g):=(Ay bR.o (.inl rfl) _);generalize (v2.setCell ⟨g,0,none⟩ (.int .u64 (a2.toNat:Int)))=v3 at al aQ⊢;clear ck bM bV bx bH l2;clear E bR;have M:=I al;clear al;have bG:=I aQ;clear aQ;have cb:=Blk.frozen M.o;have bT:v3.cell? ⟨g,0,none⟩=some (.int .u64 (a2.toNat:Int)):=by rw[Blk.cell M.o];rfl
   have aU:v3.cell? ⟨g,1,none⟩=some (.int .u64 (b1.toNat:Int)):=by rw[Blk.cell M.o];rfl
   have bB:v3.cell? ⟨g,2,none⟩=some (.int .u64 (c.toNat:Int)):=by rw[Blk.cell M.o];rfl
   have aV:v3.cell? ⟨g,3,none⟩=some (.int .u64 (d.toNat:Int)):=by rw[Blk.cell M.o];rfl
   have x3:=X3.o;have y3:=Y3.o;refine wp_region_still_tail 11 (by kernel_rfl) (by kernel_rfl) ?_;simp only[List.take_succ_cons,List.take_zero,List.drop_succ_cons,List.drop_zero];change wpStill _ _ v3.drew _ _ _
   repeat still_step
   refine wpStill_nil ?_;change wpList _ _ _ _ _ v3.drew
   go_upto_region 6 with fail
   have aN:Blk (v3.setCell ⟨g,2,none⟩ (.int .u64 (c1.toNat:Int))).drew g 274 #[wv a2,wv b1,wv c1,wv d,R,N]:=Blk.set M.o 2 (wv c1);have ax:w.grownBy (v3.setCell ⟨g,2,none⟩ (.int .u64 (c1.toNat:Int))).drew (some g):=AX (Ay bG.o (.inl rfl) _);generalize (v3.setCell ⟨g,2,none⟩ (.int .u64 (c1.toNat:Int))).drew=v4 at aN ax⊢;clear cb bT aU bB aV x3 y3 X3 Y3;clear M bG;have ab:=I aN;clear aN;have bf:=I ax;clear ax;have bX:=Blk.frozen ab.o;have bm:v4.cell? ⟨g,0,none⟩=some (.int .u64 (a2.toNat:Int)):=by rw[Blk.cell ab.o];rfl
   have aY:v4.cell? ⟨g,1,none⟩=some (.int .u64 (b1.toNat:Int)):=by rw[Blk.cell ab.o];rfl
   have bs:v4.cell? ⟨g,2,none⟩=some (.int .u64 (c1.toNat:Int)):=by rw[Blk.cell ab.o];rfl
   have br:v4.cell? ⟨g,3,none⟩=some (.int .u64 (d.toNat:Int)):=by rw[Blk.cell ab.o];rfl
   have x4:=X4.o;refine wp_region_still_tail 13 (by kernel_rfl) (by kernel_rfl) ?_;simp only[List.take_succ_cons,List.take_zero,List.drop_succ_cons,List.drop_zero];change wpStill _ _ v4.drew _ _ _
   repeat still_step
   still_call (l4 v4.drew)
   repeat still_step
   refine wpStill_nil ?_;change wpList _ _ _ _ _ v4.drew
   go_upto_region 7 with fail
   have aJ:Blk (v4.setCell ⟨g,3,none⟩ (.int .u64 (d1.toNat:Int))).drew g 274 #[wv a2,wv b1,wv c1,wv d1,R,N]:=Blk.set ab.o 3 (wv d1);have aP:w.grownBy (v4.setCell ⟨g,3,none⟩ (.int .u64 (d1.toNat:Int))).drew (some g):=AX (Ay bf.o (.inl rfl) _);generalize (v4.setCell ⟨g,3,none⟩ (.int .u64 (d1.toNat:Int))).drew=v5 at aJ aP⊢;clear bX bm aY bs br x4 X4 l4;clear ab bf;have Y:=I aJ;clear aJ;have bu:=I aP;clear aP;have bZ:=Blk.frozen Y.o;have bL:v5.cell? ⟨g,0,none⟩=some (.int .u64 (a2.toNat:Int)):=by rw[Blk.cell Y.o];rfl
   have bW:v5.cell? ⟨g,1,none⟩=some (.int .u64 (b1.toNat:Int)):=by rw[Blk.cell Y.o];rfl
   have bK:v5.cell? ⟨g,2,none⟩=some (.int .u64 (c1.toNat:Int)):=by rw[Blk.cell Y.o];rfl
   have bQ:v5.cell? ⟨g,3,none⟩=some (.int .u64 (d1.toNat:Int)):=by rw[Blk.cell Y.o];rfl
   have x5:=X5.o;have y5:=Y5.o;refine wp_region_still_tail 11 (by kernel_rfl) (by kernel_rfl) ?_;simp only[List.take_succ_cons,List.take_zero,List.drop_succ_cons,List.drop_zero];change wpStill _ _ v5.drew _ _ _
   repeat still_step
   refine wpStill_nil ?_;change wpList _ _ _ _ _ v5.drew
   go_upto_region 8 with fail
   have au:Blk (v5.setCell ⟨g,0,none⟩ (.int .u64 (a3.toNat:Int))).drew g 274 #[wv a3,wv b1,wv c1,wv d1,R,N]:=Blk.set Y.o 0 (wv a3);have aE:w.grownBy (v5.setCell ⟨g,0,none⟩ (.int .u64 (a3.toNat:Int))).drew (some g):=AX (Ay bu.o (.inl rfl) _);generalize (v5.setCell ⟨g,0,none⟩ (.int .u64 (a3.toNat:Int))).drew=v6 at au aE⊢;clear bZ bL bW bK bQ x5 y5 X5 Y5;clear Y bu;have X:=I au;clear au;have bP:=I aE;clear aE;have cc:=Blk.frozen X.o;have aX:v6.cell? ⟨g,0,none⟩=some (.int .u64 (a3.toNat:Int)):=by rw[Blk.cell X.o];rfl
   have bg:v6.cell? ⟨g,1,none⟩=some (.int .u64 (b1.toNat:Int)):=by rw[Blk.cell X.o];rfl
   have bp:v6.cell? ⟨g,2,none⟩=some (.int .u64 (c1.toNat:Int)):=by rw[Blk.cell X.o];rfl
   have bn:v6.cell? ⟨g,3,none⟩=some (.int .u64 (d1.toNat:Int)):=by rw[Blk.cell X.o];rfl
   have x6:=X6.o;refine wp_region_still_tail 13 (by kernel_rfl) (by kernel_rfl) ?_;simp only[List.take_succ_cons,List.take_zero,List.drop_succ_cons,List.drop_zero];change wpStill _ _ v6.drew _ _ _
   repeat still_step
   still_call (l6 v6.drew)
   repeat still_step
   refine wpStill_nil ?_;change wpList _ _ _ _ _ v6.drew
   go_upto_region 9 with fail
   have aK:Blk (v6.setCell ⟨g,3,none⟩ (.int .u64 (d2.toNat:Int))).drew g 274 #[wv a3,wv b1,wv c1,wv d2,R,N]:=Blk.set X.o 3 (wv d2);have ai:w.grownBy (v6.setCell ⟨g,3,none⟩ (.int .u64 (d2.toNat:Int))).drew (some g):=AX (Ay bP.o (.inl rfl) _);generalize (v6.setCell ⟨g,3,none⟩ (.int .u64 (d2.toNat:Int))).drew=v7 at aK ai⊢;clear cc aX bg bp bn x6 X6 l6;clear X bP;have O:=I aK;clear aK;have bJ:=I ai;clear ai;have cd:=Blk.frozen O.o;have bC:v7.cell? ⟨g,0,none⟩=some (.int .u64 (a3.toNat:Int)):=by rw[Blk.cell O.o];rfl
   have aW:v7.cell? ⟨g,1,none⟩=some (.int .u64 (b1.toNat:Int)):=by rw[Blk.cell O.o];rfl
   have bE:v7.cell? ⟨g,2,none⟩=some (.int .u64 (c1.toNat:Int)):=by rw[Blk.cell O.o];rfl
   have aT:v7.cell? ⟨g,3,none⟩=some (.int .u64 (d2.toNat:Int)):=by rw[Blk.cell O.o];rfl
   have x7:=X7.o;have y7:=Y7.o;refine wp_region_still_tail 11 (by kernel_rfl) (by kernel_rfl) ?_;simp only[List.take_succ_cons,List.take_zero,List.drop_succ_cons,List.drop_zero];change wpStill _ _ v7.drew _ _ _
   repeat still_step
   refine wpStill_nil ?_;change wpList _ _ _ _ _ v7.drew
   go_upto_region 10 with fail
   have aj:Blk (v7.setCell ⟨g,2,none⟩ (.int .u64 (c2.toNat:Int))).drew g 274 #[wv a3,wv b1,wv c2,wv d2,R,N]:=Blk.set O.o 2 (wv c2);have aR:w.grownBy (v7.setCell ⟨g,2,none⟩ (.int .u64 (c2.toNat:Int))).drew (some g):=AX (Ay bJ.o (.inl rfl) _);generalize (v7.setCell ⟨g,2,none⟩ (.int .u64 (c2.toNat:Int))).drew=v8 at aj aR⊢;clear cd bC aW bE aT x7 y7 X7 Y7;clear O bJ;have Z:=I aj;clear aj;have bl:=I aR;clear aR;have cf:=Blk.frozen Z.o;have bq:v8.cell? ⟨g,0,none⟩=some (.int .u64 (a3.toNat:Int)):=by rw[Blk.cell Z.o];rfl
   have bA:v8.cell? ⟨g,1,none⟩=some (.int .u64 (b1.toNat:Int)):=by rw[Blk.cell Z.o];rfl
   have aZ:v8.cell? ⟨g,2,none⟩=some (.int .u64 (c2.toNat:Int)):=by rw[Blk.cell Z.o];rfl
   have bD:v8.cell? ⟨g,3,none⟩=some (.int .u64 (d2.toNat:Int)):=by rw[Blk.cell Z.o];rfl
   have x8:=X8.o;refine wp_region_still_tail 13 (by kernel_rfl) (by kernel_rfl) ?_;simp only[List.take_succ_cons,List.take_zero,List.drop_succ_cons,List.drop_zero];change wpStill _ _ v8.drew _ _ _
   repeat still_step
   still_call (l8 v8.drew)
   repeat still_step
   refine wpStill_nil ?_;change wpList _ _ _ _ _ v8.drew
   go_upto_region 11 with fail
   have aD:Blk (v8.setCell ⟨g,1,none⟩ (.int .u64 (b2.toNat:Int))).drew g 274 #[wv a3,wv b2,wv c2,wv d2,R,N]:=Blk.set Z.o 1 (wv b2);have av:w.grownBy (v8.setCell ⟨g,1,none⟩ (.int .u64 (b2.toNat:Int))).drew (some g):=AX (Ay bl.o (.inl rfl) _);generalize (v8.setCell ⟨g,1,none⟩ (.int .u64 (b2.toNat:Int))).drew=v9 at aD av⊢;clear cf bq bA aZ bD x8 X8 l8;clear Z bl;have F:=I aD;clear aD;have bh:=I av;clear av;have bY:=Blk.frozen F.o;have ba:v9.cell? ⟨g,0,none⟩=some (.int .u64 (a3.toNat:Int)):=by rw[Blk.cell F.o];rfl
   have bb:v9.cell? ⟨g,1,none⟩=some (.int .u64 (b2.toNat:Int)):=by rw[Blk.cell F.o];rfl
   have bj:v9.cell? ⟨g,2,none⟩=some (.int .u64 (c2.toNat:Int)):=by rw[Blk.cell F.o];rfl
   have bF:v9.cell? ⟨g,3,none⟩=some (.int .u64 (d2.toNat:Int)):=by rw[Blk.cell F.o];rfl
   go_upto_region 12 with(go_at_call 227;refine Ag (l9 _) ?_;rintro w' hw;have hw:=hw.symm;subst hw)
   have aH:Blk (v9.setCell ⟨g,2,none⟩ (.int .u64 (c3.toNat:Int))) g 274 #[wv a3,wv b2,wv c3,wv d2,R,N]:=Blk.set F.o 2 (wv c3);have aO:w.grownBy (v9.setCell ⟨g,2,none⟩ (.int .u64 (c3.toNat:Int))) (some g):=(Ay bh.o (.inl rfl) _);generalize (v9.setCell ⟨g,2,none⟩ (.int .u64 (c3.toNat:Int)))=v10 at aH aO⊢;clear bY ba bb bj bF l9;clear F bh;have cn:=I aH;clear aH;have cm:=I aO;clear aO
   go_wp2_with fail
   go_roundw
   case rel=>exact⟨i+1,by omega,by go_num,by rw[rnds,<-ES.o,bd.o];exact cn.o,cm.o⟩
   case measure=>simp [intOf];omega
theorem Mt (g:Nat) (s:V) (w:World) (hB:Blk w g 226 (Dt s)) :
  Calls Tryz.prog 133 #[.pointer (some ⟨g,0,none⟩)] w fun e w'=>e=.returned (.tuple #[])/\Blk w' g 226 (Dt (rnd s))/\w.grownBy w' (some g):=by
 obtain⟨a,b,c,d⟩:=s;have ab:=I (show Blk w g 226 #[wv a,wv b,wv c,wv d] from hB);clear hB;have bW:=I (World.grownBy.refl w (some g));go_enter Tryz.func133,Tryz.ntmps133
 go_upto_region 0 with fail
 obtain⟨a1,af⟩:∃x,x=a+b:=⟨_,rfl⟩;obtain⟨q1,aB⟩:∃x,x=rot b 13:=⟨_,rfl⟩;obtain⟨b1,ao⟩:∃x,x=q1 ^^^ a1:=⟨_,rfl⟩;obtain⟨a2,ax⟩:∃x,x=rot a1 32:=⟨_,rfl⟩;obtain⟨c1,ad⟩:∃x,x=c+d:=⟨_,rfl⟩;obtain⟨q4,aA⟩:∃x,x=rot d 16:=⟨_,rfl⟩;obtain⟨d1,ay⟩:∃x,x=q4 ^^^ c1:=⟨_,rfl⟩;obtain⟨a3,ae⟩:∃x,x=a2+d1:=⟨_,rfl⟩;obtain⟨q6,al⟩:∃x,x=rot d1 21:=⟨_,rfl⟩;obtain⟨d2,aJ⟩:∃x,x=q6 ^^^ a3:=⟨_,rfl⟩;obtain⟨c2,ag⟩:∃x,x=c1+b1:=⟨_,rfl⟩;obtain⟨q8,aF⟩:∃x,x=rot b1 17:=⟨_,rfl⟩;obtain⟨b2,av⟩:∃x,x=q8 ^^^ c2:=⟨_,rfl⟩;obtain⟨c3,an⟩:∃x,x=rot c2 32:=⟨_,rfl⟩;have ah:rnd ⟨a,b,c,d⟩=⟨a3,b2,c3,d2⟩:=by subst af aB ao ax ad aA ay ae al aJ ag aF av an;rfl
 have aZ:=I ah;clear ah;have x0:IntKind.u64.wrap ((a.toNat:Int)+(b.toNat:Int))=(a1.toNat:Int):=by rw[af];exact GZ _ _
 have y0:((a.toNat:Int)+(b.toNat:Int)) % 18446744073709551616=(a1.toNat:Int):=by rw[af];exact Fw _ _
 have X0:=I x0;clear x0;have Y0:=I y0;clear y0;have x1:bits .xor .u64 (q1.toNat:Int) (a1.toNat:Int)=(b1.toNat:Int):=by rw[ao];exact Bu _ _
 have X1:=I x1;clear x1;have l1:=UY b;rw[<-aB] at l1;have l2:=Pl a1;rw[<-ax] at l2;have x3:IntKind.u64.wrap ((c.toNat:Int)+(d.toNat:Int))=(c1.toNat:Int):=by rw[ad];exact GZ _ _
 have y3:((c.toNat:Int)+(d.toNat:Int)) % 18446744073709551616=(c1.toNat:Int):=by rw[ad];exact Fw _ _
 have X3:=I x3;clear x3;have Y3:=I y3;clear y3;have x4:bits .xor .u64 (q4.toNat:Int) (c1.toNat:Int)=(d1.toNat:Int):=by rw[ay];exact Bu _ _
 have X4:=I x4;clear x4;have l4:=UZ d;rw[<-aA] at l4;have x5:IntKind.u64.wrap ((a2.toNat:Int)+(d1.toNat:Int))=(a3.toNat:Int):=by rw[ae];exact GZ _ _
 have y5:((a2.toNat:Int)+(d1.toNat:Int)) % 18446744073709551616=(a3.toNat:Int):=by rw[ae];exact Fw _ _
 have X5:=I x5;clear x5;have Y5:=I y5;clear y5;have x6:bits .xor .u64 (q6.toNat:Int) (a3.toNat:Int)=(d2.toNat:Int):=by rw[aJ];exact Bu _ _
 have X6:=I x6;clear x6;have l6:=Va d1;rw[<-al] at l6;have x7:IntKind.u64.wrap ((c1.toNat:Int)+(b1.toNat:Int))=(c2.toNat:Int):=by rw[ag];exact GZ _ _
 have y7:((c1.toNat:Int)+(b1.toNat:Int)) % 18446744073709551616=(c2.toNat:Int):=by rw[ag];exact Fw _ _
 have X7:=I x7;clear x7;have Y7:=I y7;clear y7;have x8:bits .xor .u64 (q8.toNat:Int) (c2.toNat:Int)=(b2.toNat:Int):=by rw[av];exact Bu _ _
 have X8:=I x8;clear x8;have l8:=Vb b1;rw[<-aF] at l8;have l9:=Pl c2;rw[<-an] at l9;clear af aB ao ax ad aA ay ae al aJ ag aF av an;have cj:=Blk.frozen ab.o;have br:w.cell? ⟨g,0,none⟩=some (.int .u64 (a.toNat:Int)):=by rw[Blk.cell ab.o];rfl
 have bH:w.cell? ⟨g,1,none⟩=some (.int .u64 (b.toNat:Int)):=by rw[Blk.cell ab.o];rfl
 have aP:w.cell? ⟨g,2,none⟩=some (.int .u64 (c.toNat:Int)):=by rw[Blk.cell ab.o];rfl
 have bR:w.cell? ⟨g,3,none⟩=some (.int .u64 (d.toNat:Int)):=by rw[Blk.cell ab.o];rfl
 have x0:=X0.o;have y0:=Y0.o;refine wp_region_still_tail 12 (by kernel_rfl) (by kernel_rfl) ?_;simp only[List.take_succ_cons,List.take_zero,List.drop_succ_cons,List.drop_zero];change wpStill _ _ w.drew _ _ _
 repeat still_step
 refine wpStill_nil ?_;change wpList _ _ _ _ _ w.drew
 go_upto_region 1 with fail
 have aE:Blk (w.setCell ⟨g,0,none⟩ (.int .u64 (a1.toNat:Int))).drew g 226 #[wv a1,wv b,wv c,wv d]:=Blk.set ab.o 0 (wv a1);have aG:w.grownBy (w.setCell ⟨g,0,none⟩ (.int .u64 (a1.toNat:Int))).drew (some g):=AX (Ay bW.o (.inl rfl) _);generalize (w.setCell ⟨g,0,none⟩ (.int .u64 (a1.toNat:Int))).drew=v1 at aE aG⊢;clear cj br bH aP bR x0 y0 X0 Y0;have Z:=I aE;clear aE;have bT:=I aG;clear aG;have cg:=Blk.frozen Z.o;have bM:v1.cell? ⟨g,0,none⟩=some (.int .u64 (a1.toNat:Int)):=by rw[Blk.cell Z.o];rfl
 have bu:v1.cell? ⟨g,1,none⟩=some (.int .u64 (b.toNat:Int)):=by rw[Blk.cell Z.o];rfl
 have bl:v1.cell? ⟨g,2,none⟩=some (.int .u64 (c.toNat:Int)):=by rw[Blk.cell Z.o];rfl
 have bN:v1.cell? ⟨g,3,none⟩=some (.int .u64 (d.toNat:Int)):=by rw[Blk.cell Z.o];rfl
 have x1:=X1.o;refine wp_region_still_tail 13 (by kernel_rfl) (by kernel_rfl) ?_;simp only[List.take_succ_cons,List.take_zero,List.drop_succ_cons,List.drop_zero];change wpStill _ _ v1.drew _ _ _
 repeat still_step
 still_call (l1 v1.drew)
 repeat still_step
 refine wpStill_nil ?_;change wpList _ _ _ _ _ v1.drew
 go_upto_region 2 with fail
 have aK:Blk (v1.setCell ⟨g,1,none⟩ (.int .u64 (b1.toNat:Int))).drew g 226 #[wv a1,wv b1,wv c,wv d]:=Blk.set Z.o 1 (wv b1);have az:w.grownBy (v1.setCell ⟨g,1,none⟩ (.int .u64 (b1.toNat:Int))).drew (some g):=AX (Ay bT.o (.inl rfl) _);generalize (v1.setCell ⟨g,1,none⟩ (.int .u64 (b1.toNat:Int))).drew=v2 at aK az⊢;clear cg bM bu bl bN x1 X1 l1;clear Z bT;have D:=I aK;clear aK;have bQ:=I az;clear az;have ck:=Blk.frozen D.o;have bL:v2.cell? ⟨g,0,none⟩=some (.int .u64 (a1.toNat:Int)):=by rw[Blk.cell D.o];rfl
 have bU:v2.cell? ⟨g,1,none⟩=some (.int .u64 (b1.toNat:Int)):=by rw[Blk.cell D.o];rfl
 have bs:v2.cell? ⟨g,2,none⟩=some (.int .u64 (c.toNat:Int)):=by rw[Blk.cell D.o];rfl
 have bF:v2.cell? ⟨g,3,none⟩=some (.int .u64 (d.toNat:Int)):=by rw[Blk.cell D.o];rfl
 refine wp_region_still_tail 8 (by kernel_rfl) (by kernel_rfl) ?_;simp only[List.take_succ_cons,List.take_zero,List.drop_succ_cons,List.drop_zero];change wpStill _ _ v2.drew _ _ _
 repeat still_step
 still_call (l2 v2.drew)
 repeat still_step
 refine wpStill_nil ?_;change wpList _ _ _ _ _ v2.drew
 go_upto_region 3 with fail
 have ak:Blk (v2.setCell ⟨g,0,none⟩ (.int .u64 (a2.toNat:Int))).drew g 226 #[wv a2,wv b1,wv c,wv d]:=Blk.set D.o 0 (wv a2);have aN:w.grownBy (v2.setCell ⟨g,0,none⟩ (.int .u64 (a2.toNat:Int))).drew (some g):=AX (Ay bQ.o (.inl rfl) _);generalize (v2.setCell ⟨g,0,none⟩ (.int .u64 (a2.toNat:Int))).drew=v3 at ak aN⊢;clear ck bL bU bs bF l2;clear D bQ;have F:=I ak;clear ak;have bE:=I aN;clear aN;have cb:=Blk.frozen F.o;have bS:v3.cell? ⟨g,0,none⟩=some (.int .u64 (a2.toNat:Int)):=by rw[Blk.cell F.o];rfl
 have aR:v3.cell? ⟨g,1,none⟩=some (.int .u64 (b1.toNat:Int)):=by rw[Blk.cell F.o];rfl
 have bx:v3.cell? ⟨g,2,none⟩=some (.int .u64 (c.toNat:Int)):=by rw[Blk.cell F.o];rfl
 have aS:v3.cell? ⟨g,3,none⟩=some (.int .u64 (d.toNat:Int)):=by rw[Blk.cell F.o];rfl
 have x3:=X3.o;have y3:=Y3.o;refine wp_region_still_tail 12 (by kernel_rfl) (by kernel_rfl) ?_;simp only[List.take_succ_cons,List.take_zero,List.drop_succ_cons,List.drop_zero];change wpStill _ _ v3.drew _ _ _
 repeat still_step
 refine wpStill_nil ?_;change wpList _ _ _ _ _ v3.drew
 go_upto_region 4 with fail
 have aL:Blk (v3.setCell ⟨g,2,none⟩ (.int .u64 (c1.toNat:Int))).drew g 226 #[wv a2,wv b1,wv c1,wv d]:=Blk.set F.o 2 (wv c1);have aw:w.grownBy (v3.setCell ⟨g,2,none⟩ (.int .u64 (c1.toNat:Int))).drew (some g):=AX (Ay bE.o (.inl rfl) _);generalize (v3.setCell ⟨g,2,none⟩ (.int .u64 (c1.toNat:Int))).drew=v4 at aL aw⊢;clear cb bS aR bx aS x3 y3 X3 Y3;clear F bE;have aa:=I aL;clear aL;have ba:=I aw;clear aw;have bX:=Blk.frozen aa.o;have bh:v4.cell? ⟨g,0,none⟩=some (.int .u64 (a2.toNat:Int)):=by rw[Blk.cell aa.o];rfl
 have aV:v4.cell? ⟨g,1,none⟩=some (.int .u64 (b1.toNat:Int)):=by rw[Blk.cell aa.o];rfl
 have bp:v4.cell? ⟨g,2,none⟩=some (.int .u64 (c1.toNat:Int)):=by rw[Blk.cell aa.o];rfl
 have bo:v4.cell? ⟨g,3,none⟩=some (.int .u64 (d.toNat:Int)):=by rw[Blk.cell aa.o];rfl
 have x4:=X4.o;refine wp_region_still_tail 13 (by kernel_rfl) (by kernel_rfl) ?_;simp only[List.take_succ_cons,List.take_zero,List.drop_succ_cons,List.drop_zero];change wpStill _ _ v4.drew _ _ _
 repeat still_step
 still_call (l4 v4.drew)
 repeat still_step
 refine wpStill_nil ?_;change wpList _ _ _ _ _ v4.drew
 go_upto_region 5 with fail
 have aH:Blk (v4.setCell ⟨g,3,none⟩ (.int .u64 (d1.toNat:Int))).drew g 226 #[wv a2,wv b1,wv c1,wv d1]:=Blk.set aa.o 3 (wv d1);have aM:w.grownBy (v4.setCell ⟨g,3,none⟩ (.int .u64 (d1.toNat:Int))).drew (some g):=AX (Ay ba.o (.inl rfl) _);generalize (v4.setCell ⟨g,3,none⟩ (.int .u64 (d1.toNat:Int))).drew=v5 at aH aM⊢;clear bX bh aV bp bo x4 X4 l4;clear aa ba;have X:=I aH;clear aH;have bq:=I aM;clear aM;have bZ:=Blk.frozen X.o;have bK:v5.cell? ⟨g,0,none⟩=some (.int .u64 (a2.toNat:Int)):=by rw[Blk.cell X.o];rfl
 have bV:v5.cell? ⟨g,1,none⟩=some (.int .u64 (b1.toNat:Int)):=by rw[Blk.cell X.o];rfl
 have bJ:v5.cell? ⟨g,2,none⟩=some (.int .u64 (c1.toNat:Int)):=by rw[Blk.cell X.o];rfl
 have bP:v5.cell? ⟨g,3,none⟩=some (.int .u64 (d1.toNat:Int)):=by rw[Blk.cell X.o];rfl
 have x5:=X5.o;have y5:=Y5.o;refine wp_region_still_tail 12 (by kernel_rfl) (by kernel_rfl) ?_;simp only[List.take_succ_cons,List.take_zero,List.drop_succ_cons,List.drop_zero];change wpStill _ _ v5.drew _ _ _
 repeat still_step
 refine wpStill_nil ?_;change wpList _ _ _ _ _ v5.drew
 go_upto_region 6 with fail
 have ar:Blk (v5.setCell ⟨g,0,none⟩ (.int .u64 (a3.toNat:Int))).drew g 226 #[wv a3,wv b1,wv c1,wv d1]:=Blk.set X.o 0 (wv a3);have aD:w.grownBy (v5.setCell ⟨g,0,none⟩ (.int .u64 (a3.toNat:Int))).drew (some g):=AX (Ay bq.o (.inl rfl) _);generalize (v5.setCell ⟨g,0,none⟩ (.int .u64 (a3.toNat:Int))).drew=v6 at ar aD⊢;clear bZ bK bV bJ bP x5 y5 X5 Y5;clear X bq;have O:=I ar;clear ar;have bO:=I aD;clear aD;have cc:=Blk.frozen O.o;have aU:v6.cell? ⟨g,0,none⟩=some (.int .u64 (a3.toNat:Int)):=by rw[Blk.cell O.o];rfl
 have bb:v6.cell? ⟨g,1,none⟩=some (.int .u64 (b1.toNat:Int)):=by rw[Blk.cell O.o];rfl
 have bm:v6.cell? ⟨g,2,none⟩=some (.int .u64 (c1.toNat:Int)):=by rw[Blk.cell O.o];rfl
 have bj:v6.cell? ⟨g,3,none⟩=some (.int .u64 (d1.toNat:Int)):=by rw[Blk.cell O.o];rfl
 have x6:=X6.o;refine wp_region_still_tail 13 (by kernel_rfl) (by kernel_rfl) ?_;simp only[List.take_succ_cons,List.take_zero,List.drop_succ_cons,List.drop_zero];change wpStill _ _ v6.drew _ _ _
 repeat still_step
 still_call (l6 v6.drew)
 repeat still_step
 refine wpStill_nil ?_;change wpList _ _ _ _ _ v6.drew
 go_upto_region 7 with fail
 have aI:Blk (v6.setCell ⟨g,3,none⟩ (.int .u64 (d2.toNat:Int))).drew g 226 #[wv a3,wv b1,wv c1,wv d2]:=Blk.set O.o 3 (wv d2);have ai:w.grownBy (v6.setCell ⟨g,3,none⟩ (.int .u64 (d2.toNat:Int))).drew (some g):=AX (Ay bO.o (.inl rfl) _);generalize (v6.setCell ⟨g,3,none⟩ (.int .u64 (d2.toNat:Int))).drew=v7 at aI ai⊢;clear cc aU bb bm bj x6 X6 l6;clear O bO;have M:=I aI;clear aI;have bI:=I ai;clear ai;have cd:=Blk.frozen M.o;have bA:v7.cell? ⟨g,0,none⟩=some (.int .u64 (a3.toNat:Int)):=by rw[Blk.cell M.o];rfl
 have aT:v7.cell? ⟨g,1,none⟩=some (.int .u64 (b1.toNat:Int)):=by rw[Blk.cell M.o];rfl
 have bC:v7.cell? ⟨g,2,none⟩=some (.int .u64 (c1.toNat:Int)):=by rw[Blk.cell M.o];rfl
 have aQ:v7.cell? ⟨g,3,none⟩=some (.int .u64 (d2.toNat:Int)):=by rw[Blk.cell M.o];rfl
 have x7:=X7.o;have y7:=Y7.o;refine wp_region_still_tail 12 (by kernel_rfl) (by kernel_rfl) ?_;simp only[List.take_succ_cons,List.take_zero,List.drop_succ_cons,List.drop_zero];change wpStill _ _ v7.drew _ _ _
 repeat still_step
 refine wpStill_nil ?_;change wpList _ _ _ _ _ v7.drew
 go_upto_region 8 with fail
 have aj:Blk (v7.setCell ⟨g,2,none⟩ (.int .u64 (c2.toNat:Int))).drew g 226 #[wv a3,wv b1,wv c2,wv d2]:=Blk.set M.o 2 (wv c2);have aO:w.grownBy (v7.setCell ⟨g,2,none⟩ (.int .u64 (c2.toNat:Int))).drew (some g):=AX (Ay bI.o (.inl rfl) _);generalize (v7.setCell ⟨g,2,none⟩ (.int .u64 (c2.toNat:Int))).drew=v8 at aj aO⊢;clear cd bA aT bC aQ x7 y7 X7 Y7;clear M bI;have Y:=I aj;clear aj;have bg:=I aO;clear aO;have cf:=Blk.frozen Y.o;have bn:v8.cell? ⟨g,0,none⟩=some (.int .u64 (a3.toNat:Int)):=by rw[Blk.cell Y.o];rfl
 have bw:v8.cell? ⟨g,1,none⟩=some (.int .u64 (b1.toNat:Int)):=by rw[Blk.cell Y.o];rfl
 have aW:v8.cell? ⟨g,2,none⟩=some (.int .u64 (c2.toNat:Int)):=by rw[Blk.cell Y.o];rfl
 have bB:v8.cell? ⟨g,3,none⟩=some (.int .u64 (d2.toNat:Int)):=by rw[Blk.cell Y.o];rfl
 have x8:=X8.o;refine wp_region_still_tail 13 (by kernel_rfl) (by kernel_rfl) ?_;simp only[List.take_succ_cons,List.take_zero,List.drop_succ_cons,List.drop_zero];change wpStill _ _ v8.drew _ _ _
 repeat still_step
 still_call (l8 v8.drew)
 repeat still_step
 refine wpStill_nil ?_;change wpList _ _ _ _ _ v8.drew
 go_upto_region 9 with fail
 have aC:Blk (v8.setCell ⟨g,1,none⟩ (.int .u64 (b2.toNat:Int))).drew g 226 #[wv a3,wv b2,wv c2,wv d2]:=Blk.set Y.o 1 (wv b2);have au:w.grownBy (v8.setCell ⟨g,1,none⟩ (.int .u64 (b2.toNat:Int))).drew (some g):=AX (Ay bg.o (.inl rfl) _);generalize (v8.setCell ⟨g,1,none⟩ (.int .u64 (b2.toNat:Int))).drew=v9 at aC au⊢;clear cf bn bw aW bB x8 X8 l8;clear Y bg;have E:=I aC;clear aC;have bd:=I au;clear au;have bY:=Blk.frozen E.o;have aX:v9.cell? ⟨g,0,none⟩=some (.int .u64 (a3.toNat:Int)):=by rw[Blk.cell E.o];rfl
 have aY:v9.cell? ⟨g,1,none⟩=some (.int .u64 (b2.toNat:Int)):=by rw[Blk.cell E.o];rfl
 have bf:v9.cell? ⟨g,2,none⟩=some (.int .u64 (c2.toNat:Int)):=by rw[Blk.cell E.o];rfl
 have bD:v9.cell? ⟨g,3,none⟩=some (.int .u64 (d2.toNat:Int)):=by rw[Blk.cell E.o];rfl
 refine wp_region_still_tail 8 (by kernel_rfl) (by kernel_rfl) ?_;simp only[List.take_succ_cons,List.take_zero,List.drop_succ_cons,List.drop_zero];change wpStill _ _ v9.drew _ _ _
 repeat still_step
 still_call (l9 v9.drew)
 repeat still_step
 refine wpStill_nil ?_;change wpList _ _ _ _ _ v9.drew
 go_wp2_with fail
 have bz:Blk (v9.setCell ⟨g,2,none⟩ (.int .u64 (c3.toNat:Int))).drew g 226 #[wv a3,wv b2,wv c3,wv d2]:=Blk.set E.o 2 (wv c3);have bG:w.grownBy (v9.setCell ⟨g,2,none⟩ (.int .u64 (c3.toNat:Int))).drew (some g):=AX (Ay bd.o (.inl rfl) _);clear bY aX aY bf bD l9;clear E bd;have cn:=I bz;clear bz;have cm:=I bG;clear bG
 go_end0
 exact⟨rfl,by rw[aZ.o];exact cn.o,cm.o⟩
theorem Ii (g:Nat) (s:V) (R N:Value) (m:Wd) (w:World) (hB:Blk w g 274 (Ih s R N)) :
  Calls Tryz.prog 216 #[.pointer (some ⟨g,0,none⟩),wv m] w fun e w'=>e=.returned (.tuple #[])/\Blk w' g 274 (Ih (addM s m) R N)/\w.grownBy w' (some g):=by
 obtain⟨a,b,c,d⟩:=s;obtain⟨F,Z⟩:∃x,x=d ^^^ m:=⟨_,rfl⟩;obtain⟨⟨a2,b2,c2,d2⟩,e2⟩:∃t,t=rnds 2 ⟨a,b,c,F⟩:=⟨_,rfl⟩;obtain⟨a3,ea⟩:∃x,x=a2 ^^^ m:=⟨_,rfl⟩;have E:addM ⟨a,b,c,d⟩ m=⟨a3,b2,c2,d2⟩:=by simp only[addM,<-Z,<-e2,<-ea]
 have x1:bits .xor .u64 (d.toNat:Int) (m.toNat:Int)=(F.toNat:Int):=by rw[Z];exact Bu _ _
 have x2:bits .xor .u64 (a2.toNat:Int) (m.toNat:Int)=(a3.toNat:Int):=by rw[ea];exact Bu _ _
 have X:=I E;clear E;have E2:=I e2;clear e2;clear Z ea;have fz:=hB.frozen;have k3:w.cell? ⟨g,3,none⟩=some (.int .u64 (d.toNat:Int)):=by rw[hB.cell];rfl
 have HB:=I (show Blk w g 274 #[wv a,wv b,wv c,wv d,R,N] from hB);clear hB;have HG:=I (World.grownBy.refl w (some g));go_enter Tryz.func216,Tryz.ntmps216
 go_upto_region 1 with fail
 have M:Blk (w.setCell ⟨g,3,none⟩ (.int .u64 (F.toNat:Int))) g 274 #[wv a,wv b,wv c,wv F,R,N]:=Blk.set HB.o 3 (wv F);have O:w.grownBy (w.setCell ⟨g,3,none⟩ (.int .u64 (F.toNat:Int))) (some g):=Ay HG.o (.inl rfl) _;generalize w.setCell ⟨g,3,none⟩ (.int .u64 (F.toNat:Int))=v1 at M O⊢;have c1:=IV g 2 ⟨a,b,c,F⟩ R N v1 (by decide) M;rw[<-E2.o] at c1;have ad:=I O;clear M O fz k3 HB HG x1
 go_upto_region 2 with(go_at_call 217;refine Ag c1 ?_;rintro v2 ⟨D,Y⟩;clear c1;have k0:v2.cell? ⟨g,0,none⟩=some (.int .u64 (a2.toNat:Int)):=by{rw[D.cell];rfl};have ae:=D.frozen;have ab:=I D;have aa:=I Y;clear D Y)
 go_wp2_with fail
 go_end0
 exact⟨rfl,by rw[X.o];exact Blk.set ab.o 0 (wv a3),Ay (World.grownBy.trans ad.o aa.o) (.inl rfl) _⟩
theorem Vd (g:Nat) (s:V) (m:Wd) (w:World) (hB:Blk w g 226 (Dt s)) :
  Calls Tryz.prog 132 #[.pointer (some ⟨g,0,none⟩),wv m] w fun e w'=>e=.returned (.tuple #[])/\Blk w' g 226 (Dt (addM s m))/\w.grownBy w' (some g):=by
 obtain⟨a,b,c,d⟩:=s;obtain⟨E,ed⟩:∃x,x=d ^^^ m:=⟨_,rfl⟩;obtain⟨t1,e1⟩:∃t,t=rnd ⟨a,b,c,E⟩:=⟨_,rfl⟩;obtain⟨⟨a2,b2,c2,d2⟩,e2⟩:∃t,t=rnd t1:=⟨_,rfl⟩;obtain⟨a3,ea⟩:∃x,x=a2 ^^^ m:=⟨_,rfl⟩;have hr:rnds 2 ⟨a,b,c,E⟩=⟨a2,b2,c2,d2⟩:=by rw[e2,e1];rfl
 have F:addM ⟨a,b,c,d⟩ m=⟨a3,b2,c2,d2⟩:=by simp only[addM,<-ed,hr,<-ea]
 have x1:bits .xor .u64 (d.toNat:Int) (m.toNat:Int)=(E.toNat:Int):=by rw[ed];exact Bu _ _
 have x2:bits .xor .u64 (a2.toNat:Int) (m.toNat:Int)=(a3.toNat:Int):=by rw[ea];exact Bu _ _
 have X:=I F;clear F hr;have E1:=I e1;clear e1;have E2:=I e2;clear e2;clear ed ea;have fz:=hB.frozen;have k3:w.cell? ⟨g,3,none⟩=some (.int .u64 (d.toNat:Int)):=by rw[hB.cell];rfl
 have HB:=I (show Blk w g 226 #[wv a,wv b,wv c,wv d] from hB);clear hB;have HG:=I (World.grownBy.refl w (some g));go_enter Tryz.func132,Tryz.ntmps132
 go_upto_region 0 with fail
 refine wp_region_still_tail 9 (by kernel_rfl) (by kernel_rfl) ?_;simp only[List.take_succ_cons,List.take_zero,List.drop_succ_cons,List.drop_zero];change wpStill _ _ w.drew _ _ _
 repeat still_step
 refine wpStill_nil ?_;change wpList _ _ _ _ _ w.drew
 go_upto_region 1 with fail
 have M:Blk (w.setCell ⟨g,3,none⟩ (.int .u64 (E.toNat:Int))).drew g 226 #[wv a,wv b,wv c,wv E]:=Blk.set HB.o 3 (wv E);have O:w.grownBy (w.setCell ⟨g,3,none⟩ (.int .u64 (E.toNat:Int))).drew (some g):=AX (Ay HG.o (.inl rfl) _);generalize (w.setCell ⟨g,3,none⟩ (.int .u64 (E.toNat:Int))).drew=v1 at M O⊢;have c1:=Mt g ⟨a,b,c,E⟩ v1 M;rw[<-E1.o] at c1;have af:=I O;clear M O fz k3 HB HG x1
 go_upto_region 2 with(go_at_call 133;refine Ag c1 ?_;rintro v2 ⟨Y,aa⟩;clear c1;have c2:=Mt g t1 v2 Y;rw[<-E2.o] at c2;have ae:=I aa;clear Y aa)
 go_upto_region 3 with(go_at_call 133;refine Ag c2 ?_;rintro v3 ⟨D,Z⟩;clear c2;have k0:v3.cell? ⟨g,0,none⟩=some (.int .u64 (a2.toNat:Int)):=by{rw[D.cell];rfl};have ag:=D.frozen;have ad:=I D;have ab:=I Z;clear D Z)
 refine wp_region_still_tail 9 (by kernel_rfl) (by kernel_rfl) ?_;simp only[List.take_succ_cons,List.take_zero,List.drop_succ_cons,List.drop_zero];change wpStill _ _ v3.drew _ _ _
 repeat still_step
 refine wpStill_nil ?_;change wpList _ _ _ _ _ v3.drew
 go_wp2_with fail
 go_end0
 exact⟨rfl,by rw[X.o];exact Blk.set ad.o 0 (wv a3),AX (Ay (World.grownBy.trans (World.grownBy.trans af.o ae.o) ab.o) (.inl rfl) _)⟩
def stc (s:St):Array Value:=Ih s.v (.int .u64 (s.r:Int)) (.int .u64 (s.n:Int))
theorem Li (g:Nat) (s:St) (y:UInt8) (w:World) (hn:s.n<100000) (hr:s.r<256 ^ (s.n % 8)) (hB:Blk w g 274 (stc s)) :
  Calls Tryz.prog 202 #[.pointer (some ⟨g,0,none⟩),.int .u8 (y.toNat:Int)] w fun e w'=>e=.returned (.tuple #[])/\Blk w' g 274 (stc (addB s y))/\w.grownBy w' (some g):=by
 obtain⟨⟨a,b,c,d⟩,r,n⟩:=s;have hn:n<100000:=hn;have hr:r<256 ^ (n % 8):=hr;obtain⟨r2,e2⟩:∃x,x=r+y.toNat*256 ^ (n % 8):=⟨_,rfl⟩;have hx:∀K:Int,K=((256 ^ (n % 8):Nat):Int)->bits .or .u64 (r:Int) (IntKind.u64.wrap ((y.toNat:Int)*K))=(r2:Int):=fun K hK=>by
  rw[e2];refine Js r y (n % 8) (by omega) hr _ ?_;have h1:=RU (n % 8) (by omega);have h2:=y.toNat_lt;have h3:y.toNat*256 ^ (n % 8)<=255*72057594037927936:=Nat.mul_le_mul (by omega) h1;rw[hK,IntKind.wrap_u64,<-Int.natCast_mul];omega
 have aj:r2<18446744073709551616:=by
  have h1:=Mq r y (n % 8) hr;have h2:(256:Nat) ^ (n % 8+1)<=256 ^ 8:=Nat.pow_le_pow_right (by decide) (by omega);have h3:(256:Nat) ^ 8=18446744073709551616:=by decide
  omega
 have ah:¬(n+1) % 8=0->stc (addB ⟨⟨a,b,c,d⟩,r,n⟩ y)=#[wv a,wv b,wv c,wv d,.int .u64 (r2:Int),.int .u64 ((n:Int)+1)]:=fun h=>by
  rw[Pk _ _ h,e2]
  rfl
 have af:(n+1) % 8=0->stc (addB ⟨⟨a,b,c,d⟩,r,n⟩ y)=Ih (addM ⟨a,b,c,d⟩ (wd r2)) (.int .u64 0) (.int .u64 ((n:Int)+1)):=fun h=>by
  rw[Mp _ _ h,e2]
  rfl
 have ad:=I ah;clear ah;have ai:=I af;clear af;have ak:=I aj;clear aj;have hy:IntKind.u64.wrap (y.toNat:Int)=(y.toNat:Int):=by rw[IntKind.wrap_u64];have:=y.toNat_lt;omega
 have Y:=hB.frozen;have k4:w.cell? ⟨g,4,none⟩=some (.int .u64 (r:Int)):=by rw[hB.cell];rfl
 have Z:w.cell? ⟨g,5,none⟩=some (.int .u64 (n:Int)):=by rw[hB.cell];rfl
 have HB:=I (show Blk w g 274 #[wv a,wv b,wv c,wv d,.int .u64 (r:Int),.int .u64 (n:Int)] from hB);clear hB;have HG:=I (World.grownBy.refl w (some g));have HN:=I hn;clear e2 hr;have hk:n % 8=0\/n % 8=1\/n % 8=2\/n % 8=3\/n % 8=4\/n % 8=5\/n % 8=6\/n % 8=7:=by omega
 have n0:(0:Int)<=(n:Int):=by omega
 have n1:(n:Int)<100000:=by omega
 clear hn;rcases hk with hk | hk | hk | hk | hk | hk | hk | hk
 ·have hx:=hx 1 (by rw[hk];decide)
  rw[Int.mul_one,hy] at hx;have m1:(n:Int).tmod 8=0:=by rw[Int.tmod_eq_emod_of_nonneg n0];omega
  have m2:((n:Int)+1).tmod 8=1:=by rw[Int.tmod_eq_emod_of_nonneg (by omega)];omega
  have m3:n % 8=0:=hk;have hw:IntKind.u64.wrap 0=0:=by kernel_rfl
  have m4:(n:Int) % 8=0:=by omega
  have m5:(n+1) % 8=1:=by omega
  have M5:=I m5;clear m5;clear hk;go_enter Tryz.func202,Tryz.ntmps202
  go_upto_region 0 with fail
  refine wp_region_still_tail 16 (by kernel_rfl) (by kernel_rfl) ?_;simp only[List.take_succ_cons,List.take_zero,List.drop_succ_cons,List.drop_zero];change wpStill _ _ w.drew _ _ _
  repeat still_step
  refine wpStill_nil ?_;change wpList _ _ _ _ _ w.drew
  go_upto_region 1 with fail
  have E:Blk (w.setCell ⟨g,4,none⟩ (.int .u64 (r2:Int))).drew g 274 #[wv a,wv b,wv c,wv d,.int .u64 (r2:Int),.int .u64 (n:Int)]:=Blk.set HB.o 4 (.int .u64 (r2:Int));have F:w.grownBy (w.setCell ⟨g,4,none⟩ (.int .u64 (r2:Int))).drew (some g):=AX (Ay HG.o (.inl rfl) _);generalize (w.setCell ⟨g,4,none⟩ (.int .u64 (r2:Int))).drew=v1 at E F⊢;clear Y k4 Z HB HG hx m1 m3 m4 hw hy;have Y:=E.frozen;have Z:v1.cell? ⟨g,5,none⟩=some (.int .u64 (n:Int)):=by rw[E.cell];rfl
  have O:=I E;clear E;have X:=I F;clear F
  go_upto_region 2 with fail
  have D:Blk (v1.setCell ⟨g,5,none⟩ (.int .u64 ((n:Int)+1))) g 274 #[wv a,wv b,wv c,wv d,.int .u64 (r2:Int),.int .u64 ((n:Int)+1)]:=Blk.set O.o 5 (.int .u64 ((n:Int)+1));have M:w.grownBy (v1.setCell ⟨g,5,none⟩ (.int .u64 ((n:Int)+1))) (some g):=Ay X.o (.inl rfl) _;generalize (v1.setCell ⟨g,5,none⟩ (.int .u64 ((n:Int)+1)))=v2 at D M⊢;clear Y Z O X;have Y:=D.frozen;have k4:v2.cell? ⟨g,4,none⟩=some (.int .u64 (r2:Int)):=by rw[D.cell];rfl
  have Z:v2.cell? ⟨g,5,none⟩=some (.int .u64 ((n:Int)+1)):=by rw[D.cell];rfl
  have ab:=I D;clear D;have aa:=I M;clear M
  go_wp2_with fail
  go_end0
  exact⟨rfl,by rw[ad.o (by have:=M5.o;omega)];exact ab.o,aa.o⟩
 ·have hx:=hx 256 (by rw[hk];decide)
  have m1:(n:Int).tmod 8=1:=by rw[Int.tmod_eq_emod_of_nonneg n0];omega
  have m2:((n:Int)+1).tmod 8=2:=by rw[Int.tmod_eq_emod_of_nonneg (by omega)];omega
  have m3:n % 8=1:=hk;have hw:IntKind.u64.wrap 8=8:=by kernel_rfl
  have m4:(n:Int) % 8=1:=by omega
  have m5:(n+1) % 8=2:=by omega
  have M5:=I m5;clear m5;clear hk;go_enter Tryz.func202,Tryz.ntmps202
  go_upto_region 0 with fail
  refine wp_region_still_tail 16 (by kernel_rfl) (by kernel_rfl) ?_;simp only[List.take_succ_cons,List.take_zero,List.drop_succ_cons,List.drop_zero];change wpStill _ _ w.drew _ _ _
  repeat still_step
  refine wpStill_nil ?_;change wpList _ _ _ _ _ w.drew
  go_upto_region 1 with fail
  have E:Blk (w.setCell ⟨g,4,none⟩ (.int .u64 (r2:Int))).drew g 274 #[wv a,wv b,wv c,wv d,.int .u64 (r2:Int),.int .u64 (n:Int)]:=Blk.set HB.o 4 (.int .u64 (r2:Int));have F:w.grownBy (w.setCell ⟨g,4,none⟩ (.int .u64 (r2:Int))).drew (some g):=AX (Ay HG.o (.inl rfl) _);generalize (w.setCell ⟨g,4,none⟩ (.int .u64 (r2:Int))).drew=v1 at E F⊢;clear Y k4 Z HB HG hx m1 m3 m4 hw hy;have Y:=E.frozen;have Z:v1.cell? ⟨g,5,none⟩=some (.int .u64 (n:Int)):=by rw[E.cell];rfl
  have O:=I E;clear E;have X:=I F;clear F
  go_upto_region 2 with fail
  have D:Blk (v1.setCell ⟨g,5,none⟩ (.int .u64 ((n:Int)+1))) g 274 #[wv a,wv b,wv c,wv d,.int .u64 (r2:Int),.int .u64 ((n:Int)+1)]:=Blk.set O.o 5 (.int .u64 ((n:Int)+1));have M:w.grownBy (v1.setCell ⟨g,5,none⟩ (.int .u64 ((n:Int)+1))) (some g):=Ay X.o (.inl rfl) _;generalize (v1.setCell ⟨g,5,none⟩ (.int .u64 ((n:Int)+1)))=v2 at D M⊢;clear Y Z O X;have Y:=D.frozen;have k4:v2.cell? ⟨g,4,none⟩=some (.int .u64 (r2:Int)):=by rw[D.cell];rfl
  have Z:v2.cell? ⟨g,5,none⟩=some (.int .u64 ((n:Int)+1)):=by rw[D.cell];rfl
  have ab:=I D;clear D;have aa:=I M;clear M
  go_wp2_with fail
  go_end0
  exact⟨rfl,by rw[ad.o (by have:=M5.o;omega)];exact ab.o,aa.o⟩
 ·have hx:=hx 65536 (by rw[hk];decide)
  have m1:(n:Int).tmod 8=2:=by rw[Int.tmod_eq_emod_of_nonneg n0];omega
  have m2:((n:Int)+1).tmod 8=3:=by rw[Int.tmod_eq_emod_of_nonneg (by omega)];omega
  have m3:n % 8=2:=hk;have hw:IntKind.u64.wrap 16=16:=by kernel_rfl
  have m4:(n:Int) % 8=2:=by omega
  have m5:(n+1) % 8=3:=by omega
  have M5:=I m5;clear m5;clear hk;go_enter Tryz.func202,Tryz.ntmps202
  go_upto_region 0 with fail
  refine wp_region_still_tail 16 (by kernel_rfl) (by kernel_rfl) ?_;simp only[List.take_succ_cons,List.take_zero,List.drop_succ_cons,List.drop_zero];change wpStill _ _ w.drew _ _ _
  repeat still_step
  refine wpStill_nil ?_;change wpList _ _ _ _ _ w.drew
  go_upto_region 1 with fail
  have E:Blk (w.setCell ⟨g,4,none⟩ (.int .u64 (r2:Int))).drew g 274 #[wv a,wv b,wv c,wv d,.int .u64 (r2:Int),.int .u64 (n:Int)]:=Blk.set HB.o 4 (.int .u64 (r2:Int));have F:w.grownBy (w.setCell ⟨g,4,none⟩ (.int .u64 (r2:Int))).drew (some g):=AX (Ay HG.o (.inl rfl) _);generalize (w.setCell ⟨g,4,none⟩ (.int .u64 (r2:Int))).drew=v1 at E F⊢;clear Y k4 Z HB HG hx m1 m3 m4 hw hy;have Y:=E.frozen;have Z:v1.cell? ⟨g,5,none⟩=some (.int .u64 (n:Int)):=by rw[E.cell];rfl
  have O:=I E;clear E;have X:=I F;clear F
  go_upto_region 2 with fail
  have D:Blk (v1.setCell ⟨g,5,none⟩ (.int .u64 ((n:Int)+1))) g 274 #[wv a,wv b,wv c,wv d,.int .u64 (r2:Int),.int .u64 ((n:Int)+1)]:=Blk.set O.o 5 (.int .u64 ((n:Int)+1));have M:w.grownBy (v1.setCell ⟨g,5,none⟩ (.int .u64 ((n:Int)+1))) (some g):=Ay X.o (.inl rfl) _;generalize (v1.setCell ⟨g,5,none⟩ (.int .u64 ((n:Int)+1)))=v2 at D M⊢;clear Y Z O X;have Y:=D.frozen;have k4:v2.cell? ⟨g,4,none⟩=some (.int .u64 (r2:Int)):=by rw[D.cell];rfl
  have Z:v2.cell? ⟨g,5,none⟩=some (.int .u64 ((n:Int)+1)):=by rw[D.cell];rfl
  have ab:=I D;clear D;have aa:=I M;clear M
  go_wp2_with fail
  go_end0
  exact⟨rfl,by rw[ad.o (by have:=M5.o;omega)];exact ab.o,aa.o⟩
 ·have hx:=hx 16777216 (by rw[hk];decide)
  have m1:(n:Int).tmod 8=3:=by rw[Int.tmod_eq_emod_of_nonneg n0];omega
  have m2:((n:Int)+1).tmod 8=4:=by rw[Int.tmod_eq_emod_of_nonneg (by omega)];omega
  have m3:n % 8=3:=hk;have hw:IntKind.u64.wrap 24=24:=by kernel_rfl
  have m4:(n:Int) % 8=3:=by omega
  have m5:(n+1) % 8=4:=by omega
  have M5:=I m5;clear m5;clear hk;go_enter Tryz.func202,Tryz.ntmps202
  go_upto_region 0 with fail
  refine wp_region_still_tail 16 (by kernel_rfl) (by kernel_rfl) ?_;simp only[List.take_succ_cons,List.take_zero,List.drop_succ_cons,List.drop_zero];change wpStill _ _ w.drew _ _ _
  repeat still_step
  refine wpStill_nil ?_;change wpList _ _ _ _ _ w.drew
  go_upto_region 1 with fail
  have E:Blk (w.setCell ⟨g,4,none⟩ (.int .u64 (r2:Int))).drew g 274 #[wv a,wv b,wv c,wv d,.int .u64 (r2:Int),.int .u64 (n:Int)]:=Blk.set HB.o 4 (.int .u64 (r2:Int));have F:w.grownBy (w.setCell ⟨g,4,none⟩ (.int .u64 (r2:Int))).drew (some g):=AX (Ay HG.o (.inl rfl) _);generalize (w.setCell ⟨g,4,none⟩ (.int .u64 (r2:Int))).drew=v1 at E F⊢;clear Y k4 Z HB HG hx m1 m3 m4 hw hy;have Y:=E.frozen;have Z:v1.cell? ⟨g,5,none⟩=some (.int .u64 (n:Int)):=by rw[E.cell];rfl
  have O:=I E;clear E;have X:=I F;clear F
  go_upto_region 2 with fail
  have D:Blk (v1.setCell ⟨g,5,none⟩ (.int .u64 ((n:Int)+1))) g 274 #[wv a,wv b,wv c,wv d,.int .u64 (r2:Int),.int .u64 ((n:Int)+1)]:=Blk.set O.o 5 (.int .u64 ((n:Int)+1));have M:w.grownBy (v1.setCell ⟨g,5,none⟩ (.int .u64 ((n:Int)+1))) (some g):=Ay X.o (.inl rfl) _;generalize (v1.setCell ⟨g,5,none⟩ (.int .u64 ((n:Int)+1)))=v2 at D M⊢;clear Y Z O X;have Y:=D.frozen;have k4:v2.cell? ⟨g,4,none⟩=some (.int .u64 (r2:Int)):=by rw[D.cell];rfl
  have Z:v2.cell? ⟨g,5,none⟩=some (.int .u64 ((n:Int)+1)):=by rw[D.cell];rfl
  have ab:=I D;clear D;have aa:=I M;clear M
  go_wp2_with fail
  go_end0
  exact⟨rfl,by rw[ad.o (by have:=M5.o;omega)];exact ab.o,aa.o⟩
 ·have hx:=hx 4294967296 (by rw[hk];decide)
  have m1:(n:Int).tmod 8=4:=by rw[Int.tmod_eq_emod_of_nonneg n0];omega
  have m2:((n:Int)+1).tmod 8=5:=by rw[Int.tmod_eq_emod_of_nonneg (by omega)];omega
  have m3:n % 8=4:=hk;have hw:IntKind.u64.wrap 32=32:=by kernel_rfl
  have m4:(n:Int) % 8=4:=by omega
  have m5:(n+1) % 8=5:=by omega
  have M5:=I m5;clear m5;clear hk;go_enter Tryz.func202,Tryz.ntmps202
  go_upto_region 0 with fail
  refine wp_region_still_tail 16 (by kernel_rfl) (by kernel_rfl) ?_;simp only[List.take_succ_cons,List.take_zero,List.drop_succ_cons,List.drop_zero];change wpStill _ _ w.drew _ _ _
  repeat still_step
  refine wpStill_nil ?_;change wpList _ _ _ _ _ w.drew
  go_upto_region 1 with fail
  have E:Blk (w.setCell ⟨g,4,none⟩ (.int .u64 (r2:Int))).drew g 274 #[wv a,wv b,wv c,wv d,.int .u64 (r2:Int),.int .u64 (n:Int)]:=Blk.set HB.o 4 (.int .u64 (r2:Int));have F:w.grownBy (w.setCell ⟨g,4,none⟩ (.int .u64 (r2:Int))).drew (some g):=AX (Ay HG.o (.inl rfl) _);generalize (w.setCell ⟨g,4,none⟩ (.int .u64 (r2:Int))).drew=v1 at E F⊢;clear Y k4 Z HB HG hx m1 m3 m4 hw hy;have Y:=E.frozen;have Z:v1.cell? ⟨g,5,none⟩=some (.int .u64 (n:Int)):=by rw[E.cell];rfl
  have O:=I E;clear E;have X:=I F;clear F
  go_upto_region 2 with fail
  have D:Blk (v1.setCell ⟨g,5,none⟩ (.int .u64 ((n:Int)+1))) g 274 #[wv a,wv b,wv c,wv d,.int .u64 (r2:Int),.int .u64 ((n:Int)+1)]:=Blk.set O.o 5 (.int .u64 ((n:Int)+1));have M:w.grownBy (v1.setCell ⟨g,5,none⟩ (.int .u64 ((n:Int)+1))) (some g):=Ay X.o (.inl rfl) _;generalize (v1.setCell ⟨g,5,none⟩ (.int .u64 ((n:Int)+1)))=v2 at D M⊢;clear Y Z O X;have Y:=D.frozen;have k4:v2.cell? ⟨g,4,none⟩=some (.int .u64 (r2:Int)):=by rw[D.cell];rfl
  have Z:v2.cell? ⟨g,5,none⟩=some (.int .u64 ((n:Int)+1)):=by rw[D.cell];rfl
  have ab:=I D;clear D;have aa:=I M;clear M
  go_wp2_with fail
  go_end0
  exact⟨rfl,by rw[ad.o (by have:=M5.o;omega)];exact ab.o,aa.o⟩
 ·have hx:=hx 1099511627776 (by rw[hk];decide)
  have m1:(n:Int).tmod 8=5:=by rw[Int.tmod_eq_emod_of_nonneg n0];omega
  have m2:((n:Int)+1).tmod 8=6:=by rw[Int.tmod_eq_emod_of_nonneg (by omega)];omega
  have m3:n % 8=5:=hk;have hw:IntKind.u64.wrap 40=40:=by kernel_rfl
  have m4:(n:Int) % 8=5:=by omega
  have m5:(n+1) % 8=6:=by omega
  have M5:=I m5;clear m5;clear hk;go_enter Tryz.func202,Tryz.ntmps202
  go_upto_region 0 with fail
  refine wp_region_still_tail 16 (by kernel_rfl) (by kernel_rfl) ?_;simp only[List.take_succ_cons,List.take_zero,List.drop_succ_cons,List.drop_zero];change wpStill _ _ w.drew _ _ _
  repeat still_step
  refine wpStill_nil ?_;change wpList _ _ _ _ _ w.drew
  go_upto_region 1 with fail
  have E:Blk (w.setCell ⟨g,4,none⟩ (.int .u64 (r2:Int))).drew g 274 #[wv a,wv b,wv c,wv d,.int .u64 (r2:Int),.int .u64 (n:Int)]:=Blk.set HB.o 4 (.int .u64 (r2:Int));have F:w.grownBy (w.setCell ⟨g,4,none⟩ (.int .u64 (r2:Int))).drew (some g):=AX (Ay HG.o (.inl rfl) _);generalize (w.setCell ⟨g,4,none⟩ (.int .u64 (r2:Int))).drew=v1 at E F⊢;clear Y k4 Z HB HG hx m1 m3 m4 hw hy;have Y:=E.frozen;have Z:v1.cell? ⟨g,5,none⟩=some (.int .u64 (n:Int)):=by rw[E.cell];rfl
  have O:=I E;clear E;have X:=I F;clear F
  go_upto_region 2 with fail
  have D:Blk (v1.setCell ⟨g,5,none⟩ (.int .u64 ((n:Int)+1))) g 274 #[wv a,wv b,wv c,wv d,.int .u64 (r2:Int),.int .u64 ((n:Int)+1)]:=Blk.set O.o 5 (.int .u64 ((n:Int)+1));have M:w.grownBy (v1.setCell ⟨g,5,none⟩ (.int .u64 ((n:Int)+1))) (some g):=Ay X.o (.inl rfl) _;generalize (v1.setCell ⟨g,5,none⟩ (.int .u64 ((n:Int)+1)))=v2 at D M⊢;clear Y Z O X;have Y:=D.frozen;have k4:v2.cell? ⟨g,4,none⟩=some (.int .u64 (r2:Int)):=by rw[D.cell];rfl
  have Z:v2.cell? ⟨g,5,none⟩=some (.int .u64 ((n:Int)+1)):=by rw[D.cell];rfl
  have ab:=I D;clear D;have aa:=I M;clear M
  go_wp2_with fail
  go_end0
  exact⟨rfl,by rw[ad.o (by have:=M5.o;omega)];exact ab.o,aa.o⟩
 ·have hx:=hx 281474976710656 (by rw[hk];decide)
  have m1:(n:Int).tmod 8=6:=by rw[Int.tmod_eq_emod_of_nonneg n0];omega
  have m2:((n:Int)+1).tmod 8=7:=by rw[Int.tmod_eq_emod_of_nonneg (by omega)];omega
  have m3:n % 8=6:=hk;have hw:IntKind.u64.wrap 48=48:=by kernel_rfl
  have m4:(n:Int) % 8=6:=by omega
  have m5:(n+1) % 8=7:=by omega
  have M5:=I m5;clear m5;clear hk;go_enter Tryz.func202,Tryz.ntmps202
  go_upto_region 0 with fail
  refine wp_region_still_tail 16 (by kernel_rfl) (by kernel_rfl) ?_;simp only[List.take_succ_cons,List.take_zero,List.drop_succ_cons,List.drop_zero];change wpStill _ _ w.drew _ _ _
  repeat still_step
  refine wpStill_nil ?_;change wpList _ _ _ _ _ w.drew
  go_upto_region 1 with fail
  have E:Blk (w.setCell ⟨g,4,none⟩ (.int .u64 (r2:Int))).drew g 274 #[wv a,wv b,wv c,wv d,.int .u64 (r2:Int),.int .u64 (n:Int)]:=Blk.set HB.o 4 (.int .u64 (r2:Int));have F:w.grownBy (w.setCell ⟨g,4,none⟩ (.int .u64 (r2:Int))).drew (some g):=AX (Ay HG.o (.inl rfl) _);generalize (w.setCell ⟨g,4,none⟩ (.int .u64 (r2:Int))).drew=v1 at E F⊢;clear Y k4 Z HB HG hx m1 m3 m4 hw hy;have Y:=E.frozen;have Z:v1.cell? ⟨g,5,none⟩=some (.int .u64 (n:Int)):=by rw[E.cell];rfl
  have O:=I E;clear E;have X:=I F;clear F
  go_upto_region 2 with fail
  have D:Blk (v1.setCell ⟨g,5,none⟩ (.int .u64 ((n:Int)+1))) g 274 #[wv a,wv b,wv c,wv d,.int .u64 (r2:Int),.int .u64 ((n:Int)+1)]:=Blk.set O.o 5 (.int .u64 ((n:Int)+1));have M:w.grownBy (v1.setCell ⟨g,5,none⟩ (.int .u64 ((n:Int)+1))) (some g):=Ay X.o (.inl rfl) _;generalize (v1.setCell ⟨g,5,none⟩ (.int .u64 ((n:Int)+1)))=v2 at D M⊢;clear Y Z O X;have Y:=D.frozen;have k4:v2.cell? ⟨g,4,none⟩=some (.int .u64 (r2:Int)):=by rw[D.cell];rfl
  have Z:v2.cell? ⟨g,5,none⟩=some (.int .u64 ((n:Int)+1)):=by rw[D.cell];rfl
  have ab:=I D;clear D;have aa:=I M;clear M
  go_wp2_with fail
  go_end0
  exact⟨rfl,by rw[ad.o (by have:=M5.o;omega)];exact ab.o,aa.o⟩
 ·have hx:=hx 72057594037927936 (by rw[hk];decide)
  have m1:(n:Int).tmod 8=7:=by rw[Int.tmod_eq_emod_of_nonneg n0];omega
  have m2:((n:Int)+1).tmod 8=0:=by rw[Int.tmod_eq_emod_of_nonneg (by omega)];omega
  have m3:n % 8=7:=hk;have hw:IntKind.u64.wrap 56=56:=by kernel_rfl
  have m4:(n:Int) % 8=7:=by omega
  have m5:(n+1) % 8=0:=by omega
  have M5:=I m5;clear m5;clear hk;go_enter Tryz.func202,Tryz.ntmps202
  go_upto_region 0 with fail
  refine wp_region_still_tail 16 (by kernel_rfl) (by kernel_rfl) ?_;simp only[List.take_succ_cons,List.take_zero,List.drop_succ_cons,List.drop_zero];change wpStill _ _ w.drew _ _ _
  repeat still_step
  refine wpStill_nil ?_;change wpList _ _ _ _ _ w.drew
  go_upto_region 1 with fail
  have E:Blk (w.setCell ⟨g,4,none⟩ (.int .u64 (r2:Int))).drew g 274 #[wv a,wv b,wv c,wv d,.int .u64 (r2:Int),.int .u64 (n:Int)]:=Blk.set HB.o 4 (.int .u64 (r2:Int));have F:w.grownBy (w.setCell ⟨g,4,none⟩ (.int .u64 (r2:Int))).drew (some g):=AX (Ay HG.o (.inl rfl) _);generalize (w.setCell ⟨g,4,none⟩ (.int .u64 (r2:Int))).drew=v1 at E F⊢;clear Y k4 Z HB HG hx m1 m3 m4 hw hy;have Y:=E.frozen;have Z:v1.cell? ⟨g,5,none⟩=some (.int .u64 (n:Int)):=by rw[E.cell];rfl
  have O:=I E;clear E;have X:=I F;clear F
  go_upto_region 2 with fail
  have D:Blk (v1.setCell ⟨g,5,none⟩ (.int .u64 ((n:Int)+1))) g 274 #[wv a,wv b,wv c,wv d,.int .u64 (r2:Int),.int .u64 ((n:Int)+1)]:=Blk.set O.o 5 (.int .u64 ((n:Int)+1));have M:w.grownBy (v1.setCell ⟨g,5,none⟩ (.int .u64 ((n:Int)+1))) (some g):=Ay X.o (.inl rfl) _;generalize (v1.setCell ⟨g,5,none⟩ (.int .u64 ((n:Int)+1)))=v2 at D M⊢;clear Y Z O X;have Y:=D.frozen;have k4:v2.cell? ⟨g,4,none⟩=some (.int .u64 (r2:Int)):=by rw[D.cell];rfl
  have Z:v2.cell? ⟨g,5,none⟩=some (.int .u64 ((n:Int)+1)):=by rw[D.cell];rfl
  have ab:=I D;clear D;have aa:=I M;clear M;have c1:=Ii g ⟨a,b,c,d⟩ (.int .u64 (r2:Int)) (.int .u64 ((n:Int)+1)) (wd r2) v2 ab.o;rw[wv,IU r2 ak.o] at c1
  go_wp2_with (go_at_call 216;refine Ag c1 ?_;rintro v3 ⟨ae,ag⟩;clear c1;have k4:v3.cell? ⟨g,4,none⟩=some (.int .u64 (r2:Int)):=by{rw[ae.cell];rfl};have Y:=ae.frozen;have an:=I ae;have al:=I ag;clear ae ag)
  go_end0
  exact⟨rfl,by rw[ai.o M5.o];exact Blk.set an.o 4 (.int .u64 0),Ay (World.grownBy.trans aa.o al.o) (.inl rfl) _⟩
theorem Kk (s:St) (D:s.r<72057594037927936):(Nt s).toNat=s.r+s.n % 256*72057594037927936:=IU _ (by omega)
theorem Ve (g:Nat) (s:St) (w:World) (hr:s.r<72057594037927936) (hB:Blk w g 274 (stc s)) :
  Calls Tryz.prog 203 #[.pointer (some ⟨g,0,none⟩)] w fun e w'=>e=.returned (wv (finS s))/\w.grownBy w' (some g):=by
 have hl:=Kk s hr;have hx:=Mr s.r s.n hr;rw[<-hl,<-IntKind.wrap_u64] at hx;obtain⟨lw,el⟩:∃x,x=Nt s:=⟨_,rfl⟩;obtain⟨⟨a,b,c,d⟩,e1⟩:∃t,t=addM s.v lw:=⟨_,rfl⟩;obtain⟨c1,ec⟩:∃x,x=c ^^^ 255#64:=⟨_,rfl⟩;obtain⟨⟨a2,b2,c2,d2⟩,e2⟩:∃t,t=rnds 4 ⟨a,b,c1,d⟩:=⟨_,rfl⟩;obtain⟨q1,O⟩:∃x,x=a2 ^^^ b2:=⟨_,rfl⟩;obtain⟨q2,ab⟩:∃x,x=q1 ^^^ c2:=⟨_,rfl⟩;obtain⟨q3,Y⟩:∃x,x=q2 ^^^ d2:=⟨_,rfl⟩;have M:finS s=q3:=by rw[finS,<-el,<-e1,fin,<-ec,<-e2,allX,<-O,<-ab,<-Y]
 have x0:bits .xor .u64 (c.toNat:Int) 255=(c1.toNat:Int):=by rw[ec];exact Bu c 255#64
 have x1:bits .xor .u64 (a2.toNat:Int) (b2.toNat:Int)=(q1.toNat:Int):=by rw[O];exact Bu _ _
 have x2:bits .xor .u64 (q1.toNat:Int) (c2.toNat:Int)=(q2.toNat:Int):=by rw[ab];exact Bu _ _
 have x3:bits .xor .u64 (q2.toNat:Int) (d2.toNat:Int)=(q3.toNat:Int):=by rw[Y];exact Bu _ _
 rw[<-el] at hx;obtain⟨v,r,n⟩:=s;have hx:bits .or .u64 (r:Int) (IntKind.u64.wrap ((n:Int)*72057594037927936))=(lw.toNat:Int):=hx;have e1:⟨a,b,c,d⟩=addM v lw:=e1;have ca:=Ii g v (.int .u64 (r:Int)) (.int .u64 (n:Int)) lw w.drew (Blk.drewN hB 1);rw[<-e1] at ca;have ae:=I M;clear M;have E2:=I e2;clear e2;have k4:w.cell? ⟨g,4,none⟩=some (.int .u64 (r:Int)):=by rw[hB.cell];rfl
 have k5:w.cell? ⟨g,5,none⟩=some (.int .u64 (n:Int)):=by rw[hB.cell];rfl
 have fz:=hB.frozen;have ag:=I x0;clear x0;have an:=I x1;clear x1;have aj:=I x2;clear x2;have ak:=I x3;clear x3;clear el e1 ec O ab Y hl hr hB;go_enter Tryz.func203,Tryz.ntmps203
 go_upto_region 1 with fail
 refine wp_region_still_tail 11 (by kernel_rfl) (by kernel_rfl) ?_;simp only[List.take_succ_cons,List.take_zero,List.drop_succ_cons,List.drop_zero];change wpStill _ _ w.drew _ _ _
 repeat still_step
 refine wpStill_nil ?_;change wpList _ _ _ _ _ w.drew;clear hx k4 k5 fz
 go_upto_region 2 with(go_at_call 216;refine Ag ca ?_;rintro v1 ⟨F,D⟩;clear ca;have D:w.grownBy v1 (some g):=⟨D.os,D.tape,D.output,D.size,D.block⟩;have k2:v1.cell? ⟨g,2,none⟩=some (.int .u64 (c.toNat:Int)):=by{rw[F.cell];rfl};have fz:=F.frozen;have ad:=I F;have ai:=I D;clear F D)
 have x0:=ag.o;clear ag
 go_upto_region 3 with fail
 have X:Blk (v1.setCell ⟨g,2,none⟩ (.int .u64 (c1.toNat:Int))) g 274 #[wv a,wv b,wv c1,wv d,.int .u64 (r:Int),.int .u64 (n:Int)]:=Blk.set ad.o 2 (wv c1);have Z:w.grownBy (v1.setCell ⟨g,2,none⟩ (.int .u64 (c1.toNat:Int))) (some g):=Ay ai.o (.inl rfl) _;generalize (v1.setCell ⟨g,2,none⟩ (.int .u64 (c1.toNat:Int)))=v2 at X Z⊢;have aa:=IV g 4 ⟨a,b,c1,d⟩ (.int .u64 (r:Int)) (.int .u64 (n:Int)) v2 (by decide) X;rw[<-E2.o] at aa;have ao:=I Z;clear X Z fz k2 ad ai x0
 go_upto_region 4 with(go_at_call 217;refine Ag aa ?_;rintro v3 ⟨af,ah⟩;clear aa;have E:=I af;have al:=I ah;clear af ah)
 have k0:v3.cell? ⟨g,0,none⟩=some (.int .u64 (a2.toNat:Int)):=by rw[E.o.cell];rfl
 have k1:v3.cell? ⟨g,1,none⟩=some (.int .u64 (b2.toNat:Int)):=by rw[E.o.cell];rfl
 have k2:v3.cell? ⟨g,2,none⟩=some (.int .u64 (c2.toNat:Int)):=by rw[E.o.cell];rfl
 have k3:v3.cell? ⟨g,3,none⟩=some (.int .u64 (d2.toNat:Int)):=by rw[E.o.cell];rfl
 have x1:=an.o;have x2:=aj.o;have x3:=ak.o;refine wp_region_still_lit (by kernel_rfl) (by kernel_rfl) ?_;change wpStill _ _ v3.drew _ _ _
 repeat still_step
 refine wpStill_nil ?_
 try change _ v3.drew
 go_wp2_with fail
 go_ret;exact⟨by rw[ae.o];rfl,AX (World.grownBy.trans ao.o al.o)⟩
theorem Blk.new_of (w:World) (g:Nat) (t:TypeId) (cs D:Array Value) (e:cs=D) (E:w.heap.size=g):Blk (w.alloc (.cells cs t)) g t D:=E▸e▸Blk.new w t cs
theorem AS {B:Nat} {a w:World} (h:Below B a w) {p:Addr} (E:B<=p.block) (u:Value):Below B a (w.setCell p u):=
 ⟨h.os,h.tape,h.output,by simpa [World.setCell] using h.size,fun i D=>(Below.heap_setCell w p u i (by omega)).trans (h.block i D)⟩
theorem Aj {P:Program} {fn:Func} {tmps:Array Value} {w:World} {v:Value} (t:Nat) (ty:TypeId) (a:Addr) (D:fn.results=#[.cell t ty]) (M:tmps.getD t undef=.pointer (some a)) (F:(loadVar ty a).run P w=.ok v w) :
  (results fn tmps).run P w=.ok v w:=by
 have E:tmps[t]?.getD undef=.pointer (some a):=by simpa using M
 simp [results,D,E,asAddr,F]
theorem Am {P:Program} {w:World} {g:Nat} {t ty:TypeId} {cs:Array Value} {d:TypeDesc} (h:Blk w g t cs) (hu:P.underlying ty=some d) (M:d.isRow=true) (F:(P.info? ty).map (·.size)=some cs.size) :
  (loadVar ty ⟨g,0,none⟩).run P w=.ok (.agg cs) w:=by
 have E:w.rangeAt g 0 cs.toList:=fun j v D=>by rw[Nat.zero_add,h.cell];simpa using D
 have:=run_loadVar_mid (P:=P) w g 0 ty cs.toList d E hu M (by simpa using F)
 simpa using this
def AF (ks:Nat->UInt8):Array Value:=((List.range 16).map (fun i=>bv (ks i))).toArray
theorem Blk.far {w:World} {g:Nat} {t:TypeId} {cs:Array Value} (h:Blk w g t cs) (p:Addr) (u:Value) (D:p.block≠g):Blk (w.setCell p u) g t cs:=
 (Below.heap_setCell w p u g (fun e=>D e.symm)).trans h
theorem Ab {w:World} {g:Nat} {t:TypeId} {cs:Array Value} (h:Blk w g t cs):w.rangeAt g 0 cs.toList:=fun j v D=>by
 rw[Nat.zero_add,h.cell];simpa using D
theorem Ak {w:World} {g:Nat} {t:TypeId} {cs:Array Value} (h:Blk w g t cs):w.there g 0 cs.size:=fun j D=>by
 rw[Nat.zero_add];exact⟨by rw[h.cell,Array.getElem?_eq_getElem D];rfl,h.frozen j⟩
theorem Bn {B:Nat} {a:World} (b:Nat) (D:B<=b):∀(vs:List Value) (o:Nat) (w:World),Below B a w->Below B a (w.setCells b o vs)
 | [],_,_,h=>h
 |v :: r,o,w,h=>Bn b D r (o+1) _ (AS h D v)
def ksOf (l:List UInt8) (i:Nat):UInt8:=l.getD i 0
theorem Fk (f:Nat->UInt8) (j:Nat) (D:j<16):(AF f)[j]? = some (bv (f j)):=by
 rw[AF,List.getElem?_toArray];simp [D]
theorem k16 {w':World} {B:Nat} {t:TypeId} {ks:Nat->UInt8} (h:Blk w' B t (AF ks)):w'.cell? ⟨B,0,none⟩=some (.int .u8 ((ks 0).toNat:Int))/\w'.cell? ⟨B,1,none⟩=some (.int .u8 ((ks 1).toNat:Int))/\w'.cell? ⟨B,2,none⟩=some (.int .u8 ((ks 2).toNat:Int))/\w'.cell? ⟨B,3,none⟩=some (.int .u8 ((ks 3).toNat:Int))/\w'.cell? ⟨B,4,none⟩=some (.int .u8 ((ks 4).toNat:Int))/\w'.cell? ⟨B,5,none⟩=some (.int .u8 ((ks 5).toNat:Int))/\w'.cell? ⟨B,6,none⟩=some (.int .u8 ((ks 6).toNat:Int))/\w'.cell? ⟨B,7,none⟩=some (.int .u8 ((ks 7).toNat:Int))/\w'.cell? ⟨B,8,none⟩=some (.int .u8 ((ks 8).toNat:Int))/\w'.cell? ⟨B,9,none⟩=some (.int .u8 ((ks 9).toNat:Int))/\w'.cell? ⟨B,10,none⟩=some (.int .u8 ((ks 10).toNat:Int))/\w'.cell? ⟨B,11,none⟩=some (.int .u8 ((ks 11).toNat:Int))/\w'.cell? ⟨B,12,none⟩=some (.int .u8 ((ks 12).toNat:Int))/\w'.cell? ⟨B,13,none⟩=some (.int .u8 ((ks 13).toNat:Int))/\w'.cell? ⟨B,14,none⟩=some (.int .u8 ((ks 14).toNat:Int))/\w'.cell? ⟨B,15,none⟩=some (.int .u8 ((ks 15).toNat:Int)):=by
 refine⟨?_,?_,?_,?_,?_,?_,?_,?_,?_,?_,?_,?_,?_,?_,?_,?_⟩<;>(rw[h.cell];rfl)
theorem Kl (w:World) (g:Nat) (a b c d e f:Value):w.setCells g 0 [a,b,c,d,e,f]=(((((w.setCell ⟨g,0,none⟩ a).setCell ⟨g,1,none⟩ b).setCell ⟨g,2,none⟩ c).setCell ⟨g,3,none⟩ d).setCell ⟨g,4,none⟩ e).setCell ⟨g,5,none⟩ f:=rfl
theorem Blk.set6 {w:World} {g:Nat} {t:TypeId} {a b c d e f F O c' D M E:Value} (h:Blk w g t #[F,O,c',D,M,E]):Blk (w.setCells g 0 [a,b,c,d,e,f]) g t #[a,b,c,d,e,f]:=by
 rw[Kl];have:=(((((h.set 0 a).set 1 b).set 2 c).set 3 d).set 4 e).set 5 f
 simpa using this
def WT:Array Value:=#[.int .u64 0,.int .u64 0,.int .u64 0,.int .u64 0,.int .u64 0,.int .u64 0]
theorem Pm (ks:Nat->UInt8) (w:World):Calls Tryz.prog 201 #[.agg (AF ks)] w fun e w'=>e=.returned (.agg (stc ⟨start ks,0,0⟩))/\Below w.heap.size w w':=by
 have hk:AF ks=#[.int .u8 ((ks 0).toNat:Int),.int .u8 ((ks 1).toNat:Int),.int .u8 ((ks 2).toNat:Int),.int .u8 ((ks 3).toNat:Int),.int .u8 ((ks 4).toNat:Int),.int .u8 ((ks 5).toNat:Int),.int .u8 ((ks 6).toNat:Int),.int .u8 ((ks 7).toNat:Int),.int .u8 ((ks 8).toNat:Int),.int .u8 ((ks 9).toNat:Int),.int .u8 ((ks 10).toNat:Int),.int .u8 ((ks 11).toNat:Int),.int .u8 ((ks 12).toNat:Int),.int .u8 ((ks 13).toNat:Int),.int .u8 ((ks 14).toNat:Int),.int .u8 ((ks 15).toNat:Int)]:=rfl;have cA:∀w,Calls Tryz.prog 215 #[.agg #[.int .u8 ((ks 0).toNat:Int),.int .u8 ((ks 1).toNat:Int),.int .u8 ((ks 2).toNat:Int),.int .u8 ((ks 3).toNat:Int),.int .u8 ((ks 4).toNat:Int),.int .u8 ((ks 5).toNat:Int),.int .u8 ((ks 6).toNat:Int),.int .u8 ((ks 7).toNat:Int)]] w fun e w'=>e=.returned (wv (kA ks))/\Below w.heap.size w w':=fun w=>Dl ks w
 have cB:∀w,Calls Tryz.prog 215 #[.agg #[.int .u8 ((ks 8).toNat:Int),.int .u8 ((ks 9).toNat:Int),.int .u8 ((ks 10).toNat:Int),.int .u8 ((ks 11).toNat:Int),.int .u8 ((ks 12).toNat:Int),.int .u8 ((ks 13).toNat:Int),.int .u8 ((ks 14).toNat:Int),.int .u8 ((ks 15).toNat:Int)]] w fun e w'=>e=.returned (wv (kB ks))/\Below w.heap.size w w':=fun w=>Dl (fun i=>ks (8+i)) w
 obtain⟨p,ep⟩:∃x,x=kA ks:=⟨_,rfl⟩;obtain⟨q,eq⟩:∃x,x=kB ks:=⟨_,rfl⟩;obtain⟨v0,e0⟩:∃x,x=0x736f6d6570736575#64 ^^^ p:=⟨_,rfl⟩;obtain⟨v1,e1⟩:∃x,x=0x646f72616e646f6d#64 ^^^ q:=⟨_,rfl⟩;obtain⟨v2,e2⟩:∃x,x=0x6c7967656e657261#64 ^^^ p:=⟨_,rfl⟩;obtain⟨v3,e3⟩:∃x,x=0x7465646279746573#64 ^^^ q:=⟨_,rfl⟩;have x0:bits .xor .u64 8317987319222330741 (p.toNat:Int)=(v0.toNat:Int):=by rw[e0];exact Bu 0x736f6d6570736575#64 p
 have x1:bits .xor .u64 7237128888997146477 (q.toNat:Int)=(v1.toNat:Int):=by rw[e1];exact Bu 0x646f72616e646f6d#64 q
 have x2:bits .xor .u64 7816392313619706465 (p.toNat:Int)=(v2.toNat:Int):=by rw[e2];exact Bu 0x6c7967656e657261#64 p
 have x3:bits .xor .u64 8387220255154660723 (q.toNat:Int)=(v3.toNat:Int):=by rw[e3];exact Bu 0x7465646279746573#64 q
 have hs:stc ⟨start ks,0,0⟩=#[wv v0,wv v1,wv v2,wv v3,.int .u64 0,.int .u64 0]:=by
  rw[e0,e1,e2,e3,ep,eq];rfl
 rw[<-ep] at cA;rw[<-eq] at cB;rw[hs];clear hs ep eq e0 e1 e2 e3;obtain⟨B,eB⟩:=Ah (w.heap.size);have EB:=I eB;rw[hk];clear hk;go_enter Tryz.func201,Tryz.ntmps201
 go_upto_region 1 with fail
 rw[<-eB];clear eB;have af:∀w:World,(Instr.arrayAt 290 (.slice (some ⟨B,0,none⟩) 8 16)).run Tryz.prog w=.ok (.pointer (some ⟨B,0,none⟩)) w:=fun _=>by kernel_rfl
 have ag:∀w:World,(Instr.arrayAt 290 (.slice (some ⟨B,8,none⟩) 8 8)).run Tryz.prog w=.ok (.pointer (some ⟨B,8,none⟩)) w:=fun _=>by kernel_rfl
 have D:Blk ((w.alloc (.cells #[.int .u8 ((ks 0).toNat:Int),.int .u8 ((ks 1).toNat:Int),.int .u8 ((ks 2).toNat:Int),.int .u8 ((ks 3).toNat:Int),.int .u8 ((ks 4).toNat:Int),.int .u8 ((ks 5).toNat:Int),.int .u8 ((ks 6).toNat:Int),.int .u8 ((ks 7).toNat:Int),.int .u8 ((ks 8).toNat:Int),.int .u8 ((ks 9).toNat:Int),.int .u8 ((ks 10).toNat:Int),.int .u8 ((ks 11).toNat:Int),.int .u8 ((ks 12).toNat:Int),.int .u8 ((ks 13).toNat:Int),.int .u8 ((ks 14).toNat:Int),.int .u8 ((ks 15).toNat:Int)] 166)).alloc (.cells #[.int .u64 0,.int .u64 0,.int .u64 0,.int .u64 0,.int .u64 0,.int .u64 0] 274)) B 166 (AF ks):=Blk.alloc (Blk.new_of w B _ _ (AF ks) rfl EB.o.symm) _;have E:Blk ((w.alloc (.cells #[.int .u8 ((ks 0).toNat:Int),.int .u8 ((ks 1).toNat:Int),.int .u8 ((ks 2).toNat:Int),.int .u8 ((ks 3).toNat:Int),.int .u8 ((ks 4).toNat:Int),.int .u8 ((ks 5).toNat:Int),.int .u8 ((ks 6).toNat:Int),.int .u8 ((ks 7).toNat:Int),.int .u8 ((ks 8).toNat:Int),.int .u8 ((ks 9).toNat:Int),.int .u8 ((ks 10).toNat:Int),.int .u8 ((ks 11).toNat:Int),.int .u8 ((ks 12).toNat:Int),.int .u8 ((ks 13).toNat:Int),.int .u8 ((ks 14).toNat:Int),.int .u8 ((ks 15).toNat:Int)] 166)).alloc (.cells #[.int .u64 0,.int .u64 0,.int .u64 0,.int .u64 0,.int .u64 0,.int .u64 0] 274)) (B+1) 274 WT:=Blk.new_of (w.alloc _) (B+1) _ _ WT rfl (by have:=EB.o;simp;omega);have X:Below w.heap.size w ((w.alloc (.cells #[.int .u8 ((ks 0).toNat:Int),.int .u8 ((ks 1).toNat:Int),.int .u8 ((ks 2).toNat:Int),.int .u8 ((ks 3).toNat:Int),.int .u8 ((ks 4).toNat:Int),.int .u8 ((ks 5).toNat:Int),.int .u8 ((ks 6).toNat:Int),.int .u8 ((ks 7).toNat:Int),.int .u8 ((ks 8).toNat:Int),.int .u8 ((ks 9).toNat:Int),.int .u8 ((ks 10).toNat:Int),.int .u8 ((ks 11).toNat:Int),.int .u8 ((ks 12).toNat:Int),.int .u8 ((ks 13).toNat:Int),.int .u8 ((ks 14).toNat:Int),.int .u8 ((ks 15).toNat:Int)] 166)).alloc (.cells #[.int .u64 0,.int .u64 0,.int .u64 0,.int .u64 0,.int .u64 0,.int .u64 0] 274)):=((Below.refl w.heap.size w).alloc Ae _).alloc (by simp) _;have ae:=I x0;clear x0;have aa:=I x1;clear x1;have ab:=I x2;clear x2;have ad:=I x3;clear x3;generalize ((w.alloc (.cells #[.int .u8 ((ks 0).toNat:Int),.int .u8 ((ks 1).toNat:Int),.int .u8 ((ks 2).toNat:Int),.int .u8 ((ks 3).toNat:Int),.int .u8 ((ks 4).toNat:Int),.int .u8 ((ks 5).toNat:Int),.int .u8 ((ks 6).toNat:Int),.int .u8 ((ks 7).toNat:Int),.int .u8 ((ks 8).toNat:Int),.int .u8 ((ks 9).toNat:Int),.int .u8 ((ks 10).toNat:Int),.int .u8 ((ks 11).toNat:Int),.int .u8 ((ks 12).toNat:Int),.int .u8 ((ks 13).toNat:Int),.int .u8 ((ks 14).toNat:Int),.int .u8 ((ks 15).toNat:Int)] 166)).alloc (.cells #[.int .u64 0,.int .u64 0,.int .u64 0,.int .u64 0,.int .u64 0,.int .u64 0] 274))=W1 at D E X⊢;have D:Blk W1.drew B 166 (AF ks):=D;have E:Blk W1.drew (B+1) 274 #[.int .u64 0,.int .u64 0,.int .u64 0,.int .u64 0,.int .u64 0,.int .u64 0]:=E;have X:Below w.heap.size w W1.drew:=below_drewN X 1
 go_region_held3 (fun w'=>w'.cell? ⟨B,0,none⟩=some (.int .u8 ((ks 0).toNat:Int))/\w'.cell? ⟨B,1,none⟩=some (.int .u8 ((ks 1).toNat:Int))/\w'.cell? ⟨B,2,none⟩=some (.int .u8 ((ks 2).toNat:Int))/\w'.cell? ⟨B,3,none⟩=some (.int .u8 ((ks 3).toNat:Int))/\w'.cell? ⟨B,4,none⟩=some (.int .u8 ((ks 4).toNat:Int))/\w'.cell? ⟨B,5,none⟩=some (.int .u8 ((ks 5).toNat:Int))/\w'.cell? ⟨B,6,none⟩=some (.int .u8 ((ks 6).toNat:Int))/\w'.cell? ⟨B,7,none⟩=some (.int .u8 ((ks 7).toNat:Int))/\w'.cell? ⟨B,8,none⟩=some (.int .u8 ((ks 8).toNat:Int))/\w'.cell? ⟨B,9,none⟩=some (.int .u8 ((ks 9).toNat:Int))/\w'.cell? ⟨B,10,none⟩=some (.int .u8 ((ks 10).toNat:Int))/\w'.cell? ⟨B,11,none⟩=some (.int .u8 ((ks 11).toNat:Int))/\w'.cell? ⟨B,12,none⟩=some (.int .u8 ((ks 12).toNat:Int))/\w'.cell? ⟨B,13,none⟩=some (.int .u8 ((ks 13).toNat:Int))/\w'.cell? ⟨B,14,none⟩=some (.int .u8 ((ks 14).toNat:Int))/\w'.cell? ⟨B,15,none⟩=some (.int .u8 ((ks 15).toNat:Int))) (exact k16 D) (first | (go_at_call 215;refine Ag (cA _) ?_;rintro wq Y;clear cA;have F:=Blk.below D Y;have O:=Blk.below E Y;have M:=bt X Y;clear D E X;have D:=F;have E:=O;have X:=M;clear F O M Y) | (go_at_call 215;refine Ag (cB _) ?_;rintro wq Y;clear cB;have F:=Blk.below D Y;have O:=Blk.below E Y;have M:=bt X Y;clear D E X;have D:=F;have E:=O;have X:=M;clear F O M Y))
 all_goals
  have x0:=ae.o;have x1:=aa.o;have x2:=ab.o;have x3:=ad.o;have Z:=I E;clear E;have HW:=I X;clear X;clear D ae aa ab ad
 all_goals
  have c0:wq.cell? ⟨B+1,0,none⟩=some (.int .u64 0):=by rw[Z.o.cell];rfl
  have c1:wq.cell? ⟨B+1,1,none⟩=some (.int .u64 0):=by rw[Z.o.cell];rfl
  have c2:wq.cell? ⟨B+1,2,none⟩=some (.int .u64 0):=by rw[Z.o.cell];rfl
  have c3:wq.cell? ⟨B+1,3,none⟩=some (.int .u64 0):=by rw[Z.o.cell];rfl
  have c4:wq.cell? ⟨B+1,4,none⟩=some (.int .u64 0):=by rw[Z.o.cell];rfl
  have c5:wq.cell? ⟨B+1,5,none⟩=some (.int .u64 0):=by rw[Z.o.cell];rfl
  have fz:=Z.o.frozen;clear af ag
 all_goals go_wp2_with fail
 all_goals
  have hE:=Blk.set6 (a:=wv v0) (b:=wv v1) (c:=wv v2) (d:=wv v3) (e:=.int .u64 0) (f:=.int .u64 0) Z.o;rw[Kl] at hE;have hq:=Am (P:=Tryz.prog) hE Tryz.underlying274 rfl (by kernel_rfl);refine bodyPost_ret (v:=.agg #[wv v0,wv v1,wv v2,wv v3,.int .u64 0,.int .u64 0]) ?_ ?_ ?_
  ·exact Aj 2 274 ⟨B+1,0,none⟩ Tryz.results201 rfl hq
  ·rfl
  refine⟨rfl,?_⟩;have hle:w.heap.size<=B+1:=by have:=EB.o;omega
  repeat (refine AS ?_ hle _)
  exact HW.o
end Si
end Go.Proofs.YtcpccikongbopaaGreat
