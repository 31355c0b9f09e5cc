import Derived.Test.YtcpccikongbopaaGreatZClientFirst1
set_option maxHeartbeats 25600000
set_option maxRecDepth 100000
set_option linter.unusedVariables false
set_option linter.unusedSimpArgs false
namespace Go.Proofs.YtcpccikongbopaaGreat
namespace Si
open Go.RowKit Ad
abbrev Wd:=BitVec 64
def rot (v:Wd) (s:Nat):Wd:=(v <<< s) ||| (v >>> (64 - s))
abbrev wv (v:Wd):Value:=.int .u64 (v.toNat:Int)
def wd (n:Nat):Wd:=BitVec.ofNat 64 n
theorem FH (v:Wd):v.toNat<18446744073709551616:=v.isLt
theorem IU (n:Nat) (h:n<18446744073709551616):(wd n).toNat=n:=by
 rw[wd,BitVec.toNat_ofNat];exact Nat.mod_eq_of_lt h
theorem Bu (x y:Wd):bits .xor .u64 (x.toNat:Int) (y.toNat:Int)=((x ^^^ y).toNat:Int):=by
 rw[u64_xor_nat _ _ x.isLt y.isLt,BitVec.toNat_xor]
theorem Fw (x y:Wd):((x.toNat:Int)+(y.toNat:Int)) % 18446744073709551616=((x+y).toNat:Int):=by
 rw[BitVec.toNat_add];omega
theorem GZ (x y:Wd):IntKind.u64.wrap ((x.toNat:Int)+(y.toNat:Int))=((x+y).toNat:Int):=by
 rw[IntKind.wrap_u64,Fw]
theorem Jn (v:Wd) (s:Nat):(rot v s).toNat=(v.toNat*2 ^ s % 18446744073709551616) ||| (v.toNat / 2 ^ (64 - s)):=by
 simp [rot,BitVec.toNat_or,BitVec.toNat_shiftLeft,BitVec.toNat_ushiftRight,Nat.shiftLeft_eq,Nat.shiftRight_eq_div_pow]
theorem GX (v:Wd) (a b:Nat) (s:Nat) (E:a=v.toNat*2 ^ s % 18446744073709551616) (D:b=v.toNat / 2 ^ (64 - s)):bits .or .u64 (a:Int) (b:Int)=((rot v s).toNat:Int):=by
 rw[u64_or_nat a b (by omega) (by have:=FH v;have:=Nat.div_le_self v.toNat (2 ^ (64 - s));omega),Jn,E,D]
theorem or13 (v:Wd):bits .or .u64 ((v.toNat:Int)*8192 % 18446744073709551616) ((v.toNat:Int) / 2251799813685248)=((rot v 13).toNat:Int):=GX v _ _ 13 rfl rfl
theorem or32 (v:Wd):bits .or .u64 ((v.toNat:Int)*4294967296 % 18446744073709551616) ((v.toNat:Int) / 4294967296)=((rot v 32).toNat:Int):=GX v _ _ 32 rfl rfl
theorem or16 (v:Wd):bits .or .u64 ((v.toNat:Int)*65536 % 18446744073709551616) ((v.toNat:Int) / 281474976710656)=((rot v 16).toNat:Int):=GX v _ _ 16 rfl rfl
theorem or21 (v:Wd):bits .or .u64 ((v.toNat:Int)*2097152 % 18446744073709551616) ((v.toNat:Int) / 8796093022208)=((rot v 21).toNat:Int):=GX v _ _ 21 rfl rfl
theorem or17 (v:Wd):bits .or .u64 ((v.toNat:Int)*131072 % 18446744073709551616) ((v.toNat:Int) / 140737488355328)=((rot v 17).toNat:Int):=GX v _ _ 17 rfl rfl
def BH:List UInt8->Nat
 | []=>0
 |b :: l=>b.toNat+256*BH l
theorem Gh:∀l,BH l<256 ^ l.length
 | []=>by simp [BH]
 |b :: l=>by
  have h:=Gh l;have D:=b.toNat_lt;rw[BH,List.length_cons,Nat.pow_succ];omega
theorem GB (b:UInt8):∀l,BH (l++[b])=BH l+b.toNat*256 ^ l.length
 | []=>by simp [BH]
 |c :: l=>by
  rw[List.cons_append,BH,GB b l,BH,List.length_cons,Nat.pow_succ,Nat.mul_add,Nat.add_assoc]
  congr 2
  rw[Nat.mul_comm,Nat.mul_assoc]
theorem Jr {l:List UInt8} (h:l.length<=8):BH l<18446744073709551616:=
 Nat.lt_of_lt_of_le (Gh l) (Nat.pow_le_pow_right (by decide) h:256 ^ l.length<=256 ^ 8)
theorem Pj {l:List UInt8} (h:l.length<=7):BH l<72057594037927936:=
 Nat.lt_of_lt_of_le (Gh l) (Nat.pow_le_pow_right (by decide) h:256 ^ l.length<=256 ^ 7)
structure V where
 a:Wd
 b:Wd
 c:Wd
 d:Wd
def rnd (s:V):V:=
 let a1:=s.a+s.b
 let b1:=rot s.b 13 ^^^ a1
 let a2:=rot a1 32
 let c1:=s.c+s.d
 let d1:=rot s.d 16 ^^^ c1
 let a3:=a2+d1
 let d2:=rot d1 21 ^^^ a3
 let c2:=c1+b1
 let b2:=rot b1 17 ^^^ c2
 let c3:=rot c2 32
 ⟨a3,b2,c3,d2⟩
def rnds:Nat->V->V
 |0,s=>s
 |n+1,s=>rnd (rnds n s)
def addM (s:V) (m:Wd):V:=⟨(rnds 2 ⟨s.a,s.b,s.c,s.d ^^^ m⟩).a ^^^ m,(rnds 2 ⟨s.a,s.b,s.c,s.d ^^^ m⟩).b,(rnds 2 ⟨s.a,s.b,s.c,s.d ^^^ m⟩).c,(rnds 2 ⟨s.a,s.b,s.c,s.d ^^^ m⟩).d⟩
def allX (s:V):Wd:=s.a ^^^ s.b ^^^ s.c ^^^ s.d
def fin (s:V):Wd:=allX (rnds 4 ⟨s.a,s.b,s.c ^^^ 255#64,s.d⟩)
def kA (ks:Nat->UInt8):Wd:=wd (BH ((List.range 8).map ks))
def kB (ks:Nat->UInt8):Wd:=wd (BH ((List.range 8).map fun i=>ks (8+i)))
def start (ks:Nat->UInt8):V:=⟨0x736f6d6570736575#64 ^^^ kA ks,0x646f72616e646f6d#64 ^^^ kB ks,0x6c7967656e657261#64 ^^^ kA ks,0x7465646279746573#64 ^^^ kB ks⟩
structure St where
 v:V
 r:Nat
 n:Nat
def addB (s:St) (b:UInt8):St:=
 if (s.n+1) % 8=0 then ⟨addM s.v (wd (s.r+b.toNat*256 ^ (s.n % 8))),0,s.n+1⟩ else ⟨s.v,s.r+b.toNat*256 ^ (s.n % 8),s.n+1⟩
theorem Mp (s:St) (b:UInt8) (h:(s.n+1) % 8=0):addB s b=⟨addM s.v (wd (s.r+b.toNat*256 ^ (s.n % 8))),0,s.n+1⟩:=if_pos h
theorem Pk (s:St) (b:UInt8) (h:¬(s.n+1) % 8=0):addB s b=⟨s.v,s.r+b.toNat*256 ^ (s.n % 8),s.n+1⟩:=if_neg h
def stOf (ks:Nat->UInt8) (l:List UInt8):St:=l.foldl addB ⟨start ks,0,0⟩
def Nt (s:St):Wd:=wd (s.r+s.n % 256*72057594037927936)
def finS (s:St):Wd:=fin (addM s.v (Nt s))
def GC (ks:Nat->UInt8) (l:List UInt8):Wd:=finS (stOf ks l)
theorem Kh (ks:Nat->UInt8) (l:List UInt8) (b:UInt8):stOf ks (l++[b])=addB (stOf ks l) b:=by simp [stOf]
def full (ks:Nat->UInt8) (p:List UInt8):Nat->V
 |0=>start ks
 |j+1=>addM (full ks p j) (wd (BH ((p.drop (8*j)).take 8)))
theorem Ki (ks:Nat->UInt8) (p:List UInt8):∀n,n<=p.length->stOf ks (p.take n)=⟨full ks p (n / 8),BH ((p.take n).drop (8*(n / 8))),n⟩
 |0,_=>by simp [stOf,full,BH]
 |n+1,h=>by
  have ih:=Ki ks p n (by omega);have E:n<p.length:=by omega
  have M:p.take (n+1)=p.take n++[p[n]]:=by rw[List.take_succ_eq_append_getElem E]
  have el:((p.take n).drop (8*(n / 8))).length=n % 8:=by rw[List.length_drop,List.length_take];omega
  have X:(p.take (n+1)).drop (8*(n / 8))=(p.take n).drop (8*(n / 8))++[p[n]]:=by
   rw[M,List.drop_append_of_le_length (by rw[List.length_take];omega)]
  have F:BH ((p.take (n+1)).drop (8*(n / 8)))=BH ((p.take n).drop (8*(n / 8)))+p[n].toNat*256 ^ (n % 8):=by rw[X,GB,el]
  have O:stOf ks (p.take (n+1))=addB (stOf ks (p.take n)) p[n]:=by rw[M,Kh]
  have Y:(p.take (n+1)).drop (n+1) = []:=List.drop_of_length_le (by rw[List.length_take];omega);rw[O,ih]
  by_cases h8:(n+1) % 8=0
  ·have D:(n+1) / 8=n / 8+1:=by omega
   have hm:8*((n+1) / 8)=n+1:=by omega
   have Z:(p.take (n+1)).drop (8*(n / 8))=(p.drop (8*(n / 8))).take 8:=by rw[List.drop_take,show n+1 - 8*(n / 8)=8 by omega]
   rw[Mp _ _ h8,<-F,hm,Y,D,full,Z];simp only[BH]
  ·have D:(n+1) / 8=n / 8:=by omega
   rw[Pk _ _ h8,D,F]
theorem Fo (ks:Nat->UInt8) (p:List UInt8):stOf ks p=⟨full ks p (p.length / 8),BH (p.drop (8*(p.length / 8))),p.length⟩:=by
 have h:=Ki ks p p.length Ae
 rwa [List.take_length] at h
theorem WN (ks:Nat->UInt8) (p:List UInt8):(stOf ks p).n=p.length:=by rw[Fo]
theorem TS (ks:Nat->UInt8) (p:List UInt8):(stOf ks p).r<256 ^ ((stOf ks p).n % 8):=by
 rw[Fo];have h:=Gh (p.drop (8*(p.length / 8)));rw[List.length_drop] at h
 rwa [show p.length - 8*(p.length / 8)=p.length % 8 by omega] at h
theorem RU (k:Nat) (h:k<=7):256 ^ k<=72057594037927936:=(Nat.pow_le_pow_right (by decide) h:256 ^ k<=256 ^ 7)
theorem Kj (r b k:Nat) (D:r<256 ^ k):r ||| b*256 ^ k=r+b*256 ^ k:=by
 have e:(256:Nat) ^ k=2 ^ (8*k):=by rw[Nat.pow_mul]
 rw[e] at D⊢;have h:=Nat.shiftLeft_add_eq_or_of_lt D b;rw[Nat.shiftLeft_eq] at h;rw[Nat.or_comm,<-h,Nat.add_comm]
theorem Mq (r:Nat) (b:UInt8) (k:Nat) (E:r<256 ^ k):r+b.toNat*256 ^ k<256 ^ (k+1):=by
 have D:=b.toNat_lt;rw[Nat.pow_succ];have:b.toNat*256 ^ k<=255*256 ^ k:=Nat.mul_le_mul_right _ (by omega);omega
theorem Js (r:Nat) (b:UInt8) (k:Nat) (hk:k<=7) (D:r<256 ^ k) (X:Int) (F:X=((b.toNat*256 ^ k:Nat):Int)):bits .or .u64 (r:Int) X=((r+b.toNat*256 ^ k:Nat):Int):=by
 have Y:=RU k hk;have M:=Mq r b k D;have O:(256:Nat) ^ (k+1)<=256 ^ 8:=Nat.pow_le_pow_right (by decide) (by omega);have E:(256:Nat) ^ 8=18446744073709551616:=by decide
 rw[F,u64_or_nat _ _ (by omega) (by omega),Kj r _ k D]
theorem Mr (r n:Nat) (E:r<72057594037927936):bits .or .u64 (r:Int) ((n:Int)*72057594037927936 % 18446744073709551616)=((r+n % 256*72057594037927936:Nat):Int):=by
 have e:(n:Int)*72057594037927936 % 18446744073709551616=((n % 256*256 ^ 7:Nat):Int):=by
  have:(256:Nat) ^ 7=72057594037927936:=by decide
  rw[this];omega
 have D:(UInt8.ofNat (n % 256)).toNat=n % 256:=by simp
 have h:=Js r (UInt8.ofNat (n % 256)) 7 (by decide) E ((n:Int)*72057594037927936 % 18446744073709551616) (by rw[e,D]);rw[h,D]
theorem WO (v:Wd) (w:World):Calls D.prog 227 #[wv v,.int .i64 13] w fun e w'=>e=.returned (wv (rot v 13))/\w'=w:=by
 have hand:bits .and .u64 13 63=13:=by kernel_rfl
 have E:=or13 v;rw[<-IntKind.wrap_u64] at E;go_enter D.func227,D.ntmps227
 go_wp2
 go_ret;exact⟨rfl,rfl⟩
theorem TT (v:Wd) (w:World):Calls D.prog 227 #[wv v,.int .i64 32] w fun e w'=>e=.returned (wv (rot v 32))/\w'=w:=by
 have hand:bits .and .u64 32 63=32:=by kernel_rfl
 have E:=or32 v;rw[<-IntKind.wrap_u64] at E;go_enter D.func227,D.ntmps227
 go_wp2
 go_ret;exact⟨rfl,rfl⟩
theorem WQ (v:Wd) (w:World):Calls D.prog 227 #[wv v,.int .i64 16] w fun e w'=>e=.returned (wv (rot v 16))/\w'=w:=by
 have hand:bits .and .u64 16 63=16:=by kernel_rfl
 have E:=or16 v;rw[<-IntKind.wrap_u64] at E;go_enter D.func227,D.ntmps227
 go_wp2
 go_ret;exact⟨rfl,rfl⟩
theorem WR (v:Wd) (w:World):Calls D.prog 227 #[wv v,.int .i64 21] w fun e w'=>e=.returned (wv (rot v 21))/\w'=w:=by
 have hand:bits .and .u64 21 63=21:=by kernel_rfl
 have E:=or21 v;rw[<-IntKind.wrap_u64] at E;go_enter D.func227,D.ntmps227
 go_wp2
 go_ret;exact⟨rfl,rfl⟩
theorem WS (v:Wd) (w:World):Calls D.prog 227 #[wv v,.int .i64 17] w fun e w'=>e=.returned (wv (rot v 17))/\w'=w:=by
 have hand:bits .and .u64 17 63=17:=by kernel_rfl
 have E:=or17 v;rw[<-IntKind.wrap_u64] at E;go_enter D.func227,D.ntmps227
 go_wp2
 go_ret;exact⟨rfl,rfl⟩
theorem UY (v:Wd) (w:World):Calls D.prog 171 #[wv v,.int .u64 13] w fun e w'=>e=.returned (wv (rot v 13))/\w'=w:=by
 have E:=or13 v;rw[<-IntKind.wrap_u64] at E;go_enter D.func171,D.ntmps171
 go_wp2
 go_ret;exact⟨rfl,rfl⟩
theorem Pl (v:Wd) (w:World):Calls D.prog 171 #[wv v,.int .u64 32] w fun e w'=>e=.returned (wv (rot v 32))/\w'=w:=by
 have E:=or32 v;rw[<-IntKind.wrap_u64] at E;go_enter D.func171,D.ntmps171
 go_wp2
 go_ret;exact⟨rfl,rfl⟩
theorem UZ (v:Wd) (w:World):Calls D.prog 171 #[wv v,.int .u64 16] w fun e w'=>e=.returned (wv (rot v 16))/\w'=w:=by
 have E:=or16 v;rw[<-IntKind.wrap_u64] at E;go_enter D.func171,D.ntmps171
 go_wp2
 go_ret;exact⟨rfl,rfl⟩
theorem Va (v:Wd) (w:World):Calls D.prog 171 #[wv v,.int .u64 21] w fun e w'=>e=.returned (wv (rot v 21))/\w'=w:=by
 have E:=or21 v;rw[<-IntKind.wrap_u64] at E;go_enter D.func171,D.ntmps171
 go_wp2
 go_ret;exact⟨rfl,rfl⟩
theorem Vb (v:Wd) (w:World):Calls D.prog 171 #[wv v,.int .u64 17] w fun e w'=>e=.returned (wv (rot v 17))/\w'=w:=by
 have E:=or17 v;rw[<-IntKind.wrap_u64] at E;go_enter D.func171,D.ntmps171
 go_wp2
 go_ret;exact⟨rfl,rfl⟩
theorem Vc (M:Nat) (b:UInt8) (E:M<72057594037927936):bits .or .u64 ((M:Int)*256) (b.toNat:Int)=((b.toNat+256*M:Nat):Int):=by
 have D:=b.toNat_lt;have e:(M:Int)*256=((M*256:Nat):Int):=by omega
 rw[e,u64_or_nat _ _ (by omega) (by omega)];have h:=nat_join 8 (M*256) b.toNat (by omega) (by omega);rw[h];omega
theorem Lh (A:Option Addr) (n c:Nat) (l:List UInt8) (w:World) (B:Nat) (hn:n=l.length) (h8:n<=8) (Z:Rd w B A (bvs l)) :
  Calls O.prog 131 #[.slice A n c] w fun e w'=>e=.returned (wv (wd (BH l)))/\w'=w:=by
 have HR:=I Z;clear Z;have HN:=I hn;clear hn;have H8:=I h8;clear h8;have e8:(n:Int)<=8:=by have:=H8.o;omega
 go_enter O.func131,O.ntmps131
 go_wp2_with fail
 go_loop [3,4] (fun mv iv=>∃j:Nat,j<=n/\iv=.int .i64 ((j:Int) - 1)/\mv=.int .u64 (BH (l.drop j):Nat)) (fun _ iv=>(intOf iv+1).toNat)
 case atStart=>exact⟨n,Nat.le_refl _,by go_num,by rw[List.drop_of_length_le (by have:=HN.o;omega)];rfl⟩
 case round=>
  obtain⟨j,hj,rfl,rfl⟩:=hrel;cases j with
  |zero=>
   have e:(BH l:Int)=((wd (BH l)).toNat:Int):=by rw[IU _ (Jr (by have:=HN.o;have:=H8.o;omega))]
   rw[List.drop_zero];obtain⟨x,ex⟩:=Ah (BH l);rw[<-ex] at e⊢;have E:=I e;clear e;have EX:=I ex;clear ex
   go_wp2_with fail
   go_ret;exact⟨by rw[wv,<-EX.o];simp [E.o],rfl⟩
  |succ j=>
   have hc:((j+1:Nat):Int) - 1=(j:Int):=by omega
   rw[hc];have F:j<l.length:=by have:=HN.o;omega
   have Z:=HR.o;obtain⟨b,o,rfl,ad,D⟩:=Z.at_ (DH F);have Y:w.cell? ⟨b,o+j,none⟩=some (.int .u8 ((l[j]).toNat:Int)):=D;clear D;obtain⟨y,ey⟩:=Ah (l[j]);rw[<-ey] at Y;obtain⟨M,eM⟩:=Ah (BH (l.drop (j+1)));rw[<-eM];have hM:M<72057594037927936:=by rw[eM];exact Pj (by rw[List.length_drop];have:=HN.o;have:=H8.o;omega)
   have e2:y.toNat+256*M=BH (l.drop j):=by rw[eM,ey,List.drop_eq_getElem_cons F,BH]
   have hx:=Vc M y hM;rw[e2] at hx;obtain⟨M2,X⟩:∃M,M=BH (l.drop j):=⟨_,rfl⟩;rw[<-X] at hx;have aa:=I X;have e3:(0:Int)<=(j:Int):=by omega
   have e4:(j:Int)<(n:Int):=by omega
   have e5:j<n:=by omega
   have e7:(j:Int)<8:=by omega
   have hy:IntKind.u64.wrap (y.toNat:Int)=(y.toNat:Int):=by rw[IntKind.wrap_u64];have:=y.toNat_lt;omega
   have HJ:=I hj;have ab:=I F;clear hj F Z eM e2 ey X
   go_wp2_with fail
   go_round
   case rel=>exact⟨j,by omega,by go_num,by rw[aa.o]⟩
   case measure=>simp [intOf]
def key8 (f:Nat->UInt8):Array Value:=#[.int .u8 (f 0).toNat,.int .u8 (f 1).toNat,.int .u8 (f 2).toNat,.int .u8 (f 3).toNat,.int .u8 (f 4).toNat,.int .u8 (f 5).toNat,.int .u8 (f 6).toNat,.int .u8 (f 7).toNat]
def GD (f:Nat->UInt8) (i:Nat):Nat:=BH ((List.range i).map f)
theorem Nu (f:Nat->UInt8) (i:Nat):GD f (i+1)=GD f i+(f i).toNat*256 ^ i:=by
 unfold GD;rw[List.range_succ,List.map_append,List.map_singleton,GB];simp
theorem RV (f:Nat->UInt8) (i:Nat):GD f i<256 ^ i:=by
 have:=Gh ((List.range i).map f)
 simpa [GD] using this
theorem or_at (f:Nat->UInt8) (i:Nat) (K:Int) (D:i<=7) (F:K=((256 ^ i:Nat):Int)):bits .or .u64 (GD f i:Nat) (IntKind.u64.wrap (((f i).toNat:Int)*K))=(GD f (i+1):Nat):=by
 rw[Nu];refine Js _ _ i D (RV f i) _ ?_;have E:=RU i D;have M:=(f i).toNat_lt;have O:(f i).toNat*256 ^ i<=255*72057594037927936:=Nat.mul_le_mul (by omega) E;rw[F,IntKind.wrap_u64,<-Int.natCast_mul];omega
theorem Dl (f:Nat->UInt8) (w:World) :
  Calls D.prog 215 #[.agg (key8 f)] w fun e w'=>e=.returned (wv (wd (GD f 8)))/\Below w.heap.size w w':=by
 unfold key8;go_enter D.func215,D.ntmps215
 go_wp2_with fail
 go_loop [3,7] (fun mv iv=>∃j:Nat,j<=8/\iv=.int .i64 (j:Int)/\mv=.int .u64 (GD f j:Nat)) (fun _ iv=>8 - (intOf iv).toNat)
 case atStart=>exact⟨0,by decide,rfl,rfl⟩
 case round=>
  obtain⟨j,hj,rfl,rfl⟩:=hrel;obtain⟨M,Z⟩:=Ah (GD f j);obtain⟨M2,X⟩:∃M,M=GD f (j+1):=⟨_,rfl⟩;have E:∀K:Int,j<=7->K=((256 ^ j:Nat):Int)->bits .or .u64 (M:Int) (IntKind.u64.wrap (((f j).toNat:Int)*K))=(M2:Int):=fun K h1 h2=>by rw[Z,X];exact or_at f j K h1 h2
  rw[<-Z];have EM:=I Z;clear Z;have F:=I X;clear X;have hs:j=0\/j=1\/j=2\/j=3\/j=4\/j=5\/j=6\/j=7\/j=8:=by omega
  clear hj;rcases hs with rfl | rfl | rfl | rfl | rfl | rfl | rfl | rfl | rfl
  ·have E:=E 1 (by decide) (by decide)
   have O:IntKind.u64.wrap ((f 0).toNat:Int)=((f 0).toNat:Int):=by rw[IntKind.wrap_u64];have:=(f 0).toNat_lt;omega
   rw[Int.mul_one,O] at E;have Y:∀w:World,(Instr.index 290 (.agg #[.int .u8 (f 0).toNat,.int .u8 (f 1).toNat,.int .u8 (f 2).toNat,.int .u8 (f 3).toNat,.int .u8 (f 4).toNat,.int .u8 (f 5).toNat,.int .u8 (f 6).toNat,.int .u8 (f 7).toNat]) (.int .i64 0)).run D.prog w=.ok (.int .u8 (f 0).toNat) w:=fun _=>by kernel_rfl
   go_wp2_with fail
   go_round
   case rel=>exact⟨1,by decide,by go_num,by rw[F.o]⟩
   case measure=>simp [intOf]
  ·have E:=E 256 (by decide) (by decide)
   have O:IntKind.u64.wrap ((f 1).toNat:Int)=((f 1).toNat:Int):=by rw[IntKind.wrap_u64];have:=(f 1).toNat_lt;omega
   have Y:∀w:World,(Instr.index 290 (.agg #[.int .u8 (f 0).toNat,.int .u8 (f 1).toNat,.int .u8 (f 2).toNat,.int .u8 (f 3).toNat,.int .u8 (f 4).toNat,.int .u8 (f 5).toNat,.int .u8 (f 6).toNat,.int .u8 (f 7).toNat]) (.int .i64 1)).run D.prog w=.ok (.int .u8 (f 1).toNat) w:=fun _=>by kernel_rfl
   go_wp2_with fail
   go_round
   case rel=>exact⟨2,by decide,by go_num,by rw[F.o]⟩
   case measure=>simp [intOf]
  ·have E:=E 65536 (by decide) (by decide)
   have O:IntKind.u64.wrap ((f 2).toNat:Int)=((f 2).toNat:Int):=by rw[IntKind.wrap_u64];have:=(f 2).toNat_lt;omega
   have Y:∀w:World,(Instr.index 290 (.agg #[.int .u8 (f 0).toNat,.int .u8 (f 1).toNat,.int .u8 (f 2).toNat,.int .u8 (f 3).toNat,.int .u8 (f 4).toNat,.int .u8 (f 5).toNat,.int .u8 (f 6).toNat,.int .u8 (f 7).toNat]) (.int .i64 2)).run D.prog w=.ok (.int .u8 (f 2).toNat) w:=fun _=>by kernel_rfl
   go_wp2_with fail
   go_round
   case rel=>exact⟨3,by decide,by go_num,by rw[F.o]⟩
   case measure=>simp [intOf]
  ·have E:=E 16777216 (by decide) (by decide)
   have O:IntKind.u64.wrap ((f 3).toNat:Int)=((f 3).toNat:Int):=by rw[IntKind.wrap_u64];have:=(f 3).toNat_lt;omega
   have Y:∀w:World,(Instr.index 290 (.agg #[.int .u8 (f 0).toNat,.int .u8 (f 1).toNat,.int .u8 (f 2).toNat,.int .u8 (f 3).toNat,.int .u8 (f 4).toNat,.int .u8 (f 5).toNat,.int .u8 (f 6).toNat,.int .u8 (f 7).toNat]) (.int .i64 3)).run D.prog w=.ok (.int .u8 (f 3).toNat) w:=fun _=>by kernel_rfl
   go_wp2_with fail
   go_round
   case rel=>exact⟨4,by decide,by go_num,by rw[F.o]⟩
   case measure=>simp [intOf]
  ·have E:=E 4294967296 (by decide) (by decide)
   have O:IntKind.u64.wrap ((f 4).toNat:Int)=((f 4).toNat:Int):=by rw[IntKind.wrap_u64];have:=(f 4).toNat_lt;omega
   have Y:∀w:World,(Instr.index 290 (.agg #[.int .u8 (f 0).toNat,.int .u8 (f 1).toNat,.int .u8 (f 2).toNat,.int .u8 (f 3).toNat,.int .u8 (f 4).toNat,.int .u8 (f 5).toNat,.int .u8 (f 6).toNat,.int .u8 (f 7).toNat]) (.int .i64 4)).run D.prog w=.ok (.int .u8 (f 4).toNat) w:=fun _=>by kernel_rfl
   go_wp2_with fail
   go_round
   case rel=>exact⟨5,by decide,by go_num,by rw[F.o]⟩
   case measure=>simp [intOf]
  ·have E:=E 1099511627776 (by decide) (by decide)
   have O:IntKind.u64.wrap ((f 5).toNat:Int)=((f 5).toNat:Int):=by rw[IntKind.wrap_u64];have:=(f 5).toNat_lt;omega
   have Y:∀w:World,(Instr.index 290 (.agg #[.int .u8 (f 0).toNat,.int .u8 (f 1).toNat,.int .u8 (f 2).toNat,.int .u8 (f 3).toNat,.int .u8 (f 4).toNat,.int .u8 (f 5).toNat,.int .u8 (f 6).toNat,.int .u8 (f 7).toNat]) (.int .i64 5)).run D.prog w=.ok (.int .u8 (f 5).toNat) w:=fun _=>by kernel_rfl
   go_wp2_with fail
   go_round
   case rel=>exact⟨6,by decide,by go_num,by rw[F.o]⟩
   case measure=>simp [intOf]
  ·have E:=E 281474976710656 (by decide) (by decide)
   have O:IntKind.u64.wrap ((f 6).toNat:Int)=((f 6).toNat:Int):=by rw[IntKind.wrap_u64];have:=(f 6).toNat_lt;omega
   have Y:∀w:World,(Instr.index 290 (.agg #[.int .u8 (f 0).toNat,.int .u8 (f 1).toNat,.int .u8 (f 2).toNat,.int .u8 (f 3).toNat,.int .u8 (f 4).toNat,.int .u8 (f 5).toNat,.int .u8 (f 6).toNat,.int .u8 (f 7).toNat]) (.int .i64 6)).run D.prog w=.ok (.int .u8 (f 6).toNat) w:=fun _=>by kernel_rfl
   go_wp2_with fail
   go_round
   case rel=>exact⟨7,by decide,by go_num,by rw[F.o]⟩
   case measure=>simp [intOf]
  ·have E:=E 72057594037927936 (by decide) (by decide)
   have O:IntKind.u64.wrap ((f 7).toNat:Int)=((f 7).toNat:Int):=by rw[IntKind.wrap_u64];have:=(f 7).toNat_lt;omega
   have Y:∀w:World,(Instr.index 290 (.agg #[.int .u8 (f 0).toNat,.int .u8 (f 1).toNat,.int .u8 (f 2).toNat,.int .u8 (f 3).toNat,.int .u8 (f 4).toNat,.int .u8 (f 5).toNat,.int .u8 (f 6).toNat,.int .u8 (f 7).toNat]) (.int .i64 7)).run D.prog w=.ok (.int .u8 (f 7).toNat) w:=fun _=>by kernel_rfl
   go_wp2_with fail
   go_round
   case rel=>exact⟨8,by decide,by go_num,by rw[F.o]⟩
   case measure=>simp [intOf]
  ·have E:=IU (GD f 8) (Jr (by simp))
   have hz:M=(wd (GD f 8)).toNat:=by rw[E];exact EM.o
   have HZ:=I hz;clear hz;clear E
   go_wp2_with fail
   go_ret;exact⟨by rw[wv,<-HZ.o];rfl,(Below.refl w.heap.size w).alloc Ae _⟩
def Ih (s:V) (R N:Value):Array Value:=#[wv s.a,wv s.b,wv s.c,wv s.d,R,N]
def Dt (s:V):Array Value:=#[wv s.a,wv s.b,wv s.c,wv s.d]
theorem IV (g n:Nat) (s:V) (R N:Value) (w:World) (hn:n<=4) (hB:Blk w g 274 (Ih s R N)) :
  Calls ah.prog 217 #[.pointer (some ⟨g,0,none⟩),.int .i64 (n:Int)] w fun e w'=>e=.returned (.tuple #[])/\Blk w' g 274 (Ih (rnds n s) R N)/\w.grownBy w' (some g):=by
 have HB:=I hB;clear hB;go_enter ah.func217,ah.ntmps217
 go_wp2_with fail
 go_loopw [5] (fun iv wr=>∃i:Nat,i<=n/\iv=.int .i64 (i:Int)/\Blk wr g 274 (Ih (rnds i s) R N)/\w.grownBy wr (some g)) (fun iv _=>n - (intOf iv).toNat)
 case atStart=>exact⟨0,Nat.zero_le _,rfl,HB.o,World.grownBy.refl w _⟩
 case round=>
  obtain⟨i,hi,rfl,hB,hG⟩:=hrel
  by_cases hx:i=n
  ·subst hx
   have D:=I hB;clear hB;have an:=I hG;clear hG
   go_wp2_with fail
   go_end0
   exact⟨rfl,D.o,an.o⟩
  ·have cq:i<n:=by omega
   have e1:(i:Int)<(n:Int):=by omega
   have e2:(0:Int)<=(i:Int):=by omega
   have e3:(i:Int)<4:=by omega
   have HX:=I hx;clear hx;have HI:=I hi;clear hi;obtain⟨⟨a,b,c,d⟩,es⟩:∃t,t=rnds i s:=⟨_,rfl⟩;rw[<-es] at hB;have ES:=I es;clear es;have D:=I (show Blk wr g 274 #[wv a,wv b,wv c,wv d,R,N] from hB);clear hB;have an:=I hG;clear hG
   go_upto_region 2 with fail
   obtain⟨a1,ad⟩:∃x,x=a+b:=⟨_,rfl⟩;obtain⟨q1,ax⟩:∃x,x=rot b 13:=⟨_,rfl⟩;obtain⟨b1,aC⟩:∃x,x=q1 ^^^ a1:=⟨_,rfl⟩;obtain⟨a2,aR⟩:∃x,x=rot a1 32:=⟨_,rfl⟩;obtain⟨c1,af⟩:∃x,x=c+d:=⟨_,rfl⟩;obtain⟨q4,aQ⟩:∃x,x=rot d 16:=⟨_,rfl⟩;obtain⟨d1,aA⟩:∃x,x=q4 ^^^ c1:=⟨_,rfl⟩;obtain⟨a3,ae⟩:∃x,x=a2+d1:=⟨_,rfl⟩;obtain⟨q6,aO⟩:∃x,x=rot d1 21:=⟨_,rfl⟩;obtain⟨d2,aB⟩:∃x,x=q6 ^^^ a3:=⟨_,rfl⟩;obtain⟨c2,ag⟩:∃x,x=c1+b1:=⟨_,rfl⟩;obtain⟨q8,ak⟩:∃x,x=rot b1 17:=⟨_,rfl⟩;obtain⟨b2,aw⟩:∃x,x=q8 ^^^ c2:=⟨_,rfl⟩;obtain⟨c3,ar⟩:∃x,x=rot c2 32:=⟨_,rfl⟩;have ai:rnd ⟨a,b,c,d⟩=⟨a3,b2,c3,d2⟩:=by subst ad ax aC aR af aQ aA ae aO aB ag ak aw ar;rfl
   have bx:=I ai;clear ai;have x0:IntKind.u64.wrap ((a.toNat:Int)+(b.toNat:Int))=(a1.toNat:Int):=by rw[ad];exact GZ _ _
   have y0:((a.toNat:Int)+(b.toNat:Int)) % 18446744073709551616=(a1.toNat:Int):=by rw[ad];exact Fw _ _
   have X0:=I x0;clear x0;have Y0:=I y0;clear y0;have x1:bits .xor .u64 (q1.toNat:Int) (a1.toNat:Int)=(b1.toNat:Int):=by rw[aC];exact Bu _ _
   have X1:=I x1;clear x1;have l1:=WO b;rw[<-ax] at l1;have l2:=TT a1;rw[<-aR] at l2;have x3:IntKind.u64.wrap ((c.toNat:Int)+(d.toNat:Int))=(c1.toNat:Int):=by rw[af];exact GZ _ _
   have y3:((c.toNat:Int)+(d.toNat:Int)) % 18446744073709551616=(c1.toNat:Int):=by rw[af];exact Fw _ _
   have X3:=I x3;clear x3;have Y3:=I y3;clear y3;have x4:bits .xor .u64 (q4.toNat:Int) (c1.toNat:Int)=(d1.toNat:Int):=by rw[aA];exact Bu _ _
   have X4:=I x4;clear x4;have l4:=WQ d;rw[<-aQ] at l4;have x5:IntKind.u64.wrap ((a2.toNat:Int)+(d1.toNat:Int))=(a3.toNat:Int):=by rw[ae];exact GZ _ _
   have y5:((a2.toNat:Int)+(d1.toNat:Int)) % 18446744073709551616=(a3.toNat:Int):=by rw[ae];exact Fw _ _
   have X5:=I x5;clear x5;have Y5:=I y5;clear y5;have x6:bits .xor .u64 (q6.toNat:Int) (a3.toNat:Int)=(d2.toNat:Int):=by rw[aB];exact Bu _ _
   have X6:=I x6;clear x6;have l6:=WR d1;rw[<-aO] at l6;have x7:IntKind.u64.wrap ((c1.toNat:Int)+(b1.toNat:Int))=(c2.toNat:Int):=by rw[ag];exact GZ _ _
   have y7:((c1.toNat:Int)+(b1.toNat:Int)) % 18446744073709551616=(c2.toNat:Int):=by rw[ag];exact Fw _ _
   have X7:=I x7;clear x7;have Y7:=I y7;clear y7;have x8:bits .xor .u64 (q8.toNat:Int) (c2.toNat:Int)=(b2.toNat:Int):=by rw[aw];exact Bu _ _
   have X8:=I x8;clear x8;have l8:=WS b1;rw[<-ak] at l8;have l9:=TT c2;rw[<-ar] at l9;clear ad ax aC aR af aQ aA ae aO aB ag ak aw ar;have cn:=Blk.frozen D.o;have bR:wr.cell? ⟨g,0,none⟩=some (.int .u64 (a.toNat:Int)):=by rw[Blk.cell D.o];rfl
   have bF:wr.cell? ⟨g,1,none⟩=some (.int .u64 (b.toNat:Int)):=by rw[Blk.cell D.o];rfl
   have bX:wr.cell? ⟨g,2,none⟩=some (.int .u64 (c.toNat:Int)):=by rw[Blk.cell D.o];rfl
   have bd:wr.cell? ⟨g,3,none⟩=some (.int .u64 (d.toNat:Int)):=by rw[Blk.cell D.o];rfl
   have x0:=X0.o;have y0:=Y0.o;refine wp_region_still_tail 11 (by kernel_rfl) (by kernel_rfl) ?_;simp only[List.take_succ_cons,List.take_zero,List.drop_succ_cons,List.drop_zero];change wpStill _ _ wr.drew _ _ _
   repeat still_step
   refine wpStill_nil ?_;change wpList _ _ _ _ _ wr.drew
   go_upto_region 3 with fail
   have aK:Blk (wr.setCell ⟨g,0,none⟩ (.int .u64 (a1.toNat:Int))).drew g 274 #[wv a1,wv b,wv c,wv d,R,N]:=Blk.set D.o 0 (wv a1);have aF:w.grownBy (wr.setCell ⟨g,0,none⟩ (.int .u64 (a1.toNat:Int))).drew (some g):=AX (Ay an.o (.inl rfl) _);generalize (wr.setCell ⟨g,0,none⟩ (.int .u64 (a1.toNat:Int))).drew=v1 at aK aF⊢;clear cn bR bF bX bd x0 y0 X0 Y0;have aa:=I aK;clear aK;have bD:=I aF;clear aF;have cm:=Blk.frozen aa.o;have bj:v1.cell? ⟨g,0,none⟩=some (.int .u64 (a1.toNat:Int)):=by rw[Blk.cell aa.o];rfl
   have aV:v1.cell? ⟨g,1,none⟩=some (.int .u64 (b.toNat:Int)):=by rw[Blk.cell aa.o];rfl
   have bB:v1.cell? ⟨g,2,none⟩=some (.int .u64 (c.toNat:Int)):=by rw[Blk.cell aa.o];rfl
   have bP:v1.cell? ⟨g,3,none⟩=some (.int .u64 (d.toNat:Int)):=by rw[Blk.cell aa.o];rfl
   have x1:=X1.o;refine wp_region_still_tail 13 (by kernel_rfl) (by kernel_rfl) ?_;simp only[List.take_succ_cons,List.take_zero,List.drop_succ_cons,List.drop_zero];change wpStill _ _ v1.drew _ _ _
   repeat still_step
   still_call (l1 v1.drew)
   repeat still_step
   refine wpStill_nil ?_;change wpList _ _ _ _ _ v1.drew
   go_upto_region 4 with fail
   have az:Blk (v1.setCell ⟨g,1,none⟩ (.int .u64 (b1.toNat:Int))).drew g 274 #[wv a1,wv b1,wv c,wv d,R,N]:=Blk.set aa.o 1 (wv b1);have aj:w.grownBy (v1.setCell ⟨g,1,none⟩ (.int .u64 (b1.toNat:Int))).drew (some g):=AX (Ay bD.o (.inl rfl) _);generalize (v1.setCell ⟨g,1,none⟩ (.int .u64 (b1.toNat:Int))).drew=v2 at az aj⊢;clear cm bj aV bB bP x1 X1 l1;clear aa bD;have Y:=I az;clear az;have bM:=I aj;clear aj;have ck:=Blk.frozen Y.o;have bN:v2.cell? ⟨g,0,none⟩=some (.int .u64 (a1.toNat:Int)):=by rw[Blk.cell Y.o];rfl
   have bC:v2.cell? ⟨g,1,none⟩=some (.int .u64 (b1.toNat:Int)):=by rw[Blk.cell Y.o];rfl
   have bo:v2.cell? ⟨g,2,none⟩=some (.int .u64 (c.toNat:Int)):=by rw[Blk.cell Y.o];rfl
   have aX:v2.cell? ⟨g,3,none⟩=some (.int .u64 (d.toNat:Int)):=by rw[Blk.cell Y.o];rfl
   go_upto_region 5 with(go_at_call 227;refine Ag (l2 _) ?_;rintro w' hw;have hw:=hw.symm;subst hw)
   have aH:Blk (v2.setCell ⟨g,0,none⟩ (.int .u64 (a2.toNat:Int))) g 274 #[wv a2,wv b1,wv c,wv d,R,N]:=Blk.set Y.o 0 (wv a2);have aN:w.grownBy (v2.setCell ⟨g,0,none⟩ (.int .u64 (a2.toNat:Int))) (some g):=(Ay bM.o (.inl rfl) _);generalize (v2.setCell ⟨g,0,none⟩ (.int .u64 (a2.toNat:Int)))=v3 at aH aN⊢;clear ck bN bC bo aX l2;clear Y bM;have O:=I aH;clear aH;have bT:=I aN;clear aN;have cb:=Blk.frozen O.o;have bl:v3.cell? ⟨g,0,none⟩=some (.int .u64 (a2.toNat:Int)):=by rw[Blk.cell O.o];rfl
   have bK:v3.cell? ⟨g,1,none⟩=some (.int .u64 (b1.toNat:Int)):=by rw[Blk.cell O.o];rfl
   have bm:v3.cell? ⟨g,2,none⟩=some (.int .u64 (c.toNat:Int)):=by rw[Blk.cell O.o];rfl
   have bh:v3.cell? ⟨g,3,none⟩=some (.int .u64 (d.toNat:Int)):=by rw[Blk.cell O.o];rfl
   have x3:=X3.o;have y3:=Y3.o;refine wp_region_still_tail 11 (by kernel_rfl) (by kernel_rfl) ?_;simp only[List.take_succ_cons,List.take_zero,List.drop_succ_cons,List.drop_zero];change wpStill _ _ v3.drew _ _ _
   repeat still_step
   refine wpStill_nil ?_;change wpList _ _ _ _ _ v3.drew
   go_upto_region 6 with fail
   have aE:Blk (v3.setCell ⟨g,2,none⟩ (.int .u64 (c1.toNat:Int))).drew g 274 #[wv a2,wv b1,wv c1,wv d,R,N]:=Blk.set O.o 2 (wv c1);have aD:w.grownBy (v3.setCell ⟨g,2,none⟩ (.int .u64 (c1.toNat:Int))).drew (some g):=AX (Ay bT.o (.inl rfl) _);generalize (v3.setCell ⟨g,2,none⟩ (.int .u64 (c1.toNat:Int))).drew=v4 at aE aD⊢;clear cb bl bK bm bh x3 y3 X3 Y3;clear O bT;have E:=I aE;clear aE;have bA:=I aD;clear aD;have bZ:=Blk.frozen E.o;have bI:v4.cell? ⟨g,0,none⟩=some (.int .u64 (a2.toNat:Int)):=by rw[Blk.cell E.o];rfl
   have bE:v4.cell? ⟨g,1,none⟩=some (.int .u64 (b1.toNat:Int)):=by rw[Blk.cell E.o];rfl
   have bQ:v4.cell? ⟨g,2,none⟩=some (.int .u64 (c1.toNat:Int)):=by rw[Blk.cell E.o];rfl
   have br:v4.cell? ⟨g,3,none⟩=some (.int .u64 (d.toNat:Int)):=by rw[Blk.cell E.o];rfl
   have x4:=X4.o;refine wp_region_still_tail 13 (by kernel_rfl) (by kernel_rfl) ?_;simp only[List.take_succ_cons,List.take_zero,List.drop_succ_cons,List.drop_zero];change wpStill _ _ v4.drew _ _ _
   repeat still_step
   still_call (l4 v4.drew)
   repeat still_step
   refine wpStill_nil ?_;change wpList _ _ _ _ _ v4.drew
   go_upto_region 7 with fail
   have aG:Blk (v4.setCell ⟨g,3,none⟩ (.int .u64 (d1.toNat:Int))).drew g 274 #[wv a2,wv b1,wv c1,wv d1,R,N]:=Blk.set E.o 3 (wv d1);have au:w.grownBy (v4.setCell ⟨g,3,none⟩ (.int .u64 (d1.toNat:Int))).drew (some g):=AX (Ay bA.o (.inl rfl) _);generalize (v4.setCell ⟨g,3,none⟩ (.int .u64 (d1.toNat:Int))).drew=v5 at aG au⊢;clear bZ bI bE bQ br x4 X4 l4;clear E bA;have F:=I aG;clear aG;have bU:=I au;clear au;have cf:=Blk.frozen F.o;have bz:v5.cell? ⟨g,0,none⟩=some (.int .u64 (a2.toNat:Int)):=by rw[Blk.cell F.o];rfl
   have bO:v5.cell? ⟨g,1,none⟩=some (.int .u64 (b1.toNat:Int)):=by rw[Blk.cell F.o];rfl
   have bb:v5.cell? ⟨g,2,none⟩=some (.int .u64 (c1.toNat:Int)):=by rw[Blk.cell F.o];rfl
   have bs:v5.cell? ⟨g,3,none⟩=some (.int .u64 (d1.toNat:Int)):=by rw[Blk.cell F.o];rfl
   have x5:=X5.o;have y5:=Y5.o;refine wp_region_still_tail 11 (by kernel_rfl) (by kernel_rfl) ?_;simp only[List.take_succ_cons,List.take_zero,List.drop_succ_cons,List.drop_zero];change wpStill _ _ v5.drew _ _ _
   repeat still_step
   refine wpStill_nil ?_;change wpList _ _ _ _ _ v5.drew
   go_upto_region 8 with fail
   have aP:Blk (v5.setCell ⟨g,0,none⟩ (.int .u64 (a3.toNat:Int))).drew g 274 #[wv a3,wv b1,wv c1,wv d1,R,N]:=Blk.set F.o 0 (wv a3);have al:w.grownBy (v5.setCell ⟨g,0,none⟩ (.int .u64 (a3.toNat:Int))).drew (some g):=AX (Ay bU.o (.inl rfl) _);generalize (v5.setCell ⟨g,0,none⟩ (.int .u64 (a3.toNat:Int))).drew=v6 at aP al⊢;clear cf bz bO bb bs x5 y5 X5 Y5;clear F bU;have M:=I aP;clear aP;have bg:=I al;clear al;have cj:=Blk.frozen M.o;have bq:v6.cell? ⟨g,0,none⟩=some (.int .u64 (a3.toNat:Int)):=by rw[Blk.cell M.o];rfl
   have ba:v6.cell? ⟨g,1,none⟩=some (.int .u64 (b1.toNat:Int)):=by rw[Blk.cell M.o];rfl
   have aZ:v6.cell? ⟨g,2,none⟩=some (.int .u64 (c1.toNat:Int)):=by rw[Blk.cell M.o];rfl
   have bW:v6.cell? ⟨g,3,none⟩=some (.int .u64 (d1.toNat:Int)):=by rw[Blk.cell M.o];rfl
   have x6:=X6.o;refine wp_region_still_tail 13 (by kernel_rfl) (by kernel_rfl) ?_;simp only[List.take_succ_cons,List.take_zero,List.drop_succ_cons,List.drop_zero];change wpStill _ _ v6.drew _ _ _
   repeat still_step
   still_call (l6 v6.drew)
   repeat still_step
   refine wpStill_nil ?_;change wpList _ _ _ _ _ v6.drew
   go_upto_region 9 with fail
   have aS:Blk (v6.setCell ⟨g,3,none⟩ (.int .u64 (d2.toNat:Int))).drew g 274 #[wv a3,wv b1,wv c1,wv d2,R,N]:=Blk.set M.o 3 (wv d2);have aM:w.grownBy (v6.setCell ⟨g,3,none⟩ (.int .u64 (d2.toNat:Int))).drew (some g):=AX (Ay bg.o (.inl rfl) _);generalize (v6.setCell ⟨g,3,none⟩ (.int .u64 (d2.toNat:Int))).drew=v7 at aS aM⊢;clear cj bq ba aZ bW x6 X6 l6;clear M bg;have ab:=I aS;clear aS;have bJ:=I aM;clear aM;have cd:=Blk.frozen ab.o;have bH:v7.cell? ⟨g,0,none⟩=some (.int .u64 (a3.toNat:Int)):=by rw[Blk.cell ab.o];rfl
   have bu:v7.cell? ⟨g,1,none⟩=some (.int .u64 (b1.toNat:Int)):=by rw[Blk.cell ab.o];rfl
   have bS:v7.cell? ⟨g,2,none⟩=some (.int .u64 (c1.toNat:Int)):=by rw[Blk.cell ab.o];rfl
   have bV:v7.cell? ⟨g,3,none⟩=some (.int .u64 (d2.toNat:Int)):=by rw[Blk.cell ab.o];rfl
   have x7:=X7.o;have y7:=Y7.o;refine wp_region_still_tail 11 (by kernel_rfl) (by kernel_rfl) ?_;simp only[List.take_succ_cons,List.take_zero,List.drop_succ_cons,List.drop_zero];change wpStill _ _ v7.drew _ _ _
   repeat still_step
   refine wpStill_nil ?_;change wpList _ _ _ _ _ v7.drew
   go_upto_region 10 with fail
   have ao:Blk (v7.setCell ⟨g,2,none⟩ (.int .u64 (c2.toNat:Int))).drew g 274 #[wv a3,wv b1,wv c2,wv d2,R,N]:=Blk.set ab.o 2 (wv c2);have aL:w.grownBy (v7.setCell ⟨g,2,none⟩ (.int .u64 (c2.toNat:Int))).drew (some g):=AX (Ay bJ.o (.inl rfl) _);generalize (v7.setCell ⟨g,2,none⟩ (.int .u64 (c2.toNat:Int))).drew=v8 at ao aL⊢;clear cd bH bu bS bV x7 y7 X7 Y7;clear ab bJ;have Z:=I ao;clear ao;have bw:=I aL;clear aL;have cc:=Blk.frozen Z.o;have aY:v8.cell? ⟨g,0,none⟩=some (.int .u64 (a3.toNat:Int)):=by rw[Blk.cell Z.o];rfl
   have bf:v8.cell? ⟨g,1,none⟩=some (.int .u64 (b1.toNat:Int)):=by rw[Blk.cell Z.o];rfl
   have bp:v8.cell? ⟨g,2,none⟩=some (.int .u64 (c2.toNat:Int)):=by rw[Blk.cell Z.o];rfl
   have aU:v8.cell? ⟨g,3,none⟩=some (.int .u64 (d2.toNat:Int)):=by rw[Blk.cell Z.o];rfl
   have x8:=X8.o;refine wp_region_still_tail 13 (by kernel_rfl) (by kernel_rfl) ?_;simp only[List.take_succ_cons,List.take_zero,List.drop_succ_cons,List.drop_zero];change wpStill _ _ v8.drew _ _ _
   repeat still_step
   still_call (l8 v8.drew)
   repeat still_step
   refine wpStill_nil ?_;change wpList _ _ _ _ _ v8.drew
   go_upto_region 11 with fail
   have aJ:Blk (v8.setCell ⟨g,1,none⟩ (.int .u64 (b2.toNat:Int))).drew g 274 #[wv a3,wv b2,wv c2,wv d2,R,N]:=Blk.set Z.o 1 (wv b2);have aI:w.grownBy (v8.setCell ⟨g,1,none⟩ (.int .u64 (b2.toNat:Int))).drew (some g):=AX (Ay bw.o (.inl rfl) _);generalize (v8.setCell ⟨g,1,none⟩ (.int .u64 (b2.toNat:Int))).drew=v9 at aJ aI⊢;clear cc aY bf bp aU x8 X8 l8;clear Z bw;have X:=I aJ;clear aJ;have aW:=I aI;clear aI;have cp:=Blk.frozen X.o;have bn:v9.cell? ⟨g,0,none⟩=some (.int .u64 (a3.toNat:Int)):=by rw[Blk.cell X.o];rfl
   have bG:v9.cell? ⟨g,1,none⟩=some (.int .u64 (b2.toNat:Int)):=by rw[Blk.cell X.o];rfl
   have bL:v9.cell? ⟨g,2,none⟩=some (.int .u64 (c2.toNat:Int)):=by rw[Blk.cell X.o];rfl
   have aT:v9.cell? ⟨g,3,none⟩=some (.int .u64 (d2.toNat:Int)):=by rw[Blk.cell X.o];rfl
   go_upto_region 12 with(go_at_call 227;refine Ag (l9 _) ?_;rintro w' hw;have hw:=hw.symm;subst hw)
   have ay:Blk (v9.setCell ⟨g,2,none⟩ (.int .u64 (c3.toNat:Int))) g 274 #[wv a3,wv b2,wv c3,wv d2,R,N]:=Blk.set X.o 2 (wv c3);have av:w.grownBy (v9.setCell ⟨g,2,none⟩ (.int .u64 (c3.toNat:Int))) (some g):=(Ay aW.o (.inl rfl) _);generalize (v9.setCell ⟨g,2,none⟩ (.int .u64 (c3.toNat:Int)))=v10 at ay av⊢;clear cp bn bG bL aT l9;clear X aW;have cg:=I ay;clear ay;have bY:=I av;clear av
   go_wp2_with fail
   go_roundw
   case rel=>exact⟨i+1,by omega,by go_num,by rw[rnds,<-ES.o,bx.o];exact cg.o,bY.o⟩
   case measure=>simp [intOf];omega
theorem Mt (g:Nat) (s:V) (w:World) (hB:Blk w g 226 (Dt s)) :
  Calls ah.prog 133 #[.pointer (some ⟨g,0,none⟩)] w fun e w'=>e=.returned (.tuple #[])/\Blk w' g 226 (Dt (rnd s))/\w.grownBy w' (some g):=by
 obtain⟨a,b,c,d⟩:=s;have ab:=I (show Blk w g 226 #[wv a,wv b,wv c,wv d] from hB);clear hB;have bX:=I (World.grownBy.refl w (some g));go_enter ah.func133,ah.ntmps133
 go_upto_region 0 with fail
 obtain⟨a1,ad⟩:∃x,x=a+b:=⟨_,rfl⟩;obtain⟨q1,av⟩:∃x,x=rot b 13:=⟨_,rfl⟩;obtain⟨b1,az⟩:∃x,x=q1 ^^^ a1:=⟨_,rfl⟩;obtain⟨a2,aO⟩:∃x,x=rot a1 32:=⟨_,rfl⟩;obtain⟨c1,af⟩:∃x,x=c+d:=⟨_,rfl⟩;obtain⟨q4,aN⟩:∃x,x=rot d 16:=⟨_,rfl⟩;obtain⟨d1,ax⟩:∃x,x=q4 ^^^ c1:=⟨_,rfl⟩;obtain⟨a3,ae⟩:∃x,x=a2+d1:=⟨_,rfl⟩;obtain⟨q6,aL⟩:∃x,x=rot d1 21:=⟨_,rfl⟩;obtain⟨d2,ay⟩:∃x,x=q6 ^^^ a3:=⟨_,rfl⟩;obtain⟨c2,ag⟩:∃x,x=c1+b1:=⟨_,rfl⟩;obtain⟨q8,ak⟩:∃x,x=rot b1 17:=⟨_,rfl⟩;obtain⟨b2,au⟩:∃x,x=q8 ^^^ c2:=⟨_,rfl⟩;obtain⟨c3,ao⟩:∃x,x=rot c2 32:=⟨_,rfl⟩;have ai:rnd ⟨a,b,c,d⟩=⟨a3,b2,c3,d2⟩:=by subst ad av az aO af aN ax ae aL ay ag ak au ao;rfl
 have bu:=I ai;clear ai;have x0:IntKind.u64.wrap ((a.toNat:Int)+(b.toNat:Int))=(a1.toNat:Int):=by rw[ad];exact GZ _ _
 have y0:((a.toNat:Int)+(b.toNat:Int)) % 18446744073709551616=(a1.toNat:Int):=by rw[ad];exact Fw _ _
 have X0:=I x0;clear x0;have Y0:=I y0;clear y0;have x1:bits .xor .u64 (q1.toNat:Int) (a1.toNat:Int)=(b1.toNat:Int):=by rw[az];exact Bu _ _
 have X1:=I x1;clear x1;have l1:=UY b;rw[<-av] at l1;have l2:=Pl a1;rw[<-aO] at l2;have x3:IntKind.u64.wrap ((c.toNat:Int)+(d.toNat:Int))=(c1.toNat:Int):=by rw[af];exact GZ _ _
 have y3:((c.toNat:Int)+(d.toNat:Int)) % 18446744073709551616=(c1.toNat:Int):=by rw[af];exact Fw _ _
 have X3:=I x3;clear x3;have Y3:=I y3;clear y3;have x4:bits .xor .u64 (q4.toNat:Int) (c1.toNat:Int)=(d1.toNat:Int):=by rw[ax];exact Bu _ _
 have X4:=I x4;clear x4;have l4:=UZ d;rw[<-aN] at l4;have x5:IntKind.u64.wrap ((a2.toNat:Int)+(d1.toNat:Int))=(a3.toNat:Int):=by rw[ae];exact GZ _ _
 have y5:((a2.toNat:Int)+(d1.toNat:Int)) % 18446744073709551616=(a3.toNat:Int):=by rw[ae];exact Fw _ _
 have X5:=I x5;clear x5;have Y5:=I y5;clear y5;have x6:bits .xor .u64 (q6.toNat:Int) (a3.toNat:Int)=(d2.toNat:Int):=by rw[ay];exact Bu _ _
 have X6:=I x6;clear x6;have l6:=Va d1;rw[<-aL] at l6;have x7:IntKind.u64.wrap ((c1.toNat:Int)+(b1.toNat:Int))=(c2.toNat:Int):=by rw[ag];exact GZ _ _
 have y7:((c1.toNat:Int)+(b1.toNat:Int)) % 18446744073709551616=(c2.toNat:Int):=by rw[ag];exact Fw _ _
 have X7:=I x7;clear x7;have Y7:=I y7;clear y7;have x8:bits .xor .u64 (q8.toNat:Int) (c2.toNat:Int)=(b2.toNat:Int):=by rw[au];exact Bu _ _
 have X8:=I x8;clear x8;have l8:=Vb b1;rw[<-ak] at l8;have l9:=Pl c2;rw[<-ao] at l9;clear ad av az aO af aN ax ae aL ay ag ak au ao;have cn:=Blk.frozen ab.o;have bQ:w.cell? ⟨g,0,none⟩=some (.int .u64 (a.toNat:Int)):=by rw[Blk.cell ab.o];rfl
 have bE:w.cell? ⟨g,1,none⟩=some (.int .u64 (b.toNat:Int)):=by rw[Blk.cell ab.o];rfl
 have bW:w.cell? ⟨g,2,none⟩=some (.int .u64 (c.toNat:Int)):=by rw[Blk.cell ab.o];rfl
 have aZ:w.cell? ⟨g,3,none⟩=some (.int .u64 (d.toNat:Int)):=by rw[Blk.cell ab.o];rfl
 have x0:=X0.o;have y0:=Y0.o;refine wp_region_still_tail 12 (by kernel_rfl) (by kernel_rfl) ?_;simp only[List.take_succ_cons,List.take_zero,List.drop_succ_cons,List.drop_zero];change wpStill _ _ w.drew _ _ _
 repeat still_step
 refine wpStill_nil ?_;change wpList _ _ _ _ _ w.drew
 go_upto_region 1 with fail
 have aH:Blk (w.setCell ⟨g,0,none⟩ (.int .u64 (a1.toNat:Int))).drew g 226 #[wv a1,wv b,wv c,wv d]:=Blk.set ab.o 0 (wv a1);have aC:w.grownBy (w.setCell ⟨g,0,none⟩ (.int .u64 (a1.toNat:Int))).drew (some g):=AX (Ay bX.o (.inl rfl) _);generalize (w.setCell ⟨g,0,none⟩ (.int .u64 (a1.toNat:Int))).drew=v1 at aH aC⊢;clear cn bQ bE bW aZ x0 y0 X0 Y0;have Z:=I aH;clear aH;have bC:=I aC;clear aC;have cm:=Blk.frozen Z.o;have bf:v1.cell? ⟨g,0,none⟩=some (.int .u64 (a1.toNat:Int)):=by rw[Blk.cell Z.o];rfl
 have aS:v1.cell? ⟨g,1,none⟩=some (.int .u64 (b.toNat:Int)):=by rw[Blk.cell Z.o];rfl
 have bz:v1.cell? ⟨g,2,none⟩=some (.int .u64 (c.toNat:Int)):=by rw[Blk.cell Z.o];rfl
 have bO:v1.cell? ⟨g,3,none⟩=some (.int .u64 (d.toNat:Int)):=by rw[Blk.cell Z.o];rfl
 have x1:=X1.o;refine wp_region_still_tail 13 (by kernel_rfl) (by kernel_rfl) ?_;simp only[List.take_succ_cons,List.take_zero,List.drop_succ_cons,List.drop_zero];change wpStill _ _ v1.drew _ _ _
 repeat still_step
 still_call (l1 v1.drew)
 repeat still_step
 refine wpStill_nil ?_;change wpList _ _ _ _ _ v1.drew
 go_upto_region 2 with fail
 have aw:Blk (v1.setCell ⟨g,1,none⟩ (.int .u64 (b1.toNat:Int))).drew g 226 #[wv a1,wv b1,wv c,wv d]:=Blk.set Z.o 1 (wv b1);have aj:w.grownBy (v1.setCell ⟨g,1,none⟩ (.int .u64 (b1.toNat:Int))).drew (some g):=AX (Ay bC.o (.inl rfl) _);generalize (v1.setCell ⟨g,1,none⟩ (.int .u64 (b1.toNat:Int))).drew=v2 at aw aj⊢;clear cm bf aS bz bO x1 X1 l1;clear Z bC;have X:=I aw;clear aw;have bL:=I aj;clear aj;have ck:=Blk.frozen X.o;have bM:v2.cell? ⟨g,0,none⟩=some (.int .u64 (a1.toNat:Int)):=by rw[Blk.cell X.o];rfl
 have bB:v2.cell? ⟨g,1,none⟩=some (.int .u64 (b1.toNat:Int)):=by rw[Blk.cell X.o];rfl
 have bl:v2.cell? ⟨g,2,none⟩=some (.int .u64 (c.toNat:Int)):=by rw[Blk.cell X.o];rfl
 have aU:v2.cell? ⟨g,3,none⟩=some (.int .u64 (d.toNat:Int)):=by rw[Blk.cell X.o];rfl
 refine wp_region_still_tail 8 (by kernel_rfl) (by kernel_rfl) ?_;simp only[List.take_succ_cons,List.take_zero,List.drop_succ_cons,List.drop_zero];change wpStill _ _ v2.drew _ _ _
 repeat still_step
 still_call (l2 v2.drew)
 repeat still_step
 refine wpStill_nil ?_;change wpList _ _ _ _ _ v2.drew
 go_upto_region 3 with fail
 have aE:Blk (v2.setCell ⟨g,0,none⟩ (.int .u64 (a2.toNat:Int))).drew g 226 #[wv a2,wv b1,wv c,wv d]:=Blk.set X.o 0 (wv a2);have aK:w.grownBy (v2.setCell ⟨g,0,none⟩ (.int .u64 (a2.toNat:Int))).drew (some g):=AX (Ay bL.o (.inl rfl) _);generalize (v2.setCell ⟨g,0,none⟩ (.int .u64 (a2.toNat:Int))).drew=v3 at aE aK⊢;clear ck bM bB bl aU l2;clear X bL;have M:=I aE;clear aE;have bS:=I aK;clear aK;have cb:=Blk.frozen M.o;have bg:v3.cell? ⟨g,0,none⟩=some (.int .u64 (a2.toNat:Int)):=by rw[Blk.cell M.o];rfl
 have bJ:v3.cell? ⟨g,1,none⟩=some (.int .u64 (b1.toNat:Int)):=by rw[Blk.cell M.o];rfl
 have bh:v3.cell? ⟨g,2,none⟩=some (.int .u64 (c.toNat:Int)):=by rw[Blk.cell M.o];rfl
 have bd:v3.cell? ⟨g,3,none⟩=some (.int .u64 (d.toNat:Int)):=by rw[Blk.cell M.o];rfl
 have x3:=X3.o;have y3:=Y3.o;refine wp_region_still_tail 12 (by kernel_rfl) (by kernel_rfl) ?_;simp only[List.take_succ_cons,List.take_zero,List.drop_succ_cons,List.drop_zero];change wpStill _ _ v3.drew _ _ _
 repeat still_step
 refine wpStill_nil ?_;change wpList _ _ _ _ _ v3.drew
 go_upto_region 4 with fail
 have aB:Blk (v3.setCell ⟨g,2,none⟩ (.int .u64 (c1.toNat:Int))).drew g 226 #[wv a2,wv b1,wv c1,wv d]:=Blk.set M.o 2 (wv c1);have aA:w.grownBy (v3.setCell ⟨g,2,none⟩ (.int .u64 (c1.toNat:Int))).drew (some g):=AX (Ay bS.o (.inl rfl) _);generalize (v3.setCell ⟨g,2,none⟩ (.int .u64 (c1.toNat:Int))).drew=v4 at aB aA⊢;clear cb bg bJ bh bd x3 y3 X3 Y3;clear M bS;have D:=I aB;clear aB;have bx:=I aA;clear aA;have bZ:=Blk.frozen D.o;have bH:v4.cell? ⟨g,0,none⟩=some (.int .u64 (a2.toNat:Int)):=by rw[Blk.cell D.o];rfl
 have bD:v4.cell? ⟨g,1,none⟩=some (.int .u64 (b1.toNat:Int)):=by rw[Blk.cell D.o];rfl
 have bP:v4.cell? ⟨g,2,none⟩=some (.int .u64 (c1.toNat:Int)):=by rw[Blk.cell D.o];rfl
 have bp:v4.cell? ⟨g,3,none⟩=some (.int .u64 (d.toNat:Int)):=by rw[Blk.cell D.o];rfl
 have x4:=X4.o;refine wp_region_still_tail 13 (by kernel_rfl) (by kernel_rfl) ?_;simp only[List.take_succ_cons,List.take_zero,List.drop_succ_cons,List.drop_zero];change wpStill _ _ v4.drew _ _ _
 repeat still_step
 still_call (l4 v4.drew)
 repeat still_step
 refine wpStill_nil ?_;change wpList _ _ _ _ _ v4.drew
 go_upto_region 5 with fail
 have aD:Blk (v4.setCell ⟨g,3,none⟩ (.int .u64 (d1.toNat:Int))).drew g 226 #[wv a2,wv b1,wv c1,wv d1]:=Blk.set D.o 3 (wv d1);have ar:w.grownBy (v4.setCell ⟨g,3,none⟩ (.int .u64 (d1.toNat:Int))).drew (some g):=AX (Ay bx.o (.inl rfl) _);generalize (v4.setCell ⟨g,3,none⟩ (.int .u64 (d1.toNat:Int))).drew=v5 at aD ar⊢;clear bZ bH bD bP bp x4 X4 l4;clear D bx;have E:=I aD;clear aD;have bT:=I ar;clear ar;have cf:=Blk.frozen E.o;have bw:v5.cell? ⟨g,0,none⟩=some (.int .u64 (a2.toNat:Int)):=by rw[Blk.cell E.o];rfl
 have bN:v5.cell? ⟨g,1,none⟩=some (.int .u64 (b1.toNat:Int)):=by rw[Blk.cell E.o];rfl
 have aY:v5.cell? ⟨g,2,none⟩=some (.int .u64 (c1.toNat:Int)):=by rw[Blk.cell E.o];rfl
 have bq:v5.cell? ⟨g,3,none⟩=some (.int .u64 (d1.toNat:Int)):=by rw[Blk.cell E.o];rfl
 have x5:=X5.o;have y5:=Y5.o;refine wp_region_still_tail 12 (by kernel_rfl) (by kernel_rfl) ?_;simp only[List.take_succ_cons,List.take_zero,List.drop_succ_cons,List.drop_zero];change wpStill _ _ v5.drew _ _ _
 repeat still_step
 refine wpStill_nil ?_;change wpList _ _ _ _ _ v5.drew
 go_upto_region 6 with fail
 have aM:Blk (v5.setCell ⟨g,0,none⟩ (.int .u64 (a3.toNat:Int))).drew g 226 #[wv a3,wv b1,wv c1,wv d1]:=Blk.set E.o 0 (wv a3);have al:w.grownBy (v5.setCell ⟨g,0,none⟩ (.int .u64 (a3.toNat:Int))).drew (some g):=AX (Ay bT.o (.inl rfl) _);generalize (v5.setCell ⟨g,0,none⟩ (.int .u64 (a3.toNat:Int))).drew=v6 at aM al⊢;clear cf bw bN aY bq x5 y5 X5 Y5;clear E bT;have F:=I aM;clear aM;have bb:=I al;clear al;have cj:=Blk.frozen F.o;have bo:v6.cell? ⟨g,0,none⟩=some (.int .u64 (a3.toNat:Int)):=by rw[Blk.cell F.o];rfl
 have aX:v6.cell? ⟨g,1,none⟩=some (.int .u64 (b1.toNat:Int)):=by rw[Blk.cell F.o];rfl
 have aW:v6.cell? ⟨g,2,none⟩=some (.int .u64 (c1.toNat:Int)):=by rw[Blk.cell F.o];rfl
 have bV:v6.cell? ⟨g,3,none⟩=some (.int .u64 (d1.toNat:Int)):=by rw[Blk.cell F.o];rfl
 have x6:=X6.o;refine wp_region_still_tail 13 (by kernel_rfl) (by kernel_rfl) ?_;simp only[List.take_succ_cons,List.take_zero,List.drop_succ_cons,List.drop_zero];change wpStill _ _ v6.drew _ _ _
 repeat still_step
 still_call (l6 v6.drew)
 repeat still_step
 refine wpStill_nil ?_;change wpList _ _ _ _ _ v6.drew
 go_upto_region 7 with fail
 have aP:Blk (v6.setCell ⟨g,3,none⟩ (.int .u64 (d2.toNat:Int))).drew g 226 #[wv a3,wv b1,wv c1,wv d2]:=Blk.set F.o 3 (wv d2);have aJ:w.grownBy (v6.setCell ⟨g,3,none⟩ (.int .u64 (d2.toNat:Int))).drew (some g):=AX (Ay bb.o (.inl rfl) _);generalize (v6.setCell ⟨g,3,none⟩ (.int .u64 (d2.toNat:Int))).drew=v7 at aP aJ⊢;clear cj bo aX aW bV x6 X6 l6;clear F bb;have aa:=I aP;clear aP;have bI:=I aJ;clear aJ;have cd:=Blk.frozen aa.o;have bG:v7.cell? ⟨g,0,none⟩=some (.int .u64 (a3.toNat:Int)):=by rw[Blk.cell aa.o];rfl
 have br:v7.cell? ⟨g,1,none⟩=some (.int .u64 (b1.toNat:Int)):=by rw[Blk.cell aa.o];rfl
 have bR:v7.cell? ⟨g,2,none⟩=some (.int .u64 (c1.toNat:Int)):=by rw[Blk.cell aa.o];rfl
 have bU:v7.cell? ⟨g,3,none⟩=some (.int .u64 (d2.toNat:Int)):=by rw[Blk.cell aa.o];rfl
 have x7:=X7.o;have y7:=Y7.o;refine wp_region_still_tail 12 (by kernel_rfl) (by kernel_rfl) ?_;simp only[List.take_succ_cons,List.take_zero,List.drop_succ_cons,List.drop_zero];change wpStill _ _ v7.drew _ _ _
 repeat still_step
 refine wpStill_nil ?_;change wpList _ _ _ _ _ v7.drew
 go_upto_region 8 with fail
 have an:Blk (v7.setCell ⟨g,2,none⟩ (.int .u64 (c2.toNat:Int))).drew g 226 #[wv a3,wv b1,wv c2,wv d2]:=Blk.set aa.o 2 (wv c2);have aI:w.grownBy (v7.setCell ⟨g,2,none⟩ (.int .u64 (c2.toNat:Int))).drew (some g):=AX (Ay bI.o (.inl rfl) _);generalize (v7.setCell ⟨g,2,none⟩ (.int .u64 (c2.toNat:Int))).drew=v8 at an aI⊢;clear cd bG br bR bU x7 y7 X7 Y7;clear aa bI;have Y:=I an;clear an;have bs:=I aI;clear aI;have cc:=Blk.frozen Y.o;have aV:v8.cell? ⟨g,0,none⟩=some (.int .u64 (a3.toNat:Int)):=by rw[Blk.cell Y.o];rfl
 have ba:v8.cell? ⟨g,1,none⟩=some (.int .u64 (b1.toNat:Int)):=by rw[Blk.cell Y.o];rfl
 have bn:v8.cell? ⟨g,2,none⟩=some (.int .u64 (c2.toNat:Int)):=by rw[Blk.cell Y.o];rfl
 have aR:v8.cell? ⟨g,3,none⟩=some (.int .u64 (d2.toNat:Int)):=by rw[Blk.cell Y.o];rfl
 have x8:=X8.o;refine wp_region_still_tail 13 (by kernel_rfl) (by kernel_rfl) ?_;simp only[List.take_succ_cons,List.take_zero,List.drop_succ_cons,List.drop_zero];change wpStill _ _ v8.drew _ _ _
 repeat still_step
 still_call (l8 v8.drew)
 repeat still_step
 refine wpStill_nil ?_;change wpList _ _ _ _ _ v8.drew
 go_upto_region 9 with fail
 have aG:Blk (v8.setCell ⟨g,1,none⟩ (.int .u64 (b2.toNat:Int))).drew g 226 #[wv a3,wv b2,wv c2,wv d2]:=Blk.set Y.o 1 (wv b2);have aF:w.grownBy (v8.setCell ⟨g,1,none⟩ (.int .u64 (b2.toNat:Int))).drew (some g):=AX (Ay bs.o (.inl rfl) _);generalize (v8.setCell ⟨g,1,none⟩ (.int .u64 (b2.toNat:Int))).drew=v9 at aG aF⊢;clear cc aV ba bn aR x8 X8 l8;clear Y bs;have O:=I aG;clear aG;have aT:=I aF;clear aF;have cp:=Blk.frozen O.o;have bj:v9.cell? ⟨g,0,none⟩=some (.int .u64 (a3.toNat:Int)):=by rw[Blk.cell O.o];rfl
 have bF:v9.cell? ⟨g,1,none⟩=some (.int .u64 (b2.toNat:Int)):=by rw[Blk.cell O.o];rfl
 have bK:v9.cell? ⟨g,2,none⟩=some (.int .u64 (c2.toNat:Int)):=by rw[Blk.cell O.o];rfl
 have aQ:v9.cell? ⟨g,3,none⟩=some (.int .u64 (d2.toNat:Int)):=by rw[Blk.cell O.o];rfl
 refine wp_region_still_tail 8 (by kernel_rfl) (by kernel_rfl) ?_;simp only[List.take_succ_cons,List.take_zero,List.drop_succ_cons,List.drop_zero];change wpStill _ _ v9.drew _ _ _
 repeat still_step
 still_call (l9 v9.drew)
 repeat still_step
 refine wpStill_nil ?_;change wpList _ _ _ _ _ v9.drew
 go_wp2_with fail
 have bA:Blk (v9.setCell ⟨g,2,none⟩ (.int .u64 (c3.toNat:Int))).drew g 226 #[wv a3,wv b2,wv c3,wv d2]:=Blk.set O.o 2 (wv c3);have bm:w.grownBy (v9.setCell ⟨g,2,none⟩ (.int .u64 (c3.toNat:Int))).drew (some g):=AX (Ay aT.o (.inl rfl) _);clear cp bj bF bK aQ l9;clear O aT;have cg:=I bA;clear bA;have bY:=I bm;clear bm
 go_end0
 exact⟨rfl,by rw[bu.o];exact cg.o,bY.o⟩
theorem Ii (g:Nat) (s:V) (R N:Value) (m:Wd) (w:World) (hB:Blk w g 274 (Ih s R N)) :
  Calls E.prog 216 #[.pointer (some ⟨g,0,none⟩),wv m] w fun e w'=>e=.returned (.tuple #[])/\Blk w' g 274 (Ih (addM s m) R N)/\w.grownBy w' (some g):=by
 obtain⟨a,b,c,d⟩:=s;obtain⟨F,ed⟩:∃x,x=d ^^^ m:=⟨_,rfl⟩;obtain⟨⟨a2,b2,c2,d2⟩,e2⟩:∃t,t=rnds 2 ⟨a,b,c,F⟩:=⟨_,rfl⟩;obtain⟨a3,ea⟩:∃x,x=a2 ^^^ m:=⟨_,rfl⟩;have M:addM ⟨a,b,c,d⟩ m=⟨a3,b2,c2,d2⟩:=by simp only[addM,<-ed,<-e2,<-ea]
 have x1:bits .xor .u64 (d.toNat:Int) (m.toNat:Int)=(F.toNat:Int):=by rw[ed];exact Bu _ _
 have x2:bits .xor .u64 (a2.toNat:Int) (m.toNat:Int)=(a3.toNat:Int):=by rw[ea];exact Bu _ _
 have Y:=I M;clear M;have E2:=I e2;clear e2;clear ed ea;have fz:=hB.frozen;have k3:w.cell? ⟨g,3,none⟩=some (.int .u64 (d.toNat:Int)):=by rw[hB.cell];rfl
 have HB:=I (show Blk w g 274 #[wv a,wv b,wv c,wv d,R,N] from hB);clear hB;have HG:=I (World.grownBy.refl w (some g));go_enter E.func216,E.ntmps216
 go_upto_region 1 with fail
 have X:Blk (w.setCell ⟨g,3,none⟩ (.int .u64 (F.toNat:Int))) g 274 #[wv a,wv b,wv c,wv F,R,N]:=Blk.set HB.o 3 (wv F);have O:w.grownBy (w.setCell ⟨g,3,none⟩ (.int .u64 (F.toNat:Int))) (some g):=Ay HG.o (.inl rfl) _;generalize w.setCell ⟨g,3,none⟩ (.int .u64 (F.toNat:Int))=v1 at X O⊢;have c1:=IV g 2 ⟨a,b,c,F⟩ R N v1 (by decide) X;rw[<-E2.o] at c1;have ad:=I O;clear X O fz k3 HB HG x1
 go_upto_region 2 with(go_at_call 217;refine Ag c1 ?_;rintro v2 ⟨D,Z⟩;clear c1;have k0:v2.cell? ⟨g,0,none⟩=some (.int .u64 (a2.toNat:Int)):=by{rw[D.cell];rfl};have ae:=D.frozen;have ab:=I D;have aa:=I Z;clear D Z)
 go_wp2_with fail
 go_end0
 exact⟨rfl,by rw[Y.o];exact Blk.set ab.o 0 (wv a3),Ay (World.grownBy.trans ad.o aa.o) (.inl rfl) _⟩
theorem Vd (g:Nat) (s:V) (m:Wd) (w:World) (hB:Blk w g 226 (Dt s)) :
  Calls F.prog 132 #[.pointer (some ⟨g,0,none⟩),wv m] w fun e w'=>e=.returned (.tuple #[])/\Blk w' g 226 (Dt (addM s m))/\w.grownBy w' (some g):=by
 obtain⟨a,b,c,d⟩:=s;obtain⟨E,ed⟩:∃x,x=d ^^^ m:=⟨_,rfl⟩;obtain⟨t1,e1⟩:∃t,t=rnd ⟨a,b,c,E⟩:=⟨_,rfl⟩;obtain⟨⟨a2,b2,c2,d2⟩,e2⟩:∃t,t=rnd t1:=⟨_,rfl⟩;obtain⟨a3,ea⟩:∃x,x=a2 ^^^ m:=⟨_,rfl⟩;have hr:rnds 2 ⟨a,b,c,E⟩=⟨a2,b2,c2,d2⟩:=by rw[e2,e1];rfl
 have M:addM ⟨a,b,c,d⟩ m=⟨a3,b2,c2,d2⟩:=by simp only[addM,<-ed,hr,<-ea]
 have x1:bits .xor .u64 (d.toNat:Int) (m.toNat:Int)=(E.toNat:Int):=by rw[ed];exact Bu _ _
 have x2:bits .xor .u64 (a2.toNat:Int) (m.toNat:Int)=(a3.toNat:Int):=by rw[ea];exact Bu _ _
 have Z:=I M;clear M hr;have E1:=I e1;clear e1;have E2:=I e2;clear e2;clear ed ea;have fz:=hB.frozen;have k3:w.cell? ⟨g,3,none⟩=some (.int .u64 (d.toNat:Int)):=by rw[hB.cell];rfl
 have HB:=I (show Blk w g 226 #[wv a,wv b,wv c,wv d] from hB);clear hB;have HG:=I (World.grownBy.refl w (some g));go_enter F.func132,F.ntmps132
 go_upto_region 0 with fail
 refine wp_region_still_tail 9 (by kernel_rfl) (by kernel_rfl) ?_;simp only[List.take_succ_cons,List.take_zero,List.drop_succ_cons,List.drop_zero];change wpStill _ _ w.drew _ _ _
 repeat still_step
 refine wpStill_nil ?_;change wpList _ _ _ _ _ w.drew
 go_upto_region 1 with fail
 have X:Blk (w.setCell ⟨g,3,none⟩ (.int .u64 (E.toNat:Int))).drew g 226 #[wv a,wv b,wv c,wv E]:=Blk.set HB.o 3 (wv E);have O:w.grownBy (w.setCell ⟨g,3,none⟩ (.int .u64 (E.toNat:Int))).drew (some g):=AX (Ay HG.o (.inl rfl) _);generalize (w.setCell ⟨g,3,none⟩ (.int .u64 (E.toNat:Int))).drew=v1 at X O⊢;have c1:=Mt g ⟨a,b,c,E⟩ v1 X;rw[<-E1.o] at c1;have ag:=I O;clear X O fz k3 HB HG x1
 go_upto_region 2 with(go_at_call 133;refine Ag c1 ?_;rintro v2 ⟨Y,aa⟩;clear c1;have c2:=Mt g t1 v2 Y;rw[<-E2.o] at c2;have af:=I aa;clear Y aa)
 go_upto_region 3 with(go_at_call 133;refine Ag c2 ?_;rintro v3 ⟨D,ab⟩;clear c2;have k0:v3.cell? ⟨g,0,none⟩=some (.int .u64 (a2.toNat:Int)):=by{rw[D.cell];rfl};have ah:=D.frozen;have ad:=I D;have ae:=I ab;clear D ab)
 refine wp_region_still_tail 9 (by kernel_rfl) (by kernel_rfl) ?_;simp only[List.take_succ_cons,List.take_zero,List.drop_succ_cons,List.drop_zero];change wpStill _ _ v3.drew _ _ _
 repeat still_step
 refine wpStill_nil ?_;change wpList _ _ _ _ _ v3.drew
 go_wp2_with fail
 go_end0
 exact⟨rfl,by rw[Z.o];exact Blk.set ad.o 0 (wv a3),AX (Ay (World.grownBy.trans (World.grownBy.trans ag.o af.o) ae.o) (.inl rfl) _)⟩
def stc (s:St):Array Value:=Ih s.v (.int .u64 (s.r:Int)) (.int .u64 (s.n:Int))
theorem Li (g:Nat) (s:St) (y:UInt8) (w:World) (hn:s.n<100000) (hr:s.r<256 ^ (s.n % 8)) (hB:Blk w g 274 (stc s)) :
  Calls O.prog 202 #[.pointer (some ⟨g,0,none⟩),.int .u8 (y.toNat:Int)] w fun e w'=>e=.returned (.tuple #[])/\Blk w' g 274 (stc (addB s y))/\w.grownBy w' (some g):=by
 obtain⟨⟨a,b,c,d⟩,r,n⟩:=s;have hn:n<100000:=hn;have hr:r<256 ^ (n % 8):=hr;obtain⟨r2,e2⟩:∃x,x=r+y.toNat*256 ^ (n % 8):=⟨_,rfl⟩;have hx:∀K:Int,K=((256 ^ (n % 8):Nat):Int)->bits .or .u64 (r:Int) (IntKind.u64.wrap ((y.toNat:Int)*K))=(r2:Int):=fun K hK=>by
  rw[e2];refine Js r y (n % 8) (by omega) hr _ ?_;have h1:=RU (n % 8) (by omega);have h2:=y.toNat_lt;have h3:y.toNat*256 ^ (n % 8)<=255*72057594037927936:=Nat.mul_le_mul (by omega) h1;rw[hK,IntKind.wrap_u64,<-Int.natCast_mul];omega
 have ag:r2<18446744073709551616:=by
  have h1:=Mq r y (n % 8) hr;have h2:(256:Nat) ^ (n % 8+1)<=256 ^ 8:=Nat.pow_le_pow_right (by decide) (by omega);have h3:(256:Nat) ^ 8=18446744073709551616:=by decide
  omega
 have aj:¬(n+1) % 8=0->stc (addB ⟨⟨a,b,c,d⟩,r,n⟩ y)=#[wv a,wv b,wv c,wv d,.int .u64 (r2:Int),.int .u64 ((n:Int)+1)]:=fun h=>by
  rw[Pk _ _ h,e2]
  rfl
 have af:(n+1) % 8=0->stc (addB ⟨⟨a,b,c,d⟩,r,n⟩ y)=Ih (addM ⟨a,b,c,d⟩ (wd r2)) (.int .u64 0) (.int .u64 ((n:Int)+1)):=fun h=>by
  rw[Mp _ _ h,e2]
  rfl
 have ad:=I aj;clear aj;have ai:=I af;clear af;have an:=I ag;clear ag;have hy:IntKind.u64.wrap (y.toNat:Int)=(y.toNat:Int):=by rw[IntKind.wrap_u64];have:=y.toNat_lt;omega
 have Z:=hB.frozen;have k4:w.cell? ⟨g,4,none⟩=some (.int .u64 (r:Int)):=by rw[hB.cell];rfl
 have k5:w.cell? ⟨g,5,none⟩=some (.int .u64 (n:Int)):=by rw[hB.cell];rfl
 have HB:=I (show Blk w g 274 #[wv a,wv b,wv c,wv d,.int .u64 (r:Int),.int .u64 (n:Int)] from hB);clear hB;have HG:=I (World.grownBy.refl w (some g));have HN:=I hn;clear e2 hr;have hk:n % 8=0\/n % 8=1\/n % 8=2\/n % 8=3\/n % 8=4\/n % 8=5\/n % 8=6\/n % 8=7:=by omega
 have n0:(0:Int)<=(n:Int):=by omega
 have n1:(n:Int)<100000:=by omega
 clear hn;rcases hk with hk | hk | hk | hk | hk | hk | hk | hk
 ·have hx:=hx 1 (by rw[hk];decide)
  rw[Int.mul_one,hy] at hx;have m1:(n:Int).tmod 8=0:=by rw[Int.tmod_eq_emod_of_nonneg n0];omega
  have m2:((n:Int)+1).tmod 8=1:=by rw[Int.tmod_eq_emod_of_nonneg (by omega)];omega
  have m3:n % 8=0:=hk;have hw:IntKind.u64.wrap 0=0:=by kernel_rfl
  have m4:(n:Int) % 8=0:=by omega
  have m5:(n+1) % 8=1:=by omega
  have M5:=I m5;clear m5;clear hk;go_enter O.func202,O.ntmps202
  go_upto_region 0 with fail
  refine wp_region_still_tail 16 (by kernel_rfl) (by kernel_rfl) ?_;simp only[List.take_succ_cons,List.take_zero,List.drop_succ_cons,List.drop_zero];change wpStill _ _ w.drew _ _ _
  repeat still_step
  refine wpStill_nil ?_;change wpList _ _ _ _ _ w.drew
  go_upto_region 1 with fail
  have E:Blk (w.setCell ⟨g,4,none⟩ (.int .u64 (r2:Int))).drew g 274 #[wv a,wv b,wv c,wv d,.int .u64 (r2:Int),.int .u64 (n:Int)]:=Blk.set HB.o 4 (.int .u64 (r2:Int));have F:w.grownBy (w.setCell ⟨g,4,none⟩ (.int .u64 (r2:Int))).drew (some g):=AX (Ay HG.o (.inl rfl) _);generalize (w.setCell ⟨g,4,none⟩ (.int .u64 (r2:Int))).drew=v1 at E F⊢;clear Z k4 k5 HB HG hx m1 m3 m4 hw hy;have Z:=E.frozen;have k5:v1.cell? ⟨g,5,none⟩=some (.int .u64 (n:Int)):=by rw[E.cell];rfl
  have X:=I E;clear E;have Y:=I F;clear F
  go_upto_region 2 with fail
  have D:Blk (v1.setCell ⟨g,5,none⟩ (.int .u64 ((n:Int)+1))) g 274 #[wv a,wv b,wv c,wv d,.int .u64 (r2:Int),.int .u64 ((n:Int)+1)]:=Blk.set X.o 5 (.int .u64 ((n:Int)+1));have M:w.grownBy (v1.setCell ⟨g,5,none⟩ (.int .u64 ((n:Int)+1))) (some g):=Ay Y.o (.inl rfl) _;generalize (v1.setCell ⟨g,5,none⟩ (.int .u64 ((n:Int)+1)))=v2 at D M⊢;clear Z k5 X Y;have Z:=D.frozen;have k4:v2.cell? ⟨g,4,none⟩=some (.int .u64 (r2:Int)):=by rw[D.cell];rfl
  have k5:v2.cell? ⟨g,5,none⟩=some (.int .u64 ((n:Int)+1)):=by rw[D.cell];rfl
  have ab:=I D;clear D;have aa:=I M;clear M
  go_wp2_with fail
  go_end0
  exact⟨rfl,by rw[ad.o (by have:=M5.o;omega)];exact ab.o,aa.o⟩
 ·have hx:=hx 256 (by rw[hk];decide)
  have m1:(n:Int).tmod 8=1:=by rw[Int.tmod_eq_emod_of_nonneg n0];omega
  have m2:((n:Int)+1).tmod 8=2:=by rw[Int.tmod_eq_emod_of_nonneg (by omega)];omega
  have m3:n % 8=1:=hk;have hw:IntKind.u64.wrap 8=8:=by kernel_rfl
  have m4:(n:Int) % 8=1:=by omega
  have m5:(n+1) % 8=2:=by omega
  have M5:=I m5;clear m5;clear hk;go_enter O.func202,O.ntmps202
  go_upto_region 0 with fail
  refine wp_region_still_tail 16 (by kernel_rfl) (by kernel_rfl) ?_;simp only[List.take_succ_cons,List.take_zero,List.drop_succ_cons,List.drop_zero];change wpStill _ _ w.drew _ _ _
  repeat still_step
  refine wpStill_nil ?_;change wpList _ _ _ _ _ w.drew
  go_upto_region 1 with fail
  have E:Blk (w.setCell ⟨g,4,none⟩ (.int .u64 (r2:Int))).drew g 274 #[wv a,wv b,wv c,wv d,.int .u64 (r2:Int),.int .u64 (n:Int)]:=Blk.set HB.o 4 (.int .u64 (r2:Int));have F:w.grownBy (w.setCell ⟨g,4,none⟩ (.int .u64 (r2:Int))).drew (some g):=AX (Ay HG.o (.inl rfl) _);generalize (w.setCell ⟨g,4,none⟩ (.int .u64 (r2:Int))).drew=v1 at E F⊢;clear Z k4 k5 HB HG hx m1 m3 m4 hw hy;have Z:=E.frozen;have k5:v1.cell? ⟨g,5,none⟩=some (.int .u64 (n:Int)):=by rw[E.cell];rfl
  have X:=I E;clear E;have Y:=I F;clear F
  go_upto_region 2 with fail
  have D:Blk (v1.setCell ⟨g,5,none⟩ (.int .u64 ((n:Int)+1))) g 274 #[wv a,wv b,wv c,wv d,.int .u64 (r2:Int),.int .u64 ((n:Int)+1)]:=Blk.set X.o 5 (.int .u64 ((n:Int)+1));have M:w.grownBy (v1.setCell ⟨g,5,none⟩ (.int .u64 ((n:Int)+1))) (some g):=Ay Y.o (.inl rfl) _;generalize (v1.setCell ⟨g,5,none⟩ (.int .u64 ((n:Int)+1)))=v2 at D M⊢;clear Z k5 X Y;have Z:=D.frozen;have k4:v2.cell? ⟨g,4,none⟩=some (.int .u64 (r2:Int)):=by rw[D.cell];rfl
  have k5:v2.cell? ⟨g,5,none⟩=some (.int .u64 ((n:Int)+1)):=by rw[D.cell];rfl
  have ab:=I D;clear D;have aa:=I M;clear M
  go_wp2_with fail
  go_end0
  exact⟨rfl,by rw[ad.o (by have:=M5.o;omega)];exact ab.o,aa.o⟩
 ·have hx:=hx 65536 (by rw[hk];decide)
  have m1:(n:Int).tmod 8=2:=by rw[Int.tmod_eq_emod_of_nonneg n0];omega
  have m2:((n:Int)+1).tmod 8=3:=by rw[Int.tmod_eq_emod_of_nonneg (by omega)];omega
  have m3:n % 8=2:=hk;have hw:IntKind.u64.wrap 16=16:=by kernel_rfl
  have m4:(n:Int) % 8=2:=by omega
  have m5:(n+1) % 8=3:=by omega
  have M5:=I m5;clear m5;clear hk;go_enter O.func202,O.ntmps202
  go_upto_region 0 with fail
  refine wp_region_still_tail 16 (by kernel_rfl) (by kernel_rfl) ?_;simp only[List.take_succ_cons,List.take_zero,List.drop_succ_cons,List.drop_zero];change wpStill _ _ w.drew _ _ _
  repeat still_step
  refine wpStill_nil ?_;change wpList _ _ _ _ _ w.drew
  go_upto_region 1 with fail
  have E:Blk (w.setCell ⟨g,4,none⟩ (.int .u64 (r2:Int))).drew g 274 #[wv a,wv b,wv c,wv d,.int .u64 (r2:Int),.int .u64 (n:Int)]:=Blk.set HB.o 4 (.int .u64 (r2:Int));have F:w.grownBy (w.setCell ⟨g,4,none⟩ (.int .u64 (r2:Int))).drew (some g):=AX (Ay HG.o (.inl rfl) _);generalize (w.setCell ⟨g,4,none⟩ (.int .u64 (r2:Int))).drew=v1 at E F⊢;clear Z k4 k5 HB HG hx m1 m3 m4 hw hy;have Z:=E.frozen;have k5:v1.cell? ⟨g,5,none⟩=some (.int .u64 (n:Int)):=by rw[E.cell];rfl
  have X:=I E;clear E;have Y:=I F;clear F
  go_upto_region 2 with fail
  have D:Blk (v1.setCell ⟨g,5,none⟩ (.int .u64 ((n:Int)+1))) g 274 #[wv a,wv b,wv c,wv d,.int .u64 (r2:Int),.int .u64 ((n:Int)+1)]:=Blk.set X.o 5 (.int .u64 ((n:Int)+1));have M:w.grownBy (v1.setCell ⟨g,5,none⟩ (.int .u64 ((n:Int)+1))) (some g):=Ay Y.o (.inl rfl) _;generalize (v1.setCell ⟨g,5,none⟩ (.int .u64 ((n:Int)+1)))=v2 at D M⊢;clear Z k5 X Y;have Z:=D.frozen;have k4:v2.cell? ⟨g,4,none⟩=some (.int .u64 (r2:Int)):=by rw[D.cell];rfl
  have k5:v2.cell? ⟨g,5,none⟩=some (.int .u64 ((n:Int)+1)):=by rw[D.cell];rfl
  have ab:=I D;clear D;have aa:=I M;clear M
  go_wp2_with fail
  go_end0
  exact⟨rfl,by rw[ad.o (by have:=M5.o;omega)];exact ab.o,aa.o⟩
 ·have hx:=hx 16777216 (by rw[hk];decide)
  have m1:(n:Int).tmod 8=3:=by rw[Int.tmod_eq_emod_of_nonneg n0];omega
  have m2:((n:Int)+1).tmod 8=4:=by rw[Int.tmod_eq_emod_of_nonneg (by omega)];omega
  have m3:n % 8=3:=hk;have hw:IntKind.u64.wrap 24=24:=by kernel_rfl
  have m4:(n:Int) % 8=3:=by omega
  have m5:(n+1) % 8=4:=by omega
  have M5:=I m5;clear m5;clear hk;go_enter O.func202,O.ntmps202
  go_upto_region 0 with fail
  refine wp_region_still_tail 16 (by kernel_rfl) (by kernel_rfl) ?_;simp only[List.take_succ_cons,List.take_zero,List.drop_succ_cons,List.drop_zero];change wpStill _ _ w.drew _ _ _
  repeat still_step
  refine wpStill_nil ?_;change wpList _ _ _ _ _ w.drew
  go_upto_region 1 with fail
  have E:Blk (w.setCell ⟨g,4,none⟩ (.int .u64 (r2:Int))).drew g 274 #[wv a,wv b,wv c,wv d,.int .u64 (r2:Int),.int .u64 (n:Int)]:=Blk.set HB.o 4 (.int .u64 (r2:Int));have F:w.grownBy (w.setCell ⟨g,4,none⟩ (.int .u64 (r2:Int))).drew (some g):=AX (Ay HG.o (.inl rfl) _);generalize (w.setCell ⟨g,4,none⟩ (.int .u64 (r2:Int))).drew=v1 at E F⊢;clear Z k4 k5 HB HG hx m1 m3 m4 hw hy;have Z:=E.frozen;have k5:v1.cell? ⟨g,5,none⟩=some (.int .u64 (n:Int)):=by rw[E.cell];rfl
  have X:=I E;clear E;have Y:=I F;clear F
  go_upto_region 2 with fail
  have D:Blk (v1.setCell ⟨g,5,none⟩ (.int .u64 ((n:Int)+1))) g 274 #[wv a,wv b,wv c,wv d,.int .u64 (r2:Int),.int .u64 ((n:Int)+1)]:=Blk.set X.o 5 (.int .u64 ((n:Int)+1));have M:w.grownBy (v1.setCell ⟨g,5,none⟩ (.int .u64 ((n:Int)+1))) (some g):=Ay Y.o (.inl rfl) _;generalize (v1.setCell ⟨g,5,none⟩ (.int .u64 ((n:Int)+1)))=v2 at D M⊢;clear Z k5 X Y;have Z:=D.frozen;have k4:v2.cell? ⟨g,4,none⟩=some (.int .u64 (r2:Int)):=by rw[D.cell];rfl
  have k5:v2.cell? ⟨g,5,none⟩=some (.int .u64 ((n:Int)+1)):=by rw[D.cell];rfl
  have ab:=I D;clear D;have aa:=I M;clear M
  go_wp2_with fail
  go_end0
  exact⟨rfl,by rw[ad.o (by have:=M5.o;omega)];exact ab.o,aa.o⟩
 ·have hx:=hx 4294967296 (by rw[hk];decide)
  have m1:(n:Int).tmod 8=4:=by rw[Int.tmod_eq_emod_of_nonneg n0];omega
  have m2:((n:Int)+1).tmod 8=5:=by rw[Int.tmod_eq_emod_of_nonneg (by omega)];omega
  have m3:n % 8=4:=hk;have hw:IntKind.u64.wrap 32=32:=by kernel_rfl
  have m4:(n:Int) % 8=4:=by omega
  have m5:(n+1) % 8=5:=by omega
  have M5:=I m5;clear m5;clear hk;go_enter O.func202,O.ntmps202
  go_upto_region 0 with fail
  refine wp_region_still_tail 16 (by kernel_rfl) (by kernel_rfl) ?_;simp only[List.take_succ_cons,List.take_zero,List.drop_succ_cons,List.drop_zero];change wpStill _ _ w.drew _ _ _
  repeat still_step
  refine wpStill_nil ?_;change wpList _ _ _ _ _ w.drew
  go_upto_region 1 with fail
  have E:Blk (w.setCell ⟨g,4,none⟩ (.int .u64 (r2:Int))).drew g 274 #[wv a,wv b,wv c,wv d,.int .u64 (r2:Int),.int .u64 (n:Int)]:=Blk.set HB.o 4 (.int .u64 (r2:Int));have F:w.grownBy (w.setCell ⟨g,4,none⟩ (.int .u64 (r2:Int))).drew (some g):=AX (Ay HG.o (.inl rfl) _);generalize (w.setCell ⟨g,4,none⟩ (.int .u64 (r2:Int))).drew=v1 at E F⊢;clear Z k4 k5 HB HG hx m1 m3 m4 hw hy;have Z:=E.frozen;have k5:v1.cell? ⟨g,5,none⟩=some (.int .u64 (n:Int)):=by rw[E.cell];rfl
  have X:=I E;clear E;have Y:=I F;clear F
  go_upto_region 2 with fail
  have D:Blk (v1.setCell ⟨g,5,none⟩ (.int .u64 ((n:Int)+1))) g 274 #[wv a,wv b,wv c,wv d,.int .u64 (r2:Int),.int .u64 ((n:Int)+1)]:=Blk.set X.o 5 (.int .u64 ((n:Int)+1));have M:w.grownBy (v1.setCell ⟨g,5,none⟩ (.int .u64 ((n:Int)+1))) (some g):=Ay Y.o (.inl rfl) _;generalize (v1.setCell ⟨g,5,none⟩ (.int .u64 ((n:Int)+1)))=v2 at D M⊢;clear Z k5 X Y;have Z:=D.frozen;have k4:v2.cell? ⟨g,4,none⟩=some (.int .u64 (r2:Int)):=by rw[D.cell];rfl
  have k5:v2.cell? ⟨g,5,none⟩=some (.int .u64 ((n:Int)+1)):=by rw[D.cell];rfl
  have ab:=I D;clear D;have aa:=I M;clear M
  go_wp2_with fail
  go_end0
  exact⟨rfl,by rw[ad.o (by have:=M5.o;omega)];exact ab.o,aa.o⟩
 ·have hx:=hx 1099511627776 (by rw[hk];decide)
  have m1:(n:Int).tmod 8=5:=by rw[Int.tmod_eq_emod_of_nonneg n0];omega
  have m2:((n:Int)+1).tmod 8=6:=by rw[Int.tmod_eq_emod_of_nonneg (by omega)];omega
  have m3:n % 8=5:=hk;have hw:IntKind.u64.wrap 40=40:=by kernel_rfl
  have m4:(n:Int) % 8=5:=by omega
  have m5:(n+1) % 8=6:=by omega
  have M5:=I m5;clear m5;clear hk;go_enter O.func202,O.ntmps202
  go_upto_region 0 with fail
  refine wp_region_still_tail 16 (by kernel_rfl) (by kernel_rfl) ?_;simp only[List.take_succ_cons,List.take_zero,List.drop_succ_cons,List.drop_zero];change wpStill _ _ w.drew _ _ _
  repeat still_step
  refine wpStill_nil ?_;change wpList _ _ _ _ _ w.drew
  go_upto_region 1 with fail
  have E:Blk (w.setCell ⟨g,4,none⟩ (.int .u64 (r2:Int))).drew g 274 #[wv a,wv b,wv c,wv d,.int .u64 (r2:Int),.int .u64 (n:Int)]:=Blk.set HB.o 4 (.int .u64 (r2:Int));have F:w.grownBy (w.setCell ⟨g,4,none⟩ (.int .u64 (r2:Int))).drew (some g):=AX (Ay HG.o (.inl rfl) _);generalize (w.setCell ⟨g,4,none⟩ (.int .u64 (r2:Int))).drew=v1 at E F⊢;clear Z k4 k5 HB HG hx m1 m3 m4 hw hy;have Z:=E.frozen;have k5:v1.cell? ⟨g,5,none⟩=some (.int .u64 (n:Int)):=by rw[E.cell];rfl
  have X:=I E;clear E;have Y:=I F;clear F
  go_upto_region 2 with fail
  have D:Blk (v1.setCell ⟨g,5,none⟩ (.int .u64 ((n:Int)+1))) g 274 #[wv a,wv b,wv c,wv d,.int .u64 (r2:Int),.int .u64 ((n:Int)+1)]:=Blk.set X.o 5 (.int .u64 ((n:Int)+1));have M:w.grownBy (v1.setCell ⟨g,5,none⟩ (.int .u64 ((n:Int)+1))) (some g):=Ay Y.o (.inl rfl) _;generalize (v1.setCell ⟨g,5,none⟩ (.int .u64 ((n:Int)+1)))=v2 at D M⊢;clear Z k5 X Y;have Z:=D.frozen;have k4:v2.cell? ⟨g,4,none⟩=some (.int .u64 (r2:Int)):=by rw[D.cell];rfl
  have k5:v2.cell? ⟨g,5,none⟩=some (.int .u64 ((n:Int)+1)):=by rw[D.cell];rfl
  have ab:=I D;clear D;have aa:=I M;clear M
  go_wp2_with fail
  go_end0
  exact⟨rfl,by rw[ad.o (by have:=M5.o;omega)];exact ab.o,aa.o⟩
 ·have hx:=hx 281474976710656 (by rw[hk];decide)
  have m1:(n:Int).tmod 8=6:=by rw[Int.tmod_eq_emod_of_nonneg n0];omega
  have m2:((n:Int)+1).tmod 8=7:=by rw[Int.tmod_eq_emod_of_nonneg (by omega)];omega
  have m3:n % 8=6:=hk;have hw:IntKind.u64.wrap 48=48:=by kernel_rfl
  have m4:(n:Int) % 8=6:=by omega
  have m5:(n+1) % 8=7:=by omega
  have M5:=I m5;clear m5;clear hk;go_enter O.func202,O.ntmps202
  go_upto_region 0 with fail
  refine wp_region_still_tail 16 (by kernel_rfl) (by kernel_rfl) ?_;simp only[List.take_succ_cons,List.take_zero,List.drop_succ_cons,List.drop_zero];change wpStill _ _ w.drew _ _ _
  repeat still_step
  refine wpStill_nil ?_;change wpList _ _ _ _ _ w.drew
  go_upto_region 1 with fail
  have E:Blk (w.setCell ⟨g,4,none⟩ (.int .u64 (r2:Int))).drew g 274 #[wv a,wv b,wv c,wv d,.int .u64 (r2:Int),.int .u64 (n:Int)]:=Blk.set HB.o 4 (.int .u64 (r2:Int));have F:w.grownBy (w.setCell ⟨g,4,none⟩ (.int .u64 (r2:Int))).drew (some g):=AX (Ay HG.o (.inl rfl) _);generalize (w.setCell ⟨g,4,none⟩ (.int .u64 (r2:Int))).drew=v1 at E F⊢;clear Z k4 k5 HB HG hx m1 m3 m4 hw hy;have Z:=E.frozen;have k5:v1.cell? ⟨g,5,none⟩=some (.int .u64 (n:Int)):=by rw[E.cell];rfl
  have X:=I E;clear E;have Y:=I F;clear F
  go_upto_region 2 with fail
  have D:Blk (v1.setCell ⟨g,5,none⟩ (.int .u64 ((n:Int)+1))) g 274 #[wv a,wv b,wv c,wv d,.int .u64 (r2:Int),.int .u64 ((n:Int)+1)]:=Blk.set X.o 5 (.int .u64 ((n:Int)+1));have M:w.grownBy (v1.setCell ⟨g,5,none⟩ (.int .u64 ((n:Int)+1))) (some g):=Ay Y.o (.inl rfl) _;generalize (v1.setCell ⟨g,5,none⟩ (.int .u64 ((n:Int)+1)))=v2 at D M⊢;clear Z k5 X Y;have Z:=D.frozen;have k4:v2.cell? ⟨g,4,none⟩=some (.int .u64 (r2:Int)):=by rw[D.cell];rfl
  have k5:v2.cell? ⟨g,5,none⟩=some (.int .u64 ((n:Int)+1)):=by rw[D.cell];rfl
  have ab:=I D;clear D;have aa:=I M;clear M
  go_wp2_with fail
  go_end0
  exact⟨rfl,by rw[ad.o (by have:=M5.o;omega)];exact ab.o,aa.o⟩
 ·have hx:=hx 72057594037927936 (by rw[hk];decide)
  have m1:(n:Int).tmod 8=7:=by rw[Int.tmod_eq_emod_of_nonneg n0];omega
  have m2:((n:Int)+1).tmod 8=0:=by rw[Int.tmod_eq_emod_of_nonneg (by omega)];omega
  have m3:n % 8=7:=hk;have hw:IntKind.u64.wrap 56=56:=by kernel_rfl
  have m4:(n:Int) % 8=7:=by omega
  have m5:(n+1) % 8=0:=by omega
  have M5:=I m5;clear m5;clear hk;go_enter O.func202,O.ntmps202
  go_upto_region 0 with fail
  refine wp_region_still_tail 16 (by kernel_rfl) (by kernel_rfl) ?_;simp only[List.take_succ_cons,List.take_zero,List.drop_succ_cons,List.drop_zero];change wpStill _ _ w.drew _ _ _
  repeat still_step
  refine wpStill_nil ?_;change wpList _ _ _ _ _ w.drew
  go_upto_region 1 with fail
  have E:Blk (w.setCell ⟨g,4,none⟩ (.int .u64 (r2:Int))).drew g 274 #[wv a,wv b,wv c,wv d,.int .u64 (r2:Int),.int .u64 (n:Int)]:=Blk.set HB.o 4 (.int .u64 (r2:Int));have F:w.grownBy (w.setCell ⟨g,4,none⟩ (.int .u64 (r2:Int))).drew (some g):=AX (Ay HG.o (.inl rfl) _);generalize (w.setCell ⟨g,4,none⟩ (.int .u64 (r2:Int))).drew=v1 at E F⊢;clear Z k4 k5 HB HG hx m1 m3 m4 hw hy;have Z:=E.frozen;have k5:v1.cell? ⟨g,5,none⟩=some (.int .u64 (n:Int)):=by rw[E.cell];rfl
  have X:=I E;clear E;have Y:=I F;clear F
  go_upto_region 2 with fail
  have D:Blk (v1.setCell ⟨g,5,none⟩ (.int .u64 ((n:Int)+1))) g 274 #[wv a,wv b,wv c,wv d,.int .u64 (r2:Int),.int .u64 ((n:Int)+1)]:=Blk.set X.o 5 (.int .u64 ((n:Int)+1));have M:w.grownBy (v1.setCell ⟨g,5,none⟩ (.int .u64 ((n:Int)+1))) (some g):=Ay Y.o (.inl rfl) _;generalize (v1.setCell ⟨g,5,none⟩ (.int .u64 ((n:Int)+1)))=v2 at D M⊢;clear Z k5 X Y;have Z:=D.frozen;have k4:v2.cell? ⟨g,4,none⟩=some (.int .u64 (r2:Int)):=by rw[D.cell];rfl
  have k5:v2.cell? ⟨g,5,none⟩=some (.int .u64 ((n:Int)+1)):=by rw[D.cell];rfl
  have ab:=I D;clear D;have aa:=I M;clear M;have c1:=Ii g ⟨a,b,c,d⟩ (.int .u64 (r2:Int)) (.int .u64 ((n:Int)+1)) (wd r2) v2 ab.o;rw[wv,IU r2 an.o] at c1
  go_wp2_with (go_at_call 216;refine Ag c1 ?_;rintro v3 ⟨ae,ah⟩;clear c1;have k4:v3.cell? ⟨g,4,none⟩=some (.int .u64 (r2:Int)):=by{rw[ae.cell];rfl};have Z:=ae.frozen;have ak:=I ae;have al:=I ah;clear ae ah)
  go_end0
  exact⟨rfl,by rw[ai.o M5.o];exact Blk.set ak.o 4 (.int .u64 0),Ay (World.grownBy.trans aa.o al.o) (.inl rfl) _⟩
theorem Kk (s:St) (D:s.r<72057594037927936):(Nt s).toNat=s.r+s.n % 256*72057594037927936:=IU _ (by omega)
theorem Ve (g:Nat) (s:St) (w:World) (hr:s.r<72057594037927936) (hB:Blk w g 274 (stc s)) :
  Calls M.prog 203 #[.pointer (some ⟨g,0,none⟩)] w fun e w'=>e=.returned (wv (finS s))/\w.grownBy w' (some g):=by
 have hl:=Kk s hr;have hx:=Mr s.r s.n hr;rw[<-hl,<-IntKind.wrap_u64] at hx;obtain⟨lw,el⟩:∃x,x=Nt s:=⟨_,rfl⟩;obtain⟨⟨a,b,c,d⟩,e1⟩:∃t,t=addM s.v lw:=⟨_,rfl⟩;obtain⟨c1,ec⟩:∃x,x=c ^^^ 255#64:=⟨_,rfl⟩;obtain⟨⟨a2,b2,c2,d2⟩,e2⟩:∃t,t=rnds 4 ⟨a,b,c1,d⟩:=⟨_,rfl⟩;obtain⟨q1,ab⟩:∃x,x=a2 ^^^ b2:=⟨_,rfl⟩;obtain⟨q2,Z⟩:∃x,x=q1 ^^^ c2:=⟨_,rfl⟩;obtain⟨q3,aa⟩:∃x,x=q2 ^^^ d2:=⟨_,rfl⟩;have O:finS s=q3:=by rw[finS,<-el,<-e1,fin,<-ec,<-e2,allX,<-ab,<-Z,<-aa]
 have x0:bits .xor .u64 (c.toNat:Int) 255=(c1.toNat:Int):=by rw[ec];exact Bu c 255#64
 have x1:bits .xor .u64 (a2.toNat:Int) (b2.toNat:Int)=(q1.toNat:Int):=by rw[ab];exact Bu _ _
 have x2:bits .xor .u64 (q1.toNat:Int) (c2.toNat:Int)=(q2.toNat:Int):=by rw[Z];exact Bu _ _
 have x3:bits .xor .u64 (q2.toNat:Int) (d2.toNat:Int)=(q3.toNat:Int):=by rw[aa];exact Bu _ _
 rw[<-el] at hx;obtain⟨v,r,n⟩:=s;have hx:bits .or .u64 (r:Int) (IntKind.u64.wrap ((n:Int)*72057594037927936))=(lw.toNat:Int):=hx;have e1:⟨a,b,c,d⟩=addM v lw:=e1;have ca:=Ii g v (.int .u64 (r:Int)) (.int .u64 (n:Int)) lw w.drew (Blk.drewN hB 1);rw[<-e1] at ca;have ah:=I O;clear O;have E2:=I e2;clear e2;have k4:w.cell? ⟨g,4,none⟩=some (.int .u64 (r:Int)):=by rw[hB.cell];rfl
 have k5:w.cell? ⟨g,5,none⟩=some (.int .u64 (n:Int)):=by rw[hB.cell];rfl
 have fz:=hB.frozen;have ag:=I x0;clear x0;have al:=I x1;clear x1;have an:=I x2;clear x2;have ak:=I x3;clear x3;clear el e1 ec ab Z aa hl hr hB;go_enter M.func203,M.ntmps203
 go_upto_region 1 with fail
 refine wp_region_still_tail 11 (by kernel_rfl) (by kernel_rfl) ?_;simp only[List.take_succ_cons,List.take_zero,List.drop_succ_cons,List.drop_zero];change wpStill _ _ w.drew _ _ _
 repeat still_step
 refine wpStill_nil ?_;change wpList _ _ _ _ _ w.drew;clear hx k4 k5 fz
 go_upto_region 2 with(go_at_call 216;refine Ag ca ?_;rintro v1 ⟨F,D⟩;clear ca;have D:w.grownBy v1 (some g):=⟨D.os,D.tape,D.output,D.size,D.block⟩;have k2:v1.cell? ⟨g,2,none⟩=some (.int .u64 (c.toNat:Int)):=by{rw[F.cell];rfl};have fz:=F.frozen;have ai:=I F;have af:=I D;clear F D)
 have x0:=ag.o;clear ag
 go_upto_region 3 with fail
 have Y:Blk (v1.setCell ⟨g,2,none⟩ (.int .u64 (c1.toNat:Int))) g 274 #[wv a,wv b,wv c1,wv d,.int .u64 (r:Int),.int .u64 (n:Int)]:=Blk.set ai.o 2 (wv c1);have ad:w.grownBy (v1.setCell ⟨g,2,none⟩ (.int .u64 (c1.toNat:Int))) (some g):=Ay af.o (.inl rfl) _;generalize (v1.setCell ⟨g,2,none⟩ (.int .u64 (c1.toNat:Int)))=v2 at Y ad⊢;have X:=IV g 4 ⟨a,b,c1,d⟩ (.int .u64 (r:Int)) (.int .u64 (n:Int)) v2 (by decide) Y;rw[<-E2.o] at X;have ar:=I ad;clear Y ad fz k2 ai af x0
 go_upto_region 4 with(go_at_call 217;refine Ag X ?_;rintro v3 ⟨ae,aj⟩;clear X;have E:=I ae;have ao:=I aj;clear ae aj)
 have k0:v3.cell? ⟨g,0,none⟩=some (.int .u64 (a2.toNat:Int)):=by rw[E.o.cell];rfl
 have k1:v3.cell? ⟨g,1,none⟩=some (.int .u64 (b2.toNat:Int)):=by rw[E.o.cell];rfl
 have k2:v3.cell? ⟨g,2,none⟩=some (.int .u64 (c2.toNat:Int)):=by rw[E.o.cell];rfl
 have k3:v3.cell? ⟨g,3,none⟩=some (.int .u64 (d2.toNat:Int)):=by rw[E.o.cell];rfl
 have x1:=al.o;have x2:=an.o;have x3:=ak.o;refine wp_region_still_lit (by kernel_rfl) (by kernel_rfl) ?_;change wpStill _ _ v3.drew _ _ _
 repeat still_step
 refine wpStill_nil ?_
 try change _ v3.drew
 go_wp2_with fail
 go_ret;exact⟨by rw[ah.o];rfl,AX (World.grownBy.trans ar.o ao.o)⟩
theorem Blk.new_of (w:World) (g:Nat) (t:TypeId) (cs D:Array Value) (e:cs=D) (E:w.heap.size=g):Blk (w.alloc (.cells cs t)) g t D:=E▸e▸Blk.new w t cs
theorem AS {B:Nat} {a w:World} (h:Below B a w) {p:Addr} (E:B<=p.block) (u:Value):Below B a (w.setCell p u):=
 ⟨h.os,h.tape,h.output,by simpa [World.setCell] using h.size,fun i D=>(Below.heap_setCell w p u i (by omega)).trans (h.block i D)⟩
theorem Aj {P:Program} {fn:Func} {tmps:Array Value} {w:World} {v:Value} (t:Nat) (ty:TypeId) (a:Addr) (D:fn.results=#[.cell t ty]) (M:tmps.getD t undef=.pointer (some a)) (F:(loadVar ty a).run P w=.ok v w) :
  (results fn tmps).run P w=.ok v w:=by
 have E:tmps[t]?.getD undef=.pointer (some a):=by simpa using M
 simp [results,D,E,asAddr,F]
theorem Am {P:Program} {w:World} {g:Nat} {t ty:TypeId} {cs:Array Value} {d:TypeDesc} (h:Blk w g t cs) (hu:P.underlying ty=some d) (F:d.isRow=true) (M:(P.info? ty).map (·.size)=some cs.size) :
  (loadVar ty ⟨g,0,none⟩).run P w=.ok (.agg cs) w:=by
 have E:w.rangeAt g 0 cs.toList:=fun j v D=>by rw[Nat.zero_add,h.cell];simpa using D
 have:=run_loadVar_mid (P:=P) w g 0 ty cs.toList d E hu F (by simpa using M)
 simpa using this
def AF (ks:Nat->UInt8):Array Value:=((List.range 16).map (fun i=>bv (ks i))).toArray
theorem Blk.far {w:World} {g:Nat} {t:TypeId} {cs:Array Value} (h:Blk w g t cs) (p:Addr) (u:Value) (D:p.block≠g):Blk (w.setCell p u) g t cs:=
 (Below.heap_setCell w p u g (fun e=>D e.symm)).trans h
theorem Ab {w:World} {g:Nat} {t:TypeId} {cs:Array Value} (h:Blk w g t cs):w.rangeAt g 0 cs.toList:=fun j v D=>by
 rw[Nat.zero_add,h.cell];simpa using D
theorem Ak {w:World} {g:Nat} {t:TypeId} {cs:Array Value} (h:Blk w g t cs):w.there g 0 cs.size:=fun j D=>by
 rw[Nat.zero_add];exact⟨by rw[h.cell,Array.getElem?_eq_getElem D];rfl,h.frozen j⟩
theorem Bn {B:Nat} {a:World} (b:Nat) (D:B<=b):∀(vs:List Value) (o:Nat) (w:World),Below B a w->Below B a (w.setCells b o vs)
 | [],_,_,h=>h
 |v :: r,o,w,h=>Bn b D r (o+1) _ (AS h D v)
def ksOf (l:List UInt8) (i:Nat):UInt8:=l.getD i 0
theorem Fk (f:Nat->UInt8) (j:Nat) (D:j<16):(AF f)[j]? = some (bv (f j)):=by
 rw[AF,List.getElem?_toArray];simp [D]
theorem k16 {w':World} {B:Nat} {t:TypeId} {ks:Nat->UInt8} (h:Blk w' B t (AF ks)):w'.cell? ⟨B,0,none⟩=some (.int .u8 ((ks 0).toNat:Int))/\w'.cell? ⟨B,1,none⟩=some (.int .u8 ((ks 1).toNat:Int))/\w'.cell? ⟨B,2,none⟩=some (.int .u8 ((ks 2).toNat:Int))/\w'.cell? ⟨B,3,none⟩=some (.int .u8 ((ks 3).toNat:Int))/\w'.cell? ⟨B,4,none⟩=some (.int .u8 ((ks 4).toNat:Int))/\w'.cell? ⟨B,5,none⟩=some (.int .u8 ((ks 5).toNat:Int))/\w'.cell? ⟨B,6,none⟩=some (.int .u8 ((ks 6).toNat:Int))/\w'.cell? ⟨B,7,none⟩=some (.int .u8 ((ks 7).toNat:Int))/\w'.cell? ⟨B,8,none⟩=some (.int .u8 ((ks 8).toNat:Int))/\w'.cell? ⟨B,9,none⟩=some (.int .u8 ((ks 9).toNat:Int))/\w'.cell? ⟨B,10,none⟩=some (.int .u8 ((ks 10).toNat:Int))/\w'.cell? ⟨B,11,none⟩=some (.int .u8 ((ks 11).toNat:Int))/\w'.cell? ⟨B,12,none⟩=some (.int .u8 ((ks 12).toNat:Int))/\w'.cell? ⟨B,13,none⟩=some (.int .u8 ((ks 13).toNat:Int))/\w'.cell? ⟨B,14,none⟩=some (.int .u8 ((ks 14).toNat:Int))/\w'.cell? ⟨B,15,none⟩=some (.int .u8 ((ks 15).toNat:Int)):=by
 refine⟨?_,?_,?_,?_,?_,?_,?_,?_,?_,?_,?_,?_,?_,?_,?_,?_⟩<;>(rw[h.cell];rfl)
theorem Kl (w:World) (g:Nat) (a b c d e f:Value):w.setCells g 0 [a,b,c,d,e,f]=(((((w.setCell ⟨g,0,none⟩ a).setCell ⟨g,1,none⟩ b).setCell ⟨g,2,none⟩ c).setCell ⟨g,3,none⟩ d).setCell ⟨g,4,none⟩ e).setCell ⟨g,5,none⟩ f:=rfl
theorem Blk.set6 {w:World} {g:Nat} {t:TypeId} {a b c d e f O E c' M F D:Value} (h:Blk w g t #[O,E,c',M,F,D]):Blk (w.setCells g 0 [a,b,c,d,e,f]) g t #[a,b,c,d,e,f]:=by
 rw[Kl];have:=(((((h.set 0 a).set 1 b).set 2 c).set 3 d).set 4 e).set 5 f
 simpa using this
def WT:Array Value:=#[.int .u64 0,.int .u64 0,.int .u64 0,.int .u64 0,.int .u64 0,.int .u64 0]
theorem Pm (ks:Nat->UInt8) (w:World):Calls D.prog 201 #[.agg (AF ks)] w fun e w'=>e=.returned (.agg (stc ⟨start ks,0,0⟩))/\Below w.heap.size w w':=by
 have hk:AF ks=#[.int .u8 ((ks 0).toNat:Int),.int .u8 ((ks 1).toNat:Int),.int .u8 ((ks 2).toNat:Int),.int .u8 ((ks 3).toNat:Int),.int .u8 ((ks 4).toNat:Int),.int .u8 ((ks 5).toNat:Int),.int .u8 ((ks 6).toNat:Int),.int .u8 ((ks 7).toNat:Int),.int .u8 ((ks 8).toNat:Int),.int .u8 ((ks 9).toNat:Int),.int .u8 ((ks 10).toNat:Int),.int .u8 ((ks 11).toNat:Int),.int .u8 ((ks 12).toNat:Int),.int .u8 ((ks 13).toNat:Int),.int .u8 ((ks 14).toNat:Int),.int .u8 ((ks 15).toNat:Int)]:=rfl;have cA:∀w,Calls D.prog 215 #[.agg #[.int .u8 ((ks 0).toNat:Int),.int .u8 ((ks 1).toNat:Int),.int .u8 ((ks 2).toNat:Int),.int .u8 ((ks 3).toNat:Int),.int .u8 ((ks 4).toNat:Int),.int .u8 ((ks 5).toNat:Int),.int .u8 ((ks 6).toNat:Int),.int .u8 ((ks 7).toNat:Int)]] w fun e w'=>e=.returned (wv (kA ks))/\Below w.heap.size w w':=fun w=>Dl ks w
 have cB:∀w,Calls D.prog 215 #[.agg #[.int .u8 ((ks 8).toNat:Int),.int .u8 ((ks 9).toNat:Int),.int .u8 ((ks 10).toNat:Int),.int .u8 ((ks 11).toNat:Int),.int .u8 ((ks 12).toNat:Int),.int .u8 ((ks 13).toNat:Int),.int .u8 ((ks 14).toNat:Int),.int .u8 ((ks 15).toNat:Int)]] w fun e w'=>e=.returned (wv (kB ks))/\Below w.heap.size w w':=fun w=>Dl (fun i=>ks (8+i)) w
 obtain⟨p,ep⟩:∃x,x=kA ks:=⟨_,rfl⟩;obtain⟨q,eq⟩:∃x,x=kB ks:=⟨_,rfl⟩;obtain⟨v0,e0⟩:∃x,x=0x736f6d6570736575#64 ^^^ p:=⟨_,rfl⟩;obtain⟨v1,e1⟩:∃x,x=0x646f72616e646f6d#64 ^^^ q:=⟨_,rfl⟩;obtain⟨v2,e2⟩:∃x,x=0x6c7967656e657261#64 ^^^ p:=⟨_,rfl⟩;obtain⟨v3,e3⟩:∃x,x=0x7465646279746573#64 ^^^ q:=⟨_,rfl⟩;have x0:bits .xor .u64 8317987319222330741 (p.toNat:Int)=(v0.toNat:Int):=by rw[e0];exact Bu 0x736f6d6570736575#64 p
 have x1:bits .xor .u64 7237128888997146477 (q.toNat:Int)=(v1.toNat:Int):=by rw[e1];exact Bu 0x646f72616e646f6d#64 q
 have x2:bits .xor .u64 7816392313619706465 (p.toNat:Int)=(v2.toNat:Int):=by rw[e2];exact Bu 0x6c7967656e657261#64 p
 have x3:bits .xor .u64 8387220255154660723 (q.toNat:Int)=(v3.toNat:Int):=by rw[e3];exact Bu 0x7465646279746573#64 q
 have hs:stc ⟨start ks,0,0⟩=#[wv v0,wv v1,wv v2,wv v3,.int .u64 0,.int .u64 0]:=by
  rw[e0,e1,e2,e3,ep,eq];rfl
 rw[<-ep] at cA;rw[<-eq] at cB;rw[hs];clear hs ep eq e0 e1 e2 e3;obtain⟨B,eB⟩:=Ah (w.heap.size);have EB:=I eB;rw[hk];clear hk;go_enter D.func201,D.ntmps201
 go_upto_region 1 with fail
 rw[<-eB];clear eB;have ag:∀w:World,(Instr.arrayAt 290 (.slice (some ⟨B,0,none⟩) 8 16)).run D.prog w=.ok (.pointer (some ⟨B,0,none⟩)) w:=fun _=>by kernel_rfl
 have af:∀w:World,(Instr.arrayAt 290 (.slice (some ⟨B,8,none⟩) 8 8)).run D.prog w=.ok (.pointer (some ⟨B,8,none⟩)) w:=fun _=>by kernel_rfl
 have M:Blk ((w.alloc (.cells #[.int .u8 ((ks 0).toNat:Int),.int .u8 ((ks 1).toNat:Int),.int .u8 ((ks 2).toNat:Int),.int .u8 ((ks 3).toNat:Int),.int .u8 ((ks 4).toNat:Int),.int .u8 ((ks 5).toNat:Int),.int .u8 ((ks 6).toNat:Int),.int .u8 ((ks 7).toNat:Int),.int .u8 ((ks 8).toNat:Int),.int .u8 ((ks 9).toNat:Int),.int .u8 ((ks 10).toNat:Int),.int .u8 ((ks 11).toNat:Int),.int .u8 ((ks 12).toNat:Int),.int .u8 ((ks 13).toNat:Int),.int .u8 ((ks 14).toNat:Int),.int .u8 ((ks 15).toNat:Int)] 166)).alloc (.cells #[.int .u64 0,.int .u64 0,.int .u64 0,.int .u64 0,.int .u64 0,.int .u64 0] 274)) B 166 (AF ks):=Blk.alloc (Blk.new_of w B _ _ (AF ks) rfl EB.o.symm) _;have Y:Blk ((w.alloc (.cells #[.int .u8 ((ks 0).toNat:Int),.int .u8 ((ks 1).toNat:Int),.int .u8 ((ks 2).toNat:Int),.int .u8 ((ks 3).toNat:Int),.int .u8 ((ks 4).toNat:Int),.int .u8 ((ks 5).toNat:Int),.int .u8 ((ks 6).toNat:Int),.int .u8 ((ks 7).toNat:Int),.int .u8 ((ks 8).toNat:Int),.int .u8 ((ks 9).toNat:Int),.int .u8 ((ks 10).toNat:Int),.int .u8 ((ks 11).toNat:Int),.int .u8 ((ks 12).toNat:Int),.int .u8 ((ks 13).toNat:Int),.int .u8 ((ks 14).toNat:Int),.int .u8 ((ks 15).toNat:Int)] 166)).alloc (.cells #[.int .u64 0,.int .u64 0,.int .u64 0,.int .u64 0,.int .u64 0,.int .u64 0] 274)) (B+1) 274 WT:=Blk.new_of (w.alloc _) (B+1) _ _ WT rfl (by have:=EB.o;simp;omega);have E:Below w.heap.size w ((w.alloc (.cells #[.int .u8 ((ks 0).toNat:Int),.int .u8 ((ks 1).toNat:Int),.int .u8 ((ks 2).toNat:Int),.int .u8 ((ks 3).toNat:Int),.int .u8 ((ks 4).toNat:Int),.int .u8 ((ks 5).toNat:Int),.int .u8 ((ks 6).toNat:Int),.int .u8 ((ks 7).toNat:Int),.int .u8 ((ks 8).toNat:Int),.int .u8 ((ks 9).toNat:Int),.int .u8 ((ks 10).toNat:Int),.int .u8 ((ks 11).toNat:Int),.int .u8 ((ks 12).toNat:Int),.int .u8 ((ks 13).toNat:Int),.int .u8 ((ks 14).toNat:Int),.int .u8 ((ks 15).toNat:Int)] 166)).alloc (.cells #[.int .u64 0,.int .u64 0,.int .u64 0,.int .u64 0,.int .u64 0,.int .u64 0] 274)):=((Below.refl w.heap.size w).alloc Ae _).alloc (by simp) _;have ab:=I x0;clear x0;have ae:=I x1;clear x1;have aa:=I x2;clear x2;have ad:=I x3;clear x3;generalize ((w.alloc (.cells #[.int .u8 ((ks 0).toNat:Int),.int .u8 ((ks 1).toNat:Int),.int .u8 ((ks 2).toNat:Int),.int .u8 ((ks 3).toNat:Int),.int .u8 ((ks 4).toNat:Int),.int .u8 ((ks 5).toNat:Int),.int .u8 ((ks 6).toNat:Int),.int .u8 ((ks 7).toNat:Int),.int .u8 ((ks 8).toNat:Int),.int .u8 ((ks 9).toNat:Int),.int .u8 ((ks 10).toNat:Int),.int .u8 ((ks 11).toNat:Int),.int .u8 ((ks 12).toNat:Int),.int .u8 ((ks 13).toNat:Int),.int .u8 ((ks 14).toNat:Int),.int .u8 ((ks 15).toNat:Int)] 166)).alloc (.cells #[.int .u64 0,.int .u64 0,.int .u64 0,.int .u64 0,.int .u64 0,.int .u64 0] 274))=W1 at M Y E⊢;have M:Blk W1.drew B 166 (AF ks):=M;have Y:Blk W1.drew (B+1) 274 #[.int .u64 0,.int .u64 0,.int .u64 0,.int .u64 0,.int .u64 0,.int .u64 0]:=Y;have E:Below w.heap.size w W1.drew:=below_drewN E 1
 go_region_held3 (fun w'=>w'.cell? ⟨B,0,none⟩=some (.int .u8 ((ks 0).toNat:Int))/\w'.cell? ⟨B,1,none⟩=some (.int .u8 ((ks 1).toNat:Int))/\w'.cell? ⟨B,2,none⟩=some (.int .u8 ((ks 2).toNat:Int))/\w'.cell? ⟨B,3,none⟩=some (.int .u8 ((ks 3).toNat:Int))/\w'.cell? ⟨B,4,none⟩=some (.int .u8 ((ks 4).toNat:Int))/\w'.cell? ⟨B,5,none⟩=some (.int .u8 ((ks 5).toNat:Int))/\w'.cell? ⟨B,6,none⟩=some (.int .u8 ((ks 6).toNat:Int))/\w'.cell? ⟨B,7,none⟩=some (.int .u8 ((ks 7).toNat:Int))/\w'.cell? ⟨B,8,none⟩=some (.int .u8 ((ks 8).toNat:Int))/\w'.cell? ⟨B,9,none⟩=some (.int .u8 ((ks 9).toNat:Int))/\w'.cell? ⟨B,10,none⟩=some (.int .u8 ((ks 10).toNat:Int))/\w'.cell? ⟨B,11,none⟩=some (.int .u8 ((ks 11).toNat:Int))/\w'.cell? ⟨B,12,none⟩=some (.int .u8 ((ks 12).toNat:Int))/\w'.cell? ⟨B,13,none⟩=some (.int .u8 ((ks 13).toNat:Int))/\w'.cell? ⟨B,14,none⟩=some (.int .u8 ((ks 14).toNat:Int))/\w'.cell? ⟨B,15,none⟩=some (.int .u8 ((ks 15).toNat:Int))) (exact k16 M) (first | (go_at_call 215;refine Ag (cA _) ?_;rintro wq Z;clear cA;have F:=Blk.below M Z;have X:=Blk.below Y Z;have O:=bt E Z;clear M Y E;have M:=F;have Y:=X;have E:=O;clear F X O Z) | (go_at_call 215;refine Ag (cB _) ?_;rintro wq Z;clear cB;have F:=Blk.below M Z;have X:=Blk.below Y Z;have O:=bt E Z;clear M Y E;have M:=F;have Y:=X;have E:=O;clear F X O Z))
 all_goals
  have x0:=ab.o;have x1:=ae.o;have x2:=aa.o;have x3:=ad.o;have HZ:=I Y;clear Y;have HW:=I E;clear E;clear M ab ae aa ad
 all_goals
  have c0:wq.cell? ⟨B+1,0,none⟩=some (.int .u64 0):=by rw[HZ.o.cell];rfl
  have c1:wq.cell? ⟨B+1,1,none⟩=some (.int .u64 0):=by rw[HZ.o.cell];rfl
  have c2:wq.cell? ⟨B+1,2,none⟩=some (.int .u64 0):=by rw[HZ.o.cell];rfl
  have c3:wq.cell? ⟨B+1,3,none⟩=some (.int .u64 0):=by rw[HZ.o.cell];rfl
  have c4:wq.cell? ⟨B+1,4,none⟩=some (.int .u64 0):=by rw[HZ.o.cell];rfl
  have c5:wq.cell? ⟨B+1,5,none⟩=some (.int .u64 0):=by rw[HZ.o.cell];rfl
  have fz:=HZ.o.frozen;clear ag af
 all_goals go_wp2_with fail
 all_goals
  have hE:=Blk.set6 (a:=wv v0) (b:=wv v1) (c:=wv v2) (d:=wv v3) (e:=.int .u64 0) (f:=.int .u64 0) HZ.o;rw[Kl] at hE;have hq:=Am (P:=D.prog) hE D.underlying274 rfl (by kernel_rfl);refine bodyPost_ret (v:=.agg #[wv v0,wv v1,wv v2,wv v3,.int .u64 0,.int .u64 0]) ?_ ?_ ?_
  ·exact Aj 2 274 ⟨B+1,0,none⟩ D.results201 rfl hq
  ·rfl
  refine⟨rfl,?_⟩;have hle:w.heap.size<=B+1:=by have:=EB.o;omega
  repeat (refine AS ?_ hle _)
  exact HW.o
end Si
end Go.Proofs.YtcpccikongbopaaGreat
