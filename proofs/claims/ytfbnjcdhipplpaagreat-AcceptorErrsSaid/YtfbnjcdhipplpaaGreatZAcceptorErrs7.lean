import Derived.Test.YtfbnjcdhipplpaaGreatZAcceptorErrs1
set_option maxHeartbeats 25600000
set_option maxRecDepth 100000
set_option linter.unusedVariables false
set_option linter.unusedSimpArgs false
namespace Go.Proofs.YtfbnjcdhipplpaaGreat
namespace Si
open Go.RowKit Af
abbrev Wd:=BitVec 64
def rot (v:Wd) (s:Nat):Wd:=(v <<< s) ||| (v >>> (64 - s))
abbrev wv (v:Wd):Value:=.int .u64 (v.toNat:Int)
def wd (n:Nat):Wd:=BitVec.ofNat 64 n
theorem Gu (v:Wd):v.toNat<18446744073709551616:=v.isLt
theorem Kl (n:Nat) (h:n<18446744073709551616):(wd n).toNat=n:=by
 rw[wd,BitVec.toNat_ofNat];exact Nat.mod_eq_of_lt h
theorem Bs (x y:Wd):bits .xor .u64 (x.toNat:Int) (y.toNat:Int)=((x ^^^ y).toNat:Int):=by
 rw[u64_xor_nat _ _ x.isLt y.isLt,BitVec.toNat_xor]
theorem Ge (x y:Wd):((x.toNat:Int)+(y.toNat:Int)) % 18446744073709551616=((x+y).toNat:Int):=by
 rw[BitVec.toNat_add];omega
theorem Iw (x y:Wd):IntKind.u64.wrap ((x.toNat:Int)+(y.toNat:Int))=((x+y).toNat:Int):=by
 rw[IntKind.wrap_u64,Ge]
theorem Lc (v:Wd) (s:Nat):(rot v s).toNat=(v.toNat*2 ^ s % 18446744073709551616) ||| (v.toNat / 2 ^ (64 - s)):=by
 simp [rot,BitVec.toNat_or,BitVec.toNat_shiftLeft,BitVec.toNat_ushiftRight,Nat.shiftLeft_eq,Nat.shiftRight_eq_div_pow]
theorem Iu (v:Wd) (a b:Nat) (s:Nat) (M:a=v.toNat*2 ^ s % 18446744073709551616) (O:b=v.toNat / 2 ^ (64 - s)):bits .or .u64 (a:Int) (b:Int)=((rot v s).toNat:Int):=by
 rw[u64_or_nat a b (by omega) (by have:=Gu v;have:=Nat.div_le_self v.toNat (2 ^ (64 - s));omega),Lc,M,O]
theorem or13 (v:Wd):bits .or .u64 ((v.toNat:Int)*8192 % 18446744073709551616) ((v.toNat:Int) / 2251799813685248)=((rot v 13).toNat:Int):=Iu v _ _ 13 rfl rfl
theorem or32 (v:Wd):bits .or .u64 ((v.toNat:Int)*4294967296 % 18446744073709551616) ((v.toNat:Int) / 4294967296)=((rot v 32).toNat:Int):=Iu v _ _ 32 rfl rfl
theorem or16 (v:Wd):bits .or .u64 ((v.toNat:Int)*65536 % 18446744073709551616) ((v.toNat:Int) / 281474976710656)=((rot v 16).toNat:Int):=Iu v _ _ 16 rfl rfl
theorem or21 (v:Wd):bits .or .u64 ((v.toNat:Int)*2097152 % 18446744073709551616) ((v.toNat:Int) / 8796093022208)=((rot v 21).toNat:Int):=Iu v _ _ 21 rfl rfl
theorem or17 (v:Wd):bits .or .u64 ((v.toNat:Int)*131072 % 18446744073709551616) ((v.toNat:Int) / 140737488355328)=((rot v 17).toNat:Int):=Iu v _ _ 17 rfl rfl
def BJ:List UInt8->Nat
 | []=>0
 |b :: l=>b.toNat+256*BJ l
theorem Hc:∀l,BJ l<256 ^ l.length
 | []=>by simp [BJ]
 |b :: l=>by
  have h:=Hc l;have M:=b.toNat_lt;rw[BJ,List.length_cons,Nat.pow_succ];omega
theorem Hy (b:UInt8):∀l,BJ (l++[b])=BJ l+b.toNat*256 ^ l.length
 | []=>by simp [BJ]
 |c :: l=>by
  rw[List.cons_append,BJ,Hy b l,BJ,List.length_cons,Nat.pow_succ,Nat.mul_add,Nat.add_assoc]
  congr 2
  rw[Nat.mul_comm,Nat.mul_assoc]
theorem Lg {l:List UInt8} (h:l.length<=8):BJ l<18446744073709551616:=
 Nat.lt_of_lt_of_le (Hc l) (Nat.pow_le_pow_right (by decide) h:256 ^ l.length<=256 ^ 8)
theorem Tb {l:List UInt8} (h:l.length<=7):BJ l<72057594037927936:=
 Nat.lt_of_lt_of_le (Hc l) (Nat.pow_le_pow_right (by decide) h:256 ^ l.length<=256 ^ 7)
structure V where
 a:Wd
 b:Wd
 c:Wd
 d:Wd
def rnd (s:V):V:=
 let a1:=s.a+s.b
 let b1:=rot s.b 13 ^^^ a1
 let a2:=rot a1 32
 let c1:=s.c+s.d
 let d1:=rot s.d 16 ^^^ c1
 let a3:=a2+d1
 let d2:=rot d1 21 ^^^ a3
 let c2:=c1+b1
 let b2:=rot b1 17 ^^^ c2
 let c3:=rot c2 32
 ⟨a3,b2,c3,d2⟩
def rnds:Nat->V->V
 |0,s=>s
 |n+1,s=>rnd (rnds n s)
def addM (s:V) (m:Wd):V:=⟨(rnds 2 ⟨s.a,s.b,s.c,s.d ^^^ m⟩).a ^^^ m,(rnds 2 ⟨s.a,s.b,s.c,s.d ^^^ m⟩).b,(rnds 2 ⟨s.a,s.b,s.c,s.d ^^^ m⟩).c,(rnds 2 ⟨s.a,s.b,s.c,s.d ^^^ m⟩).d⟩
def allX (s:V):Wd:=s.a ^^^ s.b ^^^ s.c ^^^ s.d
def fin (s:V):Wd:=allX (rnds 4 ⟨s.a,s.b,s.c ^^^ 255#64,s.d⟩)
def kA (ks:Nat->UInt8):Wd:=wd (BJ ((List.range 8).map ks))
def kB (ks:Nat->UInt8):Wd:=wd (BJ ((List.range 8).map fun i=>ks (8+i)))
def start (ks:Nat->UInt8):V:=⟨0x736f6d6570736575#64 ^^^ kA ks,0x646f72616e646f6d#64 ^^^ kB ks,0x6c7967656e657261#64 ^^^ kA ks,0x7465646279746573#64 ^^^ kB ks⟩
structure St where
 v:V
 r:Nat
 n:Nat
def addB (s:St) (b:UInt8):St:=
 if (s.n+1) % 8=0 then ⟨addM s.v (wd (s.r+b.toNat*256 ^ (s.n % 8))),0,s.n+1⟩ else ⟨s.v,s.r+b.toNat*256 ^ (s.n % 8),s.n+1⟩
theorem Pv (s:St) (b:UInt8) (h:(s.n+1) % 8=0):addB s b=⟨addM s.v (wd (s.r+b.toNat*256 ^ (s.n % 8))),0,s.n+1⟩:=if_pos h
theorem Tc (s:St) (b:UInt8) (h:¬(s.n+1) % 8=0):addB s b=⟨s.v,s.r+b.toNat*256 ^ (s.n % 8),s.n+1⟩:=if_neg h
def stOf (ks:Nat->UInt8) (l:List UInt8):St:=l.foldl addB ⟨start ks,0,0⟩
def QF (s:St):Wd:=wd (s.r+s.n % 256*72057594037927936)
def finS (s:St):Wd:=fin (addM s.v (QF s))
def Hz (ks:Nat->UInt8) (l:List UInt8):Wd:=finS (stOf ks l)
theorem Mu (ks:Nat->UInt8) (l:List UInt8) (b:UInt8):stOf ks (l++[b])=addB (stOf ks l) b:=by simp [stOf]
def full (ks:Nat->UInt8) (p:List UInt8):Nat->V
 |0=>start ks
 |j+1=>addM (full ks p j) (wd (BJ ((p.drop (8*j)).take 8)))
theorem Mv (ks:Nat->UInt8) (p:List UInt8):∀n,n<=p.length->stOf ks (p.take n)=⟨full ks p (n / 8),BJ ((p.take n).drop (8*(n / 8))),n⟩
 |0,_=>by simp [stOf,full,BJ]
 |n+1,h=>by
  have ih:=Mv ks p n (by omega);have M:n<p.length:=by omega
  have Z:p.take (n+1)=p.take n++[p[n]]:=by rw[List.take_succ_eq_append_getElem M]
  have el:((p.take n).drop (8*(n / 8))).length=n % 8:=by rw[List.length_drop,List.length_take];omega
  have ew:(p.take (n+1)).drop (8*(n / 8))=(p.take n).drop (8*(n / 8))++[p[n]]:=by
   rw[Z,List.drop_append_of_le_length (by rw[List.length_take];omega)]
  have eN:BJ ((p.take (n+1)).drop (8*(n / 8)))=BJ ((p.take n).drop (8*(n / 8)))+p[n].toNat*256 ^ (n % 8):=by rw[ew,Hy,el]
  have e0:stOf ks (p.take (n+1))=addB (stOf ks (p.take n)) p[n]:=by rw[Z,Mu]
  have ez:(p.take (n+1)).drop (n+1) = []:=List.drop_of_length_le (by rw[List.length_take];omega);rw[e0,ih]
  by_cases h8:(n+1) % 8=0
  ·have O:(n+1) / 8=n / 8+1:=by omega
   have hm:8*((n+1) / 8)=n+1:=by omega
   have ed:(p.take (n+1)).drop (8*(n / 8))=(p.drop (8*(n / 8))).take 8:=by rw[List.drop_take,show n+1 - 8*(n / 8)=8 by omega]
   rw[Pv _ _ h8,<-eN,hm,ez,O,full,ed];simp only[BJ]
  ·have O:(n+1) / 8=n / 8:=by omega
   rw[Tc _ _ h8,O,eN]
theorem FU (ks:Nat->UInt8) (p:List UInt8):stOf ks p=⟨full ks p (p.length / 8),BJ (p.drop (8*(p.length / 8))),p.length⟩:=by
 have h:=Mv ks p p.length Ag
 rwa [List.take_length] at h
theorem bQ (ks:Nat->UInt8) (p:List UInt8):(stOf ks p).n=p.length:=by rw[FU]
theorem XS (ks:Nat->UInt8) (p:List UInt8):(stOf ks p).r<256 ^ ((stOf ks p).n % 8):=by
 rw[FU];have h:=Hc (p.drop (8*(p.length / 8)));rw[List.length_drop] at h
 rwa [show p.length - 8*(p.length / 8)=p.length % 8 by omega] at h
theorem Wj (k:Nat) (h:k<=7):256 ^ k<=72057594037927936:=(Nat.pow_le_pow_right (by decide) h:256 ^ k<=256 ^ 7)
theorem Mw (r b k:Nat) (M:r<256 ^ k):r ||| b*256 ^ k=r+b*256 ^ k:=by
 have e:(256:Nat) ^ k=2 ^ (8*k):=by rw[Nat.pow_mul]
 rw[e] at M⊢;have h:=Nat.shiftLeft_add_eq_or_of_lt M b;rw[Nat.shiftLeft_eq] at h;rw[Nat.or_comm,<-h,Nat.add_comm]
theorem Pw (r:Nat) (b:UInt8) (k:Nat) (O:r<256 ^ k):r+b.toNat*256 ^ k<256 ^ (k+1):=by
 have M:=b.toNat_lt;rw[Nat.pow_succ];have:b.toNat*256 ^ k<=255*256 ^ k:=Nat.mul_le_mul_right _ (by omega);omega
theorem Lh (r:Nat) (b:UInt8) (k:Nat) (hk:k<=7) (M:r<256 ^ k) (X:Int) (O:X=((b.toNat*256 ^ k:Nat):Int)):bits .or .u64 (r:Int) X=((r+b.toNat*256 ^ k:Nat):Int):=by
 have hp:=Wj k hk;have hl:=Pw r b k M;have h8:(256:Nat) ^ (k+1)<=256 ^ 8:=Nat.pow_le_pow_right (by decide) (by omega);have Z:(256:Nat) ^ 8=18446744073709551616:=by decide
 rw[O,u64_or_nat _ _ (by omega) (by omega),Mw r _ k M]
theorem Px (r n:Nat) (O:r<72057594037927936):bits .or .u64 (r:Int) ((n:Int)*72057594037927936 % 18446744073709551616)=((r+n % 256*72057594037927936:Nat):Int):=by
 have e:(n:Int)*72057594037927936 % 18446744073709551616=((n % 256*256 ^ 7:Nat):Int):=by
  have:(256:Nat) ^ 7=72057594037927936:=by decide
  rw[this];omega
 have M:(UInt8.ofNat (n % 256)).toNat=n % 256:=by simp
 have h:=Lh r (UInt8.ofNat (n % 256)) 7 (by decide) O ((n:Int)*72057594037927936 % 18446744073709551616) (by rw[e,M]);rw[h,M]
theorem bR (v:Wd) (w:World):Calls Tryz.prog 309 #[wv v,.int .i64 13] w fun e w'=>e=.returned (wv (rot v 13))/\w'=w:=by
 have hand:bits .and .u64 13 63=13:=by kernel_rfl
 have M:=or13 v;rw[<-IntKind.wrap_u64] at M;go_enter Tryz.func309,Tryz.ntmps309
 go_wp2
 go_ret;exact⟨rfl,rfl⟩
theorem XT (v:Wd) (w:World):Calls Tryz.prog 309 #[wv v,.int .i64 32] w fun e w'=>e=.returned (wv (rot v 32))/\w'=w:=by
 have hand:bits .and .u64 32 63=32:=by kernel_rfl
 have M:=or32 v;rw[<-IntKind.wrap_u64] at M;go_enter Tryz.func309,Tryz.ntmps309
 go_wp2
 go_ret;exact⟨rfl,rfl⟩
theorem bS (v:Wd) (w:World):Calls Tryz.prog 309 #[wv v,.int .i64 16] w fun e w'=>e=.returned (wv (rot v 16))/\w'=w:=by
 have hand:bits .and .u64 16 63=16:=by kernel_rfl
 have M:=or16 v;rw[<-IntKind.wrap_u64] at M;go_enter Tryz.func309,Tryz.ntmps309
 go_wp2
 go_ret;exact⟨rfl,rfl⟩
theorem bT (v:Wd) (w:World):Calls Tryz.prog 309 #[wv v,.int .i64 21] w fun e w'=>e=.returned (wv (rot v 21))/\w'=w:=by
 have hand:bits .and .u64 21 63=21:=by kernel_rfl
 have M:=or21 v;rw[<-IntKind.wrap_u64] at M;go_enter Tryz.func309,Tryz.ntmps309
 go_wp2
 go_ret;exact⟨rfl,rfl⟩
theorem bU (v:Wd) (w:World):Calls Tryz.prog 309 #[wv v,.int .i64 17] w fun e w'=>e=.returned (wv (rot v 17))/\w'=w:=by
 have hand:bits .and .u64 17 63=17:=by kernel_rfl
 have M:=or17 v;rw[<-IntKind.wrap_u64] at M;go_enter Tryz.func309,Tryz.ntmps309
 go_wp2
 go_ret;exact⟨rfl,rfl⟩
theorem Zs (v:Wd) (w:World):Calls Tryz.prog 206 #[wv v,.int .u64 13] w fun e w'=>e=.returned (wv (rot v 13))/\w'=w:=by
 have M:=or13 v;rw[<-IntKind.wrap_u64] at M;go_enter Tryz.func206,Tryz.ntmps206
 go_wp2
 go_ret;exact⟨rfl,rfl⟩
theorem Td (v:Wd) (w:World):Calls Tryz.prog 206 #[wv v,.int .u64 32] w fun e w'=>e=.returned (wv (rot v 32))/\w'=w:=by
 have M:=or32 v;rw[<-IntKind.wrap_u64] at M;go_enter Tryz.func206,Tryz.ntmps206
 go_wp2
 go_ret;exact⟨rfl,rfl⟩
theorem Zt (v:Wd) (w:World):Calls Tryz.prog 206 #[wv v,.int .u64 16] w fun e w'=>e=.returned (wv (rot v 16))/\w'=w:=by
 have M:=or16 v;rw[<-IntKind.wrap_u64] at M;go_enter Tryz.func206,Tryz.ntmps206
 go_wp2
 go_ret;exact⟨rfl,rfl⟩
theorem Zu (v:Wd) (w:World):Calls Tryz.prog 206 #[wv v,.int .u64 21] w fun e w'=>e=.returned (wv (rot v 21))/\w'=w:=by
 have M:=or21 v;rw[<-IntKind.wrap_u64] at M;go_enter Tryz.func206,Tryz.ntmps206
 go_wp2
 go_ret;exact⟨rfl,rfl⟩
theorem Zv (v:Wd) (w:World):Calls Tryz.prog 206 #[wv v,.int .u64 17] w fun e w'=>e=.returned (wv (rot v 17))/\w'=w:=by
 have M:=or17 v;rw[<-IntKind.wrap_u64] at M;go_enter Tryz.func206,Tryz.ntmps206
 go_wp2
 go_ret;exact⟨rfl,rfl⟩
theorem Zw (M:Nat) (b:UInt8) (Z:M<72057594037927936):bits .or .u64 ((M:Int)*256) (b.toNat:Int)=((b.toNat+256*M:Nat):Int):=by
 have O:=b.toNat_lt;have e:(M:Int)*256=((M*256:Nat):Int):=by omega
 rw[e,u64_or_nat _ _ (by omega) (by omega)];have h:=nat_join 8 (M*256) b.toNat (by omega) (by omega);rw[h];omega
theorem Od (A:Option Addr) (n c:Nat) (l:List UInt8) (w:World) (B:Nat) (hn:n=l.length) (h8:n<=8) (hr:Rd w B A (bvs l)) :
  Calls Tryz.prog 166 #[.slice A n c] w fun e w'=>e=.returned (wv (wd (BJ l)))/\w'=w:=by
 have HR:=I hr;clear hr;have HN:=I hn;clear hn;have H8:=I h8;clear h8;have e8:(n:Int)<=8:=by have:=H8.o;omega
 go_enter Tryz.func166,Tryz.ntmps166
 go_wp2_with fail
 go_loop [3,4] (fun mv iv=>∃j:Nat,j<=n/\iv=.int .i64 ((j:Int) - 1)/\mv=.int .u64 (BJ (l.drop j):Nat)) (fun _ iv=>(intOf iv+1).toNat)
 case atStart=>exact⟨n,Nat.le_refl _,by go_num,by rw[List.drop_of_length_le (by have:=HN.o;omega)];rfl⟩
 case round=>
  obtain⟨j,hj,rfl,rfl⟩:=hrel;cases j with
  |zero=>
   have e:(BJ l:Int)=((wd (BJ l)).toNat:Int):=by rw[Kl _ (Lg (by have:=HN.o;have:=H8.o;omega))]
   rw[List.drop_zero];obtain⟨x,ex⟩:=Ak (BJ l);rw[<-ex] at e⊢;have E:=I e;clear e;have EX:=I ex;clear ex
   go_wp2_with fail
   go_ret;exact⟨by rw[wv,<-EX.o];simp [E.o],rfl⟩
  |succ j=>
   have hc:((j+1:Nat):Int) - 1=(j:Int):=by omega
   rw[hc];have Z:j<l.length:=by have:=HN.o;omega
   have hr:=HR.o;obtain⟨b,o,rfl,bq,O⟩:=hr.at_ (Gg Z);have av:w.cell? ⟨b,o+j,none⟩=some (.int .u8 ((l[j]).toNat:Int)):=O;clear O;obtain⟨y,ey⟩:=Ak (l[j]);rw[<-ey] at av;obtain⟨M,eM⟩:=Ak (BJ (l.drop (j+1)));rw[<-eM];have hM:M<72057594037927936:=by rw[eM];exact Tb (by rw[List.length_drop];have:=HN.o;have:=H8.o;omega)
   have e2:y.toNat+256*M=BJ (l.drop j):=by rw[eM,ey,List.drop_eq_getElem_cons Z,BJ]
   have hx:=Zw M y hM;rw[e2] at hx;obtain⟨M2,aw⟩:∃M,M=BJ (l.drop j):=⟨_,rfl⟩;rw[<-aw] at hx;have bb:=I aw;have e3:(0:Int)<=(j:Int):=by omega
   have e4:(j:Int)<(n:Int):=by omega
   have e5:j<n:=by omega
   have e7:(j:Int)<8:=by omega
   have hy:IntKind.u64.wrap (y.toNat:Int)=(y.toNat:Int):=by rw[IntKind.wrap_u64];have:=y.toNat_lt;omega
   have HJ:=I hj;have bn:=I Z;clear hj Z hr eM e2 ey aw
   go_wp2_with fail
   go_round
   case rel=>exact⟨j,by omega,by go_num,by rw[bb.o]⟩
   case measure=>simp [intOf]
def key8 (f:Nat->UInt8):Array Value:=#[.int .u8 (f 0).toNat,.int .u8 (f 1).toNat,.int .u8 (f 2).toNat,.int .u8 (f 3).toNat,.int .u8 (f 4).toNat,.int .u8 (f 5).toNat,.int .u8 (f 6).toNat,.int .u8 (f 7).toNat]
def Ia (f:Nat->UInt8) (i:Nat):Nat:=BJ ((List.range i).map f)
theorem QG (f:Nat->UInt8) (i:Nat):Ia f (i+1)=Ia f i+(f i).toNat*256 ^ i:=by
 unfold Ia;rw[List.range_succ,List.map_append,List.map_singleton,Hy];simp
theorem Wk (f:Nat->UInt8) (i:Nat):Ia f i<256 ^ i:=by
 have:=Hc ((List.range i).map f)
 simpa [Ia] using this
theorem or_at (f:Nat->UInt8) (i:Nat) (K:Int) (hi:i<=7) (O:K=((256 ^ i:Nat):Int)):bits .or .u64 (Ia f i:Nat) (IntKind.u64.wrap (((f i).toNat:Int)*K))=(Ia f (i+1):Nat):=by
 rw[QG];refine Lh _ _ i hi (Wk f i) _ ?_;have M:=Wj i hi;have Z:=(f i).toNat_lt;have h3:(f i).toNat*256 ^ i<=255*72057594037927936:=Nat.mul_le_mul (by omega) M;rw[O,IntKind.wrap_u64,<-Int.natCast_mul];omega
theorem DF (f:Nat->UInt8) (w:World) :
  Calls Tryz.prog 297 #[.agg (key8 f)] w fun e w'=>e=.returned (wv (wd (Ia f 8)))/\Below w.heap.size w w':=by
 unfold key8;go_enter Tryz.func297,Tryz.ntmps297
 go_wp2_with fail
 go_loop [3,7] (fun mv iv=>∃j:Nat,j<=8/\iv=.int .i64 (j:Int)/\mv=.int .u64 (Ia f j:Nat)) (fun _ iv=>8 - (intOf iv).toNat)
 case atStart=>exact⟨0,by decide,rfl,rfl⟩
 case round=>
  obtain⟨j,hj,rfl,rfl⟩:=hrel;obtain⟨M,eM⟩:=Ak (Ia f j);obtain⟨M2,av⟩:∃M,M=Ia f (j+1):=⟨_,rfl⟩;have O:∀K:Int,j<=7->K=((256 ^ j:Nat):Int)->bits .or .u64 (M:Int) (IntKind.u64.wrap (((f j).toNat:Int)*K))=(M2:Int):=fun K h1 h2=>by rw[eM,av];exact or_at f j K h1 h2
  rw[<-eM];have EM:=I eM;clear eM;have Z:=I av;clear av;have hs:j=0\/j=1\/j=2\/j=3\/j=4\/j=5\/j=6\/j=7\/j=8:=by omega
  clear hj;rcases hs with rfl | rfl | rfl | rfl | rfl | rfl | rfl | rfl | rfl
  ·have O:=O 1 (by decide) (by decide)
   have hy:IntKind.u64.wrap ((f 0).toNat:Int)=((f 0).toNat:Int):=by rw[IntKind.wrap_u64];have:=(f 0).toNat_lt;omega
   rw[Int.mul_one,hy] at O;have hi:∀w:World,(Instr.index 362 (.agg #[.int .u8 (f 0).toNat,.int .u8 (f 1).toNat,.int .u8 (f 2).toNat,.int .u8 (f 3).toNat,.int .u8 (f 4).toNat,.int .u8 (f 5).toNat,.int .u8 (f 6).toNat,.int .u8 (f 7).toNat]) (.int .i64 0)).run Tryz.prog w=.ok (.int .u8 (f 0).toNat) w:=fun _=>by kernel_rfl
   go_wp2_with fail
   go_round
   case rel=>exact⟨1,by decide,by go_num,by rw[Z.o]⟩
   case measure=>simp [intOf]
  ·have O:=O 256 (by decide) (by decide)
   have hy:IntKind.u64.wrap ((f 1).toNat:Int)=((f 1).toNat:Int):=by rw[IntKind.wrap_u64];have:=(f 1).toNat_lt;omega
   have hi:∀w:World,(Instr.index 362 (.agg #[.int .u8 (f 0).toNat,.int .u8 (f 1).toNat,.int .u8 (f 2).toNat,.int .u8 (f 3).toNat,.int .u8 (f 4).toNat,.int .u8 (f 5).toNat,.int .u8 (f 6).toNat,.int .u8 (f 7).toNat]) (.int .i64 1)).run Tryz.prog w=.ok (.int .u8 (f 1).toNat) w:=fun _=>by kernel_rfl
   go_wp2_with fail
   go_round
   case rel=>exact⟨2,by decide,by go_num,by rw[Z.o]⟩
   case measure=>simp [intOf]
  ·have O:=O 65536 (by decide) (by decide)
   have hy:IntKind.u64.wrap ((f 2).toNat:Int)=((f 2).toNat:Int):=by rw[IntKind.wrap_u64];have:=(f 2).toNat_lt;omega
   have hi:∀w:World,(Instr.index 362 (.agg #[.int .u8 (f 0).toNat,.int .u8 (f 1).toNat,.int .u8 (f 2).toNat,.int .u8 (f 3).toNat,.int .u8 (f 4).toNat,.int .u8 (f 5).toNat,.int .u8 (f 6).toNat,.int .u8 (f 7).toNat]) (.int .i64 2)).run Tryz.prog w=.ok (.int .u8 (f 2).toNat) w:=fun _=>by kernel_rfl
   go_wp2_with fail
   go_round
   case rel=>exact⟨3,by decide,by go_num,by rw[Z.o]⟩
   case measure=>simp [intOf]
  ·have O:=O 16777216 (by decide) (by decide)
   have hy:IntKind.u64.wrap ((f 3).toNat:Int)=((f 3).toNat:Int):=by rw[IntKind.wrap_u64];have:=(f 3).toNat_lt;omega
   have hi:∀w:World,(Instr.index 362 (.agg #[.int .u8 (f 0).toNat,.int .u8 (f 1).toNat,.int .u8 (f 2).toNat,.int .u8 (f 3).toNat,.int .u8 (f 4).toNat,.int .u8 (f 5).toNat,.int .u8 (f 6).toNat,.int .u8 (f 7).toNat]) (.int .i64 3)).run Tryz.prog w=.ok (.int .u8 (f 3).toNat) w:=fun _=>by kernel_rfl
   go_wp2_with fail
   go_round
   case rel=>exact⟨4,by decide,by go_num,by rw[Z.o]⟩
   case measure=>simp [intOf]
  ·have O:=O 4294967296 (by decide) (by decide)
   have hy:IntKind.u64.wrap ((f 4).toNat:Int)=((f 4).toNat:Int):=by rw[IntKind.wrap_u64];have:=(f 4).toNat_lt;omega
   have hi:∀w:World,(Instr.index 362 (.agg #[.int .u8 (f 0).toNat,.int .u8 (f 1).toNat,.int .u8 (f 2).toNat,.int .u8 (f 3).toNat,.int .u8 (f 4).toNat,.int .u8 (f 5).toNat,.int .u8 (f 6).toNat,.int .u8 (f 7).toNat]) (.int .i64 4)).run Tryz.prog w=.ok (.int .u8 (f 4).toNat) w:=fun _=>by kernel_rfl
   go_wp2_with fail
   go_round
   case rel=>exact⟨5,by decide,by go_num,by rw[Z.o]⟩
   case measure=>simp [intOf]
  ·have O:=O 1099511627776 (by decide) (by decide)
   have hy:IntKind.u64.wrap ((f 5).toNat:Int)=((f 5).toNat:Int):=by rw[IntKind.wrap_u64];have:=(f 5).toNat_lt;omega
   have hi:∀w:World,(Instr.index 362 (.agg #[.int .u8 (f 0).toNat,.int .u8 (f 1).toNat,.int .u8 (f 2).toNat,.int .u8 (f 3).toNat,.int .u8 (f 4).toNat,.int .u8 (f 5).toNat,.int .u8 (f 6).toNat,.int .u8 (f 7).toNat]) (.int .i64 5)).run Tryz.prog w=.ok (.int .u8 (f 5).toNat) w:=fun _=>by kernel_rfl
   go_wp2_with fail
   go_round
   case rel=>exact⟨6,by decide,by go_num,by rw[Z.o]⟩
   case measure=>simp [intOf]
  ·have O:=O 281474976710656 (by decide) (by decide)
   have hy:IntKind.u64.wrap ((f 6).toNat:Int)=((f 6).toNat:Int):=by rw[IntKind.wrap_u64];have:=(f 6).toNat_lt;omega
   have hi:∀w:World,(Instr.index 362 (.agg #[.int .u8 (f 0).toNat,.int .u8 (f 1).toNat,.int .u8 (f 2).toNat,.int .u8 (f 3).toNat,.int .u8 (f 4).toNat,.int .u8 (f 5).toNat,.int .u8 (f 6).toNat,.int .u8 (f 7).toNat]) (.int .i64 6)).run Tryz.prog w=.ok (.int .u8 (f 6).toNat) w:=fun _=>by kernel_rfl
   go_wp2_with fail
   go_round
   case rel=>exact⟨7,by decide,by go_num,by rw[Z.o]⟩
   case measure=>simp [intOf]
  ·have O:=O 72057594037927936 (by decide) (by decide)
   have hy:IntKind.u64.wrap ((f 7).toNat:Int)=((f 7).toNat:Int):=by rw[IntKind.wrap_u64];have:=(f 7).toNat_lt;omega
   have hi:∀w:World,(Instr.index 362 (.agg #[.int .u8 (f 0).toNat,.int .u8 (f 1).toNat,.int .u8 (f 2).toNat,.int .u8 (f 3).toNat,.int .u8 (f 4).toNat,.int .u8 (f 5).toNat,.int .u8 (f 6).toNat,.int .u8 (f 7).toNat]) (.int .i64 7)).run Tryz.prog w=.ok (.int .u8 (f 7).toNat) w:=fun _=>by kernel_rfl
   go_wp2_with fail
   go_round
   case rel=>exact⟨8,by decide,by go_num,by rw[Z.o]⟩
   case measure=>simp [intOf]
  ·have O:=Kl (Ia f 8) (Lg (by simp))
   have hz:M=(wd (Ia f 8)).toNat:=by rw[O];exact EM.o
   have HZ:=I hz;clear hz;clear O
   go_wp2_with fail
   go_ret;exact⟨by rw[wv,<-HZ.o];rfl,(Below.refl w.heap.size w).alloc Ag _⟩
def Jw (s:V) (R N:Value):Array Value:=#[wv s.a,wv s.b,wv s.c,wv s.d,R,N]
def DR (s:V):Array Value:=#[wv s.a,wv s.b,wv s.c,wv s.d]
theorem Km (g n:Nat) (s:V) (R N:Value) (w:World) (hn:n<=4) (hB:Blk w g 348 (Jw s R N)) :
  Calls Tryz.prog 299 #[.pointer (some ⟨g,0,none⟩),.int .i64 (n:Int)] w fun e w'=>e=.returned (.tuple #[])/\Blk w' g 348 (Jw (rnds n s) R N)/\w.grownBy w' (some g):=by
 have HB:=I hB;clear hB;go_enter Tryz.func299,Tryz.ntmps299
 go_wp2_with fail
 go_loopw [5] (fun iv wr=>∃i:Nat,i<=n/\iv=.int .i64 (i:Int)/\Blk wr g 348 (Jw (rnds i s) R N)/\w.grownBy wr (some g)) (fun iv _=>n - (intOf iv).toNat)
 case atStart=>exact⟨0,Nat.zero_le _,rfl,HB.o,World.grownBy.refl w _⟩
 case round=>
  obtain⟨i,hi,rfl,hB,hG⟩:=hrel
  by_cases hx:i=n
  ·subst hx
   have M:=I hB;clear hB;have cB:=I hG;clear hG
   go_wp2_with fail
   go_end0
   exact⟨rfl,M.o,cB.o⟩
  ·have fK:i<n:=by omega
   have e1:(i:Int)<(n:Int):=by omega
   have e2:(0:Int)<=(i:Int):=by omega
   have e3:(i:Int)<4:=by omega
   have HX:=I hx;clear hx;have HI:=I hi;clear hi;obtain⟨⟨a,b,c,d⟩,es⟩:∃t,t=rnds i s:=⟨_,rfl⟩;rw[<-es] at hB;have ES:=I es;clear es;have M:=I (show Blk wr g 348 #[wv a,wv b,wv c,wv d,R,N] from hB);clear hB;have cB:=I hG;clear hG
   go_upto_region 2 with fail
   obtain⟨a1,bB⟩:∃x,x=a+b:=⟨_,rfl⟩;obtain⟨q1,cR⟩:∃x,x=rot b 13:=⟨_,rfl⟩;obtain⟨b1,cM⟩:∃x,x=q1 ^^^ a1:=⟨_,rfl⟩;obtain⟨a2,ef⟩:∃x,x=rot a1 32:=⟨_,rfl⟩;obtain⟨c1,ca⟩:∃x,x=c+d:=⟨_,rfl⟩;obtain⟨q4,ct⟩:∃x,x=rot d 16:=⟨_,rfl⟩;obtain⟨d1,cx⟩:∃x,x=q4 ^^^ c1:=⟨_,rfl⟩;obtain⟨a3,cc⟩:∃x,x=a2+d1:=⟨_,rfl⟩;obtain⟨q6,cm⟩:∃x,x=rot d1 21:=⟨_,rfl⟩;obtain⟨d2,cp⟩:∃x,x=q6 ^^^ a3:=⟨_,rfl⟩;obtain⟨c2,cb⟩:∃x,x=c1+b1:=⟨_,rfl⟩;obtain⟨q8,cX⟩:∃x,x=rot b1 17:=⟨_,rfl⟩;obtain⟨b2,ec⟩:∃x,x=q8 ^^^ c2:=⟨_,rfl⟩;obtain⟨c3,cq⟩:∃x,x=rot c2 32:=⟨_,rfl⟩;have cd:rnd ⟨a,b,c,d⟩=⟨a3,b2,c3,d2⟩:=by subst bB cR cM ef ca ct cx cc cm cp cb cX ec cq;rfl
   have fb:=I cd;clear cd;have x0:IntKind.u64.wrap ((a.toNat:Int)+(b.toNat:Int))=(a1.toNat:Int):=by rw[bB];exact Iw _ _
   have y0:((a.toNat:Int)+(b.toNat:Int)) % 18446744073709551616=(a1.toNat:Int):=by rw[bB];exact Ge _ _
   have X0:=I x0;clear x0;have Y0:=I y0;clear y0;have x1:bits .xor .u64 (q1.toNat:Int) (a1.toNat:Int)=(b1.toNat:Int):=by rw[cM];exact Bs _ _
   have X1:=I x1;clear x1;have l1:=bR b;rw[<-cR] at l1;have l2:=XT a1;rw[<-ef] at l2;have x3:IntKind.u64.wrap ((c.toNat:Int)+(d.toNat:Int))=(c1.toNat:Int):=by rw[ca];exact Iw _ _
   have y3:((c.toNat:Int)+(d.toNat:Int)) % 18446744073709551616=(c1.toNat:Int):=by rw[ca];exact Ge _ _
   have X3:=I x3;clear x3;have Y3:=I y3;clear y3;have x4:bits .xor .u64 (q4.toNat:Int) (c1.toNat:Int)=(d1.toNat:Int):=by rw[cx];exact Bs _ _
   have X4:=I x4;clear x4;have l4:=bS d;rw[<-ct] at l4;have x5:IntKind.u64.wrap ((a2.toNat:Int)+(d1.toNat:Int))=(a3.toNat:Int):=by rw[cc];exact Iw _ _
   have y5:((a2.toNat:Int)+(d1.toNat:Int)) % 18446744073709551616=(a3.toNat:Int):=by rw[cc];exact Ge _ _
   have X5:=I x5;clear x5;have Y5:=I y5;clear y5;have x6:bits .xor .u64 (q6.toNat:Int) (a3.toNat:Int)=(d2.toNat:Int):=by rw[cp];exact Bs _ _
   have X6:=I x6;clear x6;have l6:=bT d1;rw[<-cm] at l6;have x7:IntKind.u64.wrap ((c1.toNat:Int)+(b1.toNat:Int))=(c2.toNat:Int):=by rw[cb];exact Iw _ _
   have y7:((c1.toNat:Int)+(b1.toNat:Int)) % 18446744073709551616=(c2.toNat:Int):=by rw[cb];exact Ge _ _
   have X7:=I x7;clear x7;have Y7:=I y7;clear y7;have x8:bits .xor .u64 (q8.toNat:Int) (c2.toNat:Int)=(b2.toNat:Int):=by rw[ec];exact Bs _ _
   have X8:=I x8;clear x8;have l8:=bU b1;rw[<-cX] at l8;have l9:=XT c2;rw[<-cq] at l9;clear bB cR cM ef ca ct cx cc cm cp cb cX ec cq;have fD:=Blk.frozen M.o;have eW:wr.cell? ⟨g,0,none⟩=some (.int .u64 (a.toNat:Int)):=by rw[Blk.cell M.o];rfl
   have ft:wr.cell? ⟨g,1,none⟩=some (.int .u64 (b.toNat:Int)):=by rw[Blk.cell M.o];rfl
   have fl:wr.cell? ⟨g,2,none⟩=some (.int .u64 (c.toNat:Int)):=by rw[Blk.cell M.o];rfl
   have ej:wr.cell? ⟨g,3,none⟩=some (.int .u64 (d.toNat:Int)):=by rw[Blk.cell M.o];rfl
   have x0:=X0.o;have y0:=Y0.o;refine wp_region_still_tail 11 (by kernel_rfl) (by kernel_rfl) ?_;simp only[List.take_succ_cons,List.take_zero,List.drop_succ_cons,List.drop_zero];change wpStill _ _ wr.drew _ _ _
   repeat still_step
   refine wpStill_nil ?_;change wpList _ _ _ _ _ wr.drew
   go_upto_region 3 with fail
   have ei:Blk (wr.setCell ⟨g,0,none⟩ (.int .u64 (a1.toNat:Int))).drew g 348 #[wv a1,wv b,wv c,wv d,R,N]:=Blk.set M.o 0 (wv a1);have ed:w.grownBy (wr.setCell ⟨g,0,none⟩ (.int .u64 (a1.toNat:Int))).drew (some g):=Ba (AN cB.o (.inl rfl) _);generalize (wr.setCell ⟨g,0,none⟩ (.int .u64 (a1.toNat:Int))).drew=v1 at ei ed⊢;clear fD eW ft fl ej x0 y0 X0 Y0;have bb:=I ei;clear ei;have et:=I ed;clear ed;have fF:=Blk.frozen bb.o;have fh:v1.cell? ⟨g,0,none⟩=some (.int .u64 (a1.toNat:Int)):=by rw[Blk.cell bb.o];rfl
   have fq:v1.cell? ⟨g,1,none⟩=some (.int .u64 (b.toNat:Int)):=by rw[Blk.cell bb.o];rfl
   have ek:v1.cell? ⟨g,2,none⟩=some (.int .u64 (c.toNat:Int)):=by rw[Blk.cell bb.o];rfl
   have eJ:v1.cell? ⟨g,3,none⟩=some (.int .u64 (d.toNat:Int)):=by rw[Blk.cell bb.o];rfl
   have x1:=X1.o;refine wp_region_still_tail 13 (by kernel_rfl) (by kernel_rfl) ?_;simp only[List.take_succ_cons,List.take_zero,List.drop_succ_cons,List.drop_zero];change wpStill _ _ v1.drew _ _ _
   repeat still_step
   still_call (l1 v1.drew)
   repeat still_step
   refine wpStill_nil ?_;change wpList _ _ _ _ _ v1.drew
   go_upto_region 4 with fail
   have cf:Blk (v1.setCell ⟨g,1,none⟩ (.int .u64 (b1.toNat:Int))).drew g 348 #[wv a1,wv b1,wv c,wv d,R,N]:=Blk.set bb.o 1 (wv b1);have ck:w.grownBy (v1.setCell ⟨g,1,none⟩ (.int .u64 (b1.toNat:Int))).drew (some g):=Ba (AN et.o (.inl rfl) _);generalize (v1.setCell ⟨g,1,none⟩ (.int .u64 (b1.toNat:Int))).drew=v2 at cf ck⊢;clear fF fh fq ek eJ x1 X1 l1;clear bb et;have bn:=I cf;clear cf;have eB:=I ck;clear ck;have fI:=Blk.frozen bn.o;have eZ:v2.cell? ⟨g,0,none⟩=some (.int .u64 (a1.toNat:Int)):=by rw[Blk.cell bn.o];rfl
   have fm:v2.cell? ⟨g,1,none⟩=some (.int .u64 (b1.toNat:Int)):=by rw[Blk.cell bn.o];rfl
   have fc:v2.cell? ⟨g,2,none⟩=some (.int .u64 (c.toNat:Int)):=by rw[Blk.cell bn.o];rfl
   have eu:v2.cell? ⟨g,3,none⟩=some (.int .u64 (d.toNat:Int)):=by rw[Blk.cell bn.o];rfl
   go_upto_region 5 with(go_at_call 309;refine Aj (l2 _) ?_;rintro w' hw;have hw:=hw.symm;subst hw)
   have eg:Blk (v2.setCell ⟨g,0,none⟩ (.int .u64 (a2.toNat:Int))) g 348 #[wv a2,wv b1,wv c,wv d,R,N]:=Blk.set bn.o 0 (wv a2);have cu:w.grownBy (v2.setCell ⟨g,0,none⟩ (.int .u64 (a2.toNat:Int))) (some g):=(AN eB.o (.inl rfl) _);generalize (v2.setCell ⟨g,0,none⟩ (.int .u64 (a2.toNat:Int)))=v3 at eg cu⊢;clear fI eZ fm fc eu l2;clear bn eB;have O:=I eg;clear eg;have eo:=I cu;clear cu;have fB:=Blk.frozen O.o;have fp:v3.cell? ⟨g,0,none⟩=some (.int .u64 (a2.toNat:Int)):=by rw[Blk.cell O.o];rfl
   have fr:v3.cell? ⟨g,1,none⟩=some (.int .u64 (b1.toNat:Int)):=by rw[Blk.cell O.o];rfl
   have ff:v3.cell? ⟨g,2,none⟩=some (.int .u64 (c.toNat:Int)):=by rw[Blk.cell O.o];rfl
   have eR:v3.cell? ⟨g,3,none⟩=some (.int .u64 (d.toNat:Int)):=by rw[Blk.cell O.o];rfl
   have x3:=X3.o;have y3:=Y3.o;refine wp_region_still_tail 11 (by kernel_rfl) (by kernel_rfl) ?_;simp only[List.take_succ_cons,List.take_zero,List.drop_succ_cons,List.drop_zero];change wpStill _ _ v3.drew _ _ _
   repeat still_step
   refine wpStill_nil ?_;change wpList _ _ _ _ _ v3.drew
   go_upto_region 6 with fail
   have cT:Blk (v3.setCell ⟨g,2,none⟩ (.int .u64 (c1.toNat:Int))).drew g 348 #[wv a2,wv b1,wv c1,wv d,R,N]:=Blk.set O.o 2 (wv c1);have cj:w.grownBy (v3.setCell ⟨g,2,none⟩ (.int .u64 (c1.toNat:Int))).drew (some g):=Ba (AN eo.o (.inl rfl) _);generalize (v3.setCell ⟨g,2,none⟩ (.int .u64 (c1.toNat:Int))).drew=v4 at cT cj⊢;clear fB fp fr ff eR x3 y3 X3 Y3;clear O eo;have aw:=I cT;clear cT;have eE:=I cj;clear cj;have fz:=Blk.frozen aw.o;have fe:v4.cell? ⟨g,0,none⟩=some (.int .u64 (a2.toNat:Int)):=by rw[Blk.cell aw.o];rfl
   have fo:v4.cell? ⟨g,1,none⟩=some (.int .u64 (b1.toNat:Int)):=by rw[Blk.cell aw.o];rfl
   have ey:v4.cell? ⟨g,2,none⟩=some (.int .u64 (c1.toNat:Int)):=by rw[Blk.cell aw.o];rfl
   have ez:v4.cell? ⟨g,3,none⟩=some (.int .u64 (d.toNat:Int)):=by rw[Blk.cell aw.o];rfl
   have x4:=X4.o;refine wp_region_still_tail 13 (by kernel_rfl) (by kernel_rfl) ?_;simp only[List.take_succ_cons,List.take_zero,List.drop_succ_cons,List.drop_zero];change wpStill _ _ v4.drew _ _ _
   repeat still_step
   still_call (l4 v4.drew)
   repeat still_step
   refine wpStill_nil ?_;change wpList _ _ _ _ _ v4.drew
   go_upto_region 7 with fail
   have eb:Blk (v4.setCell ⟨g,3,none⟩ (.int .u64 (d1.toNat:Int))).drew g 348 #[wv a2,wv b1,wv c1,wv d1,R,N]:=Blk.set aw.o 3 (wv d1);have cA:w.grownBy (v4.setCell ⟨g,3,none⟩ (.int .u64 (d1.toNat:Int))).drew (some g):=Ba (AN eE.o (.inl rfl) _);generalize (v4.setCell ⟨g,3,none⟩ (.int .u64 (d1.toNat:Int))).drew=v5 at eb cA⊢;clear fz fe fo ey ez x4 X4 l4;clear aw eE;have Z:=I eb;clear eb;have ev:=I cA;clear cA;have fH:=Blk.frozen Z.o;have fu:v5.cell? ⟨g,0,none⟩=some (.int .u64 (a2.toNat:Int)):=by rw[Blk.cell Z.o];rfl
   have er:v5.cell? ⟨g,1,none⟩=some (.int .u64 (b1.toNat:Int)):=by rw[Blk.cell Z.o];rfl
   have eY:v5.cell? ⟨g,2,none⟩=some (.int .u64 (c1.toNat:Int)):=by rw[Blk.cell Z.o];rfl
   have eT:v5.cell? ⟨g,3,none⟩=some (.int .u64 (d1.toNat:Int)):=by rw[Blk.cell Z.o];rfl
   have x5:=X5.o;have y5:=Y5.o;refine wp_region_still_tail 11 (by kernel_rfl) (by kernel_rfl) ?_;simp only[List.take_succ_cons,List.take_zero,List.drop_succ_cons,List.drop_zero];change wpStill _ _ v5.drew _ _ _
   repeat still_step
   refine wpStill_nil ?_;change wpList _ _ _ _ _ v5.drew
   go_upto_region 8 with fail
   have cL:Blk (v5.setCell ⟨g,0,none⟩ (.int .u64 (a3.toNat:Int))).drew g 348 #[wv a3,wv b1,wv c1,wv d1,R,N]:=Blk.set Z.o 0 (wv a3);have cY:w.grownBy (v5.setCell ⟨g,0,none⟩ (.int .u64 (a3.toNat:Int))).drew (some g):=Ba (AN ev.o (.inl rfl) _);generalize (v5.setCell ⟨g,0,none⟩ (.int .u64 (a3.toNat:Int))).drew=v6 at cL cY⊢;clear fH fu er eY eT x5 y5 X5 Y5;clear Z ev;have bx:=I cL;clear cL;have eQ:=I cY;clear cY;have fJ:=Blk.frozen bx.o;have eP:v6.cell? ⟨g,0,none⟩=some (.int .u64 (a3.toNat:Int)):=by rw[Blk.cell bx.o];rfl
   have fx:v6.cell? ⟨g,1,none⟩=some (.int .u64 (b1.toNat:Int)):=by rw[Blk.cell bx.o];rfl
   have fj:v6.cell? ⟨g,2,none⟩=some (.int .u64 (c1.toNat:Int)):=by rw[Blk.cell bx.o];rfl
   have fv:v6.cell? ⟨g,3,none⟩=some (.int .u64 (d1.toNat:Int)):=by rw[Blk.cell bx.o];rfl
   have x6:=X6.o;refine wp_region_still_tail 13 (by kernel_rfl) (by kernel_rfl) ?_;simp only[List.take_succ_cons,List.take_zero,List.drop_succ_cons,List.drop_zero];change wpStill _ _ v6.drew _ _ _
   repeat still_step
   still_call (l6 v6.drew)
   repeat still_step
   refine wpStill_nil ?_;change wpList _ _ _ _ _ v6.drew
   go_upto_region 9 with fail
   have cy:Blk (v6.setCell ⟨g,3,none⟩ (.int .u64 (d2.toNat:Int))).drew g 348 #[wv a3,wv b1,wv c1,wv d2,R,N]:=Blk.set bx.o 3 (wv d2);have cg:w.grownBy (v6.setCell ⟨g,3,none⟩ (.int .u64 (d2.toNat:Int))).drew (some g):=Ba (AN eQ.o (.inl rfl) _);generalize (v6.setCell ⟨g,3,none⟩ (.int .u64 (d2.toNat:Int))).drew=v7 at cy cg⊢;clear fJ eP fx fj fv x6 X6 l6;clear bx eQ;have bz:=I cy;clear cy;have eK:=I cg;clear cg;have fC:=Blk.frozen bz.o;have eX:v7.cell? ⟨g,0,none⟩=some (.int .u64 (a3.toNat:Int)):=by rw[Blk.cell bz.o];rfl
   have eN:v7.cell? ⟨g,1,none⟩=some (.int .u64 (b1.toNat:Int)):=by rw[Blk.cell bz.o];rfl
   have eU:v7.cell? ⟨g,2,none⟩=some (.int .u64 (c1.toNat:Int)):=by rw[Blk.cell bz.o];rfl
   have fi:v7.cell? ⟨g,3,none⟩=some (.int .u64 (d2.toNat:Int)):=by rw[Blk.cell bz.o];rfl
   have x7:=X7.o;have y7:=Y7.o;refine wp_region_still_tail 11 (by kernel_rfl) (by kernel_rfl) ?_;simp only[List.take_succ_cons,List.take_zero,List.drop_succ_cons,List.drop_zero];change wpStill _ _ v7.drew _ _ _
   repeat still_step
   refine wpStill_nil ?_;change wpList _ _ _ _ _ v7.drew
   go_upto_region 10 with fail
   have cQ:Blk (v7.setCell ⟨g,2,none⟩ (.int .u64 (c2.toNat:Int))).drew g 348 #[wv a3,wv b1,wv c2,wv d2,R,N]:=Blk.set bz.o 2 (wv c2);have cn:w.grownBy (v7.setCell ⟨g,2,none⟩ (.int .u64 (c2.toNat:Int))).drew (some g):=Ba (AN eK.o (.inl rfl) _);generalize (v7.setCell ⟨g,2,none⟩ (.int .u64 (c2.toNat:Int))).drew=v8 at cQ cn⊢;clear fC eX eN eU fi x7 y7 X7 Y7;clear bz eK;have bq:=I cQ;clear cQ;have ep:=I cn;clear cn;have fE:=Blk.frozen bq.o;have eL:v8.cell? ⟨g,0,none⟩=some (.int .u64 (a3.toNat:Int)):=by rw[Blk.cell bq.o];rfl
   have fw:v8.cell? ⟨g,1,none⟩=some (.int .u64 (b1.toNat:Int)):=by rw[Blk.cell bq.o];rfl
   have fk:v8.cell? ⟨g,2,none⟩=some (.int .u64 (c2.toNat:Int)):=by rw[Blk.cell bq.o];rfl
   have eV:v8.cell? ⟨g,3,none⟩=some (.int .u64 (d2.toNat:Int)):=by rw[Blk.cell bq.o];rfl
   have x8:=X8.o;refine wp_region_still_tail 13 (by kernel_rfl) (by kernel_rfl) ?_;simp only[List.take_succ_cons,List.take_zero,List.drop_succ_cons,List.drop_zero];change wpStill _ _ v8.drew _ _ _
   repeat still_step
   still_call (l8 v8.drew)
   repeat still_step
   refine wpStill_nil ?_;change wpList _ _ _ _ _ v8.drew
   go_upto_region 11 with fail
   have ea:Blk (v8.setCell ⟨g,1,none⟩ (.int .u64 (b2.toNat:Int))).drew g 348 #[wv a3,wv b2,wv c2,wv d2,R,N]:=Blk.set bq.o 1 (wv b2);have cw:w.grownBy (v8.setCell ⟨g,1,none⟩ (.int .u64 (b2.toNat:Int))).drew (some g):=Ba (AN ep.o (.inl rfl) _);generalize (v8.setCell ⟨g,1,none⟩ (.int .u64 (b2.toNat:Int))).drew=v9 at ea cw⊢;clear fE eL fw fk eV x8 X8 l8;clear bq ep;have av:=I ea;clear ea;have eM:=I cw;clear cw;have fA:=Blk.frozen av.o;have eF:v9.cell? ⟨g,0,none⟩=some (.int .u64 (a3.toNat:Int)):=by rw[Blk.cell av.o];rfl
   have fg:v9.cell? ⟨g,1,none⟩=some (.int .u64 (b2.toNat:Int)):=by rw[Blk.cell av.o];rfl
   have fs:v9.cell? ⟨g,2,none⟩=some (.int .u64 (c2.toNat:Int)):=by rw[Blk.cell av.o];rfl
   have ew:v9.cell? ⟨g,3,none⟩=some (.int .u64 (d2.toNat:Int)):=by rw[Blk.cell av.o];rfl
   go_upto_region 12 with(go_at_call 309;refine Aj (l9 _) ?_;rintro w' hw;have hw:=hw.symm;subst hw)
   have cr:Blk (v9.setCell ⟨g,2,none⟩ (.int .u64 (c3.toNat:Int))) g 348 #[wv a3,wv b2,wv c3,wv d2,R,N]:=Blk.set av.o 2 (wv c3);have cP:w.grownBy (v9.setCell ⟨g,2,none⟩ (.int .u64 (c3.toNat:Int))) (some g):=(AN eM.o (.inl rfl) _);generalize (v9.setCell ⟨g,2,none⟩ (.int .u64 (c3.toNat:Int)))=v10 at cr cP⊢;clear fA eF fg fs ew l9;clear av eM;have fy:=I cr;clear cr;have fG:=I cP;clear cP
   go_wp2_with fail
   go_roundw
   case rel=>exact⟨i+1,by omega,by go_num,by rw[rnds,<-ES.o,fb.o];exact fy.o,fG.o⟩
   case measure=>simp [intOf];omega
theorem Py (g:Nat) (s:V) (w:World) (hB:Blk w g 275 (DR s)) :
  Calls Tryz.prog 168 #[.pointer (some ⟨g,0,none⟩)] w fun e w'=>e=.returned (.tuple #[])/\Blk w' g 275 (DR (rnd s))/\w.grownBy w' (some g):=by
 obtain⟨a,b,c,d⟩:=s;have bz:=I (show Blk w g 275 #[wv a,wv b,wv c,wv d] from hB);clear hB;have fF:=I (World.grownBy.refl w (some g));go_enter Tryz.func168,Tryz.ntmps168
 go_upto_region 0 with fail
 obtain⟨a1,bB⟩:∃x,x=a+b:=⟨_,rfl⟩;obtain⟨q1,cM⟩:∃x,x=rot b 13:=⟨_,rfl⟩;obtain⟨b1,cB⟩:∃x,x=q1 ^^^ a1:=⟨_,rfl⟩;obtain⟨a2,eb⟩:∃x,x=rot a1 32:=⟨_,rfl⟩;obtain⟨c1,ca⟩:∃x,x=c+d:=⟨_,rfl⟩;obtain⟨q4,cr⟩:∃x,x=rot d 16:=⟨_,rfl⟩;obtain⟨d1,cw⟩:∃x,x=q4 ^^^ c1:=⟨_,rfl⟩;obtain⟨a3,cc⟩:∃x,x=a2+d1:=⟨_,rfl⟩;obtain⟨q6,cm⟩:∃x,x=rot d1 21:=⟨_,rfl⟩;obtain⟨d2,cp⟩:∃x,x=q6 ^^^ a3:=⟨_,rfl⟩;obtain⟨c2,cb⟩:∃x,x=c1+b1:=⟨_,rfl⟩;obtain⟨q8,cQ⟩:∃x,x=rot b1 17:=⟨_,rfl⟩;obtain⟨b2,cY⟩:∃x,x=q8 ^^^ c2:=⟨_,rfl⟩;obtain⟨c3,cq⟩:∃x,x=rot c2 32:=⟨_,rfl⟩;have cd:rnd ⟨a,b,c,d⟩=⟨a3,b2,c3,d2⟩:=by subst bB cM cB eb ca cr cw cc cm cp cb cQ cY cq;rfl
 have eZ:=I cd;clear cd;have x0:IntKind.u64.wrap ((a.toNat:Int)+(b.toNat:Int))=(a1.toNat:Int):=by rw[bB];exact Iw _ _
 have y0:((a.toNat:Int)+(b.toNat:Int)) % 18446744073709551616=(a1.toNat:Int):=by rw[bB];exact Ge _ _
 have X0:=I x0;clear x0;have Y0:=I y0;clear y0;have x1:bits .xor .u64 (q1.toNat:Int) (a1.toNat:Int)=(b1.toNat:Int):=by rw[cB];exact Bs _ _
 have X1:=I x1;clear x1;have l1:=Zs b;rw[<-cM] at l1;have l2:=Td a1;rw[<-eb] at l2;have x3:IntKind.u64.wrap ((c.toNat:Int)+(d.toNat:Int))=(c1.toNat:Int):=by rw[ca];exact Iw _ _
 have y3:((c.toNat:Int)+(d.toNat:Int)) % 18446744073709551616=(c1.toNat:Int):=by rw[ca];exact Ge _ _
 have X3:=I x3;clear x3;have Y3:=I y3;clear y3;have x4:bits .xor .u64 (q4.toNat:Int) (c1.toNat:Int)=(d1.toNat:Int):=by rw[cw];exact Bs _ _
 have X4:=I x4;clear x4;have l4:=Zt d;rw[<-cr] at l4;have x5:IntKind.u64.wrap ((a2.toNat:Int)+(d1.toNat:Int))=(a3.toNat:Int):=by rw[cc];exact Iw _ _
 have y5:((a2.toNat:Int)+(d1.toNat:Int)) % 18446744073709551616=(a3.toNat:Int):=by rw[cc];exact Ge _ _
 have X5:=I x5;clear x5;have Y5:=I y5;clear y5;have x6:bits .xor .u64 (q6.toNat:Int) (a3.toNat:Int)=(d2.toNat:Int):=by rw[cp];exact Bs _ _
 have X6:=I x6;clear x6;have l6:=Zu d1;rw[<-cm] at l6;have x7:IntKind.u64.wrap ((c1.toNat:Int)+(b1.toNat:Int))=(c2.toNat:Int):=by rw[cb];exact Iw _ _
 have y7:((c1.toNat:Int)+(b1.toNat:Int)) % 18446744073709551616=(c2.toNat:Int):=by rw[cb];exact Ge _ _
 have X7:=I x7;clear x7;have Y7:=I y7;clear y7;have x8:bits .xor .u64 (q8.toNat:Int) (c2.toNat:Int)=(b2.toNat:Int):=by rw[cY];exact Bs _ _
 have X8:=I x8;clear x8;have l8:=Zv b1;rw[<-cQ] at l8;have l9:=Td c2;rw[<-cq] at l9;clear bB cM cB eb ca cr cw cc cm cp cb cQ cY cq;have fC:=Blk.frozen bz.o;have eV:w.cell? ⟨g,0,none⟩=some (.int .u64 (a.toNat:Int)):=by rw[Blk.cell bz.o];rfl
 have fs:w.cell? ⟨g,1,none⟩=some (.int .u64 (b.toNat:Int)):=by rw[Blk.cell bz.o];rfl
 have fk:w.cell? ⟨g,2,none⟩=some (.int .u64 (c.toNat:Int)):=by rw[Blk.cell bz.o];rfl
 have ef:w.cell? ⟨g,3,none⟩=some (.int .u64 (d.toNat:Int)):=by rw[Blk.cell bz.o];rfl
 have x0:=X0.o;have y0:=Y0.o;refine wp_region_still_tail 12 (by kernel_rfl) (by kernel_rfl) ?_;simp only[List.take_succ_cons,List.take_zero,List.drop_succ_cons,List.drop_zero];change wpStill _ _ w.drew _ _ _
 repeat still_step
 refine wpStill_nil ?_;change wpList _ _ _ _ _ w.drew
 go_upto_region 1 with fail
 have ed:Blk (w.setCell ⟨g,0,none⟩ (.int .u64 (a1.toNat:Int))).drew g 275 #[wv a1,wv b,wv c,wv d]:=Blk.set bz.o 0 (wv a1);have ea:w.grownBy (w.setCell ⟨g,0,none⟩ (.int .u64 (a1.toNat:Int))).drew (some g):=Ba (AN fF.o (.inl rfl) _);generalize (w.setCell ⟨g,0,none⟩ (.int .u64 (a1.toNat:Int))).drew=v1 at ed ea⊢;clear fC eV fs fk ef x0 y0 X0 Y0;have aw:=I ed;clear ed;have eo:=I ea;clear ea;have fE:=Blk.frozen aw.o;have fg:v1.cell? ⟨g,0,none⟩=some (.int .u64 (a1.toNat:Int)):=by rw[Blk.cell aw.o];rfl
 have fp:v1.cell? ⟨g,1,none⟩=some (.int .u64 (b.toNat:Int)):=by rw[Blk.cell aw.o];rfl
 have eg:v1.cell? ⟨g,2,none⟩=some (.int .u64 (c.toNat:Int)):=by rw[Blk.cell aw.o];rfl
 have eE:v1.cell? ⟨g,3,none⟩=some (.int .u64 (d.toNat:Int)):=by rw[Blk.cell aw.o];rfl
 have x1:=X1.o;refine wp_region_still_tail 13 (by kernel_rfl) (by kernel_rfl) ?_;simp only[List.take_succ_cons,List.take_zero,List.drop_succ_cons,List.drop_zero];change wpStill _ _ v1.drew _ _ _
 repeat still_step
 still_call (l1 v1.drew)
 repeat still_step
 refine wpStill_nil ?_;change wpList _ _ _ _ _ v1.drew
 go_upto_region 2 with fail
 have cf:Blk (v1.setCell ⟨g,1,none⟩ (.int .u64 (b1.toNat:Int))).drew g 275 #[wv a1,wv b1,wv c,wv d]:=Blk.set aw.o 1 (wv b1);have ck:w.grownBy (v1.setCell ⟨g,1,none⟩ (.int .u64 (b1.toNat:Int))).drew (some g):=Ba (AN eo.o (.inl rfl) _);generalize (v1.setCell ⟨g,1,none⟩ (.int .u64 (b1.toNat:Int))).drew=v2 at cf ck⊢;clear fE fg fp eg eE x1 X1 l1;clear aw eo;have bb:=I cf;clear cf;have ew:=I ck;clear ck;have fI:=Blk.frozen bb.o;have eY:v2.cell? ⟨g,0,none⟩=some (.int .u64 (a1.toNat:Int)):=by rw[Blk.cell bb.o];rfl
 have fl:v2.cell? ⟨g,1,none⟩=some (.int .u64 (b1.toNat:Int)):=by rw[Blk.cell bb.o];rfl
 have fb:v2.cell? ⟨g,2,none⟩=some (.int .u64 (c.toNat:Int)):=by rw[Blk.cell bb.o];rfl
 have ep:v2.cell? ⟨g,3,none⟩=some (.int .u64 (d.toNat:Int)):=by rw[Blk.cell bb.o];rfl
 refine wp_region_still_tail 8 (by kernel_rfl) (by kernel_rfl) ?_;simp only[List.take_succ_cons,List.take_zero,List.drop_succ_cons,List.drop_zero];change wpStill _ _ v2.drew _ _ _
 repeat still_step
 still_call (l2 v2.drew)
 repeat still_step
 refine wpStill_nil ?_;change wpList _ _ _ _ _ v2.drew
 go_upto_region 3 with fail
 have ec:Blk (v2.setCell ⟨g,0,none⟩ (.int .u64 (a2.toNat:Int))).drew g 275 #[wv a2,wv b1,wv c,wv d]:=Blk.set bb.o 0 (wv a2);have ct:w.grownBy (v2.setCell ⟨g,0,none⟩ (.int .u64 (a2.toNat:Int))).drew (some g):=Ba (AN ew.o (.inl rfl) _);generalize (v2.setCell ⟨g,0,none⟩ (.int .u64 (a2.toNat:Int))).drew=v3 at ec ct⊢;clear fI eY fl fb ep l2;clear bb ew;have M:=I ec;clear ec;have ei:=I ct;clear ct;have fA:=Blk.frozen M.o;have fo:v3.cell? ⟨g,0,none⟩=some (.int .u64 (a2.toNat:Int)):=by rw[Blk.cell M.o];rfl
 have fq:v3.cell? ⟨g,1,none⟩=some (.int .u64 (b1.toNat:Int)):=by rw[Blk.cell M.o];rfl
 have fe:v3.cell? ⟨g,2,none⟩=some (.int .u64 (c.toNat:Int)):=by rw[Blk.cell M.o];rfl
 have eP:v3.cell? ⟨g,3,none⟩=some (.int .u64 (d.toNat:Int)):=by rw[Blk.cell M.o];rfl
 have x3:=X3.o;have y3:=Y3.o;refine wp_region_still_tail 12 (by kernel_rfl) (by kernel_rfl) ?_;simp only[List.take_succ_cons,List.take_zero,List.drop_succ_cons,List.drop_zero];change wpStill _ _ v3.drew _ _ _
 repeat still_step
 refine wpStill_nil ?_;change wpList _ _ _ _ _ v3.drew
 go_upto_region 4 with fail
 have cP:Blk (v3.setCell ⟨g,2,none⟩ (.int .u64 (c1.toNat:Int))).drew g 275 #[wv a2,wv b1,wv c1,wv d]:=Blk.set M.o 2 (wv c1);have cj:w.grownBy (v3.setCell ⟨g,2,none⟩ (.int .u64 (c1.toNat:Int))).drew (some g):=Ba (AN ei.o (.inl rfl) _);generalize (v3.setCell ⟨g,2,none⟩ (.int .u64 (c1.toNat:Int))).drew=v4 at cP cj⊢;clear fA fo fq fe eP x3 y3 X3 Y3;clear M ei;have av:=I cP;clear cP;have ey:=I cj;clear cj;have fy:=Blk.frozen av.o;have fc:v4.cell? ⟨g,0,none⟩=some (.int .u64 (a2.toNat:Int)):=by rw[Blk.cell av.o];rfl
 have fm:v4.cell? ⟨g,1,none⟩=some (.int .u64 (b1.toNat:Int)):=by rw[Blk.cell av.o];rfl
 have eu:v4.cell? ⟨g,2,none⟩=some (.int .u64 (c1.toNat:Int)):=by rw[Blk.cell av.o];rfl
 have ev:v4.cell? ⟨g,3,none⟩=some (.int .u64 (d.toNat:Int)):=by rw[Blk.cell av.o];rfl
 have x4:=X4.o;refine wp_region_still_tail 13 (by kernel_rfl) (by kernel_rfl) ?_;simp only[List.take_succ_cons,List.take_zero,List.drop_succ_cons,List.drop_zero];change wpStill _ _ v4.drew _ _ _
 repeat still_step
 still_call (l4 v4.drew)
 repeat still_step
 refine wpStill_nil ?_;change wpList _ _ _ _ _ v4.drew
 go_upto_region 5 with fail
 have cX:Blk (v4.setCell ⟨g,3,none⟩ (.int .u64 (d1.toNat:Int))).drew g 275 #[wv a2,wv b1,wv c1,wv d1]:=Blk.set av.o 3 (wv d1);have cy:w.grownBy (v4.setCell ⟨g,3,none⟩ (.int .u64 (d1.toNat:Int))).drew (some g):=Ba (AN ey.o (.inl rfl) _);generalize (v4.setCell ⟨g,3,none⟩ (.int .u64 (d1.toNat:Int))).drew=v5 at cX cy⊢;clear fy fc fm eu ev x4 X4 l4;clear av ey;have O:=I cX;clear cX;have er:=I cy;clear cy;have fH:=Blk.frozen O.o;have ft:v5.cell? ⟨g,0,none⟩=some (.int .u64 (a2.toNat:Int)):=by rw[Blk.cell O.o];rfl
 have ek:v5.cell? ⟨g,1,none⟩=some (.int .u64 (b1.toNat:Int)):=by rw[Blk.cell O.o];rfl
 have eX:v5.cell? ⟨g,2,none⟩=some (.int .u64 (c1.toNat:Int)):=by rw[Blk.cell O.o];rfl
 have eQ:v5.cell? ⟨g,3,none⟩=some (.int .u64 (d1.toNat:Int)):=by rw[Blk.cell O.o];rfl
 have x5:=X5.o;have y5:=Y5.o;refine wp_region_still_tail 12 (by kernel_rfl) (by kernel_rfl) ?_;simp only[List.take_succ_cons,List.take_zero,List.drop_succ_cons,List.drop_zero];change wpStill _ _ v5.drew _ _ _
 repeat still_step
 refine wpStill_nil ?_;change wpList _ _ _ _ _ v5.drew
 go_upto_region 6 with fail
 have cA:Blk (v5.setCell ⟨g,0,none⟩ (.int .u64 (a3.toNat:Int))).drew g 275 #[wv a3,wv b1,wv c1,wv d1]:=Blk.set O.o 0 (wv a3);have cR:w.grownBy (v5.setCell ⟨g,0,none⟩ (.int .u64 (a3.toNat:Int))).drew (some g):=Ba (AN er.o (.inl rfl) _);generalize (v5.setCell ⟨g,0,none⟩ (.int .u64 (a3.toNat:Int))).drew=v6 at cA cR⊢;clear fH ft ek eX eQ x5 y5 X5 Y5;clear O er;have bq:=I cA;clear cA;have eN:=I cR;clear cR;have fJ:=Blk.frozen bq.o;have eM:v6.cell? ⟨g,0,none⟩=some (.int .u64 (a3.toNat:Int)):=by rw[Blk.cell bq.o];rfl
 have fw:v6.cell? ⟨g,1,none⟩=some (.int .u64 (b1.toNat:Int)):=by rw[Blk.cell bq.o];rfl
 have fi:v6.cell? ⟨g,2,none⟩=some (.int .u64 (c1.toNat:Int)):=by rw[Blk.cell bq.o];rfl
 have fu:v6.cell? ⟨g,3,none⟩=some (.int .u64 (d1.toNat:Int)):=by rw[Blk.cell bq.o];rfl
 have x6:=X6.o;refine wp_region_still_tail 13 (by kernel_rfl) (by kernel_rfl) ?_;simp only[List.take_succ_cons,List.take_zero,List.drop_succ_cons,List.drop_zero];change wpStill _ _ v6.drew _ _ _
 repeat still_step
 still_call (l6 v6.drew)
 repeat still_step
 refine wpStill_nil ?_;change wpList _ _ _ _ _ v6.drew
 go_upto_region 7 with fail
 have cx:Blk (v6.setCell ⟨g,3,none⟩ (.int .u64 (d2.toNat:Int))).drew g 275 #[wv a3,wv b1,wv c1,wv d2]:=Blk.set bq.o 3 (wv d2);have cg:w.grownBy (v6.setCell ⟨g,3,none⟩ (.int .u64 (d2.toNat:Int))).drew (some g):=Ba (AN eN.o (.inl rfl) _);generalize (v6.setCell ⟨g,3,none⟩ (.int .u64 (d2.toNat:Int))).drew=v7 at cx cg⊢;clear fJ eM fw fi fu x6 X6 l6;clear bq eN;have bx:=I cx;clear cx;have eF:=I cg;clear cg;have fB:=Blk.frozen bx.o;have eW:v7.cell? ⟨g,0,none⟩=some (.int .u64 (a3.toNat:Int)):=by rw[Blk.cell bx.o];rfl
 have eL:v7.cell? ⟨g,1,none⟩=some (.int .u64 (b1.toNat:Int)):=by rw[Blk.cell bx.o];rfl
 have eR:v7.cell? ⟨g,2,none⟩=some (.int .u64 (c1.toNat:Int)):=by rw[Blk.cell bx.o];rfl
 have fh:v7.cell? ⟨g,3,none⟩=some (.int .u64 (d2.toNat:Int)):=by rw[Blk.cell bx.o];rfl
 have x7:=X7.o;have y7:=Y7.o;refine wp_region_still_tail 12 (by kernel_rfl) (by kernel_rfl) ?_;simp only[List.take_succ_cons,List.take_zero,List.drop_succ_cons,List.drop_zero];change wpStill _ _ v7.drew _ _ _
 repeat still_step
 refine wpStill_nil ?_;change wpList _ _ _ _ _ v7.drew
 go_upto_region 8 with fail
 have cL:Blk (v7.setCell ⟨g,2,none⟩ (.int .u64 (c2.toNat:Int))).drew g 275 #[wv a3,wv b1,wv c2,wv d2]:=Blk.set bx.o 2 (wv c2);have cn:w.grownBy (v7.setCell ⟨g,2,none⟩ (.int .u64 (c2.toNat:Int))).drew (some g):=Ba (AN eF.o (.inl rfl) _);generalize (v7.setCell ⟨g,2,none⟩ (.int .u64 (c2.toNat:Int))).drew=v8 at cL cn⊢;clear fB eW eL eR fh x7 y7 X7 Y7;clear bx eF;have bn:=I cL;clear cL;have ej:=I cn;clear cn;have fD:=Blk.frozen bn.o;have eJ:v8.cell? ⟨g,0,none⟩=some (.int .u64 (a3.toNat:Int)):=by rw[Blk.cell bn.o];rfl
 have fv:v8.cell? ⟨g,1,none⟩=some (.int .u64 (b1.toNat:Int)):=by rw[Blk.cell bn.o];rfl
 have fj:v8.cell? ⟨g,2,none⟩=some (.int .u64 (c2.toNat:Int)):=by rw[Blk.cell bn.o];rfl
 have eT:v8.cell? ⟨g,3,none⟩=some (.int .u64 (d2.toNat:Int)):=by rw[Blk.cell bn.o];rfl
 have x8:=X8.o;refine wp_region_still_tail 13 (by kernel_rfl) (by kernel_rfl) ?_;simp only[List.take_succ_cons,List.take_zero,List.drop_succ_cons,List.drop_zero];change wpStill _ _ v8.drew _ _ _
 repeat still_step
 still_call (l8 v8.drew)
 repeat still_step
 refine wpStill_nil ?_;change wpList _ _ _ _ _ v8.drew
 go_upto_region 9 with fail
 have cT:Blk (v8.setCell ⟨g,1,none⟩ (.int .u64 (b2.toNat:Int))).drew g 275 #[wv a3,wv b2,wv c2,wv d2]:=Blk.set bn.o 1 (wv b2);have cu:w.grownBy (v8.setCell ⟨g,1,none⟩ (.int .u64 (b2.toNat:Int))).drew (some g):=Ba (AN ej.o (.inl rfl) _);generalize (v8.setCell ⟨g,1,none⟩ (.int .u64 (b2.toNat:Int))).drew=v9 at cT cu⊢;clear fD eJ fv fj eT x8 X8 l8;clear bn ej;have Z:=I cT;clear cT;have eK:=I cu;clear cu;have fz:=Blk.frozen Z.o;have ez:v9.cell? ⟨g,0,none⟩=some (.int .u64 (a3.toNat:Int)):=by rw[Blk.cell Z.o];rfl
 have ff:v9.cell? ⟨g,1,none⟩=some (.int .u64 (b2.toNat:Int)):=by rw[Blk.cell Z.o];rfl
 have fr:v9.cell? ⟨g,2,none⟩=some (.int .u64 (c2.toNat:Int)):=by rw[Blk.cell Z.o];rfl
 have et:v9.cell? ⟨g,3,none⟩=some (.int .u64 (d2.toNat:Int)):=by rw[Blk.cell Z.o];rfl
 refine wp_region_still_tail 8 (by kernel_rfl) (by kernel_rfl) ?_;simp only[List.take_succ_cons,List.take_zero,List.drop_succ_cons,List.drop_zero];change wpStill _ _ v9.drew _ _ _
 repeat still_step
 still_call (l9 v9.drew)
 repeat still_step
 refine wpStill_nil ?_;change wpList _ _ _ _ _ v9.drew
 go_wp2_with fail
 have eB:Blk (v9.setCell ⟨g,2,none⟩ (.int .u64 (c3.toNat:Int))).drew g 275 #[wv a3,wv b2,wv c3,wv d2]:=Blk.set Z.o 2 (wv c3);have eU:w.grownBy (v9.setCell ⟨g,2,none⟩ (.int .u64 (c3.toNat:Int))).drew (some g):=Ba (AN eK.o (.inl rfl) _);clear fz ez ff fr et l9;clear Z eK;have fx:=I eB;clear eB;have fG:=I eU;clear eU
 go_end0
 exact⟨rfl,by rw[eZ.o];exact fx.o,fG.o⟩
theorem Jx (g:Nat) (s:V) (R N:Value) (m:Wd) (w:World) (hB:Blk w g 348 (Jw s R N)) :
  Calls Tryz.prog 298 #[.pointer (some ⟨g,0,none⟩),wv m] w fun e w'=>e=.returned (.tuple #[])/\Blk w' g 348 (Jw (addM s m) R N)/\w.grownBy w' (some g):=by
 obtain⟨a,b,c,d⟩:=s;obtain⟨Z,ed⟩:∃x,x=d ^^^ m:=⟨_,rfl⟩;obtain⟨⟨a2,b2,c2,d2⟩,e2⟩:∃t,t=rnds 2 ⟨a,b,c,Z⟩:=⟨_,rfl⟩;obtain⟨a3,ea⟩:∃x,x=a2 ^^^ m:=⟨_,rfl⟩;have O:addM ⟨a,b,c,d⟩ m=⟨a3,b2,c2,d2⟩:=by simp only[addM,<-ed,<-e2,<-ea]
 have x1:bits .xor .u64 (d.toNat:Int) (m.toNat:Int)=(Z.toNat:Int):=by rw[ed];exact Bs _ _
 have x2:bits .xor .u64 (a2.toNat:Int) (m.toNat:Int)=(a3.toNat:Int):=by rw[ea];exact Bs _ _
 have bn:=I O;clear O;have E2:=I e2;clear e2;clear ed ea;have fz:=hB.frozen;have k3:w.cell? ⟨g,3,none⟩=some (.int .u64 (d.toNat:Int)):=by rw[hB.cell];rfl
 have HB:=I (show Blk w g 348 #[wv a,wv b,wv c,wv d,R,N] from hB);clear hB;have HG:=I (World.grownBy.refl w (some g));go_enter Tryz.func298,Tryz.ntmps298
 go_upto_region 1 with fail
 have av:Blk (w.setCell ⟨g,3,none⟩ (.int .u64 (Z.toNat:Int))) g 348 #[wv a,wv b,wv c,wv Z,R,N]:=Blk.set HB.o 3 (wv Z);have aw:w.grownBy (w.setCell ⟨g,3,none⟩ (.int .u64 (Z.toNat:Int))) (some g):=AN HG.o (.inl rfl) _;generalize w.setCell ⟨g,3,none⟩ (.int .u64 (Z.toNat:Int))=v1 at av aw⊢;have c1:=Km g 2 ⟨a,b,c,Z⟩ R N v1 (by decide) av;rw[<-E2.o] at c1;have bq:=I aw;clear av aw fz k3 HB HG x1
 go_upto_region 2 with(go_at_call 299;refine Aj c1 ?_;rintro v2 ⟨M,bb⟩;clear c1;have k0:v2.cell? ⟨g,0,none⟩=some (.int .u64 (a2.toNat:Int)):=by{rw[M.cell];rfl};have bB:=M.frozen;have bx:=I M;have bz:=I bb;clear M bb)
 go_wp2_with fail
 go_end0
 exact⟨rfl,by rw[bn.o];exact Blk.set bx.o 0 (wv a3),AN (World.grownBy.trans bq.o bz.o) (.inl rfl) _⟩
theorem Zx (g:Nat) (s:V) (m:Wd) (w:World) (hB:Blk w g 275 (DR s)) :
  Calls Tryz.prog 167 #[.pointer (some ⟨g,0,none⟩),wv m] w fun e w'=>e=.returned (.tuple #[])/\Blk w' g 275 (DR (addM s m))/\w.grownBy w' (some g):=by
 obtain⟨a,b,c,d⟩:=s;obtain⟨M,ed⟩:∃x,x=d ^^^ m:=⟨_,rfl⟩;obtain⟨t1,e1⟩:∃t,t=rnd ⟨a,b,c,M⟩:=⟨_,rfl⟩;obtain⟨⟨a2,b2,c2,d2⟩,e2⟩:∃t,t=rnd t1:=⟨_,rfl⟩;obtain⟨a3,ea⟩:∃x,x=a2 ^^^ m:=⟨_,rfl⟩;have hr:rnds 2 ⟨a,b,c,M⟩=⟨a2,b2,c2,d2⟩:=by rw[e2,e1];rfl
 have Z:addM ⟨a,b,c,d⟩ m=⟨a3,b2,c2,d2⟩:=by simp only[addM,<-ed,hr,<-ea]
 have x1:bits .xor .u64 (d.toNat:Int) (m.toNat:Int)=(M.toNat:Int):=by rw[ed];exact Bs _ _
 have x2:bits .xor .u64 (a2.toNat:Int) (m.toNat:Int)=(a3.toNat:Int):=by rw[ea];exact Bs _ _
 have bq:=I Z;clear Z hr;have E1:=I e1;clear e1;have E2:=I e2;clear e2;clear ed ea;have fz:=hB.frozen;have k3:w.cell? ⟨g,3,none⟩=some (.int .u64 (d.toNat:Int)):=by rw[hB.cell];rfl
 have HB:=I (show Blk w g 275 #[wv a,wv b,wv c,wv d] from hB);clear hB;have HG:=I (World.grownBy.refl w (some g));go_enter Tryz.func167,Tryz.ntmps167
 go_upto_region 0 with fail
 refine wp_region_still_tail 9 (by kernel_rfl) (by kernel_rfl) ?_;simp only[List.take_succ_cons,List.take_zero,List.drop_succ_cons,List.drop_zero];change wpStill _ _ w.drew _ _ _
 repeat still_step
 refine wpStill_nil ?_;change wpList _ _ _ _ _ w.drew
 go_upto_region 1 with fail
 have av:Blk (w.setCell ⟨g,3,none⟩ (.int .u64 (M.toNat:Int))).drew g 275 #[wv a,wv b,wv c,wv M]:=Blk.set HB.o 3 (wv M);have aw:w.grownBy (w.setCell ⟨g,3,none⟩ (.int .u64 (M.toNat:Int))).drew (some g):=Ba (AN HG.o (.inl rfl) _);generalize (w.setCell ⟨g,3,none⟩ (.int .u64 (M.toNat:Int))).drew=v1 at av aw⊢;have c1:=Py g ⟨a,b,c,M⟩ v1 av;rw[<-E1.o] at c1;have bz:=I aw;clear av aw fz k3 HB HG x1
 go_upto_region 2 with(go_at_call 168;refine Aj c1 ?_;rintro v2 ⟨bx,bn⟩;clear c1;have c2:=Py g t1 v2 bx;rw[<-E2.o] at c2;have cb:=I bn;clear bx bn)
 go_upto_region 3 with(go_at_call 168;refine Aj c2 ?_;rintro v3 ⟨O,bb⟩;clear c2;have k0:v3.cell? ⟨g,0,none⟩=some (.int .u64 (a2.toNat:Int)):=by{rw[O.cell];rfl};have cc:=O.frozen;have bB:=I O;have ca:=I bb;clear O bb)
 refine wp_region_still_tail 9 (by kernel_rfl) (by kernel_rfl) ?_;simp only[List.take_succ_cons,List.take_zero,List.drop_succ_cons,List.drop_zero];change wpStill _ _ v3.drew _ _ _
 repeat still_step
 refine wpStill_nil ?_;change wpList _ _ _ _ _ v3.drew
 go_wp2_with fail
 go_end0
 exact⟨rfl,by rw[bq.o];exact Blk.set bB.o 0 (wv a3),Ba (AN (World.grownBy.trans (World.grownBy.trans bz.o cb.o) ca.o) (.inl rfl) _)⟩
def stc (s:St):Array Value:=Jw s.v (.int .u64 (s.r:Int)) (.int .u64 (s.n:Int))
theorem Oe (g:Nat) (s:St) (y:UInt8) (w:World) (hn:s.n<100000) (hr:s.r<256 ^ (s.n % 8)) (hB:Blk w g 348 (stc s)) :
  Calls Tryz.prog 282 #[.pointer (some ⟨g,0,none⟩),.int .u8 (y.toNat:Int)] w fun e w'=>e=.returned (.tuple #[])/\Blk w' g 348 (stc (addB s y))/\w.grownBy w' (some g):=by
 obtain⟨⟨a,b,c,d⟩,r,n⟩:=s;have hn:n<100000:=hn;have hr:r<256 ^ (n % 8):=hr;obtain⟨Z,e2⟩:∃x,x=r+y.toNat*256 ^ (n % 8):=⟨_,rfl⟩;have hx:∀K:Int,K=((256 ^ (n % 8):Nat):Int)->bits .or .u64 (r:Int) (IntKind.u64.wrap ((y.toNat:Int)*K))=(Z:Int):=fun K hK=>by
  rw[e2];refine Lh r y (n % 8) (by omega) hr _ ?_;have h1:=Wj (n % 8) (by omega);have h2:=y.toNat_lt;have h3:y.toNat*256 ^ (n % 8)<=255*72057594037927936:=Nat.mul_le_mul (by omega) h1;rw[hK,IntKind.wrap_u64,<-Int.natCast_mul];omega
 have cf:Z<18446744073709551616:=by
  have h1:=Pw r y (n % 8) hr;have h2:(256:Nat) ^ (n % 8+1)<=256 ^ 8:=Nat.pow_le_pow_right (by decide) (by omega);have h3:(256:Nat) ^ 8=18446744073709551616:=by decide
  omega
 have cd:¬(n+1) % 8=0->stc (addB ⟨⟨a,b,c,d⟩,r,n⟩ y)=#[wv a,wv b,wv c,wv d,.int .u64 (Z:Int),.int .u64 ((n:Int)+1)]:=fun h=>by
  rw[Tc _ _ h,e2]
  rfl
 have ca:(n+1) % 8=0->stc (addB ⟨⟨a,b,c,d⟩,r,n⟩ y)=Jw (addM ⟨a,b,c,d⟩ (wd Z)) (.int .u64 0) (.int .u64 ((n:Int)+1)):=fun h=>by
  rw[Pv _ _ h,e2]
  rfl
 have bz:=I cd;clear cd;have cc:=I ca;clear ca;have ck:=I cf;clear cf;have hy:IntKind.u64.wrap (y.toNat:Int)=(y.toNat:Int):=by rw[IntKind.wrap_u64];have:=y.toNat_lt;omega
 have fz:=hB.frozen;have k4:w.cell? ⟨g,4,none⟩=some (.int .u64 (r:Int)):=by rw[hB.cell];rfl
 have k5:w.cell? ⟨g,5,none⟩=some (.int .u64 (n:Int)):=by rw[hB.cell];rfl
 have HB:=I (show Blk w g 348 #[wv a,wv b,wv c,wv d,.int .u64 (r:Int),.int .u64 (n:Int)] from hB);clear hB;have HG:=I (World.grownBy.refl w (some g));have HN:=I hn;clear e2 hr;have hk:n % 8=0\/n % 8=1\/n % 8=2\/n % 8=3\/n % 8=4\/n % 8=5\/n % 8=6\/n % 8=7:=by omega
 have n0:(0:Int)<=(n:Int):=by omega
 have n1:(n:Int)<100000:=by omega
 clear hn;rcases hk with hk | hk | hk | hk | hk | hk | hk | hk
 ·have hx:=hx 1 (by rw[hk];decide)
  rw[Int.mul_one,hy] at hx;have m1:(n:Int).tmod 8=0:=by rw[Int.tmod_eq_emod_of_nonneg n0];omega
  have m2:((n:Int)+1).tmod 8=1:=by rw[Int.tmod_eq_emod_of_nonneg (by omega)];omega
  have m3:n % 8=0:=hk;have hw:IntKind.u64.wrap 0=0:=by kernel_rfl
  have m4:(n:Int) % 8=0:=by omega
  have m5:(n+1) % 8=1:=by omega
  have M5:=I m5;clear m5;clear hk;go_enter Tryz.func282,Tryz.ntmps282
  go_upto_region 0 with fail
  refine wp_region_still_tail 16 (by kernel_rfl) (by kernel_rfl) ?_;simp only[List.take_succ_cons,List.take_zero,List.drop_succ_cons,List.drop_zero];change wpStill _ _ w.drew _ _ _
  repeat still_step
  refine wpStill_nil ?_;change wpList _ _ _ _ _ w.drew
  go_upto_region 1 with fail
  have O:Blk (w.setCell ⟨g,4,none⟩ (.int .u64 (Z:Int))).drew g 348 #[wv a,wv b,wv c,wv d,.int .u64 (Z:Int),.int .u64 (n:Int)]:=Blk.set HB.o 4 (.int .u64 (Z:Int));have aw:w.grownBy (w.setCell ⟨g,4,none⟩ (.int .u64 (Z:Int))).drew (some g):=Ba (AN HG.o (.inl rfl) _);generalize (w.setCell ⟨g,4,none⟩ (.int .u64 (Z:Int))).drew=v1 at O aw⊢;clear fz k4 k5 HB HG hx m1 m3 m4 hw hy;have fz:=O.frozen;have k5:v1.cell? ⟨g,5,none⟩=some (.int .u64 (n:Int)):=by rw[O.cell];rfl
  have bn:=I O;clear O;have bb:=I aw;clear aw
  go_upto_region 2 with fail
  have M:Blk (v1.setCell ⟨g,5,none⟩ (.int .u64 ((n:Int)+1))) g 348 #[wv a,wv b,wv c,wv d,.int .u64 (Z:Int),.int .u64 ((n:Int)+1)]:=Blk.set bn.o 5 (.int .u64 ((n:Int)+1));have av:w.grownBy (v1.setCell ⟨g,5,none⟩ (.int .u64 ((n:Int)+1))) (some g):=AN bb.o (.inl rfl) _;generalize (v1.setCell ⟨g,5,none⟩ (.int .u64 ((n:Int)+1)))=v2 at M av⊢;clear fz k5 bn bb;have fz:=M.frozen;have k4:v2.cell? ⟨g,4,none⟩=some (.int .u64 (Z:Int)):=by rw[M.cell];rfl
  have k5:v2.cell? ⟨g,5,none⟩=some (.int .u64 ((n:Int)+1)):=by rw[M.cell];rfl
  have bq:=I M;clear M;have bx:=I av;clear av
  go_wp2_with fail
  go_end0
  exact⟨rfl,by rw[bz.o (by have:=M5.o;omega)];exact bq.o,bx.o⟩
 ·have hx:=hx 256 (by rw[hk];decide)
  have m1:(n:Int).tmod 8=1:=by rw[Int.tmod_eq_emod_of_nonneg n0];omega
  have m2:((n:Int)+1).tmod 8=2:=by rw[Int.tmod_eq_emod_of_nonneg (by omega)];omega
  have m3:n % 8=1:=hk;have hw:IntKind.u64.wrap 8=8:=by kernel_rfl
  have m4:(n:Int) % 8=1:=by omega
  have m5:(n+1) % 8=2:=by omega
  have M5:=I m5;clear m5;clear hk;go_enter Tryz.func282,Tryz.ntmps282
  go_upto_region 0 with fail
  refine wp_region_still_tail 16 (by kernel_rfl) (by kernel_rfl) ?_;simp only[List.take_succ_cons,List.take_zero,List.drop_succ_cons,List.drop_zero];change wpStill _ _ w.drew _ _ _
  repeat still_step
  refine wpStill_nil ?_;change wpList _ _ _ _ _ w.drew
  go_upto_region 1 with fail
  have O:Blk (w.setCell ⟨g,4,none⟩ (.int .u64 (Z:Int))).drew g 348 #[wv a,wv b,wv c,wv d,.int .u64 (Z:Int),.int .u64 (n:Int)]:=Blk.set HB.o 4 (.int .u64 (Z:Int));have aw:w.grownBy (w.setCell ⟨g,4,none⟩ (.int .u64 (Z:Int))).drew (some g):=Ba (AN HG.o (.inl rfl) _);generalize (w.setCell ⟨g,4,none⟩ (.int .u64 (Z:Int))).drew=v1 at O aw⊢;clear fz k4 k5 HB HG hx m1 m3 m4 hw hy;have fz:=O.frozen;have k5:v1.cell? ⟨g,5,none⟩=some (.int .u64 (n:Int)):=by rw[O.cell];rfl
  have bn:=I O;clear O;have bb:=I aw;clear aw
  go_upto_region 2 with fail
  have M:Blk (v1.setCell ⟨g,5,none⟩ (.int .u64 ((n:Int)+1))) g 348 #[wv a,wv b,wv c,wv d,.int .u64 (Z:Int),.int .u64 ((n:Int)+1)]:=Blk.set bn.o 5 (.int .u64 ((n:Int)+1));have av:w.grownBy (v1.setCell ⟨g,5,none⟩ (.int .u64 ((n:Int)+1))) (some g):=AN bb.o (.inl rfl) _;generalize (v1.setCell ⟨g,5,none⟩ (.int .u64 ((n:Int)+1)))=v2 at M av⊢;clear fz k5 bn bb;have fz:=M.frozen;have k4:v2.cell? ⟨g,4,none⟩=some (.int .u64 (Z:Int)):=by rw[M.cell];rfl
  have k5:v2.cell? ⟨g,5,none⟩=some (.int .u64 ((n:Int)+1)):=by rw[M.cell];rfl
  have bq:=I M;clear M;have bx:=I av;clear av
  go_wp2_with fail
  go_end0
  exact⟨rfl,by rw[bz.o (by have:=M5.o;omega)];exact bq.o,bx.o⟩
 ·have hx:=hx 65536 (by rw[hk];decide)
  have m1:(n:Int).tmod 8=2:=by rw[Int.tmod_eq_emod_of_nonneg n0];omega
  have m2:((n:Int)+1).tmod 8=3:=by rw[Int.tmod_eq_emod_of_nonneg (by omega)];omega
  have m3:n % 8=2:=hk;have hw:IntKind.u64.wrap 16=16:=by kernel_rfl
  have m4:(n:Int) % 8=2:=by omega
  have m5:(n+1) % 8=3:=by omega
  have M5:=I m5;clear m5;clear hk;go_enter Tryz.func282,Tryz.ntmps282
  go_upto_region 0 with fail
  refine wp_region_still_tail 16 (by kernel_rfl) (by kernel_rfl) ?_;simp only[List.take_succ_cons,List.take_zero,List.drop_succ_cons,List.drop_zero];change wpStill _ _ w.drew _ _ _
  repeat still_step
  refine wpStill_nil ?_;change wpList _ _ _ _ _ w.drew
  go_upto_region 1 with fail
  have O:Blk (w.setCell ⟨g,4,none⟩ (.int .u64 (Z:Int))).drew g 348 #[wv a,wv b,wv c,wv d,.int .u64 (Z:Int),.int .u64 (n:Int)]:=Blk.set HB.o 4 (.int .u64 (Z:Int));have aw:w.grownBy (w.setCell ⟨g,4,none⟩ (.int .u64 (Z:Int))).drew (some g):=Ba (AN HG.o (.inl rfl) _);generalize (w.setCell ⟨g,4,none⟩ (.int .u64 (Z:Int))).drew=v1 at O aw⊢;clear fz k4 k5 HB HG hx m1 m3 m4 hw hy;have fz:=O.frozen;have k5:v1.cell? ⟨g,5,none⟩=some (.int .u64 (n:Int)):=by rw[O.cell];rfl
  have bn:=I O;clear O;have bb:=I aw;clear aw
  go_upto_region 2 with fail
  have M:Blk (v1.setCell ⟨g,5,none⟩ (.int .u64 ((n:Int)+1))) g 348 #[wv a,wv b,wv c,wv d,.int .u64 (Z:Int),.int .u64 ((n:Int)+1)]:=Blk.set bn.o 5 (.int .u64 ((n:Int)+1));have av:w.grownBy (v1.setCell ⟨g,5,none⟩ (.int .u64 ((n:Int)+1))) (some g):=AN bb.o (.inl rfl) _;generalize (v1.setCell ⟨g,5,none⟩ (.int .u64 ((n:Int)+1)))=v2 at M av⊢;clear fz k5 bn bb;have fz:=M.frozen;have k4:v2.cell? ⟨g,4,none⟩=some (.int .u64 (Z:Int)):=by rw[M.cell];rfl
  have k5:v2.cell? ⟨g,5,none⟩=some (.int .u64 ((n:Int)+1)):=by rw[M.cell];rfl
  have bq:=I M;clear M;have bx:=I av;clear av
  go_wp2_with fail
  go_end0
  exact⟨rfl,by rw[bz.o (by have:=M5.o;omega)];exact bq.o,bx.o⟩
 ·have hx:=hx 16777216 (by rw[hk];decide)
  have m1:(n:Int).tmod 8=3:=by rw[Int.tmod_eq_emod_of_nonneg n0];omega
  have m2:((n:Int)+1).tmod 8=4:=by rw[Int.tmod_eq_emod_of_nonneg (by omega)];omega
  have m3:n % 8=3:=hk;have hw:IntKind.u64.wrap 24=24:=by kernel_rfl
  have m4:(n:Int) % 8=3:=by omega
  have m5:(n+1) % 8=4:=by omega
  have M5:=I m5;clear m5;clear hk;go_enter Tryz.func282,Tryz.ntmps282
  go_upto_region 0 with fail
  refine wp_region_still_tail 16 (by kernel_rfl) (by kernel_rfl) ?_;simp only[List.take_succ_cons,List.take_zero,List.drop_succ_cons,List.drop_zero];change wpStill _ _ w.drew _ _ _
  repeat still_step
  refine wpStill_nil ?_;change wpList _ _ _ _ _ w.drew
  go_upto_region 1 with fail
  have O:Blk (w.setCell ⟨g,4,none⟩ (.int .u64 (Z:Int))).drew g 348 #[wv a,wv b,wv c,wv d,.int .u64 (Z:Int),.int .u64 (n:Int)]:=Blk.set HB.o 4 (.int .u64 (Z:Int));have aw:w.grownBy (w.setCell ⟨g,4,none⟩ (.int .u64 (Z:Int))).drew (some g):=Ba (AN HG.o (.inl rfl) _);generalize (w.setCell ⟨g,4,none⟩ (.int .u64 (Z:Int))).drew=v1 at O aw⊢;clear fz k4 k5 HB HG hx m1 m3 m4 hw hy;have fz:=O.frozen;have k5:v1.cell? ⟨g,5,none⟩=some (.int .u64 (n:Int)):=by rw[O.cell];rfl
  have bn:=I O;clear O;have bb:=I aw;clear aw
  go_upto_region 2 with fail
  have M:Blk (v1.setCell ⟨g,5,none⟩ (.int .u64 ((n:Int)+1))) g 348 #[wv a,wv b,wv c,wv d,.int .u64 (Z:Int),.int .u64 ((n:Int)+1)]:=Blk.set bn.o 5 (.int .u64 ((n:Int)+1));have av:w.grownBy (v1.setCell ⟨g,5,none⟩ (.int .u64 ((n:Int)+1))) (some g):=AN bb.o (.inl rfl) _;generalize (v1.setCell ⟨g,5,none⟩ (.int .u64 ((n:Int)+1)))=v2 at M av⊢;clear fz k5 bn bb;have fz:=M.frozen;have k4:v2.cell? ⟨g,4,none⟩=some (.int .u64 (Z:Int)):=by rw[M.cell];rfl
  have k5:v2.cell? ⟨g,5,none⟩=some (.int .u64 ((n:Int)+1)):=by rw[M.cell];rfl
  have bq:=I M;clear M;have bx:=I av;clear av
  go_wp2_with fail
  go_end0
  exact⟨rfl,by rw[bz.o (by have:=M5.o;omega)];exact bq.o,bx.o⟩
 ·have hx:=hx 4294967296 (by rw[hk];decide)
  have m1:(n:Int).tmod 8=4:=by rw[Int.tmod_eq_emod_of_nonneg n0];omega
  have m2:((n:Int)+1).tmod 8=5:=by rw[Int.tmod_eq_emod_of_nonneg (by omega)];omega
  have m3:n % 8=4:=hk;have hw:IntKind.u64.wrap 32=32:=by kernel_rfl
  have m4:(n:Int) % 8=4:=by omega
  have m5:(n+1) % 8=5:=by omega
  have M5:=I m5;clear m5;clear hk;go_enter Tryz.func282,Tryz.ntmps282
  go_upto_region 0 with fail
  refine wp_region_still_tail 16 (by kernel_rfl) (by kernel_rfl) ?_;simp only[List.take_succ_cons,List.take_zero,List.drop_succ_cons,List.drop_zero];change wpStill _ _ w.drew _ _ _
  repeat still_step
  refine wpStill_nil ?_;change wpList _ _ _ _ _ w.drew
  go_upto_region 1 with fail
  have O:Blk (w.setCell ⟨g,4,none⟩ (.int .u64 (Z:Int))).drew g 348 #[wv a,wv b,wv c,wv d,.int .u64 (Z:Int),.int .u64 (n:Int)]:=Blk.set HB.o 4 (.int .u64 (Z:Int));have aw:w.grownBy (w.setCell ⟨g,4,none⟩ (.int .u64 (Z:Int))).drew (some g):=Ba (AN HG.o (.inl rfl) _);generalize (w.setCell ⟨g,4,none⟩ (.int .u64 (Z:Int))).drew=v1 at O aw⊢;clear fz k4 k5 HB HG hx m1 m3 m4 hw hy;have fz:=O.frozen;have k5:v1.cell? ⟨g,5,none⟩=some (.int .u64 (n:Int)):=by rw[O.cell];rfl
  have bn:=I O;clear O;have bb:=I aw;clear aw
  go_upto_region 2 with fail
  have M:Blk (v1.setCell ⟨g,5,none⟩ (.int .u64 ((n:Int)+1))) g 348 #[wv a,wv b,wv c,wv d,.int .u64 (Z:Int),.int .u64 ((n:Int)+1)]:=Blk.set bn.o 5 (.int .u64 ((n:Int)+1));have av:w.grownBy (v1.setCell ⟨g,5,none⟩ (.int .u64 ((n:Int)+1))) (some g):=AN bb.o (.inl rfl) _;generalize (v1.setCell ⟨g,5,none⟩ (.int .u64 ((n:Int)+1)))=v2 at M av⊢;clear fz k5 bn bb;have fz:=M.frozen;have k4:v2.cell? ⟨g,4,none⟩=some (.int .u64 (Z:Int)):=by rw[M.cell];rfl
  have k5:v2.cell? ⟨g,5,none⟩=some (.int .u64 ((n:Int)+1)):=by rw[M.cell];rfl
  have bq:=I M;clear M;have bx:=I av;clear av
  go_wp2_with fail
  go_end0
  exact⟨rfl,by rw[bz.o (by have:=M5.o;omega)];exact bq.o,bx.o⟩
 ·have hx:=hx 1099511627776 (by rw[hk];decide)
  have m1:(n:Int).tmod 8=5:=by rw[Int.tmod_eq_emod_of_nonneg n0];omega
  have m2:((n:Int)+1).tmod 8=6:=by rw[Int.tmod_eq_emod_of_nonneg (by omega)];omega
  have m3:n % 8=5:=hk;have hw:IntKind.u64.wrap 40=40:=by kernel_rfl
  have m4:(n:Int) % 8=5:=by omega
  have m5:(n+1) % 8=6:=by omega
  have M5:=I m5;clear m5;clear hk;go_enter Tryz.func282,Tryz.ntmps282
  go_upto_region 0 with fail
  refine wp_region_still_tail 16 (by kernel_rfl) (by kernel_rfl) ?_;simp only[List.take_succ_cons,List.take_zero,List.drop_succ_cons,List.drop_zero];change wpStill _ _ w.drew _ _ _
  repeat still_step
  refine wpStill_nil ?_;change wpList _ _ _ _ _ w.drew
  go_upto_region 1 with fail
  have O:Blk (w.setCell ⟨g,4,none⟩ (.int .u64 (Z:Int))).drew g 348 #[wv a,wv b,wv c,wv d,.int .u64 (Z:Int),.int .u64 (n:Int)]:=Blk.set HB.o 4 (.int .u64 (Z:Int));have aw:w.grownBy (w.setCell ⟨g,4,none⟩ (.int .u64 (Z:Int))).drew (some g):=Ba (AN HG.o (.inl rfl) _);generalize (w.setCell ⟨g,4,none⟩ (.int .u64 (Z:Int))).drew=v1 at O aw⊢;clear fz k4 k5 HB HG hx m1 m3 m4 hw hy;have fz:=O.frozen;have k5:v1.cell? ⟨g,5,none⟩=some (.int .u64 (n:Int)):=by rw[O.cell];rfl
  have bn:=I O;clear O;have bb:=I aw;clear aw
  go_upto_region 2 with fail
  have M:Blk (v1.setCell ⟨g,5,none⟩ (.int .u64 ((n:Int)+1))) g 348 #[wv a,wv b,wv c,wv d,.int .u64 (Z:Int),.int .u64 ((n:Int)+1)]:=Blk.set bn.o 5 (.int .u64 ((n:Int)+1));have av:w.grownBy (v1.setCell ⟨g,5,none⟩ (.int .u64 ((n:Int)+1))) (some g):=AN bb.o (.inl rfl) _;generalize (v1.setCell ⟨g,5,none⟩ (.int .u64 ((n:Int)+1)))=v2 at M av⊢;clear fz k5 bn bb;have fz:=M.frozen;have k4:v2.cell? ⟨g,4,none⟩=some (.int .u64 (Z:Int)):=by rw[M.cell];rfl
  have k5:v2.cell? ⟨g,5,none⟩=some (.int .u64 ((n:Int)+1)):=by rw[M.cell];rfl
  have bq:=I M;clear M;have bx:=I av;clear av
  go_wp2_with fail
  go_end0
  exact⟨rfl,by rw[bz.o (by have:=M5.o;omega)];exact bq.o,bx.o⟩
 ·have hx:=hx 281474976710656 (by rw[hk];decide)
  have m1:(n:Int).tmod 8=6:=by rw[Int.tmod_eq_emod_of_nonneg n0];omega
  have m2:((n:Int)+1).tmod 8=7:=by rw[Int.tmod_eq_emod_of_nonneg (by omega)];omega
  have m3:n % 8=6:=hk;have hw:IntKind.u64.wrap 48=48:=by kernel_rfl
  have m4:(n:Int) % 8=6:=by omega
  have m5:(n+1) % 8=7:=by omega
  have M5:=I m5;clear m5;clear hk;go_enter Tryz.func282,Tryz.ntmps282
  go_upto_region 0 with fail
  refine wp_region_still_tail 16 (by kernel_rfl) (by kernel_rfl) ?_;simp only[List.take_succ_cons,List.take_zero,List.drop_succ_cons,List.drop_zero];change wpStill _ _ w.drew _ _ _
  repeat still_step
  refine wpStill_nil ?_;change wpList _ _ _ _ _ w.drew
  go_upto_region 1 with fail
  have O:Blk (w.setCell ⟨g,4,none⟩ (.int .u64 (Z:Int))).drew g 348 #[wv a,wv b,wv c,wv d,.int .u64 (Z:Int),.int .u64 (n:Int)]:=Blk.set HB.o 4 (.int .u64 (Z:Int));have aw:w.grownBy (w.setCell ⟨g,4,none⟩ (.int .u64 (Z:Int))).drew (some g):=Ba (AN HG.o (.inl rfl) _);generalize (w.setCell ⟨g,4,none⟩ (.int .u64 (Z:Int))).drew=v1 at O aw⊢;clear fz k4 k5 HB HG hx m1 m3 m4 hw hy;have fz:=O.frozen;have k5:v1.cell? ⟨g,5,none⟩=some (.int .u64 (n:Int)):=by rw[O.cell];rfl
  have bn:=I O;clear O;have bb:=I aw;clear aw
  go_upto_region 2 with fail
  have M:Blk (v1.setCell ⟨g,5,none⟩ (.int .u64 ((n:Int)+1))) g 348 #[wv a,wv b,wv c,wv d,.int .u64 (Z:Int),.int .u64 ((n:Int)+1)]:=Blk.set bn.o 5 (.int .u64 ((n:Int)+1));have av:w.grownBy (v1.setCell ⟨g,5,none⟩ (.int .u64 ((n:Int)+1))) (some g):=AN bb.o (.inl rfl) _;generalize (v1.setCell ⟨g,5,none⟩ (.int .u64 ((n:Int)+1)))=v2 at M av⊢;clear fz k5 bn bb;have fz:=M.frozen;have k4:v2.cell? ⟨g,4,none⟩=some (.int .u64 (Z:Int)):=by rw[M.cell];rfl
  have k5:v2.cell? ⟨g,5,none⟩=some (.int .u64 ((n:Int)+1)):=by rw[M.cell];rfl
  have bq:=I M;clear M;have bx:=I av;clear av
  go_wp2_with fail
  go_end0
  exact⟨rfl,by rw[bz.o (by have:=M5.o;omega)];exact bq.o,bx.o⟩
 ·have hx:=hx 72057594037927936 (by rw[hk];decide)
  have m1:(n:Int).tmod 8=7:=by rw[Int.tmod_eq_emod_of_nonneg n0];omega
  have m2:((n:Int)+1).tmod 8=0:=by rw[Int.tmod_eq_emod_of_nonneg (by omega)];omega
  have m3:n % 8=7:=hk;have hw:IntKind.u64.wrap 56=56:=by kernel_rfl
  have m4:(n:Int) % 8=7:=by omega
  have m5:(n+1) % 8=0:=by omega
  have M5:=I m5;clear m5;clear hk;go_enter Tryz.func282,Tryz.ntmps282
  go_upto_region 0 with fail
  refine wp_region_still_tail 16 (by kernel_rfl) (by kernel_rfl) ?_;simp only[List.take_succ_cons,List.take_zero,List.drop_succ_cons,List.drop_zero];change wpStill _ _ w.drew _ _ _
  repeat still_step
  refine wpStill_nil ?_;change wpList _ _ _ _ _ w.drew
  go_upto_region 1 with fail
  have O:Blk (w.setCell ⟨g,4,none⟩ (.int .u64 (Z:Int))).drew g 348 #[wv a,wv b,wv c,wv d,.int .u64 (Z:Int),.int .u64 (n:Int)]:=Blk.set HB.o 4 (.int .u64 (Z:Int));have aw:w.grownBy (w.setCell ⟨g,4,none⟩ (.int .u64 (Z:Int))).drew (some g):=Ba (AN HG.o (.inl rfl) _);generalize (w.setCell ⟨g,4,none⟩ (.int .u64 (Z:Int))).drew=v1 at O aw⊢;clear fz k4 k5 HB HG hx m1 m3 m4 hw hy;have fz:=O.frozen;have k5:v1.cell? ⟨g,5,none⟩=some (.int .u64 (n:Int)):=by rw[O.cell];rfl
  have bn:=I O;clear O;have bb:=I aw;clear aw
  go_upto_region 2 with fail
  have M:Blk (v1.setCell ⟨g,5,none⟩ (.int .u64 ((n:Int)+1))) g 348 #[wv a,wv b,wv c,wv d,.int .u64 (Z:Int),.int .u64 ((n:Int)+1)]:=Blk.set bn.o 5 (.int .u64 ((n:Int)+1));have av:w.grownBy (v1.setCell ⟨g,5,none⟩ (.int .u64 ((n:Int)+1))) (some g):=AN bb.o (.inl rfl) _;generalize (v1.setCell ⟨g,5,none⟩ (.int .u64 ((n:Int)+1)))=v2 at M av⊢;clear fz k5 bn bb;have fz:=M.frozen;have k4:v2.cell? ⟨g,4,none⟩=some (.int .u64 (Z:Int)):=by rw[M.cell];rfl
  have k5:v2.cell? ⟨g,5,none⟩=some (.int .u64 ((n:Int)+1)):=by rw[M.cell];rfl
  have bq:=I M;clear M;have bx:=I av;clear av;have c1:=Jx g ⟨a,b,c,d⟩ (.int .u64 (Z:Int)) (.int .u64 ((n:Int)+1)) (wd Z) v2 bq.o;rw[wv,Kl Z ck.o] at c1
  go_wp2_with (go_at_call 298;refine Aj c1 ?_;rintro v3 ⟨bB,cb⟩;clear c1;have k4:v3.cell? ⟨g,4,none⟩=some (.int .u64 (Z:Int)):=by{rw[bB.cell];rfl};have fz:=bB.frozen;have cg:=I bB;have cj:=I cb;clear bB cb)
  go_end0
  exact⟨rfl,by rw[cc.o M5.o];exact Blk.set cg.o 4 (.int .u64 0),AN (World.grownBy.trans bx.o cj.o) (.inl rfl) _⟩
theorem Mx (s:St) (M:s.r<72057594037927936):(QF s).toNat=s.r+s.n % 256*72057594037927936:=Kl _ (by omega)
theorem Zy (g:Nat) (s:St) (w:World) (hr:s.r<72057594037927936) (hB:Blk w g 348 (stc s)) :
  Calls Tryz.prog 283 #[.pointer (some ⟨g,0,none⟩)] w fun e w'=>e=.returned (wv (finS s))/\w.grownBy w' (some g):=by
 have hl:=Mx s hr;have hx:=Px s.r s.n hr;rw[<-hl,<-IntKind.wrap_u64] at hx;obtain⟨lw,el⟩:∃x,x=QF s:=⟨_,rfl⟩;obtain⟨⟨a,b,c,d⟩,e1⟩:∃t,t=addM s.v lw:=⟨_,rfl⟩;obtain⟨c1,ec⟩:∃x,x=c ^^^ 255#64:=⟨_,rfl⟩;obtain⟨⟨a2,b2,c2,d2⟩,e2⟩:∃t,t=rnds 4 ⟨a,b,c1,d⟩:=⟨_,rfl⟩;obtain⟨q1,bn⟩:∃x,x=a2 ^^^ b2:=⟨_,rfl⟩;obtain⟨q2,aw⟩:∃x,x=q1 ^^^ c2:=⟨_,rfl⟩;obtain⟨q3,bb⟩:∃x,x=q2 ^^^ d2:=⟨_,rfl⟩;have av:finS s=q3:=by rw[finS,<-el,<-e1,fin,<-ec,<-e2,allX,<-bn,<-aw,<-bb]
 have x0:bits .xor .u64 (c.toNat:Int) 255=(c1.toNat:Int):=by rw[ec];exact Bs c 255#64
 have x1:bits .xor .u64 (a2.toNat:Int) (b2.toNat:Int)=(q1.toNat:Int):=by rw[bn];exact Bs _ _
 have x2:bits .xor .u64 (q1.toNat:Int) (c2.toNat:Int)=(q2.toNat:Int):=by rw[aw];exact Bs _ _
 have x3:bits .xor .u64 (q2.toNat:Int) (d2.toNat:Int)=(q3.toNat:Int):=by rw[bb];exact Bs _ _
 rw[<-el] at hx;obtain⟨v,r,n⟩:=s;have hx:bits .or .u64 (r:Int) (IntKind.u64.wrap ((n:Int)*72057594037927936))=(lw.toNat:Int):=hx;have e1:⟨a,b,c,d⟩=addM v lw:=e1;have ca:=Jx g v (.int .u64 (r:Int)) (.int .u64 (n:Int)) lw w.drew (Blk.drewN hB 1);rw[<-e1] at ca;have cd:=I av;clear av;have E2:=I e2;clear e2;have k4:w.cell? ⟨g,4,none⟩=some (.int .u64 (r:Int)):=by rw[hB.cell];rfl
 have k5:w.cell? ⟨g,5,none⟩=some (.int .u64 (n:Int)):=by rw[hB.cell];rfl
 have fz:=hB.frozen;have bB:=I x0;clear x0;have cp:=I x1;clear x1;have cm:=I x2;clear x2;have cj:=I x3;clear x3;clear el e1 ec bn aw bb hl hr hB;go_enter Tryz.func283,Tryz.ntmps283
 go_upto_region 1 with fail
 refine wp_region_still_tail 11 (by kernel_rfl) (by kernel_rfl) ?_;simp only[List.take_succ_cons,List.take_zero,List.drop_succ_cons,List.drop_zero];change wpStill _ _ w.drew _ _ _
 repeat still_step
 refine wpStill_nil ?_;change wpList _ _ _ _ _ w.drew;clear hx k4 k5 fz
 go_upto_region 2 with(go_at_call 298;refine Aj ca ?_;rintro v1 ⟨O,M⟩;clear ca;have M:w.grownBy v1 (some g):=⟨M.os,M.tape,M.output,M.size,M.block⟩;have k2:v1.cell? ⟨g,2,none⟩=some (.int .u64 (c.toNat:Int)):=by{rw[O.cell];rfl};have fz:=O.frozen;have cb:=I O;have cg:=I M;clear O M)
 have x0:=bB.o;clear bB
 go_upto_region 3 with fail
 have bz:Blk (v1.setCell ⟨g,2,none⟩ (.int .u64 (c1.toNat:Int))) g 348 #[wv a,wv b,wv c1,wv d,.int .u64 (r:Int),.int .u64 (n:Int)]:=Blk.set cb.o 2 (wv c1);have bx:w.grownBy (v1.setCell ⟨g,2,none⟩ (.int .u64 (c1.toNat:Int))) (some g):=AN cg.o (.inl rfl) _;generalize (v1.setCell ⟨g,2,none⟩ (.int .u64 (c1.toNat:Int)))=v2 at bz bx⊢;have bq:=Km g 4 ⟨a,b,c1,d⟩ (.int .u64 (r:Int)) (.int .u64 (n:Int)) v2 (by decide) bz;rw[<-E2.o] at bq;have ck:=I bx;clear bz bx fz k2 cb cg x0
 go_upto_region 4 with(go_at_call 299;refine Aj bq ?_;rintro v3 ⟨cf,cc⟩;clear bq;have Z:=I cf;have cn:=I cc;clear cf cc)
 have k0:v3.cell? ⟨g,0,none⟩=some (.int .u64 (a2.toNat:Int)):=by rw[Z.o.cell];rfl
 have k1:v3.cell? ⟨g,1,none⟩=some (.int .u64 (b2.toNat:Int)):=by rw[Z.o.cell];rfl
 have k2:v3.cell? ⟨g,2,none⟩=some (.int .u64 (c2.toNat:Int)):=by rw[Z.o.cell];rfl
 have k3:v3.cell? ⟨g,3,none⟩=some (.int .u64 (d2.toNat:Int)):=by rw[Z.o.cell];rfl
 have x1:=cp.o;have x2:=cm.o;have x3:=cj.o;refine wp_region_still_lit (by kernel_rfl) (by kernel_rfl) ?_;change wpStill _ _ v3.drew _ _ _
 repeat still_step
 refine wpStill_nil ?_
 try change _ v3.drew
 go_wp2_with fail
 go_ret;exact⟨by rw[cd.o];rfl,Ba (World.grownBy.trans ck.o cn.o)⟩
theorem Blk.new_of (w:World) (g:Nat) (t:TypeId) (cs M:Array Value) (e:cs=M) (O:w.heap.size=g):Blk (w.alloc (.cells cs t)) g t M:=O▸e▸Blk.new w t cs
theorem AI {B:Nat} {a w:World} (h:Below B a w) {p:Addr} (hp:B<=p.block) (u:Value):Below B a (w.setCell p u):=
 ⟨h.os,h.tape,h.output,by simpa [World.setCell] using h.size,fun i hi=>(Below.heap_setCell w p u i (by omega)).trans (h.block i hi)⟩
theorem Au {P:Program} {fn:Func} {tmps:Array Value} {w:World} {v:Value} (t:Nat) (ty:TypeId) (a:Addr) (M:fn.results=#[.cell t ty]) (ht:tmps.getD t undef=.pointer (some a)) (Z:(loadVar ty a).run P w=.ok v w) :
  (results fn tmps).run P w=.ok v w:=by
 have O:tmps[t]?.getD undef=.pointer (some a):=by simpa using ht
 simp [results,M,O,asAddr,Z]
theorem Ao {P:Program} {w:World} {g:Nat} {t ty:TypeId} {cs:Array Value} {d:TypeDesc} (h:Blk w g t cs) (hu:P.underlying ty=some d) (Z:d.isRow=true) (hi:(P.info? ty).map (·.size)=some cs.size) :
  (loadVar ty ⟨g,0,none⟩).run P w=.ok (.agg cs) w:=by
 have O:w.rangeAt g 0 cs.toList:=fun j v M=>by rw[Nat.zero_add,h.cell];simpa using M
 have:=run_loadVar_mid (P:=P) w g 0 ty cs.toList d O hu Z (by simpa using hi)
 simpa using this
def AR (ks:Nat->UInt8):Array Value:=((List.range 16).map (fun i=>bv (ks i))).toArray
theorem Blk.far {w:World} {g:Nat} {t:TypeId} {cs:Array Value} (h:Blk w g t cs) (p:Addr) (u:Value) (hp:p.block≠g):Blk (w.setCell p u) g t cs:=
 (Below.heap_setCell w p u g (fun e=>hp e.symm)).trans h
theorem Ad {w:World} {g:Nat} {t:TypeId} {cs:Array Value} (h:Blk w g t cs):w.rangeAt g 0 cs.toList:=fun j v M=>by
 rw[Nat.zero_add,h.cell];simpa using M
theorem Ar {w:World} {g:Nat} {t:TypeId} {cs:Array Value} (h:Blk w g t cs):w.there g 0 cs.size:=fun j M=>by
 rw[Nat.zero_add];exact⟨by rw[h.cell,Array.getElem?_eq_getElem M];rfl,h.frozen j⟩
theorem Bp {B:Nat} {a:World} (b:Nat) (M:B<=b):∀(O:List Value) (o:Nat) (w:World),Below B a w->Below B a (w.setCells b o O)
 | [],_,_,h=>h
 |v :: r,o,w,h=>Bp b M r (o+1) _ (AI h M v)
def ksOf (l:List UInt8) (i:Nat):UInt8:=l.getD i 0
theorem FR (f:Nat->UInt8) (j:Nat) (M:j<16):(AR f)[j]? = some (bv (f j)):=by
 rw[AR,List.getElem?_toArray];simp [M]
theorem k16 {w':World} {B:Nat} {t:TypeId} {ks:Nat->UInt8} (h:Blk w' B t (AR ks)):w'.cell? ⟨B,0,none⟩=some (.int .u8 ((ks 0).toNat:Int))/\w'.cell? ⟨B,1,none⟩=some (.int .u8 ((ks 1).toNat:Int))/\w'.cell? ⟨B,2,none⟩=some (.int .u8 ((ks 2).toNat:Int))/\w'.cell? ⟨B,3,none⟩=some (.int .u8 ((ks 3).toNat:Int))/\w'.cell? ⟨B,4,none⟩=some (.int .u8 ((ks 4).toNat:Int))/\w'.cell? ⟨B,5,none⟩=some (.int .u8 ((ks 5).toNat:Int))/\w'.cell? ⟨B,6,none⟩=some (.int .u8 ((ks 6).toNat:Int))/\w'.cell? ⟨B,7,none⟩=some (.int .u8 ((ks 7).toNat:Int))/\w'.cell? ⟨B,8,none⟩=some (.int .u8 ((ks 8).toNat:Int))/\w'.cell? ⟨B,9,none⟩=some (.int .u8 ((ks 9).toNat:Int))/\w'.cell? ⟨B,10,none⟩=some (.int .u8 ((ks 10).toNat:Int))/\w'.cell? ⟨B,11,none⟩=some (.int .u8 ((ks 11).toNat:Int))/\w'.cell? ⟨B,12,none⟩=some (.int .u8 ((ks 12).toNat:Int))/\w'.cell? ⟨B,13,none⟩=some (.int .u8 ((ks 13).toNat:Int))/\w'.cell? ⟨B,14,none⟩=some (.int .u8 ((ks 14).toNat:Int))/\w'.cell? ⟨B,15,none⟩=some (.int .u8 ((ks 15).toNat:Int)):=by
 refine⟨?_,?_,?_,?_,?_,?_,?_,?_,?_,?_,?_,?_,?_,?_,?_,?_⟩<;>(rw[h.cell];rfl)
theorem My (w:World) (g:Nat) (a b c d e f:Value):w.setCells g 0 [a,b,c,d,e,f]=(((((w.setCell ⟨g,0,none⟩ a).setCell ⟨g,1,none⟩ b).setCell ⟨g,2,none⟩ c).setCell ⟨g,3,none⟩ d).setCell ⟨g,4,none⟩ e).setCell ⟨g,5,none⟩ f:=rfl
theorem Blk.set6 {w:World} {g:Nat} {t:TypeId} {a b c d e f Z b' c' d' O M:Value} (h:Blk w g t #[Z,b',c',d',O,M]):Blk (w.setCells g 0 [a,b,c,d,e,f]) g t #[a,b,c,d,e,f]:=by
 rw[My];have:=(((((h.set 0 a).set 1 b).set 2 c).set 3 d).set 4 e).set 5 f
 simpa using this
def bV:Array Value:=#[.int .u64 0,.int .u64 0,.int .u64 0,.int .u64 0,.int .u64 0,.int .u64 0]
theorem Hd (ks:Nat->UInt8) (w:World):Calls Tryz.prog 281 #[.agg (AR ks)] w fun e w'=>e=.returned (.agg (stc ⟨start ks,0,0⟩))/\Below w.heap.size w w':=by
 have hk:AR ks=#[.int .u8 ((ks 0).toNat:Int),.int .u8 ((ks 1).toNat:Int),.int .u8 ((ks 2).toNat:Int),.int .u8 ((ks 3).toNat:Int),.int .u8 ((ks 4).toNat:Int),.int .u8 ((ks 5).toNat:Int),.int .u8 ((ks 6).toNat:Int),.int .u8 ((ks 7).toNat:Int),.int .u8 ((ks 8).toNat:Int),.int .u8 ((ks 9).toNat:Int),.int .u8 ((ks 10).toNat:Int),.int .u8 ((ks 11).toNat:Int),.int .u8 ((ks 12).toNat:Int),.int .u8 ((ks 13).toNat:Int),.int .u8 ((ks 14).toNat:Int),.int .u8 ((ks 15).toNat:Int)]:=rfl;have cA:∀w,Calls Tryz.prog 297 #[.agg #[.int .u8 ((ks 0).toNat:Int),.int .u8 ((ks 1).toNat:Int),.int .u8 ((ks 2).toNat:Int),.int .u8 ((ks 3).toNat:Int),.int .u8 ((ks 4).toNat:Int),.int .u8 ((ks 5).toNat:Int),.int .u8 ((ks 6).toNat:Int),.int .u8 ((ks 7).toNat:Int)]] w fun e w'=>e=.returned (wv (kA ks))/\Below w.heap.size w w':=fun w=>DF ks w
 have cB:∀w,Calls Tryz.prog 297 #[.agg #[.int .u8 ((ks 8).toNat:Int),.int .u8 ((ks 9).toNat:Int),.int .u8 ((ks 10).toNat:Int),.int .u8 ((ks 11).toNat:Int),.int .u8 ((ks 12).toNat:Int),.int .u8 ((ks 13).toNat:Int),.int .u8 ((ks 14).toNat:Int),.int .u8 ((ks 15).toNat:Int)]] w fun e w'=>e=.returned (wv (kB ks))/\Below w.heap.size w w':=fun w=>DF (fun i=>ks (8+i)) w
 obtain⟨p,ep⟩:∃x,x=kA ks:=⟨_,rfl⟩;obtain⟨q,eq⟩:∃x,x=kB ks:=⟨_,rfl⟩;obtain⟨v0,e0⟩:∃x,x=0x736f6d6570736575#64 ^^^ p:=⟨_,rfl⟩;obtain⟨v1,e1⟩:∃x,x=0x646f72616e646f6d#64 ^^^ q:=⟨_,rfl⟩;obtain⟨v2,e2⟩:∃x,x=0x6c7967656e657261#64 ^^^ p:=⟨_,rfl⟩;obtain⟨v3,e3⟩:∃x,x=0x7465646279746573#64 ^^^ q:=⟨_,rfl⟩;have x0:bits .xor .u64 8317987319222330741 (p.toNat:Int)=(v0.toNat:Int):=by rw[e0];exact Bs 0x736f6d6570736575#64 p
 have x1:bits .xor .u64 7237128888997146477 (q.toNat:Int)=(v1.toNat:Int):=by rw[e1];exact Bs 0x646f72616e646f6d#64 q
 have x2:bits .xor .u64 7816392313619706465 (p.toNat:Int)=(v2.toNat:Int):=by rw[e2];exact Bs 0x6c7967656e657261#64 p
 have x3:bits .xor .u64 8387220255154660723 (q.toNat:Int)=(v3.toNat:Int):=by rw[e3];exact Bs 0x7465646279746573#64 q
 have hs:stc ⟨start ks,0,0⟩=#[wv v0,wv v1,wv v2,wv v3,.int .u64 0,.int .u64 0]:=by
  rw[e0,e1,e2,e3,ep,eq];rfl
 rw[<-ep] at cA;rw[<-eq] at cB;rw[hs];clear hs ep eq e0 e1 e2 e3;obtain⟨B,eB⟩:=Ak (w.heap.size);have EB:=I eB;rw[hk];clear hk;go_enter Tryz.func281,Tryz.ntmps281
 go_upto_region 1 with fail
 rw[<-eB];clear eB;have bx:∀w:World,(Instr.arrayAt 362 (.slice (some ⟨B,0,none⟩) 8 16)).run Tryz.prog w=.ok (.pointer (some ⟨B,0,none⟩)) w:=fun _=>by kernel_rfl
 have bz:∀w:World,(Instr.arrayAt 362 (.slice (some ⟨B,8,none⟩) 8 8)).run Tryz.prog w=.ok (.pointer (some ⟨B,8,none⟩)) w:=fun _=>by kernel_rfl
 have hK:Blk ((w.alloc (.cells #[.int .u8 ((ks 0).toNat:Int),.int .u8 ((ks 1).toNat:Int),.int .u8 ((ks 2).toNat:Int),.int .u8 ((ks 3).toNat:Int),.int .u8 ((ks 4).toNat:Int),.int .u8 ((ks 5).toNat:Int),.int .u8 ((ks 6).toNat:Int),.int .u8 ((ks 7).toNat:Int),.int .u8 ((ks 8).toNat:Int),.int .u8 ((ks 9).toNat:Int),.int .u8 ((ks 10).toNat:Int),.int .u8 ((ks 11).toNat:Int),.int .u8 ((ks 12).toNat:Int),.int .u8 ((ks 13).toNat:Int),.int .u8 ((ks 14).toNat:Int),.int .u8 ((ks 15).toNat:Int)] 225)).alloc (.cells #[.int .u64 0,.int .u64 0,.int .u64 0,.int .u64 0,.int .u64 0,.int .u64 0] 348)) B 225 (AR ks):=Blk.alloc (Blk.new_of w B _ _ (AR ks) rfl EB.o.symm) _;have Z:Blk ((w.alloc (.cells #[.int .u8 ((ks 0).toNat:Int),.int .u8 ((ks 1).toNat:Int),.int .u8 ((ks 2).toNat:Int),.int .u8 ((ks 3).toNat:Int),.int .u8 ((ks 4).toNat:Int),.int .u8 ((ks 5).toNat:Int),.int .u8 ((ks 6).toNat:Int),.int .u8 ((ks 7).toNat:Int),.int .u8 ((ks 8).toNat:Int),.int .u8 ((ks 9).toNat:Int),.int .u8 ((ks 10).toNat:Int),.int .u8 ((ks 11).toNat:Int),.int .u8 ((ks 12).toNat:Int),.int .u8 ((ks 13).toNat:Int),.int .u8 ((ks 14).toNat:Int),.int .u8 ((ks 15).toNat:Int)] 225)).alloc (.cells #[.int .u64 0,.int .u64 0,.int .u64 0,.int .u64 0,.int .u64 0,.int .u64 0] 348)) (B+1) 348 bV:=Blk.new_of (w.alloc _) (B+1) _ _ bV rfl (by have:=EB.o;simp;omega);have hW:Below w.heap.size w ((w.alloc (.cells #[.int .u8 ((ks 0).toNat:Int),.int .u8 ((ks 1).toNat:Int),.int .u8 ((ks 2).toNat:Int),.int .u8 ((ks 3).toNat:Int),.int .u8 ((ks 4).toNat:Int),.int .u8 ((ks 5).toNat:Int),.int .u8 ((ks 6).toNat:Int),.int .u8 ((ks 7).toNat:Int),.int .u8 ((ks 8).toNat:Int),.int .u8 ((ks 9).toNat:Int),.int .u8 ((ks 10).toNat:Int),.int .u8 ((ks 11).toNat:Int),.int .u8 ((ks 12).toNat:Int),.int .u8 ((ks 13).toNat:Int),.int .u8 ((ks 14).toNat:Int),.int .u8 ((ks 15).toNat:Int)] 225)).alloc (.cells #[.int .u64 0,.int .u64 0,.int .u64 0,.int .u64 0,.int .u64 0,.int .u64 0] 348)):=((Below.refl w.heap.size w).alloc Ag _).alloc (by simp) _;have bb:=I x0;clear x0;have bn:=I x1;clear x1;have bq:=I x2;clear x2;have aw:=I x3;clear x3;generalize ((w.alloc (.cells #[.int .u8 ((ks 0).toNat:Int),.int .u8 ((ks 1).toNat:Int),.int .u8 ((ks 2).toNat:Int),.int .u8 ((ks 3).toNat:Int),.int .u8 ((ks 4).toNat:Int),.int .u8 ((ks 5).toNat:Int),.int .u8 ((ks 6).toNat:Int),.int .u8 ((ks 7).toNat:Int),.int .u8 ((ks 8).toNat:Int),.int .u8 ((ks 9).toNat:Int),.int .u8 ((ks 10).toNat:Int),.int .u8 ((ks 11).toNat:Int),.int .u8 ((ks 12).toNat:Int),.int .u8 ((ks 13).toNat:Int),.int .u8 ((ks 14).toNat:Int),.int .u8 ((ks 15).toNat:Int)] 225)).alloc (.cells #[.int .u64 0,.int .u64 0,.int .u64 0,.int .u64 0,.int .u64 0,.int .u64 0] 348))=W1 at hK Z hW⊢;have hK:Blk W1.drew B 225 (AR ks):=hK;have Z:Blk W1.drew (B+1) 348 #[.int .u64 0,.int .u64 0,.int .u64 0,.int .u64 0,.int .u64 0,.int .u64 0]:=Z;have hW:Below w.heap.size w W1.drew:=below_drewN hW 1
 go_region_held3 (fun w'=>w'.cell? ⟨B,0,none⟩=some (.int .u8 ((ks 0).toNat:Int))/\w'.cell? ⟨B,1,none⟩=some (.int .u8 ((ks 1).toNat:Int))/\w'.cell? ⟨B,2,none⟩=some (.int .u8 ((ks 2).toNat:Int))/\w'.cell? ⟨B,3,none⟩=some (.int .u8 ((ks 3).toNat:Int))/\w'.cell? ⟨B,4,none⟩=some (.int .u8 ((ks 4).toNat:Int))/\w'.cell? ⟨B,5,none⟩=some (.int .u8 ((ks 5).toNat:Int))/\w'.cell? ⟨B,6,none⟩=some (.int .u8 ((ks 6).toNat:Int))/\w'.cell? ⟨B,7,none⟩=some (.int .u8 ((ks 7).toNat:Int))/\w'.cell? ⟨B,8,none⟩=some (.int .u8 ((ks 8).toNat:Int))/\w'.cell? ⟨B,9,none⟩=some (.int .u8 ((ks 9).toNat:Int))/\w'.cell? ⟨B,10,none⟩=some (.int .u8 ((ks 10).toNat:Int))/\w'.cell? ⟨B,11,none⟩=some (.int .u8 ((ks 11).toNat:Int))/\w'.cell? ⟨B,12,none⟩=some (.int .u8 ((ks 12).toNat:Int))/\w'.cell? ⟨B,13,none⟩=some (.int .u8 ((ks 13).toNat:Int))/\w'.cell? ⟨B,14,none⟩=some (.int .u8 ((ks 14).toNat:Int))/\w'.cell? ⟨B,15,none⟩=some (.int .u8 ((ks 15).toNat:Int))) (exact k16 hK) (first | (go_at_call 297;refine Aj (cA _) ?_;rintro wq hb;clear cA;have O:=Blk.below hK hb;have M:=Blk.below Z hb;have av:=bt hW hb;clear hK Z hW;have hK:=O;have Z:=M;have hW:=av;clear O M av hb) | (go_at_call 297;refine Aj (cB _) ?_;rintro wq hb;clear cB;have O:=Blk.below hK hb;have M:=Blk.below Z hb;have av:=bt hW hb;clear hK Z hW;have hK:=O;have Z:=M;have hW:=av;clear O M av hb))
 all_goals
  have x0:=bb.o;have x1:=bn.o;have x2:=bq.o;have x3:=aw.o;have HZ:=I Z;clear Z;have HW:=I hW;clear hW;clear hK bb bn bq aw
 all_goals
  have c0:wq.cell? ⟨B+1,0,none⟩=some (.int .u64 0):=by rw[HZ.o.cell];rfl
  have c1:wq.cell? ⟨B+1,1,none⟩=some (.int .u64 0):=by rw[HZ.o.cell];rfl
  have c2:wq.cell? ⟨B+1,2,none⟩=some (.int .u64 0):=by rw[HZ.o.cell];rfl
  have c3:wq.cell? ⟨B+1,3,none⟩=some (.int .u64 0):=by rw[HZ.o.cell];rfl
  have c4:wq.cell? ⟨B+1,4,none⟩=some (.int .u64 0):=by rw[HZ.o.cell];rfl
  have c5:wq.cell? ⟨B+1,5,none⟩=some (.int .u64 0):=by rw[HZ.o.cell];rfl
  have fz:=HZ.o.frozen;clear bx bz
 all_goals go_wp2_with fail
 all_goals
  have hE:=Blk.set6 (a:=wv v0) (b:=wv v1) (c:=wv v2) (d:=wv v3) (e:=.int .u64 0) (f:=.int .u64 0) HZ.o;rw[My] at hE;have hq:=Ao (P:=Tryz.prog) hE Tryz.underlying348 rfl (by kernel_rfl);refine bodyPost_ret (v:=.agg #[wv v0,wv v1,wv v2,wv v3,.int .u64 0,.int .u64 0]) ?_ ?_ ?_
  ·exact Au 2 348 ⟨B+1,0,none⟩ Tryz.results281 rfl hq
  ·rfl
  refine⟨rfl,?_⟩;have hle:w.heap.size<=B+1:=by have:=EB.o;omega
  repeat (refine AI ?_ hle _)
  exact HW.o
end Si
end Go.Proofs.YtfbnjcdhipplpaaGreat
