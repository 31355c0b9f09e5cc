import Derived.Test.YtlchkbpffaclmaaGreatZKdcTills1
set_option maxHeartbeats 25600000
set_option maxRecDepth 100000
set_option linter.unusedVariables false
set_option linter.unusedSimpArgs false
namespace Go.Proofs.YtlchkbpffaclmaaGreat
namespace Si
open Go.RowKit Af
abbrev Wd:=BitVec 64
def rot (v:Wd) (s:Nat):Wd:=(v <<< s) ||| (v >>> (64 - s))
abbrev wv (v:Wd):Value:=.int .u64 (v.toNat:Int)
def wd (n:Nat):Wd:=BitVec.ofNat 64 n
theorem Gm (v:Wd):v.toNat<18446744073709551616:=v.isLt
theorem JU (n:Nat) (h:n<18446744073709551616):(wd n).toNat=n:=by
 rw[wd,BitVec.toNat_ofNat];exact Nat.mod_eq_of_lt h
theorem Br (x y:Wd):bits .xor .u64 (x.toNat:Int) (y.toNat:Int)=((x ^^^ y).toNat:Int):=by
 rw[u64_xor_nat _ _ x.isLt y.isLt,BitVec.toNat_xor]
theorem Gb (x y:Wd):((x.toNat:Int)+(y.toNat:Int)) % 18446744073709551616=((x+y).toNat:Int):=by
 rw[BitVec.toNat_add];omega
theorem Ig (x y:Wd):IntKind.u64.wrap ((x.toNat:Int)+(y.toNat:Int))=((x+y).toNat:Int):=by
 rw[IntKind.wrap_u64,Gb]
theorem KH (v:Wd) (s:Nat):(rot v s).toNat=(v.toNat*2 ^ s % 18446744073709551616) ||| (v.toNat / 2 ^ (64 - s)):=by
 simp [rot,BitVec.toNat_or,BitVec.toNat_shiftLeft,BitVec.toNat_ushiftRight,Nat.shiftLeft_eq,Nat.shiftRight_eq_div_pow]
theorem Ic (v:Wd) (a b:Nat) (s:Nat) (ha:a=v.toNat*2 ^ s % 18446744073709551616) (hb:b=v.toNat / 2 ^ (64 - s)):bits .or .u64 (a:Int) (b:Int)=((rot v s).toNat:Int):=by
 rw[u64_or_nat a b (by omega) (by have:=Gm v;have:=Nat.div_le_self v.toNat (2 ^ (64 - s));omega),KH,ha,hb]
theorem or13 (v:Wd):bits .or .u64 ((v.toNat:Int)*8192 % 18446744073709551616) ((v.toNat:Int) / 2251799813685248)=((rot v 13).toNat:Int):=Ic v _ _ 13 rfl rfl
theorem or32 (v:Wd):bits .or .u64 ((v.toNat:Int)*4294967296 % 18446744073709551616) ((v.toNat:Int) / 4294967296)=((rot v 32).toNat:Int):=Ic v _ _ 32 rfl rfl
theorem or16 (v:Wd):bits .or .u64 ((v.toNat:Int)*65536 % 18446744073709551616) ((v.toNat:Int) / 281474976710656)=((rot v 16).toNat:Int):=Ic v _ _ 16 rfl rfl
theorem or21 (v:Wd):bits .or .u64 ((v.toNat:Int)*2097152 % 18446744073709551616) ((v.toNat:Int) / 8796093022208)=((rot v 21).toNat:Int):=Ic v _ _ 21 rfl rfl
theorem or17 (v:Wd):bits .or .u64 ((v.toNat:Int)*131072 % 18446744073709551616) ((v.toNat:Int) / 140737488355328)=((rot v 17).toNat:Int):=Ic v _ _ 17 rfl rfl
def BH:List UInt8->Nat
 | []=>0
 |b :: l=>b.toNat+256*BH l
theorem GM:∀l,BH l<256 ^ l.length
 | []=>by simp [BH]
 |b :: l=>by
  have h:=GM l;have hb:=b.toNat_lt;rw[BH,List.length_cons,Nat.pow_succ];omega
theorem Hn (b:UInt8):∀l,BH (l++[b])=BH l+b.toNat*256 ^ l.length
 | []=>by simp [BH]
 |c :: l=>by
  rw[List.cons_append,BH,Hn b l,BH,List.length_cons,Nat.pow_succ,Nat.mul_add,Nat.add_assoc]
  congr 2
  rw[Nat.mul_comm,Nat.mul_assoc]
theorem KL {l:List UInt8} (h:l.length<=8):BH l<18446744073709551616:=
 Nat.lt_of_lt_of_le (GM l) (Nat.pow_le_pow_right (by decide) h:256 ^ l.length<=256 ^ 8)
theorem Ru {l:List UInt8} (h:l.length<=7):BH l<72057594037927936:=
 Nat.lt_of_lt_of_le (GM l) (Nat.pow_le_pow_right (by decide) h:256 ^ l.length<=256 ^ 7)
structure V where
 a:Wd
 b:Wd
 c:Wd
 d:Wd
def rnd (s:V):V:=
 let a1:=s.a+s.b
 let b1:=rot s.b 13 ^^^ a1
 let a2:=rot a1 32
 let c1:=s.c+s.d
 let d1:=rot s.d 16 ^^^ c1
 let a3:=a2+d1
 let d2:=rot d1 21 ^^^ a3
 let c2:=c1+b1
 let b2:=rot b1 17 ^^^ c2
 let c3:=rot c2 32
 ⟨a3,b2,c3,d2⟩
def rnds:Nat->V->V
 |0,s=>s
 |n+1,s=>rnd (rnds n s)
def addM (s:V) (m:Wd):V:=⟨(rnds 2 ⟨s.a,s.b,s.c,s.d ^^^ m⟩).a ^^^ m,(rnds 2 ⟨s.a,s.b,s.c,s.d ^^^ m⟩).b,(rnds 2 ⟨s.a,s.b,s.c,s.d ^^^ m⟩).c,(rnds 2 ⟨s.a,s.b,s.c,s.d ^^^ m⟩).d⟩
def allX (s:V):Wd:=s.a ^^^ s.b ^^^ s.c ^^^ s.d
def fin (s:V):Wd:=allX (rnds 4 ⟨s.a,s.b,s.c ^^^ 255#64,s.d⟩)
def kA (ks:Nat->UInt8):Wd:=wd (BH ((List.range 8).map ks))
def kB (ks:Nat->UInt8):Wd:=wd (BH ((List.range 8).map fun i=>ks (8+i)))
def start (ks:Nat->UInt8):V:=⟨0x736f6d6570736575#64 ^^^ kA ks,0x646f72616e646f6d#64 ^^^ kB ks,0x6c7967656e657261#64 ^^^ kA ks,0x7465646279746573#64 ^^^ kB ks⟩
structure St where
 v:V
 r:Nat
 n:Nat
def addB (s:St) (b:UInt8):St:=
 if (s.n+1) % 8=0 then ⟨addM s.v (wd (s.r+b.toNat*256 ^ (s.n % 8))),0,s.n+1⟩ else ⟨s.v,s.r+b.toNat*256 ^ (s.n % 8),s.n+1⟩
theorem Oh (s:St) (b:UInt8) (h:(s.n+1) % 8=0):addB s b=⟨addM s.v (wd (s.r+b.toNat*256 ^ (s.n % 8))),0,s.n+1⟩:=if_pos h
theorem Rv (s:St) (b:UInt8) (h:¬(s.n+1) % 8=0):addB s b=⟨s.v,s.r+b.toNat*256 ^ (s.n % 8),s.n+1⟩:=if_neg h
def stOf (ks:Nat->UInt8) (l:List UInt8):St:=l.foldl addB ⟨start ks,0,0⟩
def PI (s:St):Wd:=wd (s.r+s.n % 256*72057594037927936)
def finS (s:St):Wd:=fin (addM s.v (PI s))
def Ho (ks:Nat->UInt8) (l:List UInt8):Wd:=finS (stOf ks l)
theorem LK (ks:Nat->UInt8) (l:List UInt8) (b:UInt8):stOf ks (l++[b])=addB (stOf ks l) b:=by simp [stOf]
def full (ks:Nat->UInt8) (p:List UInt8):Nat->V
 |0=>start ks
 |j+1=>addM (full ks p j) (wd (BH ((p.drop (8*j)).take 8)))
theorem LN (ks:Nat->UInt8) (p:List UInt8):∀n,n<=p.length->stOf ks (p.take n)=⟨full ks p (n / 8),BH ((p.take n).drop (8*(n / 8))),n⟩
 |0,_=>by simp [stOf,full,BH]
 |n+1,h=>by
  have ih:=LN ks p n (by omega);have hlt:n<p.length:=by omega
  have et:p.take (n+1)=p.take n++[p[n]]:=by rw[List.take_succ_eq_append_getElem hlt]
  have el:((p.take n).drop (8*(n / 8))).length=n % 8:=by rw[List.length_drop,List.length_take];omega
  have ew:(p.take (n+1)).drop (8*(n / 8))=(p.take n).drop (8*(n / 8))++[p[n]]:=by
   rw[et,List.drop_append_of_le_length (by rw[List.length_take];omega)]
  have eN:BH ((p.take (n+1)).drop (8*(n / 8)))=BH ((p.take n).drop (8*(n / 8)))+p[n].toNat*256 ^ (n % 8):=by rw[ew,Hn,el]
  have e0:stOf ks (p.take (n+1))=addB (stOf ks (p.take n)) p[n]:=by rw[et,LK]
  have ez:(p.take (n+1)).drop (n+1) = []:=List.drop_of_length_le (by rw[List.length_take];omega);rw[e0,ih]
  by_cases h8:(n+1) % 8=0
  ·have hd:(n+1) / 8=n / 8+1:=by omega
   have hm:8*((n+1) / 8)=n+1:=by omega
   have ed:(p.take (n+1)).drop (8*(n / 8))=(p.drop (8*(n / 8))).take 8:=by rw[List.drop_take,show n+1 - 8*(n / 8)=8 by omega]
   rw[Oh _ _ h8,<-eN,hm,ez,hd,full,ed];simp only[BH]
  ·have hd:(n+1) / 8=n / 8:=by omega
   rw[Rv _ _ h8,hd,eN]
theorem FP (ks:Nat->UInt8) (p:List UInt8):stOf ks p=⟨full ks p (p.length / 8),BH (p.drop (8*(p.length / 8))),p.length⟩:=by
 have h:=LN ks p p.length Ag
 rwa [List.take_length] at h
theorem YQ (ks:Nat->UInt8) (p:List UInt8):(stOf ks p).n=p.length:=by rw[FP]
theorem VP (ks:Nat->UInt8) (p:List UInt8):(stOf ks p).r<256 ^ ((stOf ks p).n % 8):=by
 rw[FP];have h:=GM (p.drop (8*(p.length / 8)));rw[List.length_drop] at h
 rwa [show p.length - 8*(p.length / 8)=p.length % 8 by omega] at h
theorem Uv (k:Nat) (h:k<=7):256 ^ k<=72057594037927936:=(Nat.pow_le_pow_right (by decide) h:256 ^ k<=256 ^ 7)
theorem LO (r b k:Nat) (hr:r<256 ^ k):r ||| b*256 ^ k=r+b*256 ^ k:=by
 have e:(256:Nat) ^ k=2 ^ (8*k):=by rw[Nat.pow_mul]
 rw[e] at hr⊢;have h:=Nat.shiftLeft_add_eq_or_of_lt hr b;rw[Nat.shiftLeft_eq] at h;rw[Nat.or_comm,<-h,Nat.add_comm]
theorem Oi (r:Nat) (b:UInt8) (k:Nat) (hr:r<256 ^ k):r+b.toNat*256 ^ k<256 ^ (k+1):=by
 have hb:=b.toNat_lt;rw[Nat.pow_succ];have:b.toNat*256 ^ k<=255*256 ^ k:=Nat.mul_le_mul_right _ (by omega);omega
theorem KM (r:Nat) (b:UInt8) (k:Nat) (hk:k<=7) (hr:r<256 ^ k) (X:Int) (hX:X=((b.toNat*256 ^ k:Nat):Int)):bits .or .u64 (r:Int) X=((r+b.toNat*256 ^ k:Nat):Int):=by
 have hp:=Uv k hk;have hl:=Oi r b k hr;have h8:(256:Nat) ^ (k+1)<=256 ^ 8:=Nat.pow_le_pow_right (by decide) (by omega);have h8':(256:Nat) ^ 8=18446744073709551616:=by decide
 rw[hX,u64_or_nat _ _ (by omega) (by omega),LO r _ k hr]
theorem Oj (r n:Nat) (hr:r<72057594037927936):bits .or .u64 (r:Int) ((n:Int)*72057594037927936 % 18446744073709551616)=((r+n % 256*72057594037927936:Nat):Int):=by
 have e:(n:Int)*72057594037927936 % 18446744073709551616=((n % 256*256 ^ 7:Nat):Int):=by
  have:(256:Nat) ^ 7=72057594037927936:=by decide
  rw[this];omega
 have eb:(UInt8.ofNat (n % 256)).toNat=n % 256:=by simp
 have h:=KM r (UInt8.ofNat (n % 256)) 7 (by decide) hr ((n:Int)*72057594037927936 % 18446744073709551616) (by rw[e,eb]);rw[h,eb]
theorem YR (v:Wd) (w:World):Calls Tryz.prog 253 #[wv v,.int .i64 13] w fun e w'=>e=.returned (wv (rot v 13))/\w'=w:=by
 have hand:bits .and .u64 13 63=13:=by kernel_rfl
 have hr:=or13 v;rw[<-IntKind.wrap_u64] at hr;go_enter Tryz.func253,Tryz.ntmps253
 go_wp2
 go_ret;exact⟨rfl,rfl⟩
theorem VQ (v:Wd) (w:World):Calls Tryz.prog 253 #[wv v,.int .i64 32] w fun e w'=>e=.returned (wv (rot v 32))/\w'=w:=by
 have hand:bits .and .u64 32 63=32:=by kernel_rfl
 have hr:=or32 v;rw[<-IntKind.wrap_u64] at hr;go_enter Tryz.func253,Tryz.ntmps253
 go_wp2
 go_ret;exact⟨rfl,rfl⟩
theorem YS (v:Wd) (w:World):Calls Tryz.prog 253 #[wv v,.int .i64 16] w fun e w'=>e=.returned (wv (rot v 16))/\w'=w:=by
 have hand:bits .and .u64 16 63=16:=by kernel_rfl
 have hr:=or16 v;rw[<-IntKind.wrap_u64] at hr;go_enter Tryz.func253,Tryz.ntmps253
 go_wp2
 go_ret;exact⟨rfl,rfl⟩
theorem YT (v:Wd) (w:World):Calls Tryz.prog 253 #[wv v,.int .i64 21] w fun e w'=>e=.returned (wv (rot v 21))/\w'=w:=by
 have hand:bits .and .u64 21 63=21:=by kernel_rfl
 have hr:=or21 v;rw[<-IntKind.wrap_u64] at hr;go_enter Tryz.func253,Tryz.ntmps253
 go_wp2
 go_ret;exact⟨rfl,rfl⟩
theorem YU (v:Wd) (w:World):Calls Tryz.prog 253 #[wv v,.int .i64 17] w fun e w'=>e=.returned (wv (rot v 17))/\w'=w:=by
 have hand:bits .and .u64 17 63=17:=by kernel_rfl
 have hr:=or17 v;rw[<-IntKind.wrap_u64] at hr;go_enter Tryz.func253,Tryz.ntmps253
 go_wp2
 go_ret;exact⟨rfl,rfl⟩
theorem Xb (v:Wd) (w:World):Calls Tryz.prog 182 #[wv v,.int .u64 13] w fun e w'=>e=.returned (wv (rot v 13))/\w'=w:=by
 have hr:=or13 v;rw[<-IntKind.wrap_u64] at hr;go_enter Tryz.func182,Tryz.ntmps182
 go_wp2
 go_ret;exact⟨rfl,rfl⟩
theorem Rw (v:Wd) (w:World):Calls Tryz.prog 182 #[wv v,.int .u64 32] w fun e w'=>e=.returned (wv (rot v 32))/\w'=w:=by
 have hr:=or32 v;rw[<-IntKind.wrap_u64] at hr;go_enter Tryz.func182,Tryz.ntmps182
 go_wp2
 go_ret;exact⟨rfl,rfl⟩
theorem Xc (v:Wd) (w:World):Calls Tryz.prog 182 #[wv v,.int .u64 16] w fun e w'=>e=.returned (wv (rot v 16))/\w'=w:=by
 have hr:=or16 v;rw[<-IntKind.wrap_u64] at hr;go_enter Tryz.func182,Tryz.ntmps182
 go_wp2
 go_ret;exact⟨rfl,rfl⟩
theorem Xd (v:Wd) (w:World):Calls Tryz.prog 182 #[wv v,.int .u64 21] w fun e w'=>e=.returned (wv (rot v 21))/\w'=w:=by
 have hr:=or21 v;rw[<-IntKind.wrap_u64] at hr;go_enter Tryz.func182,Tryz.ntmps182
 go_wp2
 go_ret;exact⟨rfl,rfl⟩
theorem Xe (v:Wd) (w:World):Calls Tryz.prog 182 #[wv v,.int .u64 17] w fun e w'=>e=.returned (wv (rot v 17))/\w'=w:=by
 have hr:=or17 v;rw[<-IntKind.wrap_u64] at hr;go_enter Tryz.func182,Tryz.ntmps182
 go_wp2
 go_ret;exact⟨rfl,rfl⟩
theorem Xf (M:Nat) (b:UInt8) (hM:M<72057594037927936):bits .or .u64 ((M:Int)*256) (b.toNat:Int)=((b.toNat+256*M:Nat):Int):=by
 have hb:=b.toNat_lt;have e:(M:Int)*256=((M*256:Nat):Int):=by omega
 rw[e,u64_or_nat _ _ (by omega) (by omega)];have h:=nat_join 8 (M*256) b.toNat (by omega) (by omega);rw[h];omega
theorem MX (A:Option Addr) (n c:Nat) (l:List UInt8) (w:World) (B:Nat) (hn:n=l.length) (h8:n<=8) (hr:Rd w B A (bvs l)) :
  Calls Tryz.prog 125 #[.slice A n c] w fun e w'=>e=.returned (wv (wd (BH l)))/\w'=w:=by
 have HR:=I hr;clear hr;have HN:=I hn;clear hn;have H8:=I h8;clear h8;have e8:(n:Int)<=8:=by have:=H8.o;omega
 go_enter Tryz.func125,Tryz.ntmps125
 go_wp2_with fail
 go_loop [3,4] (fun mv iv=>∃j:Nat,j<=n/\iv=.int .i64 ((j:Int) - 1)/\mv=.int .u64 (BH (l.drop j):Nat)) (fun _ iv=>(intOf iv+1).toNat)
 case atStart=>exact⟨n,Nat.le_refl _,by go_num,by rw[List.drop_of_length_le (by have:=HN.o;omega)];rfl⟩
 case round=>
  obtain⟨j,hj,rfl,rfl⟩:=hrel;cases j with
  |zero=>
   have e:(BH l:Int)=((wd (BH l)).toNat:Int):=by rw[JU _ (KL (by have:=HN.o;have:=H8.o;omega))]
   rw[List.drop_zero];obtain⟨x,ex⟩:=Ak (BH l);rw[<-ex] at e⊢;have E:=I e;clear e;have EX:=I ex;clear ex
   go_wp2_with fail
   go_ret;exact⟨by rw[wv,<-EX.o];simp [E.o],rfl⟩
  |succ j=>
   have hc:((j+1:Nat):Int) - 1=(j:Int):=by omega
   rw[hc];have hlt:j<l.length:=by have:=HN.o;omega
   have hr:=HR.o;obtain⟨b,o,rfl,hbB,hcell0⟩:=hr.at_ (Dy hlt);have hcell:w.cell? ⟨b,o+j,none⟩=some (.int .u8 ((l[j]).toNat:Int)):=hcell0;clear hcell0;obtain⟨y,ey⟩:=Ak (l[j]);rw[<-ey] at hcell;obtain⟨M,eM⟩:=Ak (BH (l.drop (j+1)));rw[<-eM];have hM:M<72057594037927936:=by rw[eM];exact Ru (by rw[List.length_drop];have:=HN.o;have:=H8.o;omega)
   have e2:y.toNat+256*M=BH (l.drop j):=by rw[eM,ey,List.drop_eq_getElem_cons hlt,BH]
   have hx:=Xf M y hM;rw[e2] at hx;obtain⟨M2,eM2⟩:∃M,M=BH (l.drop j):=⟨_,rfl⟩;rw[<-eM2] at hx;have EM2:=I eM2;have e3:(0:Int)<=(j:Int):=by omega
   have e4:(j:Int)<(n:Int):=by omega
   have e5:j<n:=by omega
   have e7:(j:Int)<8:=by omega
   have hy:IntKind.u64.wrap (y.toNat:Int)=(y.toNat:Int):=by rw[IntKind.wrap_u64];have:=y.toNat_lt;omega
   have HJ:=I hj;have HLT:=I hlt;clear hj hlt hr eM e2 ey eM2
   go_wp2_with fail
   go_round
   case rel=>exact⟨j,by omega,by go_num,by rw[EM2.o]⟩
   case measure=>simp [intOf]
def key8 (f:Nat->UInt8):Array Value:=#[.int .u8 (f 0).toNat,.int .u8 (f 1).toNat,.int .u8 (f 2).toNat,.int .u8 (f 3).toNat,.int .u8 (f 4).toNat,.int .u8 (f 5).toNat,.int .u8 (f 6).toNat,.int .u8 (f 7).toNat]
def Hp (f:Nat->UInt8) (i:Nat):Nat:=BH ((List.range i).map f)
theorem PJ (f:Nat->UInt8) (i:Nat):Hp f (i+1)=Hp f i+(f i).toNat*256 ^ i:=by
 unfold Hp;rw[List.range_succ,List.map_append,List.map_singleton,Hn];simp
theorem Uw (f:Nat->UInt8) (i:Nat):Hp f i<256 ^ i:=by
 have:=GM ((List.range i).map f)
 simpa [Hp] using this
theorem or_at (f:Nat->UInt8) (i:Nat) (K:Int) (hi:i<=7) (hK:K=((256 ^ i:Nat):Int)):bits .or .u64 (Hp f i:Nat) (IntKind.u64.wrap (((f i).toNat:Int)*K))=(Hp f (i+1):Nat):=by
 rw[PJ];refine KM _ _ i hi (Uw f i) _ ?_;have h1:=Uv i hi;have h2:=(f i).toNat_lt;have h3:(f i).toNat*256 ^ i<=255*72057594037927936:=Nat.mul_le_mul (by omega) h1;rw[hK,IntKind.wrap_u64,<-Int.natCast_mul];omega
theorem Dh (f:Nat->UInt8) (w:World) :
  Calls Tryz.prog 235 #[.agg (key8 f)] w fun e w'=>e=.returned (wv (wd (Hp f 8)))/\Below w.heap.size w w':=by
 unfold key8;go_enter Tryz.func235,Tryz.ntmps235
 go_wp2_with fail
 go_loop [3,7] (fun mv iv=>∃j:Nat,j<=8/\iv=.int .i64 (j:Int)/\mv=.int .u64 (Hp f j:Nat)) (fun _ iv=>8 - (intOf iv).toNat)
 case atStart=>exact⟨0,by decide,rfl,rfl⟩
 case round=>
  obtain⟨j,hj,rfl,rfl⟩:=hrel;obtain⟨M,eM⟩:=Ak (Hp f j);obtain⟨M2,eM2⟩:∃M,M=Hp f (j+1):=⟨_,rfl⟩;have hx:∀K:Int,j<=7->K=((256 ^ j:Nat):Int)->bits .or .u64 (M:Int) (IntKind.u64.wrap (((f j).toNat:Int)*K))=(M2:Int):=fun K h1 h2=>by rw[eM,eM2];exact or_at f j K h1 h2
  rw[<-eM];have EM:=I eM;clear eM;have EM2:=I eM2;clear eM2;have hs:j=0\/j=1\/j=2\/j=3\/j=4\/j=5\/j=6\/j=7\/j=8:=by omega
  clear hj;rcases hs with rfl | rfl | rfl | rfl | rfl | rfl | rfl | rfl | rfl
  ·have hx:=hx 1 (by decide) (by decide)
   have hy:IntKind.u64.wrap ((f 0).toNat:Int)=((f 0).toNat:Int):=by rw[IntKind.wrap_u64];have:=(f 0).toNat_lt;omega
   rw[Int.mul_one,hy] at hx;have hi:∀w:World,(Instr.index 316 (.agg #[.int .u8 (f 0).toNat,.int .u8 (f 1).toNat,.int .u8 (f 2).toNat,.int .u8 (f 3).toNat,.int .u8 (f 4).toNat,.int .u8 (f 5).toNat,.int .u8 (f 6).toNat,.int .u8 (f 7).toNat]) (.int .i64 0)).run Tryz.prog w=.ok (.int .u8 (f 0).toNat) w:=fun _=>by kernel_rfl
   go_wp2_with fail
   go_round
   case rel=>exact⟨1,by decide,by go_num,by rw[EM2.o]⟩
   case measure=>simp [intOf]
  ·have hx:=hx 256 (by decide) (by decide)
   have hy:IntKind.u64.wrap ((f 1).toNat:Int)=((f 1).toNat:Int):=by rw[IntKind.wrap_u64];have:=(f 1).toNat_lt;omega
   have hi:∀w:World,(Instr.index 316 (.agg #[.int .u8 (f 0).toNat,.int .u8 (f 1).toNat,.int .u8 (f 2).toNat,.int .u8 (f 3).toNat,.int .u8 (f 4).toNat,.int .u8 (f 5).toNat,.int .u8 (f 6).toNat,.int .u8 (f 7).toNat]) (.int .i64 1)).run Tryz.prog w=.ok (.int .u8 (f 1).toNat) w:=fun _=>by kernel_rfl
   go_wp2_with fail
   go_round
   case rel=>exact⟨2,by decide,by go_num,by rw[EM2.o]⟩
   case measure=>simp [intOf]
  ·have hx:=hx 65536 (by decide) (by decide)
   have hy:IntKind.u64.wrap ((f 2).toNat:Int)=((f 2).toNat:Int):=by rw[IntKind.wrap_u64];have:=(f 2).toNat_lt;omega
   have hi:∀w:World,(Instr.index 316 (.agg #[.int .u8 (f 0).toNat,.int .u8 (f 1).toNat,.int .u8 (f 2).toNat,.int .u8 (f 3).toNat,.int .u8 (f 4).toNat,.int .u8 (f 5).toNat,.int .u8 (f 6).toNat,.int .u8 (f 7).toNat]) (.int .i64 2)).run Tryz.prog w=.ok (.int .u8 (f 2).toNat) w:=fun _=>by kernel_rfl
   go_wp2_with fail
   go_round
   case rel=>exact⟨3,by decide,by go_num,by rw[EM2.o]⟩
   case measure=>simp [intOf]
  ·have hx:=hx 16777216 (by decide) (by decide)
   have hy:IntKind.u64.wrap ((f 3).toNat:Int)=((f 3).toNat:Int):=by rw[IntKind.wrap_u64];have:=(f 3).toNat_lt;omega
   have hi:∀w:World,(Instr.index 316 (.agg #[.int .u8 (f 0).toNat,.int .u8 (f 1).toNat,.int .u8 (f 2).toNat,.int .u8 (f 3).toNat,.int .u8 (f 4).toNat,.int .u8 (f 5).toNat,.int .u8 (f 6).toNat,.int .u8 (f 7).toNat]) (.int .i64 3)).run Tryz.prog w=.ok (.int .u8 (f 3).toNat) w:=fun _=>by kernel_rfl
   go_wp2_with fail
   go_round
   case rel=>exact⟨4,by decide,by go_num,by rw[EM2.o]⟩
   case measure=>simp [intOf]
  ·have hx:=hx 4294967296 (by decide) (by decide)
   have hy:IntKind.u64.wrap ((f 4).toNat:Int)=((f 4).toNat:Int):=by rw[IntKind.wrap_u64];have:=(f 4).toNat_lt;omega
   have hi:∀w:World,(Instr.index 316 (.agg #[.int .u8 (f 0).toNat,.int .u8 (f 1).toNat,.int .u8 (f 2).toNat,.int .u8 (f 3).toNat,.int .u8 (f 4).toNat,.int .u8 (f 5).toNat,.int .u8 (f 6).toNat,.int .u8 (f 7).toNat]) (.int .i64 4)).run Tryz.prog w=.ok (.int .u8 (f 4).toNat) w:=fun _=>by kernel_rfl
   go_wp2_with fail
   go_round
   case rel=>exact⟨5,by decide,by go_num,by rw[EM2.o]⟩
   case measure=>simp [intOf]
  ·have hx:=hx 1099511627776 (by decide) (by decide)
   have hy:IntKind.u64.wrap ((f 5).toNat:Int)=((f 5).toNat:Int):=by rw[IntKind.wrap_u64];have:=(f 5).toNat_lt;omega
   have hi:∀w:World,(Instr.index 316 (.agg #[.int .u8 (f 0).toNat,.int .u8 (f 1).toNat,.int .u8 (f 2).toNat,.int .u8 (f 3).toNat,.int .u8 (f 4).toNat,.int .u8 (f 5).toNat,.int .u8 (f 6).toNat,.int .u8 (f 7).toNat]) (.int .i64 5)).run Tryz.prog w=.ok (.int .u8 (f 5).toNat) w:=fun _=>by kernel_rfl
   go_wp2_with fail
   go_round
   case rel=>exact⟨6,by decide,by go_num,by rw[EM2.o]⟩
   case measure=>simp [intOf]
  ·have hx:=hx 281474976710656 (by decide) (by decide)
   have hy:IntKind.u64.wrap ((f 6).toNat:Int)=((f 6).toNat:Int):=by rw[IntKind.wrap_u64];have:=(f 6).toNat_lt;omega
   have hi:∀w:World,(Instr.index 316 (.agg #[.int .u8 (f 0).toNat,.int .u8 (f 1).toNat,.int .u8 (f 2).toNat,.int .u8 (f 3).toNat,.int .u8 (f 4).toNat,.int .u8 (f 5).toNat,.int .u8 (f 6).toNat,.int .u8 (f 7).toNat]) (.int .i64 6)).run Tryz.prog w=.ok (.int .u8 (f 6).toNat) w:=fun _=>by kernel_rfl
   go_wp2_with fail
   go_round
   case rel=>exact⟨7,by decide,by go_num,by rw[EM2.o]⟩
   case measure=>simp [intOf]
  ·have hx:=hx 72057594037927936 (by decide) (by decide)
   have hy:IntKind.u64.wrap ((f 7).toNat:Int)=((f 7).toNat:Int):=by rw[IntKind.wrap_u64];have:=(f 7).toNat_lt;omega
   have hi:∀w:World,(Instr.index 316 (.agg #[.int .u8 (f 0).toNat,.int .u8 (f 1).toNat,.int .u8 (f 2).toNat,.int .u8 (f 3).toNat,.int .u8 (f 4).toNat,.int .u8 (f 5).toNat,.int .u8 (f 6).toNat,.int .u8 (f 7).toNat]) (.int .i64 7)).run Tryz.prog w=.ok (.int .u8 (f 7).toNat) w:=fun _=>by kernel_rfl
   go_wp2_with fail
   go_round
   case rel=>exact⟨8,by decide,by go_num,by rw[EM2.o]⟩
   case measure=>simp [intOf]
  ·have hx:=JU (Hp f 8) (KL (by simp))
   have hz:M=(wd (Hp f 8)).toNat:=by rw[hx];exact EM.o
   have HZ:=I hz;clear hz;clear hx
   go_wp2_with fail
   go_ret;exact⟨by rw[wv,<-HZ.o];rfl,(Below.refl w.heap.size w).alloc Ag _⟩
def Jh (s:V) (R N:Value):Array Value:=#[wv s.a,wv s.b,wv s.c,wv s.d,R,N]
def Ds (s:V):Array Value:=#[wv s.a,wv s.b,wv s.c,wv s.d]
theorem JV (g n:Nat) (s:V) (R N:Value) (w:World) (hn:n<=4) (hB:Blk w g 302 (Jh s R N)) :
  Calls Tryz.prog 237 #[.pointer (some ⟨g,0,none⟩),.int .i64 (n:Int)] w fun e w'=>e=.returned (.tuple #[])/\Blk w' g 302 (Jh (rnds n s) R N)/\w.grownBy w' (some g):=by
 have HB:=I hB;clear hB;go_enter Tryz.func237,Tryz.ntmps237
 go_wp2_with fail
 go_loopw [5] (fun iv wr=>∃i:Nat,i<=n/\iv=.int .i64 (i:Int)/\Blk wr g 302 (Jh (rnds i s) R N)/\w.grownBy wr (some g)) (fun iv _=>n - (intOf iv).toNat)
 case atStart=>exact⟨0,Nat.zero_le _,rfl,HB.o,World.grownBy.refl w _⟩
 case round=>
  obtain⟨i,hi,rfl,hB,hG⟩:=hrel
  by_cases hx:i=n
  ·subst hx
   have HB':=I hB;clear hB;have HG':=I hG;clear hG
   go_wp2_with fail
   go_end0
   exact⟨rfl,HB'.o,HG'.o⟩
  ·have hlt:i<n:=by omega
   have e1:(i:Int)<(n:Int):=by omega
   have e2:(0:Int)<=(i:Int):=by omega
   have e3:(i:Int)<4:=by omega
   have HX:=I hx;clear hx;have HI:=I hi;clear hi;obtain⟨⟨a,b,c,d⟩,es⟩:∃t,t=rnds i s:=⟨_,rfl⟩;rw[<-es] at hB;have ES:=I es;clear es;have HB':=I (show Blk wr g 302 #[wv a,wv b,wv c,wv d,R,N] from hB);clear hB;have HG':=I hG;clear hG
   go_upto_region 2 with fail
   obtain⟨a1,ea1⟩:∃x,x=a+b:=⟨_,rfl⟩;obtain⟨q1,eq1⟩:∃x,x=rot b 13:=⟨_,rfl⟩;obtain⟨b1,eb1⟩:∃x,x=q1 ^^^ a1:=⟨_,rfl⟩;obtain⟨a2,ea2⟩:∃x,x=rot a1 32:=⟨_,rfl⟩;obtain⟨c1,ec1⟩:∃x,x=c+d:=⟨_,rfl⟩;obtain⟨q4,eq4⟩:∃x,x=rot d 16:=⟨_,rfl⟩;obtain⟨d1,ed1⟩:∃x,x=q4 ^^^ c1:=⟨_,rfl⟩;obtain⟨a3,ea3⟩:∃x,x=a2+d1:=⟨_,rfl⟩;obtain⟨q6,eq6⟩:∃x,x=rot d1 21:=⟨_,rfl⟩;obtain⟨d2,ed2⟩:∃x,x=q6 ^^^ a3:=⟨_,rfl⟩;obtain⟨c2,ec2⟩:∃x,x=c1+b1:=⟨_,rfl⟩;obtain⟨q8,eq8⟩:∃x,x=rot b1 17:=⟨_,rfl⟩;obtain⟨b2,eb2⟩:∃x,x=q8 ^^^ c2:=⟨_,rfl⟩;obtain⟨c3,ec3⟩:∃x,x=rot c2 32:=⟨_,rfl⟩;have hall:rnd ⟨a,b,c,d⟩=⟨a3,b2,c3,d2⟩:=by subst ea1 eq1 eb1 ea2 ec1 eq4 ed1 ea3 eq6 ed2 ec2 eq8 eb2 ec3;rfl
   have HALL:=I hall;clear hall;have x0:IntKind.u64.wrap ((a.toNat:Int)+(b.toNat:Int))=(a1.toNat:Int):=by rw[ea1];exact Ig _ _
   have y0:((a.toNat:Int)+(b.toNat:Int)) % 18446744073709551616=(a1.toNat:Int):=by rw[ea1];exact Gb _ _
   have X0:=I x0;clear x0;have Y0:=I y0;clear y0;have x1:bits .xor .u64 (q1.toNat:Int) (a1.toNat:Int)=(b1.toNat:Int):=by rw[eb1];exact Br _ _
   have X1:=I x1;clear x1;have l1:=YR b;rw[<-eq1] at l1;have l2:=VQ a1;rw[<-ea2] at l2;have x3:IntKind.u64.wrap ((c.toNat:Int)+(d.toNat:Int))=(c1.toNat:Int):=by rw[ec1];exact Ig _ _
   have y3:((c.toNat:Int)+(d.toNat:Int)) % 18446744073709551616=(c1.toNat:Int):=by rw[ec1];exact Gb _ _
   have X3:=I x3;clear x3;have Y3:=I y3;clear y3;have x4:bits .xor .u64 (q4.toNat:Int) (c1.toNat:Int)=(d1.toNat:Int):=by rw[ed1];exact Br _ _
   have X4:=I x4;clear x4;have l4:=YS d;rw[<-eq4] at l4;have x5:IntKind.u64.wrap ((a2.toNat:Int)+(d1.toNat:Int))=(a3.toNat:Int):=by rw[ea3];exact Ig _ _
   have y5:((a2.toNat:Int)+(d1.toNat:Int)) % 18446744073709551616=(a3.toNat:Int):=by rw[ea3];exact Gb _ _
   have X5:=I x5;clear x5;have Y5:=I y5;clear y5;have x6:bits .xor .u64 (q6.toNat:Int) (a3.toNat:Int)=(d2.toNat:Int):=by rw[ed2];exact Br _ _
   have X6:=I x6;clear x6;have l6:=YT d1;rw[<-eq6] at l6;have x7:IntKind.u64.wrap ((c1.toNat:Int)+(b1.toNat:Int))=(c2.toNat:Int):=by rw[ec2];exact Ig _ _
   have y7:((c1.toNat:Int)+(b1.toNat:Int)) % 18446744073709551616=(c2.toNat:Int):=by rw[ec2];exact Gb _ _
   have X7:=I x7;clear x7;have Y7:=I y7;clear y7;have x8:bits .xor .u64 (q8.toNat:Int) (c2.toNat:Int)=(b2.toNat:Int):=by rw[eb2];exact Br _ _
   have X8:=I x8;clear x8;have l8:=YU b1;rw[<-eq8] at l8;have l9:=VQ c2;rw[<-ec3] at l9;clear ea1 eq1 eb1 ea2 ec1 eq4 ed1 ea3 eq6 ed2 ec2 eq8 eb2 ec3;have fz0:=Blk.frozen HB'.o;have k0_0:wr.cell? ⟨g,0,none⟩=some (.int .u64 (a.toNat:Int)):=by rw[Blk.cell HB'.o];rfl
   have k0_1:wr.cell? ⟨g,1,none⟩=some (.int .u64 (b.toNat:Int)):=by rw[Blk.cell HB'.o];rfl
   have k0_2:wr.cell? ⟨g,2,none⟩=some (.int .u64 (c.toNat:Int)):=by rw[Blk.cell HB'.o];rfl
   have k0_3:wr.cell? ⟨g,3,none⟩=some (.int .u64 (d.toNat:Int)):=by rw[Blk.cell HB'.o];rfl
   have x0:=X0.o;have y0:=Y0.o;refine wp_region_still_tail 11 (by kernel_rfl) (by kernel_rfl) ?_;simp only[List.take_succ_cons,List.take_zero,List.drop_succ_cons,List.drop_zero];change wpStill _ _ wr.drew _ _ _
   repeat still_step
   refine wpStill_nil ?_;change wpList _ _ _ _ _ wr.drew
   go_upto_region 3 with fail
   have hB0:Blk (wr.setCell ⟨g,0,none⟩ (.int .u64 (a1.toNat:Int))).drew g 302 #[wv a1,wv b,wv c,wv d,R,N]:=Blk.set HB'.o 0 (wv a1);have hG0:w.grownBy (wr.setCell ⟨g,0,none⟩ (.int .u64 (a1.toNat:Int))).drew (some g):=AU (AE HG'.o (.inl rfl) _);generalize (wr.setCell ⟨g,0,none⟩ (.int .u64 (a1.toNat:Int))).drew=v1 at hB0 hG0⊢;clear fz0 k0_0 k0_1 k0_2 k0_3 x0 y0 X0 Y0;have HB0:=I hB0;clear hB0;have HG0:=I hG0;clear hG0;have fz1:=Blk.frozen HB0.o;have k1_0:v1.cell? ⟨g,0,none⟩=some (.int .u64 (a1.toNat:Int)):=by rw[Blk.cell HB0.o];rfl
   have k1_1:v1.cell? ⟨g,1,none⟩=some (.int .u64 (b.toNat:Int)):=by rw[Blk.cell HB0.o];rfl
   have k1_2:v1.cell? ⟨g,2,none⟩=some (.int .u64 (c.toNat:Int)):=by rw[Blk.cell HB0.o];rfl
   have k1_3:v1.cell? ⟨g,3,none⟩=some (.int .u64 (d.toNat:Int)):=by rw[Blk.cell HB0.o];rfl
   have x1:=X1.o;refine wp_region_still_tail 13 (by kernel_rfl) (by kernel_rfl) ?_;simp only[List.take_succ_cons,List.take_zero,List.drop_succ_cons,List.drop_zero];change wpStill _ _ v1.drew _ _ _
   repeat still_step
   still_call (l1 v1.drew)
   repeat still_step
   refine wpStill_nil ?_;change wpList _ _ _ _ _ v1.drew
   go_upto_region 4 with fail
   have hB1:Blk (v1.setCell ⟨g,1,none⟩ (.int .u64 (b1.toNat:Int))).drew g 302 #[wv a1,wv b1,wv c,wv d,R,N]:=Blk.set HB0.o 1 (wv b1);have hG1:w.grownBy (v1.setCell ⟨g,1,none⟩ (.int .u64 (b1.toNat:Int))).drew (some g):=AU (AE HG0.o (.inl rfl) _);generalize (v1.setCell ⟨g,1,none⟩ (.int .u64 (b1.toNat:Int))).drew=v2 at hB1 hG1⊢;clear fz1 k1_0 k1_1 k1_2 k1_3 x1 X1 l1;clear HB0 HG0;have HB1:=I hB1;clear hB1;have HG1:=I hG1;clear hG1;have fz2:=Blk.frozen HB1.o;have k2_0:v2.cell? ⟨g,0,none⟩=some (.int .u64 (a1.toNat:Int)):=by rw[Blk.cell HB1.o];rfl
   have k2_1:v2.cell? ⟨g,1,none⟩=some (.int .u64 (b1.toNat:Int)):=by rw[Blk.cell HB1.o];rfl
   have k2_2:v2.cell? ⟨g,2,none⟩=some (.int .u64 (c.toNat:Int)):=by rw[Blk.cell HB1.o];rfl
   have k2_3:v2.cell? ⟨g,3,none⟩=some (.int .u64 (d.toNat:Int)):=by rw[Blk.cell HB1.o];rfl
   go_upto_region 5 with(go_at_call 253;refine Aj (l2 _) ?_;rintro w' hw;have hw:=hw.symm;subst hw)
   have hB2:Blk (v2.setCell ⟨g,0,none⟩ (.int .u64 (a2.toNat:Int))) g 302 #[wv a2,wv b1,wv c,wv d,R,N]:=Blk.set HB1.o 0 (wv a2);have hG2:w.grownBy (v2.setCell ⟨g,0,none⟩ (.int .u64 (a2.toNat:Int))) (some g):=(AE HG1.o (.inl rfl) _);generalize (v2.setCell ⟨g,0,none⟩ (.int .u64 (a2.toNat:Int)))=v3 at hB2 hG2⊢;clear fz2 k2_0 k2_1 k2_2 k2_3 l2;clear HB1 HG1;have HB2:=I hB2;clear hB2;have HG2:=I hG2;clear hG2;have fz3:=Blk.frozen HB2.o;have k3_0:v3.cell? ⟨g,0,none⟩=some (.int .u64 (a2.toNat:Int)):=by rw[Blk.cell HB2.o];rfl
   have k3_1:v3.cell? ⟨g,1,none⟩=some (.int .u64 (b1.toNat:Int)):=by rw[Blk.cell HB2.o];rfl
   have k3_2:v3.cell? ⟨g,2,none⟩=some (.int .u64 (c.toNat:Int)):=by rw[Blk.cell HB2.o];rfl
   have k3_3:v3.cell? ⟨g,3,none⟩=some (.int .u64 (d.toNat:Int)):=by rw[Blk.cell HB2.o];rfl
   have x3:=X3.o;have y3:=Y3.o;refine wp_region_still_tail 11 (by kernel_rfl) (by kernel_rfl) ?_;simp only[List.take_succ_cons,List.take_zero,List.drop_succ_cons,List.drop_zero];change wpStill _ _ v3.drew _ _ _
   repeat still_step
   refine wpStill_nil ?_;change wpList _ _ _ _ _ v3.drew
   go_upto_region 6 with fail
   have hB3:Blk (v3.setCell ⟨g,2,none⟩ (.int .u64 (c1.toNat:Int))).drew g 302 #[wv a2,wv b1,wv c1,wv d,R,N]:=Blk.set HB2.o 2 (wv c1);have hG3:w.grownBy (v3.setCell ⟨g,2,none⟩ (.int .u64 (c1.toNat:Int))).drew (some g):=AU (AE HG2.o (.inl rfl) _);generalize (v3.setCell ⟨g,2,none⟩ (.int .u64 (c1.toNat:Int))).drew=v4 at hB3 hG3⊢;clear fz3 k3_0 k3_1 k3_2 k3_3 x3 y3 X3 Y3;clear HB2 HG2;have HB3:=I hB3;clear hB3;have HG3:=I hG3;clear hG3;have fz4:=Blk.frozen HB3.o;have k4_0:v4.cell? ⟨g,0,none⟩=some (.int .u64 (a2.toNat:Int)):=by rw[Blk.cell HB3.o];rfl
   have k4_1:v4.cell? ⟨g,1,none⟩=some (.int .u64 (b1.toNat:Int)):=by rw[Blk.cell HB3.o];rfl
   have k4_2:v4.cell? ⟨g,2,none⟩=some (.int .u64 (c1.toNat:Int)):=by rw[Blk.cell HB3.o];rfl
   have k4_3:v4.cell? ⟨g,3,none⟩=some (.int .u64 (d.toNat:Int)):=by rw[Blk.cell HB3.o];rfl
   have x4:=X4.o;refine wp_region_still_tail 13 (by kernel_rfl) (by kernel_rfl) ?_;simp only[List.take_succ_cons,List.take_zero,List.drop_succ_cons,List.drop_zero];change wpStill _ _ v4.drew _ _ _
   repeat still_step
   still_call (l4 v4.drew)
   repeat still_step
   refine wpStill_nil ?_;change wpList _ _ _ _ _ v4.drew
   go_upto_region 7 with fail
   have hB4:Blk (v4.setCell ⟨g,3,none⟩ (.int .u64 (d1.toNat:Int))).drew g 302 #[wv a2,wv b1,wv c1,wv d1,R,N]:=Blk.set HB3.o 3 (wv d1);have hG4:w.grownBy (v4.setCell ⟨g,3,none⟩ (.int .u64 (d1.toNat:Int))).drew (some g):=AU (AE HG3.o (.inl rfl) _);generalize (v4.setCell ⟨g,3,none⟩ (.int .u64 (d1.toNat:Int))).drew=v5 at hB4 hG4⊢;clear fz4 k4_0 k4_1 k4_2 k4_3 x4 X4 l4;clear HB3 HG3;have HB4:=I hB4;clear hB4;have HG4:=I hG4;clear hG4;have fz5:=Blk.frozen HB4.o;have k5_0:v5.cell? ⟨g,0,none⟩=some (.int .u64 (a2.toNat:Int)):=by rw[Blk.cell HB4.o];rfl
   have k5_1:v5.cell? ⟨g,1,none⟩=some (.int .u64 (b1.toNat:Int)):=by rw[Blk.cell HB4.o];rfl
   have k5_2:v5.cell? ⟨g,2,none⟩=some (.int .u64 (c1.toNat:Int)):=by rw[Blk.cell HB4.o];rfl
   have k5_3:v5.cell? ⟨g,3,none⟩=some (.int .u64 (d1.toNat:Int)):=by rw[Blk.cell HB4.o];rfl
   have x5:=X5.o;have y5:=Y5.o;refine wp_region_still_tail 11 (by kernel_rfl) (by kernel_rfl) ?_;simp only[List.take_succ_cons,List.take_zero,List.drop_succ_cons,List.drop_zero];change wpStill _ _ v5.drew _ _ _
   repeat still_step
   refine wpStill_nil ?_;change wpList _ _ _ _ _ v5.drew
   go_upto_region 8 with fail
   have hB5:Blk (v5.setCell ⟨g,0,none⟩ (.int .u64 (a3.toNat:Int))).drew g 302 #[wv a3,wv b1,wv c1,wv d1,R,N]:=Blk.set HB4.o 0 (wv a3);have hG5:w.grownBy (v5.setCell ⟨g,0,none⟩ (.int .u64 (a3.toNat:Int))).drew (some g):=AU (AE HG4.o (.inl rfl) _);generalize (v5.setCell ⟨g,0,none⟩ (.int .u64 (a3.toNat:Int))).drew=v6 at hB5 hG5⊢;clear fz5 k5_0 k5_1 k5_2 k5_3 x5 y5 X5 Y5;clear HB4 HG4;have HB5:=I hB5;clear hB5;have HG5:=I hG5;clear hG5;have fz6:=Blk.frozen HB5.o;have k6_0:v6.cell? ⟨g,0,none⟩=some (.int .u64 (a3.toNat:Int)):=by rw[Blk.cell HB5.o];rfl
   have k6_1:v6.cell? ⟨g,1,none⟩=some (.int .u64 (b1.toNat:Int)):=by rw[Blk.cell HB5.o];rfl
   have k6_2:v6.cell? ⟨g,2,none⟩=some (.int .u64 (c1.toNat:Int)):=by rw[Blk.cell HB5.o];rfl
   have k6_3:v6.cell? ⟨g,3,none⟩=some (.int .u64 (d1.toNat:Int)):=by rw[Blk.cell HB5.o];rfl
   have x6:=X6.o;refine wp_region_still_tail 13 (by kernel_rfl) (by kernel_rfl) ?_;simp only[List.take_succ_cons,List.take_zero,List.drop_succ_cons,List.drop_zero];change wpStill _ _ v6.drew _ _ _
   repeat still_step
   still_call (l6 v6.drew)
   repeat still_step
   refine wpStill_nil ?_;change wpList _ _ _ _ _ v6.drew
   go_upto_region 9 with fail
   have hB6:Blk (v6.setCell ⟨g,3,none⟩ (.int .u64 (d2.toNat:Int))).drew g 302 #[wv a3,wv b1,wv c1,wv d2,R,N]:=Blk.set HB5.o 3 (wv d2);have hG6:w.grownBy (v6.setCell ⟨g,3,none⟩ (.int .u64 (d2.toNat:Int))).drew (some g):=AU (AE HG5.o (.inl rfl) _);generalize (v6.setCell ⟨g,3,none⟩ (.int .u64 (d2.toNat:Int))).drew=v7 at hB6 hG6⊢;clear fz6 k6_0 k6_1 k6_2 k6_3 x6 X6 l6;clear HB5 HG5;have HB6:=I hB6;clear hB6;have HG6:=I hG6;clear hG6;have fz7:=Blk.frozen HB6.o;have k7_0:v7.cell? ⟨g,0,none⟩=some (.int .u64 (a3.toNat:Int)):=by rw[Blk.cell HB6.o];rfl
   have k7_1:v7.cell? ⟨g,1,none⟩=some (.int .u64 (b1.toNat:Int)):=by rw[Blk.cell HB6.o];rfl
   have k7_2:v7.cell? ⟨g,2,none⟩=some (.int .u64 (c1.toNat:Int)):=by rw[Blk.cell HB6.o];rfl
   have k7_3:v7.cell? ⟨g,3,none⟩=some (.int .u64 (d2.toNat:Int)):=by rw[Blk.cell HB6.o];rfl
   have x7:=X7.o;have y7:=Y7.o;refine wp_region_still_tail 11 (by kernel_rfl) (by kernel_rfl) ?_;simp only[List.take_succ_cons,List.take_zero,List.drop_succ_cons,List.drop_zero];change wpStill _ _ v7.drew _ _ _
   repeat still_step
   refine wpStill_nil ?_;change wpList _ _ _ _ _ v7.drew
   go_upto_region 10 with fail
   have hB7:Blk (v7.setCell ⟨g,2,none⟩ (.int .u64 (c2.toNat:Int))).drew g 302 #[wv a3,wv b1,wv c2,wv d2,R,N]:=Blk.set HB6.o 2 (wv c2);have hG7:w.grownBy (v7.setCell ⟨g,2,none⟩ (.int .u64 (c2.toNat:Int))).drew (some g):=AU (AE HG6.o (.inl rfl) _);generalize (v7.setCell ⟨g,2,none⟩ (.int .u64 (c2.toNat:Int))).drew=v8 at hB7 hG7⊢;clear fz7 k7_0 k7_1 k7_2 k7_3 x7 y7 X7 Y7;clear HB6 HG6;have HB7:=I hB7;clear hB7;have HG7:=I hG7;clear hG7;have fz8:=Blk.frozen HB7.o;have k8_0:v8.cell? ⟨g,0,none⟩=some (.int .u64 (a3.toNat:Int)):=by rw[Blk.cell HB7.o];rfl
   have k8_1:v8.cell? ⟨g,1,none⟩=some (.int .u64 (b1.toNat:Int)):=by rw[Blk.cell HB7.o];rfl
   have k8_2:v8.cell? ⟨g,2,none⟩=some (.int .u64 (c2.toNat:Int)):=by rw[Blk.cell HB7.o];rfl
   have k8_3:v8.cell? ⟨g,3,none⟩=some (.int .u64 (d2.toNat:Int)):=by rw[Blk.cell HB7.o];rfl
   have x8:=X8.o;refine wp_region_still_tail 13 (by kernel_rfl) (by kernel_rfl) ?_;simp only[List.take_succ_cons,List.take_zero,List.drop_succ_cons,List.drop_zero];change wpStill _ _ v8.drew _ _ _
   repeat still_step
   still_call (l8 v8.drew)
   repeat still_step
   refine wpStill_nil ?_;change wpList _ _ _ _ _ v8.drew
   go_upto_region 11 with fail
   have hB8:Blk (v8.setCell ⟨g,1,none⟩ (.int .u64 (b2.toNat:Int))).drew g 302 #[wv a3,wv b2,wv c2,wv d2,R,N]:=Blk.set HB7.o 1 (wv b2);have hG8:w.grownBy (v8.setCell ⟨g,1,none⟩ (.int .u64 (b2.toNat:Int))).drew (some g):=AU (AE HG7.o (.inl rfl) _);generalize (v8.setCell ⟨g,1,none⟩ (.int .u64 (b2.toNat:Int))).drew=v9 at hB8 hG8⊢;clear fz8 k8_0 k8_1 k8_2 k8_3 x8 X8 l8;clear HB7 HG7;have HB8:=I hB8;clear hB8;have HG8:=I hG8;clear hG8;have fz9:=Blk.frozen HB8.o;have k9_0:v9.cell? ⟨g,0,none⟩=some (.int .u64 (a3.toNat:Int)):=by rw[Blk.cell HB8.o];rfl
   have k9_1:v9.cell? ⟨g,1,none⟩=some (.int .u64 (b2.toNat:Int)):=by rw[Blk.cell HB8.o];rfl
   have k9_2:v9.cell? ⟨g,2,none⟩=some (.int .u64 (c2.toNat:Int)):=by rw[Blk.cell HB8.o];rfl
   have k9_3:v9.cell? ⟨g,3,none⟩=some (.int .u64 (d2.toNat:Int)):=by rw[Blk.cell HB8.o];rfl
   go_upto_region 12 with(go_at_call 253;refine Aj (l9 _) ?_;rintro w' hw;have hw:=hw.symm;subst hw)
   have hB9:Blk (v9.setCell ⟨g,2,none⟩ (.int .u64 (c3.toNat:Int))) g 302 #[wv a3,wv b2,wv c3,wv d2,R,N]:=Blk.set HB8.o 2 (wv c3);have hG9:w.grownBy (v9.setCell ⟨g,2,none⟩ (.int .u64 (c3.toNat:Int))) (some g):=(AE HG8.o (.inl rfl) _);generalize (v9.setCell ⟨g,2,none⟩ (.int .u64 (c3.toNat:Int)))=v10 at hB9 hG9⊢;clear fz9 k9_0 k9_1 k9_2 k9_3 l9;clear HB8 HG8;have HB9:=I hB9;clear hB9;have HG9:=I hG9;clear hG9
   go_wp2_with fail
   go_roundw
   case rel=>exact⟨i+1,by omega,by go_num,by rw[rnds,<-ES.o,HALL.o];exact HB9.o,HG9.o⟩
   case measure=>simp [intOf];omega
theorem Ok (g:Nat) (s:V) (w:World) (hB:Blk w g 235 (Ds s)) :
  Calls Tryz.prog 127 #[.pointer (some ⟨g,0,none⟩)] w fun e w'=>e=.returned (.tuple #[])/\Blk w' g 235 (Ds (rnd s))/\w.grownBy w' (some g):=by
 obtain⟨a,b,c,d⟩:=s;have HB':=I (show Blk w g 235 #[wv a,wv b,wv c,wv d] from hB);clear hB;have HG':=I (World.grownBy.refl w (some g));go_enter Tryz.func127,Tryz.ntmps127
 go_upto_region 0 with fail
 obtain⟨a1,ea1⟩:∃x,x=a+b:=⟨_,rfl⟩;obtain⟨q1,eq1⟩:∃x,x=rot b 13:=⟨_,rfl⟩;obtain⟨b1,eb1⟩:∃x,x=q1 ^^^ a1:=⟨_,rfl⟩;obtain⟨a2,ea2⟩:∃x,x=rot a1 32:=⟨_,rfl⟩;obtain⟨c1,ec1⟩:∃x,x=c+d:=⟨_,rfl⟩;obtain⟨q4,eq4⟩:∃x,x=rot d 16:=⟨_,rfl⟩;obtain⟨d1,ed1⟩:∃x,x=q4 ^^^ c1:=⟨_,rfl⟩;obtain⟨a3,ea3⟩:∃x,x=a2+d1:=⟨_,rfl⟩;obtain⟨q6,eq6⟩:∃x,x=rot d1 21:=⟨_,rfl⟩;obtain⟨d2,ed2⟩:∃x,x=q6 ^^^ a3:=⟨_,rfl⟩;obtain⟨c2,ec2⟩:∃x,x=c1+b1:=⟨_,rfl⟩;obtain⟨q8,eq8⟩:∃x,x=rot b1 17:=⟨_,rfl⟩;obtain⟨b2,eb2⟩:∃x,x=q8 ^^^ c2:=⟨_,rfl⟩;obtain⟨c3,ec3⟩:∃x,x=rot c2 32:=⟨_,rfl⟩;have hall:rnd ⟨a,b,c,d⟩=⟨a3,b2,c3,d2⟩:=by subst ea1 eq1 eb1 ea2 ec1 eq4 ed1 ea3 eq6 ed2 ec2 eq8 eb2 ec3;rfl
 have HALL:=I hall;clear hall;have x0:IntKind.u64.wrap ((a.toNat:Int)+(b.toNat:Int))=(a1.toNat:Int):=by rw[ea1];exact Ig _ _
 have y0:((a.toNat:Int)+(b.toNat:Int)) % 18446744073709551616=(a1.toNat:Int):=by rw[ea1];exact Gb _ _
 have X0:=I x0;clear x0;have Y0:=I y0;clear y0;have x1:bits .xor .u64 (q1.toNat:Int) (a1.toNat:Int)=(b1.toNat:Int):=by rw[eb1];exact Br _ _
 have X1:=I x1;clear x1;have l1:=Xb b;rw[<-eq1] at l1;have l2:=Rw a1;rw[<-ea2] at l2;have x3:IntKind.u64.wrap ((c.toNat:Int)+(d.toNat:Int))=(c1.toNat:Int):=by rw[ec1];exact Ig _ _
 have y3:((c.toNat:Int)+(d.toNat:Int)) % 18446744073709551616=(c1.toNat:Int):=by rw[ec1];exact Gb _ _
 have X3:=I x3;clear x3;have Y3:=I y3;clear y3;have x4:bits .xor .u64 (q4.toNat:Int) (c1.toNat:Int)=(d1.toNat:Int):=by rw[ed1];exact Br _ _
 have X4:=I x4;clear x4;have l4:=Xc d;rw[<-eq4] at l4;have x5:IntKind.u64.wrap ((a2.toNat:Int)+(d1.toNat:Int))=(a3.toNat:Int):=by rw[ea3];exact Ig _ _
 have y5:((a2.toNat:Int)+(d1.toNat:Int)) % 18446744073709551616=(a3.toNat:Int):=by rw[ea3];exact Gb _ _
 have X5:=I x5;clear x5;have Y5:=I y5;clear y5;have x6:bits .xor .u64 (q6.toNat:Int) (a3.toNat:Int)=(d2.toNat:Int):=by rw[ed2];exact Br _ _
 have X6:=I x6;clear x6;have l6:=Xd d1;rw[<-eq6] at l6;have x7:IntKind.u64.wrap ((c1.toNat:Int)+(b1.toNat:Int))=(c2.toNat:Int):=by rw[ec2];exact Ig _ _
 have y7:((c1.toNat:Int)+(b1.toNat:Int)) % 18446744073709551616=(c2.toNat:Int):=by rw[ec2];exact Gb _ _
 have X7:=I x7;clear x7;have Y7:=I y7;clear y7;have x8:bits .xor .u64 (q8.toNat:Int) (c2.toNat:Int)=(b2.toNat:Int):=by rw[eb2];exact Br _ _
 have X8:=I x8;clear x8;have l8:=Xe b1;rw[<-eq8] at l8;have l9:=Rw c2;rw[<-ec3] at l9;clear ea1 eq1 eb1 ea2 ec1 eq4 ed1 ea3 eq6 ed2 ec2 eq8 eb2 ec3;have fz0:=Blk.frozen HB'.o;have k0_0:w.cell? ⟨g,0,none⟩=some (.int .u64 (a.toNat:Int)):=by rw[Blk.cell HB'.o];rfl
 have k0_1:w.cell? ⟨g,1,none⟩=some (.int .u64 (b.toNat:Int)):=by rw[Blk.cell HB'.o];rfl
 have k0_2:w.cell? ⟨g,2,none⟩=some (.int .u64 (c.toNat:Int)):=by rw[Blk.cell HB'.o];rfl
 have k0_3:w.cell? ⟨g,3,none⟩=some (.int .u64 (d.toNat:Int)):=by rw[Blk.cell HB'.o];rfl
 have x0:=X0.o;have y0:=Y0.o;refine wp_region_still_tail 12 (by kernel_rfl) (by kernel_rfl) ?_;simp only[List.take_succ_cons,List.take_zero,List.drop_succ_cons,List.drop_zero];change wpStill _ _ w.drew _ _ _
 repeat still_step
 refine wpStill_nil ?_;change wpList _ _ _ _ _ w.drew
 go_upto_region 1 with fail
 have hB0:Blk (w.setCell ⟨g,0,none⟩ (.int .u64 (a1.toNat:Int))).drew g 235 #[wv a1,wv b,wv c,wv d]:=Blk.set HB'.o 0 (wv a1);have hG0:w.grownBy (w.setCell ⟨g,0,none⟩ (.int .u64 (a1.toNat:Int))).drew (some g):=AU (AE HG'.o (.inl rfl) _);generalize (w.setCell ⟨g,0,none⟩ (.int .u64 (a1.toNat:Int))).drew=v1 at hB0 hG0⊢;clear fz0 k0_0 k0_1 k0_2 k0_3 x0 y0 X0 Y0;have HB0:=I hB0;clear hB0;have HG0:=I hG0;clear hG0;have fz1:=Blk.frozen HB0.o;have k1_0:v1.cell? ⟨g,0,none⟩=some (.int .u64 (a1.toNat:Int)):=by rw[Blk.cell HB0.o];rfl
 have k1_1:v1.cell? ⟨g,1,none⟩=some (.int .u64 (b.toNat:Int)):=by rw[Blk.cell HB0.o];rfl
 have k1_2:v1.cell? ⟨g,2,none⟩=some (.int .u64 (c.toNat:Int)):=by rw[Blk.cell HB0.o];rfl
 have k1_3:v1.cell? ⟨g,3,none⟩=some (.int .u64 (d.toNat:Int)):=by rw[Blk.cell HB0.o];rfl
 have x1:=X1.o;refine wp_region_still_tail 13 (by kernel_rfl) (by kernel_rfl) ?_;simp only[List.take_succ_cons,List.take_zero,List.drop_succ_cons,List.drop_zero];change wpStill _ _ v1.drew _ _ _
 repeat still_step
 still_call (l1 v1.drew)
 repeat still_step
 refine wpStill_nil ?_;change wpList _ _ _ _ _ v1.drew
 go_upto_region 2 with fail
 have hB1:Blk (v1.setCell ⟨g,1,none⟩ (.int .u64 (b1.toNat:Int))).drew g 235 #[wv a1,wv b1,wv c,wv d]:=Blk.set HB0.o 1 (wv b1);have hG1:w.grownBy (v1.setCell ⟨g,1,none⟩ (.int .u64 (b1.toNat:Int))).drew (some g):=AU (AE HG0.o (.inl rfl) _);generalize (v1.setCell ⟨g,1,none⟩ (.int .u64 (b1.toNat:Int))).drew=v2 at hB1 hG1⊢;clear fz1 k1_0 k1_1 k1_2 k1_3 x1 X1 l1;clear HB0 HG0;have HB1:=I hB1;clear hB1;have HG1:=I hG1;clear hG1;have fz2:=Blk.frozen HB1.o;have k2_0:v2.cell? ⟨g,0,none⟩=some (.int .u64 (a1.toNat:Int)):=by rw[Blk.cell HB1.o];rfl
 have k2_1:v2.cell? ⟨g,1,none⟩=some (.int .u64 (b1.toNat:Int)):=by rw[Blk.cell HB1.o];rfl
 have k2_2:v2.cell? ⟨g,2,none⟩=some (.int .u64 (c.toNat:Int)):=by rw[Blk.cell HB1.o];rfl
 have k2_3:v2.cell? ⟨g,3,none⟩=some (.int .u64 (d.toNat:Int)):=by rw[Blk.cell HB1.o];rfl
 refine wp_region_still_tail 8 (by kernel_rfl) (by kernel_rfl) ?_;simp only[List.take_succ_cons,List.take_zero,List.drop_succ_cons,List.drop_zero];change wpStill _ _ v2.drew _ _ _
 repeat still_step
 still_call (l2 v2.drew)
 repeat still_step
 refine wpStill_nil ?_;change wpList _ _ _ _ _ v2.drew
 go_upto_region 3 with fail
 have hB2:Blk (v2.setCell ⟨g,0,none⟩ (.int .u64 (a2.toNat:Int))).drew g 235 #[wv a2,wv b1,wv c,wv d]:=Blk.set HB1.o 0 (wv a2);have hG2:w.grownBy (v2.setCell ⟨g,0,none⟩ (.int .u64 (a2.toNat:Int))).drew (some g):=AU (AE HG1.o (.inl rfl) _);generalize (v2.setCell ⟨g,0,none⟩ (.int .u64 (a2.toNat:Int))).drew=v3 at hB2 hG2⊢;clear fz2 k2_0 k2_1 k2_2 k2_3 l2;clear HB1 HG1;have HB2:=I hB2;clear hB2;have HG2:=I hG2;clear hG2;have fz3:=Blk.frozen HB2.o;have k3_0:v3.cell? ⟨g,0,none⟩=some (.int .u64 (a2.toNat:Int)):=by rw[Blk.cell HB2.o];rfl
 have k3_1:v3.cell? ⟨g,1,none⟩=some (.int .u64 (b1.toNat:Int)):=by rw[Blk.cell HB2.o];rfl
 have k3_2:v3.cell? ⟨g,2,none⟩=some (.int .u64 (c.toNat:Int)):=by rw[Blk.cell HB2.o];rfl
 have k3_3:v3.cell? ⟨g,3,none⟩=some (.int .u64 (d.toNat:Int)):=by rw[Blk.cell HB2.o];rfl
 have x3:=X3.o;have y3:=Y3.o;refine wp_region_still_tail 12 (by kernel_rfl) (by kernel_rfl) ?_;simp only[List.take_succ_cons,List.take_zero,List.drop_succ_cons,List.drop_zero];change wpStill _ _ v3.drew _ _ _
 repeat still_step
 refine wpStill_nil ?_;change wpList _ _ _ _ _ v3.drew
 go_upto_region 4 with fail
 have hB3:Blk (v3.setCell ⟨g,2,none⟩ (.int .u64 (c1.toNat:Int))).drew g 235 #[wv a2,wv b1,wv c1,wv d]:=Blk.set HB2.o 2 (wv c1);have hG3:w.grownBy (v3.setCell ⟨g,2,none⟩ (.int .u64 (c1.toNat:Int))).drew (some g):=AU (AE HG2.o (.inl rfl) _);generalize (v3.setCell ⟨g,2,none⟩ (.int .u64 (c1.toNat:Int))).drew=v4 at hB3 hG3⊢;clear fz3 k3_0 k3_1 k3_2 k3_3 x3 y3 X3 Y3;clear HB2 HG2;have HB3:=I hB3;clear hB3;have HG3:=I hG3;clear hG3;have fz4:=Blk.frozen HB3.o;have k4_0:v4.cell? ⟨g,0,none⟩=some (.int .u64 (a2.toNat:Int)):=by rw[Blk.cell HB3.o];rfl
 have k4_1:v4.cell? ⟨g,1,none⟩=some (.int .u64 (b1.toNat:Int)):=by rw[Blk.cell HB3.o];rfl
 have k4_2:v4.cell? ⟨g,2,none⟩=some (.int .u64 (c1.toNat:Int)):=by rw[Blk.cell HB3.o];rfl
 have k4_3:v4.cell? ⟨g,3,none⟩=some (.int .u64 (d.toNat:Int)):=by rw[Blk.cell HB3.o];rfl
 have x4:=X4.o;refine wp_region_still_tail 13 (by kernel_rfl) (by kernel_rfl) ?_;simp only[List.take_succ_cons,List.take_zero,List.drop_succ_cons,List.drop_zero];change wpStill _ _ v4.drew _ _ _
 repeat still_step
 still_call (l4 v4.drew)
 repeat still_step
 refine wpStill_nil ?_;change wpList _ _ _ _ _ v4.drew
 go_upto_region 5 with fail
 have hB4:Blk (v4.setCell ⟨g,3,none⟩ (.int .u64 (d1.toNat:Int))).drew g 235 #[wv a2,wv b1,wv c1,wv d1]:=Blk.set HB3.o 3 (wv d1);have hG4:w.grownBy (v4.setCell ⟨g,3,none⟩ (.int .u64 (d1.toNat:Int))).drew (some g):=AU (AE HG3.o (.inl rfl) _);generalize (v4.setCell ⟨g,3,none⟩ (.int .u64 (d1.toNat:Int))).drew=v5 at hB4 hG4⊢;clear fz4 k4_0 k4_1 k4_2 k4_3 x4 X4 l4;clear HB3 HG3;have HB4:=I hB4;clear hB4;have HG4:=I hG4;clear hG4;have fz5:=Blk.frozen HB4.o;have k5_0:v5.cell? ⟨g,0,none⟩=some (.int .u64 (a2.toNat:Int)):=by rw[Blk.cell HB4.o];rfl
 have k5_1:v5.cell? ⟨g,1,none⟩=some (.int .u64 (b1.toNat:Int)):=by rw[Blk.cell HB4.o];rfl
 have k5_2:v5.cell? ⟨g,2,none⟩=some (.int .u64 (c1.toNat:Int)):=by rw[Blk.cell HB4.o];rfl
 have k5_3:v5.cell? ⟨g,3,none⟩=some (.int .u64 (d1.toNat:Int)):=by rw[Blk.cell HB4.o];rfl
 have x5:=X5.o;have y5:=Y5.o;refine wp_region_still_tail 12 (by kernel_rfl) (by kernel_rfl) ?_;simp only[List.take_succ_cons,List.take_zero,List.drop_succ_cons,List.drop_zero];change wpStill _ _ v5.drew _ _ _
 repeat still_step
 refine wpStill_nil ?_;change wpList _ _ _ _ _ v5.drew
 go_upto_region 6 with fail
 have hB5:Blk (v5.setCell ⟨g,0,none⟩ (.int .u64 (a3.toNat:Int))).drew g 235 #[wv a3,wv b1,wv c1,wv d1]:=Blk.set HB4.o 0 (wv a3);have hG5:w.grownBy (v5.setCell ⟨g,0,none⟩ (.int .u64 (a3.toNat:Int))).drew (some g):=AU (AE HG4.o (.inl rfl) _);generalize (v5.setCell ⟨g,0,none⟩ (.int .u64 (a3.toNat:Int))).drew=v6 at hB5 hG5⊢;clear fz5 k5_0 k5_1 k5_2 k5_3 x5 y5 X5 Y5;clear HB4 HG4;have HB5:=I hB5;clear hB5;have HG5:=I hG5;clear hG5;have fz6:=Blk.frozen HB5.o;have k6_0:v6.cell? ⟨g,0,none⟩=some (.int .u64 (a3.toNat:Int)):=by rw[Blk.cell HB5.o];rfl
 have k6_1:v6.cell? ⟨g,1,none⟩=some (.int .u64 (b1.toNat:Int)):=by rw[Blk.cell HB5.o];rfl
 have k6_2:v6.cell? ⟨g,2,none⟩=some (.int .u64 (c1.toNat:Int)):=by rw[Blk.cell HB5.o];rfl
 have k6_3:v6.cell? ⟨g,3,none⟩=some (.int .u64 (d1.toNat:Int)):=by rw[Blk.cell HB5.o];rfl
 have x6:=X6.o;refine wp_region_still_tail 13 (by kernel_rfl) (by kernel_rfl) ?_;simp only[List.take_succ_cons,List.take_zero,List.drop_succ_cons,List.drop_zero];change wpStill _ _ v6.drew _ _ _
 repeat still_step
 still_call (l6 v6.drew)
 repeat still_step
 refine wpStill_nil ?_;change wpList _ _ _ _ _ v6.drew
 go_upto_region 7 with fail
 have hB6:Blk (v6.setCell ⟨g,3,none⟩ (.int .u64 (d2.toNat:Int))).drew g 235 #[wv a3,wv b1,wv c1,wv d2]:=Blk.set HB5.o 3 (wv d2);have hG6:w.grownBy (v6.setCell ⟨g,3,none⟩ (.int .u64 (d2.toNat:Int))).drew (some g):=AU (AE HG5.o (.inl rfl) _);generalize (v6.setCell ⟨g,3,none⟩ (.int .u64 (d2.toNat:Int))).drew=v7 at hB6 hG6⊢;clear fz6 k6_0 k6_1 k6_2 k6_3 x6 X6 l6;clear HB5 HG5;have HB6:=I hB6;clear hB6;have HG6:=I hG6;clear hG6;have fz7:=Blk.frozen HB6.o;have k7_0:v7.cell? ⟨g,0,none⟩=some (.int .u64 (a3.toNat:Int)):=by rw[Blk.cell HB6.o];rfl
 have k7_1:v7.cell? ⟨g,1,none⟩=some (.int .u64 (b1.toNat:Int)):=by rw[Blk.cell HB6.o];rfl
 have k7_2:v7.cell? ⟨g,2,none⟩=some (.int .u64 (c1.toNat:Int)):=by rw[Blk.cell HB6.o];rfl
 have k7_3:v7.cell? ⟨g,3,none⟩=some (.int .u64 (d2.toNat:Int)):=by rw[Blk.cell HB6.o];rfl
 have x7:=X7.o;have y7:=Y7.o;refine wp_region_still_tail 12 (by kernel_rfl) (by kernel_rfl) ?_;simp only[List.take_succ_cons,List.take_zero,List.drop_succ_cons,List.drop_zero];change wpStill _ _ v7.drew _ _ _
 repeat still_step
 refine wpStill_nil ?_;change wpList _ _ _ _ _ v7.drew
 go_upto_region 8 with fail
 have hB7:Blk (v7.setCell ⟨g,2,none⟩ (.int .u64 (c2.toNat:Int))).drew g 235 #[wv a3,wv b1,wv c2,wv d2]:=Blk.set HB6.o 2 (wv c2);have hG7:w.grownBy (v7.setCell ⟨g,2,none⟩ (.int .u64 (c2.toNat:Int))).drew (some g):=AU (AE HG6.o (.inl rfl) _);generalize (v7.setCell ⟨g,2,none⟩ (.int .u64 (c2.toNat:Int))).drew=v8 at hB7 hG7⊢;clear fz7 k7_0 k7_1 k7_2 k7_3 x7 y7 X7 Y7;clear HB6 HG6;have HB7:=I hB7;clear hB7;have HG7:=I hG7;clear hG7;have fz8:=Blk.frozen HB7.o;have k8_0:v8.cell? ⟨g,0,none⟩=some (.int .u64 (a3.toNat:Int)):=by rw[Blk.cell HB7.o];rfl
 have k8_1:v8.cell? ⟨g,1,none⟩=some (.int .u64 (b1.toNat:Int)):=by rw[Blk.cell HB7.o];rfl
 have k8_2:v8.cell? ⟨g,2,none⟩=some (.int .u64 (c2.toNat:Int)):=by rw[Blk.cell HB7.o];rfl
 have k8_3:v8.cell? ⟨g,3,none⟩=some (.int .u64 (d2.toNat:Int)):=by rw[Blk.cell HB7.o];rfl
 have x8:=X8.o;refine wp_region_still_tail 13 (by kernel_rfl) (by kernel_rfl) ?_;simp only[List.take_succ_cons,List.take_zero,List.drop_succ_cons,List.drop_zero];change wpStill _ _ v8.drew _ _ _
 repeat still_step
 still_call (l8 v8.drew)
 repeat still_step
 refine wpStill_nil ?_;change wpList _ _ _ _ _ v8.drew
 go_upto_region 9 with fail
 have hB8:Blk (v8.setCell ⟨g,1,none⟩ (.int .u64 (b2.toNat:Int))).drew g 235 #[wv a3,wv b2,wv c2,wv d2]:=Blk.set HB7.o 1 (wv b2);have hG8:w.grownBy (v8.setCell ⟨g,1,none⟩ (.int .u64 (b2.toNat:Int))).drew (some g):=AU (AE HG7.o (.inl rfl) _);generalize (v8.setCell ⟨g,1,none⟩ (.int .u64 (b2.toNat:Int))).drew=v9 at hB8 hG8⊢;clear fz8 k8_0 k8_1 k8_2 k8_3 x8 X8 l8;clear HB7 HG7;have HB8:=I hB8;clear hB8;have HG8:=I hG8;clear hG8;have fz9:=Blk.frozen HB8.o;have k9_0:v9.cell? ⟨g,0,none⟩=some (.int .u64 (a3.toNat:Int)):=by rw[Blk.cell HB8.o];rfl
 have k9_1:v9.cell? ⟨g,1,none⟩=some (.int .u64 (b2.toNat:Int)):=by rw[Blk.cell HB8.o];rfl
 have k9_2:v9.cell? ⟨g,2,none⟩=some (.int .u64 (c2.toNat:Int)):=by rw[Blk.cell HB8.o];rfl
 have k9_3:v9.cell? ⟨g,3,none⟩=some (.int .u64 (d2.toNat:Int)):=by rw[Blk.cell HB8.o];rfl
 refine wp_region_still_tail 8 (by kernel_rfl) (by kernel_rfl) ?_;simp only[List.take_succ_cons,List.take_zero,List.drop_succ_cons,List.drop_zero];change wpStill _ _ v9.drew _ _ _
 repeat still_step
 still_call (l9 v9.drew)
 repeat still_step
 refine wpStill_nil ?_;change wpList _ _ _ _ _ v9.drew
 go_wp2_with fail
 have hB9:Blk (v9.setCell ⟨g,2,none⟩ (.int .u64 (c3.toNat:Int))).drew g 235 #[wv a3,wv b2,wv c3,wv d2]:=Blk.set HB8.o 2 (wv c3);have hG9:w.grownBy (v9.setCell ⟨g,2,none⟩ (.int .u64 (c3.toNat:Int))).drew (some g):=AU (AE HG8.o (.inl rfl) _);clear fz9 k9_0 k9_1 k9_2 k9_3 l9;clear HB8 HG8;have HB9:=I hB9;clear hB9;have HG9:=I hG9;clear hG9
 go_end0
 exact⟨rfl,by rw[HALL.o];exact HB9.o,HG9.o⟩
theorem Ji (g:Nat) (s:V) (R N:Value) (m:Wd) (w:World) (hB:Blk w g 302 (Jh s R N)) :
  Calls Tryz.prog 236 #[.pointer (some ⟨g,0,none⟩),wv m] w fun e w'=>e=.returned (.tuple #[])/\Blk w' g 302 (Jh (addM s m) R N)/\w.grownBy w' (some g):=by
 obtain⟨a,b,c,d⟩:=s;obtain⟨d1,ed⟩:∃x,x=d ^^^ m:=⟨_,rfl⟩;obtain⟨⟨a2,b2,c2,d2⟩,e2⟩:∃t,t=rnds 2 ⟨a,b,c,d1⟩:=⟨_,rfl⟩;obtain⟨a3,ea⟩:∃x,x=a2 ^^^ m:=⟨_,rfl⟩;have hall:addM ⟨a,b,c,d⟩ m=⟨a3,b2,c2,d2⟩:=by simp only[addM,<-ed,<-e2,<-ea]
 have x1:bits .xor .u64 (d.toNat:Int) (m.toNat:Int)=(d1.toNat:Int):=by rw[ed];exact Br _ _
 have x2:bits .xor .u64 (a2.toNat:Int) (m.toNat:Int)=(a3.toNat:Int):=by rw[ea];exact Br _ _
 have HALL:=I hall;clear hall;have E2:=I e2;clear e2;clear ed ea;have fz:=hB.frozen;have k3:w.cell? ⟨g,3,none⟩=some (.int .u64 (d.toNat:Int)):=by rw[hB.cell];rfl
 have HB:=I (show Blk w g 302 #[wv a,wv b,wv c,wv d,R,N] from hB);clear hB;have HG:=I (World.grownBy.refl w (some g));go_enter Tryz.func236,Tryz.ntmps236
 go_upto_region 1 with fail
 have hB1:Blk (w.setCell ⟨g,3,none⟩ (.int .u64 (d1.toNat:Int))) g 302 #[wv a,wv b,wv c,wv d1,R,N]:=Blk.set HB.o 3 (wv d1);have hG1:w.grownBy (w.setCell ⟨g,3,none⟩ (.int .u64 (d1.toNat:Int))) (some g):=AE HG.o (.inl rfl) _;generalize w.setCell ⟨g,3,none⟩ (.int .u64 (d1.toNat:Int))=v1 at hB1 hG1⊢;have c1:=JV g 2 ⟨a,b,c,d1⟩ R N v1 (by decide) hB1;rw[<-E2.o] at c1;have HG1:=I hG1;clear hB1 hG1 fz k3 HB HG x1
 go_upto_region 2 with(go_at_call 237;refine Aj c1 ?_;rintro v2 ⟨hB2,hG2⟩;clear c1;have k0:v2.cell? ⟨g,0,none⟩=some (.int .u64 (a2.toNat:Int)):=by{rw[hB2.cell];rfl};have fz2:=hB2.frozen;have HB2:=I hB2;have HG2:=I hG2;clear hB2 hG2)
 go_wp2_with fail
 go_end0
 exact⟨rfl,by rw[HALL.o];exact Blk.set HB2.o 0 (wv a3),AE (World.grownBy.trans HG1.o HG2.o) (.inl rfl) _⟩
theorem Xg (g:Nat) (s:V) (m:Wd) (w:World) (hB:Blk w g 235 (Ds s)) :
  Calls Tryz.prog 126 #[.pointer (some ⟨g,0,none⟩),wv m] w fun e w'=>e=.returned (.tuple #[])/\Blk w' g 235 (Ds (addM s m))/\w.grownBy w' (some g):=by
 obtain⟨a,b,c,d⟩:=s;obtain⟨d1,ed⟩:∃x,x=d ^^^ m:=⟨_,rfl⟩;obtain⟨t1,e1⟩:∃t,t=rnd ⟨a,b,c,d1⟩:=⟨_,rfl⟩;obtain⟨⟨a2,b2,c2,d2⟩,e2⟩:∃t,t=rnd t1:=⟨_,rfl⟩;obtain⟨a3,ea⟩:∃x,x=a2 ^^^ m:=⟨_,rfl⟩;have hr:rnds 2 ⟨a,b,c,d1⟩=⟨a2,b2,c2,d2⟩:=by rw[e2,e1];rfl
 have hall:addM ⟨a,b,c,d⟩ m=⟨a3,b2,c2,d2⟩:=by simp only[addM,<-ed,hr,<-ea]
 have x1:bits .xor .u64 (d.toNat:Int) (m.toNat:Int)=(d1.toNat:Int):=by rw[ed];exact Br _ _
 have x2:bits .xor .u64 (a2.toNat:Int) (m.toNat:Int)=(a3.toNat:Int):=by rw[ea];exact Br _ _
 have HALL:=I hall;clear hall hr;have E1:=I e1;clear e1;have E2:=I e2;clear e2;clear ed ea;have fz:=hB.frozen;have k3:w.cell? ⟨g,3,none⟩=some (.int .u64 (d.toNat:Int)):=by rw[hB.cell];rfl
 have HB:=I (show Blk w g 235 #[wv a,wv b,wv c,wv d] from hB);clear hB;have HG:=I (World.grownBy.refl w (some g));go_enter Tryz.func126,Tryz.ntmps126
 go_upto_region 0 with fail
 refine wp_region_still_tail 9 (by kernel_rfl) (by kernel_rfl) ?_;simp only[List.take_succ_cons,List.take_zero,List.drop_succ_cons,List.drop_zero];change wpStill _ _ w.drew _ _ _
 repeat still_step
 refine wpStill_nil ?_;change wpList _ _ _ _ _ w.drew
 go_upto_region 1 with fail
 have hB1:Blk (w.setCell ⟨g,3,none⟩ (.int .u64 (d1.toNat:Int))).drew g 235 #[wv a,wv b,wv c,wv d1]:=Blk.set HB.o 3 (wv d1);have hG1:w.grownBy (w.setCell ⟨g,3,none⟩ (.int .u64 (d1.toNat:Int))).drew (some g):=AU (AE HG.o (.inl rfl) _);generalize (w.setCell ⟨g,3,none⟩ (.int .u64 (d1.toNat:Int))).drew=v1 at hB1 hG1⊢;have c1:=Ok g ⟨a,b,c,d1⟩ v1 hB1;rw[<-E1.o] at c1;have HG1:=I hG1;clear hB1 hG1 fz k3 HB HG x1
 go_upto_region 2 with(go_at_call 127;refine Aj c1 ?_;rintro v2 ⟨hB2,hG2⟩;clear c1;have c2:=Ok g t1 v2 hB2;rw[<-E2.o] at c2;have HG2:=I hG2;clear hB2 hG2)
 go_upto_region 3 with(go_at_call 127;refine Aj c2 ?_;rintro v3 ⟨hB3,hG3⟩;clear c2;have k0:v3.cell? ⟨g,0,none⟩=some (.int .u64 (a2.toNat:Int)):=by{rw[hB3.cell];rfl};have fz2:=hB3.frozen;have HB3:=I hB3;have HG3:=I hG3;clear hB3 hG3)
 refine wp_region_still_tail 9 (by kernel_rfl) (by kernel_rfl) ?_;simp only[List.take_succ_cons,List.take_zero,List.drop_succ_cons,List.drop_zero];change wpStill _ _ v3.drew _ _ _
 repeat still_step
 refine wpStill_nil ?_;change wpList _ _ _ _ _ v3.drew
 go_wp2_with fail
 go_end0
 exact⟨rfl,by rw[HALL.o];exact Blk.set HB3.o 0 (wv a3),AU (AE (World.grownBy.trans (World.grownBy.trans HG1.o HG2.o) HG3.o) (.inl rfl) _)⟩
def stc (s:St):Array Value:=Jh s.v (.int .u64 (s.r:Int)) (.int .u64 (s.n:Int))
theorem MY (g:Nat) (s:St) (y:UInt8) (w:World) (hn:s.n<100000) (hr:s.r<256 ^ (s.n % 8)) (hB:Blk w g 302 (stc s)) :
  Calls Tryz.prog 219 #[.pointer (some ⟨g,0,none⟩),.int .u8 (y.toNat:Int)] w fun e w'=>e=.returned (.tuple #[])/\Blk w' g 302 (stc (addB s y))/\w.grownBy w' (some g):=by
 obtain⟨⟨a,b,c,d⟩,r,n⟩:=s;have hn:n<100000:=hn;have hr:r<256 ^ (n % 8):=hr;obtain⟨r2,e2⟩:∃x,x=r+y.toNat*256 ^ (n % 8):=⟨_,rfl⟩;have hx:∀K:Int,K=((256 ^ (n % 8):Nat):Int)->bits .or .u64 (r:Int) (IntKind.u64.wrap ((y.toNat:Int)*K))=(r2:Int):=fun K hK=>by
  rw[e2];refine KM r y (n % 8) (by omega) hr _ ?_;have h1:=Uv (n % 8) (by omega);have h2:=y.toNat_lt;have h3:y.toNat*256 ^ (n % 8)<=255*72057594037927936:=Nat.mul_le_mul (by omega) h1;rw[hK,IntKind.wrap_u64,<-Int.natCast_mul];omega
 have hr2:r2<18446744073709551616:=by
  have h1:=Oi r y (n % 8) hr;have h2:(256:Nat) ^ (n % 8+1)<=256 ^ 8:=Nat.pow_le_pow_right (by decide) (by omega);have h3:(256:Nat) ^ 8=18446744073709551616:=by decide
  omega
 have hin:¬(n+1) % 8=0->stc (addB ⟨⟨a,b,c,d⟩,r,n⟩ y)=#[wv a,wv b,wv c,wv d,.int .u64 (r2:Int),.int .u64 ((n:Int)+1)]:=fun h=>by
  rw[Rv _ _ h,e2]
  rfl
 have hend:(n+1) % 8=0->stc (addB ⟨⟨a,b,c,d⟩,r,n⟩ y)=Jh (addM ⟨a,b,c,d⟩ (wd r2)) (.int .u64 0) (.int .u64 ((n:Int)+1)):=fun h=>by
  rw[Oh _ _ h,e2]
  rfl
 have HIN:=I hin;clear hin;have HEND:=I hend;clear hend;have HR2:=I hr2;clear hr2;have hy:IntKind.u64.wrap (y.toNat:Int)=(y.toNat:Int):=by rw[IntKind.wrap_u64];have:=y.toNat_lt;omega
 have fz:=hB.frozen;have k4:w.cell? ⟨g,4,none⟩=some (.int .u64 (r:Int)):=by rw[hB.cell];rfl
 have k5:w.cell? ⟨g,5,none⟩=some (.int .u64 (n:Int)):=by rw[hB.cell];rfl
 have HB:=I (show Blk w g 302 #[wv a,wv b,wv c,wv d,.int .u64 (r:Int),.int .u64 (n:Int)] from hB);clear hB;have HG:=I (World.grownBy.refl w (some g));have HN:=I hn;clear e2 hr;have hk:n % 8=0\/n % 8=1\/n % 8=2\/n % 8=3\/n % 8=4\/n % 8=5\/n % 8=6\/n % 8=7:=by omega
 have n0:(0:Int)<=(n:Int):=by omega
 have n1:(n:Int)<100000:=by omega
 clear hn;rcases hk with hk | hk | hk | hk | hk | hk | hk | hk
 ·have hx:=hx 1 (by rw[hk];decide)
  rw[Int.mul_one,hy] at hx;have m1:(n:Int).tmod 8=0:=by rw[Int.tmod_eq_emod_of_nonneg n0];omega
  have m2:((n:Int)+1).tmod 8=1:=by rw[Int.tmod_eq_emod_of_nonneg (by omega)];omega
  have m3:n % 8=0:=hk;have hw:IntKind.u64.wrap 0=0:=by kernel_rfl
  have m4:(n:Int) % 8=0:=by omega
  have m5:(n+1) % 8=1:=by omega
  have M5:=I m5;clear m5;clear hk;go_enter Tryz.func219,Tryz.ntmps219
  go_upto_region 0 with fail
  refine wp_region_still_tail 16 (by kernel_rfl) (by kernel_rfl) ?_;simp only[List.take_succ_cons,List.take_zero,List.drop_succ_cons,List.drop_zero];change wpStill _ _ w.drew _ _ _
  repeat still_step
  refine wpStill_nil ?_;change wpList _ _ _ _ _ w.drew
  go_upto_region 1 with fail
  have hB1:Blk (w.setCell ⟨g,4,none⟩ (.int .u64 (r2:Int))).drew g 302 #[wv a,wv b,wv c,wv d,.int .u64 (r2:Int),.int .u64 (n:Int)]:=Blk.set HB.o 4 (.int .u64 (r2:Int));have hG1:w.grownBy (w.setCell ⟨g,4,none⟩ (.int .u64 (r2:Int))).drew (some g):=AU (AE HG.o (.inl rfl) _);generalize (w.setCell ⟨g,4,none⟩ (.int .u64 (r2:Int))).drew=v1 at hB1 hG1⊢;clear fz k4 k5 HB HG hx m1 m3 m4 hw hy;have fz:=hB1.frozen;have k5:v1.cell? ⟨g,5,none⟩=some (.int .u64 (n:Int)):=by rw[hB1.cell];rfl
  have HB1:=I hB1;clear hB1;have HG1:=I hG1;clear hG1
  go_upto_region 2 with fail
  have hB2:Blk (v1.setCell ⟨g,5,none⟩ (.int .u64 ((n:Int)+1))) g 302 #[wv a,wv b,wv c,wv d,.int .u64 (r2:Int),.int .u64 ((n:Int)+1)]:=Blk.set HB1.o 5 (.int .u64 ((n:Int)+1));have hG2:w.grownBy (v1.setCell ⟨g,5,none⟩ (.int .u64 ((n:Int)+1))) (some g):=AE HG1.o (.inl rfl) _;generalize (v1.setCell ⟨g,5,none⟩ (.int .u64 ((n:Int)+1)))=v2 at hB2 hG2⊢;clear fz k5 HB1 HG1;have fz:=hB2.frozen;have k4:v2.cell? ⟨g,4,none⟩=some (.int .u64 (r2:Int)):=by rw[hB2.cell];rfl
  have k5:v2.cell? ⟨g,5,none⟩=some (.int .u64 ((n:Int)+1)):=by rw[hB2.cell];rfl
  have HB2:=I hB2;clear hB2;have HG2:=I hG2;clear hG2
  go_wp2_with fail
  go_end0
  exact⟨rfl,by rw[HIN.o (by have:=M5.o;omega)];exact HB2.o,HG2.o⟩
 ·have hx:=hx 256 (by rw[hk];decide)
  have m1:(n:Int).tmod 8=1:=by rw[Int.tmod_eq_emod_of_nonneg n0];omega
  have m2:((n:Int)+1).tmod 8=2:=by rw[Int.tmod_eq_emod_of_nonneg (by omega)];omega
  have m3:n % 8=1:=hk;have hw:IntKind.u64.wrap 8=8:=by kernel_rfl
  have m4:(n:Int) % 8=1:=by omega
  have m5:(n+1) % 8=2:=by omega
  have M5:=I m5;clear m5;clear hk;go_enter Tryz.func219,Tryz.ntmps219
  go_upto_region 0 with fail
  refine wp_region_still_tail 16 (by kernel_rfl) (by kernel_rfl) ?_;simp only[List.take_succ_cons,List.take_zero,List.drop_succ_cons,List.drop_zero];change wpStill _ _ w.drew _ _ _
  repeat still_step
  refine wpStill_nil ?_;change wpList _ _ _ _ _ w.drew
  go_upto_region 1 with fail
  have hB1:Blk (w.setCell ⟨g,4,none⟩ (.int .u64 (r2:Int))).drew g 302 #[wv a,wv b,wv c,wv d,.int .u64 (r2:Int),.int .u64 (n:Int)]:=Blk.set HB.o 4 (.int .u64 (r2:Int));have hG1:w.grownBy (w.setCell ⟨g,4,none⟩ (.int .u64 (r2:Int))).drew (some g):=AU (AE HG.o (.inl rfl) _);generalize (w.setCell ⟨g,4,none⟩ (.int .u64 (r2:Int))).drew=v1 at hB1 hG1⊢;clear fz k4 k5 HB HG hx m1 m3 m4 hw hy;have fz:=hB1.frozen;have k5:v1.cell? ⟨g,5,none⟩=some (.int .u64 (n:Int)):=by rw[hB1.cell];rfl
  have HB1:=I hB1;clear hB1;have HG1:=I hG1;clear hG1
  go_upto_region 2 with fail
  have hB2:Blk (v1.setCell ⟨g,5,none⟩ (.int .u64 ((n:Int)+1))) g 302 #[wv a,wv b,wv c,wv d,.int .u64 (r2:Int),.int .u64 ((n:Int)+1)]:=Blk.set HB1.o 5 (.int .u64 ((n:Int)+1));have hG2:w.grownBy (v1.setCell ⟨g,5,none⟩ (.int .u64 ((n:Int)+1))) (some g):=AE HG1.o (.inl rfl) _;generalize (v1.setCell ⟨g,5,none⟩ (.int .u64 ((n:Int)+1)))=v2 at hB2 hG2⊢;clear fz k5 HB1 HG1;have fz:=hB2.frozen;have k4:v2.cell? ⟨g,4,none⟩=some (.int .u64 (r2:Int)):=by rw[hB2.cell];rfl
  have k5:v2.cell? ⟨g,5,none⟩=some (.int .u64 ((n:Int)+1)):=by rw[hB2.cell];rfl
  have HB2:=I hB2;clear hB2;have HG2:=I hG2;clear hG2
  go_wp2_with fail
  go_end0
  exact⟨rfl,by rw[HIN.o (by have:=M5.o;omega)];exact HB2.o,HG2.o⟩
 ·have hx:=hx 65536 (by rw[hk];decide)
  have m1:(n:Int).tmod 8=2:=by rw[Int.tmod_eq_emod_of_nonneg n0];omega
  have m2:((n:Int)+1).tmod 8=3:=by rw[Int.tmod_eq_emod_of_nonneg (by omega)];omega
  have m3:n % 8=2:=hk;have hw:IntKind.u64.wrap 16=16:=by kernel_rfl
  have m4:(n:Int) % 8=2:=by omega
  have m5:(n+1) % 8=3:=by omega
  have M5:=I m5;clear m5;clear hk;go_enter Tryz.func219,Tryz.ntmps219
  go_upto_region 0 with fail
  refine wp_region_still_tail 16 (by kernel_rfl) (by kernel_rfl) ?_;simp only[List.take_succ_cons,List.take_zero,List.drop_succ_cons,List.drop_zero];change wpStill _ _ w.drew _ _ _
  repeat still_step
  refine wpStill_nil ?_;change wpList _ _ _ _ _ w.drew
  go_upto_region 1 with fail
  have hB1:Blk (w.setCell ⟨g,4,none⟩ (.int .u64 (r2:Int))).drew g 302 #[wv a,wv b,wv c,wv d,.int .u64 (r2:Int),.int .u64 (n:Int)]:=Blk.set HB.o 4 (.int .u64 (r2:Int));have hG1:w.grownBy (w.setCell ⟨g,4,none⟩ (.int .u64 (r2:Int))).drew (some g):=AU (AE HG.o (.inl rfl) _);generalize (w.setCell ⟨g,4,none⟩ (.int .u64 (r2:Int))).drew=v1 at hB1 hG1⊢;clear fz k4 k5 HB HG hx m1 m3 m4 hw hy;have fz:=hB1.frozen;have k5:v1.cell? ⟨g,5,none⟩=some (.int .u64 (n:Int)):=by rw[hB1.cell];rfl
  have HB1:=I hB1;clear hB1;have HG1:=I hG1;clear hG1
  go_upto_region 2 with fail
  have hB2:Blk (v1.setCell ⟨g,5,none⟩ (.int .u64 ((n:Int)+1))) g 302 #[wv a,wv b,wv c,wv d,.int .u64 (r2:Int),.int .u64 ((n:Int)+1)]:=Blk.set HB1.o 5 (.int .u64 ((n:Int)+1));have hG2:w.grownBy (v1.setCell ⟨g,5,none⟩ (.int .u64 ((n:Int)+1))) (some g):=AE HG1.o (.inl rfl) _;generalize (v1.setCell ⟨g,5,none⟩ (.int .u64 ((n:Int)+1)))=v2 at hB2 hG2⊢;clear fz k5 HB1 HG1;have fz:=hB2.frozen;have k4:v2.cell? ⟨g,4,none⟩=some (.int .u64 (r2:Int)):=by rw[hB2.cell];rfl
  have k5:v2.cell? ⟨g,5,none⟩=some (.int .u64 ((n:Int)+1)):=by rw[hB2.cell];rfl
  have HB2:=I hB2;clear hB2;have HG2:=I hG2;clear hG2
  go_wp2_with fail
  go_end0
  exact⟨rfl,by rw[HIN.o (by have:=M5.o;omega)];exact HB2.o,HG2.o⟩
 ·have hx:=hx 16777216 (by rw[hk];decide)
  have m1:(n:Int).tmod 8=3:=by rw[Int.tmod_eq_emod_of_nonneg n0];omega
  have m2:((n:Int)+1).tmod 8=4:=by rw[Int.tmod_eq_emod_of_nonneg (by omega)];omega
  have m3:n % 8=3:=hk;have hw:IntKind.u64.wrap 24=24:=by kernel_rfl
  have m4:(n:Int) % 8=3:=by omega
  have m5:(n+1) % 8=4:=by omega
  have M5:=I m5;clear m5;clear hk;go_enter Tryz.func219,Tryz.ntmps219
  go_upto_region 0 with fail
  refine wp_region_still_tail 16 (by kernel_rfl) (by kernel_rfl) ?_;simp only[List.take_succ_cons,List.take_zero,List.drop_succ_cons,List.drop_zero];change wpStill _ _ w.drew _ _ _
  repeat still_step
  refine wpStill_nil ?_;change wpList _ _ _ _ _ w.drew
  go_upto_region 1 with fail
  have hB1:Blk (w.setCell ⟨g,4,none⟩ (.int .u64 (r2:Int))).drew g 302 #[wv a,wv b,wv c,wv d,.int .u64 (r2:Int),.int .u64 (n:Int)]:=Blk.set HB.o 4 (.int .u64 (r2:Int));have hG1:w.grownBy (w.setCell ⟨g,4,none⟩ (.int .u64 (r2:Int))).drew (some g):=AU (AE HG.o (.inl rfl) _);generalize (w.setCell ⟨g,4,none⟩ (.int .u64 (r2:Int))).drew=v1 at hB1 hG1⊢;clear fz k4 k5 HB HG hx m1 m3 m4 hw hy;have fz:=hB1.frozen;have k5:v1.cell? ⟨g,5,none⟩=some (.int .u64 (n:Int)):=by rw[hB1.cell];rfl
  have HB1:=I hB1;clear hB1;have HG1:=I hG1;clear hG1
  go_upto_region 2 with fail
  have hB2:Blk (v1.setCell ⟨g,5,none⟩ (.int .u64 ((n:Int)+1))) g 302 #[wv a,wv b,wv c,wv d,.int .u64 (r2:Int),.int .u64 ((n:Int)+1)]:=Blk.set HB1.o 5 (.int .u64 ((n:Int)+1));have hG2:w.grownBy (v1.setCell ⟨g,5,none⟩ (.int .u64 ((n:Int)+1))) (some g):=AE HG1.o (.inl rfl) _;generalize (v1.setCell ⟨g,5,none⟩ (.int .u64 ((n:Int)+1)))=v2 at hB2 hG2⊢;clear fz k5 HB1 HG1;have fz:=hB2.frozen;have k4:v2.cell? ⟨g,4,none⟩=some (.int .u64 (r2:Int)):=by rw[hB2.cell];rfl
  have k5:v2.cell? ⟨g,5,none⟩=some (.int .u64 ((n:Int)+1)):=by rw[hB2.cell];rfl
  have HB2:=I hB2;clear hB2;have HG2:=I hG2;clear hG2
  go_wp2_with fail
  go_end0
  exact⟨rfl,by rw[HIN.o (by have:=M5.o;omega)];exact HB2.o,HG2.o⟩
 ·have hx:=hx 4294967296 (by rw[hk];decide)
  have m1:(n:Int).tmod 8=4:=by rw[Int.tmod_eq_emod_of_nonneg n0];omega
  have m2:((n:Int)+1).tmod 8=5:=by rw[Int.tmod_eq_emod_of_nonneg (by omega)];omega
  have m3:n % 8=4:=hk;have hw:IntKind.u64.wrap 32=32:=by kernel_rfl
  have m4:(n:Int) % 8=4:=by omega
  have m5:(n+1) % 8=5:=by omega
  have M5:=I m5;clear m5;clear hk;go_enter Tryz.func219,Tryz.ntmps219
  go_upto_region 0 with fail
  refine wp_region_still_tail 16 (by kernel_rfl) (by kernel_rfl) ?_;simp only[List.take_succ_cons,List.take_zero,List.drop_succ_cons,List.drop_zero];change wpStill _ _ w.drew _ _ _
  repeat still_step
  refine wpStill_nil ?_;change wpList _ _ _ _ _ w.drew
  go_upto_region 1 with fail
  have hB1:Blk (w.setCell ⟨g,4,none⟩ (.int .u64 (r2:Int))).drew g 302 #[wv a,wv b,wv c,wv d,.int .u64 (r2:Int),.int .u64 (n:Int)]:=Blk.set HB.o 4 (.int .u64 (r2:Int));have hG1:w.grownBy (w.setCell ⟨g,4,none⟩ (.int .u64 (r2:Int))).drew (some g):=AU (AE HG.o (.inl rfl) _);generalize (w.setCell ⟨g,4,none⟩ (.int .u64 (r2:Int))).drew=v1 at hB1 hG1⊢;clear fz k4 k5 HB HG hx m1 m3 m4 hw hy;have fz:=hB1.frozen;have k5:v1.cell? ⟨g,5,none⟩=some (.int .u64 (n:Int)):=by rw[hB1.cell];rfl
  have HB1:=I hB1;clear hB1;have HG1:=I hG1;clear hG1
  go_upto_region 2 with fail
  have hB2:Blk (v1.setCell ⟨g,5,none⟩ (.int .u64 ((n:Int)+1))) g 302 #[wv a,wv b,wv c,wv d,.int .u64 (r2:Int),.int .u64 ((n:Int)+1)]:=Blk.set HB1.o 5 (.int .u64 ((n:Int)+1));have hG2:w.grownBy (v1.setCell ⟨g,5,none⟩ (.int .u64 ((n:Int)+1))) (some g):=AE HG1.o (.inl rfl) _;generalize (v1.setCell ⟨g,5,none⟩ (.int .u64 ((n:Int)+1)))=v2 at hB2 hG2⊢;clear fz k5 HB1 HG1;have fz:=hB2.frozen;have k4:v2.cell? ⟨g,4,none⟩=some (.int .u64 (r2:Int)):=by rw[hB2.cell];rfl
  have k5:v2.cell? ⟨g,5,none⟩=some (.int .u64 ((n:Int)+1)):=by rw[hB2.cell];rfl
  have HB2:=I hB2;clear hB2;have HG2:=I hG2;clear hG2
  go_wp2_with fail
  go_end0
  exact⟨rfl,by rw[HIN.o (by have:=M5.o;omega)];exact HB2.o,HG2.o⟩
 ·have hx:=hx 1099511627776 (by rw[hk];decide)
  have m1:(n:Int).tmod 8=5:=by rw[Int.tmod_eq_emod_of_nonneg n0];omega
  have m2:((n:Int)+1).tmod 8=6:=by rw[Int.tmod_eq_emod_of_nonneg (by omega)];omega
  have m3:n % 8=5:=hk;have hw:IntKind.u64.wrap 40=40:=by kernel_rfl
  have m4:(n:Int) % 8=5:=by omega
  have m5:(n+1) % 8=6:=by omega
  have M5:=I m5;clear m5;clear hk;go_enter Tryz.func219,Tryz.ntmps219
  go_upto_region 0 with fail
  refine wp_region_still_tail 16 (by kernel_rfl) (by kernel_rfl) ?_;simp only[List.take_succ_cons,List.take_zero,List.drop_succ_cons,List.drop_zero];change wpStill _ _ w.drew _ _ _
  repeat still_step
  refine wpStill_nil ?_;change wpList _ _ _ _ _ w.drew
  go_upto_region 1 with fail
  have hB1:Blk (w.setCell ⟨g,4,none⟩ (.int .u64 (r2:Int))).drew g 302 #[wv a,wv b,wv c,wv d,.int .u64 (r2:Int),.int .u64 (n:Int)]:=Blk.set HB.o 4 (.int .u64 (r2:Int));have hG1:w.grownBy (w.setCell ⟨g,4,none⟩ (.int .u64 (r2:Int))).drew (some g):=AU (AE HG.o (.inl rfl) _);generalize (w.setCell ⟨g,4,none⟩ (.int .u64 (r2:Int))).drew=v1 at hB1 hG1⊢;clear fz k4 k5 HB HG hx m1 m3 m4 hw hy;have fz:=hB1.frozen;have k5:v1.cell? ⟨g,5,none⟩=some (.int .u64 (n:Int)):=by rw[hB1.cell];rfl
  have HB1:=I hB1;clear hB1;have HG1:=I hG1;clear hG1
  go_upto_region 2 with fail
  have hB2:Blk (v1.setCell ⟨g,5,none⟩ (.int .u64 ((n:Int)+1))) g 302 #[wv a,wv b,wv c,wv d,.int .u64 (r2:Int),.int .u64 ((n:Int)+1)]:=Blk.set HB1.o 5 (.int .u64 ((n:Int)+1));have hG2:w.grownBy (v1.setCell ⟨g,5,none⟩ (.int .u64 ((n:Int)+1))) (some g):=AE HG1.o (.inl rfl) _;generalize (v1.setCell ⟨g,5,none⟩ (.int .u64 ((n:Int)+1)))=v2 at hB2 hG2⊢;clear fz k5 HB1 HG1;have fz:=hB2.frozen;have k4:v2.cell? ⟨g,4,none⟩=some (.int .u64 (r2:Int)):=by rw[hB2.cell];rfl
  have k5:v2.cell? ⟨g,5,none⟩=some (.int .u64 ((n:Int)+1)):=by rw[hB2.cell];rfl
  have HB2:=I hB2;clear hB2;have HG2:=I hG2;clear hG2
  go_wp2_with fail
  go_end0
  exact⟨rfl,by rw[HIN.o (by have:=M5.o;omega)];exact HB2.o,HG2.o⟩
 ·have hx:=hx 281474976710656 (by rw[hk];decide)
  have m1:(n:Int).tmod 8=6:=by rw[Int.tmod_eq_emod_of_nonneg n0];omega
  have m2:((n:Int)+1).tmod 8=7:=by rw[Int.tmod_eq_emod_of_nonneg (by omega)];omega
  have m3:n % 8=6:=hk;have hw:IntKind.u64.wrap 48=48:=by kernel_rfl
  have m4:(n:Int) % 8=6:=by omega
  have m5:(n+1) % 8=7:=by omega
  have M5:=I m5;clear m5;clear hk;go_enter Tryz.func219,Tryz.ntmps219
  go_upto_region 0 with fail
  refine wp_region_still_tail 16 (by kernel_rfl) (by kernel_rfl) ?_;simp only[List.take_succ_cons,List.take_zero,List.drop_succ_cons,List.drop_zero];change wpStill _ _ w.drew _ _ _
  repeat still_step
  refine wpStill_nil ?_;change wpList _ _ _ _ _ w.drew
  go_upto_region 1 with fail
  have hB1:Blk (w.setCell ⟨g,4,none⟩ (.int .u64 (r2:Int))).drew g 302 #[wv a,wv b,wv c,wv d,.int .u64 (r2:Int),.int .u64 (n:Int)]:=Blk.set HB.o 4 (.int .u64 (r2:Int));have hG1:w.grownBy (w.setCell ⟨g,4,none⟩ (.int .u64 (r2:Int))).drew (some g):=AU (AE HG.o (.inl rfl) _);generalize (w.setCell ⟨g,4,none⟩ (.int .u64 (r2:Int))).drew=v1 at hB1 hG1⊢;clear fz k4 k5 HB HG hx m1 m3 m4 hw hy;have fz:=hB1.frozen;have k5:v1.cell? ⟨g,5,none⟩=some (.int .u64 (n:Int)):=by rw[hB1.cell];rfl
  have HB1:=I hB1;clear hB1;have HG1:=I hG1;clear hG1
  go_upto_region 2 with fail
  have hB2:Blk (v1.setCell ⟨g,5,none⟩ (.int .u64 ((n:Int)+1))) g 302 #[wv a,wv b,wv c,wv d,.int .u64 (r2:Int),.int .u64 ((n:Int)+1)]:=Blk.set HB1.o 5 (.int .u64 ((n:Int)+1));have hG2:w.grownBy (v1.setCell ⟨g,5,none⟩ (.int .u64 ((n:Int)+1))) (some g):=AE HG1.o (.inl rfl) _;generalize (v1.setCell ⟨g,5,none⟩ (.int .u64 ((n:Int)+1)))=v2 at hB2 hG2⊢;clear fz k5 HB1 HG1;have fz:=hB2.frozen;have k4:v2.cell? ⟨g,4,none⟩=some (.int .u64 (r2:Int)):=by rw[hB2.cell];rfl
  have k5:v2.cell? ⟨g,5,none⟩=some (.int .u64 ((n:Int)+1)):=by rw[hB2.cell];rfl
  have HB2:=I hB2;clear hB2;have HG2:=I hG2;clear hG2
  go_wp2_with fail
  go_end0
  exact⟨rfl,by rw[HIN.o (by have:=M5.o;omega)];exact HB2.o,HG2.o⟩
 ·have hx:=hx 72057594037927936 (by rw[hk];decide)
  have m1:(n:Int).tmod 8=7:=by rw[Int.tmod_eq_emod_of_nonneg n0];omega
  have m2:((n:Int)+1).tmod 8=0:=by rw[Int.tmod_eq_emod_of_nonneg (by omega)];omega
  have m3:n % 8=7:=hk;have hw:IntKind.u64.wrap 56=56:=by kernel_rfl
  have m4:(n:Int) % 8=7:=by omega
  have m5:(n+1) % 8=0:=by omega
  have M5:=I m5;clear m5;clear hk;go_enter Tryz.func219,Tryz.ntmps219
  go_upto_region 0 with fail
  refine wp_region_still_tail 16 (by kernel_rfl) (by kernel_rfl) ?_;simp only[List.take_succ_cons,List.take_zero,List.drop_succ_cons,List.drop_zero];change wpStill _ _ w.drew _ _ _
  repeat still_step
  refine wpStill_nil ?_;change wpList _ _ _ _ _ w.drew
  go_upto_region 1 with fail
  have hB1:Blk (w.setCell ⟨g,4,none⟩ (.int .u64 (r2:Int))).drew g 302 #[wv a,wv b,wv c,wv d,.int .u64 (r2:Int),.int .u64 (n:Int)]:=Blk.set HB.o 4 (.int .u64 (r2:Int));have hG1:w.grownBy (w.setCell ⟨g,4,none⟩ (.int .u64 (r2:Int))).drew (some g):=AU (AE HG.o (.inl rfl) _);generalize (w.setCell ⟨g,4,none⟩ (.int .u64 (r2:Int))).drew=v1 at hB1 hG1⊢;clear fz k4 k5 HB HG hx m1 m3 m4 hw hy;have fz:=hB1.frozen;have k5:v1.cell? ⟨g,5,none⟩=some (.int .u64 (n:Int)):=by rw[hB1.cell];rfl
  have HB1:=I hB1;clear hB1;have HG1:=I hG1;clear hG1
  go_upto_region 2 with fail
  have hB2:Blk (v1.setCell ⟨g,5,none⟩ (.int .u64 ((n:Int)+1))) g 302 #[wv a,wv b,wv c,wv d,.int .u64 (r2:Int),.int .u64 ((n:Int)+1)]:=Blk.set HB1.o 5 (.int .u64 ((n:Int)+1));have hG2:w.grownBy (v1.setCell ⟨g,5,none⟩ (.int .u64 ((n:Int)+1))) (some g):=AE HG1.o (.inl rfl) _;generalize (v1.setCell ⟨g,5,none⟩ (.int .u64 ((n:Int)+1)))=v2 at hB2 hG2⊢;clear fz k5 HB1 HG1;have fz:=hB2.frozen;have k4:v2.cell? ⟨g,4,none⟩=some (.int .u64 (r2:Int)):=by rw[hB2.cell];rfl
  have k5:v2.cell? ⟨g,5,none⟩=some (.int .u64 ((n:Int)+1)):=by rw[hB2.cell];rfl
  have HB2:=I hB2;clear hB2;have HG2:=I hG2;clear hG2;have c1:=Ji g ⟨a,b,c,d⟩ (.int .u64 (r2:Int)) (.int .u64 ((n:Int)+1)) (wd r2) v2 HB2.o;rw[wv,JU r2 HR2.o] at c1
  go_wp2_with (go_at_call 236;refine Aj c1 ?_;rintro v3 ⟨hB3,hG3⟩;clear c1;have k4:v3.cell? ⟨g,4,none⟩=some (.int .u64 (r2:Int)):=by{rw[hB3.cell];rfl};have fz:=hB3.frozen;have HB3:=I hB3;have HG3:=I hG3;clear hB3 hG3)
  go_end0
  exact⟨rfl,by rw[HEND.o M5.o];exact Blk.set HB3.o 4 (.int .u64 0),AE (World.grownBy.trans HG2.o HG3.o) (.inl rfl) _⟩
theorem LP (s:St) (hr:s.r<72057594037927936):(PI s).toNat=s.r+s.n % 256*72057594037927936:=JU _ (by omega)
theorem Xh (g:Nat) (s:St) (w:World) (hr:s.r<72057594037927936) (hB:Blk w g 302 (stc s)) :
  Calls Tryz.prog 220 #[.pointer (some ⟨g,0,none⟩)] w fun e w'=>e=.returned (wv (finS s))/\w.grownBy w' (some g):=by
 have hl:=LP s hr;have hx:=Oj s.r s.n hr;rw[<-hl,<-IntKind.wrap_u64] at hx;obtain⟨lw,el⟩:∃x,x=PI s:=⟨_,rfl⟩;obtain⟨⟨a,b,c,d⟩,e1⟩:∃t,t=addM s.v lw:=⟨_,rfl⟩;obtain⟨c1,ec⟩:∃x,x=c ^^^ 255#64:=⟨_,rfl⟩;obtain⟨⟨a2,b2,c2,d2⟩,e2⟩:∃t,t=rnds 4 ⟨a,b,c1,d⟩:=⟨_,rfl⟩;obtain⟨q1,eq1⟩:∃x,x=a2 ^^^ b2:=⟨_,rfl⟩;obtain⟨q2,eq2⟩:∃x,x=q1 ^^^ c2:=⟨_,rfl⟩;obtain⟨q3,eq3⟩:∃x,x=q2 ^^^ d2:=⟨_,rfl⟩;have hall:finS s=q3:=by rw[finS,<-el,<-e1,fin,<-ec,<-e2,allX,<-eq1,<-eq2,<-eq3]
 have x0:bits .xor .u64 (c.toNat:Int) 255=(c1.toNat:Int):=by rw[ec];exact Br c 255#64
 have x1:bits .xor .u64 (a2.toNat:Int) (b2.toNat:Int)=(q1.toNat:Int):=by rw[eq1];exact Br _ _
 have x2:bits .xor .u64 (q1.toNat:Int) (c2.toNat:Int)=(q2.toNat:Int):=by rw[eq2];exact Br _ _
 have x3:bits .xor .u64 (q2.toNat:Int) (d2.toNat:Int)=(q3.toNat:Int):=by rw[eq3];exact Br _ _
 rw[<-el] at hx;obtain⟨v,r,n⟩:=s;have hx:bits .or .u64 (r:Int) (IntKind.u64.wrap ((n:Int)*72057594037927936))=(lw.toNat:Int):=hx;have e1:⟨a,b,c,d⟩=addM v lw:=e1;have ca:=Ji g v (.int .u64 (r:Int)) (.int .u64 (n:Int)) lw w.drew (Blk.drewN hB 1);rw[<-e1] at ca;have HALL:=I hall;clear hall;have E2:=I e2;clear e2;have k4:w.cell? ⟨g,4,none⟩=some (.int .u64 (r:Int)):=by rw[hB.cell];rfl
 have k5:w.cell? ⟨g,5,none⟩=some (.int .u64 (n:Int)):=by rw[hB.cell];rfl
 have fz:=hB.frozen;have HX0:=I x0;clear x0;have HX1:=I x1;clear x1;have HX2:=I x2;clear x2;have HX3:=I x3;clear x3;clear el e1 ec eq1 eq2 eq3 hl hr hB;go_enter Tryz.func220,Tryz.ntmps220
 go_upto_region 1 with fail
 refine wp_region_still_tail 11 (by kernel_rfl) (by kernel_rfl) ?_;simp only[List.take_succ_cons,List.take_zero,List.drop_succ_cons,List.drop_zero];change wpStill _ _ w.drew _ _ _
 repeat still_step
 refine wpStill_nil ?_;change wpList _ _ _ _ _ w.drew;clear hx k4 k5 fz
 go_upto_region 2 with(go_at_call 236;refine Aj ca ?_;rintro v1 ⟨hB1,hG1⟩;clear ca;have hG1:w.grownBy v1 (some g):=⟨hG1.os,hG1.tape,hG1.output,hG1.size,hG1.block⟩;have k2:v1.cell? ⟨g,2,none⟩=some (.int .u64 (c.toNat:Int)):=by{rw[hB1.cell];rfl};have fz:=hB1.frozen;have HB1:=I hB1;have HG1:=I hG1;clear hB1 hG1)
 have x0:=HX0.o;clear HX0
 go_upto_region 3 with fail
 have hB2:Blk (v1.setCell ⟨g,2,none⟩ (.int .u64 (c1.toNat:Int))) g 302 #[wv a,wv b,wv c1,wv d,.int .u64 (r:Int),.int .u64 (n:Int)]:=Blk.set HB1.o 2 (wv c1);have hG2:w.grownBy (v1.setCell ⟨g,2,none⟩ (.int .u64 (c1.toNat:Int))) (some g):=AE HG1.o (.inl rfl) _;generalize (v1.setCell ⟨g,2,none⟩ (.int .u64 (c1.toNat:Int)))=v2 at hB2 hG2⊢;have c1':=JV g 4 ⟨a,b,c1,d⟩ (.int .u64 (r:Int)) (.int .u64 (n:Int)) v2 (by decide) hB2;rw[<-E2.o] at c1';have HG2:=I hG2;clear hB2 hG2 fz k2 HB1 HG1 x0
 go_upto_region 4 with(go_at_call 237;refine Aj c1' ?_;rintro v3 ⟨hB3,hG3⟩;clear c1';have HB3:=I hB3;have HG3:=I hG3;clear hB3 hG3)
 have k0:v3.cell? ⟨g,0,none⟩=some (.int .u64 (a2.toNat:Int)):=by rw[HB3.o.cell];rfl
 have k1:v3.cell? ⟨g,1,none⟩=some (.int .u64 (b2.toNat:Int)):=by rw[HB3.o.cell];rfl
 have k2:v3.cell? ⟨g,2,none⟩=some (.int .u64 (c2.toNat:Int)):=by rw[HB3.o.cell];rfl
 have k3:v3.cell? ⟨g,3,none⟩=some (.int .u64 (d2.toNat:Int)):=by rw[HB3.o.cell];rfl
 have x1:=HX1.o;have x2:=HX2.o;have x3:=HX3.o;refine wp_region_still_lit (by kernel_rfl) (by kernel_rfl) ?_;change wpStill _ _ v3.drew _ _ _
 repeat still_step
 refine wpStill_nil ?_
 try change _ v3.drew
 go_wp2_with fail
 go_ret;exact⟨by rw[HALL.o];rfl,AU (World.grownBy.trans HG2.o HG3.o)⟩
theorem Blk.new_of (w:World) (g:Nat) (t:TypeId) (cs cs':Array Value) (e:cs=cs') (hg:w.heap.size=g):Blk (w.alloc (.cells cs t)) g t cs':=hg▸e▸Blk.new w t cs
theorem Ay {B:Nat} {a w:World} (h:Below B a w) {p:Addr} (hp:B<=p.block) (u:Value):Below B a (w.setCell p u):=
 ⟨h.os,h.tape,h.output,by simpa [World.setCell] using h.size,fun i hi=>(Below.heap_setCell w p u i (by omega)).trans (h.block i hi)⟩
theorem Au {P:Program} {fn:Func} {tmps:Array Value} {w:World} {v:Value} (t:Nat) (ty:TypeId) (a:Addr) (hres:fn.results=#[.cell t ty]) (ht:tmps.getD t undef=.pointer (some a)) (hl:(loadVar ty a).run P w=.ok v w) :
  (results fn tmps).run P w=.ok v w:=by
 have ht':tmps[t]?.getD undef=.pointer (some a):=by simpa using ht
 simp [results,hres,ht',asAddr,hl]
theorem Al {P:Program} {w:World} {g:Nat} {t ty:TypeId} {cs:Array Value} {d:TypeDesc} (h:Blk w g t cs) (hu:P.underlying ty=some d) (hd:d.isRow=true) (hi:(P.info? ty).map (·.size)=some cs.size) :
  (loadVar ty ⟨g,0,none⟩).run P w=.ok (.agg cs) w:=by
 have hc:w.rangeAt g 0 cs.toList:=fun j v hv=>by rw[Nat.zero_add,h.cell];simpa using hv
 have:=run_loadVar_mid (P:=P) w g 0 ty cs.toList d hc hu hd (by simpa using hi)
 simpa using this
def AI (ks:Nat->UInt8):Array Value:=((List.range 16).map (fun i=>bv (ks i))).toArray
theorem Blk.far {w:World} {g:Nat} {t:TypeId} {cs:Array Value} (h:Blk w g t cs) (p:Addr) (u:Value) (hp:p.block≠g):Blk (w.setCell p u) g t cs:=
 (Below.heap_setCell w p u g (fun e=>hp e.symm)).trans h
theorem Ae {w:World} {g:Nat} {t:TypeId} {cs:Array Value} (h:Blk w g t cs):w.rangeAt g 0 cs.toList:=fun j v hv=>by
 rw[Nat.zero_add,h.cell];simpa using hv
theorem Ar {w:World} {g:Nat} {t:TypeId} {cs:Array Value} (h:Blk w g t cs):w.there g 0 cs.size:=fun j hj=>by
 rw[Nat.zero_add];exact⟨by rw[h.cell,Array.getElem?_eq_getElem hj];rfl,h.frozen j⟩
theorem Bn {B:Nat} {a:World} (b:Nat) (hb:B<=b):∀(vs:List Value) (o:Nat) (w:World),Below B a w->Below B a (w.setCells b o vs)
 | [],_,_,h=>h
 |v :: r,o,w,h=>Bn b hb r (o+1) _ (Ay h hb v)
def ksOf (l:List UInt8) (i:Nat):UInt8:=l.getD i 0
theorem FM (f:Nat->UInt8) (j:Nat) (hj:j<16):(AI f)[j]? = some (bv (f j)):=by
 rw[AI,List.getElem?_toArray];simp [hj]
theorem k16 {w':World} {B:Nat} {t:TypeId} {ks:Nat->UInt8} (h:Blk w' B t (AI ks)):w'.cell? ⟨B,0,none⟩=some (.int .u8 ((ks 0).toNat:Int))/\w'.cell? ⟨B,1,none⟩=some (.int .u8 ((ks 1).toNat:Int))/\w'.cell? ⟨B,2,none⟩=some (.int .u8 ((ks 2).toNat:Int))/\w'.cell? ⟨B,3,none⟩=some (.int .u8 ((ks 3).toNat:Int))/\w'.cell? ⟨B,4,none⟩=some (.int .u8 ((ks 4).toNat:Int))/\w'.cell? ⟨B,5,none⟩=some (.int .u8 ((ks 5).toNat:Int))/\w'.cell? ⟨B,6,none⟩=some (.int .u8 ((ks 6).toNat:Int))/\w'.cell? ⟨B,7,none⟩=some (.int .u8 ((ks 7).toNat:Int))/\w'.cell? ⟨B,8,none⟩=some (.int .u8 ((ks 8).toNat:Int))/\w'.cell? ⟨B,9,none⟩=some (.int .u8 ((ks 9).toNat:Int))/\w'.cell? ⟨B,10,none⟩=some (.int .u8 ((ks 10).toNat:Int))/\w'.cell? ⟨B,11,none⟩=some (.int .u8 ((ks 11).toNat:Int))/\w'.cell? ⟨B,12,none⟩=some (.int .u8 ((ks 12).toNat:Int))/\w'.cell? ⟨B,13,none⟩=some (.int .u8 ((ks 13).toNat:Int))/\w'.cell? ⟨B,14,none⟩=some (.int .u8 ((ks 14).toNat:Int))/\w'.cell? ⟨B,15,none⟩=some (.int .u8 ((ks 15).toNat:Int)):=by
 refine⟨?_,?_,?_,?_,?_,?_,?_,?_,?_,?_,?_,?_,?_,?_,?_,?_⟩<;>(rw[h.cell];rfl)
theorem LQ (w:World) (g:Nat) (a b c d e f:Value):w.setCells g 0 [a,b,c,d,e,f]=(((((w.setCell ⟨g,0,none⟩ a).setCell ⟨g,1,none⟩ b).setCell ⟨g,2,none⟩ c).setCell ⟨g,3,none⟩ d).setCell ⟨g,4,none⟩ e).setCell ⟨g,5,none⟩ f:=rfl
theorem Blk.set6 {w:World} {g:Nat} {t:TypeId} {a b c d e f a' b' c' d' e' f':Value} (h:Blk w g t #[a',b',c',d',e',f']):Blk (w.setCells g 0 [a,b,c,d,e,f]) g t #[a,b,c,d,e,f]:=by
 rw[LQ];have:=(((((h.set 0 a).set 1 b).set 2 c).set 3 d).set 4 e).set 5 f
 simpa using this
def YV:Array Value:=#[.int .u64 0,.int .u64 0,.int .u64 0,.int .u64 0,.int .u64 0,.int .u64 0]
theorem Rx (ks:Nat->UInt8) (w:World):Calls Tryz.prog 218 #[.agg (AI ks)] w fun e w'=>e=.returned (.agg (stc ⟨start ks,0,0⟩))/\Below w.heap.size w w':=by
 have hk:AI ks=#[.int .u8 ((ks 0).toNat:Int),.int .u8 ((ks 1).toNat:Int),.int .u8 ((ks 2).toNat:Int),.int .u8 ((ks 3).toNat:Int),.int .u8 ((ks 4).toNat:Int),.int .u8 ((ks 5).toNat:Int),.int .u8 ((ks 6).toNat:Int),.int .u8 ((ks 7).toNat:Int),.int .u8 ((ks 8).toNat:Int),.int .u8 ((ks 9).toNat:Int),.int .u8 ((ks 10).toNat:Int),.int .u8 ((ks 11).toNat:Int),.int .u8 ((ks 12).toNat:Int),.int .u8 ((ks 13).toNat:Int),.int .u8 ((ks 14).toNat:Int),.int .u8 ((ks 15).toNat:Int)]:=rfl;have cA:∀w,Calls Tryz.prog 235 #[.agg #[.int .u8 ((ks 0).toNat:Int),.int .u8 ((ks 1).toNat:Int),.int .u8 ((ks 2).toNat:Int),.int .u8 ((ks 3).toNat:Int),.int .u8 ((ks 4).toNat:Int),.int .u8 ((ks 5).toNat:Int),.int .u8 ((ks 6).toNat:Int),.int .u8 ((ks 7).toNat:Int)]] w fun e w'=>e=.returned (wv (kA ks))/\Below w.heap.size w w':=fun w=>Dh ks w
 have cB:∀w,Calls Tryz.prog 235 #[.agg #[.int .u8 ((ks 8).toNat:Int),.int .u8 ((ks 9).toNat:Int),.int .u8 ((ks 10).toNat:Int),.int .u8 ((ks 11).toNat:Int),.int .u8 ((ks 12).toNat:Int),.int .u8 ((ks 13).toNat:Int),.int .u8 ((ks 14).toNat:Int),.int .u8 ((ks 15).toNat:Int)]] w fun e w'=>e=.returned (wv (kB ks))/\Below w.heap.size w w':=fun w=>Dh (fun i=>ks (8+i)) w
 obtain⟨p,ep⟩:∃x,x=kA ks:=⟨_,rfl⟩;obtain⟨q,eq⟩:∃x,x=kB ks:=⟨_,rfl⟩;obtain⟨v0,e0⟩:∃x,x=0x736f6d6570736575#64 ^^^ p:=⟨_,rfl⟩;obtain⟨v1,e1⟩:∃x,x=0x646f72616e646f6d#64 ^^^ q:=⟨_,rfl⟩;obtain⟨v2,e2⟩:∃x,x=0x6c7967656e657261#64 ^^^ p:=⟨_,rfl⟩;obtain⟨v3,e3⟩:∃x,x=0x7465646279746573#64 ^^^ q:=⟨_,rfl⟩;have x0:bits .xor .u64 8317987319222330741 (p.toNat:Int)=(v0.toNat:Int):=by rw[e0];exact Br 0x736f6d6570736575#64 p
 have x1:bits .xor .u64 7237128888997146477 (q.toNat:Int)=(v1.toNat:Int):=by rw[e1];exact Br 0x646f72616e646f6d#64 q
 have x2:bits .xor .u64 7816392313619706465 (p.toNat:Int)=(v2.toNat:Int):=by rw[e2];exact Br 0x6c7967656e657261#64 p
 have x3:bits .xor .u64 8387220255154660723 (q.toNat:Int)=(v3.toNat:Int):=by rw[e3];exact Br 0x7465646279746573#64 q
 have hs:stc ⟨start ks,0,0⟩=#[wv v0,wv v1,wv v2,wv v3,.int .u64 0,.int .u64 0]:=by
  rw[e0,e1,e2,e3,ep,eq];rfl
 rw[<-ep] at cA;rw[<-eq] at cB;rw[hs];clear hs ep eq e0 e1 e2 e3;obtain⟨B,eB⟩:=Ak (w.heap.size);have EB:=I eB;rw[hk];clear hk;go_enter Tryz.func218,Tryz.ntmps218
 go_upto_region 1 with fail
 rw[<-eB];clear eB;have hs1:∀w:World,(Instr.arrayAt 316 (.slice (some ⟨B,0,none⟩) 8 16)).run Tryz.prog w=.ok (.pointer (some ⟨B,0,none⟩)) w:=fun _=>by kernel_rfl
 have hs2:∀w:World,(Instr.arrayAt 316 (.slice (some ⟨B,8,none⟩) 8 8)).run Tryz.prog w=.ok (.pointer (some ⟨B,8,none⟩)) w:=fun _=>by kernel_rfl
 have hK:Blk ((w.alloc (.cells #[.int .u8 ((ks 0).toNat:Int),.int .u8 ((ks 1).toNat:Int),.int .u8 ((ks 2).toNat:Int),.int .u8 ((ks 3).toNat:Int),.int .u8 ((ks 4).toNat:Int),.int .u8 ((ks 5).toNat:Int),.int .u8 ((ks 6).toNat:Int),.int .u8 ((ks 7).toNat:Int),.int .u8 ((ks 8).toNat:Int),.int .u8 ((ks 9).toNat:Int),.int .u8 ((ks 10).toNat:Int),.int .u8 ((ks 11).toNat:Int),.int .u8 ((ks 12).toNat:Int),.int .u8 ((ks 13).toNat:Int),.int .u8 ((ks 14).toNat:Int),.int .u8 ((ks 15).toNat:Int)] 168)).alloc (.cells #[.int .u64 0,.int .u64 0,.int .u64 0,.int .u64 0,.int .u64 0,.int .u64 0] 302)) B 168 (AI ks):=Blk.alloc (Blk.new_of w B _ _ (AI ks) rfl EB.o.symm) _;have hZ:Blk ((w.alloc (.cells #[.int .u8 ((ks 0).toNat:Int),.int .u8 ((ks 1).toNat:Int),.int .u8 ((ks 2).toNat:Int),.int .u8 ((ks 3).toNat:Int),.int .u8 ((ks 4).toNat:Int),.int .u8 ((ks 5).toNat:Int),.int .u8 ((ks 6).toNat:Int),.int .u8 ((ks 7).toNat:Int),.int .u8 ((ks 8).toNat:Int),.int .u8 ((ks 9).toNat:Int),.int .u8 ((ks 10).toNat:Int),.int .u8 ((ks 11).toNat:Int),.int .u8 ((ks 12).toNat:Int),.int .u8 ((ks 13).toNat:Int),.int .u8 ((ks 14).toNat:Int),.int .u8 ((ks 15).toNat:Int)] 168)).alloc (.cells #[.int .u64 0,.int .u64 0,.int .u64 0,.int .u64 0,.int .u64 0,.int .u64 0] 302)) (B+1) 302 YV:=Blk.new_of (w.alloc _) (B+1) _ _ YV rfl (by have:=EB.o;simp;omega);have hW:Below w.heap.size w ((w.alloc (.cells #[.int .u8 ((ks 0).toNat:Int),.int .u8 ((ks 1).toNat:Int),.int .u8 ((ks 2).toNat:Int),.int .u8 ((ks 3).toNat:Int),.int .u8 ((ks 4).toNat:Int),.int .u8 ((ks 5).toNat:Int),.int .u8 ((ks 6).toNat:Int),.int .u8 ((ks 7).toNat:Int),.int .u8 ((ks 8).toNat:Int),.int .u8 ((ks 9).toNat:Int),.int .u8 ((ks 10).toNat:Int),.int .u8 ((ks 11).toNat:Int),.int .u8 ((ks 12).toNat:Int),.int .u8 ((ks 13).toNat:Int),.int .u8 ((ks 14).toNat:Int),.int .u8 ((ks 15).toNat:Int)] 168)).alloc (.cells #[.int .u64 0,.int .u64 0,.int .u64 0,.int .u64 0,.int .u64 0,.int .u64 0] 302)):=((Below.refl w.heap.size w).alloc Ag _).alloc (by simp) _;have HX0:=I x0;clear x0;have HX1:=I x1;clear x1;have HX2:=I x2;clear x2;have HX3:=I x3;clear x3;generalize ((w.alloc (.cells #[.int .u8 ((ks 0).toNat:Int),.int .u8 ((ks 1).toNat:Int),.int .u8 ((ks 2).toNat:Int),.int .u8 ((ks 3).toNat:Int),.int .u8 ((ks 4).toNat:Int),.int .u8 ((ks 5).toNat:Int),.int .u8 ((ks 6).toNat:Int),.int .u8 ((ks 7).toNat:Int),.int .u8 ((ks 8).toNat:Int),.int .u8 ((ks 9).toNat:Int),.int .u8 ((ks 10).toNat:Int),.int .u8 ((ks 11).toNat:Int),.int .u8 ((ks 12).toNat:Int),.int .u8 ((ks 13).toNat:Int),.int .u8 ((ks 14).toNat:Int),.int .u8 ((ks 15).toNat:Int)] 168)).alloc (.cells #[.int .u64 0,.int .u64 0,.int .u64 0,.int .u64 0,.int .u64 0,.int .u64 0] 302))=W1 at hK hZ hW⊢;have hK:Blk W1.drew B 168 (AI ks):=hK;have hZ:Blk W1.drew (B+1) 302 #[.int .u64 0,.int .u64 0,.int .u64 0,.int .u64 0,.int .u64 0,.int .u64 0]:=hZ;have hW:Below w.heap.size w W1.drew:=below_drewN hW 1
 go_region_held3 (fun w'=>w'.cell? ⟨B,0,none⟩=some (.int .u8 ((ks 0).toNat:Int))/\w'.cell? ⟨B,1,none⟩=some (.int .u8 ((ks 1).toNat:Int))/\w'.cell? ⟨B,2,none⟩=some (.int .u8 ((ks 2).toNat:Int))/\w'.cell? ⟨B,3,none⟩=some (.int .u8 ((ks 3).toNat:Int))/\w'.cell? ⟨B,4,none⟩=some (.int .u8 ((ks 4).toNat:Int))/\w'.cell? ⟨B,5,none⟩=some (.int .u8 ((ks 5).toNat:Int))/\w'.cell? ⟨B,6,none⟩=some (.int .u8 ((ks 6).toNat:Int))/\w'.cell? ⟨B,7,none⟩=some (.int .u8 ((ks 7).toNat:Int))/\w'.cell? ⟨B,8,none⟩=some (.int .u8 ((ks 8).toNat:Int))/\w'.cell? ⟨B,9,none⟩=some (.int .u8 ((ks 9).toNat:Int))/\w'.cell? ⟨B,10,none⟩=some (.int .u8 ((ks 10).toNat:Int))/\w'.cell? ⟨B,11,none⟩=some (.int .u8 ((ks 11).toNat:Int))/\w'.cell? ⟨B,12,none⟩=some (.int .u8 ((ks 12).toNat:Int))/\w'.cell? ⟨B,13,none⟩=some (.int .u8 ((ks 13).toNat:Int))/\w'.cell? ⟨B,14,none⟩=some (.int .u8 ((ks 14).toNat:Int))/\w'.cell? ⟨B,15,none⟩=some (.int .u8 ((ks 15).toNat:Int))) (exact k16 hK) (first | (go_at_call 235;refine Aj (cA _) ?_;rintro wq hb;clear cA;have hK2:=Blk.below hK hb;have hZ2:=Blk.below hZ hb;have hW2:=bt hW hb;clear hK hZ hW;have hK:=hK2;have hZ:=hZ2;have hW:=hW2;clear hK2 hZ2 hW2 hb) | (go_at_call 235;refine Aj (cB _) ?_;rintro wq hb;clear cB;have hK2:=Blk.below hK hb;have hZ2:=Blk.below hZ hb;have hW2:=bt hW hb;clear hK hZ hW;have hK:=hK2;have hZ:=hZ2;have hW:=hW2;clear hK2 hZ2 hW2 hb))
 all_goals
  have x0:=HX0.o;have x1:=HX1.o;have x2:=HX2.o;have x3:=HX3.o;have HZ:=I hZ;clear hZ;have HW:=I hW;clear hW;clear hK HX0 HX1 HX2 HX3
 all_goals
  have c0:wq.cell? ⟨B+1,0,none⟩=some (.int .u64 0):=by rw[HZ.o.cell];rfl
  have c1:wq.cell? ⟨B+1,1,none⟩=some (.int .u64 0):=by rw[HZ.o.cell];rfl
  have c2:wq.cell? ⟨B+1,2,none⟩=some (.int .u64 0):=by rw[HZ.o.cell];rfl
  have c3:wq.cell? ⟨B+1,3,none⟩=some (.int .u64 0):=by rw[HZ.o.cell];rfl
  have c4:wq.cell? ⟨B+1,4,none⟩=some (.int .u64 0):=by rw[HZ.o.cell];rfl
  have c5:wq.cell? ⟨B+1,5,none⟩=some (.int .u64 0):=by rw[HZ.o.cell];rfl
  have fz:=HZ.o.frozen;clear hs1 hs2
 all_goals go_wp2_with fail
 all_goals
  have hE:=Blk.set6 (a:=wv v0) (b:=wv v1) (c:=wv v2) (d:=wv v3) (e:=.int .u64 0) (f:=.int .u64 0) HZ.o;rw[LQ] at hE;have hq:=Al (P:=Tryz.prog) hE Tryz.underlying302 rfl (by kernel_rfl);refine bodyPost_ret (v:=.agg #[wv v0,wv v1,wv v2,wv v3,.int .u64 0,.int .u64 0]) ?_ ?_ ?_
  ·exact Au 2 302 ⟨B+1,0,none⟩ Tryz.results218 rfl hq
  ·rfl
  refine⟨rfl,?_⟩;have hle:w.heap.size<=B+1:=by have:=EB.o;omega
  repeat (refine Ay ?_ hle _)
  exact HW.o
end Si
end Go.Proofs.YtlchkbpffaclmaaGreat
