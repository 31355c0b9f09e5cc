import Derived.Test.YthgignaohimadaaGreatZKdcRoutes1
set_option maxHeartbeats 25600000
set_option maxRecDepth 100000
set_option linter.unusedVariables false
set_option linter.unusedSimpArgs false
namespace Go.Proofs.YthgignaohimadaaGreat
namespace Sp
open Go.RowKit Af
abbrev Wd:=BitVec 32
def rot (v:Wd) (s:Nat):Wd:=(v <<< s) ||| (v >>> (32 - s))
abbrev wv (v:Wd):Value:=.int .u32 (v.toNat:Int)
theorem Gu (v:Wd):v.toNat<4294967296:=v.isLt
theorem PE (n:Nat):IntKind.u32.wrap (n:Int)=((BitVec.ofNat 32 n).toNat:Int):=by
 rw[IntKind.wrap_u32,BitVec.toNat_ofNat];omega
theorem BB (x y:Wd):bits .xor .u32 (x.toNat:Int) (y.toNat:Int)=((x ^^^ y).toNat:Int):=by
 rw[u32_xor_nat _ _ x.isLt y.isLt,BitVec.toNat_xor]
theorem Gf (x y:Wd):((x.toNat:Int)+(y.toNat:Int)) % 4294967296=((x+y).toNat:Int):=by
 rw[BitVec.toNat_add];omega
theorem Lu (v:Wd) (s:Nat):(rot v s).toNat=(v.toNat*2 ^ s % 4294967296) ||| (v.toNat / 2 ^ (32 - s)):=by
 simp [rot,BitVec.toNat_or,BitVec.toNat_shiftLeft,BitVec.toNat_ushiftRight,Nat.shiftLeft_eq,Nat.shiftRight_eq_div_pow]
theorem Ix (v:Wd) (a b:Nat) (s:Nat) (E:a=v.toNat*2 ^ s % 4294967296) (D:b=v.toNat / 2 ^ (32 - s)):bits .or .u32 (a:Int) (b:Int)=((rot v s).toNat:Int):=by
 rw[u32_or_nat a b (by omega) (by have:=Gu v;have:=Nat.div_le_self v.toNat (2 ^ (32 - s));omega),Lu,E,D]
theorem or_rot' (v:Wd) (a b:Nat) (s:Nat) (E:a=v.toNat*2 ^ s % 4294967296) (D:b=v.toNat / 2 ^ (32 - s)):bits .or .u32 (b:Int) (a:Int)=((rot v s).toNat:Int):=by
 rw[u32_or_nat b a (by have:=Gu v;have:=Nat.div_le_self v.toNat (2 ^ (32 - s));omega) (by omega),Lu,E,D,Nat.or_comm]
theorem or3 (v:Wd):bits .or .u32 ((v.toNat:Int)*8 % 4294967296) ((v.toNat:Int) / 536870912)=((rot v 3).toNat:Int):=Ix v _ _ 3 rfl rfl
theorem or24 (v:Wd):bits .or .u32 ((v.toNat:Int)*16777216 % 4294967296) ((v.toNat:Int) / 256)=((rot v 24).toNat:Int):=Ix v _ _ 24 rfl rfl
theorem ro24 (v:Wd):bits .or .u32 ((v.toNat:Int) / 256) ((v.toNat:Int)*16777216 % 4294967296)=((rot v 24).toNat:Int):=or_rot' v _ _ 24 rfl rfl
def step (k:Wd) (p:Wd×Wd):Wd×Wd:=((rot p.1 24+p.2) ^^^ k,rot p.2 3 ^^^ ((rot p.1 24+p.2) ^^^ k))
def IJ (K:Nat->Wd):Nat->Wd×Wd->Wd×Wd
 |0,p=>p
 |n+1,p=>step (K n) (IJ K n p)
def Ce (K:Nat->Wd) (p:Wd×Wd):Wd×Wd:=IJ K 27 p
def le4 (a b c d:UInt8):Wd:=BitVec.ofNat 32 (a.toNat+b.toNat*256+c.toNat*65536+d.toNat*16777216)
theorem Dr (a b c d:UInt8):(le4 a b c d).toNat=a.toNat+b.toNat*256+c.toNat*65536+d.toNat*16777216:=by
 have:=a.toNat_lt;have:=b.toNat_lt;have:=c.toNat_lt;have:=d.toNat_lt;rw[le4,BitVec.toNat_ofNat];omega
theorem bT (a b c d:UInt8):bits .or .u32 (bits .or .u32 (bits .or .u32 (a.toNat:Int) ((b.toNat:Int)*256 % 4294967296)) ((c.toNat:Int)*65536 % 4294967296)) ((d.toNat:Int)*16777216 % 4294967296)=((le4 a b c d).toNat:Int):=by
 have Z:=a.toNat_lt;have O:=b.toNat_lt;have hc:=c.toNat_lt;have hd:=d.toNat_lt;have F:(b.toNat:Int)*256 % 4294967296=((b.toNat*256:Nat):Int):=by omega
 have D:(c.toNat:Int)*65536 % 4294967296=((c.toNat*65536:Nat):Int):=by omega
 have E:(d.toNat:Int)*16777216 % 4294967296=((d.toNat*16777216:Nat):Int):=by omega
 have J:a.toNat ||| b.toNat*256=b.toNat*256+a.toNat:=by rw[Nat.or_comm];exact nat_join 8 _ _ (by omega) (by omega)
 have M:(b.toNat*256+a.toNat) ||| c.toNat*65536=c.toNat*65536+(b.toNat*256+a.toNat):=by rw[Nat.or_comm];exact nat_join 16 _ _ (by omega) (by omega)
 have N:(c.toNat*65536+(b.toNat*256+a.toNat)) ||| d.toNat*16777216=d.toNat*16777216+(c.toNat*65536+(b.toNat*256+a.toNat)):=by rw[Nat.or_comm];exact nat_join 24 _ _ (by omega) (by omega)
 rw[F,D,E,u32_or_nat _ _ (by omega) (by omega),J,u32_or_nat _ _ (by omega) (by omega),M,u32_or_nat _ _ (by omega) (by omega),N,Dr];omega
def Ff (ks:Nat->UInt8) (i:Nat):Wd:=le4 (ks (4*i)) (ks (4*i+1)) (ks (4*i+2)) (ks (4*i+3))
structure Sch where
 k:Wd
 a:Wd
 b:Wd
 c:Wd
def bU (i:Nat) (s:Sch):Wd:=(s.k+rot s.a 24) ^^^ BitVec.ofNat 32 i
def sch (ks:Nat->UInt8):Nat->Sch
 |0=>⟨Ff ks 0,Ff ks 1,Ff ks 2,Ff ks 3⟩
 |i+1=>⟨rot (sch ks i).k 3 ^^^ bU i (sch ks i),(sch ks i).b,(sch ks i).c,bU i (sch ks i)⟩
def kw (ks:Nat->UInt8) (i:Nat):Wd:=(sch ks i).k
def lw (ks:Nat->UInt8) (i:Nat):Wd:=(sch ks i).a
theorem lw_3 (ks:Nat->UInt8) (i:Nat):lw ks (i+3)=(kw ks i+rot (lw ks i) 24) ^^^ BitVec.ofNat 32 i:=rfl
theorem Tu (ks:Nat->UInt8) (i:Nat):kw ks (i+1)=rot (kw ks i) 3 ^^^ lw ks (i+3):=rfl
def Km (K:Nat->Wd) (up lo:Wd) (i:Nat):Nat:=(Ce K (up,lo+BitVec.ofNat 32 i)).1.toNat+4294967296*(Ce K (up,lo+BitVec.ofNat 32 i)).2.toNat
def Ev (K:Nat->Wd) (up lo:Wd) (j:Nat):UInt8:=UInt8.ofNat (Km K up lo (j / 8) / 256 ^ (j % 8))
def strm (K:Nat->Wd) (up lo:Wd) (n:Nat):List UInt8:=(List.range n).map (Ev K up lo)
theorem Oj (K:Nat->Wd) (up lo:Wd) (n:Nat):(strm K up lo n).length=n:=by simp [strm]
theorem Tv (K:Nat->Wd) (up lo:Wd) (n m:Nat) (h:n<=m):(strm K up lo m).take n=strm K up lo n:=by
 simp [strm,List.take_range,<-List.map_take,Nat.min_eq_left h]
theorem rotL3 (v:Wd) (w:World):Calls Tryz.prog 232 #[wv v,.int .i64 3] w fun e w'=>e=.returned (wv (rot v 3))/\w'=w:=by
 have hand:bits .and .u64 3 31=3:=by kernel_rfl
 have D:=or3 v;go_enter Tryz.func232,Tryz.ntmps232
 go_wp2
 go_ret;exact⟨rfl,rfl⟩
theorem rotR8 (v:Wd) (w:World):Calls Tryz.prog 232 #[wv v,.int .i64 (-8)] w fun e w'=>e=.returned (wv (rot v 24))/\w'=w:=by
 have D:IntKind.u64.wrap (-8)=18446744073709551608:=by kernel_rfl
 have hand:bits .and .u64 18446744073709551608 31=24:=by kernel_rfl
 have E:=or24 v;go_enter Tryz.func232,Tryz.ntmps232
 go_wp2
 go_ret;exact⟨rfl,rfl⟩
theorem bV (v:Wd) (w:World):Calls Tryz.prog 215 #[wv v,.int .i64 3] w fun e w'=>e=.returned (wv (rot v 3))/\w'=w:=by
 go_enter Tryz.func215,Tryz.ntmps215
 go_wp2_with (go_at_call 232;refine(rotL3 _ _).mono ?_;rintro e w' ⟨rfl,rfl⟩)
 go_ret;exact⟨rfl,rfl⟩
theorem Yg (v:Wd) (w:World):Calls Tryz.prog 214 #[wv v,.int .i64 8] w fun e w'=>e=.returned (wv (rot v 24))/\w'=w:=by
 go_enter Tryz.func214,Tryz.ntmps214
 go_wp2_with (go_at_call 232;refine(rotR8 _ _).mono ?_;rintro e w' ⟨rfl,rfl⟩)
 go_ret;exact⟨rfl,rfl⟩
theorem Yh (v:Wd) (w:World):Calls Tryz.prog 126 #[wv v,.int .u64 3] w fun e w'=>e=.returned (wv (rot v 3))/\w'=w:=by
 have D:=or3 v;go_enter Tryz.func126,Tryz.ntmps126
 go_wp2
 go_ret;exact⟨rfl,rfl⟩
theorem Tw (v:Wd) (w:World):Calls Tryz.prog 125 #[wv v,.int .u64 8] w fun e w'=>e=.returned (wv (rot v 24))/\w'=w:=by
 have D:=ro24 v;go_enter Tryz.func125,Tryz.ntmps125
 go_wp2
 go_ret;exact⟨rfl,rfl⟩
def Cp (ks:Nat->UInt8) (d s m:Int) (W:Nat->Wd):Array Value:=
 ((List.range 16).map (fun i=>bv (ks i))++(([.int .u32 d,.int .i32 s,.int .u32 0,.int .u32 m]:List Value)++(List.range 27).map (fun j=>wv (W j)))).toArray
def KB (w:World) (b:Nat) (ks:Nat->UInt8) (d s m:Int) (W:Nat->Wd):Prop:=Blk w b 298 (Cp ks d s m W)
theorem QR (ks:Nat->UInt8) (d s m:Int) (W:Nat->Wd) (i:Nat) (h:i<16):(Cp ks d s m W)[i]? = some (bv (ks i)):=by
 rw[Cp,List.getElem?_toArray,List.getElem?_append_left (by simpa using h)];simp [h]
theorem Hz (ks:Nat->UInt8) (d s m:Int) (W:Nat->Wd) (i:Nat) (h:i<4):(Cp ks d s m W)[16+i]? = ([.int .u32 d,.int .i32 s,.int .u32 0,.int .u32 m]:List Value)[i]?:=by
 rw[Cp,List.getElem?_toArray,List.getElem?_append_right (by simp),List.getElem?_append_left (by simpa using h)];simp
theorem Ok (ks:Nat->UInt8) (d s m:Int) (W:Nat->Wd) (i:Nat) (h:i<27):(Cp ks d s m W)[20+i]? = some (wv (W i)):=by
 rw[Cp,List.getElem?_toArray,List.getElem?_append_right (by simp;omega),List.getElem?_append_right (by simp;omega)];have:20+i - (List.map (fun i=>bv (ks i)) (List.range 16)).length - ([.int .u32 d,.int .i32 s,.int .u32 0,.int .u32 m]:List Value).length=i:=by simp;omega
 rw[this];simp [h]
theorem MI (ks:Nat->UInt8) (d s m D:Int) (W:Nat->Wd):(Cp ks d s m W).setIfInBounds 16 (.int .u32 D)=Cp ks D s m W:=by
 simp [Cp]
theorem MJ (ks:Nat->UInt8) (d s m s':Int) (W:Nat->Wd):(Cp ks d s m W).setIfInBounds 17 (.int .i32 s')=Cp ks d s' m W:=by
 simp [Cp]
theorem ML (ks:Nat->UInt8) (d s m D:Int) (W:Nat->Wd):(Cp ks d s m W).setIfInBounds 19 (.int .u32 D)=Cp ks d s D W:=by
 simp [Cp]
def upd (W:Nat->Wd) (i:Nat) (v:Wd) (j:Nat):Wd:=if j=i then v else W j
theorem JG (ks:Nat->UInt8) (d s m:Int) (W:Nat->Wd) (i:Nat) (v:Wd):(Cp ks d s m W).setIfInBounds (20+i) (wv v)=Cp ks d s m (upd W i v):=by
 have e:((List.range 27).map fun j=>wv (W j)).set i (wv v)=(List.range 27).map fun j=>wv (upd W i v j):=by
  apply List.ext_getElem?;intro j;rw[List.getElem?_set,List.getElem?_map,List.getElem?_map]
  by_cases hj:i=j
  ·subst hj
   by_cases h27:i<27
   ·simp [h27,upd]
   ·simp [h27]
  ·have D:¬j=i:=fun h=>hj h.symm
   rw[if_neg hj];rcases Nat.lt_or_ge j 27 with h | h
   ·simp [h,upd,D]
   ·rw[List.getElem?_eq_none (by simpa using h)];rfl
 unfold Cp;rw[List.setIfInBounds_toArray,List.set_append_right _ _ (by simp;omega),List.set_append_right _ _ (by simp;omega)];have:20+i - (List.map (fun i=>bv (ks i)) (List.range 16)).length - ([.int .u32 d,.int .i32 s,.int .u32 0,.int .u32 m]:List Value).length=i:=by simp;omega
 rw[this,e]
section
variable {w w':World} {b:Nat} {ks:Nat->UInt8} {d s m:Int} {W:Nat->Wd}
theorem KB.cell (h:KB w b ks d s m W) (i:Nat):w.cell? ⟨b,i,none⟩=(Cp ks d s m W)[i]?:=Blk.cell h i
theorem KB.cd (h:KB w b ks d s m W):w.cell? ⟨b,16,none⟩=some (.int .u32 d):=(h.cell 16).trans (Hz ks d s m W 0 (by decide))
theorem KB.cs (h:KB w b ks d s m W):w.cell? ⟨b,17,none⟩=some (.int .i32 s):=(h.cell 17).trans (Hz ks d s m W 1 (by decide))
theorem KB.cm (h:KB w b ks d s m W):w.cell? ⟨b,19,none⟩=some (.int .u32 m):=(h.cell 19).trans (Hz ks d s m W 3 (by decide))
theorem KB.cw (h:KB w b ks d s m W) (i:Nat) (hi:i<27):w.cell? ⟨b,20+i,none⟩=some (wv (W i)):=(h.cell _).trans (Ok ks d s m W i hi)
theorem KB.ck (h:KB w b ks d s m W) (i:Nat) (hi:i<16):w.cell? ⟨b,i,none⟩=some (bv (ks i)):=(h.cell _).trans (QR ks d s m W i hi)
theorem KB.fz (h:KB w b ks d s m W) (i:Nat):w.frozen? ⟨b,i,none⟩=false:=Blk.frozen h i
theorem KB.set_d (h:KB w b ks d s m W) (D:Int):KB (w.setCell ⟨b,16,none⟩ (.int .u32 D)) b ks D s m W:=by
 have:=Blk.set h 16 (.int .u32 D);rwa [MI] at this
theorem KB.set_s (h:KB w b ks d s m W) (s':Int):KB (w.setCell ⟨b,17,none⟩ (.int .i32 s')) b ks d s' m W:=by
 have:=Blk.set h 17 (.int .i32 s');rwa [MJ] at this
theorem KB.set_m (h:KB w b ks d s m W) (D:Int):KB (w.setCell ⟨b,19,none⟩ (.int .u32 D)) b ks d s D W:=by
 have:=Blk.set h 19 (.int .u32 D);rwa [ML] at this
theorem KB.set_word (h:KB w b ks d s m W) (i:Nat) (v:Wd):KB (w.setCell ⟨b,20+i,none⟩ (wv v)) b ks d s m (upd W i v):=by
 have:=Blk.set h (20+i) (wv v);rwa [JG] at this
theorem KB.lt (h:KB w b ks d s m W):b<w.heap.size:=Blk.lt h
theorem KB.drewN (h:KB w b ks d s m W) (n:Nat):KB (w.drewN n) b ks d s m W:=h
theorem KB.drew (h:KB w b ks d s m W):KB w.drew b ks d s m W:=h
theorem KB.grown {row:Option Nat} (h:KB w b ks d s m W) (D:w.grownBy w' row) (E:row≠some b):KB w' b ks d s m W:=Blk.grown h D E
end
theorem disable (w:World):(callFunc 250 #[]).run Tryz.prog w=.ok (.value (.tuple #[])) w:=run_call_mark0 Tryz.func250 (by kernel_rfl) (by kernel_rfl) (by kernel_rfl) .disable (by kernel_rfl) w
theorem enable (w:World):(callFunc 252 #[]).run Tryz.prog w=.ok (.value (.tuple #[])) w:=run_call_mark0 Tryz.func252 (by kernel_rfl) (by kernel_rfl) (by kernel_rfl) .enable (by kernel_rfl) w
theorem acquire (a:Addr) (w:World):(callFunc 253 #[.pointer (some a)]).run Tryz.prog w=.ok (.value (.tuple #[])) w:=run_call_marked Tryz.func253 (by kernel_rfl) (by kernel_rfl) (by kernel_rfl) .acquire (by kernel_rfl) a w
theorem releaseMerge (a:Addr) (w:World):(callFunc 255 #[.pointer (some a)]).run Tryz.prog w=.ok (.value (.tuple #[])) w:=run_call_marked Tryz.func255 (by kernel_rfl) (by kernel_rfl) (by kernel_rfl) .releaseMerge (by kernel_rfl) a w
theorem QT (a:Addr) (x:Value) (w:World) (J:w.cell? a=some x) (M:w.frozen? a=false) :
  Calls Tryz.prog 230 #[.pointer (some a),.bool true] w fun e w'=>e=.returned (.tuple #[])/\w'=w.drew.setCell a (.int .u32 1):=by
 have E:w.drew.cell? a=some x:=by go_simp
 have D:w.drew.frozen? a=false:=by go_simp
 have F:=run_call_store (P:=Tryz.prog) Tryz.func245 (by kernel_rfl) (by kernel_rfl) (by kernel_rfl) (by kernel_rfl) (k:=.u32) (y:=1) E D;go_enter Tryz.func230,Tryz.ntmps230
 go_wp2
 go_region_calls
 all_goals (go_end0;exact⟨rfl,rfl⟩)
theorem Gl (a:Addr) (x:Value) (u:FrameMode) (w:World) (M:w.cell? a=some x) (N:w.frozen? a=false) :
  CallsD Tryz.prog 230 #[.pointer (some a),.bool true] u w fun e F w'=>F=u/\(e=.returned (.tuple #[])/\w'=w.drew.setCell a (.int .u32 1)):=by
 have E:w.drew.cell? a=some x:=by go_simp
 have D:w.drew.frozen? a=false:=by go_simp
 have J:=run_call_store (P:=Tryz.prog) Tryz.func245 (by kernel_rfl) (by kernel_rfl) (by kernel_rfl) (by kernel_rfl) (k:=.u32) (y:=1) E D
 go_enter_d Tryz.func230,Tryz.ntmps230
 go_wp2
 go_region_calls
 all_goals (go_end0;exact⟨rfl,rfl⟩)
theorem Ef (a:Addr) (d:Int) (w:World) (D:w.cell? a=some (.int .u32 d)) (x:Bool) (E:(d != 0)=x) :
  Calls Tryz.prog 210 #[.pointer (some a)] w fun e w'=>e=.returned (.bool x)/\w'=w:=by
 have F:=run_call_load (P:=Tryz.prog) Tryz.func227 (by kernel_rfl) (by kernel_rfl) (by kernel_rfl) .u32 (by kernel_rfl) D;go_enter Tryz.func210,Tryz.ntmps210
 go_wp2
 go_ret;exact⟨rfl,rfl⟩
theorem Fv (a:Addr) (u:FrameMode) (w:World) (D:w.cell? a=some (.int .i32 1)) (M:w.frozen? a=false) :
  CallsD Tryz.prog 229 #[.pointer (some a)] u w fun e J w'=>J=u/\(e=.returned (.tuple #[])/\w'=w.setCell a (.int .i32 0)):=by
 have O:=disable;have he:=enable;have N:=releaseMerge;have E:=run_call_add (P:=Tryz.prog) Tryz.func256 (by kernel_rfl) (by kernel_rfl) (by kernel_rfl) .i32 (by kernel_rfl) (y:=-1) (s:=0) D M (by simp [go_sem];rfl);have F:=run_convert_to_unsafe (P:=Tryz.prog) (src:=325) (dst:=329) Tryz.underlying325 Tryz.underlying329 (by kernel_rfl) D
 go_enter_d Tryz.func229,Tryz.ntmps229
 go_wp2
 go_end0
 go_wp2
 go_end0
 exact⟨rfl,rfl⟩
theorem MM (a:Addr) (w:World) (E:w.cell? a=some (.int .i32 0)) (J:w.frozen? a=false) :
  Calls Tryz.prog 228 #[.pointer (some a)] w fun e w'=>e=.returned (.tuple #[])/\w'=w.setCell a (.int .i32 1):=by
 have O:=disable;have he:=enable;have N:=acquire;have F:=run_call_cas_hit (P:=Tryz.prog) Tryz.func251 (by kernel_rfl) (by kernel_rfl) (by kernel_rfl) .i32 (by kernel_rfl) (y:=1) E J;have D:(w.setCell a (.int .i32 1)).cell? a=some (.int .i32 1):=World.cell?_setCell_same w a _ E;have M:=run_convert_to_unsafe (P:=Tryz.prog) (src:=325) (dst:=329) Tryz.underlying325 Tryz.underlying329 (by kernel_rfl) D;go_enter Tryz.func228,Tryz.ntmps228
 go_wp2
 first | go_end0 | (simp only[Exit.inBlock,Exit.then];refine bodyPost_ret (results_none rfl _ _ _) rfl ?_) | refine bodyPost_ret (results_none rfl _ _ _) rfl ?_
 go_wp2
 go_end0
 exact⟨rfl,rfl⟩
def AW (w w':World):Prop:=∃n,w'=w.drewN n
theorem Dv (b o:Nat) (n c:Nat) (D b1 b2 b3:UInt8) (w:World) (E:4<=n)
  (Z:w.cell? ⟨b,o,none⟩=some (bv D)) (J:w.cell? ⟨b,o+1,none⟩=some (bv b1)) (O:w.cell? ⟨b,o+2,none⟩=some (bv b2)) (M:w.cell? ⟨b,o+3,none⟩=some (bv b3)) :
  Calls Tryz.prog 231 #[.slice (some ⟨b,o,none⟩) n c] w fun e w'=>e=.returned (wv (le4 D b1 b2 b3))/\w'=w.drew:=by
 have k0:(0:Int)<n:=by omega
 have k1:(1:Int)<n:=by omega
 have k2:(2:Int)<n:=by omega
 have k3:(3:Int)<n:=by omega
 have k4:0<n:=by omega
 have k5:1<n:=by omega
 have k6:2<n:=by omega
 have k7:3<n:=by omega
 have F:=I E;clear E;simp only[bv] at Z J O M;have hle:=bT D b1 b2 b3;have N:=IntKind.wrap_u32;have m0:(D.toNat:Int) % 4294967296=D.toNat:=by have:=Fg D;omega
 have m1:(b1.toNat:Int) % 4294967296=b1.toNat:=by have:=Fg b1;omega
 have m2:(b2.toNat:Int) % 4294967296=b2.toNat:=by have:=Fg b2;omega
 have m3:(b3.toNat:Int) % 4294967296=b3.toNat:=by have:=Fg b3;omega
 go_enter Tryz.func231,Tryz.ntmps231
 go_wp2_with fail
 go_region_held3 (fun w'=>w'.cell? ⟨b,o,none⟩=some (.int .u8 D.toNat)/\w'.cell? ⟨b,o+1,none⟩=some (.int .u8 b1.toNat)/\w'.cell? ⟨b,o+2,none⟩=some (.int .u8 b2.toNat)/\w'.cell? ⟨b,o+3,none⟩=some (.int .u8 b3.toNat)) (go_keep) (fail)
 all_goals (go_wp2;go_ret;exact⟨rfl,rfl⟩)
def Bs (ks:Nat->UInt8) (i j:Nat):Wd:=if j<=i then kw ks j else 0
theorem PF {w:World} {b:Nat} {ks:Nat->UInt8} {d s m:Int} {W:Nat->Wd} (D:KB w b ks d s m W) (i n c:Nat) (hi:i<4) (E:4<=n) :
  Calls Tryz.prog 231 #[.slice (some ⟨b,4*i,none⟩) n c] w fun e w'=>e=.returned (wv (Ff ks i))/\w'=w.drew:=
 Dv b (4*i) n c _ _ _ _ w E (D.ck _ (by omega)) (D.ck _ (by omega)) (D.ck _ (by omega)) (D.ck _ (by omega))
theorem ZH {w:World} {b:Nat} {ks:Nat->UInt8} {d s m:Int} {W:Nat->Wd} (D:KB w b ks d s m W) :
  Calls Tryz.prog 231 #[.slice (some ⟨b,0,none⟩) 16 16] w fun e w'=>e=.returned (wv (Ff ks 0))/\w'=w.drew:=
 PF D 0 16 16 (by decide) (by decide)
theorem ZI {w:World} {b:Nat} {ks:Nat->UInt8} {d s m:Int} {W:Nat->Wd} (D:KB w b ks d s m W) :
  Calls Tryz.prog 231 #[.slice (some ⟨b,4,none⟩) 12 12] w fun e w'=>e=.returned (wv (Ff ks 1))/\w'=w.drew:=
 PF D 1 12 12 (by decide) (by decide)
theorem ZJ {w:World} {b:Nat} {ks:Nat->UInt8} {d s m:Int} {W:Nat->Wd} (D:KB w b ks d s m W) :
  Calls Tryz.prog 231 #[.slice (some ⟨b,8,none⟩) 8 8] w fun e w'=>e=.returned (wv (Ff ks 2))/\w'=w.drew:=
 PF D 2 8 8 (by decide) (by decide)
theorem ZK {w:World} {b:Nat} {ks:Nat->UInt8} {d s m:Int} {W:Nat->Wd} (D:KB w b ks d s m W) :
  Calls Tryz.prog 231 #[.slice (some ⟨b,12,none⟩) 4 4] w fun e w'=>e=.returned (wv (Ff ks 3))/\w'=w.drew:=
 PF D 3 4 4 (by decide) (by decide)
theorem KB.heap {w w':World} {b:Nat} {ks:Nat->UInt8} {d s m:Int} {W:Nat->Wd} (h:KB w b ks d s m W) (e:w'.heap=w.heap):KB w' b ks d s m W:=by
 unfold KB Blk at *;rw[e];exact h
theorem KB.push {w w':World} {b:Nat} {ks:Nat->UInt8} {d s m:Int} {W:Nat->Wd} {o:Obj} (h:KB w b ks d s m W) (e:w'.heap=w.heap.push o):KB w' b ks d s m W:=by
 have D:=h.lt;unfold KB Blk at *;rw[e,Array.getElem?_push_lt D,<-Array.getElem?_eq_getElem D];exact h
def lc (ks:Nat->UInt8) (i j:Nat):Wd:=lw ks (i+(j+2*i) % 3)
def MN (ks:Nat->UInt8) (i:Nat):Array Value:=#[wv (lc ks i 0),wv (lc ks i 1),wv (lc ks i 2)]
theorem Tx (ks:Nat->UInt8) (i:Nat):(MN ks i)[i % 3]? = some (wv (lw ks i)):=by
 have h:i % 3=0\/i % 3=1\/i % 3=2:=by omega
 rcases h with h | h | h<;>rw[h]
 ·show some (wv (lc ks i 0))=_
  rw[lc,show i+(0+2*i) % 3=i by omega]
 ·show some (wv (lc ks i 1))=_
  rw[lc,show i+(1+2*i) % 3=i by omega]
 ·show some (wv (lc ks i 2))=_
  rw[lc,show i+(2+2*i) % 3=i by omega]
theorem QU (ks:Nat->UInt8) (i:Nat):(MN ks i).setIfInBounds (i % 3) (wv (lw ks (i+3)))=MN ks (i+1):=by
 have h:i % 3=0\/i % 3=1\/i % 3=2:=by omega
 rcases h with h | h | h<;>rw[h]
 ·show #[wv (lw ks (i+3)),wv (lc ks i 1),wv (lc ks i 2)]=#[wv (lc ks (i+1) 0),wv (lc ks (i+1) 1),wv (lc ks (i+1) 2)]
  unfold lc;rw[show i+1+(0+2*(i+1)) % 3=i+3 by omega,show i+1+(1+2*(i+1)) % 3=i+(1+2*i) % 3 by omega,show i+1+(2+2*(i+1)) % 3=i+(2+2*i) % 3 by omega]
 ·show #[wv (lc ks i 0),wv (lw ks (i+3)),wv (lc ks i 2)]=#[wv (lc ks (i+1) 0),wv (lc ks (i+1) 1),wv (lc ks (i+1) 2)]
  unfold lc;rw[show i+1+(0+2*(i+1)) % 3=i+(0+2*i) % 3 by omega,show i+1+(1+2*(i+1)) % 3=i+3 by omega,show i+1+(2+2*(i+1)) % 3=i+(2+2*i) % 3 by omega]
 ·show #[wv (lc ks i 0),wv (lc ks i 1),wv (lw ks (i+3))]=#[wv (lc ks (i+1) 0),wv (lc ks (i+1) 1),wv (lc ks (i+1) 2)]
  unfold lc;rw[show i+1+(0+2*(i+1)) % 3=i+(0+2*i) % 3 by omega,show i+1+(1+2*(i+1)) % 3=i+(1+2*i) % 3 by omega,show i+1+(2+2*(i+1)) % 3=i+3 by omega]
theorem JH (ks:Nat->UInt8) (i:Nat):upd (Bs ks i) (i+1) (kw ks (i+1))=Bs ks (i+1):=by
 funext j
 unfold upd Bs
 by_cases h:j=i+1
 ·subst h;simp
 ·by_cases h2:j<=i
  ·rw[if_neg h,if_pos h2,if_pos (by omega)]
  ·rw[if_neg h,if_neg h2,if_neg (by omega)]
theorem Iy (ks:Nat->UInt8):upd (fun _=>0) 0 (kw ks 0)=Bs ks 0:=by
 funext j
 unfold upd Bs
 by_cases h:j=0
 ·subst h;simp
 ·rw[if_neg h,if_neg (by omega)]
theorem Blk.far {w:World} {g:Nat} {t:TypeId} {cs:Array Value} (h:Blk w g t cs) (p:Addr) (u:Value) (hp:p.block≠g):Blk (w.setCell p u) g t cs:=
 (Below.heap_setCell w p u g (fun e=>hp e.symm)).trans h
theorem QV (b:Nat) (ks:Nat->UInt8) (w:World) (hK:KB w b ks 0 1 0 (fun _=>0)) :
  Calls Tryz.prog 213 #[.pointer (some ⟨b,0,none⟩)] w fun e w'=>e=.returned (.tuple #[])/\KB w' b ks 0 1 1 (Bs ks 26)/\w.grownBy w' (some b):=by
 have cp:=hK.cw 0 (by decide);have cr:=ZH (w:=w.drew) hK.drew;have cc:=hK.fz 20;go_enter Tryz.func213,Tryz.ntmps213
 go_upto_region 0 with fail
 go_cut [] from 5 to 13 (fun wx=>KB wx b ks 0 1 0 (Bs ks 0)/\w.grownBy wx (some b))
 case first=>
  go_region_held3 (fun w'=>True) (trivial) (first | (go_at_call 231;refine Aj cr ?_;rintro w' rfl))
  all_goals go_wp2_with fail
  all_goals go_meet
  all_goals
   have h1:=KB.set_word hK 0 (kw ks 0);rw[Iy] at h1;exact⟨h1,AZ (AZ (AU (World.grownBy.refl _ _) (.inl rfl) _))⟩
 case rest=>
  obtain⟨D,M⟩:=hcut;have cn:∀w':World,KB w' b ks 0 1 0 (Bs ks 0)->_:=fun w' h=>ZI h
  have cg:∀w':World,KB w' b ks 0 1 0 (Bs ks 0)->_:=fun w' h=>ZJ h
  have bx:∀w':World,KB w' b ks 0 1 0 (Bs ks 0)->_:=fun w' h=>ZK h
  go_upto_region 1 with fail
  go_cut [2] from 14 to 29 (fun p wx=>∃L,p=.pointer (some ⟨L,0,none⟩)/\w.heap.size<=L/\Blk wx L 313 (MN ks 0)/\KB wx b ks 0 1 0 (Bs ks 0)/\w.grownBy wx (some b))
  case first=>
   go_region_held3 (fun w'=>True) (trivial) (first | (go_at_call_of 231 (Value.slice (some (Addr.mk b 4 none)) 12 12);refine Aj (cn _ (by first | exact KB.heap D rfl | exact KB.push D rfl)) ?_;rintro w' rfl) | (go_at_call_of 231 (Value.slice (some (Addr.mk b 8 none)) 8 8);refine Aj (cg _ (by first | exact KB.heap D rfl | exact KB.push D rfl)) ?_;rintro w' rfl) | (go_at_call_of 231 (Value.slice (some (Addr.mk b 12 none)) 4 4);refine Aj (bx _ (by first | exact KB.heap D rfl | exact KB.push D rfl)) ?_;rintro w' rfl))
   all_goals go_wp2_with fail
   all_goals go_meet
   all_goals exact⟨_,rfl,M.size,Blk.new wc _ _,Blk.alloc D _,AZ (AZ (AZ (AZ (Jl M _))))⟩
  case rest=>
   obtain⟨L,rfl,hL,cu,ct,bB⟩:=hcut;have bz:L≠b:=by have:=hK.lt;omega
   have cL:=Gf;have eb:=BB;have cQ:=I hL;clear hL;have ed:=I cu;clear cu;have cR:=I ct;clear ct;have cB:=I bB;clear bB;have H1:=I D;clear D;have H0:=I hK;clear hK;have G1:=I M;clear M;clear cr cn cg bx cp cc
   go_wp2_with fail
   go_loopw [30] (fun iv wr=>∃i:Nat,i<=26/\iv=.int .i64 (i:Int)/\Blk wr L 313 (MN ks i)/\KB wr b ks 0 1 0 (Bs ks i)/\w.grownBy wr (some b)) (fun iv _=>26 - (intOf iv).toNat)
   case atStart=>exact⟨0,by decide,rfl,ed.o,cR.o,cB.o⟩
   case round=>
    obtain⟨i,hi,rfl,F,E,N⟩:=hrel
    by_cases h26:i=26
    ·subst h26
     have J:=I E;clear E;have O:=I N;clear N;have cq:=I F;clear F
     go_wp2_with (go_at_call 230;refine Aj (QT _ _ _ (KB.cm J.o) (KB.fz J.o 19)) ?_;rintro w' rfl)
     go_end0
     have e1:=KB.set_m (KB.drew J.o) 1;exact⟨rfl,e1,AU (AZ O.o) (.inl rfl) _⟩
    ·have cw:i<26:=by omega
     have cP:(0:Int)<=(i:Int):=by omega
     have ej:(i:Int)<27:=by omega
     have ef:i<27:=by omega
     have eK:(i:Int)+1<27:=by omega
     have cy:i+1<27:=by omega
     have eH:(i:Int)<26:=by omega
     obtain⟨r,hr⟩:=Ak (i % 3);have ei:(i:Int).tmod 3=(r:Int):=by rw[Int.tmod_eq_emod_of_nonneg cP];omega
     have ez:(r:Int)<3:=by omega
     have eD:r<3:=by omega
     obtain⟨Z,ek⟩:=Ak (kw ks i);obtain⟨a0,ea⟩:=Ak (lw ks i);obtain⟨v,ev⟩:=Ak (lw ks (i+3));obtain⟨u,eu⟩:=Ak (kw ks (i+1));have ck:wr.cell? ⟨b,20+i,none⟩=some (wv Z):=by
      have:=E.cw i ef;rw[Bs,if_pos Ag,<-ek] at this;exact this
     have ca:wr.cell? ⟨L,r,none⟩=some (wv a0):=by rw[F.cell,hr,Tx,ea]
     have fb:=E.fz;have fL:=F.frozen;obtain⟨ci,ec⟩:=Ak (BitVec.ofNat 32 i);obtain⟨ra,era⟩:=Ak (rot a0 24);obtain⟨rk,aw⟩:=Ak (rot Z 3);obtain⟨sm,es⟩:=Ak (Z+ra);have cA:IntKind.u32.wrap (i:Int)=(ci.toNat:Int):=by rw[ec];exact PE i
     have eB:(i:Int) % 4294967296=(ci.toNat:Int):=by rw[<-IntKind.wrap_u32];exact cA
     have eg:((Z.toNat:Int)+(ra.toNat:Int)) % 4294967296=(sm.toNat:Int):=by rw[es];exact Gf _ _
     have eJ:IntKind.u32.wrap ((Z.toNat:Int)+(ra.toNat:Int))=(sm.toNat:Int):=by rw[IntKind.wrap_u32];exact eg
     have ew:bits .xor .u32 (sm.toNat:Int) (ci.toNat:Int)=(v.toNat:Int):=by rw[BB,ev,lw_3,es,era,ek,ea,ec]
     have eL:bits .xor .u32 (rk.toNat:Int) (v.toNat:Int)=(u.toNat:Int):=by rw[BB,ev,eu,Tu,aw,ek]
     have cd:=Yg a0;rw[<-era] at cd;have cj:=bV Z;rw[<-aw] at cj;have eo:(wr.setCell ⟨L,r,none⟩ (wv v)).cell? ⟨b,20+i,none⟩=some (wv Z):=(World.cell?_setCell_other _ ⟨L,r,none⟩ ⟨b,20+i,none⟩ _ (by simp)).trans ck;have ep:(wr.setCell ⟨L,r,none⟩ (wv v)).cell? ⟨L,r,none⟩=some (wv v):=World.cell?_setCell_same _ _ _ ca;have et:∀j,(wr.setCell ⟨L,r,none⟩ (wv v)).frozen? ⟨b,j,none⟩=false:=fun j=>by simp [fb j]
     have cb:∃y,(wr.setCell ⟨L,r,none⟩ (wv v)).cell? ⟨b,20+(i+1),none⟩=some y:=⟨_,(World.cell?_setCell_other _ ⟨L,r,none⟩ ⟨b,20+(i+1),none⟩ _ (by simp)).trans (E.cw (i+1) cy)⟩;obtain⟨y,cb⟩:=cb;have hh:=I cw;clear cw;have er:=I h26;clear h26;have eM:=I hi;clear hi;have eF:=I ek;clear ek;have ey:=I ea;clear ea;have cm:=I ev;clear ev;have cx:=I eu;clear eu;have cf:=I hr;clear hr;clear ec era aw es;have J:=I E;clear E;have O:=I N;clear N;have cq:=I F;clear F;clear cL eb
     go_wp2_with fail
     refine wp_region_still_tail 15 (by kernel_rfl) (by kernel_rfl) ?_;simp only[List.take_succ_cons,List.take_zero,List.drop_succ_cons,List.drop_zero];change wpStill _ _ wr.drew _ _ _
     repeat still_step
     still_call (cd wr.drew)
     repeat still_step
     refine wpStill_nil ?_;change wpList _ _ _ _ _ wr.drew
     go_wp2_with fail
     refine wp_region_still_tail 16 (by kernel_rfl) (by kernel_rfl) ?_;simp only[List.take_succ_cons,List.take_zero,List.drop_succ_cons,List.drop_zero];change wpStill _ _ (wr.setCell ⟨L,r,none⟩ (.int .u32 v.toNat)).drew.drew _ _ _;clear ck ca fb
     repeat still_step
     still_call (cj _)
     repeat still_step
     refine wpStill_nil ?_;change wpList _ _ _ _ _ (wr.setCell ⟨L,r,none⟩ (.int .u32 v.toNat)).drew.drew
     go_wp2_with fail
     go_roundw
     case rel=>
      refine⟨i+1,by have:=hh.o;omega,by go_num,?_,?_,?_⟩
      ·have e1:=cq.o.set r (wv v)
       rw[cf.o,cm.o,QU] at e1;have e2:=Blk.far e1 ⟨b,20+(i+1),none⟩ (wv u) (by simpa using Ne.symm bz);rw[<-cf.o,<-cm.o] at e2;exact e2
      ·have e1:KB (wr.setCell ⟨L,r,none⟩ (wv v)) b ks 0 1 0 (Bs ks i):=Blk.far J.o ⟨L,r,none⟩ (wv v) (by simpa using bz)
       have e2:=KB.set_word e1 (i+1) u;rw[cx.o,JH,<-cx.o] at e2;exact e2
      ·exact AZ (AZ (AU (AU O.o (.inr cQ.o) _) (.inl rfl) _))
     case measure=>have:=hh.o;simp [intOf];omega
abbrev Ia:Nat->Wd:=fun _=>0
def Key (w:World) (b:Nat) (ks:Nat->UInt8):Bool->Prop
 |false=>KB w b ks 0 0 0 Ia
 |true=>KB w b ks 1 0 1 (Bs ks 26)
theorem Ew {a w c:World} {row:Option Nat} (h:a.grownBy w row) (k:w.grownBy c row):a.grownBy c row:=
 ⟨k.os.trans h.os,k.tape.trans h.tape,k.output.trans h.output,Nat.le_trans h.size k.size,fun i hi D=>(k.block i (Nat.lt_of_lt_of_le hi h.size) D).trans (h.block i hi D)⟩
theorem slow (b:Nat) (ks:Nat->UInt8) (w:World) (J:KB w b ks 0 0 0 Ia) :
  Calls Tryz.prog 211 #[.pointer (some ⟨b,16,none⟩),.func (.func 213) #[.pointer (some ⟨b,0,none⟩)] #[]] w fun e w'=>e=.returned (.tuple #[])/\KB w' b ks 1 0 1 (Bs ks 26)/\w.grownBy w' (some b):=by
 have D:KB (w.setCell ⟨b,17,none⟩ (.int .i32 1)) b ks 0 1 0 Ia:=J.set_s 1;have g1:w.grownBy (w.setCell ⟨b,17,none⟩ (.int .i32 1)) (some b):=AU (World.grownBy.refl _ _) (.inl rfl) _;have cl:=MM ⟨b,17,none⟩ w J.cs (J.fz 17);have cd:=Ef ⟨b,16,none⟩ 0 _ D.cd false rfl;have cm:=QV b ks _ D;have bx:∀(x:Bool) (w:World),(Op.unary .not (.bool x)).run Tryz.prog w=.ok (.bool (!x)) w:=fun _ _=>rfl
 have H:=I J;clear J;have H1:=I D;clear D;have G1:=I g1;clear g1
 go_enter_defers Tryz.func211,Tryz.ntmps211
 go_wp2_with (first | (go_at_call 228;refine Aj cl ?_;rintro w' rfl) | (go_at_call 210;refine Aj cd ?_;rintro w' rfl) | (go_at_call 213;refine Aj cm ?_;rintro w2 ⟨F,N⟩))
 refine leaves_cons (f:=230) (args:=#[.pointer (some ⟨b,16,none⟩),.bool true]) (by simp) (by simp [go_sem]) ?_;refine(Gl ⟨b,16,none⟩ _ .returning w2 F.cd (F.fz 16)).mono ?_;rintro e u' O ⟨rfl,rfl,rfl⟩;have E:=KB.set_d F.drew 1;refine leaves_cons (f:=229) (args:=#[.pointer (some ⟨b,17,none⟩)]) (by simp [settle]) (by simp [go_sem]) ?_;refine(Fv ⟨b,17,none⟩ _ _ E.cs (E.fz 17)).mono ?_;rintro e u' O ⟨rfl,rfl,rfl⟩;have Z:=KB.set_s E 0;have aw:=AU (row:=some b) (AU (row:=some b) (AZ (World.grownBy.refl w2 (some b))) (p:=⟨b,16,none⟩) (.inl rfl) (.int .u32 1)) (p:=⟨b,17,none⟩) (.inl rfl) (.int .i32 0);have M:=Ew (Ew G1.o N) aw;simp [Leaves,settle,results,Tryz.results211];exact⟨Z,M⟩
theorem Lv (b:Nat) (ks:Nat->UInt8) (w:World) (D:KB w b ks 0 0 0 Ia) :
  Calls Tryz.prog 184 #[.pointer (some ⟨b,16,none⟩),.func (.func 213) #[.pointer (some ⟨b,0,none⟩)] #[]] w fun e w'=>e=.returned (.tuple #[])/\KB w' b ks 1 0 1 (Bs ks 26)/\w.grownBy w' (some b):=by
 have M:=Ef ⟨b,16,none⟩ 0 w D.cd false rfl;have cs:=slow b ks w D;have J:∀(x:Bool) (w:World),(Op.unary .not (.bool x)).run Tryz.prog w=.ok (.bool (!x)) w:=fun _ _=>rfl
 clear D;go_enter Tryz.func184,Tryz.ntmps184
 go_wp2_with (first | (go_at_call 210;refine Aj M ?_;rintro w' rfl) | (go_at_call 211;refine Aj cs ?_;rintro N ⟨F,E⟩))
 go_end0
 exact⟨rfl,F,E⟩
theorem Ol (b:Nat) (F:Value) (w:World) (E:w.cell? ⟨b,16,none⟩=some (.int .u32 1)) :
  Calls Tryz.prog 184 #[.pointer (some ⟨b,16,none⟩),F] w fun e w'=>e=.returned (.tuple #[])/\w'=w:=by
 have J:=Ef ⟨b,16,none⟩ 1 w E true rfl;have D:∀(x:Bool) (w:World),(Op.unary .not (.bool x)).run Tryz.prog w=.ok (.bool (!x)) w:=fun _ _=>rfl
 clear E;go_enter Tryz.func184,Tryz.ntmps184
 go_wp2_with (first | (go_at_call 210;refine Aj J ?_;rintro w' rfl))
 go_end0
 exact⟨rfl,rfl⟩
theorem GZ (b:Nat) (ks:Nat->UInt8) (m:Bool) (w:World) (D:Key w b ks m) :
  Calls Tryz.prog 186 #[.pointer (some ⟨b,0,none⟩)] w fun e w'=>e=.returned (.tuple #[])/\Key w' b ks true/\w.grownBy w' (some b)/\(m=true->w'=w):=by
 have N:∀(fn:Fn) (first cap:Array Value) (w:World),(Instr.makeFunc fn first cap).run Tryz.prog w=.ok (.func fn first cap) w:=fun _ _ _ _=>rfl
 cases m with
 |false=>
  have E:=Lv b ks w D;clear D;go_enter Tryz.func186,Tryz.ntmps186
  go_wp2_with (first | (go_at_call 184;refine Aj E ?_;rintro w' ⟨J,F⟩))
  go_end0
  exact⟨rfl,J,F,fun h=>by cases h⟩
 |true=>
  have E:=fun M=>Ol b M w (KB.cd D)
  have H:=I D;clear D;go_enter Tryz.func186,Tryz.ntmps186
  go_wp2_with (first | (go_at_call 184;refine Aj (E _) ?_;rintro w' rfl))
  go_end0
  exact⟨rfl,H.o,World.grownBy.refl _ _,fun _=>rfl⟩
theorem Key.word {w:World} {b:Nat} {ks:Nat->UInt8} (h:Key w b ks true) (i:Nat) (hi:i<27):w.cell? ⟨b,20+i,none⟩=some (wv (kw ks i)):=by
 have:=KB.cw h i hi
 rwa [Bs,if_pos (by omega)] at this
theorem Key.grown {w w':World} {b:Nat} {ks:Nat->UInt8} {m:Bool} {row:Option Nat} (h:Key w b ks m) (D:w.grownBy w' row) (E:row≠some b):Key w' b ks m:=by
 cases m with
 |false=>exact KB.grown h D E
 |true=>exact KB.grown h D E
theorem Key.lt {w:World} {b:Nat} {ks:Nat->UInt8} {m:Bool} (h:Key w b ks m):b<w.heap.size:=by
 cases m with
 |false=>exact KB.lt h
 |true=>exact KB.lt h
theorem Key.below {w w':World} {b:Nat} {ks:Nat->UInt8} {m:Bool} (h:Key w b ks m) (D:Below w.heap.size w w'):Key w' b ks m:=
 h.grown (FJ D none) (by simp)
theorem Jb (b:Nat) (ks:Nat->UInt8) (x y:Wd) (w:World) (hK:Key w b ks true) :
  Calls Tryz.prog 187 #[.pointer (some ⟨b,0,none⟩),wv x,wv y] w fun e w'=>e=.returned (.tuple #[wv (Ce (kw ks) (x,y)).1,wv (Ce (kw ks) (x,y)).2])/\w'=w:=by
 have hw:=fun i hi=>Key.word hK i hi
 clear hK;have HW:=I hw;clear hw;go_enter Tryz.func187,Tryz.ntmps187
 go_wp2_with fail
 go_loop [1,2,13] (fun xv yv iv=>∃i:Nat,i<=27/\iv=.int .i64 (i:Int)/\xv=wv (IJ (kw ks) i (x,y)).1/\yv=wv (IJ (kw ks) i (x,y)).2) (fun _ _ iv=>27 - (intOf iv).toNat)
 case atStart=>exact⟨0,by decide,rfl,rfl,rfl⟩
 case round=>
  obtain⟨i,hi,rfl,rfl,rfl⟩:=hrel
  by_cases h27:i=27
  ·subst h27
   go_wp2_with fail
   go_ret2
   exact⟨rfl,rfl⟩
  ·have bz:(0:Int)<=(i:Int):=by omega
   have aw:(i:Int)<27:=by omega
   have Z:i<27:=by omega
   obtain⟨p,ep⟩:=Ak (IJ (kw ks) i (x,y));obtain⟨k0,ek⟩:=Ak (kw ks i);obtain⟨x0,ex⟩:=Ak (p.1);obtain⟨y0,ey⟩:=Ak (p.2);obtain⟨rx,E⟩:=Ak (rot x0 24);obtain⟨ry,F⟩:=Ak (rot y0 3);obtain⟨sm,es⟩:=Ak (rx+y0);obtain⟨x1,D⟩:=Ak (sm ^^^ k0);obtain⟨y1,J⟩:=Ak (ry ^^^ x1);have ck:w.cell? ⟨b,20+i,none⟩=some (wv k0):=by rw[ek];exact HW.o i Z
   have ca:((rx.toNat:Int)+(y0.toNat:Int)) % 4294967296=(sm.toNat:Int):=by rw[es];exact Gf _ _
   have bx:bits .xor .u32 (sm.toNat:Int) (k0.toNat:Int)=(x1.toNat:Int):=by rw[D];exact BB _ _
   have bB:bits .xor .u32 (ry.toNat:Int) (x1.toNat:Int)=(y1.toNat:Int):=by rw[J];exact BB _ _
   have O:=Yg x0;rw[<-E] at O;have M:=bV y0;rw[<-F] at M;have hn:IJ (kw ks) (i+1) (x,y)=(x1,y1):=by rw[IJ,<-ep,step,<-ex,<-ey,<-ek,<-E,<-F,<-es,<-D,<-J]
   rw[<-ep,<-ex,<-ey];have N:=I hn;clear hn;have hh:=I Z;clear ep ek ex ey E F es D J hi h27
   go_wp2_with (first | (go_at_call 214;refine Aj (O _) ?_;rintro w' rfl) | (go_at_call 215;refine Aj (M _) ?_;rintro w' rfl))
   go_round
   case rel=>exact⟨i+1,by have:=hh.o;omega,by go_num,by rw[N.o],by rw[N.o]⟩
   case measure=>have:=hh.o;simp [intOf];omega
theorem Blk.new_of (w:World) (g:Nat) (t:TypeId) (cs D:Array Value) (e:cs=D) (E:w.heap.size=g):Blk (w.alloc (.cells cs t)) g t D:=E▸e▸Blk.new w t cs
theorem Az {B:Nat} {a w:World} (h:Below B a w) {p:Addr} (hp:B<=p.block) (u:Value):Below B a (w.setCell p u):=
 ⟨h.os,h.tape,h.output,by simpa [World.setCell] using h.size,fun i hi=>(Below.heap_setCell w p u i (by omega)).trans (h.block i hi)⟩
theorem AD {P:Program} {fn:Func} {tmps:Array Value} {w:World} {v:Value} (t:Nat) (ty:TypeId) (a:Addr) (D:fn.results=#[.cell t ty]) (J:tmps.getD t undef=.pointer (some a)) (F:(loadVar ty a).run P w=.ok v w) :
  (results fn tmps).run P w=.ok v w:=by
 have E:tmps[t]?.getD undef=.pointer (some a):=by simpa using J
 simp [results,D,E,asAddr,F]
theorem Al {P:Program} {w:World} {g:Nat} {t ty:TypeId} {cs:Array Value} {d:TypeDesc} (h:Blk w g t cs) (hu:P.underlying ty=some d) (E:d.isRow=true) (hi:(P.info? ty).map (·.size)=some cs.size) :
  (loadVar ty ⟨g,0,none⟩).run P w=.ok (.agg cs) w:=by
 have F:w.rangeAt g 0 cs.toList:=fun j v D=>by rw[Nat.zero_add,h.cell];simpa using D
 have:=run_loadVar_mid (P:=P) w g 0 ty cs.toList d F hu E (by simpa using hi)
 simpa using this
def AK (ks:Nat->UInt8):Array Value:=((List.range 16).map (fun i=>bv (ks i))).toArray
theorem Lw (ks:Nat->UInt8) (w:World):Calls Tryz.prog 212 #[.agg (AK ks)] w fun e w'=>∃b,e=.returned (.pointer (some ⟨b,0,none⟩))/\w.heap.size<=b/\Key w' b ks false/\Below w.heap.size w w':=by
 have hk:AK ks=#[bv (ks 0),bv (ks 1),bv (ks 2),bv (ks 3),bv (ks 4),bv (ks 5),bv (ks 6),bv (ks 7),bv (ks 8),bv (ks 9),bv (ks 10),bv (ks 11),bv (ks 12),bv (ks 13),bv (ks 14),bv (ks 15)]:=rfl;rw[hk];simp only[bv];clear hk;go_enter Tryz.func212,Tryz.ntmps212
 go_wp2
 go_ret;exact⟨w.heap.size+1,rfl,Nat.le_succ _,Blk.new_of (w.alloc _) _ 298 _ (Cp ks 0 0 0 Ia) (by kernel_rfl) (by simp),((Below.refl w.heap.size w).alloc Ag _).alloc (by simp) _⟩
def DS (K:Nat->Wd) (up lo:Wd) (n m:Nat):Array Value:=((List.range n).map fun i=>if i<m then bv (Ev K up lo i) else bv 0).toArray
theorem Ty (K:Nat->Wd) (up lo:Wd) (n m i:Nat) (h:i<n):(DS K up lo n m)[i]? = some (if i<m then bv (Ev K up lo i) else bv 0):=by
 rw[DS,List.getElem?_toArray];simp [h]
theorem Om (K:Nat->Wd) (up lo:Wd) (n:Nat):De n=DS K up lo n 0:=by
 unfold De DS
 congr 1
 apply List.ext_getElem?;intro j;rw[List.getElem?_map];rcases Nat.lt_or_ge j n with h | h
 ·simp [h]
 ·rw[List.getElem?_eq_none (by simpa using h),List.getElem?_eq_none (by simpa using h)];rfl
theorem QW (K:Nat->Wd) (up lo:Wd) (n m:Nat) (h:m<n):(DS K up lo n m).setIfInBounds m (bv (Ev K up lo m))=DS K up lo n (m+1):=by
 unfold DS;rw[List.setIfInBounds_toArray]
 congr 1
 apply List.ext_getElem?;intro j;rw[List.getElem?_set,List.getElem?_map,List.getElem?_map]
 by_cases hj:m=j
 ·subst hj;simp [h]
 ·rw[if_neg hj]
  rcases Nat.lt_or_ge j n with D | D
  ·have e:(j<m)=(j<m+1):=propext ⟨by omega,by omega⟩
   simp [D,e]
  ·rw[List.getElem?_eq_none (by simpa using D)];rfl
theorem QX (K:Nat->Wd) (up lo:Wd) (n m:Nat) (h:n<=m):DS K up lo n m=(bvs (strm K up lo n)).toArray:=by
 unfold DS strm bvs;rw[List.map_map]
 congr 1
 apply List.map_congr_left;intro j D;rw[if_pos (by have:=List.mem_range.1 D;omega)];rfl
theorem WE (K:Nat->Wd) (up lo:Wd) (i:Nat):Km K up lo i<18446744073709551616:=by
 have D:=Gu (Ce K (up,lo+BitVec.ofNat 32 i)).1;have E:=Gu (Ce K (up,lo+BitVec.ofNat 32 i)).2;unfold Km;omega
theorem ZL (K:Nat->Wd) (up lo:Wd) (n j g c:Nat) (w:World) (h8:8*j<n) (hn:n<=2147483647) (hB:Blk w g 5 (DS K up lo n (8*j))) :
  Calls Tryz.prog 188 #[.slice (some ⟨g,8*j,none⟩) (n - 8*j) c,.int .u64 (Km K up lo j:Nat)] w fun e w'=>e=.returned (.tuple #[])/\Blk w' g 5 (DS K up lo n (min (8*j+8) n))/\w.grownBy w' (some g):=by
 obtain⟨X,O⟩:=Ak (Km K up lo j);obtain⟨L,eL⟩:=Ak (n - 8*j);obtain⟨M,eM⟩:=Ak (min L 8);obtain⟨o,eo⟩:=Ak (8*j);rw[<-O,<-eL,<-eo];rw[<-eo] at hB;have hX:X<18446744073709551616:=O▸WE K up lo j;have F:min (L:Int) 8=(M:Int):=by omega
 have EX:=I O;clear O;have EL:=I eL;clear eL;have Z:=I eM;clear eM;have N:=I eo;clear eo;have HB:=I hB;clear hB;have H8:=I h8;clear h8;have HN:=I hn;clear hn;go_enter Tryz.func188,Tryz.ntmps188
 go_upto_region 0 with fail
 go_cut [7,8] from 5 to 8 (fun mv zv wx=>mv=.int .i64 (M:Int)/\zv=.int .i64 0/\wx=w)
 case first=>
  go_wp2_with fail
  all_goals go_meet
  all_goals exact⟨congrArg (Value.int .i64) (by omega),rfl,rfl⟩
 obtain⟨rfl,rfl,rfl⟩:=hcut;clear F
 go_wp2_with fail
 go_loopw [8] (fun iv wr=>∃i:Nat,i<=M/\iv=.int .i64 (i:Int)/\Blk wr g 5 (DS K up lo n (o+i))/\wc.grownBy wr (some g)) (fun iv _=>M - (intOf iv).toNat)
 case atStart=>exact⟨0,Nat.zero_le _,rfl,HB.o,World.grownBy.refl _ _⟩
 case round=>
  obtain⟨i,hi,rfl,hB,hg⟩:=hrel
  by_cases hM:i=M
  ·have e1:decide ((i:Int)<(M:Int))=false:=by simp;omega
   have e2:¬i<M:=by omega
   have D:=I hB;clear hB;have E:=I hg;clear hg;have HM:=I hM;clear hM
   go_wp2_with fail
   go_end0
   refine⟨rfl,?_,E.o⟩;have e:o+i=min (o+8) n:=by have:=Z.o;have:=EL.o;have:=N.o;have:=H8.o;have:=HM.o;omega
   rw[<-e];exact D.o
  ·have e1:(i:Int)<(M:Int):=by omega
   have e2:i<M:=by omega
   have e3:i<L:=by have:=Z.o;omega
   have e4:(i:Int)<(L:Int):=by omega
   have e5:(0:Int)<=(i:Int):=by omega
   have e6:i<8:=by have:=Z.o;omega
   have J:o+i<n:=by have:=Z.o;have:=EL.o;have:=N.o;omega
   have hy:=hB.cell (o+i);rw[Ty _ _ _ _ _ _ J,if_neg (by omega)] at hy;simp only[bv] at hy;have fz:=hB.frozen;have D:=I hB;clear hB;have E:=I hg;clear hg;clear hM
   go_wp2_with fail
   go_roundw
   case rel=>
    refine⟨i+1,by omega,by go_num,?_,AU E.o (.inl rfl) _⟩;have hs:=D.o.set (o+i) (bv (Ev K up lo (o+i)));rw[QW K up lo n (o+i) J] at hs;have hv:bv (Ev K up lo (o+i))=.int .u8 ((X:Int) / 2 ^ (8*i) % 256):=by
     have q1:(o+i) / 8=j:=by have:=N.o;omega
     have q2:(o+i) % 8=i:=by have:=N.o;omega
     have q3:(2:Nat) ^ (8*i)=256 ^ i:=by rw[Nat.pow_mul]
     unfold bv Ev;rw[q1,q2,<-EX.o,UInt8.toNat_ofNat',<-q3]
     congr 1
    rw[hv] at hs;exact hs
   case measure=>simp [intOf];omega
theorem QY (b:Option Addr) (N:Int) (n:Int) (w:World) (h:b=none\/n<1) :
  Calls Tryz.prog 145 #[.pointer b,.int .u64 N,.int .i64 n] w fun e w'=>e=.returned (.slice none 0 0)/\w'=w:=by
 by_cases hb:b=none
 ·subst hb
  clear h;go_enter Tryz.func145,Tryz.ntmps145
  go_wp2
  go_ret;exact⟨rfl,rfl⟩
 ·have D:n<1:=h.resolve_left hb
  have E:decide (n<1)=true:=by simpa using D
  cases b with
  |none=>exact absurd rfl hb
  |some a=>
   clear hb h;go_enter Tryz.func145,Tryz.ntmps145
   go_wp2
   go_ret;exact⟨rfl,rfl⟩
theorem BY:(Tryz.prog.info? 5).map (fun i=>(i.zero,i.size,i.bytes))=some (some (.int .u8 0),1,1):=by kernel_rfl
def upW (N:Nat):Wd:=BitVec.ofNat 32 (N / 4294967296)
def loW (N:Nat):Wd:=BitVec.ofNat 32 N
theorem WG (x y:Wd):bits .or .u64 ((y.toNat:Int)*4294967296 % 18446744073709551616) (x.toNat:Int)=((x.toNat+4294967296*y.toNat:Nat):Int):=by
 have D:=Gu x;have E:=Gu y;have e:(y.toNat:Int)*4294967296 % 18446744073709551616=((y.toNat*4294967296:Nat):Int):=by omega
 rw[e,u64_or_nat _ _ (by omega) (by omega),nat_join 32 (y.toNat*4294967296) x.toNat (by omega) (by omega)];omega
theorem QZ (b:Nat) (ks:Nat->UInt8) (m:Bool) (N n:Nat) (nv:Int) (w:World) (cL:nv=(n:Int)) (ca:1<=n) (cf:n<=1000000) (hN:N<18446744073709551616) (hK:Key w b ks m) :
  Calls Tryz.prog 145 #[.pointer (some ⟨b,0,none⟩),.int .u64 (N:Int),.int .i64 nv] w fun e w'=>∃g,e=.returned (.slice (some ⟨g,0,none⟩) n n)/\w.heap.size<=g/\
   Blk w' g 5 (bvs (strm (kw ks) (upW N) (loW N) n)).toArray/\Key w' b ks true/\w.grownBy w' (some b)/\(m=true->Below w.heap.size w w'):=by
 subst cL;have cn:=GZ b ks m w hK;have M:=hK.lt;have i1:decide ((n:Int)<1)=false:=by simp;omega
 have i2:decide (2147483647<(n:Int))=false:=by simp;omega
 have i3:¬(n:Int)<1:=by omega
 have i4:¬2147483647<(n:Int):=by omega
 have O:(N:Int) / 4294967296 % 4294967296=((upW N).toNat:Int):=by rw[upW,BitVec.toNat_ofNat];omega
 have bz:(N:Int) % 4294967296=((loW N).toNat:Int):=by rw[loW,BitVec.toNat_ofNat];omega
 obtain⟨up,Z⟩:=Ak (upW N);obtain⟨lo,bx⟩:=Ak (loW N);rw[<-Z] at O;rw[<-bx] at bz;rw[<-Z,<-bx];obtain⟨it,cR,ec,cu,cw⟩:=info_parts BY;have ej:=fun W=>Gh (P:=Tryz.prog) (t:=27) (e:=5) Tryz.underlying27 cR ec cu cw (n:Int) n rfl (by omega) W
 have N1:=I ca;clear ca;have N2:=I cf;clear cf;have BL:=I M;clear M;clear hK hN Z bx;go_enter Tryz.func145,Tryz.ntmps145
 go_wp2_with (first | (go_at_call 186;refine Aj cn ?_;rintro w2 ⟨ck,bB,cg⟩;have cb:=I ck;clear ck;have cc:=I bB;clear bB;have eb:=I cg;clear cg))
 rw[O,bz];clear O bz;obtain⟨g,eg⟩:=Ak (w2.heap.size);rw[<-eg];have J:=I eg;clear eg
 go_loopw [9,10] (fun lv iv wr=>∃j:Nat,8*j<n+8/\iv=.int .i64 ((8*j:Nat):Int)/\lv=wv (lo+BitVec.ofNat 32 j)/\Blk wr g 5 (DS (kw ks) up lo n (min (8*j) n))/\Below g w2 wr) (fun _ iv _=>n+8 - (intOf iv).toNat)
 case atStart=>
  refine⟨0,by omega,rfl,?_,?_,?_⟩
  ·show Value.int .u32 _=_
   simp
  ·have:=Om (kw ks) up lo n
   rw[show min (8*0) n=0 by omega,<-this,J.o];exact Blk.new w2 _ _
  ·rw[J.o];exact Ah.alloc Ag _
 case round=>
  obtain⟨j,hj,rfl,rfl,hB,hb⟩:=hrel;obtain⟨o,eo⟩:=Ak (8*j);rw[<-eo] at hB hj⊢;obtain⟨l0,E⟩:=Ak (lo+BitVec.ofNat 32 j);rw[<-E]
  by_cases hd:n<=o
  ·have e1:decide ((o:Int)<(n:Int))=false:=by simp;omega
   have e2:¬o<n:=by omega
   have cj:=I hB;clear hB;have D:=I hb;clear hb;clear hj hd E
   go_wp2_with fail
   go_ret;have cA:Key wr b ks true:=cb.o.below (J.o▸D.o);have ea:w.grownBy wr (some b):=RG cc.o (J.o▸D.o);refine⟨g,rfl,?_,?_,cA,ea,?_⟩
   ·rw[J.o];exact cc.o.size
   ·have:=cj.o
    rw[Nat.min_eq_right (by omega),QX _ _ _ _ _ Ag] at this;exact this
   ·intro hm
    have h2:=eb.o hm;subst h2;exact J.o▸D.o
  ·have e1:(o:Int)<(n:Int):=by omega
   have e2:o<n:=by omega
   have e3:(0:Int)<=(o:Int):=by omega
   have e4:(o:Int)<=(n:Int):=by omega
   have e5:o<=n:=by omega
   obtain⟨x0,ex⟩:=Ak ((Ce (kw ks) (up,l0)).1);obtain⟨F,ey⟩:=Ak ((Ce (kw ks) (up,l0)).2);obtain⟨l1,aw⟩:=Ak (lo+BitVec.ofNat 32 (j+1));have hX:Km (kw ks) up lo j=x0.toNat+4294967296*F.toNat:=by rw[Km,<-E,<-ex,<-ey]
   obtain⟨X,eX⟩:∃X:Nat,X=Km (kw ks) up lo j:=⟨_,rfl⟩;have cr:Key wr b ks true:=cb.o.below (J.o▸hb);have ct:=Jb b ks up l0 wr cr;rw[<-ex,<-ey] at ct;have cm:Blk wr g 5 (DS (kw ks) up lo n (8*j)):=by rw[Nat.min_eq_left e5,eo] at hB;exact hB
   have cp:=ZL (kw ks) up lo n j g (n - 8*j) wr (eo▸e2) (by have:=N2.o;omega) cm;rw[<-eo,<-eX] at cp;have cy:(F.toNat:Int) % 18446744073709551616=(F.toNat:Int):=by have:=Gu F;omega
   have cx:(x0.toNat:Int) % 18446744073709551616=(x0.toNat:Int):=by have:=Gu x0;omega
   have cQ:bits .or .u64 ((F.toNat:Int)*4294967296 % 18446744073709551616) (x0.toNat:Int)=(X:Int):=by rw[eX,hX];exact WG x0 F
   have ef:bits .or .u64 ((F.toNat:Int)*4294967296) (x0.toNat:Int)=(X:Int):=by
    have hm:(F.toNat:Int)*4294967296 % 18446744073709551616=(F.toNat:Int)*4294967296:=by have:=Gu F;omega
    rw[<-hm];exact cQ
   have cl:((l0.toNat:Int)+1) % 4294967296=(l1.toNat:Int):=by
    rw[aw,E,BitVec.toNat_add,BitVec.toNat_add,BitVec.toNat_ofNat,BitVec.toNat_ofNat];omega
   have cj:=I hB;clear hB;have D:=I hb;clear hb;have HX:=I eX;clear eX;have ed:=I aw;clear aw;have HO:=I eo;clear eo;have ei:=I e5;clear hX cr cm ex ey E hj hd
   go_wp2_with (first | (go_at_call 187;refine Aj ct ?_;rintro w' rfl) | (go_at_call 188;refine Aj cp ?_;rintro w3 ⟨cq,cd⟩;have cP:=I cq;clear cq;have cB:=I cd;clear cd))
   go_roundw
   case rel=>
    refine⟨j+1,by have:=HO.o;omega,?_,by rw[<-ed.o];exact congrArg (Value.int .u32) cl,?_,?_⟩
    ·exact congrArg (Value.int .i64) (by have:=HO.o;omega)
    ·have:=cP.o
     rw[show o+8=8*(j+1) by have:=HO.o;omega] at this;exact this
    ·exact Below.grown D.o cB.o (by rw[J.o];exact D.o.size) (fun k hk=>by injection hk with hk;omega)
   case measure=>have:=HO.o;simp [intOf];omega
def ksOf (l:List UInt8) (i:Nat):UInt8:=l.getD i 0
theorem FP (f:Nat->UInt8) (j:Nat) (D:j<16):(AK f)[j]? = some (bv (f j)):=by
 rw[AK,List.getElem?_toArray];simp [D]
theorem JI {f g:Nat->UInt8} (h:∀j,j<16->f j=g j):AK f=AK g:=by
 unfold AK
 congr 1
 apply List.map_congr_left;intro j D;rw[h j (by simpa using D)]
def AX (W:Nat->Wd):Array Value:=((List.range 27).map (fun j=>wv (W j))).toArray
theorem FQ (W:Nat->Wd) (i:Nat) (h:i<27):(AX W)[i]? = some (wv (W i)):=by
 rw[AX,List.getElem?_toArray];simp [h]
theorem JJ (W:Nat->Wd) (i:Nat) (v:Wd):(AX W).setIfInBounds i (wv v)=AX (upd W i v):=by
 unfold AX;rw[List.setIfInBounds_toArray]
 congr 1
 apply List.ext_getElem?;intro j;rw[List.getElem?_set,List.getElem?_map,List.getElem?_map]
 by_cases hj:i=j
 ·subst hj
  rcases Nat.lt_or_ge i 27 with h | h
  ·simp [h,upd]
  ·simp [Nat.not_lt.2 h]
 ·rw[if_neg hj]
  have D:¬j=i:=fun h=>hj h.symm
  rcases Nat.lt_or_ge j 27 with h | h
  ·simp [h,upd,D]
  ·rw[List.getElem?_eq_none (by simpa using h)];rfl
def kz (ks:Nat->UInt8) (i j:Nat):UInt8:=if j<i then ks j else 0
theorem On (ks:Nat->UInt8) (i j:Nat) (h:j<i):kz ks i j=ks j:=if_pos h
theorem Oo (ks:Nat->UInt8) (i j:Nat) (h:i<=j):kz ks i j=0:=if_neg (by omega)
def Gg (ks:Nat->UInt8) (t i:Nat):Wd:=Ff (kz ks i) t
def JK (ks:Nat->UInt8) (i:Nat):Array Value:=#[wv (Gg ks 0 i),wv (Gg ks 1 i),wv (Gg ks 2 i),wv (Gg ks 3 i)]
theorem BC (ks:Nat->UInt8) (t i:Nat) (h:t≠i / 4):Gg ks t (i+1)=Gg ks t i:=by
 have e:∀j,j / 4=t->kz ks (i+1) j=kz ks i j:=fun j D=>by
  unfold kz
  by_cases h2:j<i
  ·rw[if_pos h2,if_pos (by omega)]
  ·rw[if_neg h2,if_neg (by omega)]
 unfold Gg Ff;rw[e _ (by omega),e _ (by omega),e _ (by omega),e _ (by omega)]
theorem Ra (ks:Nat->UInt8) (q r i:Nat) (E:r<4) (hi:i=4*q+r):bits .or .u32 ((Gg ks q i).toNat:Int) (((ks i).toNat:Int)*2 ^ (8*r) % 4294967296)=((Gg ks q (i+1)).toNat:Int):=by
 have hk:=(ks i).toNat_lt;have D:=(ks (4*q)).toNat_lt;have l1:=(ks (4*q+1)).toNat_lt;have l2:=(ks (4*q+2)).toNat_lt;have l3:=(ks (4*q+3)).toNat_lt;have h:r=0\/r=1\/r=2\/r=3:=by omega
 have z:(0:UInt8).toNat=0:=rfl;unfold Gg Ff;rcases h with rfl | rfl | rfl | rfl
 ·subst hi
  have e:((ks (4*q+0)).toNat:Int)*2 ^ (8*0) % 4294967296=(((ks (4*q)).toNat:Nat):Int):=by simp only[Nat.add_zero];omega
  rw[e,u32_or_nat _ _ (BitVec.isLt _) (by omega),Dr,Dr];simp (disch:=omega) only[On,Oo,z];simp
 ·subst hi
  have e:((ks (4*q+1)).toNat:Int)*2 ^ (8*1) % 4294967296=(((ks (4*q+1)).toNat*256:Nat):Int):=by omega
  rw[e,u32_or_nat _ _ (BitVec.isLt _) (by omega),Nat.or_comm,nat_join 8 _ _ (by omega) (by rw[Dr];simp (disch:=omega) only[On,Oo,z];omega),Dr,Dr];simp (disch:=omega) only[On,Oo,z];omega
 ·subst hi
  have e:((ks (4*q+2)).toNat:Int)*2 ^ (8*2) % 4294967296=(((ks (4*q+2)).toNat*65536:Nat):Int):=by omega
  rw[e,u32_or_nat _ _ (BitVec.isLt _) (by omega),Nat.or_comm,nat_join 16 _ _ (by omega) (by rw[Dr];simp (disch:=omega) only[On,Oo,z];omega),Dr,Dr];simp (disch:=omega) only[On,Oo,z];omega
 ·subst hi
  have e:((ks (4*q+3)).toNat:Int)*2 ^ (8*3) % 4294967296=(((ks (4*q+3)).toNat*16777216:Nat):Int):=by omega
  rw[e,u32_or_nat _ _ (BitVec.isLt _) (by omega),Nat.or_comm,nat_join 24 _ _ (by omega) (by rw[Dr];simp (disch:=omega) only[On,Oo,z];omega),Dr,Dr];simp (disch:=omega) only[On,Oo,z];omega
theorem Ha (ks:Nat->UInt8) (t:Nat) (h:t<4):Gg ks t 16=Ff ks t:=by
 unfold Gg Ff kz;rw[if_pos (by omega),if_pos (by omega),if_pos (by omega),if_pos (by omega)]
theorem Fw (ks:Nat->UInt8) (q i:Nat) (h:q<4):(JK ks i)[q]? = some (wv (Gg ks q i)):=by
 have D:q=0\/q=1\/q=2\/q=3:=by omega
 rcases D with rfl | rfl | rfl | rfl<;>rfl
theorem Rb (ks:Nat->UInt8) (i:Nat) (h:i<16):(JK ks i).setIfInBounds (i / 4) (wv (Gg ks (i / 4) (i+1)))=JK ks (i+1):=by
 have D:i / 4=0\/i / 4=1\/i / 4=2\/i / 4=3:=by omega
 unfold JK;rcases D with e | e | e | e<;>rw[e]
 ·rw[BC ks 1 i (by omega),BC ks 2 i (by omega),BC ks 3 i (by omega)];rfl
 ·rw[BC ks 0 i (by omega),BC ks 2 i (by omega),BC ks 3 i (by omega)];rfl
 ·rw[BC ks 0 i (by omega),BC ks 1 i (by omega),BC ks 3 i (by omega)];rfl
 ·rw[BC ks 0 i (by omega),BC ks 1 i (by omega),BC ks 2 i (by omega)];rfl
theorem FR (w:World) (t:TypeId) (cs:Array Value) (l:List Value) (h:cs.toList=l) (N:Nat) (D:w.heap.size=N):Rd (w.alloc (.cells cs t)) (N+1) (some ⟨N,0,none⟩) l:=by
 subst D;refine .inr ⟨w.heap.size,0,rfl,by omega,fun i u hu=>?_⟩;rw[Nat.zero_add,(Blk.new w t cs).cell i];rw[<-h] at hu
 simpa using hu
theorem MO {w:World} {base:Nat} {t:TypeId} {v:Value} {n:Nat} {xs:List Value} (h:w.ownsRow base t 1 v n xs) (Z:0<n):∃g cap,v=.slice (some ⟨g,0,none⟩) n cap/\base<=g/\g<w.heap.size/\∀i u,xs[i]? = some u->w.cell? ⟨g,i,none⟩=some u:=by
 obtain⟨O,h | ⟨g,cap,cur,rfl,N,D,M,E,J,F⟩⟩:=h
 ·omega
 ·refine⟨g,cap,rfl,N,Blk.lt (t:=t) (cs:=cur) D,fun i u hu=>?_⟩
  rw[Blk.cell (t:=t) (cs:=cur) D i];rw[<-F,List.getElem?_take] at hu
  split at hu
  ·simpa using hu
  ·cases hu
theorem DU {w w':World} {base:Nat} {t:TypeId} {v:Value} {n:Nat} {xs:List Value} {o:Obj} (h:w.ownsRow base t 1 v n xs) (e:w'.heap=w.heap.push o):w'.ownsRow base t 1 v n xs:=by
 obtain⟨F,h | ⟨g,cap,cur,J,N,D,M⟩⟩:=h
 ·exact⟨F,.inl h⟩
 ·refine⟨F,.inr ⟨g,cap,cur,J,N,?_,M⟩⟩
  have E:=Blk.lt (t:=t) (cs:=cur) D;rw[e,Array.getElem?_push_lt E,<-Array.getElem?_eq_getElem E];exact D
theorem ZM {w:World} {base:Nat} {t:TypeId} {v:Value} {n:Nat} {xs:List Value} (h:w.ownsRow base t 1 v n xs) (p:Addr) (u:Value) (hp:p.block<base):(w.setCell p u).ownsRow base t 1 v n xs:=by
 obtain⟨E,h | ⟨g,cap,cur,F,M,D,J⟩⟩:=h
 ·exact⟨E,.inl h⟩
 ·exact⟨E,.inr ⟨g,cap,cur,F,M,(Below.heap_setCell w p u g (by omega)).trans D,J⟩⟩
theorem MP {w w':World} {u0:Value} {t:TypeId} (e:w'.heap=w.heap.push (.cells #[u0] t (0,0))):∀j u,[u0][j]? = some u->w'.cell? ((⟨w.heap.size,0,none⟩:Addr).add j)=some u:=by
 intro j u hu;have D:Blk w' w.heap.size t #[u0]:=by unfold Blk;rw[e];simp
 rw[addr_add,Nat.zero_add,D.cell]
 simpa using hu
def lrow (ks:Nat->UInt8) (n:Nat):List Value:=(List.range n).map (fun j=>wv (lw ks j))
theorem Tz (ks:Nat->UInt8) (n i:Nat) (h:i<n):(lrow ks n)[i]? = some (wv (lw ks i)):=by simp [lrow,h]
theorem TA (ks:Nat->UInt8) (n:Nat):lrow ks n++[wv (lw ks n)]=lrow ks (n+1):=by simp [lrow,List.range_succ]
theorem WH:(Tryz.prog.info? 151).map (fun i=>(i.zero,i.size,i.bytes))=some (some (.int .u32 0),1,4):=by kernel_rfl
theorem Lx {f g:Nat->Wd} (h:∀j,j<27->f j=g j):AX f=AX g:=by
 unfold AX
 congr 1
 apply List.map_congr_left;intro j D;rw[h j (by simpa using D)]
theorem Ae {w:World} {g:Nat} {t:TypeId} {cs:Array Value} (h:Blk w g t cs):w.rangeAt g 0 cs.toList:=fun j v D=>by
 rw[Nat.zero_add,h.cell];simpa using D
theorem Ao {w:World} {g:Nat} {t:TypeId} {cs:Array Value} (h:Blk w g t cs):w.there g 0 cs.size:=fun j D=>by
 rw[Nat.zero_add];exact⟨by rw[h.cell,Array.getElem?_eq_getElem D];rfl,h.frozen j⟩
theorem Bt {B:Nat} {a:World} (b:Nat) (D:B<=b):∀(E:List Value) (o:Nat) (w:World),Below B a w->Below B a (w.setCells b o E)
 | [],_,_,h=>h
 |v :: r,o,w,h=>Bt b D r (o+1) _ (Az h D v)
theorem bW (ks:Nat->UInt8) (w:World):Calls Tryz.prog 91 #[.agg (AK ks)] w fun e w'=>e=.returned (.agg (AX (kw ks)))/\Below w.heap.size w w':=by
 obtain⟨B,eB⟩:=Ak (w.heap.size);rw[<-eB];have EB:=I eB;go_enter Tryz.func91,Tryz.ntmps91
 go_wp2_with fail
 rw[<-eB];clear eB
 go_loopw [4] (fun iv wr=>∃i:Nat,i<=16/\iv=.int .i64 (i:Int)/\Below B w wr/\wr.heap.size=B+3/\Blk wr B 161 (AK ks)/\Blk wr (B+1) 195 (AX Ia)/\Blk wr (B+1+1) 229 (JK ks i)) (fun iv _=>16 - (intOf iv).toNat)
 case atStart=>
  have e1:=EB.o;refine⟨0,by decide,rfl,?_,by simp;omega,?_,?_,?_⟩
  ·rw[e1];exact(((Below.refl w.heap.size w).alloc Ag _).alloc (by simp) _).alloc (by simp;omega) _
  ·exact Blk.alloc (Blk.alloc (Blk.new_of w B _ _ _ rfl e1.symm) _) _
  ·exact Blk.alloc (Blk.new_of (w.alloc _) (B+1) _ _ (AX Ia) (by kernel_rfl) (by simp;omega)) _
  ·exact Blk.new_of _ (B+1+1) _ _ (JK ks 0) (by kernel_rfl) (by simp;omega)
 case round=>
  obtain⟨i,hi,rfl,hb,N,cj,F,E⟩:=hrel;have HB:=I hb;clear hb;have cP:=I cj;have O:=I F;have bz:=I E;have HS:=I N
  by_cases h16:i=16
  ·subst h16
   have HI:=I hi;clear hi;clear cj F E
   go_upto_region 6 with fail
   go_cut [5] from 8 to 28 (fun kp wx=>kp=.pointer (some ⟨B+3,0,none⟩)/\Below B w wx/\wx.heap.size=B+4/\Blk wx (B+1) 195 (AX Ia)/\Blk wx (B+1+1) 229 (JK ks 16)/\Blk wx (B+3) 195 (AX Ia))
   case first=>
    go_wp2_with fail
    go_meet
    have e1:=HS.o;exact⟨rfl,HB.o.alloc (by omega) _,by simp;omega,Blk.alloc O.o _,Blk.alloc bz.o _,Blk.new_of wr (B+3) _ _ (AX Ia) (by kernel_rfl) e1⟩
   case rest=>
    clear N HB cP O bz HS;obtain⟨rfl,hb,N,F,E,J⟩:=hcut;have HB:=I hb;clear hb;have O:=I F;clear F;have bz:=I E;have cc:=I J;have HS:=I N;obtain⟨w0,e0⟩:∃v,v=Ff ks 0:=⟨_,rfl⟩;obtain⟨w1,e1⟩:∃v,v=Ff ks 1:=⟨_,rfl⟩;obtain⟨w2,e2⟩:∃v,v=Ff ks 2:=⟨_,rfl⟩;obtain⟨w3,e3⟩:∃v,v=Ff ks 3:=⟨_,rfl⟩;have c0:wc.cell? ⟨B+1+1,0,none⟩=some (wv w0):=by rw[E.cell,Fw _ _ _ (by decide),Ha _ _ (by decide),e0]
    have c1:wc.cell? ⟨B+1+1,1,none⟩=some (wv w1):=by rw[E.cell,Fw _ _ _ (by decide),Ha _ _ (by decide),e1]
    have c2:wc.cell? ⟨B+1+1,2,none⟩=some (wv w2):=by rw[E.cell,Fw _ _ _ (by decide),Ha _ _ (by decide),e2]
    have c3:wc.cell? ⟨B+1+1,3,none⟩=some (wv w3):=by rw[E.cell,Fw _ _ _ (by decide),Ha _ _ (by decide),e3]
    have k0:wc.cell? ⟨B+3,0,none⟩=some (wv 0):=by rw[J.cell];exact FQ _ _ (by decide)
    have f0:=J.frozen;clear E J
    go_wp2_with fail
    have F0:=cc.o.set 0 (wv (kw ks 0));rw[JJ,Iy] at F0;have F1:=Blk.far O.o ⟨B+3,0,none⟩ (wv (kw ks 0)) (by simp);have F2:Below B w (wc.setCell ⟨B+3,0,none⟩ (wv (kw ks 0))):=Az HB.o (by simp) _;have S0:(wc.setCell ⟨B+3,0,none⟩ (wv (kw ks 0))).heap.size=B+4:=by simpa [World.setCell] using HS.o
    have F3:=I F0;clear F0;have F4:=I F1;clear F1;have F5:=I F2;clear F2;have S1:=I S0;clear S0;have eJ:=Gf;clear c0 c1 c2 c3 k0 f0 N e0 e1 e2 e3 HB O bz cc HS w0 w1 w2 w3 eJ
    go_loopw [6,7] (fun lv iv wr=>∃i:Nat,i<=26/\iv=.int .i64 (i:Int)/\Below B w wr/\B+4<=wr.heap.size/\Blk wr (B+1) 195 (AX Ia)/\Blk wr (B+3) 195 (AX (Bs ks i))/\wr.ownsRow (B+4) 151 1 lv (i+3) (lrow ks (i+3))) (fun _ iv _=>26 - (intOf iv).toNat)
    case atStart=>
     refine⟨0,by decide,rfl,?_,?_,Blk.alloc F4.o _,Blk.alloc F3.o _,?_⟩
     ·exact F5.o.alloc (by have:=S1.o;omega) _
     ·simp;have:=S1.o;simp at this;omega
     ·refine⟨rfl,.inr ⟨B+4,3,_,rfl,Nat.le_refl _,Blk.new_of _ (B+4) _ _ _ rfl S1.o,Nat.le_refl _,by decide,rfl,rfl⟩⟩
    case round=>
     obtain⟨i,hi,rfl,hb,N,F,J,Z⟩:=hrel;have HB:=I hb;clear hb;have HS:=I N;clear N
     by_cases h26:i=26
     ·subst h26
      obtain⟨cs,aw⟩:=Ak (AX (Bs ks 26));rw[<-aw] at J;have cn:cs.size=27:=by rw[aw];simp [AX]
      have ez:(AX Ia).size=27:=by simp [AX]
      have hR:wr.rangeAt (B+3) 0 cs.toList:=Ae J;have hT:wr.there (B+1) 0 cs.size:=by
       have:=Ao F
       rwa [ez,<-cn] at this
      have bx:(Tryz.prog.info? 195).map (·.size)=some cs.size:=by rw[cn];kernel_rfl
      have cm:(Tryz.prog.info? 195).map (·.size)=some cs.toList.length:=by rw[Array.length_toList];exact bx
      have cw:cs.all (·.oneCell')=true:=by rw[aw];simp [AX,Value.oneCell']
      have EC:Hid (cs=AX (kw ks)):=by rw[aw];exact Lx (fun j hj=>by rw[Bs,if_pos (by omega)])
      have HI:=I hi;clear hi;have eM:=I cw;clear cw;have HT:=I hT;clear hT;have HR:=I hR;clear hR;have eN:=I bx;clear bx;have cR:=I cm;clear cm;clear F J Z aw cn ez
      go_wp2_with (first | (refine wpList_load_mid (by rfl) 195 (.tmp 5) (by rfl) (B+3) 0 (by rfl) cs.toList _ HR.o Tryz.underlying195 (by rfl) cR.o ?_) | (refine wpList_store_mid (by rfl) 195 (.tmp 2) (.tmp 71) (by rfl) (B+1) 0 cs (by rfl) (by rfl) HT.o eN.o eM.o ?_) | fail)
      have hq:=run_loadVar_mid (P:=Tryz.prog) (wr.setCells (B+1) 0 cs.toList) (B+1) 0 195 cs.toList _ (World.rangeAt_setCells_same wr (B+1) 0 cs.toList (by rw[Array.length_toList];exact HT.o)) Tryz.underlying195 rfl cR.o;refine bodyPost_ret (v:=.agg cs) ?_ ?_ ?_
      ·exact AD (v:=.agg cs) 2 195 ⟨B+1,0,none⟩ Tryz.results91 (by rfl) hq
      ·rfl
      ·exact⟨by rw[EC.o],Bt (B+1) (by omega) _ _ _ HB.o⟩
     ·have i1:(i:Int)<26:=by omega
      have i2:i<26:=by omega
      have i3:(0:Int)<=(i:Int):=by omega
      have i4:(i:Int)<27:=by omega
      have i5:i<27:=by omega
      have i6:(i:Int)+1<27:=by omega
      have i7:i+1<27:=by omega
      obtain⟨M,cp⟩:=Ak (i+3);rw[<-cp] at Z;obtain⟨g,cap,rfl,hg,ep,cb⟩:=MO Z (by omega);have n1:(i:Int)<(M:Int):=by omega
      have n2:i<M:=by omega
      obtain⟨k0,ek⟩:=Ak (kw ks i);obtain⟨a0,ea⟩:=Ak (lw ks i);obtain⟨v,ev⟩:=Ak (lw ks (i+3));obtain⟨u,eu⟩:=Ak (kw ks (i+1));obtain⟨ci,ec⟩:=Ak (BitVec.ofNat 32 i);obtain⟨ra,era⟩:=Ak (rot a0 24);obtain⟨rk,cq⟩:=Ak (rot k0 3);obtain⟨sm,es⟩:=Ak (k0+ra);have eD:IntKind.u32.wrap (i:Int)=(ci.toNat:Int):=by rw[ec];exact PE i
      have fF:(i:Int) % 4294967296=(ci.toNat:Int):=by rw[<-IntKind.wrap_u32];exact eD
      have eo:((k0.toNat:Int)+(ra.toNat:Int)) % 4294967296=(sm.toNat:Int):=by rw[es];exact Gf _ _
      have fs:IntKind.u32.wrap ((k0.toNat:Int)+(ra.toNat:Int))=(sm.toNat:Int):=by rw[IntKind.wrap_u32];exact eo
      have eV:bits .xor .u32 (sm.toNat:Int) (ci.toNat:Int)=(v.toNat:Int):=by rw[BB,ev,lw_3,es,era,ek,ea,ec]
      have fH:bits .xor .u32 (rk.toNat:Int) (v.toNat:Int)=(u.toNat:Int):=by rw[BB,ev,eu,Tu,cq,ek]
      have eT:IntKind.i64.wrap ((i:Int)+1)=(i:Int)+1:=by rw[IntKind.wrap_i64];omega
      have ff:IntKind.i64.wrap ((i:Int)+3)=(M:Int):=by rw[IntKind.wrap_i64];omega
      have ck:wr.cell? ⟨B+3,i,none⟩=some (wv k0):=by rw[J.cell,FQ _ _ i5,Bs,if_pos Ag,ek]
      have ca:wr.cell? ⟨g,i,none⟩=some (wv a0):=by rw[cb i _ (Tz ks M i n2),ea]
      have eg:(wr.alloc (.cells #[.int .u32 v.toNat] 151)).cell? ⟨B+3,i,none⟩=some (.int .u32 k0.toNat):=by rw[World.cell?_alloc_past _ _ _ (show(⟨B+3,i,none⟩:Addr).block<wr.heap.size by show B+3<_;have:=HS.o;omega)];exact ck
      have cy:=Tw a0;rw[<-era] at cy;have eb:=Yh k0;rw[<-cq] at eb;obtain⟨ti,eL,ei,et,ey⟩:=info_parts WH;have HO:=I Z;clear Z;have O:=I F;clear F;have cc:=I J;clear J;have HG:=I hg;clear hg;have EV:=I ev;clear ev;have EU:=I eu;clear eu;have EN:=I cp;clear cp;have HH:=I i2;have HI:=I hi;clear hi;clear ek ea ec era cq es cb h26 ep
      go_wp2_with fail
      go_region_law (first | (go_simp;go_at_call 125;refine Aj (cy _) ?_;rintro w' rfl) | ((refine step_append_lies _ (by rfl) (.tmp 43) (.tmp 56) 230 (by rfl) (B+4) 151 ti _ 1 4 Tryz.underlying230 eL ei et ey (by rfl) (by decide) (.slice (some ⟨g,0,none⟩) M cap) M (lrow ks M) (by rfl) (DU HO.o (by rfl)) ⟨wr.heap.size,0,none⟩ 1 1 [.int .u32 v.toNat] (by rfl) (by rfl) (MP (by rfl)) (by simp [Value.oneCell']) (by decide) (by have:=EN.o;have:=HH.o;unfold maxLen;omega) (by have:=EN.o;have:=HH.o;omega) (by have:=HS.o;simp;omega) (wr.heap.size+1) (by simp) ?_;intro g2 cL w2 bB D ef eP)))
      all_goals (
       have cr:w2.ownsRow (B+4) 151 1 (.slice (some ⟨g2,0,none⟩) (M+1) cL) (M+1) (lrow ks (M+1)):=by
        rw[<-TA,show lw ks M=v by rw[EN.o,EV.o]];exact bB
       have fv:w2.cell? ⟨g2,M,none⟩=some (wv v):=by
        obtain⟨gx,cx,eH,_,_,ew⟩:=MO cr (by omega);injection eH with hv1 _ _;injection hv1 with hv1;injection hv1 with hv1 _;subst hv1;rw[ew M _ (Tz ks (M+1) M (by omega)),show lw ks M=v by rw[EN.o,EV.o]]
       have cf:(wr.alloc (.cells #[.int .u32 v.toNat] 151)).grownBy w2 (some g):=⟨D.os,D.tape,D.output,D.size,D.block⟩;have cd:Blk w2 (B+3) 195 (AX (Bs ks i)):=Blk.grown (Blk.alloc cc.o _) cf (fun h=>by have:=HG.o;injection h with h;omega);have cA:Blk w2 (B+1) 195 (AX Ia):=Blk.grown (Blk.alloc O.o _) cf (fun h=>by have:=HG.o;injection h with h;omega);have cB:Below B w w2:=Below.grown (HB.o.alloc (by have:=HS.o;omega) _) cf (by have:=HS.o;simp;omega) (fun k hk=>by have:=HG.o;injection hk with hk;omega);have cQ:B+4<=w2.heap.size:=by have h1:=cf.size;have h2:=HS.o;simp at h1;omega
       have fy:w2.cell? ⟨B+3,i,none⟩=some (wv k0):=by
        have e1:=cc.o.cell i;have e2:=cd.cell i;rw[<-e1] at e2;exact e2.trans ck
       have fz:w2.cell? ⟨B+3,i+1,none⟩=some (wv (Bs ks i (i+1))):=by rw[cd.cell];exact FQ _ _ i7
       have eR:=cd.frozen;have ct:=I cr;clear cr;have ed:=I cd;clear cd;have eF:=I cA;clear cA;have eQ:=I cB;clear cB;have eK:=I cQ;clear cQ;clear bB D cf ef eP ck ca eg;obtain⟨m3,cg⟩:=Ak (M+1);rw[<-cg];rw[<-cg] at ct;have m1:(M:Int)<(m3:Int):=by omega
       have m2:M<m3:=by omega
       have m4:(0:Int)<=(M:Int):=by omega
       have EM:=I cg;clear cg
       go_wp2_with fail
       refine wp_region_still_tail 12 (by kernel_rfl) (by kernel_rfl) ?_;simp only[List.take_succ_cons,List.take_zero,List.drop_succ_cons,List.drop_zero];change wpStill _ _ w2.drew _ _ _
       repeat still_step
       still_call (eb _)
       repeat still_step
       refine wpStill_nil ?_;change wpList _ _ _ _ _ w2.drew
       go_wp2_with fail
       go_roundw
       case rel=>
        (repeat apply Exists.intro)
        refine⟨?_,rfl⟩;refine⟨i+1,by have:=HH.o;omega,by go_num,?_,?_,?_,?_,?_⟩
        ·exact below_drewN (Az eQ.o (by simp<;>omega) _) 1
        ·simpa [World.setCell] using eK.o
        ·exact Blk.far eF.o _ _ (by simp)
        ·have e:=ed.o.set (i+1) (wv u)
         rw[JJ,EU.o,JH,<-EU.o] at e;exact e
        ·rw[show i+1+3=m3 by have:=EM.o;have:=EN.o;omega]
         exact ZM ct.o ⟨B+3,i+1,none⟩ (wv u) (by simp)
       case measure=>have:=HH.o;simp [intOf];omega)
  ·obtain⟨q,eq⟩:=Ak (i / 4)
   obtain⟨r,er⟩:=Ak (i % 4);have hq:(i:Int).tdiv 4=(q:Int):=by rw[Int.tdiv_eq_ediv_of_nonneg (by omega)];omega
   have hr:(i:Int).tmod 4=(r:Int):=by rw[Int.tmod_eq_emod_of_nonneg (by omega)];omega
   have q1:(q:Int)<4:=by omega
   have q2:q<4:=by omega
   have q3:(0:Int)<=(q:Int):=by omega
   have r1:(r:Int)<4:=by omega
   have r2:r<4:=by omega
   have r3:(0:Int)<=(r:Int):=by omega
   have i1:(i:Int)<16:=by omega
   have i2:i<16:=by omega
   have i3:(0:Int)<=(i:Int):=by omega
   obtain⟨u,eu⟩:=Ak (Gg ks q i);obtain⟨v,ev⟩:=Ak (Gg ks q (i+1));obtain⟨k,ek⟩:=Ak (ks i);obtain⟨sh,es⟩:=Ak (8*r);obtain⟨km,em⟩:∃km:Nat,km=k.toNat*2 ^ sh % 4294967296:=⟨_,rfl⟩;have eW:8*(r:Int)=(sh:Int):=by omega
   have ej:IntKind.u32.wrap ((k.toNat:Int)*2 ^ sh)=(km:Int):=by
    rw[IntKind.wrap_u32,em];have:((k.toNat*2 ^ sh:Nat):Int)=(k.toNat:Int)*2 ^ sh:=by rw[Int.natCast_mul,Int.natCast_pow];rfl
    rw[<-this];omega
   have hv:bits .or .u32 (u.toNat:Int) (km:Int)=(v.toNat:Int):=by
    have e:=Ra ks q r i r2 (by omega);rw[<-es,<-eu,<-ev,<-ek] at e;rw[<-e,<-ej,IntKind.wrap_u32]
   have fb:min sh 32=sh:=by omega
   have fi:IntKind.i64.wrap (q:Int)=(q:Int):=by rw[IntKind.wrap_i64];omega
   have fj:IntKind.i64.wrap (r:Int)=(r:Int):=by rw[IntKind.wrap_i64];omega
   have eX:IntKind.i64.wrap (sh:Int)=(sh:Int):=by rw[IntKind.wrap_i64];omega
   have fG:IntKind.u64.wrap (sh:Int)=(sh:Int):=by rw[IntKind.wrap_u64];omega
   have eS:IntKind.u32.wrap (k.toNat:Int)=(k.toNat:Int):=by rw[IntKind.wrap_u32];have:=Fg k;omega
   have ck:wr.cell? ⟨B,i,none⟩=some (.int .u8 (k.toNat:Int)):=by rw[cj.cell,FP _ _ i2,ek];rfl
   have cu:wr.cell? ⟨B+1+1,q,none⟩=some (wv u):=by rw[E.cell,Fw _ _ _ q2,eu]
   have fu:=E.frozen;have kk:(k.toNat:Int) % 4294967296=(k.toNat:Int):=by have:=Fg k;omega
   have HH:=I h16;clear h16;have EQ:=I eq;clear eq;have EV:=I ev;clear ev;have HI:=I hi;clear hi;clear cj F E eu er ek N es em
   go_wp2_with fail
   refine wp_region_still_tail 16 (by kernel_rfl) (by kernel_rfl) ?_;simp only[List.take_succ_cons,List.take_zero,List.drop_succ_cons,List.drop_zero];change wpStill _ _ wr.drew _ _ _
   repeat still_step
   refine wpStill_nil ?_;change wpList _ _ _ _ _ wr.drew
   go_wp2_with fail
   go_roundw
   case rel=>
    refine⟨i+1,by have:=HI.o;have:=HH.o;omega,by go_num,?_,?_,?_,?_,?_⟩
    ·exact below_drewN (Az HB.o (by simp;omega) _) 1
    ·simpa [World.setCell] using HS.o
    ·exact Blk.far cP.o _ _ (by simp;omega)
    ·exact Blk.far O.o _ _ (by simp)
    ·have e:=bz.o.set q (wv v)
     rw[EV.o,EQ.o,Rb ks i i2,<-EQ.o,<-EV.o] at e;exact e
   case measure=>simp [intOf];omega
theorem bX (K:Nat->Wd) (x y:Wd) (w:World) :
  Calls Tryz.prog 124 #[.agg (AX K),wv x,wv y] w fun e w'=>e=.returned (.tuple #[wv (Ce K (x,y)).1,wv (Ce K (x,y)).2])/\Below w.heap.size w w':=by
 obtain⟨B,eB⟩:=Ak (w.heap.size);rw[<-eB];have EB:=I eB;go_enter Tryz.func124,Tryz.ntmps124
 go_wp2_with fail
 rw[<-eB];clear eB
 go_loopw [1,2,8] (fun xv yv iv wr=>∃i:Nat,i<=27/\iv=.int .i64 (i:Int)/\xv=wv (IJ K i (x,y)).1/\yv=wv (IJ K i (x,y)).2/\Blk wr B 195 (AX K)/\Below B w wr) (fun _ _ iv _=>27 - (intOf iv).toNat)
 case atStart=>exact⟨0,by decide,rfl,rfl,rfl,Blk.new_of w B _ _ _ rfl EB.o.symm,EB.o▸Ah.alloc Ag _⟩
 case round=>
  obtain⟨i,hi,rfl,rfl,rfl,hB,hb⟩:=hrel
  by_cases h27:i=27
  ·subst h27
   have HB:=I hB;clear hB;have D:=I hb;clear hb
   go_wp2_with fail
   go_ret2
   exact⟨rfl,D.o⟩
  ·have cc:(0:Int)<=(i:Int):=by omega
   have bB:(i:Int)<27:=by omega
   have bx:i<27:=by omega
   obtain⟨p,ep⟩:=Ak (IJ K i (x,y));obtain⟨k0,ek⟩:=Ak (K i);obtain⟨x0,ex⟩:=Ak (p.1);obtain⟨O,ey⟩:=Ak (p.2);obtain⟨rx,F⟩:=Ak (rot x0 24);obtain⟨ry,J⟩:=Ak (rot O 3);obtain⟨sm,es⟩:=Ak (rx+O);obtain⟨x1,E⟩:=Ak (sm ^^^ k0);obtain⟨y1,M⟩:=Ak (ry ^^^ x1);have ck:wr.cell? ⟨B,i,none⟩=some (wv k0):=by rw[hB.cell,FQ _ _ bx,ek]
   have bz:((rx.toNat:Int)+(O.toNat:Int)) % 4294967296=(sm.toNat:Int):=by rw[es];exact Gf _ _
   have cb:IntKind.u32.wrap ((rx.toNat:Int)+(O.toNat:Int))=(sm.toNat:Int):=by rw[IntKind.wrap_u32];exact bz
   have ca:bits .xor .u32 (sm.toNat:Int) (k0.toNat:Int)=(x1.toNat:Int):=by rw[E];exact BB _ _
   have cd:bits .xor .u32 (ry.toNat:Int) (x1.toNat:Int)=(y1.toNat:Int):=by rw[M];exact BB _ _
   have aw:=Tw x0;rw[<-F] at aw;have N:=Yh O;rw[<-J] at N;have hn:IJ K (i+1) (x,y)=(x1,y1):=by rw[IJ,<-ep,step,<-ex,<-ey,<-ek,<-F,<-J,<-es,<-E,<-M]
   rw[<-ep,<-ex,<-ey];have Z:=I hn;clear hn;have hh:=I bx;have HB:=I hB;clear hB;have D:=I hb;clear hb;clear ep ek ex ey F J es E M hi h27
   go_wp2_with fail
   refine wp_region_still_lit (by kernel_rfl) (by kernel_rfl) ?_;change wpStill _ _ wr.drew _ _ _
   repeat still_step
   still_call (aw _)
   repeat still_step
   refine wpStill_nil ?_
   try change _ wr.drew
   go_wp2_with (first | (go_at_call 126;refine Aj (N _) ?_;rintro w' rfl))
   go_roundw
   case rel=>exact⟨i+1,by have:=hh.o;omega,by go_num,by rw[Z.o],by rw[Z.o],HB.o,below_drewN D.o 1⟩
   case measure=>have:=hh.o;simp [intOf];omega
end Sp
end Go.Proofs.YthgignaohimadaaGreat
