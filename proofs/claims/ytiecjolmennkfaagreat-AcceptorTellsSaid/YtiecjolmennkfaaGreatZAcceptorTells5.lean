import Derived.Test.YtiecjolmennkfaaGreatZAcceptorTells1
set_option maxHeartbeats 25600000
set_option maxRecDepth 100000
set_option linter.unusedVariables false
set_option linter.unusedSimpArgs false
namespace Go.Proofs.YtiecjolmennkfaaGreat
namespace Sp
open Go.RowKit Af
abbrev Wd:=BitVec 32
def rot (v:Wd) (s:Nat):Wd:=(v <<< s) ||| (v >>> (32 - s))
abbrev wv (v:Wd):Value:=.int .u32 (v.toNat:Int)
theorem Gu (v:Wd):v.toNat<4294967296:=v.isLt
theorem PC (n:Nat):IntKind.u32.wrap (n:Int)=((BitVec.ofNat 32 n).toNat:Int):=by
 rw[IntKind.wrap_u32,BitVec.toNat_ofNat];omega
theorem Bu (x y:Wd):bits .xor .u32 (x.toNat:Int) (y.toNat:Int)=((x ^^^ y).toNat:Int):=by
 rw[u32_xor_nat _ _ x.isLt y.isLt,BitVec.toNat_xor]
theorem Gf (x y:Wd):((x.toNat:Int)+(y.toNat:Int)) % 4294967296=((x+y).toNat:Int):=by
 rw[BitVec.toNat_add];omega
theorem Lg (v:Wd) (s:Nat):(rot v s).toNat=(v.toNat*2 ^ s % 4294967296) ||| (v.toNat / 2 ^ (32 - s)):=by
 simp [rot,BitVec.toNat_or,BitVec.toNat_shiftLeft,BitVec.toNat_ushiftRight,Nat.shiftLeft_eq,Nat.shiftRight_eq_div_pow]
theorem Is (v:Wd) (a b:Nat) (s:Nat) (O:a=v.toNat*2 ^ s % 4294967296) (M:b=v.toNat / 2 ^ (32 - s)):bits .or .u32 (a:Int) (b:Int)=((rot v s).toNat:Int):=by
 rw[u32_or_nat a b (by omega) (by have:=Gu v;have:=Nat.div_le_self v.toNat (2 ^ (32 - s));omega),Lg,O,M]
theorem or_rot' (v:Wd) (a b:Nat) (s:Nat) (O:a=v.toNat*2 ^ s % 4294967296) (M:b=v.toNat / 2 ^ (32 - s)):bits .or .u32 (b:Int) (a:Int)=((rot v s).toNat:Int):=by
 rw[u32_or_nat b a (by have:=Gu v;have:=Nat.div_le_self v.toNat (2 ^ (32 - s));omega) (by omega),Lg,O,M,Nat.or_comm]
theorem or3 (v:Wd):bits .or .u32 ((v.toNat:Int)*8 % 4294967296) ((v.toNat:Int) / 536870912)=((rot v 3).toNat:Int):=Is v _ _ 3 rfl rfl
theorem or24 (v:Wd):bits .or .u32 ((v.toNat:Int)*16777216 % 4294967296) ((v.toNat:Int) / 256)=((rot v 24).toNat:Int):=Is v _ _ 24 rfl rfl
theorem ro24 (v:Wd):bits .or .u32 ((v.toNat:Int) / 256) ((v.toNat:Int)*16777216 % 4294967296)=((rot v 24).toNat:Int):=or_rot' v _ _ 24 rfl rfl
def step (k:Wd) (p:Wd×Wd):Wd×Wd:=((rot p.1 24+p.2) ^^^ k,rot p.2 3 ^^^ ((rot p.1 24+p.2) ^^^ k))
def Ix (K:Nat->Wd):Nat->Wd×Wd->Wd×Wd
 |0,p=>p
 |n+1,p=>step (K n) (Ix K n p)
def Cc (K:Nat->Wd) (p:Wd×Wd):Wd×Wd:=Ix K 27 p
def le4 (a b c d:UInt8):Wd:=BitVec.ofNat 32 (a.toNat+b.toNat*256+c.toNat*65536+d.toNat*16777216)
theorem DD (a b c d:UInt8):(le4 a b c d).toNat=a.toNat+b.toNat*256+c.toNat*65536+d.toNat*16777216:=by
 have:=a.toNat_lt;have:=b.toNat_lt;have:=c.toNat_lt;have:=d.toNat_lt;rw[le4,BitVec.toNat_ofNat];omega
theorem cG (a b c d:UInt8):bits .or .u32 (bits .or .u32 (bits .or .u32 (a.toNat:Int) ((b.toNat:Int)*256 % 4294967296)) ((c.toNat:Int)*65536 % 4294967296)) ((d.toNat:Int)*16777216 % 4294967296)=((le4 a b c d).toNat:Int):=by
 have ha:=a.toNat_lt;have hb:=b.toNat_lt;have hc:=c.toNat_lt;have hd:=d.toNat_lt;have eb:(b.toNat:Int)*256 % 4294967296=((b.toNat*256:Nat):Int):=by omega
 have O:(c.toNat:Int)*65536 % 4294967296=((c.toNat*65536:Nat):Int):=by omega
 have M:(d.toNat:Int)*16777216 % 4294967296=((d.toNat*16777216:Nat):Int):=by omega
 have Z:a.toNat ||| b.toNat*256=b.toNat*256+a.toNat:=by rw[Nat.or_comm];exact nat_join 8 _ _ (by omega) (by omega)
 have j2:(b.toNat*256+a.toNat) ||| c.toNat*65536=c.toNat*65536+(b.toNat*256+a.toNat):=by rw[Nat.or_comm];exact nat_join 16 _ _ (by omega) (by omega)
 have j3:(c.toNat*65536+(b.toNat*256+a.toNat)) ||| d.toNat*16777216=d.toNat*16777216+(c.toNat*65536+(b.toNat*256+a.toNat)):=by rw[Nat.or_comm];exact nat_join 24 _ _ (by omega) (by omega)
 rw[eb,O,M,u32_or_nat _ _ (by omega) (by omega),Z,u32_or_nat _ _ (by omega) (by omega),j2,u32_or_nat _ _ (by omega) (by omega),j3,DD];omega
def Fu (ks:Nat->UInt8) (i:Nat):Wd:=le4 (ks (4*i)) (ks (4*i+1)) (ks (4*i+2)) (ks (4*i+3))
structure Sch where
 k:Wd
 a:Wd
 b:Wd
 c:Wd
def cH (i:Nat) (s:Sch):Wd:=(s.k+rot s.a 24) ^^^ BitVec.ofNat 32 i
def sch (ks:Nat->UInt8):Nat->Sch
 |0=>⟨Fu ks 0,Fu ks 1,Fu ks 2,Fu ks 3⟩
 |i+1=>⟨rot (sch ks i).k 3 ^^^ cH i (sch ks i),(sch ks i).b,(sch ks i).c,cH i (sch ks i)⟩
def kw (ks:Nat->UInt8) (i:Nat):Wd:=(sch ks i).k
def lw (ks:Nat->UInt8) (i:Nat):Wd:=(sch ks i).a
theorem lw_3 (ks:Nat->UInt8) (i:Nat):lw ks (i+3)=(kw ks i+rot (lw ks i) 24) ^^^ BitVec.ofNat 32 i:=rfl
theorem Tj (ks:Nat->UInt8) (i:Nat):kw ks (i+1)=rot (kw ks i) 3 ^^^ lw ks (i+3):=rfl
def Kb (K:Nat->Wd) (up lo:Wd) (i:Nat):Nat:=(Cc K (up,lo+BitVec.ofNat 32 i)).1.toNat+4294967296*(Cc K (up,lo+BitVec.ofNat 32 i)).2.toNat
def Fb (K:Nat->Wd) (up lo:Wd) (j:Nat):UInt8:=UInt8.ofNat (Kb K up lo (j / 8) / 256 ^ (j % 8))
def strm (K:Nat->Wd) (up lo:Wd) (n:Nat):List UInt8:=(List.range n).map (Fb K up lo)
theorem Og (K:Nat->Wd) (up lo:Wd) (n:Nat):(strm K up lo n).length=n:=by simp [strm]
theorem Tl (K:Nat->Wd) (up lo:Wd) (n m:Nat) (h:n<=m):(strm K up lo m).take n=strm K up lo n:=by
 simp [strm,List.take_range,<-List.map_take,Nat.min_eq_left h]
theorem rotL3 (v:Wd) (w:World):Calls Tryz.prog 263 #[wv v,.int .i64 3] w fun e w'=>e=.returned (wv (rot v 3))/\w'=w:=by
 have hand:bits .and .u64 3 31=3:=by kernel_rfl
 have M:=or3 v;go_enter Tryz.func263,Tryz.ntmps263
 go_wp2
 go_ret;exact⟨rfl,rfl⟩
theorem rotR8 (v:Wd) (w:World):Calls Tryz.prog 263 #[wv v,.int .i64 (-8)] w fun e w'=>e=.returned (wv (rot v 24))/\w'=w:=by
 have M:IntKind.u64.wrap (-8)=18446744073709551608:=by kernel_rfl
 have hand:bits .and .u64 18446744073709551608 31=24:=by kernel_rfl
 have O:=or24 v;go_enter Tryz.func263,Tryz.ntmps263
 go_wp2
 go_ret;exact⟨rfl,rfl⟩
theorem cI (v:Wd) (w:World):Calls Tryz.prog 249 #[wv v,.int .i64 3] w fun e w'=>e=.returned (wv (rot v 3))/\w'=w:=by
 go_enter Tryz.func249,Tryz.ntmps249
 go_wp2_with (go_at_call 263;refine(rotL3 _ _).mono ?_;rintro e w' ⟨rfl,rfl⟩)
 go_ret;exact⟨rfl,rfl⟩
theorem Yp (v:Wd) (w:World):Calls Tryz.prog 248 #[wv v,.int .i64 8] w fun e w'=>e=.returned (wv (rot v 24))/\w'=w:=by
 go_enter Tryz.func248,Tryz.ntmps248
 go_wp2_with (go_at_call 263;refine(rotR8 _ _).mono ?_;rintro e w' ⟨rfl,rfl⟩)
 go_ret;exact⟨rfl,rfl⟩
theorem Yq (v:Wd) (w:World):Calls Tryz.prog 108 #[wv v,.int .u64 3] w fun e w'=>e=.returned (wv (rot v 3))/\w'=w:=by
 have M:=or3 v;go_enter Tryz.func108,Tryz.ntmps108
 go_wp2
 go_ret;exact⟨rfl,rfl⟩
theorem Tn (v:Wd) (w:World):Calls Tryz.prog 107 #[wv v,.int .u64 8] w fun e w'=>e=.returned (wv (rot v 24))/\w'=w:=by
 have M:=ro24 v;go_enter Tryz.func107,Tryz.ntmps107
 go_wp2
 go_ret;exact⟨rfl,rfl⟩
def Cv (ks:Nat->UInt8) (d s m:Int) (W:Nat->Wd):Array Value:=
 ((List.range 16).map (fun i=>bv (ks i))++(([.int .u32 d,.int .i32 s,.int .u32 0,.int .u32 m]:List Value)++(List.range 27).map (fun j=>wv (W j)))).toArray
def KB (w:World) (b:Nat) (ks:Nat->UInt8) (d s m:Int) (W:Nat->Wd):Prop:=Blk w b 319 (Cv ks d s m W)
theorem QG (ks:Nat->UInt8) (d s m:Int) (W:Nat->Wd) (i:Nat) (h:i<16):(Cv ks d s m W)[i]? = some (bv (ks i)):=by
 rw[Cv,List.getElem?_toArray,List.getElem?_append_left (by simpa using h)];simp [h]
theorem Hw (ks:Nat->UInt8) (d s m:Int) (W:Nat->Wd) (i:Nat) (h:i<4):(Cv ks d s m W)[16+i]? = ([.int .u32 d,.int .i32 s,.int .u32 0,.int .u32 m]:List Value)[i]?:=by
 rw[Cv,List.getElem?_toArray,List.getElem?_append_right (by simp),List.getElem?_append_left (by simpa using h)];simp
theorem Oh (ks:Nat->UInt8) (d s m:Int) (W:Nat->Wd) (i:Nat) (h:i<27):(Cv ks d s m W)[20+i]? = some (wv (W i)):=by
 rw[Cv,List.getElem?_toArray,List.getElem?_append_right (by simp;omega),List.getElem?_append_right (by simp;omega)];have:20+i - (List.map (fun i=>bv (ks i)) (List.range 16)).length - ([.int .u32 d,.int .i32 s,.int .u32 0,.int .u32 m]:List Value).length=i:=by simp;omega
 rw[this];simp [h]
theorem Mw (ks:Nat->UInt8) (d s m M:Int) (W:Nat->Wd):(Cv ks d s m W).setIfInBounds 16 (.int .u32 M)=Cv ks M s m W:=by
 simp [Cv]
theorem Mx (ks:Nat->UInt8) (d s m s':Int) (W:Nat->Wd):(Cv ks d s m W).setIfInBounds 17 (.int .i32 s')=Cv ks d s' m W:=by
 simp [Cv]
theorem My (ks:Nat->UInt8) (d s m m':Int) (W:Nat->Wd):(Cv ks d s m W).setIfInBounds 19 (.int .u32 m')=Cv ks d s m' W:=by
 simp [Cv]
def upd (W:Nat->Wd) (i:Nat) (v:Wd) (j:Nat):Wd:=if j=i then v else W j
theorem Jr (ks:Nat->UInt8) (d s m:Int) (W:Nat->Wd) (i:Nat) (v:Wd):(Cv ks d s m W).setIfInBounds (20+i) (wv v)=Cv ks d s m (upd W i v):=by
 have e:((List.range 27).map fun j=>wv (W j)).set i (wv v)=(List.range 27).map fun j=>wv (upd W i v j):=by
  apply List.ext_getElem?;intro j;rw[List.getElem?_set,List.getElem?_map,List.getElem?_map]
  by_cases hj:i=j
  ·subst hj
   by_cases h27:i<27
   ·simp [h27,upd]
   ·simp [h27]
  ·have M:¬j=i:=fun h=>hj h.symm
   rw[if_neg hj];rcases Nat.lt_or_ge j 27 with h | h
   ·simp [h,upd,M]
   ·rw[List.getElem?_eq_none (by simpa using h)];rfl
 unfold Cv;rw[List.setIfInBounds_toArray,List.set_append_right _ _ (by simp;omega),List.set_append_right _ _ (by simp;omega)];have:20+i - (List.map (fun i=>bv (ks i)) (List.range 16)).length - ([.int .u32 d,.int .i32 s,.int .u32 0,.int .u32 m]:List Value).length=i:=by simp;omega
 rw[this,e]
section
variable {w w':World} {b:Nat} {ks:Nat->UInt8} {d s m:Int} {W:Nat->Wd}
theorem KB.cell (h:KB w b ks d s m W) (i:Nat):w.cell? ⟨b,i,none⟩=(Cv ks d s m W)[i]?:=Blk.cell h i
theorem KB.cd (h:KB w b ks d s m W):w.cell? ⟨b,16,none⟩=some (.int .u32 d):=(h.cell 16).trans (Hw ks d s m W 0 (by decide))
theorem KB.cs (h:KB w b ks d s m W):w.cell? ⟨b,17,none⟩=some (.int .i32 s):=(h.cell 17).trans (Hw ks d s m W 1 (by decide))
theorem KB.cm (h:KB w b ks d s m W):w.cell? ⟨b,19,none⟩=some (.int .u32 m):=(h.cell 19).trans (Hw ks d s m W 3 (by decide))
theorem KB.cw (h:KB w b ks d s m W) (i:Nat) (hi:i<27):w.cell? ⟨b,20+i,none⟩=some (wv (W i)):=(h.cell _).trans (Oh ks d s m W i hi)
theorem KB.ck (h:KB w b ks d s m W) (i:Nat) (hi:i<16):w.cell? ⟨b,i,none⟩=some (bv (ks i)):=(h.cell _).trans (QG ks d s m W i hi)
theorem KB.fz (h:KB w b ks d s m W) (i:Nat):w.frozen? ⟨b,i,none⟩=false:=Blk.frozen h i
theorem KB.set_d (h:KB w b ks d s m W) (M:Int):KB (w.setCell ⟨b,16,none⟩ (.int .u32 M)) b ks M s m W:=by
 have:=Blk.set h 16 (.int .u32 M);rwa [Mw] at this
theorem KB.set_s (h:KB w b ks d s m W) (s':Int):KB (w.setCell ⟨b,17,none⟩ (.int .i32 s')) b ks d s' m W:=by
 have:=Blk.set h 17 (.int .i32 s');rwa [Mx] at this
theorem KB.set_m (h:KB w b ks d s m W) (m':Int):KB (w.setCell ⟨b,19,none⟩ (.int .u32 m')) b ks d s m' W:=by
 have:=Blk.set h 19 (.int .u32 m');rwa [My] at this
theorem KB.set_word (h:KB w b ks d s m W) (i:Nat) (v:Wd):KB (w.setCell ⟨b,20+i,none⟩ (wv v)) b ks d s m (upd W i v):=by
 have:=Blk.set h (20+i) (wv v);rwa [Jr] at this
theorem KB.lt (h:KB w b ks d s m W):b<w.heap.size:=Blk.lt h
theorem KB.drewN (h:KB w b ks d s m W) (n:Nat):KB (w.drewN n) b ks d s m W:=h
theorem KB.drew (h:KB w b ks d s m W):KB w.drew b ks d s m W:=h
theorem KB.below (h:KB w b ks d s m W) (M:Below w.heap.size w w'):KB w' b ks d s m W:=Blk.below h M
theorem KB.grown {row:Option Nat} (h:KB w b ks d s m W) (O:w.grownBy w' row) (M:row≠some b):KB w' b ks d s m W:=Blk.grown h O M
end
theorem disable (w:World):(callFunc 187 #[]).run Tryz.prog w=.ok (.value (.tuple #[])) w:=run_call_mark0 Tryz.func187 (by kernel_rfl) (by kernel_rfl) (by kernel_rfl) .disable (by kernel_rfl) w
theorem enable (w:World):(callFunc 189 #[]).run Tryz.prog w=.ok (.value (.tuple #[])) w:=run_call_mark0 Tryz.func189 (by kernel_rfl) (by kernel_rfl) (by kernel_rfl) .enable (by kernel_rfl) w
theorem acquire (a:Addr) (w:World):(callFunc 190 #[.pointer (some a)]).run Tryz.prog w=.ok (.value (.tuple #[])) w:=run_call_marked Tryz.func190 (by kernel_rfl) (by kernel_rfl) (by kernel_rfl) .acquire (by kernel_rfl) a w
theorem releaseMerge (a:Addr) (w:World):(callFunc 192 #[.pointer (some a)]).run Tryz.prog w=.ok (.value (.tuple #[])) w:=run_call_marked Tryz.func192 (by kernel_rfl) (by kernel_rfl) (by kernel_rfl) .releaseMerge (by kernel_rfl) a w
theorem QH (a:Addr) (x:Value) (w:World) (hc:w.cell? a=some x) (hz:w.frozen? a=false) :
  Calls Tryz.prog 261 #[.pointer (some a),.bool true] w fun e w'=>e=.returned (.tuple #[])/\w'=w.drew.setCell a (.int .u32 1):=by
 have M:w.drew.cell? a=some x:=by go_simp
 have O:w.drew.frozen? a=false:=by go_simp
 have Z:=run_call_store (P:=Tryz.prog) Tryz.func270 (by kernel_rfl) (by kernel_rfl) (by kernel_rfl) (by kernel_rfl) (k:=.u32) (y:=1) M O;go_enter Tryz.func261,Tryz.ntmps261
 go_wp2
 go_region_calls
 all_goals (go_end0;exact⟨rfl,rfl⟩)
theorem Gk (a:Addr) (x:Value) (u:FrameMode) (w:World) (hc:w.cell? a=some x) (hz:w.frozen? a=false) :
  CallsD Tryz.prog 261 #[.pointer (some a),.bool true] u w fun e u' w'=>u'=u/\(e=.returned (.tuple #[])/\w'=w.drew.setCell a (.int .u32 1)):=by
 have M:w.drew.cell? a=some x:=by go_simp
 have O:w.drew.frozen? a=false:=by go_simp
 have Z:=run_call_store (P:=Tryz.prog) Tryz.func270 (by kernel_rfl) (by kernel_rfl) (by kernel_rfl) (by kernel_rfl) (k:=.u32) (y:=1) M O
 go_enter_d Tryz.func261,Tryz.ntmps261
 go_wp2
 go_region_calls
 all_goals (go_end0;exact⟨rfl,rfl⟩)
theorem Em (a:Addr) (d:Int) (w:World) (M:w.cell? a=some (.int .u32 d)) (x:Bool) (Z:(d != 0)=x) :
  Calls Tryz.prog 244 #[.pointer (some a)] w fun e w'=>e=.returned (.bool x)/\w'=w:=by
 have O:=run_call_load (P:=Tryz.prog) Tryz.func260 (by kernel_rfl) (by kernel_rfl) (by kernel_rfl) .u32 (by kernel_rfl) M;go_enter Tryz.func244,Tryz.ntmps244
 go_wp2
 go_ret;exact⟨rfl,rfl⟩
theorem DT (a:Addr) (u:FrameMode) (w:World) (O:w.cell? a=some (.int .i32 1)) (hz:w.frozen? a=false) :
  CallsD Tryz.prog 94 #[.pointer (some a)] u w fun e u' w'=>u'=u/\(e=.returned (.tuple #[])/\w'=w.setCell a (.int .i32 0)):=by
 have hd:=disable;have he:=enable;have hr:=releaseMerge;have M:=run_call_add (P:=Tryz.prog) Tryz.func193 (by kernel_rfl) (by kernel_rfl) (by kernel_rfl) .i32 (by kernel_rfl) (y:=-1) (s:=0) O hz (by simp [go_sem];rfl);have Z:=run_convert_to_unsafe (P:=Tryz.prog) (src:=282) (dst:=286) Tryz.underlying282 Tryz.underlying286 (by kernel_rfl) O
 go_enter_d Tryz.func94,Tryz.ntmps94
 go_wp2
 go_end0
 go_wp2
 go_end0
 exact⟨rfl,rfl⟩
theorem Js (a:Addr) (w:World) (Z:w.cell? a=some (.int .i32 0)) (hz:w.frozen? a=false) :
  Calls Tryz.prog 93 #[.pointer (some a)] w fun e w'=>e=.returned (.tuple #[])/\w'=w.setCell a (.int .i32 1):=by
 have hd:=disable;have he:=enable;have ha:=acquire;have O:=run_call_cas_hit (P:=Tryz.prog) Tryz.func188 (by kernel_rfl) (by kernel_rfl) (by kernel_rfl) .i32 (by kernel_rfl) (y:=1) Z hz;have M:(w.setCell a (.int .i32 1)).cell? a=some (.int .i32 1):=World.cell?_setCell_same w a _ Z;have av:=run_convert_to_unsafe (P:=Tryz.prog) (src:=282) (dst:=286) Tryz.underlying282 Tryz.underlying286 (by kernel_rfl) M;go_enter Tryz.func93,Tryz.ntmps93
 go_wp2
 first | go_end0 | (simp only[Exit.inBlock,Exit.then];refine bodyPost_ret (results_none rfl _ _ _) rfl ?_) | refine bodyPost_ret (results_none rfl _ _ _) rfl ?_
 go_wp2
 go_end0
 exact⟨rfl,rfl⟩
def AV (w w':World):Prop:=∃n,w'=w.drewN n
theorem AV.refl (w:World):AV w w:=⟨0,rfl⟩
theorem DG (b o:Nat) (n c:Nat) (M b1 b2 b3:UInt8) (w:World) (O:4<=n)
  (h0:w.cell? ⟨b,o,none⟩=some (bv M)) (h1:w.cell? ⟨b,o+1,none⟩=some (bv b1)) (h2:w.cell? ⟨b,o+2,none⟩=some (bv b2)) (h3:w.cell? ⟨b,o+3,none⟩=some (bv b3)) :
  Calls Tryz.prog 262 #[.slice (some ⟨b,o,none⟩) n c] w fun e w'=>e=.returned (wv (le4 M b1 b2 b3))/\w'=w.drew:=by
 have k0:(0:Int)<n:=by omega
 have k1:(1:Int)<n:=by omega
 have k2:(2:Int)<n:=by omega
 have k3:(3:Int)<n:=by omega
 have k4:0<n:=by omega
 have k5:1<n:=by omega
 have k6:2<n:=by omega
 have k7:3<n:=by omega
 have Z:=I O;clear O;simp only[bv] at h0 h1 h2 h3;have hle:=cG M b1 b2 b3;have av:=IntKind.wrap_u32;have m0:(M.toNat:Int) % 4294967296=M.toNat:=by have:=Fs M;omega
 have m1:(b1.toNat:Int) % 4294967296=b1.toNat:=by have:=Fs b1;omega
 have m2:(b2.toNat:Int) % 4294967296=b2.toNat:=by have:=Fs b2;omega
 have m3:(b3.toNat:Int) % 4294967296=b3.toNat:=by have:=Fs b3;omega
 go_enter Tryz.func262,Tryz.ntmps262
 go_wp2_with fail
 go_region_held3 (fun w'=>w'.cell? ⟨b,o,none⟩=some (.int .u8 M.toNat)/\w'.cell? ⟨b,o+1,none⟩=some (.int .u8 b1.toNat)/\w'.cell? ⟨b,o+2,none⟩=some (.int .u8 b2.toNat)/\w'.cell? ⟨b,o+3,none⟩=some (.int .u8 b3.toNat)) (go_keep) (fail)
 all_goals (go_wp2;go_ret;exact⟨rfl,rfl⟩)
def Bp (ks:Nat->UInt8) (i j:Nat):Wd:=if j<=i then kw ks j else 0
theorem PD {w:World} {b:Nat} {ks:Nat->UInt8} {d s m:Int} {W:Nat->Wd} (M:KB w b ks d s m W) (i n c:Nat) (hi:i<4) (O:4<=n) :
  Calls Tryz.prog 262 #[.slice (some ⟨b,4*i,none⟩) n c] w fun e w'=>e=.returned (wv (Fu ks i))/\w'=w.drew:=
 DG b (4*i) n c _ _ _ _ w O (M.ck _ (by omega)) (M.ck _ (by omega)) (M.ck _ (by omega)) (M.ck _ (by omega))
theorem ZH {w:World} {b:Nat} {ks:Nat->UInt8} {d s m:Int} {W:Nat->Wd} (M:KB w b ks d s m W) :
  Calls Tryz.prog 262 #[.slice (some ⟨b,0,none⟩) 16 16] w fun e w'=>e=.returned (wv (Fu ks 0))/\w'=w.drew:=
 PD M 0 16 16 (by decide) (by decide)
theorem ZI {w:World} {b:Nat} {ks:Nat->UInt8} {d s m:Int} {W:Nat->Wd} (M:KB w b ks d s m W) :
  Calls Tryz.prog 262 #[.slice (some ⟨b,4,none⟩) 12 12] w fun e w'=>e=.returned (wv (Fu ks 1))/\w'=w.drew:=
 PD M 1 12 12 (by decide) (by decide)
theorem ZJ {w:World} {b:Nat} {ks:Nat->UInt8} {d s m:Int} {W:Nat->Wd} (M:KB w b ks d s m W) :
  Calls Tryz.prog 262 #[.slice (some ⟨b,8,none⟩) 8 8] w fun e w'=>e=.returned (wv (Fu ks 2))/\w'=w.drew:=
 PD M 2 8 8 (by decide) (by decide)
theorem ZK {w:World} {b:Nat} {ks:Nat->UInt8} {d s m:Int} {W:Nat->Wd} (M:KB w b ks d s m W) :
  Calls Tryz.prog 262 #[.slice (some ⟨b,12,none⟩) 4 4] w fun e w'=>e=.returned (wv (Fu ks 3))/\w'=w.drew:=
 PD M 3 4 4 (by decide) (by decide)
theorem KB.heap {w w':World} {b:Nat} {ks:Nat->UInt8} {d s m:Int} {W:Nat->Wd} (h:KB w b ks d s m W) (e:w'.heap=w.heap):KB w' b ks d s m W:=by
 unfold KB Blk at *;rw[e];exact h
theorem KB.push {w w':World} {b:Nat} {ks:Nat->UInt8} {d s m:Int} {W:Nat->Wd} {o:Obj} (h:KB w b ks d s m W) (e:w'.heap=w.heap.push o):KB w' b ks d s m W:=by
 have M:=h.lt;unfold KB Blk at *;rw[e,Array.getElem?_push_lt M,<-Array.getElem?_eq_getElem M];exact h
def lc (ks:Nat->UInt8) (i j:Nat):Wd:=lw ks (i+(j+2*i) % 3)
def Mz (ks:Nat->UInt8) (i:Nat):Array Value:=#[wv (lc ks i 0),wv (lc ks i 1),wv (lc ks i 2)]
theorem To (ks:Nat->UInt8) (i:Nat):(Mz ks i)[i % 3]? = some (wv (lw ks i)):=by
 have h:i % 3=0\/i % 3=1\/i % 3=2:=by omega
 rcases h with h | h | h<;>rw[h]
 ·show some (wv (lc ks i 0))=_
  rw[lc,show i+(0+2*i) % 3=i by omega]
 ·show some (wv (lc ks i 1))=_
  rw[lc,show i+(1+2*i) % 3=i by omega]
 ·show some (wv (lc ks i 2))=_
  rw[lc,show i+(2+2*i) % 3=i by omega]
theorem QI (ks:Nat->UInt8) (i:Nat):(Mz ks i).setIfInBounds (i % 3) (wv (lw ks (i+3)))=Mz ks (i+1):=by
 have h:i % 3=0\/i % 3=1\/i % 3=2:=by omega
 rcases h with h | h | h<;>rw[h]
 ·show #[wv (lw ks (i+3)),wv (lc ks i 1),wv (lc ks i 2)]=#[wv (lc ks (i+1) 0),wv (lc ks (i+1) 1),wv (lc ks (i+1) 2)]
  unfold lc;rw[show i+1+(0+2*(i+1)) % 3=i+3 by omega,show i+1+(1+2*(i+1)) % 3=i+(1+2*i) % 3 by omega,show i+1+(2+2*(i+1)) % 3=i+(2+2*i) % 3 by omega]
 ·show #[wv (lc ks i 0),wv (lw ks (i+3)),wv (lc ks i 2)]=#[wv (lc ks (i+1) 0),wv (lc ks (i+1) 1),wv (lc ks (i+1) 2)]
  unfold lc;rw[show i+1+(0+2*(i+1)) % 3=i+(0+2*i) % 3 by omega,show i+1+(1+2*(i+1)) % 3=i+3 by omega,show i+1+(2+2*(i+1)) % 3=i+(2+2*i) % 3 by omega]
 ·show #[wv (lc ks i 0),wv (lc ks i 1),wv (lw ks (i+3))]=#[wv (lc ks (i+1) 0),wv (lc ks (i+1) 1),wv (lc ks (i+1) 2)]
  unfold lc;rw[show i+1+(0+2*(i+1)) % 3=i+(0+2*i) % 3 by omega,show i+1+(1+2*(i+1)) % 3=i+(1+2*i) % 3 by omega,show i+1+(2+2*(i+1)) % 3=i+3 by omega]
theorem Jt (ks:Nat->UInt8) (i:Nat):upd (Bp ks i) (i+1) (kw ks (i+1))=Bp ks (i+1):=by
 funext j
 unfold upd Bp
 by_cases h:j=i+1
 ·subst h;simp
 ·by_cases h2:j<=i
  ·rw[if_neg h,if_pos h2,if_pos (by omega)]
  ·rw[if_neg h,if_neg h2,if_neg (by omega)]
theorem Iu (ks:Nat->UInt8):upd (fun _=>0) 0 (kw ks 0)=Bp ks 0:=by
 funext j
 unfold upd Bp
 by_cases h:j=0
 ·subst h;simp
 ·rw[if_neg h,if_neg (by omega)]
theorem Blk.far {w:World} {g:Nat} {t:TypeId} {cs:Array Value} (h:Blk w g t cs) (p:Addr) (u:Value) (hp:p.block≠g):Blk (w.setCell p u) g t cs:=
 (Below.heap_setCell w p u g (fun e=>hp e.symm)).trans h
theorem QJ (b:Nat) (ks:Nat->UInt8) (w:World) (hK:KB w b ks 0 1 0 (fun _=>0)) :
  Calls Tryz.prog 247 #[.pointer (some ⟨b,0,none⟩)] w fun e w'=>e=.returned (.tuple #[])/\KB w' b ks 0 1 1 (Bp ks 26)/\w.grownBy w' (some b):=by
 have cn:=hK.cw 0 (by decide);have cj:=ZH (w:=w.drew) hK.drew;have cm:=hK.fz 20;go_enter Tryz.func247,Tryz.ntmps247
 go_upto_region 0 with fail
 go_cut [] from 5 to 13 (fun wx=>KB wx b ks 0 1 0 (Bp ks 0)/\w.grownBy wx (some b))
 case first=>
  go_region_held3 (fun w'=>True) (trivial) (first | (go_at_call 262;refine Aj cj ?_;rintro w' rfl))
  all_goals go_wp2_with fail
  all_goals go_meet
  all_goals
   have h1:=KB.set_word hK 0 (kw ks 0);rw[Iu] at h1;exact⟨h1,Bb (Bb (AM (World.grownBy.refl _ _) (.inl rfl) _))⟩
 case rest=>
  obtain⟨M,aw⟩:=hcut;have ct:∀w':World,KB w' b ks 0 1 0 (Bp ks 0)->_:=fun w' h=>ZI h
  have cw:∀w':World,KB w' b ks 0 1 0 (Bp ks 0)->_:=fun w' h=>ZJ h
  have bB:∀w':World,KB w' b ks 0 1 0 (Bp ks 0)->_:=fun w' h=>ZK h
  go_upto_region 1 with fail
  go_cut [2] from 14 to 29 (fun p wx=>∃L,p=.pointer (some ⟨L,0,none⟩)/\w.heap.size<=L/\Blk wx L 333 (Mz ks 0)/\KB wx b ks 0 1 0 (Bp ks 0)/\w.grownBy wx (some b))
  case first=>
   go_region_held3 (fun w'=>True) (trivial) (first | (go_at_call_of 262 (Value.slice (some (Addr.mk b 4 none)) 12 12);refine Aj (ct _ (by first | exact KB.heap M rfl | exact KB.push M rfl)) ?_;rintro w' rfl) | (go_at_call_of 262 (Value.slice (some (Addr.mk b 8 none)) 8 8);refine Aj (cw _ (by first | exact KB.heap M rfl | exact KB.push M rfl)) ?_;rintro w' rfl) | (go_at_call_of 262 (Value.slice (some (Addr.mk b 12 none)) 4 4);refine Aj (bB _ (by first | exact KB.heap M rfl | exact KB.push M rfl)) ?_;rintro w' rfl))
   all_goals go_wp2_with fail
   all_goals go_meet
   all_goals exact⟨_,rfl,aw.size,Blk.new wc _ _,Blk.alloc M _,Bb (Bb (Bb (Bb (DM aw _))))⟩
  case rest=>
   obtain⟨L,rfl,hL,cg,cu,cp⟩:=hcut;have cc:L≠b:=by have:=hK.lt;omega
   have cQ:=Gf;have cx:=Bu;have cP:=I hL;clear hL;have cy:=I cg;clear cg;have cM:=I cu;clear cu;have cB:=I cp;clear cp;have H1:=I M;clear M;have H0:=I hK;clear hK;have G1:=I aw;clear aw;clear cj ct cw bB cn cm
   go_wp2_with fail
   go_loopw [30] (fun iv wr=>∃i:Nat,i<=26/\iv=.int .i64 (i:Int)/\Blk wr L 333 (Mz ks i)/\KB wr b ks 0 1 0 (Bp ks i)/\w.grownBy wr (some b)) (fun iv _=>26 - (intOf iv).toNat)
   case atStart=>exact⟨0,by decide,rfl,cy.o,cM.o,cB.o⟩
   case round=>
    obtain⟨i,hi,rfl,Z,O,bb⟩:=hrel
    by_cases h26:i=26
    ·subst h26
     have av:=I O;clear O;have bq:=I bb;clear bb;have cr:=I Z;clear Z
     go_wp2_with (go_at_call 261;refine Aj (QH _ _ _ (KB.cm av.o) (KB.fz av.o 19)) ?_;rintro w' rfl)
     go_end0
     have e1:=KB.set_m (KB.drew av.o) 1;exact⟨rfl,e1,AM (Bb bq.o) (.inl rfl) _⟩
    ·have bx:i<26:=by omega
     have cR:(0:Int)<=(i:Int):=by omega
     have eg:(i:Int)<27:=by omega
     have cL:i<27:=by omega
     have ep:(i:Int)+1<27:=by omega
     have cA:i+1<27:=by omega
     have ew:(i:Int)<26:=by omega
     obtain⟨r,hr⟩:=Ak (i % 3);have cY:(i:Int).tmod 3=(r:Int):=by rw[Int.tmod_eq_emod_of_nonneg cR];omega
     have eo:(r:Int)<3:=by omega
     have ei:r<3:=by omega
     obtain⟨k0,ek⟩:=Ak (kw ks i);obtain⟨a0,ea⟩:=Ak (lw ks i);obtain⟨v,ev⟩:=Ak (lw ks (i+3));obtain⟨u,eu⟩:=Ak (kw ks (i+1));have ck:wr.cell? ⟨b,20+i,none⟩=some (wv k0):=by
      have:=O.cw i cL;rw[Bp,if_pos Ag,<-ek] at this;exact this
     have ca:wr.cell? ⟨L,r,none⟩=some (wv a0):=by rw[Z.cell,hr,To,ea]
     have fb:=O.fz;have fL:=Z.frozen;obtain⟨ci,ec⟩:=Ak (BitVec.ofNat 32 i);obtain⟨ra,era⟩:=Ak (rot a0 24);obtain⟨rk,bn⟩:=Ak (rot k0 3);obtain⟨sm,es⟩:=Ak (k0+ra);have cX:IntKind.u32.wrap (i:Int)=(ci.toNat:Int):=by rw[ec];exact PC i
     have eb:(i:Int) % 4294967296=(ci.toNat:Int):=by rw[<-IntKind.wrap_u32];exact cX
     have cT:((k0.toNat:Int)+(ra.toNat:Int)) % 4294967296=(sm.toNat:Int):=by rw[es];exact Gf _ _
     have ez:IntKind.u32.wrap ((k0.toNat:Int)+(ra.toNat:Int))=(sm.toNat:Int):=by rw[IntKind.wrap_u32];exact cT
     have ed:bits .xor .u32 (sm.toNat:Int) (ci.toNat:Int)=(v.toNat:Int):=by rw[Bu,ev,lw_3,es,era,ek,ea,ec]
     have eE:bits .xor .u32 (rk.toNat:Int) (v.toNat:Int)=(u.toNat:Int):=by rw[Bu,ev,eu,Tj,bn,ek]
     have bs:=Yp a0;rw[<-era] at bs;have bz:=cI k0;rw[<-bn] at bz;have eB:(wr.setCell ⟨L,r,none⟩ (wv v)).cell? ⟨b,20+i,none⟩=some (wv k0):=(World.cell?_setCell_other _ ⟨L,r,none⟩ ⟨b,20+i,none⟩ _ (by simp)).trans ck;have cZ:(wr.setCell ⟨L,r,none⟩ (wv v)).cell? ⟨L,r,none⟩=some (wv v):=World.cell?_setCell_same _ _ _ ca;have et:∀j,(wr.setCell ⟨L,r,none⟩ (wv v)).frozen? ⟨b,j,none⟩=false:=fun j=>by simp [fb j]
     have cb:∃y,(wr.setCell ⟨L,r,none⟩ (wv v)).cell? ⟨b,20+(i+1),none⟩=some y:=⟨_,(World.cell?_setCell_other _ ⟨L,r,none⟩ ⟨b,20+(i+1),none⟩ _ (by simp)).trans (O.cw (i+1) cA)⟩;obtain⟨y,cb⟩:=cb;have hh:=I bx;clear bx;have ef:=I h26;clear h26;have er:=I hi;clear hi;have ey:=I ek;clear ek;have ej:=I ea;clear ea;have cq:=I ev;clear ev;have cf:=I eu;clear eu;have cd:=I hr;clear hr;clear ec era bn es;have av:=I O;clear O;have bq:=I bb;clear bb;have cr:=I Z;clear Z;clear cQ cx
     go_wp2_with fail
     refine wp_region_still_tail 15 (by kernel_rfl) (by kernel_rfl) ?_;simp only[List.take_succ_cons,List.take_zero,List.drop_succ_cons,List.drop_zero];change wpStill _ _ wr.drew _ _ _
     repeat still_step
     still_call (bs wr.drew)
     repeat still_step
     refine wpStill_nil ?_;change wpList _ _ _ _ _ wr.drew
     go_wp2_with fail
     refine wp_region_still_tail 16 (by kernel_rfl) (by kernel_rfl) ?_;simp only[List.take_succ_cons,List.take_zero,List.drop_succ_cons,List.drop_zero];change wpStill _ _ (wr.setCell ⟨L,r,none⟩ (.int .u32 v.toNat)).drew.drew _ _ _;clear ck ca fb
     repeat still_step
     still_call (bz _)
     repeat still_step
     refine wpStill_nil ?_;change wpList _ _ _ _ _ (wr.setCell ⟨L,r,none⟩ (.int .u32 v.toNat)).drew.drew
     go_wp2_with fail
     go_roundw
     case rel=>
      refine⟨i+1,by have:=hh.o;omega,by go_num,?_,?_,?_⟩
      ·have e1:=cr.o.set r (wv v)
       rw[cd.o,cq.o,QI] at e1;have e2:=Blk.far e1 ⟨b,20+(i+1),none⟩ (wv u) (by simpa using Ne.symm cc);rw[<-cd.o,<-cq.o] at e2;exact e2
      ·have e1:KB (wr.setCell ⟨L,r,none⟩ (wv v)) b ks 0 1 0 (Bp ks i):=Blk.far av.o ⟨L,r,none⟩ (wv v) (by simpa using cc)
       have e2:=KB.set_word e1 (i+1) u;rw[cf.o,Jt,<-cf.o] at e2;exact e2
      ·exact Bb (Bb (AM (AM bq.o (.inr cP.o) _) (.inl rfl) _))
     case measure=>have:=hh.o;simp [intOf];omega
abbrev Hx:Nat->Wd:=fun _=>0
def Key (w:World) (b:Nat) (ks:Nat->UInt8):Bool->Prop
 |false=>KB w b ks 0 0 0 Hx
 |true=>KB w b ks 1 0 1 (Bp ks 26)
theorem Fc {a w c:World} {row:Option Nat} (h:a.grownBy w row) (k:w.grownBy c row):a.grownBy c row:=
 ⟨k.os.trans h.os,k.tape.trans h.tape,k.output.trans h.output,Nat.le_trans h.size k.size,fun i hi M=>(k.block i (Nat.lt_of_lt_of_le hi h.size) M).trans (h.block i hi M)⟩
theorem slow (b:Nat) (ks:Nat->UInt8) (w:World) (hK:KB w b ks 0 0 0 Hx) :
  Calls Tryz.prog 245 #[.pointer (some ⟨b,16,none⟩),.func (.func 247) #[.pointer (some ⟨b,0,none⟩)] #[]] w fun e w'=>e=.returned (.tuple #[])/\KB w' b ks 1 0 1 (Bp ks 26)/\w.grownBy w' (some b):=by
 have M:KB (w.setCell ⟨b,17,none⟩ (.int .i32 1)) b ks 0 1 0 Hx:=hK.set_s 1;have g1:w.grownBy (w.setCell ⟨b,17,none⟩ (.int .i32 1)) (some b):=AM (World.grownBy.refl _ _) (.inl rfl) _;have cl:=Js ⟨b,17,none⟩ w hK.cs (hK.fz 17);have cd:=Em ⟨b,16,none⟩ 0 _ M.cd false rfl;have cm:=QJ b ks _ M;have bs:∀(x:Bool) (w:World),(Op.unary .not (.bool x)).run Tryz.prog w=.ok (.bool (!x)) w:=fun _ _=>rfl
 have H:=I hK;clear hK;have H1:=I M;clear M;have G1:=I g1;clear g1
 go_enter_defers Tryz.func245,Tryz.ntmps245
 go_wp2_with (first | (go_at_call 93;refine Aj cl ?_;rintro w' rfl) | (go_at_call 244;refine Aj cd ?_;rintro w' rfl) | (go_at_call 247;refine Aj cm ?_;rintro w2 ⟨O,av⟩))
 refine leaves_cons (f:=261) (args:=#[.pointer (some ⟨b,16,none⟩),.bool true]) (by simp) (by simp [go_sem]) ?_;refine(Gk ⟨b,16,none⟩ _ .returning w2 O.cd (O.fz 16)).mono ?_;rintro e u' bq ⟨rfl,rfl,rfl⟩;have Z:=KB.set_d O.drew 1;refine leaves_cons (f:=94) (args:=#[.pointer (some ⟨b,17,none⟩)]) (by simp [settle]) (by simp [go_sem]) ?_;refine(DT ⟨b,17,none⟩ _ _ Z.cs (Z.fz 17)).mono ?_;rintro e u' bq ⟨rfl,rfl,rfl⟩;have bb:=KB.set_s Z 0;have bn:=AM (row:=some b) (AM (row:=some b) (Bb (World.grownBy.refl w2 (some b))) (p:=⟨b,16,none⟩) (.inl rfl) (.int .u32 1)) (p:=⟨b,17,none⟩) (.inl rfl) (.int .i32 0);have aw:=Fc (Fc G1.o av) bn;simp [Leaves,settle,results,Tryz.results245];exact⟨bb,aw⟩
theorem Lh (b:Nat) (ks:Nat->UInt8) (w:World) (O:KB w b ks 0 0 0 Hx) :
  Calls Tryz.prog 218 #[.pointer (some ⟨b,16,none⟩),.func (.func 247) #[.pointer (some ⟨b,0,none⟩)] #[]] w fun e w'=>e=.returned (.tuple #[])/\KB w' b ks 1 0 1 (Bp ks 26)/\w.grownBy w' (some b):=by
 have cd:=Em ⟨b,16,none⟩ 0 w O.cd false rfl;have cs:=slow b ks w O;have av:∀(x:Bool) (w:World),(Op.unary .not (.bool x)).run Tryz.prog w=.ok (.bool (!x)) w:=fun _ _=>rfl
 clear O;go_enter Tryz.func218,Tryz.ntmps218
 go_wp2_with (first | (go_at_call 244;refine Aj cd ?_;rintro w' rfl) | (go_at_call 245;refine Aj cs ?_;rintro w2 ⟨Z,M⟩))
 go_end0
 exact⟨rfl,Z,M⟩
theorem Oi (b:Nat) (fv:Value) (w:World) (O:w.cell? ⟨b,16,none⟩=some (.int .u32 1)) :
  Calls Tryz.prog 218 #[.pointer (some ⟨b,16,none⟩),fv] w fun e w'=>e=.returned (.tuple #[])/\w'=w:=by
 have Z:=Em ⟨b,16,none⟩ 1 w O true rfl;have M:∀(x:Bool) (w:World),(Op.unary .not (.bool x)).run Tryz.prog w=.ok (.bool (!x)) w:=fun _ _=>rfl
 clear O;go_enter Tryz.func218,Tryz.ntmps218
 go_wp2_with (first | (go_at_call 244;refine Aj Z ?_;rintro w' rfl))
 go_end0
 exact⟨rfl,rfl⟩
theorem Ha (b:Nat) (ks:Nat->UInt8) (m:Bool) (w:World) (M:Key w b ks m) :
  Calls Tryz.prog 220 #[.pointer (some ⟨b,0,none⟩)] w fun e w'=>e=.returned (.tuple #[])/\Key w' b ks true/\w.grownBy w' (some b)/\(m=true->w'=w):=by
 have aw:∀(fn:Fn) (first cap:Array Value) (w:World),(Instr.makeFunc fn first cap).run Tryz.prog w=.ok (.func fn first cap) w:=fun _ _ _ _=>rfl
 cases m with
 |false=>
  have O:=Lh b ks w M;clear M;go_enter Tryz.func220,Tryz.ntmps220
  go_wp2_with (first | (go_at_call 218;refine Aj O ?_;rintro w' ⟨av,Z⟩))
  go_end0
  exact⟨rfl,av,Z,fun h=>by cases h⟩
 |true=>
  have O:=fun fv=>Oi b fv w (KB.cd M)
  have H:=I M;clear M;go_enter Tryz.func220,Tryz.ntmps220
  go_wp2_with (first | (go_at_call 218;refine Aj (O _) ?_;rintro w' rfl))
  go_end0
  exact⟨rfl,H.o,World.grownBy.refl _ _,fun _=>rfl⟩
theorem Key.word {w:World} {b:Nat} {ks:Nat->UInt8} (h:Key w b ks true) (i:Nat) (hi:i<27):w.cell? ⟨b,20+i,none⟩=some (wv (kw ks i)):=by
 have:=KB.cw h i hi
 rwa [Bp,if_pos (by omega)] at this
theorem Key.grown {w w':World} {b:Nat} {ks:Nat->UInt8} {m:Bool} {row:Option Nat} (h:Key w b ks m) (O:w.grownBy w' row) (M:row≠some b):Key w' b ks m:=by
 cases m with
 |false=>exact KB.grown h O M
 |true=>exact KB.grown h O M
theorem Key.lt {w:World} {b:Nat} {ks:Nat->UInt8} {m:Bool} (h:Key w b ks m):b<w.heap.size:=by
 cases m with
 |false=>exact KB.lt h
 |true=>exact KB.lt h
theorem Key.below {w w':World} {b:Nat} {ks:Nat->UInt8} {m:Bool} (h:Key w b ks m) (M:Below w.heap.size w w'):Key w' b ks m:=
 h.grown (Dj M none) (by simp)
theorem Li (b:Nat) (ks:Nat->UInt8) (x y:Wd) (w:World) (hK:Key w b ks true) :
  Calls Tryz.prog 221 #[.pointer (some ⟨b,0,none⟩),wv x,wv y] w fun e w'=>e=.returned (.tuple #[wv (Cc (kw ks) (x,y)).1,wv (Cc (kw ks) (x,y)).2])/\w'=w:=by
 have hw:=fun i hi=>Key.word hK i hi
 clear hK;have HW:=I hw;clear hw;go_enter Tryz.func221,Tryz.ntmps221
 go_wp2_with fail
 go_loop [1,2,13] (fun xv yv iv=>∃i:Nat,i<=27/\iv=.int .i64 (i:Int)/\xv=wv (Ix (kw ks) i (x,y)).1/\yv=wv (Ix (kw ks) i (x,y)).2) (fun _ _ iv=>27 - (intOf iv).toNat)
 case atStart=>exact⟨0,by decide,rfl,rfl,rfl⟩
 case round=>
  obtain⟨i,hi,rfl,rfl,rfl⟩:=hrel
  by_cases h27:i=27
  ·subst h27
   go_wp2_with fail
   go_ret2
   exact⟨rfl,rfl⟩
  ·have bB:(0:Int)<=(i:Int):=by omega
   have bz:(i:Int)<27:=by omega
   have bq:i<27:=by omega
   obtain⟨p,ep⟩:=Ak (Ix (kw ks) i (x,y));obtain⟨k0,ek⟩:=Ak (kw ks i);obtain⟨x0,ex⟩:=Ak (p.1);obtain⟨y0,ey⟩:=Ak (p.2);obtain⟨rx,Z⟩:=Ak (rot x0 24);obtain⟨ry,M⟩:=Ak (rot y0 3);obtain⟨sm,es⟩:=Ak (rx+y0);obtain⟨x1,av⟩:=Ak (sm ^^^ k0);obtain⟨y1,O⟩:=Ak (ry ^^^ x1);have ck:w.cell? ⟨b,20+i,none⟩=some (wv k0):=by rw[ek];exact HW.o i bq
   have bs:((rx.toNat:Int)+(y0.toNat:Int)) % 4294967296=(sm.toNat:Int):=by rw[es];exact Gf _ _
   have bx:bits .xor .u32 (sm.toNat:Int) (k0.toNat:Int)=(x1.toNat:Int):=by rw[av];exact Bu _ _
   have ca:bits .xor .u32 (ry.toNat:Int) (x1.toNat:Int)=(y1.toNat:Int):=by rw[O];exact Bu _ _
   have bb:=Yp x0;rw[<-Z] at bb;have bn:=cI y0;rw[<-M] at bn;have hn:Ix (kw ks) (i+1) (x,y)=(x1,y1):=by rw[Ix,<-ep,step,<-ex,<-ey,<-ek,<-Z,<-M,<-es,<-av,<-O]
   rw[<-ep,<-ex,<-ey];have aw:=I hn;clear hn;have hh:=I bq;clear ep ek ex ey Z M es av O hi h27
   go_wp2_with (first | (go_at_call 248;refine Aj (bb _) ?_;rintro w' rfl) | (go_at_call 249;refine Aj (bn _) ?_;rintro w' rfl))
   go_round
   case rel=>exact⟨i+1,by have:=hh.o;omega,by go_num,by rw[aw.o],by rw[aw.o]⟩
   case measure=>have:=hh.o;simp [intOf];omega
theorem Blk.new_of (w:World) (g:Nat) (t:TypeId) (cs M:Array Value) (e:cs=M) (O:w.heap.size=g):Blk (w.alloc (.cells cs t)) g t M:=O▸e▸Blk.new w t cs
theorem AS {B:Nat} {a w:World} (h:Below B a w) {p:Addr} (hp:B<=p.block) (u:Value):Below B a (w.setCell p u):=
 ⟨h.os,h.tape,h.output,by simpa [World.setCell] using h.size,fun i hi=>(Below.heap_setCell w p u i (by omega)).trans (h.block i hi)⟩
theorem Au {P:Program} {fn:Func} {tmps:Array Value} {w:World} {v:Value} (t:Nat) (ty:TypeId) (a:Addr) (M:fn.results=#[.cell t ty]) (ht:tmps.getD t undef=.pointer (some a)) (Z:(loadVar ty a).run P w=.ok v w) :
  (results fn tmps).run P w=.ok v w:=by
 have O:tmps[t]?.getD undef=.pointer (some a):=by simpa using ht
 simp [results,M,O,asAddr,Z]
theorem Ao {P:Program} {w:World} {g:Nat} {t ty:TypeId} {cs:Array Value} {d:TypeDesc} (h:Blk w g t cs) (hu:P.underlying ty=some d) (O:d.isRow=true) (hi:(P.info? ty).map (·.size)=some cs.size) :
  (loadVar ty ⟨g,0,none⟩).run P w=.ok (.agg cs) w:=by
 have M:w.rangeAt g 0 cs.toList:=fun j v Z=>by rw[Nat.zero_add,h.cell];simpa using Z
 have:=run_loadVar_mid (P:=P) w g 0 ty cs.toList d M hu O (by simpa using hi)
 simpa using this
def AR (ks:Nat->UInt8):Array Value:=((List.range 16).map (fun i=>bv (ks i))).toArray
theorem Hy (ks:Nat->UInt8) (w:World):Calls Tryz.prog 246 #[.agg (AR ks)] w fun e w'=>∃b,e=.returned (.pointer (some ⟨b,0,none⟩))/\w.heap.size<=b/\Key w' b ks false/\Below w.heap.size w w':=by
 have hk:AR ks=#[bv (ks 0),bv (ks 1),bv (ks 2),bv (ks 3),bv (ks 4),bv (ks 5),bv (ks 6),bv (ks 7),bv (ks 8),bv (ks 9),bv (ks 10),bv (ks 11),bv (ks 12),bv (ks 13),bv (ks 14),bv (ks 15)]:=rfl;rw[hk];simp only[bv];clear hk;go_enter Tryz.func246,Tryz.ntmps246
 go_wp2
 go_ret;exact⟨w.heap.size+1,rfl,Nat.le_succ _,Blk.new_of (w.alloc _) _ 319 _ (Cv ks 0 0 0 Hx) (by kernel_rfl) (by simp),((Below.refl w.heap.size w).alloc Ag _).alloc (by simp) _⟩
def Ee (K:Nat->Wd) (up lo:Wd) (n m:Nat):Array Value:=((List.range n).map fun i=>if i<m then bv (Fb K up lo i) else bv 0).toArray
theorem Tq (K:Nat->Wd) (up lo:Wd) (n m i:Nat) (h:i<n):(Ee K up lo n m)[i]? = some (if i<m then bv (Fb K up lo i) else bv 0):=by
 rw[Ee,List.getElem?_toArray];simp [h]
theorem Oj (K:Nat->Wd) (up lo:Wd) (n:Nat):Dg n=Ee K up lo n 0:=by
 unfold Dg Ee
 congr 1
 apply List.ext_getElem?;intro j;rw[List.getElem?_map];rcases Nat.lt_or_ge j n with h | h
 ·simp [h]
 ·rw[List.getElem?_eq_none (by simpa using h),List.getElem?_eq_none (by simpa using h)];rfl
theorem QL (K:Nat->Wd) (up lo:Wd) (n m:Nat) (h:m<n):(Ee K up lo n m).setIfInBounds m (bv (Fb K up lo m))=Ee K up lo n (m+1):=by
 unfold Ee;rw[List.setIfInBounds_toArray]
 congr 1
 apply List.ext_getElem?;intro j;rw[List.getElem?_set,List.getElem?_map,List.getElem?_map]
 by_cases hj:m=j
 ·subst hj;simp [h]
 ·rw[if_neg hj]
  rcases Nat.lt_or_ge j n with M | M
  ·have e:(j<m)=(j<m+1):=propext ⟨by omega,by omega⟩
   simp [M,e]
  ·rw[List.getElem?_eq_none (by simpa using M)];rfl
theorem QM (K:Nat->Wd) (up lo:Wd) (n m:Nat) (h:n<=m):Ee K up lo n m=(bvs (strm K up lo n)).toArray:=by
 unfold Ee strm bvs;rw[List.map_map]
 congr 1
 apply List.map_congr_left;intro j M;rw[if_pos (by have:=List.mem_range.1 M;omega)];rfl
theorem WA (K:Nat->Wd) (up lo:Wd) (i:Nat):Kb K up lo i<18446744073709551616:=by
 have O:=Gu (Cc K (up,lo+BitVec.ofNat 32 i)).1;have M:=Gu (Cc K (up,lo+BitVec.ofNat 32 i)).2;unfold Kb;omega
theorem ZL (K:Nat->Wd) (up lo:Wd) (n j g c:Nat) (w:World) (h8:8*j<n) (hn:n<=2147483647) (hB:Blk w g 5 (Ee K up lo n (8*j))) :
  Calls Tryz.prog 222 #[.slice (some ⟨g,8*j,none⟩) (n - 8*j) c,.int .u64 (Kb K up lo j:Nat)] w fun e w'=>e=.returned (.tuple #[])/\Blk w' g 5 (Ee K up lo n (min (8*j+8) n))/\w.grownBy w' (some g):=by
 obtain⟨X,eX⟩:=Ak (Kb K up lo j);obtain⟨L,eL⟩:=Ak (n - 8*j);obtain⟨M,eM⟩:=Ak (min L 8);obtain⟨o,eo⟩:=Ak (8*j);rw[<-eX,<-eL,<-eo];rw[<-eo] at hB;have hX:X<18446744073709551616:=eX▸WA K up lo j;have aw:min (L:Int) 8=(M:Int):=by omega
 have EX:=I eX;clear eX;have EL:=I eL;clear eL;have EM:=I eM;clear eM;have EO:=I eo;clear eo;have HB:=I hB;clear hB;have H8:=I h8;clear h8;have HN:=I hn;clear hn;go_enter Tryz.func222,Tryz.ntmps222
 go_upto_region 0 with fail
 go_cut [7,8] from 5 to 8 (fun mv zv wx=>mv=.int .i64 (M:Int)/\zv=.int .i64 0/\wx=w)
 case first=>
  go_wp2_with fail
  all_goals go_meet
  all_goals exact⟨congrArg (Value.int .i64) (by omega),rfl,rfl⟩
 obtain⟨rfl,rfl,rfl⟩:=hcut;clear aw
 go_wp2_with fail
 go_loopw [8] (fun iv wr=>∃i:Nat,i<=M/\iv=.int .i64 (i:Int)/\Blk wr g 5 (Ee K up lo n (o+i))/\wc.grownBy wr (some g)) (fun iv _=>M - (intOf iv).toNat)
 case atStart=>exact⟨0,Nat.zero_le _,rfl,HB.o,World.grownBy.refl _ _⟩
 case round=>
  obtain⟨i,hi,rfl,hB,hg⟩:=hrel
  by_cases hM:i=M
  ·have e1:decide ((i:Int)<(M:Int))=false:=by simp;omega
   have e2:¬i<M:=by omega
   have Z:=I hB;clear hB;have O:=I hg;clear hg;have HM:=I hM;clear hM
   go_wp2_with fail
   go_end0
   refine⟨rfl,?_,O.o⟩;have e:o+i=min (o+8) n:=by have:=EM.o;have:=EL.o;have:=EO.o;have:=H8.o;have:=HM.o;omega
   rw[<-e];exact Z.o
  ·have e1:(i:Int)<(M:Int):=by omega
   have e2:i<M:=by omega
   have e3:i<L:=by have:=EM.o;omega
   have e4:(i:Int)<(L:Int):=by omega
   have e5:(0:Int)<=(i:Int):=by omega
   have e6:i<8:=by have:=EM.o;omega
   have av:o+i<n:=by have:=EM.o;have:=EL.o;have:=EO.o;omega
   have hy:=hB.cell (o+i);rw[Tq _ _ _ _ _ _ av,if_neg (by omega)] at hy;simp only[bv] at hy;have fz:=hB.frozen;have Z:=I hB;clear hB;have O:=I hg;clear hg;clear hM
   go_wp2_with fail
   go_roundw
   case rel=>
    refine⟨i+1,by omega,by go_num,?_,AM O.o (.inl rfl) _⟩;have hs:=Z.o.set (o+i) (bv (Fb K up lo (o+i)));rw[QL K up lo n (o+i) av] at hs;have hv:bv (Fb K up lo (o+i))=.int .u8 ((X:Int) / 2 ^ (8*i) % 256):=by
     have q1:(o+i) / 8=j:=by have:=EO.o;omega
     have q2:(o+i) % 8=i:=by have:=EO.o;omega
     have q3:(2:Nat) ^ (8*i)=256 ^ i:=by rw[Nat.pow_mul]
     unfold bv Fb;rw[q1,q2,<-EX.o,UInt8.toNat_ofNat',<-q3]
     congr 1
    rw[hv] at hs;exact hs
   case measure=>simp [intOf];omega
theorem QN (b:Option Addr) (N:Int) (n:Int) (w:World) (h:b=none\/n<1) :
  Calls Tryz.prog 172 #[.pointer b,.int .u64 N,.int .i64 n] w fun e w'=>e=.returned (.slice none 0 0)/\w'=w:=by
 by_cases hb:b=none
 ·subst hb
  clear h;go_enter Tryz.func172,Tryz.ntmps172
  go_wp2
  go_ret;exact⟨rfl,rfl⟩
 ·have M:n<1:=h.resolve_left hb
  have O:decide (n<1)=true:=by simpa using M
  cases b with
  |none=>exact absurd rfl hb
  |some a=>
   clear hb h;go_enter Tryz.func172,Tryz.ntmps172
   go_wp2
   go_ret;exact⟨rfl,rfl⟩
theorem Cp:(Tryz.prog.info? 5).map (fun i=>(i.zero,i.size,i.bytes))=some (some (.int .u8 0),1,1):=by kernel_rfl
def upW (N:Nat):Wd:=BitVec.ofNat 32 (N / 4294967296)
def loW (N:Nat):Wd:=BitVec.ofNat 32 N
theorem WC (x y:Wd):bits .or .u64 ((y.toNat:Int)*4294967296 % 18446744073709551616) (x.toNat:Int)=((x.toNat+4294967296*y.toNat:Nat):Int):=by
 have M:=Gu x;have O:=Gu y;have e:(y.toNat:Int)*4294967296 % 18446744073709551616=((y.toNat*4294967296:Nat):Int):=by omega
 rw[e,u64_or_nat _ _ (by omega) (by omega),nat_join 32 (y.toNat*4294967296) x.toNat (by omega) (by omega)];omega
theorem QO (b:Nat) (ks:Nat->UInt8) (m:Bool) (N n:Nat) (nv:Int) (w:World) (cL:nv=(n:Int)) (cj:1<=n) (cg:n<=1000000) (hN:N<18446744073709551616) (hK:Key w b ks m) :
  Calls Tryz.prog 172 #[.pointer (some ⟨b,0,none⟩),.int .u64 (N:Int),.int .i64 nv] w fun e w'=>∃g,e=.returned (.slice (some ⟨g,0,none⟩) n n)/\w.heap.size<=g/\
   Blk w' g 5 (bvs (strm (kw ks) (upW N) (loW N) n)).toArray/\Key w' b ks true/\w.grownBy w' (some b)/\(m=true->Below w.heap.size w w'):=by
 subst cL;have cn:=Ha b ks m w hK;have av:=hK.lt;have i1:decide ((n:Int)<1)=false:=by simp;omega
 have i2:decide (2147483647<(n:Int))=false:=by simp;omega
 have i3:¬(n:Int)<1:=by omega
 have i4:¬2147483647<(n:Int):=by omega
 have bb:(N:Int) / 4294967296 % 4294967296=((upW N).toNat:Int):=by rw[upW,BitVec.toNat_ofNat];omega
 have bn:(N:Int) % 4294967296=((loW N).toNat:Int):=by rw[loW,BitVec.toNat_ofNat];omega
 obtain⟨up,bs⟩:=Ak (upW N);obtain⟨lo,aw⟩:=Ak (loW N);rw[<-bs] at bb;rw[<-aw] at bn;rw[<-bs,<-aw];obtain⟨it,cM,cT,cu,cQ⟩:=info_parts Cp;have cZ:=fun W=>Gh (P:=Tryz.prog) (t:=22) (e:=5) Tryz.underlying22 cM cT cu cQ (n:Int) n rfl (by omega) W
 have N1:=I cj;clear cj;have N2:=I cg;clear cg;have BL:=I av;clear av;clear hK hN bs aw;go_enter Tryz.func172,Tryz.ntmps172
 go_wp2_with (first | (go_at_call 220;refine Aj cn ?_;rintro w2 ⟨cm,cf,ca⟩;have bB:=I cm;clear cm;have cd:=I cf;clear cf;have cA:=I ca;clear ca))
 rw[bb,bn];clear bb bn;obtain⟨g,eg⟩:=Ak (w2.heap.size);rw[<-eg];have EG:=I eg;clear eg
 go_loopw [9,10] (fun lv iv wr=>∃j:Nat,8*j<n+8/\iv=.int .i64 ((8*j:Nat):Int)/\lv=wv (lo+BitVec.ofNat 32 j)/\Blk wr g 5 (Ee (kw ks) up lo n (min (8*j) n))/\Below g w2 wr) (fun _ iv _=>n+8 - (intOf iv).toNat)
 case atStart=>
  refine⟨0,by omega,rfl,?_,?_,?_⟩
  ·show Value.int .u32 _=_
   simp
  ·have:=Oj (kw ks) up lo n
   rw[show min (8*0) n=0 by omega,<-this,EG.o];exact Blk.new w2 _ _
  ·rw[EG.o];exact Ah.alloc Ag _
 case round=>
  obtain⟨j,hj,rfl,rfl,hB,hb⟩:=hrel;obtain⟨o,eo⟩:=Ak (8*j);rw[<-eo] at hB hj⊢;obtain⟨l0,O⟩:=Ak (lo+BitVec.ofNat 32 j);rw[<-O]
  by_cases hd:n<=o
  ·have e1:decide ((o:Int)<(n:Int))=false:=by simp;omega
   have e2:¬o<n:=by omega
   have cb:=I hB;clear hB;have M:=I hb;clear hb;clear hj hd O
   go_wp2_with fail
   go_ret;have cR:Key wr b ks true:=bB.o.below (EG.o▸M.o);have cw:w.grownBy wr (some b):=IZ cd.o (EG.o▸M.o);refine⟨g,rfl,?_,?_,cR,cw,?_⟩
   ·rw[EG.o];exact cd.o.size
   ·have:=cb.o
    rw[Nat.min_eq_right (by omega),QM _ _ _ _ _ Ag] at this;exact this
   ·intro hm
    have h2:=cA.o hm;subst h2;exact EG.o▸M.o
  ·have e1:(o:Int)<(n:Int):=by omega
   have e2:o<n:=by omega
   have e3:(0:Int)<=(o:Int):=by omega
   have e4:(o:Int)<=(n:Int):=by omega
   have e5:o<=n:=by omega
   obtain⟨x0,ex⟩:=Ak ((Cc (kw ks) (up,l0)).1);obtain⟨Z,ey⟩:=Ak ((Cc (kw ks) (up,l0)).2);obtain⟨l1,bq⟩:=Ak (lo+BitVec.ofNat 32 (j+1));have hX:Kb (kw ks) up lo j=x0.toNat+4294967296*Z.toNat:=by rw[Kb,<-O,<-ex,<-ey]
   obtain⟨X,eX⟩:∃X:Nat,X=Kb (kw ks) up lo j:=⟨_,rfl⟩;have bz:Key wr b ks true:=bB.o.below (EG.o▸hb);have ct:=Li b ks up l0 wr bz;rw[<-ex,<-ey] at ct;have bx:Blk wr g 5 (Ee (kw ks) up lo n (8*j)):=by rw[Nat.min_eq_left e5,eo] at hB;exact hB
   have cp:=ZL (kw ks) up lo n j g (n - 8*j) wr (eo▸e2) (by have:=N2.o;omega) bx;rw[<-eo,<-eX] at cp;have cy:(Z.toNat:Int) % 18446744073709551616=(Z.toNat:Int):=by have:=Gu Z;omega
   have cx:(x0.toNat:Int) % 18446744073709551616=(x0.toNat:Int):=by have:=Gu x0;omega
   have cB:bits .or .u64 ((Z.toNat:Int)*4294967296 % 18446744073709551616) (x0.toNat:Int)=(X:Int):=by rw[eX,hX];exact WC x0 Z
   have cX:bits .or .u64 ((Z.toNat:Int)*4294967296) (x0.toNat:Int)=(X:Int):=by
    have hm:(Z.toNat:Int)*4294967296 % 18446744073709551616=(Z.toNat:Int)*4294967296:=by have:=Gu Z;omega
    rw[<-hm];exact cB
   have cl:((l0.toNat:Int)+1) % 4294967296=(l1.toNat:Int):=by
    rw[bq,O,BitVec.toNat_add,BitVec.toNat_add,BitVec.toNat_ofNat,BitVec.toNat_ofNat];omega
   have cb:=I hB;clear hB;have M:=I hb;clear hb;have HX:=I eX;clear eX;have cr:=I bq;clear bq;have HO:=I eo;clear eo;have cY:=I e5;clear hX bz bx ex ey O hj hd
   go_wp2_with (first | (go_at_call 221;refine Aj ct ?_;rintro w' rfl) | (go_at_call 222;refine Aj cp ?_;rintro w3 ⟨cc,ck⟩;have cP:=I cc;clear cc;have cq:=I ck;clear ck))
   go_roundw
   case rel=>
    refine⟨j+1,by have:=HO.o;omega,?_,by rw[<-cr.o];exact congrArg (Value.int .u32) cl,?_,?_⟩
    ·exact congrArg (Value.int .i64) (by have:=HO.o;omega)
    ·have:=cP.o
     rw[show o+8=8*(j+1) by have:=HO.o;omega] at this;exact this
    ·exact Below.grown M.o cq.o (by rw[EG.o];exact M.o.size) (fun k hk=>by injection hk with hk;omega)
   case measure=>have:=HO.o;simp [intOf];omega
def ksOf (l:List UInt8) (i:Nat):UInt8:=l.getD i 0
def ksTo (l:List UInt8) (n:Nat) (i:Nat):UInt8:=if i<n then l.getD i 0 else 0
theorem FU (f:Nat->UInt8) (j:Nat) (M:j<16):(AR f)[j]? = some (bv (f j)):=by
 rw[AR,List.getElem?_toArray];simp [M]
theorem Ju {f g:Nat->UInt8} (h:∀j,j<16->f j=g j):AR f=AR g:=by
 unfold AR
 congr 1
 apply List.map_congr_left;intro j M;rw[h j (by simpa using M)]
def AZ (W:Nat->Wd):Array Value:=((List.range 27).map (fun j=>wv (W j))).toArray
theorem FW (W:Nat->Wd) (i:Nat) (h:i<27):(AZ W)[i]? = some (wv (W i)):=by
 rw[AZ,List.getElem?_toArray];simp [h]
theorem Jv (W:Nat->Wd) (i:Nat) (v:Wd):(AZ W).setIfInBounds i (wv v)=AZ (upd W i v):=by
 unfold AZ;rw[List.setIfInBounds_toArray]
 congr 1
 apply List.ext_getElem?;intro j;rw[List.getElem?_set,List.getElem?_map,List.getElem?_map]
 by_cases hj:i=j
 ·subst hj
  rcases Nat.lt_or_ge i 27 with h | h
  ·simp [h,upd]
  ·simp [Nat.not_lt.2 h]
 ·rw[if_neg hj]
  have M:¬j=i:=fun h=>hj h.symm
  rcases Nat.lt_or_ge j 27 with h | h
  ·simp [h,upd,M]
  ·rw[List.getElem?_eq_none (by simpa using h)];rfl
def kz (ks:Nat->UInt8) (i j:Nat):UInt8:=if j<i then ks j else 0
theorem Ok (ks:Nat->UInt8) (i j:Nat) (h:j<i):kz ks i j=ks j:=if_pos h
theorem Ol (ks:Nat->UInt8) (i j:Nat) (h:i<=j):kz ks i j=0:=if_neg (by omega)
def Gg (ks:Nat->UInt8) (t i:Nat):Wd:=Fu (kz ks i) t
def Jw (ks:Nat->UInt8) (i:Nat):Array Value:=#[wv (Gg ks 0 i),wv (Gg ks 1 i),wv (Gg ks 2 i),wv (Gg ks 3 i)]
theorem Bw (ks:Nat->UInt8) (t i:Nat) (h:t≠i / 4):Gg ks t (i+1)=Gg ks t i:=by
 have e:∀j,j / 4=t->kz ks (i+1) j=kz ks i j:=fun j M=>by
  unfold kz
  by_cases h2:j<i
  ·rw[if_pos h2,if_pos (by omega)]
  ·rw[if_neg h2,if_neg (by omega)]
 unfold Gg Fu;rw[e _ (by omega),e _ (by omega),e _ (by omega),e _ (by omega)]
theorem QP (ks:Nat->UInt8) (q r i:Nat) (M:r<4) (hi:i=4*q+r):bits .or .u32 ((Gg ks q i).toNat:Int) (((ks i).toNat:Int)*2 ^ (8*r) % 4294967296)=((Gg ks q (i+1)).toNat:Int):=by
 have hk:=(ks i).toNat_lt;have O:=(ks (4*q)).toNat_lt;have l1:=(ks (4*q+1)).toNat_lt;have l2:=(ks (4*q+2)).toNat_lt;have l3:=(ks (4*q+3)).toNat_lt;have h:r=0\/r=1\/r=2\/r=3:=by omega
 have z:(0:UInt8).toNat=0:=rfl;unfold Gg Fu;rcases h with rfl | rfl | rfl | rfl
 ·subst hi
  have e:((ks (4*q+0)).toNat:Int)*2 ^ (8*0) % 4294967296=(((ks (4*q)).toNat:Nat):Int):=by simp only[Nat.add_zero];omega
  rw[e,u32_or_nat _ _ (BitVec.isLt _) (by omega),DD,DD];simp (disch:=omega) only[Ok,Ol,z];simp
 ·subst hi
  have e:((ks (4*q+1)).toNat:Int)*2 ^ (8*1) % 4294967296=(((ks (4*q+1)).toNat*256:Nat):Int):=by omega
  rw[e,u32_or_nat _ _ (BitVec.isLt _) (by omega),Nat.or_comm,nat_join 8 _ _ (by omega) (by rw[DD];simp (disch:=omega) only[Ok,Ol,z];omega),DD,DD];simp (disch:=omega) only[Ok,Ol,z];omega
 ·subst hi
  have e:((ks (4*q+2)).toNat:Int)*2 ^ (8*2) % 4294967296=(((ks (4*q+2)).toNat*65536:Nat):Int):=by omega
  rw[e,u32_or_nat _ _ (BitVec.isLt _) (by omega),Nat.or_comm,nat_join 16 _ _ (by omega) (by rw[DD];simp (disch:=omega) only[Ok,Ol,z];omega),DD,DD];simp (disch:=omega) only[Ok,Ol,z];omega
 ·subst hi
  have e:((ks (4*q+3)).toNat:Int)*2 ^ (8*3) % 4294967296=(((ks (4*q+3)).toNat*16777216:Nat):Int):=by omega
  rw[e,u32_or_nat _ _ (BitVec.isLt _) (by omega),Nat.or_comm,nat_join 24 _ _ (by omega) (by rw[DD];simp (disch:=omega) only[Ok,Ol,z];omega),DD,DD];simp (disch:=omega) only[Ok,Ol,z];omega
theorem Hb (ks:Nat->UInt8) (t:Nat) (h:t<4):Gg ks t 16=Fu ks t:=by
 unfold Gg Fu kz;rw[if_pos (by omega),if_pos (by omega),if_pos (by omega),if_pos (by omega)]
theorem FF (ks:Nat->UInt8) (q i:Nat) (h:q<4):(Jw ks i)[q]? = some (wv (Gg ks q i)):=by
 have M:q=0\/q=1\/q=2\/q=3:=by omega
 rcases M with rfl | rfl | rfl | rfl<;>rfl
theorem QQ (ks:Nat->UInt8) (i:Nat) (h:i<16):(Jw ks i).setIfInBounds (i / 4) (wv (Gg ks (i / 4) (i+1)))=Jw ks (i+1):=by
 have M:i / 4=0\/i / 4=1\/i / 4=2\/i / 4=3:=by omega
 unfold Jw;rcases M with e | e | e | e<;>rw[e]
 ·rw[Bw ks 1 i (by omega),Bw ks 2 i (by omega),Bw ks 3 i (by omega)];rfl
 ·rw[Bw ks 0 i (by omega),Bw ks 2 i (by omega),Bw ks 3 i (by omega)];rfl
 ·rw[Bw ks 0 i (by omega),Bw ks 1 i (by omega),Bw ks 3 i (by omega)];rfl
 ·rw[Bw ks 0 i (by omega),Bw ks 1 i (by omega),Bw ks 2 i (by omega)];rfl
theorem Hc (w:World) (t:TypeId) (cs:Array Value) (l:List Value) (h:cs.toList=l) (N:Nat) (M:w.heap.size=N):Rd (w.alloc (.cells cs t)) (N+1) (some ⟨N,0,none⟩) l:=by
 subst M;refine .inr ⟨w.heap.size,0,rfl,by omega,fun i u hu=>?_⟩;rw[Nat.zero_add,(Blk.new w t cs).cell i];rw[<-h] at hu
 simpa using hu
theorem MA {w:World} {base:Nat} {t:TypeId} {v:Value} {n:Nat} {xs:List Value} (h:w.ownsRow base t 1 v n xs) (hn:0<n):∃g cap,v=.slice (some ⟨g,0,none⟩) n cap/\base<=g/\g<w.heap.size/\∀i u,xs[i]? = some u->w.cell? ⟨g,i,none⟩=some u:=by
 obtain⟨hl,h | ⟨g,cap,cur,rfl,O,M,av,bb,aw,Z⟩⟩:=h
 ·omega
 ·refine⟨g,cap,rfl,O,Blk.lt (t:=t) (cs:=cur) M,fun i u hu=>?_⟩
  rw[Blk.cell (t:=t) (cs:=cur) M i];rw[<-Z,List.getElem?_take] at hu
  split at hu
  ·simpa using hu
  ·cases hu
theorem Fe {w w':World} {base:Nat} {t:TypeId} {v:Value} {n:Nat} {xs:List Value} {o:Obj} (h:w.ownsRow base t 1 v n xs) (e:w'.heap=w.heap.push o):w'.ownsRow base t 1 v n xs:=by
 obtain⟨Z,h | ⟨g,cap,cur,hv,hg,M,hr⟩⟩:=h
 ·exact⟨Z,.inl h⟩
 ·refine⟨Z,.inr ⟨g,cap,cur,hv,hg,?_,hr⟩⟩
  have O:=Blk.lt (t:=t) (cs:=cur) M;rw[e,Array.getElem?_push_lt O,<-Array.getElem?_eq_getElem O];exact M
theorem ZM {w:World} {base:Nat} {t:TypeId} {v:Value} {n:Nat} {xs:List Value} (h:w.ownsRow base t 1 v n xs) (p:Addr) (u:Value) (hp:p.block<base):(w.setCell p u).ownsRow base t 1 v n xs:=by
 obtain⟨O,h | ⟨g,cap,cur,hv,Z,M,hr⟩⟩:=h
 ·exact⟨O,.inl h⟩
 ·exact⟨O,.inr ⟨g,cap,cur,hv,Z,(Below.heap_setCell w p u g (by omega)).trans M,hr⟩⟩
theorem MC {w w':World} {u0:Value} {t:TypeId} (e:w'.heap=w.heap.push (.cells #[u0] t (0,0))):∀j u,[u0][j]? = some u->w'.cell? ((⟨w.heap.size,0,none⟩:Addr).add j)=some u:=by
 intro j u hu;have M:Blk w' w.heap.size t #[u0]:=by unfold Blk;rw[e];simp
 rw[addr_add,Nat.zero_add,M.cell]
 simpa using hu
def lrow (ks:Nat->UInt8) (n:Nat):List Value:=(List.range n).map (fun j=>wv (lw ks j))
theorem Ts (ks:Nat->UInt8) (n i:Nat) (h:i<n):(lrow ks n)[i]? = some (wv (lw ks i)):=by simp [lrow,h]
theorem Tu (ks:Nat->UInt8) (n:Nat):lrow ks n++[wv (lw ks n)]=lrow ks (n+1):=by simp [lrow,List.range_succ]
theorem WD:(Tryz.prog.info? 93).map (fun i=>(i.zero,i.size,i.bytes))=some (some (.int .u32 0),1,4):=by kernel_rfl
theorem Lj {f g:Nat->Wd} (h:∀j,j<27->f j=g j):AZ f=AZ g:=by
 unfold AZ
 congr 1
 apply List.map_congr_left;intro j M;rw[h j (by simpa using M)]
theorem Ad {w:World} {g:Nat} {t:TypeId} {cs:Array Value} (h:Blk w g t cs):w.rangeAt g 0 cs.toList:=fun j v M=>by
 rw[Nat.zero_add,h.cell];simpa using M
theorem Ar {w:World} {g:Nat} {t:TypeId} {cs:Array Value} (h:Blk w g t cs):w.there g 0 cs.size:=fun j M=>by
 rw[Nat.zero_add];exact⟨by rw[h.cell,Array.getElem?_eq_getElem M];rfl,h.frozen j⟩
theorem Br {B:Nat} {a:World} (b:Nat) (M:B<=b):∀(O:List Value) (o:Nat) (w:World),Below B a w->Below B a (w.setCells b o O)
 | [],_,_,h=>h
 |v :: r,o,w,h=>Br b M r (o+1) _ (AS h M v)
theorem cJ (ks:Nat->UInt8) (w:World):Calls Tryz.prog 77 #[.agg (AR ks)] w fun e w'=>e=.returned (.agg (AZ (kw ks)))/\Below w.heap.size w w':=by
 obtain⟨B,eB⟩:=Ak (w.heap.size);rw[<-eB];have EB:=I eB;go_enter Tryz.func77,Tryz.ntmps77
 go_wp2_with fail
 rw[<-eB];clear eB
 go_loopw [4] (fun iv wr=>∃i:Nat,i<=16/\iv=.int .i64 (i:Int)/\Below B w wr/\wr.heap.size=B+3/\Blk wr B 166 (AR ks)/\Blk wr (B+1) 188 (AZ Hx)/\Blk wr (B+1+1) 213 (Jw ks i)) (fun iv _=>16 - (intOf iv).toNat)
 case atStart=>
  have e1:=EB.o;refine⟨0,by decide,rfl,?_,by simp;omega,?_,?_,?_⟩
  ·rw[e1];exact(((Below.refl w.heap.size w).alloc Ag _).alloc (by simp) _).alloc (by simp;omega) _
  ·exact Blk.alloc (Blk.alloc (Blk.new_of w B _ _ _ rfl e1.symm) _) _
  ·exact Blk.alloc (Blk.new_of (w.alloc _) (B+1) _ _ (AZ Hx) (by kernel_rfl) (by simp;omega)) _
  ·exact Blk.new_of _ (B+1+1) _ _ (Jw ks 0) (by kernel_rfl) (by simp;omega)
 case round=>
  obtain⟨i,hi,rfl,hb,aw,cg,Z,O⟩:=hrel;have HB:=I hb;clear hb;have cy:=I cg;have bb:=I Z;have bq:=I O;have HS:=I aw
  by_cases h16:i=16
  ·subst h16
   have HI:=I hi;clear hi;clear cg Z O
   go_upto_region 6 with fail
   go_cut [5] from 8 to 28 (fun kp wx=>kp=.pointer (some ⟨B+3,0,none⟩)/\Below B w wx/\wx.heap.size=B+4/\Blk wx (B+1) 188 (AZ Hx)/\Blk wx (B+1+1) 213 (Jw ks 16)/\Blk wx (B+3) 188 (AZ Hx))
   case first=>
    go_wp2_with fail
    go_meet
    have e1:=HS.o;exact⟨rfl,HB.o.alloc (by omega) _,by simp;omega,Blk.alloc bb.o _,Blk.alloc bq.o _,Blk.new_of wr (B+3) _ _ (AZ Hx) (by kernel_rfl) e1⟩
   case rest=>
    clear aw HB cy bb bq HS;obtain⟨rfl,hb,aw,Z,O,av⟩:=hcut;have HB:=I hb;clear hb;have bb:=I Z;clear Z;have bq:=I O;have cc:=I av;have HS:=I aw;obtain⟨w0,e0⟩:∃v,v=Fu ks 0:=⟨_,rfl⟩;obtain⟨w1,e1⟩:∃v,v=Fu ks 1:=⟨_,rfl⟩;obtain⟨w2,e2⟩:∃v,v=Fu ks 2:=⟨_,rfl⟩;obtain⟨w3,e3⟩:∃v,v=Fu ks 3:=⟨_,rfl⟩;have c0:wc.cell? ⟨B+1+1,0,none⟩=some (wv w0):=by rw[O.cell,FF _ _ _ (by decide),Hb _ _ (by decide),e0]
    have c1:wc.cell? ⟨B+1+1,1,none⟩=some (wv w1):=by rw[O.cell,FF _ _ _ (by decide),Hb _ _ (by decide),e1]
    have c2:wc.cell? ⟨B+1+1,2,none⟩=some (wv w2):=by rw[O.cell,FF _ _ _ (by decide),Hb _ _ (by decide),e2]
    have c3:wc.cell? ⟨B+1+1,3,none⟩=some (wv w3):=by rw[O.cell,FF _ _ _ (by decide),Hb _ _ (by decide),e3]
    have k0:wc.cell? ⟨B+3,0,none⟩=some (wv 0):=by rw[av.cell];exact FW _ _ (by decide)
    have f0:=av.frozen;clear O av
    go_wp2_with fail
    have F0:=cc.o.set 0 (wv (kw ks 0));rw[Jv,Iu] at F0;have F1:=Blk.far bb.o ⟨B+3,0,none⟩ (wv (kw ks 0)) (by simp);have F2:Below B w (wc.setCell ⟨B+3,0,none⟩ (wv (kw ks 0))):=AS HB.o (by simp) _;have S0:(wc.setCell ⟨B+3,0,none⟩ (wv (kw ks 0))).heap.size=B+4:=by simpa [World.setCell] using HS.o
    have F3:=I F0;clear F0;have F4:=I F1;clear F1;have F5:=I F2;clear F2;have S1:=I S0;clear S0;have ej:=Gf;clear c0 c1 c2 c3 k0 f0 aw e0 e1 e2 e3 HB bb bq cc HS w0 w1 w2 w3 ej
    go_loopw [6,7] (fun lv iv wr=>∃i:Nat,i<=26/\iv=.int .i64 (i:Int)/\Below B w wr/\B+4<=wr.heap.size/\Blk wr (B+1) 188 (AZ Hx)/\Blk wr (B+3) 188 (AZ (Bp ks i))/\wr.ownsRow (B+4) 93 1 lv (i+3) (lrow ks (i+3))) (fun _ iv _=>26 - (intOf iv).toNat)
    case atStart=>
     refine⟨0,by decide,rfl,?_,?_,Blk.alloc F4.o _,Blk.alloc F3.o _,?_⟩
     ·exact F5.o.alloc (by have:=S1.o;omega) _
     ·simp;have:=S1.o;simp at this;omega
     ·refine⟨rfl,.inr ⟨B+4,3,_,rfl,Nat.le_refl _,Blk.new_of _ (B+4) _ _ _ rfl S1.o,Nat.le_refl _,by decide,rfl,rfl⟩⟩
    case round=>
     obtain⟨i,hi,rfl,hb,aw,Z,av,bn⟩:=hrel;have HB:=I hb;clear hb;have HS:=I aw;clear aw
     by_cases h26:i=26
     ·subst h26
      obtain⟨cs,bx⟩:=Ak (AZ (Bp ks 26));rw[<-bx] at av;have cn:cs.size=27:=by rw[bx];simp [AZ]
      have ez:(AZ Hx).size=27:=by simp [AZ]
      have hR:wr.rangeAt (B+3) 0 cs.toList:=Ad av;have hT:wr.there (B+1) 0 cs.size:=by
       have:=Ar Z
       rwa [ez,<-cn] at this
      have cb:(Tryz.prog.info? 188).map (·.size)=some cs.size:=by rw[cn];kernel_rfl
      have cj:(Tryz.prog.info? 188).map (·.size)=some cs.toList.length:=by rw[Array.length_toList];exact cb
      have cL:cs.all (·.oneCell')=true:=by rw[bx];simp [AZ,Value.oneCell']
      have EC:Hid (cs=AZ (kw ks)):=by rw[bx];exact Lj (fun j hj=>by rw[Bp,if_pos (by omega)])
      have HI:=I hi;clear hi;have ed:=I cL;clear cL;have HT:=I hT;clear hT;have HR:=I hR;clear hR;have ep:=I cb;clear cb;have cA:=I cj;clear cj;clear Z av bn bx cn ez
      go_wp2_with (first | (refine wpList_load_mid (by rfl) 188 (.tmp 5) (by rfl) (B+3) 0 (by rfl) cs.toList _ HR.o Tryz.underlying188 (by rfl) cA.o ?_) | (refine wpList_store_mid (by rfl) 188 (.tmp 2) (.tmp 71) (by rfl) (B+1) 0 cs (by rfl) (by rfl) HT.o ep.o ed.o ?_) | fail)
      have hq:=run_loadVar_mid (P:=Tryz.prog) (wr.setCells (B+1) 0 cs.toList) (B+1) 0 188 cs.toList _ (World.rangeAt_setCells_same wr (B+1) 0 cs.toList (by rw[Array.length_toList];exact HT.o)) Tryz.underlying188 rfl cA.o;refine bodyPost_ret (v:=.agg cs) ?_ ?_ ?_
      ·exact Au (v:=.agg cs) 2 188 ⟨B+1,0,none⟩ Tryz.results77 (by rfl) hq
      ·rfl
      ·exact⟨by rw[EC.o],Br (B+1) (by omega) _ _ _ HB.o⟩
     ·have i1:(i:Int)<26:=by omega
      have i2:i<26:=by omega
      have i3:(0:Int)<=(i:Int):=by omega
      have i4:(i:Int)<27:=by omega
      have i5:i<27:=by omega
      have i6:(i:Int)+1<27:=by omega
      have i7:i+1<27:=by omega
      obtain⟨n3,cq⟩:=Ak (i+3);rw[<-cq] at bn;obtain⟨g,cap,rfl,hg,cZ,bz⟩:=MA bn (by omega);have n1:(i:Int)<(n3:Int):=by omega
      have n2:i<n3:=by omega
      obtain⟨k0,ek⟩:=Ak (kw ks i);obtain⟨a0,ea⟩:=Ak (lw ks i);obtain⟨v,ev⟩:=Ak (lw ks (i+3));obtain⟨u,eu⟩:=Ak (kw ks (i+1));obtain⟨ci,ec⟩:=Ak (BitVec.ofNat 32 i);obtain⟨ra,era⟩:=Ak (rot a0 24);obtain⟨rk,cp⟩:=Ak (rot k0 3);obtain⟨sm,es⟩:=Ak (k0+ra);have eb:IntKind.u32.wrap (i:Int)=(ci.toNat:Int):=by rw[ec];exact PC i
      have eW:(i:Int) % 4294967296=(ci.toNat:Int):=by rw[<-IntKind.wrap_u32];exact eb
      have cY:((k0.toNat:Int)+(ra.toNat:Int)) % 4294967296=(sm.toNat:Int):=by rw[es];exact Gf _ _
      have eT:IntKind.u32.wrap ((k0.toNat:Int)+(ra.toNat:Int))=(sm.toNat:Int):=by rw[IntKind.wrap_u32];exact cY
      have ff:bits .xor .u32 (sm.toNat:Int) (ci.toNat:Int)=(v.toNat:Int):=by rw[Bu,ev,lw_3,es,era,ek,ea,ec]
      have eV:bits .xor .u32 (rk.toNat:Int) (v.toNat:Int)=(u.toNat:Int):=by rw[Bu,ev,eu,Tj,cp,ek]
      have eP:IntKind.i64.wrap ((i:Int)+1)=(i:Int)+1:=by rw[IntKind.wrap_i64];omega
      have eX:IntKind.i64.wrap ((i:Int)+3)=(n3:Int):=by rw[IntKind.wrap_i64];omega
      have ck:wr.cell? ⟨B+3,i,none⟩=some (wv k0):=by rw[av.cell,FW _ _ i5,Bp,if_pos Ag,ek]
      have ca:wr.cell? ⟨g,i,none⟩=some (wv a0):=by rw[bz i _ (Ts ks n3 i n2),ea]
      have eE:(wr.alloc (.cells #[.int .u32 v.toNat] 93)).cell? ⟨B+3,i,none⟩=some (.int .u32 k0.toNat):=by rw[World.cell?_alloc_past _ _ _ (show(⟨B+3,i,none⟩:Addr).block<wr.heap.size by show B+3<_;have:=HS.o;omega)];exact ck
      have cr:=Tn a0;rw[<-era] at cr;have cB:=Yq k0;rw[<-cp] at cB;obtain⟨ti,eo,eF,cR,ew⟩:=info_parts WD;have HO:=I bn;clear bn;have bb:=I Z;clear Z;have cc:=I av;clear av;have HG:=I hg;clear hg;have EV:=I ev;clear ev;have EU:=I eu;clear eu;have EN:=I cq;clear cq;have HH:=I i2;have HI:=I hi;clear hi;clear ek ea ec era cp es bz h26 cZ
      go_wp2_with fail
      go_region_law (first | (go_simp;go_at_call 107;refine Aj (cr _) ?_;rintro w' rfl) | ((refine step_append_lies _ (by rfl) (.tmp 43) (.tmp 56) 214 (by rfl) (B+4) 93 ti _ 1 4 Tryz.underlying214 eo eF cR ew (by rfl) (by decide) (.slice (some ⟨g,0,none⟩) n3 cap) n3 (lrow ks n3) (by rfl) (Fe HO.o (by rfl)) ⟨wr.heap.size,0,none⟩ 1 1 [.int .u32 v.toNat] (by rfl) (by rfl) (MC (by rfl)) (by simp [Value.oneCell']) (by decide) (by have:=EN.o;have:=HH.o;unfold maxLen;omega) (by have:=EN.o;have:=HH.o;omega) (by have:=HS.o;simp;omega) (wr.heap.size+1) (by simp) ?_;intro g2 cP w2 bs M eK eg)))
      all_goals (
       have cm:w2.ownsRow (B+4) 93 1 (.slice (some ⟨g2,0,none⟩) (n3+1) cP) (n3+1) (lrow ks (n3+1)):=by
        rw[<-Tu,show lw ks n3=v by rw[EN.o,EV.o]];exact bs
       have fi:w2.cell? ⟨g2,n3,none⟩=some (wv v):=by
        obtain⟨gx,cx,ei,_,_,cX⟩:=MA cm (by omega);injection ei with hv1 _ _;injection hv1 with hv1;injection hv1 with hv1 _;subst hv1;rw[cX n3 _ (Ts ks (n3+1) n3 (by omega)),show lw ks n3=v by rw[EN.o,EV.o]]
       have bB:(wr.alloc (.cells #[.int .u32 v.toNat] 93)).grownBy w2 (some g):=⟨M.os,M.tape,M.output,M.size,M.block⟩;have cd:Blk w2 (B+3) 188 (AZ (Bp ks i)):=Blk.grown (Blk.alloc cc.o _) bB (fun h=>by have:=HG.o;injection h with h;omega);have cw:Blk w2 (B+1) 188 (AZ Hx):=Blk.grown (Blk.alloc bb.o _) bB (fun h=>by have:=HG.o;injection h with h;omega);have cM:Below B w w2:=Below.grown (HB.o.alloc (by have:=HS.o;omega) _) bB (by have:=HS.o;simp;omega) (fun k hk=>by have:=HG.o;injection hk with hk;omega);have cQ:B+4<=w2.heap.size:=by have h1:=bB.size;have h2:=HS.o;simp at h1;omega
       have fz:w2.cell? ⟨B+3,i,none⟩=some (wv k0):=by
        have e1:=cc.o.cell i;have e2:=cd.cell i;rw[<-e1] at e2;exact e2.trans ck
       have fs:w2.cell? ⟨B+3,i+1,none⟩=some (wv (Bp ks i (i+1))):=by rw[cd.cell];exact FW _ _ i7
       have eR:=cd.frozen;have ct:=I cm;clear cm;have eJ:=I cd;clear cd;have ef:=I cw;clear cw;have cT:=I cM;clear cM;have ey:=I cQ;clear cQ;clear bs M bB eK eg ck ca eE;obtain⟨m3,cf⟩:=Ak (n3+1);rw[<-cf];rw[<-cf] at ct;have m1:(n3:Int)<(m3:Int):=by omega
       have m2:n3<m3:=by omega
       have m4:(0:Int)<=(n3:Int):=by omega
       have EM:=I cf;clear cf
       go_wp2_with fail
       refine wp_region_still_tail 12 (by kernel_rfl) (by kernel_rfl) ?_;simp only[List.take_succ_cons,List.take_zero,List.drop_succ_cons,List.drop_zero];change wpStill _ _ w2.drew _ _ _
       repeat still_step
       still_call (cB _)
       repeat still_step
       refine wpStill_nil ?_;change wpList _ _ _ _ _ w2.drew
       go_wp2_with fail
       go_roundw
       case rel=>
        (repeat apply Exists.intro)
        refine⟨?_,rfl⟩;refine⟨i+1,by have:=HH.o;omega,by go_num,?_,?_,?_,?_,?_⟩
        ·exact below_drewN (AS cT.o (by simp<;>omega) _) 1
        ·simpa [World.setCell] using ey.o
        ·exact Blk.far ef.o _ _ (by simp)
        ·have e:=eJ.o.set (i+1) (wv u)
         rw[Jv,EU.o,Jt,<-EU.o] at e;exact e
        ·rw[show i+1+3=m3 by have:=EM.o;have:=EN.o;omega]
         exact ZM ct.o ⟨B+3,i+1,none⟩ (wv u) (by simp)
       case measure=>have:=HH.o;simp [intOf];omega)
  ·obtain⟨q,eq⟩:=Ak (i / 4)
   obtain⟨r,er⟩:=Ak (i % 4);have hq:(i:Int).tdiv 4=(q:Int):=by rw[Int.tdiv_eq_ediv_of_nonneg (by omega)];omega
   have hr:(i:Int).tmod 4=(r:Int):=by rw[Int.tmod_eq_emod_of_nonneg (by omega)];omega
   have q1:(q:Int)<4:=by omega
   have q2:q<4:=by omega
   have q3:(0:Int)<=(q:Int):=by omega
   have r1:(r:Int)<4:=by omega
   have r2:r<4:=by omega
   have r3:(0:Int)<=(r:Int):=by omega
   have i1:(i:Int)<16:=by omega
   have i2:i<16:=by omega
   have i3:(0:Int)<=(i:Int):=by omega
   obtain⟨u,eu⟩:=Ak (Gg ks q i);obtain⟨v,ev⟩:=Ak (Gg ks q (i+1));obtain⟨k,ek⟩:=Ak (ks i);obtain⟨sh,es⟩:=Ak (8*r);obtain⟨km,em⟩:∃km:Nat,km=k.toNat*2 ^ sh % 4294967296:=⟨_,rfl⟩;have eN:8*(r:Int)=(sh:Int):=by omega
   have et:IntKind.u32.wrap ((k.toNat:Int)*2 ^ sh)=(km:Int):=by
    rw[IntKind.wrap_u32,em];have:((k.toNat*2 ^ sh:Nat):Int)=(k.toNat:Int)*2 ^ sh:=by rw[Int.natCast_mul,Int.natCast_pow];rfl
    rw[<-this];omega
   have hv:bits .or .u32 (u.toNat:Int) (km:Int)=(v.toNat:Int):=by
    have e:=QP ks q r i r2 (by omega);rw[<-es,<-eu,<-ev,<-ek] at e;rw[<-e,<-et,IntKind.wrap_u32]
   have fb:min sh 32=sh:=by omega
   have eQ:IntKind.i64.wrap (q:Int)=(q:Int):=by rw[IntKind.wrap_i64];omega
   have fj:IntKind.i64.wrap (r:Int)=(r:Int):=by rw[IntKind.wrap_i64];omega
   have eL:IntKind.i64.wrap (sh:Int)=(sh:Int):=by rw[IntKind.wrap_i64];omega
   have eM:IntKind.u64.wrap (sh:Int)=(sh:Int):=by rw[IntKind.wrap_u64];omega
   have fv:IntKind.u32.wrap (k.toNat:Int)=(k.toNat:Int):=by rw[IntKind.wrap_u32];have:=Fs k;omega
   have ck:wr.cell? ⟨B,i,none⟩=some (.int .u8 (k.toNat:Int)):=by rw[cg.cell,FU _ _ i2,ek];rfl
   have cu:wr.cell? ⟨B+1+1,q,none⟩=some (wv u):=by rw[O.cell,FF _ _ _ q2,eu]
   have fu:=O.frozen;have kk:(k.toNat:Int) % 4294967296=(k.toNat:Int):=by have:=Fs k;omega
   have HH:=I h16;clear h16;have EQ:=I eq;clear eq;have EV:=I ev;clear ev;have HI:=I hi;clear hi;clear cg Z O eu er ek aw es em
   go_wp2_with fail
   refine wp_region_still_tail 16 (by kernel_rfl) (by kernel_rfl) ?_;simp only[List.take_succ_cons,List.take_zero,List.drop_succ_cons,List.drop_zero];change wpStill _ _ wr.drew _ _ _
   repeat still_step
   refine wpStill_nil ?_;change wpList _ _ _ _ _ wr.drew
   go_wp2_with fail
   go_roundw
   case rel=>
    refine⟨i+1,by have:=HI.o;have:=HH.o;omega,by go_num,?_,?_,?_,?_,?_⟩
    ·exact below_drewN (AS HB.o (by simp;omega) _) 1
    ·simpa [World.setCell] using HS.o
    ·exact Blk.far cy.o _ _ (by simp;omega)
    ·exact Blk.far bb.o _ _ (by simp)
    ·have e:=bq.o.set q (wv v)
     rw[EV.o,EQ.o,QQ ks i i2,<-EQ.o,<-EV.o] at e;exact e
   case measure=>simp [intOf];omega
theorem cN (K:Nat->Wd) (x y:Wd) (w:World) :
  Calls Tryz.prog 106 #[.agg (AZ K),wv x,wv y] w fun e w'=>e=.returned (.tuple #[wv (Cc K (x,y)).1,wv (Cc K (x,y)).2])/\Below w.heap.size w w':=by
 obtain⟨B,eB⟩:=Ak (w.heap.size);rw[<-eB];have EB:=I eB;go_enter Tryz.func106,Tryz.ntmps106
 go_wp2_with fail
 rw[<-eB];clear eB
 go_loopw [1,2,8] (fun xv yv iv wr=>∃i:Nat,i<=27/\iv=.int .i64 (i:Int)/\xv=wv (Ix K i (x,y)).1/\yv=wv (Ix K i (x,y)).2/\Blk wr B 188 (AZ K)/\Below B w wr) (fun _ _ iv _=>27 - (intOf iv).toNat)
 case atStart=>exact⟨0,by decide,rfl,rfl,rfl,Blk.new_of w B _ _ _ rfl EB.o.symm,EB.o▸Ah.alloc Ag _⟩
 case round=>
  obtain⟨i,hi,rfl,rfl,rfl,hB,hb⟩:=hrel
  by_cases h27:i=27
  ·subst h27
   have HB:=I hB;clear hB;have M:=I hb;clear hb
   go_wp2_with fail
   go_ret2
   exact⟨rfl,M.o⟩
  ·have cb:(0:Int)<=(i:Int):=by omega
   have ca:(i:Int)<27:=by omega
   have bs:i<27:=by omega
   obtain⟨p,ep⟩:=Ak (Ix K i (x,y));obtain⟨k0,ek⟩:=Ak (K i);obtain⟨x0,ex⟩:=Ak (p.1);obtain⟨y0,ey⟩:=Ak (p.2);obtain⟨rx,av⟩:=Ak (rot x0 24);obtain⟨ry,O⟩:=Ak (rot y0 3);obtain⟨sm,es⟩:=Ak (rx+y0);obtain⟨x1,aw⟩:=Ak (sm ^^^ k0);obtain⟨y1,Z⟩:=Ak (ry ^^^ x1);have ck:wr.cell? ⟨B,i,none⟩=some (wv k0):=by rw[hB.cell,FW _ _ bs,ek]
   have bx:((rx.toNat:Int)+(y0.toNat:Int)) % 4294967296=(sm.toNat:Int):=by rw[es];exact Gf _ _
   have bz:IntKind.u32.wrap ((rx.toNat:Int)+(y0.toNat:Int))=(sm.toNat:Int):=by rw[IntKind.wrap_u32];exact bx
   have bB:bits .xor .u32 (sm.toNat:Int) (k0.toNat:Int)=(x1.toNat:Int):=by rw[aw];exact Bu _ _
   have cc:bits .xor .u32 (ry.toNat:Int) (x1.toNat:Int)=(y1.toNat:Int):=by rw[Z];exact Bu _ _
   have bn:=Tn x0;rw[<-av] at bn;have bq:=Yq y0;rw[<-O] at bq;have hn:Ix K (i+1) (x,y)=(x1,y1):=by rw[Ix,<-ep,step,<-ex,<-ey,<-ek,<-av,<-O,<-es,<-aw,<-Z]
   rw[<-ep,<-ex,<-ey];have bb:=I hn;clear hn;have hh:=I bs;have HB:=I hB;clear hB;have M:=I hb;clear hb;clear ep ek ex ey av O es aw Z hi h27
   go_wp2_with fail
   refine wp_region_still_lit (by kernel_rfl) (by kernel_rfl) ?_;change wpStill _ _ wr.drew _ _ _
   repeat still_step
   still_call (bn _)
   repeat still_step
   refine wpStill_nil ?_
   try change _ wr.drew
   go_wp2_with (first | (go_at_call 108;refine Aj (bq _) ?_;rintro w' rfl))
   go_roundw
   case rel=>exact⟨i+1,by have:=hh.o;omega,by go_num,by rw[bb.o],by rw[bb.o],HB.o,below_drewN M.o 1⟩
   case measure=>have:=hh.o;simp [intOf];omega
end Sp
end Go.Proofs.YtiecjolmennkfaaGreat
