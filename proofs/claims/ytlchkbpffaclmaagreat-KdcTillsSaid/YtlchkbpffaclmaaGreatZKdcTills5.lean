import Derived.Test.YtlchkbpffaclmaaGreatZKdcTills1
set_option maxHeartbeats 25600000
set_option maxRecDepth 100000
set_option linter.unusedVariables false
set_option linter.unusedSimpArgs false
namespace Go.Proofs.YtlchkbpffaclmaaGreat
namespace Sp
open Go.RowKit Af
abbrev Wd:=BitVec 32
def rot (v:Wd) (s:Nat):Wd:=(v <<< s) ||| (v >>> (32 - s))
abbrev wv (v:Wd):Value:=.int .u32 (v.toNat:Int)
theorem Gm (v:Wd):v.toNat<4294967296:=v.isLt
theorem Of (n:Nat):IntKind.u32.wrap (n:Int)=((BitVec.ofNat 32 n).toNat:Int):=by
 rw[IntKind.wrap_u32,BitVec.toNat_ofNat];omega
theorem Br (x y:Wd):bits .xor .u32 (x.toNat:Int) (y.toNat:Int)=((x ^^^ y).toNat:Int):=by
 rw[u32_xor_nat _ _ x.isLt y.isLt,BitVec.toNat_xor]
theorem Gb (x y:Wd):((x.toNat:Int)+(y.toNat:Int)) % 4294967296=((x+y).toNat:Int):=by
 rw[BitVec.toNat_add];omega
theorem KH (v:Wd) (s:Nat):(rot v s).toNat=(v.toNat*2 ^ s % 4294967296) ||| (v.toNat / 2 ^ (32 - s)):=by
 simp [rot,BitVec.toNat_or,BitVec.toNat_shiftLeft,BitVec.toNat_ushiftRight,Nat.shiftLeft_eq,Nat.shiftRight_eq_div_pow]
theorem Ic (v:Wd) (a b:Nat) (s:Nat) (ha:a=v.toNat*2 ^ s % 4294967296) (hb:b=v.toNat / 2 ^ (32 - s)):bits .or .u32 (a:Int) (b:Int)=((rot v s).toNat:Int):=by
 rw[u32_or_nat a b (by omega) (by have:=Gm v;have:=Nat.div_le_self v.toNat (2 ^ (32 - s));omega),KH,ha,hb]
theorem or_rot' (v:Wd) (a b:Nat) (s:Nat) (ha:a=v.toNat*2 ^ s % 4294967296) (hb:b=v.toNat / 2 ^ (32 - s)):bits .or .u32 (b:Int) (a:Int)=((rot v s).toNat:Int):=by
 rw[u32_or_nat b a (by have:=Gm v;have:=Nat.div_le_self v.toNat (2 ^ (32 - s));omega) (by omega),KH,ha,hb,Nat.or_comm]
theorem or3 (v:Wd):bits .or .u32 ((v.toNat:Int)*8 % 4294967296) ((v.toNat:Int) / 536870912)=((rot v 3).toNat:Int):=Ic v _ _ 3 rfl rfl
theorem or24 (v:Wd):bits .or .u32 ((v.toNat:Int)*16777216 % 4294967296) ((v.toNat:Int) / 256)=((rot v 24).toNat:Int):=Ic v _ _ 24 rfl rfl
theorem ro24 (v:Wd):bits .or .u32 ((v.toNat:Int) / 256) ((v.toNat:Int)*16777216 % 4294967296)=((rot v 24).toNat:Int):=or_rot' v _ _ 24 rfl rfl
def step (k:Wd) (p:Wd×Wd):Wd×Wd:=((rot p.1 24+p.2) ^^^ k,rot p.2 3 ^^^ ((rot p.1 24+p.2) ^^^ k))
def Ik (K:Nat->Wd):Nat->Wd×Wd->Wd×Wd
 |0,p=>p
 |n+1,p=>step (K n) (Ik K n p)
def BX (K:Nat->Wd) (p:Wd×Wd):Wd×Wd:=Ik K 27 p
def le4 (a b c d:UInt8):Wd:=BitVec.ofNat 32 (a.toNat+b.toNat*256+c.toNat*65536+d.toNat*16777216)
theorem Dd (a b c d:UInt8):(le4 a b c d).toNat=a.toNat+b.toNat*256+c.toNat*65536+d.toNat*16777216:=by
 have:=a.toNat_lt;have:=b.toNat_lt;have:=c.toNat_lt;have:=d.toNat_lt;rw[le4,BitVec.toNat_ofNat];omega
theorem YL (a b c d:UInt8):bits .or .u32 (bits .or .u32 (bits .or .u32 (a.toNat:Int) ((b.toNat:Int)*256 % 4294967296)) ((c.toNat:Int)*65536 % 4294967296)) ((d.toNat:Int)*16777216 % 4294967296)=((le4 a b c d).toNat:Int):=by
 have ha:=a.toNat_lt;have hb:=b.toNat_lt;have hc:=c.toNat_lt;have hd:=d.toNat_lt;have eb:(b.toNat:Int)*256 % 4294967296=((b.toNat*256:Nat):Int):=by omega
 have ec:(c.toNat:Int)*65536 % 4294967296=((c.toNat*65536:Nat):Int):=by omega
 have ed:(d.toNat:Int)*16777216 % 4294967296=((d.toNat*16777216:Nat):Int):=by omega
 have j1:a.toNat ||| b.toNat*256=b.toNat*256+a.toNat:=by rw[Nat.or_comm];exact nat_join 8 _ _ (by omega) (by omega)
 have j2:(b.toNat*256+a.toNat) ||| c.toNat*65536=c.toNat*65536+(b.toNat*256+a.toNat):=by rw[Nat.or_comm];exact nat_join 16 _ _ (by omega) (by omega)
 have j3:(c.toNat*65536+(b.toNat*256+a.toNat)) ||| d.toNat*16777216=d.toNat*16777216+(c.toNat*65536+(b.toNat*256+a.toNat)):=by rw[Nat.or_comm];exact nat_join 24 _ _ (by omega) (by omega)
 rw[eb,ec,ed,u32_or_nat _ _ (by omega) (by omega),j1,u32_or_nat _ _ (by omega) (by omega),j2,u32_or_nat _ _ (by omega) (by omega),j3,Dd];omega
def Ew (ks:Nat->UInt8) (i:Nat):Wd:=le4 (ks (4*i)) (ks (4*i+1)) (ks (4*i+2)) (ks (4*i+3))
structure Sch where
 k:Wd
 a:Wd
 b:Wd
 c:Wd
def YM (i:Nat) (s:Sch):Wd:=(s.k+rot s.a 24) ^^^ BitVec.ofNat 32 i
def sch (ks:Nat->UInt8):Nat->Sch
 |0=>⟨Ew ks 0,Ew ks 1,Ew ks 2,Ew ks 3⟩
 |i+1=>⟨rot (sch ks i).k 3 ^^^ YM i (sch ks i),(sch ks i).b,(sch ks i).c,YM i (sch ks i)⟩
def kw (ks:Nat->UInt8) (i:Nat):Wd:=(sch ks i).k
def lw (ks:Nat->UInt8) (i:Nat):Wd:=(sch ks i).a
theorem lw_3 (ks:Nat->UInt8) (i:Nat):lw ks (i+3)=(kw ks i+rot (lw ks i) 24) ^^^ BitVec.ofNat 32 i:=rfl
theorem Rl (ks:Nat->UInt8) (i:Nat):kw ks (i+1)=rot (kw ks i) 3 ^^^ lw ks (i+3):=rfl
def JI (K:Nat->Wd) (up lo:Wd) (i:Nat):Nat:=(BX K (up,lo+BitVec.ofNat 32 i)).1.toNat+4294967296*(BX K (up,lo+BitVec.ofNat 32 i)).2.toNat
def Ej (K:Nat->Wd) (up lo:Wd) (j:Nat):UInt8:=UInt8.ofNat (JI K up lo (j / 8) / 256 ^ (j % 8))
def strm (K:Nat->Wd) (up lo:Wd) (n:Nat):List UInt8:=(List.range n).map (Ej K up lo)
theorem MR (K:Nat->Wd) (up lo:Wd) (n:Nat):(strm K up lo n).length=n:=by simp [strm]
theorem Rm (K:Nat->Wd) (up lo:Wd) (n m:Nat) (h:n<=m):(strm K up lo m).take n=strm K up lo n:=by
 simp [strm,List.take_range,<-List.map_take,Nat.min_eq_left h]
theorem rotL3 (v:Wd) (w:World):Calls Tryz.prog 243 #[wv v,.int .i64 3] w fun e w'=>e=.returned (wv (rot v 3))/\w'=w:=by
 have hand:bits .and .u64 3 31=3:=by kernel_rfl
 have hr:=or3 v;go_enter Tryz.func243,Tryz.ntmps243
 go_wp2
 go_ret;exact⟨rfl,rfl⟩
theorem rotR8 (v:Wd) (w:World):Calls Tryz.prog 243 #[wv v,.int .i64 (-8)] w fun e w'=>e=.returned (wv (rot v 24))/\w'=w:=by
 have hwr:IntKind.u64.wrap (-8)=18446744073709551608:=by kernel_rfl
 have hand:bits .and .u64 18446744073709551608 31=24:=by kernel_rfl
 have hr:=or24 v;go_enter Tryz.func243,Tryz.ntmps243
 go_wp2
 go_ret;exact⟨rfl,rfl⟩
theorem YN (v:Wd) (w:World):Calls Tryz.prog 226 #[wv v,.int .i64 3] w fun e w'=>e=.returned (wv (rot v 3))/\w'=w:=by
 go_enter Tryz.func226,Tryz.ntmps226
 go_wp2_with (go_at_call 243;refine(rotL3 _ _).mono ?_;rintro e w' ⟨rfl,rfl⟩)
 go_ret;exact⟨rfl,rfl⟩
theorem VN (v:Wd) (w:World):Calls Tryz.prog 225 #[wv v,.int .i64 8] w fun e w'=>e=.returned (wv (rot v 24))/\w'=w:=by
 go_enter Tryz.func225,Tryz.ntmps225
 go_wp2_with (go_at_call 243;refine(rotR8 _ _).mono ?_;rintro e w' ⟨rfl,rfl⟩)
 go_ret;exact⟨rfl,rfl⟩
theorem VO (v:Wd) (w:World):Calls Tryz.prog 130 #[wv v,.int .u64 3] w fun e w'=>e=.returned (wv (rot v 3))/\w'=w:=by
 have hr:=or3 v;go_enter Tryz.func130,Tryz.ntmps130
 go_wp2
 go_ret;exact⟨rfl,rfl⟩
theorem Rn (v:Wd) (w:World):Calls Tryz.prog 129 #[wv v,.int .u64 8] w fun e w'=>e=.returned (wv (rot v 24))/\w'=w:=by
 have hr:=ro24 v;go_enter Tryz.func129,Tryz.ntmps129
 go_wp2
 go_ret;exact⟨rfl,rfl⟩
def Ch (ks:Nat->UInt8) (d s m:Int) (W:Nat->Wd):Array Value:=
 ((List.range 16).map (fun i=>bv (ks i))++(([.int .u32 d,.int .i32 s,.int .u32 0,.int .u32 m]:List Value)++(List.range 27).map (fun j=>wv (W j)))).toArray
def KB (w:World) (b:Nat) (ks:Nat->UInt8) (d s m:Int) (W:Nat->Wd):Prop:=Blk w b 309 (Ch ks d s m W)
theorem Px (ks:Nat->UInt8) (d s m:Int) (W:Nat->Wd) (i:Nat) (h:i<16):(Ch ks d s m W)[i]? = some (bv (ks i)):=by
 rw[Ch,List.getElem?_toArray,List.getElem?_append_left (by simpa using h)];simp [h]
theorem Hl (ks:Nat->UInt8) (d s m:Int) (W:Nat->Wd) (i:Nat) (h:i<4):(Ch ks d s m W)[16+i]? = ([.int .u32 d,.int .i32 s,.int .u32 0,.int .u32 m]:List Value)[i]?:=by
 rw[Ch,List.getElem?_toArray,List.getElem?_append_right (by simp),List.getElem?_append_left (by simpa using h)];simp
theorem MS (ks:Nat->UInt8) (d s m:Int) (W:Nat->Wd) (i:Nat) (h:i<27):(Ch ks d s m W)[20+i]? = some (wv (W i)):=by
 rw[Ch,List.getElem?_toArray,List.getElem?_append_right (by simp;omega),List.getElem?_append_right (by simp;omega)];have:20+i - (List.map (fun i=>bv (ks i)) (List.range 16)).length - ([.int .u32 d,.int .i32 s,.int .u32 0,.int .u32 m]:List Value).length=i:=by simp;omega
 rw[this];simp [h]
theorem LA (ks:Nat->UInt8) (d s m d':Int) (W:Nat->Wd):(Ch ks d s m W).setIfInBounds 16 (.int .u32 d')=Ch ks d' s m W:=by
 simp [Ch]
theorem LD (ks:Nat->UInt8) (d s m s':Int) (W:Nat->Wd):(Ch ks d s m W).setIfInBounds 17 (.int .i32 s')=Ch ks d s' m W:=by
 simp [Ch]
theorem LF (ks:Nat->UInt8) (d s m m':Int) (W:Nat->Wd):(Ch ks d s m W).setIfInBounds 19 (.int .u32 m')=Ch ks d s m' W:=by
 simp [Ch]
def upd (W:Nat->Wd) (i:Nat) (v:Wd) (j:Nat):Wd:=if j=i then v else W j
theorem Jc (ks:Nat->UInt8) (d s m:Int) (W:Nat->Wd) (i:Nat) (v:Wd):(Ch ks d s m W).setIfInBounds (20+i) (wv v)=Ch ks d s m (upd W i v):=by
 have e:((List.range 27).map fun j=>wv (W j)).set i (wv v)=(List.range 27).map fun j=>wv (upd W i v j):=by
  apply List.ext_getElem?;intro j;rw[List.getElem?_set,List.getElem?_map,List.getElem?_map]
  by_cases hj:i=j
  ·subst hj
   by_cases h27:i<27
   ·simp [h27,upd]
   ·simp [h27]
  ·have hji:¬j=i:=fun h=>hj h.symm
   rw[if_neg hj];rcases Nat.lt_or_ge j 27 with h | h
   ·simp [h,upd,hji]
   ·rw[List.getElem?_eq_none (by simpa using h)];rfl
 unfold Ch;rw[List.setIfInBounds_toArray,List.set_append_right _ _ (by simp;omega),List.set_append_right _ _ (by simp;omega)];have:20+i - (List.map (fun i=>bv (ks i)) (List.range 16)).length - ([.int .u32 d,.int .i32 s,.int .u32 0,.int .u32 m]:List Value).length=i:=by simp;omega
 rw[this,e]
section
variable {w w':World} {b:Nat} {ks:Nat->UInt8} {d s m:Int} {W:Nat->Wd}
theorem KB.cell (h:KB w b ks d s m W) (i:Nat):w.cell? ⟨b,i,none⟩=(Ch ks d s m W)[i]?:=Blk.cell h i
theorem KB.cd (h:KB w b ks d s m W):w.cell? ⟨b,16,none⟩=some (.int .u32 d):=(h.cell 16).trans (Hl ks d s m W 0 (by decide))
theorem KB.cs (h:KB w b ks d s m W):w.cell? ⟨b,17,none⟩=some (.int .i32 s):=(h.cell 17).trans (Hl ks d s m W 1 (by decide))
theorem KB.cm (h:KB w b ks d s m W):w.cell? ⟨b,19,none⟩=some (.int .u32 m):=(h.cell 19).trans (Hl ks d s m W 3 (by decide))
theorem KB.cw (h:KB w b ks d s m W) (i:Nat) (hi:i<27):w.cell? ⟨b,20+i,none⟩=some (wv (W i)):=(h.cell _).trans (MS ks d s m W i hi)
theorem KB.ck (h:KB w b ks d s m W) (i:Nat) (hi:i<16):w.cell? ⟨b,i,none⟩=some (bv (ks i)):=(h.cell _).trans (Px ks d s m W i hi)
theorem KB.fz (h:KB w b ks d s m W) (i:Nat):w.frozen? ⟨b,i,none⟩=false:=Blk.frozen h i
theorem KB.set_d (h:KB w b ks d s m W) (d':Int):KB (w.setCell ⟨b,16,none⟩ (.int .u32 d')) b ks d' s m W:=by
 have:=Blk.set h 16 (.int .u32 d');rwa [LA] at this
theorem KB.set_s (h:KB w b ks d s m W) (s':Int):KB (w.setCell ⟨b,17,none⟩ (.int .i32 s')) b ks d s' m W:=by
 have:=Blk.set h 17 (.int .i32 s');rwa [LD] at this
theorem KB.set_m (h:KB w b ks d s m W) (m':Int):KB (w.setCell ⟨b,19,none⟩ (.int .u32 m')) b ks d s m' W:=by
 have:=Blk.set h 19 (.int .u32 m');rwa [LF] at this
theorem KB.set_word (h:KB w b ks d s m W) (i:Nat) (v:Wd):KB (w.setCell ⟨b,20+i,none⟩ (wv v)) b ks d s m (upd W i v):=by
 have:=Blk.set h (20+i) (wv v);rwa [Jc] at this
theorem KB.lt (h:KB w b ks d s m W):b<w.heap.size:=Blk.lt h
theorem KB.drewN (h:KB w b ks d s m W) (n:Nat):KB (w.drewN n) b ks d s m W:=h
theorem KB.drew (h:KB w b ks d s m W):KB w.drew b ks d s m W:=h
theorem KB.grown {row:Option Nat} (h:KB w b ks d s m W) (hb:w.grownBy w' row) (hg:row≠some b):KB w' b ks d s m W:=Blk.grown h hb hg
end
theorem disable (w:World):(callFunc 261 #[]).run Tryz.prog w=.ok (.value (.tuple #[])) w:=run_call_mark0 Tryz.func261 (by kernel_rfl) (by kernel_rfl) (by kernel_rfl) .disable (by kernel_rfl) w
theorem enable (w:World):(callFunc 263 #[]).run Tryz.prog w=.ok (.value (.tuple #[])) w:=run_call_mark0 Tryz.func263 (by kernel_rfl) (by kernel_rfl) (by kernel_rfl) .enable (by kernel_rfl) w
theorem acquire (a:Addr) (w:World):(callFunc 264 #[.pointer (some a)]).run Tryz.prog w=.ok (.value (.tuple #[])) w:=run_call_marked Tryz.func264 (by kernel_rfl) (by kernel_rfl) (by kernel_rfl) .acquire (by kernel_rfl) a w
theorem releaseMerge (a:Addr) (w:World):(callFunc 266 #[.pointer (some a)]).run Tryz.prog w=.ok (.value (.tuple #[])) w:=run_call_marked Tryz.func266 (by kernel_rfl) (by kernel_rfl) (by kernel_rfl) .releaseMerge (by kernel_rfl) a w
theorem Py (a:Addr) (x:Value) (w:World) (hc:w.cell? a=some x) (hz:w.frozen? a=false) :
  Calls Tryz.prog 241 #[.pointer (some a),.bool true] w fun e w'=>e=.returned (.tuple #[])/\w'=w.drew.setCell a (.int .u32 1):=by
 have hc':w.drew.cell? a=some x:=by go_simp
 have hz':w.drew.frozen? a=false:=by go_simp
 have hst:=run_call_store (P:=Tryz.prog) Tryz.func256 (by kernel_rfl) (by kernel_rfl) (by kernel_rfl) (by kernel_rfl) (k:=.u32) (y:=1) hc' hz';go_enter Tryz.func241,Tryz.ntmps241
 go_wp2
 go_region_calls
 all_goals (go_end0;exact⟨rfl,rfl⟩)
theorem Gg (a:Addr) (x:Value) (u:FrameMode) (w:World) (hc:w.cell? a=some x) (hz:w.frozen? a=false) :
  CallsD Tryz.prog 241 #[.pointer (some a),.bool true] u w fun e u' w'=>u'=u/\(e=.returned (.tuple #[])/\w'=w.drew.setCell a (.int .u32 1)):=by
 have hc':w.drew.cell? a=some x:=by go_simp
 have hz':w.drew.frozen? a=false:=by go_simp
 have hst:=run_call_store (P:=Tryz.prog) Tryz.func256 (by kernel_rfl) (by kernel_rfl) (by kernel_rfl) (by kernel_rfl) (k:=.u32) (y:=1) hc' hz'
 go_enter_d Tryz.func241,Tryz.ntmps241
 go_wp2
 go_region_calls
 all_goals (go_end0;exact⟨rfl,rfl⟩)
theorem DZ (a:Addr) (d:Int) (w:World) (hc:w.cell? a=some (.int .u32 d)) (x:Bool) (hx:(d != 0)=x) :
  Calls Tryz.prog 221 #[.pointer (some a)] w fun e w'=>e=.returned (.bool x)/\w'=w:=by
 have hl:=run_call_load (P:=Tryz.prog) Tryz.func238 (by kernel_rfl) (by kernel_rfl) (by kernel_rfl) .u32 (by kernel_rfl) hc;go_enter Tryz.func221,Tryz.ntmps221
 go_wp2
 go_ret;exact⟨rfl,rfl⟩
theorem Fs (a:Addr) (u:FrameMode) (w:World) (hc:w.cell? a=some (.int .i32 1)) (hz:w.frozen? a=false) :
  CallsD Tryz.prog 240 #[.pointer (some a)] u w fun e u' w'=>u'=u/\(e=.returned (.tuple #[])/\w'=w.setCell a (.int .i32 0)):=by
 have hd:=disable;have he:=enable;have hr:=releaseMerge;have hadd:=run_call_add (P:=Tryz.prog) Tryz.func267 (by kernel_rfl) (by kernel_rfl) (by kernel_rfl) .i32 (by kernel_rfl) (y:=-1) (s:=0) hc hz (by simp [go_sem];rfl);have hcv:=run_convert_to_unsafe (P:=Tryz.prog) (src:=336) (dst:=340) Tryz.underlying336 Tryz.underlying340 (by kernel_rfl) hc
 go_enter_d Tryz.func240,Tryz.ntmps240
 go_wp2
 go_end0
 go_wp2
 go_end0
 exact⟨rfl,rfl⟩
theorem LG (a:Addr) (w:World) (hc:w.cell? a=some (.int .i32 0)) (hz:w.frozen? a=false) :
  Calls Tryz.prog 239 #[.pointer (some a)] w fun e w'=>e=.returned (.tuple #[])/\w'=w.setCell a (.int .i32 1):=by
 have hd:=disable;have he:=enable;have ha:=acquire;have hcas:=run_call_cas_hit (P:=Tryz.prog) Tryz.func262 (by kernel_rfl) (by kernel_rfl) (by kernel_rfl) .i32 (by kernel_rfl) (y:=1) hc hz;have hc':(w.setCell a (.int .i32 1)).cell? a=some (.int .i32 1):=World.cell?_setCell_same w a _ hc;have hcv:=run_convert_to_unsafe (P:=Tryz.prog) (src:=336) (dst:=340) Tryz.underlying336 Tryz.underlying340 (by kernel_rfl) hc';go_enter Tryz.func239,Tryz.ntmps239
 go_wp2
 first | go_end0 | (simp only[Exit.inBlock,Exit.then];refine bodyPost_ret (results_none rfl _ _ _) rfl ?_) | refine bodyPost_ret (results_none rfl _ _ _) rfl ?_
 go_wp2
 go_end0
 exact⟨rfl,rfl⟩
def AS (w w':World):Prop:=∃n,w'=w.drewN n
theorem Dh (b o:Nat) (n c:Nat) (b0 b1 b2 b3:UInt8) (w:World) (hn:4<=n)
  (h0:w.cell? ⟨b,o,none⟩=some (bv b0)) (h1:w.cell? ⟨b,o+1,none⟩=some (bv b1)) (h2:w.cell? ⟨b,o+2,none⟩=some (bv b2)) (h3:w.cell? ⟨b,o+3,none⟩=some (bv b3)) :
  Calls Tryz.prog 242 #[.slice (some ⟨b,o,none⟩) n c] w fun e w'=>e=.returned (wv (le4 b0 b1 b2 b3))/\w'=w.drew:=by
 have k0:(0:Int)<n:=by omega
 have k1:(1:Int)<n:=by omega
 have k2:(2:Int)<n:=by omega
 have k3:(3:Int)<n:=by omega
 have k4:0<n:=by omega
 have k5:1<n:=by omega
 have k6:2<n:=by omega
 have k7:3<n:=by omega
 have hn':=I hn;clear hn;simp only[bv] at h0 h1 h2 h3;have hle:=YL b0 b1 b2 b3;have hwr:=IntKind.wrap_u32;have m0:(b0.toNat:Int) % 4294967296=b0.toNat:=by have:=BC b0;omega
 have m1:(b1.toNat:Int) % 4294967296=b1.toNat:=by have:=BC b1;omega
 have m2:(b2.toNat:Int) % 4294967296=b2.toNat:=by have:=BC b2;omega
 have m3:(b3.toNat:Int) % 4294967296=b3.toNat:=by have:=BC b3;omega
 go_enter Tryz.func242,Tryz.ntmps242
 go_wp2_with fail
 go_region_held3 (fun w'=>w'.cell? ⟨b,o,none⟩=some (.int .u8 b0.toNat)/\w'.cell? ⟨b,o+1,none⟩=some (.int .u8 b1.toNat)/\w'.cell? ⟨b,o+2,none⟩=some (.int .u8 b2.toNat)/\w'.cell? ⟨b,o+3,none⟩=some (.int .u8 b3.toNat)) (go_keep) (fail)
 all_goals (go_wp2;go_ret;exact⟨rfl,rfl⟩)
def Bm (ks:Nat->UInt8) (i j:Nat):Wd:=if j<=i then kw ks j else 0
theorem Og {w:World} {b:Nat} {ks:Nat->UInt8} {d s m:Int} {W:Nat->Wd} (hK:KB w b ks d s m W) (i n c:Nat) (hi:i<4) (hn:4<=n) :
  Calls Tryz.prog 242 #[.slice (some ⟨b,4*i,none⟩) n c] w fun e w'=>e=.returned (wv (Ew ks i))/\w'=w.drew:=
 Dh b (4*i) n c _ _ _ _ w hn (hK.ck _ (by omega)) (hK.ck _ (by omega)) (hK.ck _ (by omega)) (hK.ck _ (by omega))
theorem WV {w:World} {b:Nat} {ks:Nat->UInt8} {d s m:Int} {W:Nat->Wd} (hK:KB w b ks d s m W) :
  Calls Tryz.prog 242 #[.slice (some ⟨b,0,none⟩) 16 16] w fun e w'=>e=.returned (wv (Ew ks 0))/\w'=w.drew:=
 Og hK 0 16 16 (by decide) (by decide)
theorem WW {w:World} {b:Nat} {ks:Nat->UInt8} {d s m:Int} {W:Nat->Wd} (hK:KB w b ks d s m W) :
  Calls Tryz.prog 242 #[.slice (some ⟨b,4,none⟩) 12 12] w fun e w'=>e=.returned (wv (Ew ks 1))/\w'=w.drew:=
 Og hK 1 12 12 (by decide) (by decide)
theorem WX {w:World} {b:Nat} {ks:Nat->UInt8} {d s m:Int} {W:Nat->Wd} (hK:KB w b ks d s m W) :
  Calls Tryz.prog 242 #[.slice (some ⟨b,8,none⟩) 8 8] w fun e w'=>e=.returned (wv (Ew ks 2))/\w'=w.drew:=
 Og hK 2 8 8 (by decide) (by decide)
theorem WY {w:World} {b:Nat} {ks:Nat->UInt8} {d s m:Int} {W:Nat->Wd} (hK:KB w b ks d s m W) :
  Calls Tryz.prog 242 #[.slice (some ⟨b,12,none⟩) 4 4] w fun e w'=>e=.returned (wv (Ew ks 3))/\w'=w.drew:=
 Og hK 3 4 4 (by decide) (by decide)
theorem KB.heap {w w':World} {b:Nat} {ks:Nat->UInt8} {d s m:Int} {W:Nat->Wd} (h:KB w b ks d s m W) (e:w'.heap=w.heap):KB w' b ks d s m W:=by
 unfold KB Blk at *;rw[e];exact h
theorem KB.push {w w':World} {b:Nat} {ks:Nat->UInt8} {d s m:Int} {W:Nat->Wd} {o:Obj} (h:KB w b ks d s m W) (e:w'.heap=w.heap.push o):KB w' b ks d s m W:=by
 have hl:=h.lt;unfold KB Blk at *;rw[e,Array.getElem?_push_lt hl,<-Array.getElem?_eq_getElem hl];exact h
def lc (ks:Nat->UInt8) (i j:Nat):Wd:=lw ks (i+(j+2*i) % 3)
def LH (ks:Nat->UInt8) (i:Nat):Array Value:=#[wv (lc ks i 0),wv (lc ks i 1),wv (lc ks i 2)]
theorem Ro (ks:Nat->UInt8) (i:Nat):(LH ks i)[i % 3]? = some (wv (lw ks i)):=by
 have h:i % 3=0\/i % 3=1\/i % 3=2:=by omega
 rcases h with h | h | h<;>rw[h]
 ·show some (wv (lc ks i 0))=_
  rw[lc,show i+(0+2*i) % 3=i by omega]
 ·show some (wv (lc ks i 1))=_
  rw[lc,show i+(1+2*i) % 3=i by omega]
 ·show some (wv (lc ks i 2))=_
  rw[lc,show i+(2+2*i) % 3=i by omega]
theorem Pz (ks:Nat->UInt8) (i:Nat):(LH ks i).setIfInBounds (i % 3) (wv (lw ks (i+3)))=LH ks (i+1):=by
 have h:i % 3=0\/i % 3=1\/i % 3=2:=by omega
 rcases h with h | h | h<;>rw[h]
 ·show #[wv (lw ks (i+3)),wv (lc ks i 1),wv (lc ks i 2)]=#[wv (lc ks (i+1) 0),wv (lc ks (i+1) 1),wv (lc ks (i+1) 2)]
  unfold lc;rw[show i+1+(0+2*(i+1)) % 3=i+3 by omega,show i+1+(1+2*(i+1)) % 3=i+(1+2*i) % 3 by omega,show i+1+(2+2*(i+1)) % 3=i+(2+2*i) % 3 by omega]
 ·show #[wv (lc ks i 0),wv (lw ks (i+3)),wv (lc ks i 2)]=#[wv (lc ks (i+1) 0),wv (lc ks (i+1) 1),wv (lc ks (i+1) 2)]
  unfold lc;rw[show i+1+(0+2*(i+1)) % 3=i+(0+2*i) % 3 by omega,show i+1+(1+2*(i+1)) % 3=i+3 by omega,show i+1+(2+2*(i+1)) % 3=i+(2+2*i) % 3 by omega]
 ·show #[wv (lc ks i 0),wv (lc ks i 1),wv (lw ks (i+3))]=#[wv (lc ks (i+1) 0),wv (lc ks (i+1) 1),wv (lc ks (i+1) 2)]
  unfold lc;rw[show i+1+(0+2*(i+1)) % 3=i+(0+2*i) % 3 by omega,show i+1+(1+2*(i+1)) % 3=i+(1+2*i) % 3 by omega,show i+1+(2+2*(i+1)) % 3=i+3 by omega]
theorem Jd (ks:Nat->UInt8) (i:Nat):upd (Bm ks i) (i+1) (kw ks (i+1))=Bm ks (i+1):=by
 funext j
 unfold upd Bm
 by_cases h:j=i+1
 ·subst h;simp
 ·by_cases h2:j<=i
  ·rw[if_neg h,if_pos h2,if_pos (by omega)]
  ·rw[if_neg h,if_neg h2,if_neg (by omega)]
theorem Ie (ks:Nat->UInt8):upd (fun _=>0) 0 (kw ks 0)=Bm ks 0:=by
 funext j
 unfold upd Bm
 by_cases h:j=0
 ·subst h;simp
 ·rw[if_neg h,if_neg (by omega)]
theorem Blk.far {w:World} {g:Nat} {t:TypeId} {cs:Array Value} (h:Blk w g t cs) (p:Addr) (u:Value) (hp:p.block≠g):Blk (w.setCell p u) g t cs:=
 (Below.heap_setCell w p u g (fun e=>hp e.symm)).trans h
theorem PA (b:Nat) (ks:Nat->UInt8) (w:World) (hK:KB w b ks 0 1 0 (fun _=>0)) :
  Calls Tryz.prog 224 #[.pointer (some ⟨b,0,none⟩)] w fun e w'=>e=.returned (.tuple #[])/\KB w' b ks 0 1 1 (Bm ks 26)/\w.grownBy w' (some b):=by
 have hc20:=hK.cw 0 (by decide);have cw0:=WV (w:=w.drew) hK.drew;have hf20:=hK.fz 20;go_enter Tryz.func224,Tryz.ntmps224
 go_upto_region 0 with fail
 go_cut [] from 5 to 13 (fun wx=>KB wx b ks 0 1 0 (Bm ks 0)/\w.grownBy wx (some b))
 case first=>
  go_region_held3 (fun w'=>True) (trivial) (first | (go_at_call 242;refine Aj cw0 ?_;rintro w' rfl))
  all_goals go_wp2_with fail
  all_goals go_meet
  all_goals
   have h1:=KB.set_word hK 0 (kw ks 0);rw[Ie] at h1;exact⟨h1,AU (AU (AE (World.grownBy.refl _ _) (.inl rfl) _))⟩
 case rest=>
  obtain⟨hK1,hg1⟩:=hcut;have cw1:∀w':World,KB w' b ks 0 1 0 (Bm ks 0)->_:=fun w' h=>WW h
  have cw2:∀w':World,KB w' b ks 0 1 0 (Bm ks 0)->_:=fun w' h=>WX h
  have cw3:∀w':World,KB w' b ks 0 1 0 (Bm ks 0)->_:=fun w' h=>WY h
  go_upto_region 1 with fail
  go_cut [2] from 14 to 29 (fun p wx=>∃L,p=.pointer (some ⟨L,0,none⟩)/\w.heap.size<=L/\Blk wx L 324 (LH ks 0)/\KB wx b ks 0 1 0 (Bm ks 0)/\w.grownBy wx (some b))
  case first=>
   go_region_held3 (fun w'=>True) (trivial) (first | (go_at_call_of 242 (Value.slice (some (Addr.mk b 4 none)) 12 12);refine Aj (cw1 _ (by first | exact KB.heap hK1 rfl | exact KB.push hK1 rfl)) ?_;rintro w' rfl) | (go_at_call_of 242 (Value.slice (some (Addr.mk b 8 none)) 8 8);refine Aj (cw2 _ (by first | exact KB.heap hK1 rfl | exact KB.push hK1 rfl)) ?_;rintro w' rfl) | (go_at_call_of 242 (Value.slice (some (Addr.mk b 12 none)) 4 4);refine Aj (cw3 _ (by first | exact KB.heap hK1 rfl | exact KB.push hK1 rfl)) ?_;rintro w' rfl))
   all_goals go_wp2_with fail
   all_goals go_meet
   all_goals exact⟨_,rfl,hg1.size,Blk.new wc _ _,Blk.alloc hK1 _,AU (AU (AU (AU (Dp hg1 _))))⟩
  case rest=>
   obtain⟨L,rfl,hL,hB2,hK2,hg2⟩:=hcut;have hLb:L≠b:=by have:=hK.lt;omega
   have hwa:=Gb;have hwx:=Br;have hL':=I hL;clear hL;have hB':=I hB2;clear hB2;have hK':=I hK2;clear hK2;have hg':=I hg2;clear hg2;have H1:=I hK1;clear hK1;have H0:=I hK;clear hK;have G1:=I hg1;clear hg1;clear cw0 cw1 cw2 cw3 hc20 hf20
   go_wp2_with fail
   go_loopw [30] (fun iv wr=>∃i:Nat,i<=26/\iv=.int .i64 (i:Int)/\Blk wr L 324 (LH ks i)/\KB wr b ks 0 1 0 (Bm ks i)/\w.grownBy wr (some b)) (fun iv _=>26 - (intOf iv).toNat)
   case atStart=>exact⟨0,by decide,rfl,hB'.o,hK'.o,hg'.o⟩
   case round=>
    obtain⟨i,hi,rfl,hB3,hK3,hg3⟩:=hrel
    by_cases h26:i=26
    ·subst h26
     have hKe:=I hK3;clear hK3;have hge:=I hg3;clear hg3;have hBe:=I hB3;clear hB3
     go_wp2_with (go_at_call 241;refine Aj (Py _ _ _ (KB.cm hKe.o) (KB.fz hKe.o 19)) ?_;rintro w' rfl)
     go_end0
     have e1:=KB.set_m (KB.drew hKe.o) 1;exact⟨rfl,e1,AE (AU hge.o) (.inl rfl) _⟩
    ·have hlt:i<26:=by omega
     have hi0:(0:Int)<=(i:Int):=by omega
     have hi1:(i:Int)<27:=by omega
     have hi2:i<27:=by omega
     have hi3:(i:Int)+1<27:=by omega
     have hi4:i+1<27:=by omega
     have hi5:(i:Int)<26:=by omega
     obtain⟨r,hr⟩:=Ak (i % 3);have hmod:(i:Int).tmod 3=(r:Int):=by rw[Int.tmod_eq_emod_of_nonneg hi0];omega
     have hr3:(r:Int)<3:=by omega
     have hr4:r<3:=by omega
     obtain⟨k0,ek⟩:=Ak (kw ks i);obtain⟨a0,ea⟩:=Ak (lw ks i);obtain⟨v,ev⟩:=Ak (lw ks (i+3));obtain⟨u,eu⟩:=Ak (kw ks (i+1));have ck:wr.cell? ⟨b,20+i,none⟩=some (wv k0):=by
      have:=hK3.cw i hi2;rw[Bm,if_pos Ag,<-ek] at this;exact this
     have ca:wr.cell? ⟨L,r,none⟩=some (wv a0):=by rw[hB3.cell,hr,Ro,ea]
     have fb:=hK3.fz;have fL:=hB3.frozen;obtain⟨ci,ec⟩:=Ak (BitVec.ofNat 32 i);obtain⟨ra,era⟩:=Ak (rot a0 24);obtain⟨rk,erk⟩:=Ak (rot k0 3);obtain⟨sm,es⟩:=Ak (k0+ra);have hwc:IntKind.u32.wrap (i:Int)=(ci.toNat:Int):=by rw[ec];exact Of i
     have hwd:(i:Int) % 4294967296=(ci.toNat:Int):=by rw[<-IntKind.wrap_u32];exact hwc
     have hx0:((k0.toNat:Int)+(ra.toNat:Int)) % 4294967296=(sm.toNat:Int):=by rw[es];exact Gb _ _
     have hx1:IntKind.u32.wrap ((k0.toNat:Int)+(ra.toNat:Int))=(sm.toNat:Int):=by rw[IntKind.wrap_u32];exact hx0
     have hx2:bits .xor .u32 (sm.toNat:Int) (ci.toNat:Int)=(v.toNat:Int):=by rw[Br,ev,lw_3,es,era,ek,ea,ec]
     have hx3:bits .xor .u32 (rk.toNat:Int) (v.toNat:Int)=(u.toNat:Int):=by rw[Br,ev,eu,Rl,erk,ek]
     have cr8:=VN a0;rw[<-era] at cr8;have cl3:=YN k0;rw[<-erk] at cl3;have ck6:(wr.setCell ⟨L,r,none⟩ (wv v)).cell? ⟨b,20+i,none⟩=some (wv k0):=(World.cell?_setCell_other _ ⟨L,r,none⟩ ⟨b,20+i,none⟩ _ (by simp)).trans ck;have ca6:(wr.setCell ⟨L,r,none⟩ (wv v)).cell? ⟨L,r,none⟩=some (wv v):=World.cell?_setCell_same _ _ _ ca;have fb6:∀j,(wr.setCell ⟨L,r,none⟩ (wv v)).frozen? ⟨b,j,none⟩=false:=fun j=>by simp [fb j]
     have cw6:∃y,(wr.setCell ⟨L,r,none⟩ (wv v)).cell? ⟨b,20+(i+1),none⟩=some y:=⟨_,(World.cell?_setCell_other _ ⟨L,r,none⟩ ⟨b,20+(i+1),none⟩ _ (by simp)).trans (hK3.cw (i+1) hi4)⟩;obtain⟨y,cw6⟩:=cw6;have hh:=I hlt;clear hlt;have hh2:=I h26;clear h26;have hh3:=I hi;clear hi;have he1:=I ek;clear ek;have he2:=I ea;clear ea;have he3:=I ev;clear ev;have he4:=I eu;clear eu;have he5:=I hr;clear hr;clear ec era erk es;have hKe:=I hK3;clear hK3;have hge:=I hg3;clear hg3;have hBe:=I hB3;clear hB3;clear hwa hwx
     go_wp2_with fail
     refine wp_region_still_tail 15 (by kernel_rfl) (by kernel_rfl) ?_;simp only[List.take_succ_cons,List.take_zero,List.drop_succ_cons,List.drop_zero];change wpStill _ _ wr.drew _ _ _
     repeat still_step
     still_call (cr8 wr.drew)
     repeat still_step
     refine wpStill_nil ?_;change wpList _ _ _ _ _ wr.drew
     go_wp2_with fail
     refine wp_region_still_tail 16 (by kernel_rfl) (by kernel_rfl) ?_;simp only[List.take_succ_cons,List.take_zero,List.drop_succ_cons,List.drop_zero];change wpStill _ _ (wr.setCell ⟨L,r,none⟩ (.int .u32 v.toNat)).drew.drew _ _ _;clear ck ca fb
     repeat still_step
     still_call (cl3 _)
     repeat still_step
     refine wpStill_nil ?_;change wpList _ _ _ _ _ (wr.setCell ⟨L,r,none⟩ (.int .u32 v.toNat)).drew.drew
     go_wp2_with fail
     go_roundw
     case rel=>
      refine⟨i+1,by have:=hh.o;omega,by go_num,?_,?_,?_⟩
      ·have e1:=hBe.o.set r (wv v)
       rw[he5.o,he3.o,Pz] at e1;have e2:=Blk.far e1 ⟨b,20+(i+1),none⟩ (wv u) (by simpa using Ne.symm hLb);rw[<-he5.o,<-he3.o] at e2;exact e2
      ·have e1:KB (wr.setCell ⟨L,r,none⟩ (wv v)) b ks 0 1 0 (Bm ks i):=Blk.far hKe.o ⟨L,r,none⟩ (wv v) (by simpa using hLb)
       have e2:=KB.set_word e1 (i+1) u;rw[he4.o,Jd,<-he4.o] at e2;exact e2
      ·exact AU (AU (AE (AE hge.o (.inr hL'.o) _) (.inl rfl) _))
     case measure=>have:=hh.o;simp [intOf];omega
abbrev Hm:Nat->Wd:=fun _=>0
def Key (w:World) (b:Nat) (ks:Nat->UInt8):Bool->Prop
 |false=>KB w b ks 0 0 0 Hm
 |true=>KB w b ks 1 0 1 (Bm ks 26)
theorem Ek {a w c:World} {row:Option Nat} (h:a.grownBy w row) (k:w.grownBy c row):a.grownBy c row:=
 ⟨k.os.trans h.os,k.tape.trans h.tape,k.output.trans h.output,Nat.le_trans h.size k.size,fun i hi hn=>(k.block i (Nat.lt_of_lt_of_le hi h.size) hn).trans (h.block i hi hn)⟩
theorem slow (b:Nat) (ks:Nat->UInt8) (w:World) (hK:KB w b ks 0 0 0 Hm) :
  Calls Tryz.prog 222 #[.pointer (some ⟨b,16,none⟩),.func (.func 224) #[.pointer (some ⟨b,0,none⟩)] #[]] w fun e w'=>e=.returned (.tuple #[])/\KB w' b ks 1 0 1 (Bm ks 26)/\w.grownBy w' (some b):=by
 have hK1:KB (w.setCell ⟨b,17,none⟩ (.int .i32 1)) b ks 0 1 0 Hm:=hK.set_s 1;have g1:w.grownBy (w.setCell ⟨b,17,none⟩ (.int .i32 1)) (some b):=AE (World.grownBy.refl _ _) (.inl rfl) _;have cl:=LG ⟨b,17,none⟩ w hK.cs (hK.fz 17);have cd:=DZ ⟨b,16,none⟩ 0 _ hK1.cd false rfl;have cm:=PA b ks _ hK1;have hnot:∀(x:Bool) (w:World),(Op.unary .not (.bool x)).run Tryz.prog w=.ok (.bool (!x)) w:=fun _ _=>rfl
 have H:=I hK;clear hK;have H1:=I hK1;clear hK1;have G1:=I g1;clear g1
 go_enter_defers Tryz.func222,Tryz.ntmps222
 go_wp2_with (first | (go_at_call 239;refine Aj cl ?_;rintro w' rfl) | (go_at_call 221;refine Aj cd ?_;rintro w' rfl) | (go_at_call 224;refine Aj cm ?_;rintro w2 ⟨hK2,hg2⟩))
 refine leaves_cons (f:=241) (args:=#[.pointer (some ⟨b,16,none⟩),.bool true]) (by simp) (by simp [go_sem]) ?_;refine(Gg ⟨b,16,none⟩ _ .returning w2 hK2.cd (hK2.fz 16)).mono ?_;rintro e u' w'' ⟨rfl,rfl,rfl⟩;have hK3:=KB.set_d hK2.drew 1;refine leaves_cons (f:=240) (args:=#[.pointer (some ⟨b,17,none⟩)]) (by simp [settle]) (by simp [go_sem]) ?_;refine(Fs ⟨b,17,none⟩ _ _ hK3.cs (hK3.fz 17)).mono ?_;rintro e u' w'' ⟨rfl,rfl,rfl⟩;have hK4:=KB.set_s hK3 0;have hg4:=AE (row:=some b) (AE (row:=some b) (AU (World.grownBy.refl w2 (some b))) (p:=⟨b,16,none⟩) (.inl rfl) (.int .u32 1)) (p:=⟨b,17,none⟩) (.inl rfl) (.int .i32 0);have hg5:=Ek (Ek G1.o hg2) hg4;simp [Leaves,settle,results,Tryz.results222];exact⟨hK4,hg5⟩
theorem KI (b:Nat) (ks:Nat->UInt8) (w:World) (hK:KB w b ks 0 0 0 Hm) :
  Calls Tryz.prog 195 #[.pointer (some ⟨b,16,none⟩),.func (.func 224) #[.pointer (some ⟨b,0,none⟩)] #[]] w fun e w'=>e=.returned (.tuple #[])/\KB w' b ks 1 0 1 (Bm ks 26)/\w.grownBy w' (some b):=by
 have cd:=DZ ⟨b,16,none⟩ 0 w hK.cd false rfl;have cs:=slow b ks w hK;have hnot:∀(x:Bool) (w:World),(Op.unary .not (.bool x)).run Tryz.prog w=.ok (.bool (!x)) w:=fun _ _=>rfl
 clear hK;go_enter Tryz.func195,Tryz.ntmps195
 go_wp2_with (first | (go_at_call 221;refine Aj cd ?_;rintro w' rfl) | (go_at_call 222;refine Aj cs ?_;rintro w2 ⟨hK2,hg2⟩))
 go_end0
 exact⟨rfl,hK2,hg2⟩
theorem MT (b:Nat) (fv:Value) (w:World) (hd:w.cell? ⟨b,16,none⟩=some (.int .u32 1)) :
  Calls Tryz.prog 195 #[.pointer (some ⟨b,16,none⟩),fv] w fun e w'=>e=.returned (.tuple #[])/\w'=w:=by
 have cd:=DZ ⟨b,16,none⟩ 1 w hd true rfl;have hnot:∀(x:Bool) (w:World),(Op.unary .not (.bool x)).run Tryz.prog w=.ok (.bool (!x)) w:=fun _ _=>rfl
 clear hd;go_enter Tryz.func195,Tryz.ntmps195
 go_wp2_with (first | (go_at_call 221;refine Aj cd ?_;rintro w' rfl))
 go_end0
 exact⟨rfl,rfl⟩
theorem GJ (b:Nat) (ks:Nat->UInt8) (m:Bool) (w:World) (hK:Key w b ks m) :
  Calls Tryz.prog 197 #[.pointer (some ⟨b,0,none⟩)] w fun e w'=>e=.returned (.tuple #[])/\Key w' b ks true/\w.grownBy w' (some b)/\(m=true->w'=w):=by
 have hmf:∀(fn:Fn) (first cap:Array Value) (w:World),(Instr.makeFunc fn first cap).run Tryz.prog w=.ok (.func fn first cap) w:=fun _ _ _ _=>rfl
 cases m with
 |false=>
  have cf:=KI b ks w hK;clear hK;go_enter Tryz.func197,Tryz.ntmps197
  go_wp2_with (first | (go_at_call 195;refine Aj cf ?_;rintro w' ⟨hK2,hg2⟩))
  go_end0
  exact⟨rfl,hK2,hg2,fun h=>by cases h⟩
 |true=>
  have cf:=fun fv=>MT b fv w (KB.cd hK)
  have H:=I hK;clear hK;go_enter Tryz.func197,Tryz.ntmps197
  go_wp2_with (first | (go_at_call 195;refine Aj (cf _) ?_;rintro w' rfl))
  go_end0
  exact⟨rfl,H.o,World.grownBy.refl _ _,fun _=>rfl⟩
theorem Key.word {w:World} {b:Nat} {ks:Nat->UInt8} (h:Key w b ks true) (i:Nat) (hi:i<27):w.cell? ⟨b,20+i,none⟩=some (wv (kw ks i)):=by
 have:=KB.cw h i hi
 rwa [Bm,if_pos (by omega)] at this
theorem Key.grown {w w':World} {b:Nat} {ks:Nat->UInt8} {m:Bool} {row:Option Nat} (h:Key w b ks m) (hb:w.grownBy w' row) (hg:row≠some b):Key w' b ks m:=by
 cases m with
 |false=>exact KB.grown h hb hg
 |true=>exact KB.grown h hb hg
theorem Key.lt {w:World} {b:Nat} {ks:Nat->UInt8} {m:Bool} (h:Key w b ks m):b<w.heap.size:=by
 cases m with
 |false=>exact KB.lt h
 |true=>exact KB.lt h
theorem Key.below {w w':World} {b:Nat} {ks:Nat->UInt8} {m:Bool} (h:Key w b ks m) (hb:Below w.heap.size w w'):Key w' b ks m:=
 h.grown (BD hb none) (by simp)
theorem Ir (b:Nat) (ks:Nat->UInt8) (x y:Wd) (w:World) (hK:Key w b ks true) :
  Calls Tryz.prog 198 #[.pointer (some ⟨b,0,none⟩),wv x,wv y] w fun e w'=>e=.returned (.tuple #[wv (BX (kw ks) (x,y)).1,wv (BX (kw ks) (x,y)).2])/\w'=w:=by
 have hw:=fun i hi=>Key.word hK i hi
 clear hK;have HW:=I hw;clear hw;go_enter Tryz.func198,Tryz.ntmps198
 go_wp2_with fail
 go_loop [1,2,13] (fun xv yv iv=>∃i:Nat,i<=27/\iv=.int .i64 (i:Int)/\xv=wv (Ik (kw ks) i (x,y)).1/\yv=wv (Ik (kw ks) i (x,y)).2) (fun _ _ iv=>27 - (intOf iv).toNat)
 case atStart=>exact⟨0,by decide,rfl,rfl,rfl⟩
 case round=>
  obtain⟨i,hi,rfl,rfl,rfl⟩:=hrel
  by_cases h27:i=27
  ·subst h27
   go_wp2_with fail
   go_ret2
   exact⟨rfl,rfl⟩
  ·have hi0:(0:Int)<=(i:Int):=by omega
   have hi1:(i:Int)<27:=by omega
   have hi2:i<27:=by omega
   obtain⟨p,ep⟩:=Ak (Ik (kw ks) i (x,y));obtain⟨k0,ek⟩:=Ak (kw ks i);obtain⟨x0,ex⟩:=Ak (p.1);obtain⟨y0,ey⟩:=Ak (p.2);obtain⟨rx,erx⟩:=Ak (rot x0 24);obtain⟨ry,ery⟩:=Ak (rot y0 3);obtain⟨sm,es⟩:=Ak (rx+y0);obtain⟨x1,ex1⟩:=Ak (sm ^^^ k0);obtain⟨y1,ey1⟩:=Ak (ry ^^^ x1);have ck:w.cell? ⟨b,20+i,none⟩=some (wv k0):=by rw[ek];exact HW.o i hi2
   have hx0:((rx.toNat:Int)+(y0.toNat:Int)) % 4294967296=(sm.toNat:Int):=by rw[es];exact Gb _ _
   have hx2:bits .xor .u32 (sm.toNat:Int) (k0.toNat:Int)=(x1.toNat:Int):=by rw[ex1];exact Br _ _
   have hx3:bits .xor .u32 (ry.toNat:Int) (x1.toNat:Int)=(y1.toNat:Int):=by rw[ey1];exact Br _ _
   have cr8:=VN x0;rw[<-erx] at cr8;have cl3:=YN y0;rw[<-ery] at cl3;have hn:Ik (kw ks) (i+1) (x,y)=(x1,y1):=by rw[Ik,<-ep,step,<-ex,<-ey,<-ek,<-erx,<-ery,<-es,<-ex1,<-ey1]
   rw[<-ep,<-ex,<-ey];have hn':=I hn;clear hn;have hh:=I hi2;clear ep ek ex ey erx ery es ex1 ey1 hi h27
   go_wp2_with (first | (go_at_call 225;refine Aj (cr8 _) ?_;rintro w' rfl) | (go_at_call 226;refine Aj (cl3 _) ?_;rintro w' rfl))
   go_round
   case rel=>exact⟨i+1,by have:=hh.o;omega,by go_num,by rw[hn'.o],by rw[hn'.o]⟩
   case measure=>have:=hh.o;simp [intOf];omega
theorem Blk.new_of (w:World) (g:Nat) (t:TypeId) (cs cs':Array Value) (e:cs=cs') (hg:w.heap.size=g):Blk (w.alloc (.cells cs t)) g t cs':=hg▸e▸Blk.new w t cs
theorem Ay {B:Nat} {a w:World} (h:Below B a w) {p:Addr} (hp:B<=p.block) (u:Value):Below B a (w.setCell p u):=
 ⟨h.os,h.tape,h.output,by simpa [World.setCell] using h.size,fun i hi=>(Below.heap_setCell w p u i (by omega)).trans (h.block i hi)⟩
theorem Au {P:Program} {fn:Func} {tmps:Array Value} {w:World} {v:Value} (t:Nat) (ty:TypeId) (a:Addr) (hres:fn.results=#[.cell t ty]) (ht:tmps.getD t undef=.pointer (some a)) (hl:(loadVar ty a).run P w=.ok v w) :
  (results fn tmps).run P w=.ok v w:=by
 have ht':tmps[t]?.getD undef=.pointer (some a):=by simpa using ht
 simp [results,hres,ht',asAddr,hl]
theorem Al {P:Program} {w:World} {g:Nat} {t ty:TypeId} {cs:Array Value} {d:TypeDesc} (h:Blk w g t cs) (hu:P.underlying ty=some d) (hd:d.isRow=true) (hi:(P.info? ty).map (·.size)=some cs.size) :
  (loadVar ty ⟨g,0,none⟩).run P w=.ok (.agg cs) w:=by
 have hc:w.rangeAt g 0 cs.toList:=fun j v hv=>by rw[Nat.zero_add,h.cell];simpa using hv
 have:=run_loadVar_mid (P:=P) w g 0 ty cs.toList d hc hu hd (by simpa using hi)
 simpa using this
def AI (ks:Nat->UInt8):Array Value:=((List.range 16).map (fun i=>bv (ks i))).toArray
theorem KJ (ks:Nat->UInt8) (w:World):Calls Tryz.prog 223 #[.agg (AI ks)] w fun e w'=>∃b,e=.returned (.pointer (some ⟨b,0,none⟩))/\w.heap.size<=b/\Key w' b ks false/\Below w.heap.size w w':=by
 have hk:AI ks=#[bv (ks 0),bv (ks 1),bv (ks 2),bv (ks 3),bv (ks 4),bv (ks 5),bv (ks 6),bv (ks 7),bv (ks 8),bv (ks 9),bv (ks 10),bv (ks 11),bv (ks 12),bv (ks 13),bv (ks 14),bv (ks 15)]:=rfl;rw[hk];simp only[bv];clear hk;go_enter Tryz.func223,Tryz.ntmps223
 go_wp2
 go_ret;exact⟨w.heap.size+1,rfl,Nat.le_succ _,Blk.new_of (w.alloc _) _ 309 _ (Ch ks 0 0 0 Hm) (by kernel_rfl) (by simp),((Below.refl w.heap.size w).alloc Ag _).alloc (by simp) _⟩
def DE (K:Nat->Wd) (up lo:Wd) (n m:Nat):Array Value:=((List.range n).map fun i=>if i<m then bv (Ej K up lo i) else bv 0).toArray
theorem Rq (K:Nat->Wd) (up lo:Wd) (n m i:Nat) (h:i<n):(DE K up lo n m)[i]? = some (if i<m then bv (Ej K up lo i) else bv 0):=by
 rw[DE,List.getElem?_toArray];simp [h]
theorem MU (K:Nat->Wd) (up lo:Wd) (n:Nat):CQ n=DE K up lo n 0:=by
 unfold CQ DE
 congr 1
 apply List.ext_getElem?;intro j;rw[List.getElem?_map];rcases Nat.lt_or_ge j n with h | h
 ·simp [h]
 ·rw[List.getElem?_eq_none (by simpa using h),List.getElem?_eq_none (by simpa using h)];rfl
theorem PC (K:Nat->Wd) (up lo:Wd) (n m:Nat) (h:m<n):(DE K up lo n m).setIfInBounds m (bv (Ej K up lo m))=DE K up lo n (m+1):=by
 unfold DE;rw[List.setIfInBounds_toArray]
 congr 1
 apply List.ext_getElem?;intro j;rw[List.getElem?_set,List.getElem?_map,List.getElem?_map]
 by_cases hj:m=j
 ·subst hj;simp [h]
 ·rw[if_neg hj]
  rcases Nat.lt_or_ge j n with h2 | h2
  ·have e:(j<m)=(j<m+1):=propext ⟨by omega,by omega⟩
   simp [h2,e]
  ·rw[List.getElem?_eq_none (by simpa using h2)];rfl
theorem PD (K:Nat->Wd) (up lo:Wd) (n m:Nat) (h:n<=m):DE K up lo n m=(bvs (strm K up lo n)).toArray:=by
 unfold DE strm bvs;rw[List.map_map]
 congr 1
 apply List.map_congr_left;intro j hj;rw[if_pos (by have:=List.mem_range.1 hj;omega)];rfl
theorem Us (K:Nat->Wd) (up lo:Wd) (i:Nat):JI K up lo i<18446744073709551616:=by
 have h1:=Gm (BX K (up,lo+BitVec.ofNat 32 i)).1;have h2:=Gm (BX K (up,lo+BitVec.ofNat 32 i)).2;unfold JI;omega
theorem WZ (K:Nat->Wd) (up lo:Wd) (n j g c:Nat) (w:World) (h8:8*j<n) (hn:n<=2147483647) (hB:Blk w g 5 (DE K up lo n (8*j))) :
  Calls Tryz.prog 199 #[.slice (some ⟨g,8*j,none⟩) (n - 8*j) c,.int .u64 (JI K up lo j:Nat)] w fun e w'=>e=.returned (.tuple #[])/\Blk w' g 5 (DE K up lo n (min (8*j+8) n))/\w.grownBy w' (some g):=by
 obtain⟨X,eX⟩:=Ak (JI K up lo j);obtain⟨L,eL⟩:=Ak (n - 8*j);obtain⟨M,eM⟩:=Ak (min L 8);obtain⟨o,eo⟩:=Ak (8*j);rw[<-eX,<-eL,<-eo];rw[<-eo] at hB;have hX:X<18446744073709551616:=eX▸Us K up lo j;have hmin:min (L:Int) 8=(M:Int):=by omega
 have EX:=I eX;clear eX;have EL:=I eL;clear eL;have EM:=I eM;clear eM;have EO:=I eo;clear eo;have HB:=I hB;clear hB;have H8:=I h8;clear h8;have HN:=I hn;clear hn;go_enter Tryz.func199,Tryz.ntmps199
 go_upto_region 0 with fail
 go_cut [7,8] from 5 to 8 (fun mv zv wx=>mv=.int .i64 (M:Int)/\zv=.int .i64 0/\wx=w)
 case first=>
  go_wp2_with fail
  all_goals go_meet
  all_goals exact⟨congrArg (Value.int .i64) (by omega),rfl,rfl⟩
 obtain⟨rfl,rfl,rfl⟩:=hcut;clear hmin
 go_wp2_with fail
 go_loopw [8] (fun iv wr=>∃i:Nat,i<=M/\iv=.int .i64 (i:Int)/\Blk wr g 5 (DE K up lo n (o+i))/\wc.grownBy wr (some g)) (fun iv _=>M - (intOf iv).toNat)
 case atStart=>exact⟨0,Nat.zero_le _,rfl,HB.o,World.grownBy.refl _ _⟩
 case round=>
  obtain⟨i,hi,rfl,hB,hg⟩:=hrel
  by_cases hM:i=M
  ·have e1:decide ((i:Int)<(M:Int))=false:=by simp;omega
   have e2:¬i<M:=by omega
   have HB1:=I hB;clear hB;have HG1:=I hg;clear hg;have HM:=I hM;clear hM
   go_wp2_with fail
   go_end0
   refine⟨rfl,?_,HG1.o⟩;have e:o+i=min (o+8) n:=by have:=EM.o;have:=EL.o;have:=EO.o;have:=H8.o;have:=HM.o;omega
   rw[<-e];exact HB1.o
  ·have e1:(i:Int)<(M:Int):=by omega
   have e2:i<M:=by omega
   have e3:i<L:=by have:=EM.o;omega
   have e4:(i:Int)<(L:Int):=by omega
   have e5:(0:Int)<=(i:Int):=by omega
   have e6:i<8:=by have:=EM.o;omega
   have hon:o+i<n:=by have:=EM.o;have:=EL.o;have:=EO.o;omega
   have hy:=hB.cell (o+i);rw[Rq _ _ _ _ _ _ hon,if_neg (by omega)] at hy;simp only[bv] at hy;have fz:=hB.frozen;have HB1:=I hB;clear hB;have HG1:=I hg;clear hg;clear hM
   go_wp2_with fail
   go_roundw
   case rel=>
    refine⟨i+1,by omega,by go_num,?_,AE HG1.o (.inl rfl) _⟩;have hs:=HB1.o.set (o+i) (bv (Ej K up lo (o+i)));rw[PC K up lo n (o+i) hon] at hs;have hv:bv (Ej K up lo (o+i))=.int .u8 ((X:Int) / 2 ^ (8*i) % 256):=by
     have q1:(o+i) / 8=j:=by have:=EO.o;omega
     have q2:(o+i) % 8=i:=by have:=EO.o;omega
     have q3:(2:Nat) ^ (8*i)=256 ^ i:=by rw[Nat.pow_mul]
     unfold bv Ej;rw[q1,q2,<-EX.o,UInt8.toNat_ofNat',<-q3]
     congr 1
    rw[hv] at hs;exact hs
   case measure=>simp [intOf];omega
theorem PE (b:Option Addr) (N:Int) (n:Int) (w:World) (h:b=none\/n<1) :
  Calls Tryz.prog 154 #[.pointer b,.int .u64 N,.int .i64 n] w fun e w'=>e=.returned (.slice none 0 0)/\w'=w:=by
 by_cases hb:b=none
 ·subst hb
  clear h;go_enter Tryz.func154,Tryz.ntmps154
  go_wp2
  go_ret;exact⟨rfl,rfl⟩
 ·have hn:n<1:=h.resolve_left hb
  have e1:decide (n<1)=true:=by simpa using hn
  cases b with
  |none=>exact absurd rfl hb
  |some a=>
   clear hb h;go_enter Tryz.func154,Tryz.ntmps154
   go_wp2
   go_ret;exact⟨rfl,rfl⟩
theorem BP:(Tryz.prog.info? 5).map (fun i=>(i.zero,i.size,i.bytes))=some (some (.int .u8 0),1,1):=by kernel_rfl
def upW (N:Nat):Wd:=BitVec.ofNat 32 (N / 4294967296)
def loW (N:Nat):Wd:=BitVec.ofNat 32 N
theorem Ut (x y:Wd):bits .or .u64 ((y.toNat:Int)*4294967296 % 18446744073709551616) (x.toNat:Int)=((x.toNat+4294967296*y.toNat:Nat):Int):=by
 have hx:=Gm x;have hy:=Gm y;have e:(y.toNat:Int)*4294967296 % 18446744073709551616=((y.toNat*4294967296:Nat):Int):=by omega
 rw[e,u64_or_nat _ _ (by omega) (by omega),nat_join 32 (y.toNat*4294967296) x.toNat (by omega) (by omega)];omega
theorem PF (b:Nat) (ks:Nat->UInt8) (m:Bool) (N n:Nat) (nv:Int) (w:World) (hnv:nv=(n:Int)) (hn1:1<=n) (hn2:n<=1000000) (hN:N<18446744073709551616) (hK:Key w b ks m) :
  Calls Tryz.prog 154 #[.pointer (some ⟨b,0,none⟩),.int .u64 (N:Int),.int .i64 nv] w fun e w'=>∃g,e=.returned (.slice (some ⟨g,0,none⟩) n n)/\w.heap.size<=g/\
   Blk w' g 5 (bvs (strm (kw ks) (upW N) (loW N) n)).toArray/\Key w' b ks true/\w.grownBy w' (some b)/\(m=true->Below w.heap.size w w'):=by
 subst hnv;have cn:=GJ b ks m w hK;have hblt:=hK.lt;have i1:decide ((n:Int)<1)=false:=by simp;omega
 have i2:decide (2147483647<(n:Int))=false:=by simp;omega
 have i3:¬(n:Int)<1:=by omega
 have i4:¬2147483647<(n:Int):=by omega
 have hup:(N:Int) / 4294967296 % 4294967296=((upW N).toNat:Int):=by rw[upW,BitVec.toNat_ofNat];omega
 have hlo:(N:Int) % 4294967296=((loW N).toNat:Int):=by rw[loW,BitVec.toNat_ofNat];omega
 obtain⟨up,eup⟩:=Ak (upW N);obtain⟨lo,elo⟩:=Ak (loW N);rw[<-eup] at hup;rw[<-elo] at hlo;rw[<-eup,<-elo];obtain⟨it,hi0,hz0,hs0,hb0⟩:=info_parts BP;have hmk:=fun W=>Gd (P:=Tryz.prog) (t:=26) (e:=5) Tryz.underlying26 hi0 hz0 hs0 hb0 (n:Int) n rfl (by omega) W
 have N1:=I hn1;clear hn1;have N2:=I hn2;clear hn2;have BL:=I hblt;clear hblt;clear hK hN eup elo;go_enter Tryz.func154,Tryz.ntmps154
 go_wp2_with (first | (go_at_call 197;refine Aj cn ?_;rintro w2 ⟨hK2,hg2,he2⟩;have HK2:=I hK2;clear hK2;have HG2:=I hg2;clear hg2;have HE2:=I he2;clear he2))
 rw[hup,hlo];clear hup hlo;obtain⟨g,eg⟩:=Ak (w2.heap.size);rw[<-eg];have EG:=I eg;clear eg
 go_loopw [9,10] (fun lv iv wr=>∃j:Nat,8*j<n+8/\iv=.int .i64 ((8*j:Nat):Int)/\lv=wv (lo+BitVec.ofNat 32 j)/\Blk wr g 5 (DE (kw ks) up lo n (min (8*j) n))/\Below g w2 wr) (fun _ iv _=>n+8 - (intOf iv).toNat)
 case atStart=>
  refine⟨0,by omega,rfl,?_,?_,?_⟩
  ·show Value.int .u32 _=_
   simp
  ·have:=MU (kw ks) up lo n
   rw[show min (8*0) n=0 by omega,<-this,EG.o];exact Blk.new w2 _ _
  ·rw[EG.o];exact Ah.alloc Ag _
 case round=>
  obtain⟨j,hj,rfl,rfl,hB,hb⟩:=hrel;obtain⟨o,eo⟩:=Ak (8*j);rw[<-eo] at hB hj⊢;obtain⟨l0,el0⟩:=Ak (lo+BitVec.ofNat 32 j);rw[<-el0]
  by_cases hd:n<=o
  ·have e1:decide ((o:Int)<(n:Int))=false:=by simp;omega
   have e2:¬o<n:=by omega
   have HB1:=I hB;clear hB;have HB2:=I hb;clear hb;clear hj hd el0
   go_wp2_with fail
   go_ret;have hKE:Key wr b ks true:=HK2.o.below (EG.o▸HB2.o);have hgE:w.grownBy wr (some b):=IB HG2.o (EG.o▸HB2.o);refine⟨g,rfl,?_,?_,hKE,hgE,?_⟩
   ·rw[EG.o];exact HG2.o.size
   ·have:=HB1.o
    rw[Nat.min_eq_right (by omega),PD _ _ _ _ _ Ag] at this;exact this
   ·intro hm
    have h2:=HE2.o hm;subst h2;exact EG.o▸HB2.o
  ·have e1:(o:Int)<(n:Int):=by omega
   have e2:o<n:=by omega
   have e3:(0:Int)<=(o:Int):=by omega
   have e4:(o:Int)<=(n:Int):=by omega
   have e5:o<=n:=by omega
   obtain⟨x0,ex⟩:=Ak ((BX (kw ks) (up,l0)).1);obtain⟨y0,ey⟩:=Ak ((BX (kw ks) (up,l0)).2);obtain⟨l1,el1⟩:=Ak (lo+BitVec.ofNat 32 (j+1));have hX:JI (kw ks) up lo j=x0.toNat+4294967296*y0.toNat:=by rw[JI,<-el0,<-ex,<-ey]
   obtain⟨X,eX⟩:∃X:Nat,X=JI (kw ks) up lo j:=⟨_,rfl⟩;have hKr:Key wr b ks true:=HK2.o.below (EG.o▸hb);have ct:=Ir b ks up l0 wr hKr;rw[<-ex,<-ey] at ct;have hBo:Blk wr g 5 (DE (kw ks) up lo n (8*j)):=by rw[Nat.min_eq_left e5,eo] at hB;exact hB
   have cp:=WZ (kw ks) up lo n j g (n - 8*j) wr (eo▸e2) (by have:=N2.o;omega) hBo;rw[<-eo,<-eX] at cp;have cy:(y0.toNat:Int) % 18446744073709551616=(y0.toNat:Int):=by have:=Gm y0;omega
   have cx:(x0.toNat:Int) % 18446744073709551616=(x0.toNat:Int):=by have:=Gm x0;omega
   have cor:bits .or .u64 ((y0.toNat:Int)*4294967296 % 18446744073709551616) (x0.toNat:Int)=(X:Int):=by rw[eX,hX];exact Ut x0 y0
   have cor2:bits .or .u64 ((y0.toNat:Int)*4294967296) (x0.toNat:Int)=(X:Int):=by
    have hm:(y0.toNat:Int)*4294967296 % 18446744073709551616=(y0.toNat:Int)*4294967296:=by have:=Gm y0;omega
    rw[<-hm];exact cor
   have cl:((l0.toNat:Int)+1) % 4294967296=(l1.toNat:Int):=by
    rw[el1,el0,BitVec.toNat_add,BitVec.toNat_add,BitVec.toNat_ofNat,BitVec.toNat_ofNat];omega
   have HB1:=I hB;clear hB;have HB2:=I hb;clear hb;have HX:=I eX;clear eX;have HL1:=I el1;clear el1;have HO:=I eo;clear eo;have HO2:=I e5;clear hX hKr hBo ex ey el0 hj hd
   go_wp2_with (first | (go_at_call 198;refine Aj ct ?_;rintro w' rfl) | (go_at_call 199;refine Aj cp ?_;rintro w3 ⟨hb3,hg3⟩;have HB3:=I hb3;clear hb3;have HG3:=I hg3;clear hg3))
   go_roundw
   case rel=>
    refine⟨j+1,by have:=HO.o;omega,?_,by rw[<-HL1.o];exact congrArg (Value.int .u32) cl,?_,?_⟩
    ·exact congrArg (Value.int .i64) (by have:=HO.o;omega)
    ·have:=HB3.o
     rw[show o+8=8*(j+1) by have:=HO.o;omega] at this;exact this
    ·exact Below.grown HB2.o HG3.o (by rw[EG.o];exact HB2.o.size) (fun k hk=>by injection hk with hk;omega)
   case measure=>have:=HO.o;simp [intOf];omega
def ksOf (l:List UInt8) (i:Nat):UInt8:=l.getD i 0
theorem FM (f:Nat->UInt8) (j:Nat) (hj:j<16):(AI f)[j]? = some (bv (f j)):=by
 rw[AI,List.getElem?_toArray];simp [hj]
theorem Je {f g:Nat->UInt8} (h:∀j,j<16->f j=g j):AI f=AI g:=by
 unfold AI
 congr 1
 apply List.map_congr_left;intro j hj;rw[h j (by simpa using hj)]
def AR (W:Nat->Wd):Array Value:=((List.range 27).map (fun j=>wv (W j))).toArray
theorem FN (W:Nat->Wd) (i:Nat) (h:i<27):(AR W)[i]? = some (wv (W i)):=by
 rw[AR,List.getElem?_toArray];simp [h]
theorem Jf (W:Nat->Wd) (i:Nat) (v:Wd):(AR W).setIfInBounds i (wv v)=AR (upd W i v):=by
 unfold AR;rw[List.setIfInBounds_toArray]
 congr 1
 apply List.ext_getElem?;intro j;rw[List.getElem?_set,List.getElem?_map,List.getElem?_map]
 by_cases hj:i=j
 ·subst hj
  rcases Nat.lt_or_ge i 27 with h | h
  ·simp [h,upd]
  ·simp [Nat.not_lt.2 h]
 ·rw[if_neg hj]
  have hji:¬j=i:=fun h=>hj h.symm
  rcases Nat.lt_or_ge j 27 with h | h
  ·simp [h,upd,hji]
  ·rw[List.getElem?_eq_none (by simpa using h)];rfl
def kz (ks:Nat->UInt8) (i j:Nat):UInt8:=if j<i then ks j else 0
theorem MV (ks:Nat->UInt8) (i j:Nat) (h:j<i):kz ks i j=ks j:=if_pos h
theorem MW (ks:Nat->UInt8) (i j:Nat) (h:i<=j):kz ks i j=0:=if_neg (by omega)
def Gc (ks:Nat->UInt8) (t i:Nat):Wd:=Ew (kz ks i) t
def Jg (ks:Nat->UInt8) (i:Nat):Array Value:=#[wv (Gc ks 0 i),wv (Gc ks 1 i),wv (Gc ks 2 i),wv (Gc ks 3 i)]
theorem Bu (ks:Nat->UInt8) (t i:Nat) (h:t≠i / 4):Gc ks t (i+1)=Gc ks t i:=by
 have e:∀j,j / 4=t->kz ks (i+1) j=kz ks i j:=fun j hj=>by
  unfold kz
  by_cases h2:j<i
  ·rw[if_pos h2,if_pos (by omega)]
  ·rw[if_neg h2,if_neg (by omega)]
 unfold Gc Ew;rw[e _ (by omega),e _ (by omega),e _ (by omega),e _ (by omega)]
theorem PG (ks:Nat->UInt8) (q r i:Nat) (hr:r<4) (hi:i=4*q+r):bits .or .u32 ((Gc ks q i).toNat:Int) (((ks i).toNat:Int)*2 ^ (8*r) % 4294967296)=((Gc ks q (i+1)).toNat:Int):=by
 have hk:=(ks i).toNat_lt;have l0:=(ks (4*q)).toNat_lt;have l1:=(ks (4*q+1)).toNat_lt;have l2:=(ks (4*q+2)).toNat_lt;have l3:=(ks (4*q+3)).toNat_lt;have h:r=0\/r=1\/r=2\/r=3:=by omega
 have z:(0:UInt8).toNat=0:=rfl;unfold Gc Ew;rcases h with rfl | rfl | rfl | rfl
 ·subst hi
  have e:((ks (4*q+0)).toNat:Int)*2 ^ (8*0) % 4294967296=(((ks (4*q)).toNat:Nat):Int):=by simp only[Nat.add_zero];omega
  rw[e,u32_or_nat _ _ (BitVec.isLt _) (by omega),Dd,Dd];simp (disch:=omega) only[MV,MW,z];simp
 ·subst hi
  have e:((ks (4*q+1)).toNat:Int)*2 ^ (8*1) % 4294967296=(((ks (4*q+1)).toNat*256:Nat):Int):=by omega
  rw[e,u32_or_nat _ _ (BitVec.isLt _) (by omega),Nat.or_comm,nat_join 8 _ _ (by omega) (by rw[Dd];simp (disch:=omega) only[MV,MW,z];omega),Dd,Dd];simp (disch:=omega) only[MV,MW,z];omega
 ·subst hi
  have e:((ks (4*q+2)).toNat:Int)*2 ^ (8*2) % 4294967296=(((ks (4*q+2)).toNat*65536:Nat):Int):=by omega
  rw[e,u32_or_nat _ _ (BitVec.isLt _) (by omega),Nat.or_comm,nat_join 16 _ _ (by omega) (by rw[Dd];simp (disch:=omega) only[MV,MW,z];omega),Dd,Dd];simp (disch:=omega) only[MV,MW,z];omega
 ·subst hi
  have e:((ks (4*q+3)).toNat:Int)*2 ^ (8*3) % 4294967296=(((ks (4*q+3)).toNat*16777216:Nat):Int):=by omega
  rw[e,u32_or_nat _ _ (BitVec.isLt _) (by omega),Nat.or_comm,nat_join 24 _ _ (by omega) (by rw[Dd];simp (disch:=omega) only[MV,MW,z];omega),Dd,Dd];simp (disch:=omega) only[MV,MW,z];omega
theorem GK (ks:Nat->UInt8) (t:Nat) (h:t<4):Gc ks t 16=Ew ks t:=by
 unfold Gc Ew kz;rw[if_pos (by omega),if_pos (by omega),if_pos (by omega),if_pos (by omega)]
theorem Ft (ks:Nat->UInt8) (q i:Nat) (h:q<4):(Jg ks i)[q]? = some (wv (Gc ks q i)):=by
 have h2:q=0\/q=1\/q=2\/q=3:=by omega
 rcases h2 with rfl | rfl | rfl | rfl<;>rfl
theorem PH (ks:Nat->UInt8) (i:Nat) (h:i<16):(Jg ks i).setIfInBounds (i / 4) (wv (Gc ks (i / 4) (i+1)))=Jg ks (i+1):=by
 have h2:i / 4=0\/i / 4=1\/i / 4=2\/i / 4=3:=by omega
 unfold Jg;rcases h2 with e | e | e | e<;>rw[e]
 ·rw[Bu ks 1 i (by omega),Bu ks 2 i (by omega),Bu ks 3 i (by omega)];rfl
 ·rw[Bu ks 0 i (by omega),Bu ks 2 i (by omega),Bu ks 3 i (by omega)];rfl
 ·rw[Bu ks 0 i (by omega),Bu ks 1 i (by omega),Bu ks 3 i (by omega)];rfl
 ·rw[Bu ks 0 i (by omega),Bu ks 1 i (by omega),Bu ks 2 i (by omega)];rfl
theorem FO (w:World) (t:TypeId) (cs:Array Value) (l:List Value) (h:cs.toList=l) (N:Nat) (hN:w.heap.size=N):Rd (w.alloc (.cells cs t)) (N+1) (some ⟨N,0,none⟩) l:=by
 subst hN;refine .inr ⟨w.heap.size,0,rfl,by omega,fun i u hu=>?_⟩;rw[Nat.zero_add,(Blk.new w t cs).cell i];rw[<-h] at hu
 simpa using hu
theorem LI {w:World} {base:Nat} {t:TypeId} {v:Value} {n:Nat} {xs:List Value} (h:w.ownsRow base t 1 v n xs) (hn:0<n):∃g cap,v=.slice (some ⟨g,0,none⟩) n cap/\base<=g/\g<w.heap.size/\∀i u,xs[i]? = some u->w.cell? ⟨g,i,none⟩=some u:=by
 obtain⟨hl,h | ⟨g,cap,cur,rfl,hg,hcur,hc1,hc2,hc3,hx⟩⟩:=h
 ·omega
 ·refine⟨g,cap,rfl,hg,Blk.lt (t:=t) (cs:=cur) hcur,fun i u hu=>?_⟩
  rw[Blk.cell (t:=t) (cs:=cur) hcur i];rw[<-hx,List.getElem?_take] at hu
  split at hu
  ·simpa using hu
  ·cases hu
theorem DF {w w':World} {base:Nat} {t:TypeId} {v:Value} {n:Nat} {xs:List Value} {o:Obj} (h:w.ownsRow base t 1 v n xs) (e:w'.heap=w.heap.push o):w'.ownsRow base t 1 v n xs:=by
 obtain⟨hl,h | ⟨g,cap,cur,hv,hg,hcur,hr⟩⟩:=h
 ·exact⟨hl,.inl h⟩
 ·refine⟨hl,.inr ⟨g,cap,cur,hv,hg,?_,hr⟩⟩
  have hlt:=Blk.lt (t:=t) (cs:=cur) hcur;rw[e,Array.getElem?_push_lt hlt,<-Array.getElem?_eq_getElem hlt];exact hcur
theorem Xa {w:World} {base:Nat} {t:TypeId} {v:Value} {n:Nat} {xs:List Value} (h:w.ownsRow base t 1 v n xs) (p:Addr) (u:Value) (hp:p.block<base):(w.setCell p u).ownsRow base t 1 v n xs:=by
 obtain⟨hl,h | ⟨g,cap,cur,hv,hg,hcur,hr⟩⟩:=h
 ·exact⟨hl,.inl h⟩
 ·exact⟨hl,.inr ⟨g,cap,cur,hv,hg,(Below.heap_setCell w p u g (by omega)).trans hcur,hr⟩⟩
theorem LJ {w w':World} {u0:Value} {t:TypeId} (e:w'.heap=w.heap.push (.cells #[u0] t (0,0))):∀j u,[u0][j]? = some u->w'.cell? ((⟨w.heap.size,0,none⟩:Addr).add j)=some u:=by
 intro j u hu;have hb:Blk w' w.heap.size t #[u0]:=by unfold Blk;rw[e];simp
 rw[addr_add,Nat.zero_add,hb.cell]
 simpa using hu
def lrow (ks:Nat->UInt8) (n:Nat):List Value:=(List.range n).map (fun j=>wv (lw ks j))
theorem Rr (ks:Nat->UInt8) (n i:Nat) (h:i<n):(lrow ks n)[i]? = some (wv (lw ks i)):=by simp [lrow,h]
theorem Rs (ks:Nat->UInt8) (n:Nat):lrow ks n++[wv (lw ks n)]=lrow ks (n+1):=by simp [lrow,List.range_succ]
theorem Uu:(Tryz.prog.info? 158).map (fun i=>(i.zero,i.size,i.bytes))=some (some (.int .u32 0),1,4):=by kernel_rfl
theorem KK {f g:Nat->Wd} (h:∀j,j<27->f j=g j):AR f=AR g:=by
 unfold AR
 congr 1
 apply List.map_congr_left;intro j hj;rw[h j (by simpa using hj)]
theorem Ae {w:World} {g:Nat} {t:TypeId} {cs:Array Value} (h:Blk w g t cs):w.rangeAt g 0 cs.toList:=fun j v hv=>by
 rw[Nat.zero_add,h.cell];simpa using hv
theorem Ar {w:World} {g:Nat} {t:TypeId} {cs:Array Value} (h:Blk w g t cs):w.there g 0 cs.size:=fun j hj=>by
 rw[Nat.zero_add];exact⟨by rw[h.cell,Array.getElem?_eq_getElem hj];rfl,h.frozen j⟩
theorem Bn {B:Nat} {a:World} (b:Nat) (hb:B<=b):∀(vs:List Value) (o:Nat) (w:World),Below B a w->Below B a (w.setCells b o vs)
 | [],_,_,h=>h
 |v :: r,o,w,h=>Bn b hb r (o+1) _ (Ay h hb v)
theorem YO (ks:Nat->UInt8) (w:World):Calls Tryz.prog 81 #[.agg (AI ks)] w fun e w'=>e=.returned (.agg (AR (kw ks)))/\Below w.heap.size w w':=by
 obtain⟨B,eB⟩:=Ak (w.heap.size);rw[<-eB];have EB:=I eB;go_enter Tryz.func81,Tryz.ntmps81
 go_wp2_with fail
 rw[<-eB];clear eB
 go_loopw [4] (fun iv wr=>∃i:Nat,i<=16/\iv=.int .i64 (i:Int)/\Below B w wr/\wr.heap.size=B+3/\Blk wr B 168 (AI ks)/\Blk wr (B+1) 191 (AR Hm)/\Blk wr (B+1+1) 239 (Jg ks i)) (fun iv _=>16 - (intOf iv).toNat)
 case atStart=>
  have e1:=EB.o;refine⟨0,by decide,rfl,?_,by simp;omega,?_,?_,?_⟩
  ·rw[e1];exact(((Below.refl w.heap.size w).alloc Ag _).alloc (by simp) _).alloc (by simp;omega) _
  ·exact Blk.alloc (Blk.alloc (Blk.new_of w B _ _ _ rfl e1.symm) _) _
  ·exact Blk.alloc (Blk.new_of (w.alloc _) (B+1) _ _ (AR Hm) (by kernel_rfl) (by simp;omega)) _
  ·exact Blk.new_of _ (B+1+1) _ _ (Jg ks 0) (by kernel_rfl) (by simp;omega)
 case round=>
  obtain⟨i,hi,rfl,hb,hsz,hB0,hB1,hB2⟩:=hrel;have HB:=I hb;clear hb;have HB0:=I hB0;have HB1:=I hB1;have HB2:=I hB2;have HS:=I hsz
  by_cases h16:i=16
  ·subst h16
   have HI:=I hi;clear hi;clear hB0 hB1 hB2
   go_upto_region 6 with fail
   go_cut [5] from 8 to 28 (fun kp wx=>kp=.pointer (some ⟨B+3,0,none⟩)/\Below B w wx/\wx.heap.size=B+4/\Blk wx (B+1) 191 (AR Hm)/\Blk wx (B+1+1) 239 (Jg ks 16)/\Blk wx (B+3) 191 (AR Hm))
   case first=>
    go_wp2_with fail
    go_meet
    have e1:=HS.o;exact⟨rfl,HB.o.alloc (by omega) _,by simp;omega,Blk.alloc HB1.o _,Blk.alloc HB2.o _,Blk.new_of wr (B+3) _ _ (AR Hm) (by kernel_rfl) e1⟩
   case rest=>
    clear hsz HB HB0 HB1 HB2 HS;obtain⟨rfl,hb,hsz,hB1,hB2,hB3⟩:=hcut;have HB:=I hb;clear hb;have HB1:=I hB1;clear hB1;have HB2:=I hB2;have HB3:=I hB3;have HS:=I hsz;obtain⟨w0,e0⟩:∃v,v=Ew ks 0:=⟨_,rfl⟩;obtain⟨w1,e1⟩:∃v,v=Ew ks 1:=⟨_,rfl⟩;obtain⟨w2,e2⟩:∃v,v=Ew ks 2:=⟨_,rfl⟩;obtain⟨w3,e3⟩:∃v,v=Ew ks 3:=⟨_,rfl⟩;have c0:wc.cell? ⟨B+1+1,0,none⟩=some (wv w0):=by rw[hB2.cell,Ft _ _ _ (by decide),GK _ _ (by decide),e0]
    have c1:wc.cell? ⟨B+1+1,1,none⟩=some (wv w1):=by rw[hB2.cell,Ft _ _ _ (by decide),GK _ _ (by decide),e1]
    have c2:wc.cell? ⟨B+1+1,2,none⟩=some (wv w2):=by rw[hB2.cell,Ft _ _ _ (by decide),GK _ _ (by decide),e2]
    have c3:wc.cell? ⟨B+1+1,3,none⟩=some (wv w3):=by rw[hB2.cell,Ft _ _ _ (by decide),GK _ _ (by decide),e3]
    have k0:wc.cell? ⟨B+3,0,none⟩=some (wv 0):=by rw[hB3.cell];exact FN _ _ (by decide)
    have f0:=hB3.frozen;clear hB2 hB3
    go_wp2_with fail
    have F0:=HB3.o.set 0 (wv (kw ks 0));rw[Jf,Ie] at F0;have F1:=Blk.far HB1.o ⟨B+3,0,none⟩ (wv (kw ks 0)) (by simp);have F2:Below B w (wc.setCell ⟨B+3,0,none⟩ (wv (kw ks 0))):=Ay HB.o (by simp) _;have S0:(wc.setCell ⟨B+3,0,none⟩ (wv (kw ks 0))).heap.size=B+4:=by simpa [World.setCell] using HS.o
    have F3:=I F0;clear F0;have F4:=I F1;clear F1;have F5:=I F2;clear F2;have S1:=I S0;clear S0;have hwa:=Gb;clear c0 c1 c2 c3 k0 f0 hsz e0 e1 e2 e3 HB HB1 HB2 HB3 HS w0 w1 w2 w3 hwa
    go_loopw [6,7] (fun lv iv wr=>∃i:Nat,i<=26/\iv=.int .i64 (i:Int)/\Below B w wr/\B+4<=wr.heap.size/\Blk wr (B+1) 191 (AR Hm)/\Blk wr (B+3) 191 (AR (Bm ks i))/\wr.ownsRow (B+4) 158 1 lv (i+3) (lrow ks (i+3))) (fun _ iv _=>26 - (intOf iv).toNat)
    case atStart=>
     refine⟨0,by decide,rfl,?_,?_,Blk.alloc F4.o _,Blk.alloc F3.o _,?_⟩
     ·exact F5.o.alloc (by have:=S1.o;omega) _
     ·simp;have:=S1.o;simp at this;omega
     ·refine⟨rfl,.inr ⟨B+4,3,_,rfl,Nat.le_refl _,Blk.new_of _ (B+4) _ _ _ rfl S1.o,Nat.le_refl _,by decide,rfl,rfl⟩⟩
    case round=>
     obtain⟨i,hi,rfl,hb,hsz,hB1,hB3,hown⟩:=hrel;have HB:=I hb;clear hb;have HS:=I hsz;clear hsz
     by_cases h26:i=26
     ·subst h26
      obtain⟨cs,ecs⟩:=Ak (AR (Bm ks 26));rw[<-ecs] at hB3;have hcs:cs.size=27:=by rw[ecs];simp [AR]
      have ez:(AR Hm).size=27:=by simp [AR]
      have hR:wr.rangeAt (B+3) 0 cs.toList:=Ae hB3;have hT:wr.there (B+1) 0 cs.size:=by
       have:=Ar hB1
       rwa [ez,<-hcs] at this
      have hi27:(Tryz.prog.info? 191).map (·.size)=some cs.size:=by rw[hcs];kernel_rfl
      have hi28:(Tryz.prog.info? 191).map (·.size)=some cs.toList.length:=by rw[Array.length_toList];exact hi27
      have h1c:cs.all (·.oneCell')=true:=by rw[ecs];simp [AR,Value.oneCell']
      have EC:Hid (cs=AR (kw ks)):=by rw[ecs];exact KK (fun j hj=>by rw[Bm,if_pos (by omega)])
      have HI:=I hi;clear hi;have H1C:=I h1c;clear h1c;have HT:=I hT;clear hT;have HR:=I hR;clear hR;have H27:=I hi27;clear hi27;have H28:=I hi28;clear hi28;clear hB1 hB3 hown ecs hcs ez
      go_wp2_with (first | (refine wpList_load_mid (by rfl) 191 (.tmp 5) (by rfl) (B+3) 0 (by rfl) cs.toList _ HR.o Tryz.underlying191 (by rfl) H28.o ?_) | (refine wpList_store_mid (by rfl) 191 (.tmp 2) (.tmp 71) (by rfl) (B+1) 0 cs (by rfl) (by rfl) HT.o H27.o H1C.o ?_) | fail)
      have hq:=run_loadVar_mid (P:=Tryz.prog) (wr.setCells (B+1) 0 cs.toList) (B+1) 0 191 cs.toList _ (World.rangeAt_setCells_same wr (B+1) 0 cs.toList (by rw[Array.length_toList];exact HT.o)) Tryz.underlying191 rfl H28.o;refine bodyPost_ret (v:=.agg cs) ?_ ?_ ?_
      ·exact Au (v:=.agg cs) 2 191 ⟨B+1,0,none⟩ Tryz.results81 (by rfl) hq
      ·rfl
      ·exact⟨by rw[EC.o],Bn (B+1) (by omega) _ _ _ HB.o⟩
     ·have i1:(i:Int)<26:=by omega
      have i2:i<26:=by omega
      have i3:(0:Int)<=(i:Int):=by omega
      have i4:(i:Int)<27:=by omega
      have i5:i<27:=by omega
      have i6:(i:Int)+1<27:=by omega
      have i7:i+1<27:=by omega
      obtain⟨n3,en3⟩:=Ak (i+3);rw[<-en3] at hown;obtain⟨g,cap,rfl,hg,hgl,hcell⟩:=LI hown (by omega);have n1:(i:Int)<(n3:Int):=by omega
      have n2:i<n3:=by omega
      obtain⟨k0,ek⟩:=Ak (kw ks i);obtain⟨a0,ea⟩:=Ak (lw ks i);obtain⟨v,ev⟩:=Ak (lw ks (i+3));obtain⟨u,eu⟩:=Ak (kw ks (i+1));obtain⟨ci,ec⟩:=Ak (BitVec.ofNat 32 i);obtain⟨ra,era⟩:=Ak (rot a0 24);obtain⟨rk,erk⟩:=Ak (rot k0 3);obtain⟨sm,es⟩:=Ak (k0+ra);have hwc:IntKind.u32.wrap (i:Int)=(ci.toNat:Int):=by rw[ec];exact Of i
      have hwd:(i:Int) % 4294967296=(ci.toNat:Int):=by rw[<-IntKind.wrap_u32];exact hwc
      have hx0:((k0.toNat:Int)+(ra.toNat:Int)) % 4294967296=(sm.toNat:Int):=by rw[es];exact Gb _ _
      have hx1:IntKind.u32.wrap ((k0.toNat:Int)+(ra.toNat:Int))=(sm.toNat:Int):=by rw[IntKind.wrap_u32];exact hx0
      have hx2:bits .xor .u32 (sm.toNat:Int) (ci.toNat:Int)=(v.toNat:Int):=by rw[Br,ev,lw_3,es,era,ek,ea,ec]
      have hx3:bits .xor .u32 (rk.toNat:Int) (v.toNat:Int)=(u.toNat:Int):=by rw[Br,ev,eu,Rl,erk,ek]
      have hiw:IntKind.i64.wrap ((i:Int)+1)=(i:Int)+1:=by rw[IntKind.wrap_i64];omega
      have hiv:IntKind.i64.wrap ((i:Int)+3)=(n3:Int):=by rw[IntKind.wrap_i64];omega
      have ck:wr.cell? ⟨B+3,i,none⟩=some (wv k0):=by rw[hB3.cell,FN _ _ i5,Bm,if_pos Ag,ek]
      have ca:wr.cell? ⟨g,i,none⟩=some (wv a0):=by rw[hcell i _ (Rr ks n3 i n2),ea]
      have ckA:(wr.alloc (.cells #[.int .u32 v.toNat] 158)).cell? ⟨B+3,i,none⟩=some (.int .u32 k0.toNat):=by rw[World.cell?_alloc_past _ _ _ (show(⟨B+3,i,none⟩:Addr).block<wr.heap.size by show B+3<_;have:=HS.o;omega)];exact ck
      have cr8:=Rn a0;rw[<-era] at cr8;have cl3:=VO k0;rw[<-erk] at cl3;obtain⟨ti,hi0,hz0,hs0,hb0⟩:=info_parts Uu;have HO:=I hown;clear hown;have HB1:=I hB1;clear hB1;have HB3:=I hB3;clear hB3;have HG:=I hg;clear hg;have EV:=I ev;clear ev;have EU:=I eu;clear eu;have EN:=I en3;clear en3;have HH:=I i2;have HI:=I hi;clear hi;clear ek ea ec era erk es hcell h26 hgl
      go_wp2_with fail
      go_region_law (first | (go_simp;go_at_call 129;refine Aj (cr8 _) ?_;rintro w' rfl) | ((refine step_append_lies _ (by rfl) (.tmp 43) (.tmp 56) 240 (by rfl) (B+4) 158 ti _ 1 4 Tryz.underlying240 hi0 hz0 hs0 hb0 (by rfl) (by decide) (.slice (some ⟨g,0,none⟩) n3 cap) n3 (lrow ks n3) (by rfl) (DF HO.o (by rfl)) ⟨wr.heap.size,0,none⟩ 1 1 [.int .u32 v.toNat] (by rfl) (by rfl) (LJ (by rfl)) (by simp [Value.oneCell']) (by decide) (by have:=EN.o;have:=HH.o;unfold maxLen;omega) (by have:=EN.o;have:=HH.o;omega) (by have:=HS.o;simp;omega) (wr.heap.size+1) (by simp) ?_;intro g2 cap2 w2 hown2 hgrow hat hlt)))
      all_goals (
       have ho2:w2.ownsRow (B+4) 158 1 (.slice (some ⟨g2,0,none⟩) (n3+1) cap2) (n3+1) (lrow ks (n3+1)):=by
        rw[<-Rs,show lw ks n3=v by rw[EN.o,EV.o]];exact hown2
       have ca2:w2.cell? ⟨g2,n3,none⟩=some (wv v):=by
        obtain⟨gx,cx,hvx,_,_,hcx⟩:=LI ho2 (by omega);injection hvx with hv1 _ _;injection hv1 with hv1;injection hv1 with hv1 _;subst hv1;rw[hcx n3 _ (Rr ks (n3+1) n3 (by omega)),show lw ks n3=v by rw[EN.o,EV.o]]
       have hgw:(wr.alloc (.cells #[.int .u32 v.toNat] 158)).grownBy w2 (some g):=⟨hgrow.os,hgrow.tape,hgrow.output,hgrow.size,hgrow.block⟩;have hK3:Blk w2 (B+3) 191 (AR (Bm ks i)):=Blk.grown (Blk.alloc HB3.o _) hgw (fun h=>by have:=HG.o;injection h with h;omega);have hK1:Blk w2 (B+1) 191 (AR Hm):=Blk.grown (Blk.alloc HB1.o _) hgw (fun h=>by have:=HG.o;injection h with h;omega);have hb2:Below B w w2:=Below.grown (HB.o.alloc (by have:=HS.o;omega) _) hgw (by have:=HS.o;simp;omega) (fun k hk=>by have:=HG.o;injection hk with hk;omega);have hs2:B+4<=w2.heap.size:=by have h1:=hgw.size;have h2:=HS.o;simp at h1;omega
       have ck2:w2.cell? ⟨B+3,i,none⟩=some (wv k0):=by
        have e1:=HB3.o.cell i;have e2:=hK3.cell i;rw[<-e1] at e2;exact e2.trans ck
       have cw2:w2.cell? ⟨B+3,i+1,none⟩=some (wv (Bm ks i (i+1))):=by rw[hK3.cell];exact FN _ _ i7
       have fw2:=hK3.frozen;have HO2:=I ho2;clear ho2;have HK3:=I hK3;clear hK3;have HK1:=I hK1;clear hK1;have HB4:=I hb2;clear hb2;have HS2:=I hs2;clear hs2;clear hown2 hgrow hgw hat hlt ck ca ckA;obtain⟨m3,em3⟩:=Ak (n3+1);rw[<-em3];rw[<-em3] at HO2;have m1:(n3:Int)<(m3:Int):=by omega
       have m2:n3<m3:=by omega
       have m4:(0:Int)<=(n3:Int):=by omega
       have EM:=I em3;clear em3
       go_wp2_with fail
       refine wp_region_still_tail 12 (by kernel_rfl) (by kernel_rfl) ?_;simp only[List.take_succ_cons,List.take_zero,List.drop_succ_cons,List.drop_zero];change wpStill _ _ w2.drew _ _ _
       repeat still_step
       still_call (cl3 _)
       repeat still_step
       refine wpStill_nil ?_;change wpList _ _ _ _ _ w2.drew
       go_wp2_with fail
       go_roundw
       case rel=>
        (repeat apply Exists.intro)
        refine⟨?_,rfl⟩;refine⟨i+1,by have:=HH.o;omega,by go_num,?_,?_,?_,?_,?_⟩
        ·exact below_drewN (Ay HB4.o (by simp<;>omega) _) 1
        ·simpa [World.setCell] using HS2.o
        ·exact Blk.far HK1.o _ _ (by simp)
        ·have e:=HK3.o.set (i+1) (wv u)
         rw[Jf,EU.o,Jd,<-EU.o] at e;exact e
        ·rw[show i+1+3=m3 by have:=EM.o;have:=EN.o;omega]
         exact Xa HO2.o ⟨B+3,i+1,none⟩ (wv u) (by simp)
       case measure=>have:=HH.o;simp [intOf];omega)
  ·obtain⟨q,eq⟩:=Ak (i / 4)
   obtain⟨r,er⟩:=Ak (i % 4);have hq:(i:Int).tdiv 4=(q:Int):=by rw[Int.tdiv_eq_ediv_of_nonneg (by omega)];omega
   have hr:(i:Int).tmod 4=(r:Int):=by rw[Int.tmod_eq_emod_of_nonneg (by omega)];omega
   have q1:(q:Int)<4:=by omega
   have q2:q<4:=by omega
   have q3:(0:Int)<=(q:Int):=by omega
   have r1:(r:Int)<4:=by omega
   have r2:r<4:=by omega
   have r3:(0:Int)<=(r:Int):=by omega
   have i1:(i:Int)<16:=by omega
   have i2:i<16:=by omega
   have i3:(0:Int)<=(i:Int):=by omega
   obtain⟨u,eu⟩:=Ak (Gc ks q i);obtain⟨v,ev⟩:=Ak (Gc ks q (i+1));obtain⟨k,ek⟩:=Ak (ks i);obtain⟨sh,es⟩:=Ak (8*r);obtain⟨km,em⟩:∃km:Nat,km=k.toNat*2 ^ sh % 4294967296:=⟨_,rfl⟩;have hsh:8*(r:Int)=(sh:Int):=by omega
   have hkm:IntKind.u32.wrap ((k.toNat:Int)*2 ^ sh)=(km:Int):=by
    rw[IntKind.wrap_u32,em];have:((k.toNat*2 ^ sh:Nat):Int)=(k.toNat:Int)*2 ^ sh:=by rw[Int.natCast_mul,Int.natCast_pow];rfl
    rw[<-this];omega
   have hv:bits .or .u32 (u.toNat:Int) (km:Int)=(v.toNat:Int):=by
    have e:=PG ks q r i r2 (by omega);rw[<-es,<-eu,<-ev,<-ek] at e;rw[<-e,<-hkm,IntKind.wrap_u32]
   have hms:min sh 32=sh:=by omega
   have hwq:IntKind.i64.wrap (q:Int)=(q:Int):=by rw[IntKind.wrap_i64];omega
   have hwr:IntKind.i64.wrap (r:Int)=(r:Int):=by rw[IntKind.wrap_i64];omega
   have hws:IntKind.i64.wrap (sh:Int)=(sh:Int):=by rw[IntKind.wrap_i64];omega
   have hwt:IntKind.u64.wrap (sh:Int)=(sh:Int):=by rw[IntKind.wrap_u64];omega
   have kk2:IntKind.u32.wrap (k.toNat:Int)=(k.toNat:Int):=by rw[IntKind.wrap_u32];have:=BC k;omega
   have ck:wr.cell? ⟨B,i,none⟩=some (.int .u8 (k.toNat:Int)):=by rw[hB0.cell,FM _ _ i2,ek];rfl
   have cu:wr.cell? ⟨B+1+1,q,none⟩=some (wv u):=by rw[hB2.cell,Ft _ _ _ q2,eu]
   have fu:=hB2.frozen;have kk:(k.toNat:Int) % 4294967296=(k.toNat:Int):=by have:=BC k;omega
   have HH:=I h16;clear h16;have EQ:=I eq;clear eq;have EV:=I ev;clear ev;have HI:=I hi;clear hi;clear hB0 hB1 hB2 eu er ek hsz es em
   go_wp2_with fail
   refine wp_region_still_tail 16 (by kernel_rfl) (by kernel_rfl) ?_;simp only[List.take_succ_cons,List.take_zero,List.drop_succ_cons,List.drop_zero];change wpStill _ _ wr.drew _ _ _
   repeat still_step
   refine wpStill_nil ?_;change wpList _ _ _ _ _ wr.drew
   go_wp2_with fail
   go_roundw
   case rel=>
    refine⟨i+1,by have:=HI.o;have:=HH.o;omega,by go_num,?_,?_,?_,?_,?_⟩
    ·exact below_drewN (Ay HB.o (by simp;omega) _) 1
    ·simpa [World.setCell] using HS.o
    ·exact Blk.far HB0.o _ _ (by simp;omega)
    ·exact Blk.far HB1.o _ _ (by simp)
    ·have e:=HB2.o.set q (wv v)
     rw[EV.o,EQ.o,PH ks i i2,<-EQ.o,<-EV.o] at e;exact e
   case measure=>simp [intOf];omega
theorem YP (K:Nat->Wd) (x y:Wd) (w:World) :
  Calls Tryz.prog 128 #[.agg (AR K),wv x,wv y] w fun e w'=>e=.returned (.tuple #[wv (BX K (x,y)).1,wv (BX K (x,y)).2])/\Below w.heap.size w w':=by
 obtain⟨B,eB⟩:=Ak (w.heap.size);rw[<-eB];have EB:=I eB;go_enter Tryz.func128,Tryz.ntmps128
 go_wp2_with fail
 rw[<-eB];clear eB
 go_loopw [1,2,8] (fun xv yv iv wr=>∃i:Nat,i<=27/\iv=.int .i64 (i:Int)/\xv=wv (Ik K i (x,y)).1/\yv=wv (Ik K i (x,y)).2/\Blk wr B 191 (AR K)/\Below B w wr) (fun _ _ iv _=>27 - (intOf iv).toNat)
 case atStart=>exact⟨0,by decide,rfl,rfl,rfl,Blk.new_of w B _ _ _ rfl EB.o.symm,EB.o▸Ah.alloc Ag _⟩
 case round=>
  obtain⟨i,hi,rfl,rfl,rfl,hB,hb⟩:=hrel
  by_cases h27:i=27
  ·subst h27
   have HB:=I hB;clear hB;have HB2:=I hb;clear hb
   go_wp2_with fail
   go_ret2
   exact⟨rfl,HB2.o⟩
  ·have hi0:(0:Int)<=(i:Int):=by omega
   have hi1:(i:Int)<27:=by omega
   have hi2:i<27:=by omega
   obtain⟨p,ep⟩:=Ak (Ik K i (x,y));obtain⟨k0,ek⟩:=Ak (K i);obtain⟨x0,ex⟩:=Ak (p.1);obtain⟨y0,ey⟩:=Ak (p.2);obtain⟨rx,erx⟩:=Ak (rot x0 24);obtain⟨ry,ery⟩:=Ak (rot y0 3);obtain⟨sm,es⟩:=Ak (rx+y0);obtain⟨x1,ex1⟩:=Ak (sm ^^^ k0);obtain⟨y1,ey1⟩:=Ak (ry ^^^ x1);have ck:wr.cell? ⟨B,i,none⟩=some (wv k0):=by rw[hB.cell,FN _ _ hi2,ek]
   have hx0:((rx.toNat:Int)+(y0.toNat:Int)) % 4294967296=(sm.toNat:Int):=by rw[es];exact Gb _ _
   have hx1:IntKind.u32.wrap ((rx.toNat:Int)+(y0.toNat:Int))=(sm.toNat:Int):=by rw[IntKind.wrap_u32];exact hx0
   have hx2:bits .xor .u32 (sm.toNat:Int) (k0.toNat:Int)=(x1.toNat:Int):=by rw[ex1];exact Br _ _
   have hx3:bits .xor .u32 (ry.toNat:Int) (x1.toNat:Int)=(y1.toNat:Int):=by rw[ey1];exact Br _ _
   have cr8:=Rn x0;rw[<-erx] at cr8;have cl3:=VO y0;rw[<-ery] at cl3;have hn:Ik K (i+1) (x,y)=(x1,y1):=by rw[Ik,<-ep,step,<-ex,<-ey,<-ek,<-erx,<-ery,<-es,<-ex1,<-ey1]
   rw[<-ep,<-ex,<-ey];have hn':=I hn;clear hn;have hh:=I hi2;have HB:=I hB;clear hB;have HB2:=I hb;clear hb;clear ep ek ex ey erx ery es ex1 ey1 hi h27
   go_wp2_with fail
   refine wp_region_still_lit (by kernel_rfl) (by kernel_rfl) ?_;change wpStill _ _ wr.drew _ _ _
   repeat still_step
   still_call (cr8 _)
   repeat still_step
   refine wpStill_nil ?_
   try change _ wr.drew
   go_wp2_with (first | (go_at_call 130;refine Aj (cl3 _) ?_;rintro w' rfl))
   go_roundw
   case rel=>exact⟨i+1,by have:=hh.o;omega,by go_num,by rw[hn'.o],by rw[hn'.o],HB.o,below_drewN HB2.o 1⟩
   case measure=>have:=hh.o;simp [intOf];omega
end Sp
end Go.Proofs.YtlchkbpffaclmaaGreat
