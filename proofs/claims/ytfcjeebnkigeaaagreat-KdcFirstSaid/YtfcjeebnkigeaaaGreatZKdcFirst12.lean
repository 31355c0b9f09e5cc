import Derived.Test.YtfcjeebnkigeaaaGreatZKdcFirst11
set_option maxHeartbeats 25600000
set_option maxRecDepth 100000
set_option linter.unusedVariables false
set_option linter.unusedSimpArgs false
namespace Go.Proofs.YtfcjeebnkigeaaaGreat
section
namespace Reg
open Go.RowKit Af
section
variable {P:Program} {ops:Array Oper} {Q:Exit→Act→World→Prop} {md:Region.Mode}
theorem Lh {S1 S2:World→Prop} (hS:∀w,S2 w→S1 w):∀(f:Nat) (l:Array Bool) (a:Act) (w:World),wpAnyH P md ops Q S2 f l a w→wpAnyH P md ops Q S1 f l a w
 |0,_,_,_,h=>h
 |f+1,_,_,_,h=>⟨h.1,fun i hi=>wpOp_mono (fun a' w' hh=>⟨hS w' hh.1,Lh hS f _ a' w' hh.2⟩) (h.2 i hi)⟩
def GR (W w:World):Prop:=Below W.heap.size W w
theorem Wi {W w:World} {f:Nat} {l:Array Bool} {a:Act} (hb:Below W.heap.size W w) (h:wpAnyH P md ops Q (GR w) f l a w):wpAnyH P md ops Q (GR W) f l a w:=
 Lh (fun _ h'=>bt hb h') f l a w h
theorem Cf (n:Nat) {id:Nat} {a:Act} {w:World} (hn:ops.size=n) (hm:P.follows .mixedOrders=true) (h:wpAnyH P .any ops Q (GR w.drew) n (Array.replicate n false) a w.drew):(Code.region id ops true).wp P Q a w:=by
 subst hn;exact wp_region_held_drew hm (Below.refl _ _) (fun _=>h)
theorem Ax (i:Nat) {dst:Option Tmp} {op:Op} {ty:TypeId} {pos:String} {after:Array _} {guard:Option (Nat×Bool)} {v:Value} {fuel:Nat} {listed:Array Bool} {a:Act} {w:World} (hi:ops[i]? = some ⟨dst,op,ty,pos,after,guard⟩)
  (hs:Region.noSelect ops=true) (hf:Region.free md ops listed i=true) (hr:(Region.ready md ops listed).contains i=true)
  (hQ:∀c a w,Q (.panic c) (a.put dst v) w→Q (.panic c) a w)
  (hw:Region.wanted ⟨dst,op,ty,pos,after,guard⟩ (yielded ops a.tmps)=true) (hy:∀w',GR w w'→(execOp a.eval ⟨dst,op,ty,pos,after,guard⟩).run P w' = .ok (.value v) w')
  (h:wpAnyH P md ops Q (GR w) fuel (listed.setIfInBounds i true) (a.put dst v) w):wpAnyH P md ops Q (GR w) (fuel+1) listed a w:=
 wpAnyH_take hi hs hf hr hQ (.inl ⟨hw,hy⟩) (Below.refl _ _) h
theorem DX (i:Nat) {dst:Option Tmp} {op:Op} {ty:TypeId} {pos:String} {after:Array _} {guard:Option (Nat×Bool)} {fuel:Nat} {listed:Array Bool} {a:Act} {w:World} (hi:ops[i]? = some ⟨dst,op,ty,pos,after,guard⟩)
  (hs:Region.noSelect ops=true) (hf:Region.free md ops listed i=true) (hr:(Region.ready md ops listed).contains i=true)
  (hQ:∀c a w,Q (.panic c) (a.put dst undef) w→Q (.panic c) a w)
  (hw:Region.wanted ⟨dst,op,ty,pos,after,guard⟩ (yielded ops a.tmps)=false)
  (h:wpAnyH P md ops Q (GR w) fuel (listed.setIfInBounds i true) (a.put dst undef) w):wpAnyH P md ops Q (GR w) (fuel+1) listed a w:=
 wpAnyH_take hi hs hf hr hQ (.inr ⟨hw,rfl⟩) (Below.refl _ _) h
theorem Dr (i:Nat) {dst:Option Tmp} {op:Op} {ty:TypeId} {pos:String} {after:Array _} {guard:Option (Nat×Bool)} {fuel:Nat} {listed:Array Bool} {a:Act} {w:World} (hi:ops[i]? = some ⟨dst,op,ty,pos,after,guard⟩)
  (hr:Region.ready md ops listed = [i]) (hw:Region.wanted ⟨dst,op,ty,pos,after,guard⟩ (yielded ops a.tmps)=true) (f:FuncId) (args:Array Value)
  (hx:(execOp a.eval ⟨dst,op,ty,pos,after,guard⟩).run P w = .ok (.enter f args) w)
  (h:Calls P f args w fun e w'=>∃v,e = .returned v∧Below w.heap.size w w'∧wpAnyH P md ops Q (GR w') fuel (listed.setIfInBounds i true) (a.put dst v) w'):wpAnyH P md ops Q (GR w) (fuel+1) listed a w:=by
 refine wpAnyH_all hr (by simp) fun j hj=>?_
 obtain rfl:j=i:=by simpa using hj
 unfold wpOp;simp only[hi];rw[if_pos hw]
 left
 unfold Oper.wp;rw[hx];exact h.mono fun e w' hh=>by
  obtain⟨v,rfl,hb,hh⟩:=hh;exact⟨hb,Wi hb hh⟩
theorem Gm {src e dst:TypeId} (hs:P.underlying src=some (.slice e)) (he:P.underlying e=some (.int .u8)) (hd:P.underlying dst=some .string) {W:World} {B n c:Nat} {A:Option Addr} {l:List UInt8} (h:Rd W B A (bvs l)) (hB:B≤W.heap.size) (hn:n=l.length) :
  ∀w,GR W w→(convert src dst (.slice A n c)).run P w = .ok (.string ⟨l.toArray⟩) w:=
 fun w hS=>AJ w src e hs he (h.below (hS.mono hB)) n c hn dst hd
end
end Reg
end
section
namespace Reg
open Go.RowKit Af
section
variable {P:Program} {ops:Array Oper} {Q:Exit→Act→World→Prop} {md:Region.Mode}
def Eff (P:Program) (md:Region.Mode) (ops:Array Oper) (Q:Exit→Act→World→Prop) (S:World→Prop) (fuel:Nat) (listed:Array Bool) (a:Act) (w:World) (i:Nat):Prop:=
 ∃(dst:Option Tmp) (op:Op) (ty:TypeId) (pos:String) (after:Array _) (guard:Option (Nat×Bool)) (v:Value) (w':World),ops[i]? = some ⟨dst,op,ty,pos,after,guard⟩∧Region.wanted ⟨dst,op,ty,pos,after,guard⟩ (yielded ops a.tmps)=true∧(execOp a.eval ⟨dst,op,ty,pos,after,guard⟩).run P w = .ok (.value v) w'∧S w'∧wpAnyH P md ops Q S fuel (listed.setIfInBounds i true) (a.put dst v) w'
theorem II (is:List Nat) {S:World→Prop} {fuel:Nat} {listed:Array Bool} {a:Act} {w:World} (hr:Region.ready md ops listed=is) (hne:is≠[]) (h:∀j∈is,Eff P md ops Q S fuel listed a w j):wpAnyH P md ops Q S (fuel+1) listed a w:=by
 refine wpAnyH_all hr hne fun j hj=>?_
 obtain⟨dst,op,ty,pos,after,guard,v,w',hi,hw,hx,hs,hh⟩:=h j hj;unfold wpOp;simp only[hi];rw[if_pos hw]
 left
 unfold Oper.wp;rw[hx];exact⟨hs,hh⟩
end
end Reg
end
section
namespace Reg
open Go.RowKit Af
section
variable {P:Program} {ops:Array Oper} {Q:Exit→Act→World→Prop} {md:Region.Mode} {S:World→Prop}
theorem AR (S:World→Prop) (n:Nat) {id:Nat} {a:Act} {w:World} (hn:ops.size=n) (hm:P.follows .mixedOrders=true) (hS:S w.drew) (h:wpAnyH P .any ops Q S n (Array.replicate n false) a w.drew):(Code.region id ops true).wp P Q a w:=by
 subst hn;exact wp_region_held_drew hm hS (fun _=>h)
theorem Ar (i:Nat) {dst:Option Tmp} {op:Op} {ty:TypeId} {pos:String} {after:Array _} {guard:Option (Nat×Bool)} {v:Value} {fuel:Nat} {listed:Array Bool} {a:Act} {w:World} (hi:ops[i]? = some ⟨dst,op,ty,pos,after,guard⟩)
  (hs:Region.noSelect ops=true) (hf:Region.free md ops listed i=true) (hr:(Region.ready md ops listed).contains i=true)
  (hQ:∀c a w,Q (.panic c) (a.put dst v) w→Q (.panic c) a w) (hS:S w)
  (hw:Region.wanted ⟨dst,op,ty,pos,after,guard⟩ (yielded ops a.tmps)=true) (hy:∀w',S w'→(execOp a.eval ⟨dst,op,ty,pos,after,guard⟩).run P w' = .ok (.value v) w')
  (h:wpAnyH P md ops Q S fuel (listed.setIfInBounds i true) (a.put dst v) w):wpAnyH P md ops Q S (fuel+1) listed a w:=
 wpAnyH_take hi hs hf hr hQ (.inl ⟨hw,hy⟩) hS h
theorem tq (i : Nat) {dst : Option Tmp} {op : Op} {ty : TypeId} {pos : String} {after : Array _} {guard : Option (Nat × Bool)} {v : Value} {fuel : Nat} {listed : Array Bool} {a : Act} {w : World} (hi : ops[i]? = some ⟨dst, op, ty, pos, after, guard⟩) (hS : S w)
    (hy : ∀ w', S w' → (execOp a.eval ⟨dst, op, ty, pos, after, guard⟩).run P w' = .ok (.value v) w')
    (h : wpAnyH P md ops Q S fuel (listed.setIfInBounds i true) (a.put dst v) w)
    (hs : Region.noSelect ops = true := by kernel_rfl) (hf : Region.free md ops listed i = true := by kernel_rfl) (hr : (Region.ready md ops listed).contains i = true := by kernel_rfl)
    (hQ : ∀ c a w, Q (.panic c) (a.put dst v) w → Q (.panic c) a w := by exact fun _ _ _ h => h)
    (hw : Region.wanted ⟨dst, op, ty, pos, after, guard⟩ (yielded ops a.tmps) = true := by rfl) : wpAnyH P md ops Q S (fuel + 1) listed a w :=
  Ar i hi hs hf hr hQ hS hw hy h
theorem Be (i:Nat) {dst:Option Tmp} {op:Op} {ty:TypeId} {pos:String} {after:Array _} {guard:Option (Nat×Bool)} {fuel:Nat} {listed:Array Bool} {a:Act} {w:World} (w':World) (hi:ops[i]? = some ⟨dst,op,ty,pos,after,guard⟩)
  (hr:Region.ready md ops listed = [i]) (hw:Region.wanted ⟨dst,op,ty,pos,after,guard⟩ (yielded ops a.tmps)=true) (hx:(execOp a.eval ⟨dst,op,ty,pos,after,guard⟩).run P w = .ok .skip w') (hS:S w')
  (h:wpAnyH P md ops Q S fuel (listed.setIfInBounds i true) (a.put dst undef) w'):wpAnyH P md ops Q S (fuel+1) listed a w:=by
 refine wpAnyH_all hr (by simp) fun j hj=>?_
 obtain rfl:j=i:=by simpa using hj
 unfold wpOp;simp only[hi];rw[if_pos hw]
 left
 unfold Oper.wp;rw[hx];exact⟨hS,h⟩
end
end Reg
end
section
namespace Reg
open Go.RowKit Af
section
variable {P:Program} {ops:Array Oper} {Q:Exit→Act→World→Prop} {md:Region.Mode}
def Ent (P:Program) (md:Region.Mode) (ops:Array Oper) (Q:Exit→Act→World→Prop) (S:World→Prop) (fuel:Nat) (listed:Array Bool) (a:Act) (w:World) (i:Nat):Prop:=
 ∃(dst:Option Tmp) (op:Op) (ty:TypeId) (pos:String) (after:Array _) (guard:Option (Nat×Bool)) (f:FuncId) (args:Array Value),ops[i]? = some ⟨dst,op,ty,pos,after,guard⟩∧Region.wanted ⟨dst,op,ty,pos,after,guard⟩ (yielded ops a.tmps)=true∧(execOp a.eval ⟨dst,op,ty,pos,after,guard⟩).run P w = .ok (.enter f args) w∧
  Calls P f args w fun e w'=>∃v,e = .returned v∧S w'∧wpAnyH P md ops Q S fuel (listed.setIfInBounds i true) (a.put dst v) w'
theorem Ad (is:List Nat) {S:World→Prop} {fuel:Nat} {listed:Array Bool} {a:Act} {w:World} (hr:Region.ready md ops listed=is) (hne:is≠[]) (h:∀j∈is,Eff P md ops Q S fuel listed a w j∨Ent P md ops Q S fuel listed a w j):wpAnyH P md ops Q S (fuel+1) listed a w:=by
 refine wpAnyH_all hr hne fun j hj=>?_
 rcases h j hj with⟨dst,op,ty,pos,after,guard,v,w',hi,hw,hx,hs,hh⟩ | ⟨dst,op,ty,pos,after,guard,f,args,hi,hw,hx,hh⟩
 ·unfold wpOp
  simp only[hi];rw[if_pos hw]
  left
  unfold Oper.wp;rw[hx];exact⟨hs,hh⟩
 ·unfold wpOp
  simp only[hi];rw[if_pos hw]
  left
  unfold Oper.wp;rw[hx];refine hh.mono ?_;rintro e w' ⟨v,rfl,hs,hh⟩;exact⟨hs,hh⟩
end
end Reg
end
section
namespace Se
open Go.RowKit Af
theorem Pg (bs:ByteArray):∀(n i:Nat) (r:List UInt8),bs.size - i=n→i≤bs.size→ByteArray.toList.loop bs i r=r.reverse++bs.data.toList.drop i:=by
 intro n
 induction n with
 |zero=>
  intro i r h hi;unfold ByteArray.toList.loop;have:¬i<bs.size:=by omega
  rw[if_neg this,List.drop_of_length_le (by rw[Array.length_toList];show bs.size≤i;omega),List.append_nil]
 |succ n ih=>
  intro i r h hi;unfold ByteArray.toList.loop;have hlt:i<bs.size:=by omega
  have hl:i<bs.data.toList.length:=by rw[Array.length_toList];exact hlt
  rw[if_pos hlt,ih (i+1) _ (by omega) (by omega),List.drop_eq_getElem_cons hl];have e:bs.get! i=bs.data.toList[i]:=by
   show bs.data[i]! = _;rw[getElem!_pos bs.data i hlt];simp
  rw[e];simp
theorem Jx (bs:ByteArray):bs.toList=bs.data.toList:=by
 have:=Pg bs bs.size 0 [] (by omega) (by omega)
 simpa [ByteArray.toList] using this
theorem Ph {a b:ByteArray} (h:a.toList=b.toList):a=b:=by
 rw[Jx,Jx] at h;exact ByteArray.ext (Array.toList_inj.1 h)
theorem Rq (ks:Nat→UInt8) (u:Int) (A:Option Addr) (m c:Nat) (w:World) (hx:¬(0≤u∧u≤255)) :
  Calls Tryz.prog 29 #[.agg (AP ks),.int .i64 u,.slice A m c] w fun e w'=>e = .returned (.tuple #[.slice none 0 0,.int .i64 1])∧Below w.heap.size w w':=by
 obtain⟨kc,ekc⟩:∃kc,kc=AP ks:=⟨_,rfl⟩;rw[←ekc];have t:(decide (u<0)=true)∨(decide (u<0)=false∧decide (255<u)=true):=by
  simp only[decide_eq_true_eq,decide_eq_false_iff_not];omega
 have HB:=I ((Below.refl w.heap.size w).alloc (Nat.le_refl _) (.cells kc 47));clear hx ekc;rcases t with t1 | ⟨t1,t2⟩<;>(
  go_enter Tryz.func29,Tryz.ntmps29
  go_wp2
  go_ret2
  exact⟨rfl,HB.o⟩)
theorem Mo (ks:Nat→UInt8) (u:Nat) (A:Option Addr) (n c:Nat) (l:List UInt8) (w:World) (hu:u≤255) (hn:n=l.length) (hr:Rd w w.heap.size A (bvs l)) (hx:l.length<16∨800<l.length∨1099511627776<n8 l) :
  Calls Tryz.prog 29 #[.agg (AP ks),.int .i64 (u:Int),.slice A n c] w fun e w'=>e = .returned (.tuple #[.slice none 0 0,.int .i64 3])∧Below w.heap.size w w':=by
 obtain⟨kc,ekc⟩:∃kc,kc=AP ks:=⟨_,rfl⟩;rw[←ekc];have t1:decide ((u:Int)<0)=false:=by simp
 have t2:decide (255<(u:Int))=false:=by simp;omega
 have hB0:=(Below.refl w.heap.size w).alloc (Nat.le_refl _) (.cells kc 47)
 by_cases h1:n<16∨800<n
 ·have t:(decide ((n:Int)<16)=true)∨(decide ((n:Int)<16)=false∧decide (800<(n:Int))=true):=by
   simp only[decide_eq_true_eq,decide_eq_false_iff_not];omega
  have HB:=I hB0;clear hx ekc hB0 h1 hn hr;rcases t with t3 | ⟨t3,t4⟩<;>(
   go_enter Tryz.func29,Tryz.ntmps29
   go_wp2
   go_ret2
   exact⟨rfl,HB.o⟩)
 ·have t3:decide ((n:Int)<16)=false:=by simp;omega
  have t4:decide (800<(n:Int))=false:=by simp;omega
  have h8:1099511627776<n8 l:=by omega
  have cn:=Rn w.heap.size A n c l (w.alloc (.cells kc 47)) hn (by omega) (hr.below hB0);obtain⟨N,eN⟩:∃N,N=n8 l:=⟨_,rfl⟩;rw[←eN] at cn h8;have t5:decide (1099511627776<(N:Int))=true:=by simp;omega
  have HB:=I hB0;have s1:(16:Int)≤(n:Int):=by omega
  have s2:(n:Int)≤800:=by omega
  clear hx ekc hB0 h1 hn hr eN h8;go_enter Tryz.func29,Tryz.ntmps29
  go_upto_region 7 with(go_at_call 71;refine Calls.mono cn ?_;rintro e wq ⟨rfl,hw⟩;have hw:=hw.symm;subst hw;clear cn)
  go_quiet (fail)
  go_wp2_with fail
  go_ret2
  exact⟨rfl,below_drewN HB.o nq⟩
def RdC (w:World) (A:Option Addr) (n c:Nat) (xs:List Value):Prop:=n≤c∧c≤maxLen∧Rd w w.heap.size A xs
theorem IJ (ks:Nat→UInt8) (u:Nat) (A:Option Addr) (n c:Nat) (l:List UInt8) (w:World) (hu:u≤255) (hn:n=l.length) (hc:n≤c) (hr:Rd w w.heap.size A (bvs l)) (h16:16≤l.length) (h800:l.length≤800) (h40:n8 l≤1099511627776) :
  Calls Tryz.prog 29 #[.agg (AP ks),.int .i64 (u:Int),.slice A n c] w fun e w'=>(if tagL ks u (Ef l)=n8 (Dd l) then ∃A2 c2,e = .returned (.tuple #[.slice A2 (n - 16) c2,.int .i64 0])∧RdC w' A2 (n - 16) c2 (bvs (mixL ks u (n8 l) (midL l))) else e = .returned (.tuple #[.slice none 0 0,.int .i64 3]))∧Below w.heap.size w w':=by
 obtain⟨B,eB⟩:∃B,B=w.heap.size:=⟨_,rfl⟩;obtain⟨b2,o2,rfl⟩:∃b2 o2,A=some ⟨b2,o2,none⟩:=by
  rcases hr with hx | ⟨b2,o2,h4,_⟩
  ·exact Lg hn (by omega) hx
  ·exact⟨b2,o2,h4⟩
 obtain⟨k,hk⟩:∃k,n=k+8:=⟨n - 8,by omega⟩;obtain⟨m,hm8⟩:∃m,k=m+8:=⟨k - 8,by omega⟩;have hk8:n - 8=k:=by omega
 have hhd:Ef l=l.take k:=by unfold Ef;rw[←hn,hk8]
 have hla:Dd l=l.drop k:=by unfold Dd;rw[←hn,hk8]
 have hmid:midL l=(l.take k).drop 8:=by unfold midL;rw[hhd]
 have RA:∀w1,Below B w w1→RdA (fun _=>False) w1 (some ⟨b2,o2,none⟩) (bvs l):=fun w1 h=>RdA.of_rd (B:=B) (eB▸hr.below (eB▸h)) (eB▸h.size) (fun _ x=>x.elim)
 have cn:=fun(w1:World) (h:Below B w w1)=>Rn w1.heap.size (some ⟨b2,o2,none⟩) n c l w1 hn (by omega) (RA w1 h).rd
 have ctag:=fun(w1:World) (h:Below B w w1)=>dtag ks u (some ⟨b2,o2,none⟩) k c (Ef l) w1 hu (by rw[hhd,List.length_take];omega) (by omega) (hhd▸((RA w1 h).take k).rd)
 have cmix:=fun(w1:World) (h:Below B w w1)=>dmix ks u (n8 l) (some ⟨b2,o2+8,none⟩) m (c - 8) (midL l) w1 hu (by omega) (by rw[hmid,List.length_drop,List.length_take];omega) (by omega) (hmid▸(((RA w1 h).take k).drop 8).rd)
 have ccv:=fun(w1:World) (h:Below B w w1)=>AJ (P:=Tryz.prog) w1 30 5 Tryz.underlying30 Tryz.underlying5 (hla▸((RA w1 h).drop k).rd) 8 (c - k) (by rw[hla,List.length_drop];omega) 9 Tryz.underlying9
 obtain⟨T,eT⟩:∃T,T=tagL ks u (Ef l):=⟨_,rfl⟩;obtain⟨M,eM⟩:∃M,M=n8 (Dd l):=⟨_,rfl⟩;have hT64:T<18446744073709551616:=by rw[eT];exact Kf _ _ _
 have hl8:(Dd l).length=8:=by rw[hla,List.length_drop];omega
 have hM8:w8 M=Dd l:=by rw[eM];exact w8_n8 _ hl8
 have hM64:M<18446744073709551616:=by rw[eM];exact n8_lt _
 obtain⟨N,eN⟩:∃N,N=n8 l:=⟨_,rfl⟩;obtain⟨Q,eQ⟩:∃Q,Q=bvs (mixL ks u N (midL l)):=⟨_,rfl⟩;rw[←eT,←eM,←eN,←eQ];rw[←eN] at cn cmix h40;rw[←eQ] at cmix;rw[←eT] at ctag;obtain⟨s8,es8⟩:∃s8:ByteArray,s8=⟨(Dd l).toArray⟩:=⟨_,rfl⟩;rw[←es8] at ccv;obtain⟨sT,esT⟩:∃sT:ByteArray,sT=⟨(w8 T).toArray⟩:=⟨_,rfl⟩;have hcmp:sT=s8↔T=M:=by
  constructor
  ·intro h
   refine XA hT64 hM64 ?_;rw[hM8];have h2:(⟨(w8 T).toArray⟩:ByteArray)=⟨(Dd l).toArray⟩:=by rw[←esT,←es8,h]
   have h3:=congrArg (fun x:ByteArray=>x.data.toList) h2
   simpa using h3
  ·intro h
   rw[esT,es8,h,hM8]
 have hkl:∃kl:List Value,kl.toArray=AP ks:=⟨_,rfl⟩;obtain⟨kl,ekl⟩:=hkl;have u32:(Tryz.prog.info? 47).map (·.size)=some kl.length:=by rw[←List.size_toArray,ekl];exact EH ks
 have hu32:=Tryz.underlying47;rw[←ekl] at cmix ctag⊢;have ctv:=fun(w4:World) (A4:Option Addr) (c4:Nat) (h:Rd w4 w4.heap.size A4 (bvs (w8 T)))=>AJ (P:=Tryz.prog) w4 30 5 Tryz.underlying30 Tryz.underlying5 h 8 c4 (Ct T).symm 9 Tryz.underlying9
 rw[←esT] at ctv;have hra:(w.alloc (.cells kl.toArray 47)).drew.rangeAt w.heap.size 0 kl:=by have:=Si.Ag (Blk.new w 47 kl.toArray);simpa using this
 have hB0:Below B w (w.alloc (.cells kl.toArray 47)):=eB▸(Below.refl w.heap.size w).alloc (Nat.le_refl _) _;have HB0:Hid (Below B w (w.alloc (.cells kl.toArray 47)).drew):=below_drewN hB0 1;have HS0:Hid ((w.alloc (.cells kl.toArray 47)).drew.heap.size=B+1):=by show(w.alloc _).heap.size=_;simp [eB]
 have c1:=cn _ hB0;have ct:=ctag _ HB0.o;have hcv:=ccv _ HB0.o;have t1:decide ((u:Int)<0)=false:=by simp
 have t2:decide (255<(u:Int))=false:=by simp;omega
 have t3:decide ((n:Int)<16)=false:=by simp;omega
 have t4:decide (800<(n:Int))=false:=by simp;omega
 have t5:decide (1099511627776<(N:Int))=false:=by simp;omega
 have s0:(n:Int)≤800:=by omega
 have s1:(n:Int) - 8=(k:Int):=by omega
 have s2:IntKind.i64.wrap (k:Int)=(k:Int):=by rw[IntKind.wrap_i64];omega
 have s3:(8:Int)≤(k:Int):=by omega
 have s4:(k:Int)≤(c:Int):=by omega
 have s5:k - 8=m:=by omega
 have s6:8≤k:=by omega
 have s7:k≤c:=by omega
 have s8':¬c=8:=by omega
 have s14:¬c=k:=by omega
 have s9:n - k=8:=by omega
 have s10:(k:Int)≤(n:Int):=by omega
 have s11:(n:Int)≤(c:Int):=by omega
 have s12:k≤n:=by omega
 have s13:(0:Int)≤(k:Int):=by omega
 have hm16:n - 16=m:=by omega
 rw[hm16];have EB:=I eB;have CMIX:=I cmix;clear cmix;have CCV:=I ccv;clear ccv;have CTV:=I ctv;clear ctv;have HC:=I hcmp;clear hcmp;clear hu hn hc hr h16 h800 h40 hk hm8 hk8 hhd hla hmid RA cn ctag eT eM eN eQ es8 esT hT64 hM64 hl8 hM8 ekl hB0 eB hm16;go_enter Tryz.func29,Tryz.ntmps29
 go_upto_region 7 with(go_at_call 71;refine Calls.mono c1 ?_;rintro e wq ⟨rfl,hw⟩;have hw:=hw.symm;subst hw;clear c1)
 -- THE REGION
 have CCVW:Hid (∀w',Reg.GR (w.alloc (.cells kl.toArray 47)).drew w'→(convert 30 9 (.slice (some ⟨b2,o2+k,none⟩) 8 (c - k))).run Tryz.prog w' = .ok (.string s8) w'):=fun w' hS=>CCV.o w' (HB0.o.trans (hS.mono (by have:=HS0.o;omega)))
 clear hcv;refine Reg.Cf 16 rfl (by kernel_rfl) ?_;refine Reg.Ax 0 (v:=?vz0) rfl (by kernel_rfl) (by kernel_rfl) (by kernel_rfl) (fun _ _ _ h=>h) (by rfl) (fun w' hS=>?hyz0) ?restz0
 case hyz0=>go_simp;rfl
 simp only[Act.put,U,Aa,Ab];refine Reg.Ax 1 (v:=?vz1) rfl (by kernel_rfl) (by kernel_rfl) (by kernel_rfl) (fun _ _ _ h=>h) (by rfl) (fun w' hS=>?hyz1) ?restz1
 case hyz1=>go_simp;rfl
 simp only[Act.put,U,Aa,Ab];refine Reg.Ax 2 (v:=?vz2) rfl (by kernel_rfl) (by kernel_rfl) (by kernel_rfl) (fun _ _ _ h=>h) (by rfl) (fun w' hS=>?hyz2) ?restz2
 case hyz2=>go_simp;rfl
 simp only[Act.put,U,Aa,Ab];refine wpAnyH_take (i:=3) (v:=.agg kl.toArray) rfl (by kernel_rfl) (by kernel_rfl) (by kernel_rfl) (fun _ _ _ h=>h) (yieldsIf_load_mid (by rfl) 47 (.tmp 3) rfl w.heap.size 0 rfl kl _ (fun w' hS=>CZ hra (by have:=HS0.o;have:=EB.o;omega) hS) hu32 rfl u32) (Below.refl _ _) ?_
 try simp only[List.getElem_toArray,List.getElem_cons_zero,List.getElem_cons_succ,Act.put,List.setIfInBounds_toArray,List.set_cons_zero,List.set_cons_succ]
 refine Reg.Ax 4 (v:=?vz4) rfl (by kernel_rfl) (by kernel_rfl) (by kernel_rfl) (fun _ _ _ h=>h) (by rfl) (fun w' hS=>?hyz4) ?restz4
 case hyz4=>go_simp;rfl
 simp only[Act.put,U,Aa,Ab];refine Reg.Ax 5 (v:=?vz5) rfl (by kernel_rfl) (by kernel_rfl) (by kernel_rfl) (fun _ _ _ h=>h) (by rfl) (fun w' hS=>?hyz5) ?restz5
 case hyz5=>go_simp;rfl
 simp only[Act.put,U,Aa,Ab];refine Reg.Ax 6 (v:=?vz6) rfl (by kernel_rfl) (by kernel_rfl) (by kernel_rfl) (fun _ _ _ h=>h) (by rfl) (fun w' hS=>?hyz6) ?restz6
 case hyz6=>go_simp;rfl
 simp only[Act.put,U,Aa,Ab];refine Reg.Ax 7 (v:=?vz7) rfl (by kernel_rfl) (by kernel_rfl) (by kernel_rfl) (fun _ _ _ h=>h) (by rfl) (fun w' hS=>?hyz7) ?restz7
 case hyz7=>go_simp;rfl
 simp only[Act.put,U,Aa,Ab];refine Reg.Ax 10 (v:=?vz10) rfl (by kernel_rfl) (by kernel_rfl) (by kernel_rfl) (fun _ _ _ h=>h) (by rfl) (fun w' hS=>?hyz10) ?restz10
 case hyz10=>go_simp;rfl
 simp only[Act.put,U,Aa,Ab];refine Reg.Ax 11 (v:=?vz11) rfl (by kernel_rfl) (by kernel_rfl) (by kernel_rfl) (fun _ _ _ h=>h) (by rfl) (fun w' hS=>?hyz11) ?restz11
 case hyz11=>go_simp;rfl
 simp only[Act.put,U,Aa,Ab];refine Reg.Ax 12 (v:=?vz12) rfl (by kernel_rfl) (by kernel_rfl) (by kernel_rfl) (fun _ _ _ h=>h) (by rfl) (fun w' hS=>?hyz12) ?restz12
 case hyz12=>go_simp;rfl
 simp only[Act.put,U,Aa,Ab];refine Reg.Ax 13 (v:=?vz13) rfl (by kernel_rfl) (by kernel_rfl) (by kernel_rfl) (fun _ _ _ h=>h) (by rfl) (fun w' hS=>?hyz13) ?restz13
 case hyz13=>have hh:=CCVW.o w' hS;go_simp;rfl
 simp only[Act.put,U,Aa,Ab];refine Reg.Dr 8 rfl (by kernel_rfl) (by rfl) 72 #[.agg kl.toArray,.int .i64 (u:Int),.slice (some ⟨b2,o2,none⟩) k c] (by go_simp) ?_;refine Calls.mono (ct) ?_;rintro e w1 ⟨v1,rfl,hown1,hb1⟩;obtain⟨A1,c1,hv1,hc1,hm1,hr1⟩:=IB (S:=fun _=>False) hown1 (fun _ _ x=>x);subst hv1;have hz1:B+1≤w1.heap.size:=by have:=HS0.o;have:=hb1.size;omega
 have hra1:w1.rangeAt w.heap.size 0 kl:=CZ hra (by have:=HS0.o;have:=EB.o;omega) hb1;have HRA1:=I hra1;have RT:=I hr1.rd;have H1:=I (HB0.o.trans (hb1.mono (by have:=HS0.o;omega)));have Z1:=I hz1;refine⟨_,rfl,hb1,?_⟩;clear ct hown1 hc1 hm1 hr1 hb1 hz1 hra1;simp only[Act.put,U,Aa,Ab];refine Reg.Ax 9 (v:=?vz9) rfl (by kernel_rfl) (by kernel_rfl) (by kernel_rfl) (fun _ _ _ h=>h) (by rfl) (fun w' hS=>?hyz9) ?restz9
 case hyz9=>have hh:=CTV.o w' A1 c1 (RT.o.below hS |>.more (hS.size));go_simp;rfl
 simp only[Act.put,U,Aa,Ab];refine Reg.Ax 14 (v:=?vz14) rfl (by kernel_rfl) (by kernel_rfl) (by kernel_rfl) (fun _ _ _ h=>h) (by rfl) (fun w' hS=>?hyz14) ?restz14
 case hyz14=>go_simp;rfl
 simp only[Act.put,U,Aa,Ab];refine Reg.Ax 15 (v:=?vz15) rfl (by kernel_rfl) (by kernel_rfl) (by kernel_rfl) (fun _ _ _ h=>h) (by rfl) (fun w' hS=>?hyz15) ?restz15
 case hyz15=>go_simp;rfl
 simp only[Act.put,U,Aa,Ab];refine wpAnyH_done (by kernel_rfl) ?_ _;have hra1:w1.drew.rangeAt w.heap.size 0 kl:=HRA1.o;have cm:=CMIX.o w1.drew (below_drewN H1.o 1);have D1:Hid (Below B w w1.drew):=below_drewN H1.o 1;have Z2:Hid (B+1≤w1.drew.heap.size):=Z1.o
 by_cases hTM:T=M
 ·have e:sT=s8:=HC.o.2 hTM
  have hbb:(!(sT.toList==s8.toList))=false:=by rw[e];simp
  rw[hbb];have HTM:=I hTM;clear hTM;clear hra e hbb
  go_upto_region 9 with fail
  go_region_held3 (fun w'=>w'.rangeAt w.heap.size 0 kl) (first | exact hra1 | exact hS2) (first
   |(go_at_call 73;refine Calls.mono cm ?_;rintro e w2 ⟨v2,rfl,hown2,hb2⟩;clear cm;have hS2:w2.rangeAt w.heap.size 0 kl:=CZ hra1 (by have:=Z2.o;have:=EB.o;omega) hb2;obtain⟨A2,c2,hv2,hc2,hm2,hr2⟩:=IB (S:=fun _=>False) hown2 (fun _ _ x=>x);subst hv2;have H2:=I (D1.o.trans (hb2.mono (by have:=Z2.o;omega)));have R2:=I (show RdC w2 A2 _ c2 _ from⟨hc2,hm2,hr2.rd⟩);clear hb2 hown2 hc2 hm2 hr2))
  all_goals (
   clear hra1 hS2
   go_wp2_with fail
   go_ret2
   exact⟨⟨A2,c2,rfl,R2.o⟩,EB.o▸H2.o⟩)
 ·have hne:¬sT=s8:=fun h=>hTM (HC.o.1 h)
  have hbb:(!(sT.toList==s8.toList))=true:=by
   rw[Bool.not_eq_true'];apply beq_eq_false_iff_ne.2;intro h;exact hne (Ph h)
  rw[hbb];have HTM:=I hTM;clear hTM;clear hra hra1 hne hbb cm
  go_wp2_with fail
  go_ret2
  exact⟨rfl,EB.o▸H1.o⟩
end Se
end
section
namespace SeL
open Go.RowKit Af Se
def Bz (ks:Nat→UInt8) (u n:Int) (p:List UInt8):List UInt8×Int:=
 if 0≤u∧u≤255∧0≤n∧n≤1099511627776∧p.length≤784 then (DV ks u.toNat n.toNat p,0) else ([],1)
def Cm (ks:Nat→UInt8) (u:Int) (l:List UInt8):List UInt8×Int:=
 if 0≤u∧u≤255 then (if isL ks u.toNat l=true then (mixL ks u.toNat (n8 l) (midL l),0) else ([],3)) else ([],1)
def Ns (n b:Nat) (h:Option Nat) (i:Nat):Prop:=i<n∨Ow b h i
theorem nw_ns {n b g:Nat} {w:World} {A:Option Addr} {xs:List Value} (hr:RdA (Nw n g) w A xs) (hb:b<n):RdA (Ns n b (some g)) w A xs:=hr.mono fun i _ hx=>by
 rcases hx with hx | hx
 ·exact .inl hx
 ·rcases Wf hx with h | h
  ·exact .inl (by omega)
  ·exact .inr h
theorem IL (l:List UInt8) (h:16≤l.length):(midL l).length=l.length - 16:=by
 rw[midL,Ef,List.length_drop,List.length_take];omega
theorem Rr {ks:Nat→UInt8} {u:Nat} {l:List UInt8} (h:isL ks u l=true):16≤l.length∧l.length≤800∧n8 l≤1099511627776∧tagL ks u (Ef l)=n8 (Dd l):=by
 simp only[isL,Bool.and_eq_true,decide_eq_true_eq] at h;exact⟨h.1.1.1,h.1.1.2,h.1.2,h.2⟩
theorem Rs {ks:Nat→UInt8} {u:Nat} {l:List UInt8} (h:isL ks u l=false):(l.length<16∨800<l.length∨1099511627776<n8 l)∨(16≤l.length∧l.length≤800∧n8 l≤1099511627776∧tagL ks u (Ef l)≠n8 (Dd l)):=by
 by_cases h1:l.length<16∨800<l.length∨1099511627776<n8 l
 ·exact .inl h1
 ·refine .inr ⟨by omega,by omega,by omega,fun h2=>?_⟩
  rw[NJ (by omega) (by omega) (by omega),h2] at h;simp at h
theorem NK (b:Nat) (ks:Nat→UInt8) (h:Option Nat) (a o r:Nat) (u N:Int) (A:Option Addr) (m c:Nat) (p:List UInt8) (w:World) (ha:a<1000000) (wN:(Lit.int .i64 N).wf=true) (hm:m=p.length) (hml:m≤maxLen) (hr:RdA (Ow b h) w A (bvs p)) (hK:Box w b ks h a o r) :
  Calls Tryz.prog 159 #[.pointer (some ⟨b,0,none⟩),.int .i64 u,.int .i64 N,.slice A m c] w fun e w'=>∃A2 c2 h' a',e = .returned (.tuple #[.slice A2 (Bz ks u N p).1.length c2,.int .i64 (Bz ks u N p).2])∧(Bz ks u N p).1.length≤c2∧c2≤maxLen∧RdA (Ns w.heap.size b h') w' A2 (bvs (Bz ks u N p).1)∧Box w' b ks h' a' o r∧CH w w' b h h'∧a'≤a+1:=by
 by_cases hx:0≤u∧u≤255∧0≤N∧N≤1099511627776∧m≤784
 ·obtain⟨u',rfl⟩:∃k:Nat,u=(k:Int):=⟨u.toNat,by omega⟩
  obtain⟨n',rfl⟩:∃k:Nat,N=(k:Int):=⟨N.toNat,by omega⟩;have e:Bz ks (u':Int) (n':Int) p=(DV ks u' n' p,0):=by rw[Bz,if_pos (by omega)];rfl
  rw[e];refine(Wc b ks h a o r u' n' A m c p w ha (by omega) (by omega) hm (by omega) hr hK).mono ?_;rintro e w' ⟨g,A2,c2,rfl,h1,h2,h3,h4,h5⟩;exact⟨A2,c2,some g,a+1,by rw[Cv,hm],by rw[Cv,←hm];exact h1,h2,nw_ns h3 hK.lt,h4,h5.o,Nat.le_refl _⟩
 ·have e:Bz ks u N p=([],1):=by rw[Bz,if_neg (by omega)]
  rw[e];refine(TK b u N A m c w wN hml hx).mono ?_;rintro e w' ⟨rfl,hw⟩;subst hw;exact⟨none,0,h,a,rfl,Nat.le_refl _,Nat.zero_le _,.inl rfl,hK,CH.refl _ _ _,by omega⟩
end SeL
end
end Go.Proofs.YtfcjeebnkigeaaaGreat
