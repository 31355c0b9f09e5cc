import Derived.Deep.LoopGhost
import Derived.StillTailTactics
import Derived.BigQuiet
import Derived.Deep.QuietTactic
import Derived.Deep.RegionHeld3
import Derived.DeepKeys
import Derived.Laws.StructEq
import Derived.Laws.OwnMore
import Derived.SizedLaws
import Derived.Test.YtfcjeebnkigeaaaGreatRows
import Derived.Lib.SmallJoins
import Derived.Deep.Strs
import Derived.ChangeSame
import Derived.Lib.MinMax
import Derived.Test.YtfcjeebnkigeaaaGreatZKdcNonces1
import Derived.Test.YtfcjeebnkigeaaaGreatZKdcNonces2
import Derived.Test.YtfcjeebnkigeaaaGreatZKdcNonces3
import Derived.Test.YtfcjeebnkigeaaaGreatZKdcNonces4
import Derived.Test.YtfcjeebnkigeaaaGreatZKdcNonces5
import Derived.Test.YtfcjeebnkigeaaaGreatZKdcNonces6
import Derived.Test.YtfcjeebnkigeaaaGreatZKdcNonces7
import Derived.Test.YtfcjeebnkigeaaaGreatZKdcNonces8
import Derived.Test.YtfcjeebnkigeaaaGreatZKdcNonces9
import Derived.Test.YtfcjeebnkigeaaaGreatZKdcNonces10
import Derived.Test.YtfcjeebnkigeaaaGreatZKdcNonces11
import Derived.Test.YtfcjeebnkigeaaaGreatZKdcNonces12
import Derived.Test.YtfcjeebnkigeaaaGreatZKdcNonces13
import Derived.Test.YtfcjeebnkigeaaaGreatZKdcNonces14
import Derived.Test.YtfcjeebnkigeaaaGreatZKdcNonces15
import Derived.Test.YtfcjeebnkigeaaaGreatZKdcNonces16
import Derived.Test.YtfcjeebnkigeaaaGreatZKdcNonces17
import Derived.Test.YtfcjeebnkigeaaaGreatZKdcNonces18
import Derived.Test.YtfcjeebnkigeaaaGreatZKdcNonces19
import Derived.Test.YtfcjeebnkigeaaaGreatZKdcNonces20
import Derived.Test.YtfcjeebnkigeaaaGreatZKdcNonces21
import Derived.Test.YtfcjeebnkigeaaaGreatZKdcNonces22
import Derived.Test.YtfcjeebnkigeaaaGreatZKdcNonces23
import Derived.Test.YtfcjeebnkigeaaaGreatZKdcNonces24
import Derived.Test.YtfcjeebnkigeaaaGreatZKdcNonces25
import Derived.Test.YtfcjeebnkigeaaaGreatZKdcNonces26
import Derived.Test.YtfcjeebnkigeaaaGreatZKdcNonces27
section
set_option linter.unusedVariables false
set_option linter.unusedSimpArgs false
namespace Go.Proofs.YtfcjeebnkigeaaaGreat.Kd
open Go.RowKit Go.Proofs.YtfcjeebnkigeaaaGreat.Mem Go.Proofs.YtfcjeebnkigeaaaGreat.Se
open Go.Proofs.YtfcjeebnkigeaaaGreat.Rg (It Ent Ring RO DRing DO Ap its)
open Go.Proofs.YtfcjeebnkigeaaaGreat.Ms (Re As Pt pSm ptB prB tmB asB ptE rpE)
open Go.Proofs.YtfcjeebnkigeaaaGreat.SeL (sealR)
def nonN (l:List Bool) (i:Nat):Nat:=2*((l.take i).filter (fun b=>!b)).length
theorem nonN_s {l:List Bool} {i:Nat} {b:Bool} (h:l[i]? = some b):nonN l (i+1)=nonN l i+(if b then 0 else 2):=by
 unfold nonN
 rw[List.take_add_one,h]
 cases b<;>simp<;>omega
theorem nonN_le (l:List Bool) (i:Nat):nonN l i≤2*i:=by
 unfold nonN
 have h1:=List.length_filter_le (fun b=>!b) (l.take i)
 have h2:(l.take i).length≤i:=by rw[List.length_take];omega
 omega
abbrev noX (n:Nat) (u i:Int) (d:Nm.L):Int×Re:=asL rA itA n ⟨pAnn,kr rA rA,u,i⟩ 5 d
theorem no_b (u:Int) {i:Nat} (hu:u=1∨u=100) (hi:i≤30):asB ⟨pAnn,kr rA rA,u,i⟩=true:=by
 have h1:prB pAnn=true:=by decide +kernel
 have h2:prB (kr rA rA)=true:=by decide +kernel
 rcases hu with rfl | rfl<;>(simp [asB,h1,h2,tmB,Ms.inB];omega)
theorem no_1 {n i:Nat} {d:Nm.L} (hi:i≤30):noX n 1 i d=(7,Ms.re0):=by
 unfold noX asL
 rw[if_pos (by rw[no_b 1 (.inl rfl) hi];decide),if_pos (show pAnn.1=rA∧hasL itA pAnn=true by decide +kernel),if_pos (show kr rA rA=kr rA rA∧hasL itA (kr rA rA)=true by decide +kernel),if_pos (show(1:Int)<5 by decide)]
theorem seal_8 {ks:Nat→UInt8} {u:Int} {n:Nat} {p:Nm.L} (hp:p.length≤784) (hn:n≤200) (hu:0≤u) (hu2:u≤255):∃t,(sealR ks u (n:Int) p).1 = [0,0,0,0,0,0,0,UInt8.ofNat n]++t:=by
 rw[seal_len hp (by omega) (by omega) hu hu2]
 refine⟨mixL ks u.toNat n p++w8 (tagL ks u.toNat (aheadL ks u.toNat n p)),?_⟩
 show sealL ks u.toNat (n:Int).toNat p=_
 rw[Int.toNat_natCast]
 have e0:sealL ks u.toNat n p=w8 n++(mixL ks u.toNat n p++w8 (tagL ks u.toNat (aheadL ks u.toNat n p))):=List.append_assoc (w8 n) (mixL ks u.toNat n p) _
 have e:∀k,8≤k→UInt8.ofNat (n / 2 ^ k)=0:=fun k hk=>by
  rw[Nat.div_eq_of_lt (Nat.lt_of_lt_of_le (by omega:n<2 ^ 8) (Nat.pow_le_pow_right (by omega) hk))];rfl
 rw[e0,w8_explicit,e 56 (by omega),e 48 (by omega),e 40 (by omega),e 32 (by omega),e 24 (by omega),e 16 (by omega),e 8 (by omega)]
 simp only[Nat.pow_zero,Nat.div_one]
theorem ans_ok2 {l:List It} {n:Nat} {c s:Nm.L×Nm.L} {P:Pt} {no:Int} {ks:Nat→UInt8} {u:Int} {x1 x2:Nm.L} (hk:P.ss.length=32) (hp:ptB P=true) (hr:Ms.rpB (rpOf P s no)=true) (h1:(sealR (keyL l s) 2 ((n+1:Nat):Int) (ptE P)).1=x1) (h2:(sealR ks u ((n+1+1:Nat):Int) (rpE (rpOf P s no))).1=x2) :
 ansL l n c s P no ks u=(0,⟨c,⟨s,Rg.lastN l s,x1⟩,x2⟩):=by rw[ans_ok hk hp hr,h1,h2]
theorem no_2 {n i:Nat} {d:Nm.L} (hd:d.length=32) (hi:i≤30) (hn:n≤100):(noX n 100 i d).1=0∧(∃t,(noX n 100 i d).2.t.b = [0,0,0,0,0,0,0,UInt8.ofNat (n+1)]++t)∧∃t,(noX n 100 i d).2.b = [0,0,0,0,0,0,0,UInt8.ofNat (n+2)]++t:=by
 have hp:ptB ⟨pAnn,d,[],5,100⟩=true:=by
  have h1:prB pAnn=true:=by decide +kernel
  simp [ptB,h1,tmB,Ms.inB,Ms.txtB]
 have hr:Ms.rpB (rpOf ⟨pAnn,d,[],5,100⟩ (kr rA rA) (i:Int))=true:=by
  show Ms.rpB ⟨d,kr rA rA,5,100,(i:Int)⟩=true
  have h1:prB (kr rA rA)=true:=by decide +kernel
  simp [Ms.rpB,h1,tmB,Ms.inB];omega
 have e:noX n 100 i d=ansL itA n pAnn (kr rA rA) ⟨pAnn,d,[],5,100⟩ i (keyL itA pAnn) 3:=by
  unfold noX asL
  rw[if_pos (by rw[no_b 100 (.inr rfl) hi];decide),if_pos (show pAnn.1=rA∧hasL itA pAnn=true by decide +kernel),if_pos (show kr rA rA=kr rA rA∧hasL itA (kr rA rA)=true by decide +kernel),if_neg (show ¬(100:Int)<5 by decide)]
  rfl
 obtain⟨t1,h1⟩:=seal_8 (ks:=keyL itA (kr rA rA)) (u:=2) (n:=n+1) (p:=ptE ⟨pAnn,d,[],5,100⟩) (by have:=ptE_len (p:=⟨pAnn,d,[],5,100⟩) hd hp;omega) (by omega) (by decide) (by decide)
 obtain⟨t2,h2⟩:=seal_8 (ks:=keyL itA pAnn) (u:=3) (n:=n+1+1) (p:=rpE (rpOf ⟨pAnn,d,[],5,100⟩ (kr rA rA) (i:Int))) (Nat.le_trans (rpE_len (p:=rpOf ⟨pAnn,d,[],5,100⟩ (kr rA rA) (i:Int)) hd hr) (by omega)) (by omega) (by decide) (by decide)
 rw[e,ans_ok2 hd hp hr h1 h2]
 exact⟨rfl,⟨t1,rfl⟩,t2,rfl⟩
theorem re_bs {S:Nat→Prop} {w:World} {cs:Array Value} {x:Re} (h:ReN S w cs x):∃A1 c1 A2 c2,cs[5]? = some (.slice A1 x.t.b.length c1)∧cs[6]? = some (.slice A2 x.b.length c2)∧Rd w w.heap.size A1 (bvs x.t.b)∧Rd w w.heap.size A2 (bvs x.b):=by
 obtain⟨b,a,rfl,h1,h2⟩:=h
 obtain⟨A1,c1,rfl,_,h1⟩:=h1.sl
 obtain⟨A2,c2,rfl,_,h2⟩:=h2.sl
 exact⟨A1,c1,A2,c2,rfl,rfl,h1,h2⟩
set_option maxRecDepth 100000 in
set_option maxHeartbeats 3200000 in
theorem non_x (l:List Bool) (A:Option Addr) (m c:Nat) (w:World) (h:30<m):Calls Tryz.prog 11 #[.slice A m c] w fun e w'=>e = .returned (.bool true)∧Below w.heap.size w w':=by
 have t1:decide ((30:Int)<(m:Int))=true:=decide_eq_true (by omega)
 clear h
 go_enter Tryz.func11,Tryz.ntmps11
 go_wp2
 go_ret
 exact⟨rfl,Below.refl _ _⟩
set_option maxRecDepth 100000 in
set_option maxHeartbeats 3200000 in
theorem non_in (l:List Bool) (A:Option Addr) (m c:Nat) (w:World) (h:m≤30) (hm:m=l.length) (hr:Rd w w.heap.size A (l.map Value.bool)):Calls Tryz.prog 11 #[.slice A m c] w fun e w'=>e = .returned (.bool true)∧Below w.heap.size w w':=by
 have CB:=Lib.hid (fun(w1:World)=>begin_any false w1)
 have LC:=Lib.hid (fun(w1:World)=>l_client w1)
 have LS:=Lib.hid (fun(w1:World)=>l_service w1)
 have LAA:=Lib.hid (fun(w1:World)=>l_tgt rA rA (by decide) w1)
 have LAE:=Lib.hid (fun(w1:World)=>l_tgt rA rE (by decide) w1)
 have KN:=Lib.hid (fun(w1:World)=>known_ok w1)
 have t1:decide ((30:Int)<(m:Int))=false:=decide_eq_false (by omega)
 have HR:=Lib.hid hr;have HM:=Lib.hid h;have HML:=Lib.hid hm
 have HB0:=Lib.hid (Below.refl w.heap.size w)
 clear h hr hm
 go_enter Tryz.func11,Tryz.ntmps11
 go_upto_region 6 with(first
  |(go_at_call 16;refine Calls.mono (CB.out _) ?_;rintro e w1 ⟨g,p,es,d,rfl,hs⟩;clear CB;have HS:=Lib.hid hs;clear hs)
  |fail)
 have HKS:=Lib.hid HS.out.ks
 have HG:=Lib.hid (show Blk w1 g 44 (scC p.k d.x) from HS.out.blk)
 have HOG:=Lib.hid HS.out.gk
 have HIT:=Lib.hid (show its es=itA from HS.out.e)
 have HPR:=Lib.hid (show p.R=rA from HS.out.R)
 have HPT0:=Lib.hid HS.out.T
 have HBB:=Lib.hid (HB0.out.trans (HS.out.b.mono HB0.out.size))
 clear HS
 obtain⟨B,eB⟩:∃z,z=w.heap.size:=⟨_,rfl⟩
 have HWB:=Lib.hid (show w.heap.size≤B from eB▸Nat.le_refl _)
 rw[←eB] at HKS
 clear eB
 go_wp2
 go_loopw [4,5] (fun nv iv wr=>∃(i n:Nat) (es:List Ent),i≤m∧iv = .int .i64 (i:Int)∧nv = .int .i64 (n:Int)∧n=nonN l i∧KS wr B p es none n (n / 2) (4*i)∧its es=itA∧Blk wr g 44 (scC p.k d.x)∧Off p es none g∧Below w.heap.size w wr) (fun _ iv _=>m - (intOf iv).toNat)
 case atStart=>exact⟨0,0,es,Nat.zero_le _,rfl,rfl,by simp [nonN],HKS.out,HIT.out,HG.out,HOG.out,HBB.out⟩
 case round=>
  clear HKS HG HOG HIT HBB
  obtain⟨i,n,es,hi,rfl,rfl,hn,hks,hit,hg,hog,hb⟩:=hrel
  have HKS:=Lib.hid hks;have HIT:=Lib.hid hit;have HG:=Lib.hid hg;have HOG:=Lib.hid hog;have HB:=Lib.hid hb;have HNN:=Lib.hid hn
  have HN:=Lib.hid (show n≤60 by have:=nonN_le l i;have:=HM.out;omega)
  have HI:=Lib.hid (show i≤30 by have:=HM.out;omega)
  clear hks hit hg hog hb hn
  by_cases hlt:i<m
  ·have e1:(i:Int)<(m:Int):=by omega
   have e2:(0:Int)≤(i:Int):=by omega
   have e9:(i:Int)≤30:=by have:=HI.out;omega
   have HLT:=Lib.hid hlt
   obtain⟨b,hlb⟩:∃b,l[i]? = some b:=⟨_,List.getElem?_eq_getElem (by have:=HML.out;omega)⟩
   have HLB:=Lib.hid hlb
   obtain⟨ga,oa,eA,hga,kc⟩:=(HR.out.below HB.out).at_ (i:=i) (u:=.bool b) (by rw[List.getElem?_map,HLB.out];rfl)
   subst eA
   obtain⟨nK,enK⟩:∃z,z=((UInt8.ofNat i).toNat:Int):=⟨_,rfl⟩
   have HWU:=Lib.hid (show IntKind.u8.wrap (i:Int)=nK by rw[enK,UInt8.toNat_ofNat',show IntKind.u8.wrap (i:Int)=(i:Int) % 256 from rfl];omega)
   obtain⟨cK,ecK⟩:∃z,z=key32 (kq (UInt8.ofNat i)):=⟨_,rfl⟩
   have CK:=Lib.hid (show ∀w1:World,Calls Tryz.prog 18 #[.int .u8 nK] w1 fun e w'=>e = .returned (.agg cK)∧Below w1.heap.size w1 w' by intro w1;rw[ecK,enK];exact l_key _ w1)
   have HKE:=Lib.hid (show cK=keyA (kb (UInt8.ofNat i)) from ecK.trans (kb_keyA _))
   clear hlt hi hlb enK ecK hga
   cases b with
   |true=>
    obtain⟨csQ,ecQ⟩:∃z,z=asA ⟨pAnn,kr rA rA,1,(i:Int)⟩:=⟨_,rfl⟩
    have HBQ:=Lib.hid (built_as pAnn (kr rA rA) 1 (i:Int))
    rw[←ecQ] at HBQ
    have HEQ:=Lib.hid ecQ
    obtain⟨rr,err⟩:∃z,z=asL rA itA n ⟨pAnn,kr rA rA,1,(i:Int)⟩ 5 (kb (UInt8.ofNat i)):=⟨_,rfl⟩
    have HER:=Lib.hid err
    clear ecQ err
    have CAS:=Lib.hid (fun(w2:World) (h:KS w2 B p es none n (n / 2) (4*i))=>as_to9 HEQ.out HKE.out HPR.out HIT.out HER.out.symm h (by have:=HI.out;omega) (by have:=HN.out;omega) (by have:=HN.out;omega) (by decide) (by decide) (kb_len _) sAnn sKrA)
    go_upto_region 13 with fail
    clear kc
    obtain⟨wx,ewx⟩:∃z,z=wr:=⟨_,rfl⟩
    rw[←ewx] at HKS HG HB⊢
    clear ewx
    have HS0:=Lib.hid HKS.out
    have HG0:=Lib.hid HG.out.lt
    go_cut [7,8] from 25 to 40 (fun rv ev wz=>∃(PT:Nat) (cs:Array Value) (es2:List Ent),rv = .pointer (some ⟨PT,0,none⟩)∧ev = .int .i64 rr.1∧Got wx wz B p es es2 (n+2*cnt rr.1) (n / 2+cnt rr.1) (4*i+4) PT cs rr.2)
    case first=>
     have hdr:Below wx.heap.size wx wx.drew:=below_drewN (Below.refl _ _) 1
     have HK:=Lib.hid (Kn.start HKS.out hdr)
     replace HG:=Lib.hid (HG.out.below hdr)
     clear hdr
     refine Reg.any_begin (fun w'=>Blk w' g 44 (scC p.k d.x)) 19 rfl (by kernel_rfl) HG.out ?_
     refine Reg.tk 0 (v:=?vt1) rfl HG.out (fun w' hS=>?ht1) ?rt1
     case ht1=>go_simp<;>rfl
     simp only[Act.put,Reg.s0,Reg.s1,Reg.s2]
     refine Reg.tk 1 (v:=?vt2) rfl HG.out (fun w' hS=>?ht2) ?rt2
     case ht2=>go_simp<;>rfl
     simp only[Act.put,Reg.s0,Reg.s1,Reg.s2]
     refine Reg.tk 2 (v:=?vt3) rfl HG.out (fun w' hS=>?ht3) ?rt3
     case ht3=>go_simp<;>rfl
     simp only[Act.put,Reg.s0,Reg.s1,Reg.s2]
     refine Reg.tk 3 (v:=?vt4) rfl HG.out (fun w' hS=>?ht4) ?rt4
     case ht4=>have k0:=Blk.cell hS 0;go_simp<;>rfl
     simp only[Act.put,Reg.s0,Reg.s1,Reg.s2]
     refine Reg.tk 6 (v:=?vt5) rfl HG.out (fun w' hS=>?ht5) ?rt5
     case ht5=>go_simp<;>rfl
     simp only[Act.put,Reg.s0,Reg.s1,Reg.s2]
     refine Reg.tk 7 (v:=?vt6) rfl HG.out (fun w' hS=>?ht6) ?rt6
     case ht6=>go_simp<;>rfl
     simp only[Act.put,Reg.s0,Reg.s1,Reg.s2]
     refine Reg.tk 9 (v:=?vt7) rfl HG.out (fun w' hS=>?ht7) ?rt7
     case ht7=>go_simp<;>rfl
     simp only[Act.put,Reg.s0,Reg.s1,Reg.s2]
     refine Reg.tk 10 (v:=.int .u8 nK) rfl HG.out (fun w' hS=>?ht8) ?rt8
     case ht8=>have h1:=HWU.out;go_simp
     simp only[Act.put,Reg.s0,Reg.s1,Reg.s2]
     refine Reg.both_all [4,16] (by kernel_rfl) (by simp) ?_
     intro j0 hj0
     have hj0:j0=4∨j0=16:=by simpa using hj0
     rcases hj0 with rfl | rfl
     ·right
      refine⟨_,_,_,_,_,_,27,#[],rfl,by rfl,(by go_simp<;>first | rfl | exact⟨rfl,rfl⟩),?_⟩
      refine Calls.mono (LC.out _) ?_
      rintro e wlt9 ⟨rfl,hb⟩
      replace HG:=Lib.hid (HG.out.below hb)
      replace HK:=Lib.hid (HK.out.below hb)
      clear hb
      refine⟨_,rfl,HG.out,?_⟩
      simp only[Act.put,Reg.s0,Reg.s1,Reg.s2]
      refine Reg.both_all [5,16] (by kernel_rfl) (by simp) ?_
      intro j0 hj0
      have hj0:j0=5∨j0=16:=by simpa using hj0
      rcases hj0 with rfl | rfl
      ·right
       refine⟨_,_,_,_,_,_,28,#[.string ⟨rA.toArray⟩,.string ⟨rA.toArray⟩],rfl,by rfl,(by go_simp<;>first | rfl | exact⟨rfl,rfl⟩),?_⟩
       refine Calls.mono (LAA.out _) ?_
       rintro e wlt10 ⟨rfl,hb⟩
       replace HG:=Lib.hid (HG.out.below hb)
       replace HK:=Lib.hid (HK.out.below hb)
       clear hb
       refine⟨_,rfl,HG.out,?_⟩
       simp only[Act.put,Reg.s0,Reg.s1,Reg.s2]
       refine Reg.tk 8 (v:=.agg csQ) rfl HG.out (fun w' hS=>?ht11) ?rt11
       case ht11=>exact Rg.exec_build (by simp only[List.map_toArray,List.map_cons,List.map_nil];rfl) HBQ.out
       simp only[Act.put,Reg.s0,Reg.s1,Reg.s2]
       refine Reg.both_all [11,16] (by kernel_rfl) (by simp) ?_
       intro j0 hj0
       have hj0:j0=11∨j0=16:=by simpa using hj0
       rcases hj0 with rfl | rfl
       ·right
        refine⟨_,_,_,_,_,_,18,#[.int .u8 nK],rfl,by rfl,(by go_simp<;>first | rfl | exact⟨rfl,rfl⟩),?_⟩
        refine Calls.mono (CK.out _) ?_
        rintro e wlt12 ⟨rfl,hb⟩
        replace HG:=Lib.hid (HG.out.below hb)
        replace HK:=Lib.hid (HK.out.below hb)
        clear hb
        refine⟨_,rfl,HG.out,?_⟩
        simp only[Act.put,Reg.s0,Reg.s1,Reg.s2]
        refine Reg.both_all [12,16] (by kernel_rfl) (by simp) ?_
        intro j0 hj0
        have hj0:j0=12∨j0=16:=by simpa using hj0
        rcases hj0 with rfl | rfl
        ·right
         refine⟨_,_,_,_,_,_,17,#[.pointer (some ⟨p.k,0,none⟩),.agg csQ,.int .i64 5,.agg cK],rfl,by rfl,(by go_simp<;>first | rfl | exact⟨rfl,rfl⟩),?_⟩
         refine Calls.mono (CAS.out _ HK.out.st) ?_
         rintro e wat13 ⟨cs,es2,rfl,hre,hk⟩
         have HCS:=Lib.hid (re_cells hre)
         have hnb:=hk.blk HG.out HOG.out.no
         replace HOG:=Lib.hid (hk.off HOG.out HG.out.lt)
         replace HG:=Lib.hid hnb
         clear hnb
         have HRE:=Lib.hid hre
         have HRS:=Lib.hid HK.out.size
         replace HK:=Lib.hid (HK.out.trans hk)
         clear hk hre
         refine⟨_,rfl,HG.out,?_⟩
         simp only[Act.put,Reg.s0,Reg.s1,Reg.s2]
         refine Reg.tk 13 (v:=?vt14) rfl HG.out (fun w' hS=>?ht14) ?rt14
         case ht14=>go_simp<;>rfl
         simp only[Act.put,Reg.s0,Reg.s1,Reg.s2]
         refine Reg.tk 14 (v:=?vt15) rfl HG.out (fun w' hS=>?ht15) ?rt15
         case ht15=>go_simp<;>rfl
         simp only[Act.put,Reg.s0,Reg.s1,Reg.s2]
         refine Reg.tk 15 (v:=?vt16) rfl HG.out (fun w' hS=>?ht16) ?rt16
         case ht16=>go_simp<;>rfl
         simp only[Act.put,Reg.s0,Reg.s1,Reg.s2]
         refine Reg.both_all [16] (by kernel_rfl) (by simp) ?_
         intro j0 hj0
         obtain rfl:j0=16:=by simpa using hj0
         clear hj0
         left
         have hb:Below wat13.heap.size wat13 (wat13.alloc (.cells reZ 38)):=(Below.refl _ _).alloc (Nat.le_refl _) _
         have hnb:=Blk.new wat13 38 reZ
         have HNEHG:=Lib.hid (show g≠wat13.heap.size from Nat.ne_of_lt HG.out.lt)
         have HPT:=Lib.hid (show wx.heap.size≤wat13.heap.size from HK.out.size)
         have HOT:=Lib.hid (HK.out.st.offs (Nat.le_refl wat13.heap.size))
         refine⟨_,_,_,_,_,_,.pointer (some ⟨wat13.heap.size,0,none⟩),wat13.alloc (.cells reZ 38),rfl,by rfl,(by go_simp<;>rfl),(HG.out.below hb),?_⟩
         simp only[Act.put,Reg.s0,Reg.s1,Reg.s2]
         obtain⟨wtt17,ewtt17⟩:∃z,z=wat13.alloc (.cells reZ 38):=⟨_,rfl⟩
         rw[←ewtt17] at hb hnb⊢
         clear ewtt17
         replace HRE:=Lib.hid (re_new HRE.out HRS.out (Nat.le_refl _) hb)
         clear HRS
         have HT:=Lib.hid hnb
         clear hnb
         replace HG:=Lib.hid (HG.out.below hb)
         replace HK:=Lib.hid (HK.out.below hb)
         clear hb
         obtain⟨PT,ePT⟩:∃z,z=wat13.heap.size:=⟨_,rfl⟩
         rw[←ePT] at HT HPT HOT HNEHG HRE⊢
         clear ePT
         refine Reg.any_store_whole 17 rfl (by kernel_rfl) (by rfl) PT 38 _ cs HT.out (by rfl) (by rfl) (by rw[HCS.out.1];rfl) (by rw[HCS.out.1];exact re_info) HCS.out.2 ?_
         intro Vt18 hV hg
         have HGT:=Lib.hid (got_mk HK.out HRE.out HOT.out HPT.out hV hg)
         replace HG:=Lib.hid (HG.out.grown hg (fun e=>by injection e with e;exact HNEHG.out e.symm))
         clear hV hg HT HK HRE HOT HPT HCS
         refine⟨HG.out,?_⟩
         simp only[Act.put,Reg.s0,Reg.s1,Reg.s2]
         refine Reg.tk 18 (v:=?vt19) rfl HG.out (fun w' hS=>?ht19) ?rt19
         case ht19=>go_simp<;>rfl
         simp only[Act.put,Reg.s0,Reg.s1,Reg.s2]
         refine wpAnyH_done (by kernel_rfl) ?_ _
         go_wp2_with fail
         go_meet
         exact⟨PT,_,_,rfl,rfl,HGT.out⟩
        ·left
         have hb:Below wlt12.heap.size wlt12 (wlt12.alloc (.cells reZ 38)):=(Below.refl _ _).alloc (Nat.le_refl _) _
         have hnb:=Blk.new wlt12 38 reZ
         have HNEHG:=Lib.hid (show g≠wlt12.heap.size from Nat.ne_of_lt HG.out.lt)
         have HPT:=Lib.hid (show wx.heap.size≤wlt12.heap.size from HK.out.size)
         have HOT:=Lib.hid (HK.out.st.offs (Nat.le_refl wlt12.heap.size))
         refine⟨_,_,_,_,_,_,.pointer (some ⟨wlt12.heap.size,0,none⟩),wlt12.alloc (.cells reZ 38),rfl,by rfl,(by go_simp<;>rfl),(HG.out.below hb),?_⟩
         simp only[Act.put,Reg.s0,Reg.s1,Reg.s2]
         obtain⟨wtt20,ewtt20⟩:∃z,z=wlt12.alloc (.cells reZ 38):=⟨_,rfl⟩
         rw[←ewtt20] at hb hnb⊢
         clear ewtt20
         have HT:=Lib.hid hnb
         clear hnb
         replace HG:=Lib.hid (HG.out.below hb)
         replace HK:=Lib.hid (HK.out.below hb)
         clear hb
         obtain⟨PT,ePT⟩:∃z,z=wlt12.heap.size:=⟨_,rfl⟩
         rw[←ePT] at HT HPT HOT HNEHG⊢
         clear ePT
         refine Reg.both_all [12] (by kernel_rfl) (by simp) ?_
         intro j0 hj0
         obtain rfl:j0=12:=by simpa using hj0
         clear hj0
         right
         refine⟨_,_,_,_,_,_,17,#[.pointer (some ⟨p.k,0,none⟩),.agg csQ,.int .i64 5,.agg cK],rfl,by rfl,(by go_simp<;>first | rfl | exact⟨rfl,rfl⟩),?_⟩
         refine Calls.mono (CAS.out _ HK.out.st) ?_
         rintro e wat21 ⟨cs,es2,rfl,hre,hk⟩
         have HCS:=Lib.hid (re_cells hre)
         have hnb:=hk.blk HG.out HOG.out.no
         replace HOG:=Lib.hid (hk.off HOG.out HG.out.lt)
         replace HG:=Lib.hid hnb
         clear hnb
         have HRE:=Lib.hid (re_old hre HK.out.size HT.out.lt)
         have hnb:=hk.blk HT.out HOT.out.no
         replace HOT:=Lib.hid (hk.off HOT.out HT.out.lt)
         replace HT:=Lib.hid hnb
         clear hnb
         replace HK:=Lib.hid (HK.out.trans hk)
         clear hk hre
         refine⟨_,rfl,HG.out,?_⟩
         simp only[Act.put,Reg.s0,Reg.s1,Reg.s2]
         refine Reg.tk 13 (v:=?vt22) rfl HG.out (fun w' hS=>?ht22) ?rt22
         case ht22=>go_simp<;>rfl
         simp only[Act.put,Reg.s0,Reg.s1,Reg.s2]
         refine Reg.tk 14 (v:=?vt23) rfl HG.out (fun w' hS=>?ht23) ?rt23
         case ht23=>go_simp<;>rfl
         simp only[Act.put,Reg.s0,Reg.s1,Reg.s2]
         refine Reg.tk 15 (v:=?vt24) rfl HG.out (fun w' hS=>?ht24) ?rt24
         case ht24=>go_simp<;>rfl
         simp only[Act.put,Reg.s0,Reg.s1,Reg.s2]
         refine Reg.any_store_whole 17 rfl (by kernel_rfl) (by rfl) PT 38 _ cs HT.out (by rfl) (by rfl) (by rw[HCS.out.1];rfl) (by rw[HCS.out.1];exact re_info) HCS.out.2 ?_
         intro Vt25 hV hg
         have HGT:=Lib.hid (got_mk HK.out HRE.out HOT.out HPT.out hV hg)
         replace HG:=Lib.hid (HG.out.grown hg (fun e=>by injection e with e;exact HNEHG.out e.symm))
         clear hV hg HT HK HRE HOT HPT HCS
         refine⟨HG.out,?_⟩
         simp only[Act.put,Reg.s0,Reg.s1,Reg.s2]
         refine Reg.tk 18 (v:=?vt26) rfl HG.out (fun w' hS=>?ht26) ?rt26
         case ht26=>go_simp<;>rfl
         simp only[Act.put,Reg.s0,Reg.s1,Reg.s2]
         refine wpAnyH_done (by kernel_rfl) ?_ _
         go_wp2_with fail
         go_meet
         exact⟨PT,_,_,rfl,rfl,HGT.out⟩
       ·left
        have hb:Below wlt10.heap.size wlt10 (wlt10.alloc (.cells reZ 38)):=(Below.refl _ _).alloc (Nat.le_refl _) _
        have hnb:=Blk.new wlt10 38 reZ
        have HNEHG:=Lib.hid (show g≠wlt10.heap.size from Nat.ne_of_lt HG.out.lt)
        have HPT:=Lib.hid (show wx.heap.size≤wlt10.heap.size from HK.out.size)
        have HOT:=Lib.hid (HK.out.st.offs (Nat.le_refl wlt10.heap.size))
        refine⟨_,_,_,_,_,_,.pointer (some ⟨wlt10.heap.size,0,none⟩),wlt10.alloc (.cells reZ 38),rfl,by rfl,(by go_simp<;>rfl),(HG.out.below hb),?_⟩
        simp only[Act.put,Reg.s0,Reg.s1,Reg.s2]
        obtain⟨wtt27,ewtt27⟩:∃z,z=wlt10.alloc (.cells reZ 38):=⟨_,rfl⟩
        rw[←ewtt27] at hb hnb⊢
        clear ewtt27
        have HT:=Lib.hid hnb
        clear hnb
        replace HG:=Lib.hid (HG.out.below hb)
        replace HK:=Lib.hid (HK.out.below hb)
        clear hb
        obtain⟨PT,ePT⟩:∃z,z=wlt10.heap.size:=⟨_,rfl⟩
        rw[←ePT] at HT HPT HOT HNEHG⊢
        clear ePT
        refine Reg.both_all [11] (by kernel_rfl) (by simp) ?_
        intro j0 hj0
        obtain rfl:j0=11:=by simpa using hj0
        clear hj0
        right
        refine⟨_,_,_,_,_,_,18,#[.int .u8 nK],rfl,by rfl,(by go_simp<;>first | rfl | exact⟨rfl,rfl⟩),?_⟩
        refine Calls.mono (CK.out _) ?_
        rintro e wlt28 ⟨rfl,hb⟩
        replace HG:=Lib.hid (HG.out.below hb)
        replace HK:=Lib.hid (HK.out.below hb)
        replace HT:=Lib.hid (HT.out.below hb)
        clear hb
        refine⟨_,rfl,HG.out,?_⟩
        simp only[Act.put,Reg.s0,Reg.s1,Reg.s2]
        refine Reg.both_all [12] (by kernel_rfl) (by simp) ?_
        intro j0 hj0
        obtain rfl:j0=12:=by simpa using hj0
        clear hj0
        right
        refine⟨_,_,_,_,_,_,17,#[.pointer (some ⟨p.k,0,none⟩),.agg csQ,.int .i64 5,.agg cK],rfl,by rfl,(by go_simp<;>first | rfl | exact⟨rfl,rfl⟩),?_⟩
        refine Calls.mono (CAS.out _ HK.out.st) ?_
        rintro e wat29 ⟨cs,es2,rfl,hre,hk⟩
        have HCS:=Lib.hid (re_cells hre)
        have hnb:=hk.blk HG.out HOG.out.no
        replace HOG:=Lib.hid (hk.off HOG.out HG.out.lt)
        replace HG:=Lib.hid hnb
        clear hnb
        have HRE:=Lib.hid (re_old hre HK.out.size HT.out.lt)
        have hnb:=hk.blk HT.out HOT.out.no
        replace HOT:=Lib.hid (hk.off HOT.out HT.out.lt)
        replace HT:=Lib.hid hnb
        clear hnb
        replace HK:=Lib.hid (HK.out.trans hk)
        clear hk hre
        refine⟨_,rfl,HG.out,?_⟩
        simp only[Act.put,Reg.s0,Reg.s1,Reg.s2]
        refine Reg.tk 13 (v:=?vt30) rfl HG.out (fun w' hS=>?ht30) ?rt30
        case ht30=>go_simp<;>rfl
        simp only[Act.put,Reg.s0,Reg.s1,Reg.s2]
        refine Reg.tk 14 (v:=?vt31) rfl HG.out (fun w' hS=>?ht31) ?rt31
        case ht31=>go_simp<;>rfl
        simp only[Act.put,Reg.s0,Reg.s1,Reg.s2]
        refine Reg.tk 15 (v:=?vt32) rfl HG.out (fun w' hS=>?ht32) ?rt32
        case ht32=>go_simp<;>rfl
        simp only[Act.put,Reg.s0,Reg.s1,Reg.s2]
        refine Reg.any_store_whole 17 rfl (by kernel_rfl) (by rfl) PT 38 _ cs HT.out (by rfl) (by rfl) (by rw[HCS.out.1];rfl) (by rw[HCS.out.1];exact re_info) HCS.out.2 ?_
        intro Vt33 hV hg
        have HGT:=Lib.hid (got_mk HK.out HRE.out HOT.out HPT.out hV hg)
        replace HG:=Lib.hid (HG.out.grown hg (fun e=>by injection e with e;exact HNEHG.out e.symm))
        clear hV hg HT HK HRE HOT HPT HCS
        refine⟨HG.out,?_⟩
        simp only[Act.put,Reg.s0,Reg.s1,Reg.s2]
        refine Reg.tk 18 (v:=?vt34) rfl HG.out (fun w' hS=>?ht34) ?rt34
        case ht34=>go_simp<;>rfl
        simp only[Act.put,Reg.s0,Reg.s1,Reg.s2]
        refine wpAnyH_done (by kernel_rfl) ?_ _
        go_wp2_with fail
        go_meet
        exact⟨PT,_,_,rfl,rfl,HGT.out⟩
      ·left
       have hb:Below wlt9.heap.size wlt9 (wlt9.alloc (.cells reZ 38)):=(Below.refl _ _).alloc (Nat.le_refl _) _
       have hnb:=Blk.new wlt9 38 reZ
       have HNEHG:=Lib.hid (show g≠wlt9.heap.size from Nat.ne_of_lt HG.out.lt)
       have HPT:=Lib.hid (show wx.heap.size≤wlt9.heap.size from HK.out.size)
       have HOT:=Lib.hid (HK.out.st.offs (Nat.le_refl wlt9.heap.size))
       refine⟨_,_,_,_,_,_,.pointer (some ⟨wlt9.heap.size,0,none⟩),wlt9.alloc (.cells reZ 38),rfl,by rfl,(by go_simp<;>rfl),(HG.out.below hb),?_⟩
       simp only[Act.put,Reg.s0,Reg.s1,Reg.s2]
       obtain⟨wtt35,ewtt35⟩:∃z,z=wlt9.alloc (.cells reZ 38):=⟨_,rfl⟩
       rw[←ewtt35] at hb hnb⊢
       clear ewtt35
       have HT:=Lib.hid hnb
       clear hnb
       replace HG:=Lib.hid (HG.out.below hb)
       replace HK:=Lib.hid (HK.out.below hb)
       clear hb
       obtain⟨PT,ePT⟩:∃z,z=wlt9.heap.size:=⟨_,rfl⟩
       rw[←ePT] at HT HPT HOT HNEHG⊢
       clear ePT
       refine Reg.both_all [5] (by kernel_rfl) (by simp) ?_
       intro j0 hj0
       obtain rfl:j0=5:=by simpa using hj0
       clear hj0
       right
       refine⟨_,_,_,_,_,_,28,#[.string ⟨rA.toArray⟩,.string ⟨rA.toArray⟩],rfl,by rfl,(by go_simp<;>first | rfl | exact⟨rfl,rfl⟩),?_⟩
       refine Calls.mono (LAA.out _) ?_
       rintro e wlt36 ⟨rfl,hb⟩
       replace HG:=Lib.hid (HG.out.below hb)
       replace HK:=Lib.hid (HK.out.below hb)
       replace HT:=Lib.hid (HT.out.below hb)
       clear hb
       refine⟨_,rfl,HG.out,?_⟩
       simp only[Act.put,Reg.s0,Reg.s1,Reg.s2]
       refine Reg.tk 8 (v:=.agg csQ) rfl HG.out (fun w' hS=>?ht37) ?rt37
       case ht37=>exact Rg.exec_build (by simp only[List.map_toArray,List.map_cons,List.map_nil];rfl) HBQ.out
       simp only[Act.put,Reg.s0,Reg.s1,Reg.s2]
       refine Reg.both_all [11] (by kernel_rfl) (by simp) ?_
       intro j0 hj0
       obtain rfl:j0=11:=by simpa using hj0
       clear hj0
       right
       refine⟨_,_,_,_,_,_,18,#[.int .u8 nK],rfl,by rfl,(by go_simp<;>first | rfl | exact⟨rfl,rfl⟩),?_⟩
       refine Calls.mono (CK.out _) ?_
       rintro e wlt38 ⟨rfl,hb⟩
       replace HG:=Lib.hid (HG.out.below hb)
       replace HK:=Lib.hid (HK.out.below hb)
       replace HT:=Lib.hid (HT.out.below hb)
       clear hb
       refine⟨_,rfl,HG.out,?_⟩
       simp only[Act.put,Reg.s0,Reg.s1,Reg.s2]
       refine Reg.both_all [12] (by kernel_rfl) (by simp) ?_
       intro j0 hj0
       obtain rfl:j0=12:=by simpa using hj0
       clear hj0
       right
       refine⟨_,_,_,_,_,_,17,#[.pointer (some ⟨p.k,0,none⟩),.agg csQ,.int .i64 5,.agg cK],rfl,by rfl,(by go_simp<;>first | rfl | exact⟨rfl,rfl⟩),?_⟩
       refine Calls.mono (CAS.out _ HK.out.st) ?_
       rintro e wat39 ⟨cs,es2,rfl,hre,hk⟩
       have HCS:=Lib.hid (re_cells hre)
       have hnb:=hk.blk HG.out HOG.out.no
       replace HOG:=Lib.hid (hk.off HOG.out HG.out.lt)
       replace HG:=Lib.hid hnb
       clear hnb
       have HRE:=Lib.hid (re_old hre HK.out.size HT.out.lt)
       have hnb:=hk.blk HT.out HOT.out.no
       replace HOT:=Lib.hid (hk.off HOT.out HT.out.lt)
       replace HT:=Lib.hid hnb
       clear hnb
       replace HK:=Lib.hid (HK.out.trans hk)
       clear hk hre
       refine⟨_,rfl,HG.out,?_⟩
       simp only[Act.put,Reg.s0,Reg.s1,Reg.s2]
       refine Reg.tk 13 (v:=?vt40) rfl HG.out (fun w' hS=>?ht40) ?rt40
       case ht40=>go_simp<;>rfl
       simp only[Act.put,Reg.s0,Reg.s1,Reg.s2]
       refine Reg.tk 14 (v:=?vt41) rfl HG.out (fun w' hS=>?ht41) ?rt41
       case ht41=>go_simp<;>rfl
       simp only[Act.put,Reg.s0,Reg.s1,Reg.s2]
       refine Reg.tk 15 (v:=?vt42) rfl HG.out (fun w' hS=>?ht42) ?rt42
       case ht42=>go_simp<;>rfl
       simp only[Act.put,Reg.s0,Reg.s1,Reg.s2]
       refine Reg.any_store_whole 17 rfl (by kernel_rfl) (by rfl) PT 38 _ cs HT.out (by rfl) (by rfl) (by rw[HCS.out.1];rfl) (by rw[HCS.out.1];exact re_info) HCS.out.2 ?_
       intro Vt43 hV hg
       have HGT:=Lib.hid (got_mk HK.out HRE.out HOT.out HPT.out hV hg)
       replace HG:=Lib.hid (HG.out.grown hg (fun e=>by injection e with e;exact HNEHG.out e.symm))
       clear hV hg HT HK HRE HOT HPT HCS
       refine⟨HG.out,?_⟩
       simp only[Act.put,Reg.s0,Reg.s1,Reg.s2]
       refine Reg.tk 18 (v:=?vt44) rfl HG.out (fun w' hS=>?ht44) ?rt44
       case ht44=>go_simp<;>rfl
       simp only[Act.put,Reg.s0,Reg.s1,Reg.s2]
       refine wpAnyH_done (by kernel_rfl) ?_ _
       go_wp2_with fail
       go_meet
       exact⟨PT,_,_,rfl,rfl,HGT.out⟩
     ·left
      have hb:Below wx.drew.heap.size wx.drew (wx.drew.alloc (.cells reZ 38)):=(Below.refl _ _).alloc (Nat.le_refl _) _
      have hnb:=Blk.new wx.drew 38 reZ
      have HNEHG:=Lib.hid (show g≠wx.drew.heap.size from Nat.ne_of_lt HG.out.lt)
      have HPT:=Lib.hid (show wx.heap.size≤wx.drew.heap.size from HK.out.size)
      have HOT:=Lib.hid (HK.out.st.offs (Nat.le_refl wx.drew.heap.size))
      refine⟨_,_,_,_,_,_,.pointer (some ⟨wx.drew.heap.size,0,none⟩),wx.drew.alloc (.cells reZ 38),rfl,by rfl,(by go_simp<;>rfl),(HG.out.below hb),?_⟩
      simp only[Act.put,Reg.s0,Reg.s1,Reg.s2]
      obtain⟨wtt45,ewtt45⟩:∃z,z=wx.drew.alloc (.cells reZ 38):=⟨_,rfl⟩
      rw[←ewtt45] at hb hnb⊢
      clear ewtt45
      have HT:=Lib.hid hnb
      clear hnb
      replace HG:=Lib.hid (HG.out.below hb)
      replace HK:=Lib.hid (HK.out.below hb)
      clear hb
      obtain⟨PT,ePT⟩:∃z,z=wx.drew.heap.size:=⟨_,rfl⟩
      rw[←ePT] at HT HPT HOT HNEHG⊢
      clear ePT
      refine Reg.both_all [4] (by kernel_rfl) (by simp) ?_
      intro j0 hj0
      obtain rfl:j0=4:=by simpa using hj0
      clear hj0
      right
      refine⟨_,_,_,_,_,_,27,#[],rfl,by rfl,(by go_simp<;>first | rfl | exact⟨rfl,rfl⟩),?_⟩
      refine Calls.mono (LC.out _) ?_
      rintro e wlt46 ⟨rfl,hb⟩
      replace HG:=Lib.hid (HG.out.below hb)
      replace HK:=Lib.hid (HK.out.below hb)
      replace HT:=Lib.hid (HT.out.below hb)
      clear hb
      refine⟨_,rfl,HG.out,?_⟩
      simp only[Act.put,Reg.s0,Reg.s1,Reg.s2]
      refine Reg.both_all [5] (by kernel_rfl) (by simp) ?_
      intro j0 hj0
      obtain rfl:j0=5:=by simpa using hj0
      clear hj0
      right
      refine⟨_,_,_,_,_,_,28,#[.string ⟨rA.toArray⟩,.string ⟨rA.toArray⟩],rfl,by rfl,(by go_simp<;>first | rfl | exact⟨rfl,rfl⟩),?_⟩
      refine Calls.mono (LAA.out _) ?_
      rintro e wlt47 ⟨rfl,hb⟩
      replace HG:=Lib.hid (HG.out.below hb)
      replace HK:=Lib.hid (HK.out.below hb)
      replace HT:=Lib.hid (HT.out.below hb)
      clear hb
      refine⟨_,rfl,HG.out,?_⟩
      simp only[Act.put,Reg.s0,Reg.s1,Reg.s2]
      refine Reg.tk 8 (v:=.agg csQ) rfl HG.out (fun w' hS=>?ht48) ?rt48
      case ht48=>exact Rg.exec_build (by simp only[List.map_toArray,List.map_cons,List.map_nil];rfl) HBQ.out
      simp only[Act.put,Reg.s0,Reg.s1,Reg.s2]
      refine Reg.both_all [11] (by kernel_rfl) (by simp) ?_
      intro j0 hj0
      obtain rfl:j0=11:=by simpa using hj0
      clear hj0
      right
      refine⟨_,_,_,_,_,_,18,#[.int .u8 nK],rfl,by rfl,(by go_simp<;>first | rfl | exact⟨rfl,rfl⟩),?_⟩
      refine Calls.mono (CK.out _) ?_
      rintro e wlt49 ⟨rfl,hb⟩
      replace HG:=Lib.hid (HG.out.below hb)
      replace HK:=Lib.hid (HK.out.below hb)
      replace HT:=Lib.hid (HT.out.below hb)
      clear hb
      refine⟨_,rfl,HG.out,?_⟩
      simp only[Act.put,Reg.s0,Reg.s1,Reg.s2]
      refine Reg.both_all [12] (by kernel_rfl) (by simp) ?_
      intro j0 hj0
      obtain rfl:j0=12:=by simpa using hj0
      clear hj0
      right
      refine⟨_,_,_,_,_,_,17,#[.pointer (some ⟨p.k,0,none⟩),.agg csQ,.int .i64 5,.agg cK],rfl,by rfl,(by go_simp<;>first | rfl | exact⟨rfl,rfl⟩),?_⟩
      refine Calls.mono (CAS.out _ HK.out.st) ?_
      rintro e wat50 ⟨cs,es2,rfl,hre,hk⟩
      have HCS:=Lib.hid (re_cells hre)
      have hnb:=hk.blk HG.out HOG.out.no
      replace HOG:=Lib.hid (hk.off HOG.out HG.out.lt)
      replace HG:=Lib.hid hnb
      clear hnb
      have HRE:=Lib.hid (re_old hre HK.out.size HT.out.lt)
      have hnb:=hk.blk HT.out HOT.out.no
      replace HOT:=Lib.hid (hk.off HOT.out HT.out.lt)
      replace HT:=Lib.hid hnb
      clear hnb
      replace HK:=Lib.hid (HK.out.trans hk)
      clear hk hre
      refine⟨_,rfl,HG.out,?_⟩
      simp only[Act.put,Reg.s0,Reg.s1,Reg.s2]
      refine Reg.tk 13 (v:=?vt51) rfl HG.out (fun w' hS=>?ht51) ?rt51
      case ht51=>go_simp<;>rfl
      simp only[Act.put,Reg.s0,Reg.s1,Reg.s2]
      refine Reg.tk 14 (v:=?vt52) rfl HG.out (fun w' hS=>?ht52) ?rt52
      case ht52=>go_simp<;>rfl
      simp only[Act.put,Reg.s0,Reg.s1,Reg.s2]
      refine Reg.tk 15 (v:=?vt53) rfl HG.out (fun w' hS=>?ht53) ?rt53
      case ht53=>go_simp<;>rfl
      simp only[Act.put,Reg.s0,Reg.s1,Reg.s2]
      refine Reg.any_store_whole 17 rfl (by kernel_rfl) (by rfl) PT 38 _ cs HT.out (by rfl) (by rfl) (by rw[HCS.out.1];rfl) (by rw[HCS.out.1];exact re_info) HCS.out.2 ?_
      intro Vt54 hV hg
      have HGT:=Lib.hid (got_mk HK.out HRE.out HOT.out HPT.out hV hg)
      replace HG:=Lib.hid (HG.out.grown hg (fun e=>by injection e with e;exact HNEHG.out e.symm))
      clear hV hg HT HK HRE HOT HPT HCS
      refine⟨HG.out,?_⟩
      simp only[Act.put,Reg.s0,Reg.s1,Reg.s2]
      refine Reg.tk 18 (v:=?vt55) rfl HG.out (fun w' hS=>?ht55) ?rt55
      case ht55=>go_simp<;>rfl
      simp only[Act.put,Reg.s0,Reg.s1,Reg.s2]
      refine wpAnyH_done (by kernel_rfl) ?_ _
      go_wp2_with fail
      go_meet
      exact⟨PT,_,_,rfl,rfl,HGT.out⟩
    case rest=>
     obtain⟨PT,cs,es2,rfl,rfl,hgt⟩:=hcut
     replace HIT:=Lib.hid ((bts_its hgt.kn.eq).trans HIT.out)
     replace HB:=Lib.hid (HB.out.trans ((hgt.kn.base HS0.out).mono HWB.out))
     replace HG:=Lib.hid (hgt.kn.blk HG.out HOG.out.no)
     replace HOG:=Lib.hid (hgt.kn.off HOG.out HG0.out)
     obtain⟨ga2,oa2,eA,hga,kcb⟩:=(HR.out.below HB.out).at_ (i:=i) (u:=.bool true) (by rw[List.getElem?_map,HLB.out];rfl)
     injection eA with eA
     injection eA with eg eo
     subst eg eo
     have hz:rr=(7,Ms.re0):=by rw[HER.out];exact no_1 HI.out
     have hst:KS wc B p es2 none n (n / 2) (4*(i+1)):=by have:=hgt.kn.st;rw[hz] at this;exact this
     rw[hz]
     replace HKS:=Lib.hid hst
     clear hst hz hgt CAS HEQ HER HBQ HS0 HG0
     go_wp2
     go_roundw
     case rel=>exact⟨i+1,n,es2,by have:=HLT.out;omega,by go_num,rfl,by rw[nonN_s HLB.out];simpa using HNN.out,HKS.out,HIT.out,HG.out,HOG.out,HB.out⟩
     case measure=>simp [intOf];have:=HLT.out;omega
   |false=>
    obtain⟨csQ,ecQ⟩:∃z,z=asA ⟨pAnn,kr rA rA,100,(i:Int)⟩:=⟨_,rfl⟩
    have HBQ:=Lib.hid (built_as pAnn (kr rA rA) 100 (i:Int))
    rw[←ecQ] at HBQ
    have HEQ:=Lib.hid ecQ
    obtain⟨rr,err⟩:∃z,z=asL rA itA n ⟨pAnn,kr rA rA,100,(i:Int)⟩ 5 (kb (UInt8.ofNat i)):=⟨_,rfl⟩
    have HER:=Lib.hid err
    clear ecQ err
    have CAS:=Lib.hid (fun(w2:World) (h:KS w2 B p es none n (n / 2) (4*i))=>as_to9 HEQ.out HKE.out HPR.out HIT.out HER.out.symm h (by have:=HI.out;omega) (by have:=HN.out;omega) (by have:=HN.out;omega) (by decide) (by decide) (kb_len _) sAnn sKrA)
    go_upto_region 13 with fail
    clear kc
    obtain⟨wx,ewx⟩:∃z,z=wr:=⟨_,rfl⟩
    rw[←ewx] at HKS HG HB⊢
    clear ewx
    have HS0:=Lib.hid HKS.out
    have HG0:=Lib.hid HG.out.lt
    go_cut [7,8] from 25 to 40 (fun rv ev wz=>∃(PT:Nat) (cs:Array Value) (es2:List Ent),rv = .pointer (some ⟨PT,0,none⟩)∧ev = .int .i64 rr.1∧Got wx wz B p es es2 (n+2*cnt rr.1) (n / 2+cnt rr.1) (4*i+4) PT cs rr.2)
    case first=>
     have hdr:Below wx.heap.size wx wx.drew:=below_drewN (Below.refl _ _) 1
     have HK:=Lib.hid (Kn.start HKS.out hdr)
     replace HG:=Lib.hid (HG.out.below hdr)
     clear hdr
     refine Reg.any_begin (fun w'=>Blk w' g 44 (scC p.k d.x)) 19 rfl (by kernel_rfl) HG.out ?_
     refine Reg.tk 0 (v:=?vf56) rfl HG.out (fun w' hS=>?hf56) ?rf56
     case hf56=>go_simp<;>rfl
     simp only[Act.put,Reg.s0,Reg.s1,Reg.s2]
     refine Reg.tk 1 (v:=?vf57) rfl HG.out (fun w' hS=>?hf57) ?rf57
     case hf57=>go_simp<;>rfl
     simp only[Act.put,Reg.s0,Reg.s1,Reg.s2]
     refine Reg.tk 2 (v:=?vf58) rfl HG.out (fun w' hS=>?hf58) ?rf58
     case hf58=>go_simp<;>rfl
     simp only[Act.put,Reg.s0,Reg.s1,Reg.s2]
     refine Reg.tk 3 (v:=?vf59) rfl HG.out (fun w' hS=>?hf59) ?rf59
     case hf59=>have k0:=Blk.cell hS 0;go_simp<;>rfl
     simp only[Act.put,Reg.s0,Reg.s1,Reg.s2]
     refine Reg.tk 6 (v:=?vf60) rfl HG.out (fun w' hS=>?hf60) ?rf60
     case hf60=>go_simp<;>rfl
     simp only[Act.put,Reg.s0,Reg.s1,Reg.s2]
     refine Reg.tk 7 (v:=?vf61) rfl HG.out (fun w' hS=>?hf61) ?rf61
     case hf61=>go_simp<;>rfl
     simp only[Act.put,Reg.s0,Reg.s1,Reg.s2]
     refine Reg.tk 9 (v:=?vf62) rfl HG.out (fun w' hS=>?hf62) ?rf62
     case hf62=>go_simp<;>rfl
     simp only[Act.put,Reg.s0,Reg.s1,Reg.s2]
     refine Reg.tk 10 (v:=.int .u8 nK) rfl HG.out (fun w' hS=>?hf63) ?rf63
     case hf63=>have h1:=HWU.out;go_simp
     simp only[Act.put,Reg.s0,Reg.s1,Reg.s2]
     refine Reg.both_all [4,16] (by kernel_rfl) (by simp) ?_
     intro j0 hj0
     have hj0:j0=4∨j0=16:=by simpa using hj0
     rcases hj0 with rfl | rfl
     ·right
      refine⟨_,_,_,_,_,_,27,#[],rfl,by rfl,(by go_simp<;>first | rfl | exact⟨rfl,rfl⟩),?_⟩
      refine Calls.mono (LC.out _) ?_
      rintro e wlf64 ⟨rfl,hb⟩
      replace HG:=Lib.hid (HG.out.below hb)
      replace HK:=Lib.hid (HK.out.below hb)
      clear hb
      refine⟨_,rfl,HG.out,?_⟩
      simp only[Act.put,Reg.s0,Reg.s1,Reg.s2]
      refine Reg.both_all [5,16] (by kernel_rfl) (by simp) ?_
      intro j0 hj0
      have hj0:j0=5∨j0=16:=by simpa using hj0
      rcases hj0 with rfl | rfl
      ·right
       refine⟨_,_,_,_,_,_,28,#[.string ⟨rA.toArray⟩,.string ⟨rA.toArray⟩],rfl,by rfl,(by go_simp<;>first | rfl | exact⟨rfl,rfl⟩),?_⟩
       refine Calls.mono (LAA.out _) ?_
       rintro e wlf65 ⟨rfl,hb⟩
       replace HG:=Lib.hid (HG.out.below hb)
       replace HK:=Lib.hid (HK.out.below hb)
       clear hb
       refine⟨_,rfl,HG.out,?_⟩
       simp only[Act.put,Reg.s0,Reg.s1,Reg.s2]
       refine Reg.tk 8 (v:=.agg csQ) rfl HG.out (fun w' hS=>?hf66) ?rf66
       case hf66=>exact Rg.exec_build (by simp only[List.map_toArray,List.map_cons,List.map_nil];rfl) HBQ.out
       simp only[Act.put,Reg.s0,Reg.s1,Reg.s2]
       refine Reg.both_all [11,16] (by kernel_rfl) (by simp) ?_
       intro j0 hj0
       have hj0:j0=11∨j0=16:=by simpa using hj0
       rcases hj0 with rfl | rfl
       ·right
        refine⟨_,_,_,_,_,_,18,#[.int .u8 nK],rfl,by rfl,(by go_simp<;>first | rfl | exact⟨rfl,rfl⟩),?_⟩
        refine Calls.mono (CK.out _) ?_
        rintro e wlf67 ⟨rfl,hb⟩
        replace HG:=Lib.hid (HG.out.below hb)
        replace HK:=Lib.hid (HK.out.below hb)
        clear hb
        refine⟨_,rfl,HG.out,?_⟩
        simp only[Act.put,Reg.s0,Reg.s1,Reg.s2]
        refine Reg.both_all [12,16] (by kernel_rfl) (by simp) ?_
        intro j0 hj0
        have hj0:j0=12∨j0=16:=by simpa using hj0
        rcases hj0 with rfl | rfl
        ·right
         refine⟨_,_,_,_,_,_,17,#[.pointer (some ⟨p.k,0,none⟩),.agg csQ,.int .i64 5,.agg cK],rfl,by rfl,(by go_simp<;>first | rfl | exact⟨rfl,rfl⟩),?_⟩
         refine Calls.mono (CAS.out _ HK.out.st) ?_
         rintro e waf68 ⟨cs,es2,rfl,hre,hk⟩
         have HCS:=Lib.hid (re_cells hre)
         have hnb:=hk.blk HG.out HOG.out.no
         replace HOG:=Lib.hid (hk.off HOG.out HG.out.lt)
         replace HG:=Lib.hid hnb
         clear hnb
         have HRE:=Lib.hid hre
         have HRS:=Lib.hid HK.out.size
         replace HK:=Lib.hid (HK.out.trans hk)
         clear hk hre
         refine⟨_,rfl,HG.out,?_⟩
         simp only[Act.put,Reg.s0,Reg.s1,Reg.s2]
         refine Reg.tk 13 (v:=?vf69) rfl HG.out (fun w' hS=>?hf69) ?rf69
         case hf69=>go_simp<;>rfl
         simp only[Act.put,Reg.s0,Reg.s1,Reg.s2]
         refine Reg.tk 14 (v:=?vf70) rfl HG.out (fun w' hS=>?hf70) ?rf70
         case hf70=>go_simp<;>rfl
         simp only[Act.put,Reg.s0,Reg.s1,Reg.s2]
         refine Reg.tk 15 (v:=?vf71) rfl HG.out (fun w' hS=>?hf71) ?rf71
         case hf71=>go_simp<;>rfl
         simp only[Act.put,Reg.s0,Reg.s1,Reg.s2]
         refine Reg.both_all [16] (by kernel_rfl) (by simp) ?_
         intro j0 hj0
         obtain rfl:j0=16:=by simpa using hj0
         clear hj0
         left
         have hb:Below waf68.heap.size waf68 (waf68.alloc (.cells reZ 38)):=(Below.refl _ _).alloc (Nat.le_refl _) _
         have hnb:=Blk.new waf68 38 reZ
         have HNEHG:=Lib.hid (show g≠waf68.heap.size from Nat.ne_of_lt HG.out.lt)
         have HPT:=Lib.hid (show wx.heap.size≤waf68.heap.size from HK.out.size)
         have HOT:=Lib.hid (HK.out.st.offs (Nat.le_refl waf68.heap.size))
         refine⟨_,_,_,_,_,_,.pointer (some ⟨waf68.heap.size,0,none⟩),waf68.alloc (.cells reZ 38),rfl,by rfl,(by go_simp<;>rfl),(HG.out.below hb),?_⟩
         simp only[Act.put,Reg.s0,Reg.s1,Reg.s2]
         obtain⟨wtf72,ewtf72⟩:∃z,z=waf68.alloc (.cells reZ 38):=⟨_,rfl⟩
         rw[←ewtf72] at hb hnb⊢
         clear ewtf72
         replace HRE:=Lib.hid (re_new HRE.out HRS.out (Nat.le_refl _) hb)
         clear HRS
         have HT:=Lib.hid hnb
         clear hnb
         replace HG:=Lib.hid (HG.out.below hb)
         replace HK:=Lib.hid (HK.out.below hb)
         clear hb
         obtain⟨PT,ePT⟩:∃z,z=waf68.heap.size:=⟨_,rfl⟩
         rw[←ePT] at HT HPT HOT HNEHG HRE⊢
         clear ePT
         refine Reg.any_store_whole 17 rfl (by kernel_rfl) (by rfl) PT 38 _ cs HT.out (by rfl) (by rfl) (by rw[HCS.out.1];rfl) (by rw[HCS.out.1];exact re_info) HCS.out.2 ?_
         intro Vf73 hV hg
         have HGT:=Lib.hid (got_mk HK.out HRE.out HOT.out HPT.out hV hg)
         replace HG:=Lib.hid (HG.out.grown hg (fun e=>by injection e with e;exact HNEHG.out e.symm))
         clear hV hg HT HK HRE HOT HPT HCS
         refine⟨HG.out,?_⟩
         simp only[Act.put,Reg.s0,Reg.s1,Reg.s2]
         refine Reg.tk 18 (v:=?vf74) rfl HG.out (fun w' hS=>?hf74) ?rf74
         case hf74=>go_simp<;>rfl
         simp only[Act.put,Reg.s0,Reg.s1,Reg.s2]
         refine wpAnyH_done (by kernel_rfl) ?_ _
         go_wp2_with fail
         go_meet
         exact⟨PT,_,_,rfl,rfl,HGT.out⟩
        ·left
         have hb:Below wlf67.heap.size wlf67 (wlf67.alloc (.cells reZ 38)):=(Below.refl _ _).alloc (Nat.le_refl _) _
         have hnb:=Blk.new wlf67 38 reZ
         have HNEHG:=Lib.hid (show g≠wlf67.heap.size from Nat.ne_of_lt HG.out.lt)
         have HPT:=Lib.hid (show wx.heap.size≤wlf67.heap.size from HK.out.size)
         have HOT:=Lib.hid (HK.out.st.offs (Nat.le_refl wlf67.heap.size))
         refine⟨_,_,_,_,_,_,.pointer (some ⟨wlf67.heap.size,0,none⟩),wlf67.alloc (.cells reZ 38),rfl,by rfl,(by go_simp<;>rfl),(HG.out.below hb),?_⟩
         simp only[Act.put,Reg.s0,Reg.s1,Reg.s2]
         obtain⟨wtf75,ewtf75⟩:∃z,z=wlf67.alloc (.cells reZ 38):=⟨_,rfl⟩
         rw[←ewtf75] at hb hnb⊢
         clear ewtf75
         have HT:=Lib.hid hnb
         clear hnb
         replace HG:=Lib.hid (HG.out.below hb)
         replace HK:=Lib.hid (HK.out.below hb)
         clear hb
         obtain⟨PT,ePT⟩:∃z,z=wlf67.heap.size:=⟨_,rfl⟩
         rw[←ePT] at HT HPT HOT HNEHG⊢
         clear ePT
         refine Reg.both_all [12] (by kernel_rfl) (by simp) ?_
         intro j0 hj0
         obtain rfl:j0=12:=by simpa using hj0
         clear hj0
         right
         refine⟨_,_,_,_,_,_,17,#[.pointer (some ⟨p.k,0,none⟩),.agg csQ,.int .i64 5,.agg cK],rfl,by rfl,(by go_simp<;>first | rfl | exact⟨rfl,rfl⟩),?_⟩
         refine Calls.mono (CAS.out _ HK.out.st) ?_
         rintro e waf76 ⟨cs,es2,rfl,hre,hk⟩
         have HCS:=Lib.hid (re_cells hre)
         have hnb:=hk.blk HG.out HOG.out.no
         replace HOG:=Lib.hid (hk.off HOG.out HG.out.lt)
         replace HG:=Lib.hid hnb
         clear hnb
         have HRE:=Lib.hid (re_old hre HK.out.size HT.out.lt)
         have hnb:=hk.blk HT.out HOT.out.no
         replace HOT:=Lib.hid (hk.off HOT.out HT.out.lt)
         replace HT:=Lib.hid hnb
         clear hnb
         replace HK:=Lib.hid (HK.out.trans hk)
         clear hk hre
         refine⟨_,rfl,HG.out,?_⟩
         simp only[Act.put,Reg.s0,Reg.s1,Reg.s2]
         refine Reg.tk 13 (v:=?vf77) rfl HG.out (fun w' hS=>?hf77) ?rf77
         case hf77=>go_simp<;>rfl
         simp only[Act.put,Reg.s0,Reg.s1,Reg.s2]
         refine Reg.tk 14 (v:=?vf78) rfl HG.out (fun w' hS=>?hf78) ?rf78
         case hf78=>go_simp<;>rfl
         simp only[Act.put,Reg.s0,Reg.s1,Reg.s2]
         refine Reg.tk 15 (v:=?vf79) rfl HG.out (fun w' hS=>?hf79) ?rf79
         case hf79=>go_simp<;>rfl
         simp only[Act.put,Reg.s0,Reg.s1,Reg.s2]
         refine Reg.any_store_whole 17 rfl (by kernel_rfl) (by rfl) PT 38 _ cs HT.out (by rfl) (by rfl) (by rw[HCS.out.1];rfl) (by rw[HCS.out.1];exact re_info) HCS.out.2 ?_
         intro Vf80 hV hg
         have HGT:=Lib.hid (got_mk HK.out HRE.out HOT.out HPT.out hV hg)
         replace HG:=Lib.hid (HG.out.grown hg (fun e=>by injection e with e;exact HNEHG.out e.symm))
         clear hV hg HT HK HRE HOT HPT HCS
         refine⟨HG.out,?_⟩
         simp only[Act.put,Reg.s0,Reg.s1,Reg.s2]
         refine Reg.tk 18 (v:=?vf81) rfl HG.out (fun w' hS=>?hf81) ?rf81
         case hf81=>go_simp<;>rfl
         simp only[Act.put,Reg.s0,Reg.s1,Reg.s2]
         refine wpAnyH_done (by kernel_rfl) ?_ _
         go_wp2_with fail
         go_meet
         exact⟨PT,_,_,rfl,rfl,HGT.out⟩
       ·left
        have hb:Below wlf65.heap.size wlf65 (wlf65.alloc (.cells reZ 38)):=(Below.refl _ _).alloc (Nat.le_refl _) _
        have hnb:=Blk.new wlf65 38 reZ
        have HNEHG:=Lib.hid (show g≠wlf65.heap.size from Nat.ne_of_lt HG.out.lt)
        have HPT:=Lib.hid (show wx.heap.size≤wlf65.heap.size from HK.out.size)
        have HOT:=Lib.hid (HK.out.st.offs (Nat.le_refl wlf65.heap.size))
        refine⟨_,_,_,_,_,_,.pointer (some ⟨wlf65.heap.size,0,none⟩),wlf65.alloc (.cells reZ 38),rfl,by rfl,(by go_simp<;>rfl),(HG.out.below hb),?_⟩
        simp only[Act.put,Reg.s0,Reg.s1,Reg.s2]
        obtain⟨wtf82,ewtf82⟩:∃z,z=wlf65.alloc (.cells reZ 38):=⟨_,rfl⟩
        rw[←ewtf82] at hb hnb⊢
        clear ewtf82
        have HT:=Lib.hid hnb
        clear hnb
        replace HG:=Lib.hid (HG.out.below hb)
        replace HK:=Lib.hid (HK.out.below hb)
        clear hb
        obtain⟨PT,ePT⟩:∃z,z=wlf65.heap.size:=⟨_,rfl⟩
        rw[←ePT] at HT HPT HOT HNEHG⊢
        clear ePT
        refine Reg.both_all [11] (by kernel_rfl) (by simp) ?_
        intro j0 hj0
        obtain rfl:j0=11:=by simpa using hj0
        clear hj0
        right
        refine⟨_,_,_,_,_,_,18,#[.int .u8 nK],rfl,by rfl,(by go_simp<;>first | rfl | exact⟨rfl,rfl⟩),?_⟩
        refine Calls.mono (CK.out _) ?_
        rintro e wlf83 ⟨rfl,hb⟩
        replace HG:=Lib.hid (HG.out.below hb)
        replace HK:=Lib.hid (HK.out.below hb)
        replace HT:=Lib.hid (HT.out.below hb)
        clear hb
        refine⟨_,rfl,HG.out,?_⟩
        simp only[Act.put,Reg.s0,Reg.s1,Reg.s2]
        refine Reg.both_all [12] (by kernel_rfl) (by simp) ?_
        intro j0 hj0
        obtain rfl:j0=12:=by simpa using hj0
        clear hj0
        right
        refine⟨_,_,_,_,_,_,17,#[.pointer (some ⟨p.k,0,none⟩),.agg csQ,.int .i64 5,.agg cK],rfl,by rfl,(by go_simp<;>first | rfl | exact⟨rfl,rfl⟩),?_⟩
        refine Calls.mono (CAS.out _ HK.out.st) ?_
        rintro e waf84 ⟨cs,es2,rfl,hre,hk⟩
        have HCS:=Lib.hid (re_cells hre)
        have hnb:=hk.blk HG.out HOG.out.no
        replace HOG:=Lib.hid (hk.off HOG.out HG.out.lt)
        replace HG:=Lib.hid hnb
        clear hnb
        have HRE:=Lib.hid (re_old hre HK.out.size HT.out.lt)
        have hnb:=hk.blk HT.out HOT.out.no
        replace HOT:=Lib.hid (hk.off HOT.out HT.out.lt)
        replace HT:=Lib.hid hnb
        clear hnb
        replace HK:=Lib.hid (HK.out.trans hk)
        clear hk hre
        refine⟨_,rfl,HG.out,?_⟩
        simp only[Act.put,Reg.s0,Reg.s1,Reg.s2]
        refine Reg.tk 13 (v:=?vf85) rfl HG.out (fun w' hS=>?hf85) ?rf85
        case hf85=>go_simp<;>rfl
        simp only[Act.put,Reg.s0,Reg.s1,Reg.s2]
        refine Reg.tk 14 (v:=?vf86) rfl HG.out (fun w' hS=>?hf86) ?rf86
        case hf86=>go_simp<;>rfl
        simp only[Act.put,Reg.s0,Reg.s1,Reg.s2]
        refine Reg.tk 15 (v:=?vf87) rfl HG.out (fun w' hS=>?hf87) ?rf87
        case hf87=>go_simp<;>rfl
        simp only[Act.put,Reg.s0,Reg.s1,Reg.s2]
        refine Reg.any_store_whole 17 rfl (by kernel_rfl) (by rfl) PT 38 _ cs HT.out (by rfl) (by rfl) (by rw[HCS.out.1];rfl) (by rw[HCS.out.1];exact re_info) HCS.out.2 ?_
        intro Vf88 hV hg
        have HGT:=Lib.hid (got_mk HK.out HRE.out HOT.out HPT.out hV hg)
        replace HG:=Lib.hid (HG.out.grown hg (fun e=>by injection e with e;exact HNEHG.out e.symm))
        clear hV hg HT HK HRE HOT HPT HCS
        refine⟨HG.out,?_⟩
        simp only[Act.put,Reg.s0,Reg.s1,Reg.s2]
        refine Reg.tk 18 (v:=?vf89) rfl HG.out (fun w' hS=>?hf89) ?rf89
        case hf89=>go_simp<;>rfl
        simp only[Act.put,Reg.s0,Reg.s1,Reg.s2]
        refine wpAnyH_done (by kernel_rfl) ?_ _
        go_wp2_with fail
        go_meet
        exact⟨PT,_,_,rfl,rfl,HGT.out⟩
      ·left
       have hb:Below wlf64.heap.size wlf64 (wlf64.alloc (.cells reZ 38)):=(Below.refl _ _).alloc (Nat.le_refl _) _
       have hnb:=Blk.new wlf64 38 reZ
       have HNEHG:=Lib.hid (show g≠wlf64.heap.size from Nat.ne_of_lt HG.out.lt)
       have HPT:=Lib.hid (show wx.heap.size≤wlf64.heap.size from HK.out.size)
       have HOT:=Lib.hid (HK.out.st.offs (Nat.le_refl wlf64.heap.size))
       refine⟨_,_,_,_,_,_,.pointer (some ⟨wlf64.heap.size,0,none⟩),wlf64.alloc (.cells reZ 38),rfl,by rfl,(by go_simp<;>rfl),(HG.out.below hb),?_⟩
       simp only[Act.put,Reg.s0,Reg.s1,Reg.s2]
       obtain⟨wtf90,ewtf90⟩:∃z,z=wlf64.alloc (.cells reZ 38):=⟨_,rfl⟩
       rw[←ewtf90] at hb hnb⊢
       clear ewtf90
       have HT:=Lib.hid hnb
       clear hnb
       replace HG:=Lib.hid (HG.out.below hb)
       replace HK:=Lib.hid (HK.out.below hb)
       clear hb
       obtain⟨PT,ePT⟩:∃z,z=wlf64.heap.size:=⟨_,rfl⟩
       rw[←ePT] at HT HPT HOT HNEHG⊢
       clear ePT
       refine Reg.both_all [5] (by kernel_rfl) (by simp) ?_
       intro j0 hj0
       obtain rfl:j0=5:=by simpa using hj0
       clear hj0
       right
       refine⟨_,_,_,_,_,_,28,#[.string ⟨rA.toArray⟩,.string ⟨rA.toArray⟩],rfl,by rfl,(by go_simp<;>first | rfl | exact⟨rfl,rfl⟩),?_⟩
       refine Calls.mono (LAA.out _) ?_
       rintro e wlf91 ⟨rfl,hb⟩
       replace HG:=Lib.hid (HG.out.below hb)
       replace HK:=Lib.hid (HK.out.below hb)
       replace HT:=Lib.hid (HT.out.below hb)
       clear hb
       refine⟨_,rfl,HG.out,?_⟩
       simp only[Act.put,Reg.s0,Reg.s1,Reg.s2]
       refine Reg.tk 8 (v:=.agg csQ) rfl HG.out (fun w' hS=>?hf92) ?rf92
       case hf92=>exact Rg.exec_build (by simp only[List.map_toArray,List.map_cons,List.map_nil];rfl) HBQ.out
       simp only[Act.put,Reg.s0,Reg.s1,Reg.s2]
       refine Reg.both_all [11] (by kernel_rfl) (by simp) ?_
       intro j0 hj0
       obtain rfl:j0=11:=by simpa using hj0
       clear hj0
       right
       refine⟨_,_,_,_,_,_,18,#[.int .u8 nK],rfl,by rfl,(by go_simp<;>first | rfl | exact⟨rfl,rfl⟩),?_⟩
       refine Calls.mono (CK.out _) ?_
       rintro e wlf93 ⟨rfl,hb⟩
       replace HG:=Lib.hid (HG.out.below hb)
       replace HK:=Lib.hid (HK.out.below hb)
       replace HT:=Lib.hid (HT.out.below hb)
       clear hb
       refine⟨_,rfl,HG.out,?_⟩
       simp only[Act.put,Reg.s0,Reg.s1,Reg.s2]
       refine Reg.both_all [12] (by kernel_rfl) (by simp) ?_
       intro j0 hj0
       obtain rfl:j0=12:=by simpa using hj0
       clear hj0
       right
       refine⟨_,_,_,_,_,_,17,#[.pointer (some ⟨p.k,0,none⟩),.agg csQ,.int .i64 5,.agg cK],rfl,by rfl,(by go_simp<;>first | rfl | exact⟨rfl,rfl⟩),?_⟩
       refine Calls.mono (CAS.out _ HK.out.st) ?_
       rintro e waf94 ⟨cs,es2,rfl,hre,hk⟩
       have HCS:=Lib.hid (re_cells hre)
       have hnb:=hk.blk HG.out HOG.out.no
       replace HOG:=Lib.hid (hk.off HOG.out HG.out.lt)
       replace HG:=Lib.hid hnb
       clear hnb
       have HRE:=Lib.hid (re_old hre HK.out.size HT.out.lt)
       have hnb:=hk.blk HT.out HOT.out.no
       replace HOT:=Lib.hid (hk.off HOT.out HT.out.lt)
       replace HT:=Lib.hid hnb
       clear hnb
       replace HK:=Lib.hid (HK.out.trans hk)
       clear hk hre
       refine⟨_,rfl,HG.out,?_⟩
       simp only[Act.put,Reg.s0,Reg.s1,Reg.s2]
       refine Reg.tk 13 (v:=?vf95) rfl HG.out (fun w' hS=>?hf95) ?rf95
       case hf95=>go_simp<;>rfl
       simp only[Act.put,Reg.s0,Reg.s1,Reg.s2]
       refine Reg.tk 14 (v:=?vf96) rfl HG.out (fun w' hS=>?hf96) ?rf96
       case hf96=>go_simp<;>rfl
       simp only[Act.put,Reg.s0,Reg.s1,Reg.s2]
       refine Reg.tk 15 (v:=?vf97) rfl HG.out (fun w' hS=>?hf97) ?rf97
       case hf97=>go_simp<;>rfl
       simp only[Act.put,Reg.s0,Reg.s1,Reg.s2]
       refine Reg.any_store_whole 17 rfl (by kernel_rfl) (by rfl) PT 38 _ cs HT.out (by rfl) (by rfl) (by rw[HCS.out.1];rfl) (by rw[HCS.out.1];exact re_info) HCS.out.2 ?_
       intro Vf98 hV hg
       have HGT:=Lib.hid (got_mk HK.out HRE.out HOT.out HPT.out hV hg)
       replace HG:=Lib.hid (HG.out.grown hg (fun e=>by injection e with e;exact HNEHG.out e.symm))
       clear hV hg HT HK HRE HOT HPT HCS
       refine⟨HG.out,?_⟩
       simp only[Act.put,Reg.s0,Reg.s1,Reg.s2]
       refine Reg.tk 18 (v:=?vf99) rfl HG.out (fun w' hS=>?hf99) ?rf99
       case hf99=>go_simp<;>rfl
       simp only[Act.put,Reg.s0,Reg.s1,Reg.s2]
       refine wpAnyH_done (by kernel_rfl) ?_ _
       go_wp2_with fail
       go_meet
       exact⟨PT,_,_,rfl,rfl,HGT.out⟩
     ·left
      have hb:Below wx.drew.heap.size wx.drew (wx.drew.alloc (.cells reZ 38)):=(Below.refl _ _).alloc (Nat.le_refl _) _
      have hnb:=Blk.new wx.drew 38 reZ
      have HNEHG:=Lib.hid (show g≠wx.drew.heap.size from Nat.ne_of_lt HG.out.lt)
      have HPT:=Lib.hid (show wx.heap.size≤wx.drew.heap.size from HK.out.size)
      have HOT:=Lib.hid (HK.out.st.offs (Nat.le_refl wx.drew.heap.size))
      refine⟨_,_,_,_,_,_,.pointer (some ⟨wx.drew.heap.size,0,none⟩),wx.drew.alloc (.cells reZ 38),rfl,by rfl,(by go_simp<;>rfl),(HG.out.below hb),?_⟩
      simp only[Act.put,Reg.s0,Reg.s1,Reg.s2]
      obtain⟨wtf100,ewtf100⟩:∃z,z=wx.drew.alloc (.cells reZ 38):=⟨_,rfl⟩
      rw[←ewtf100] at hb hnb⊢
      clear ewtf100
      have HT:=Lib.hid hnb
      clear hnb
      replace HG:=Lib.hid (HG.out.below hb)
      replace HK:=Lib.hid (HK.out.below hb)
      clear hb
      obtain⟨PT,ePT⟩:∃z,z=wx.drew.heap.size:=⟨_,rfl⟩
      rw[←ePT] at HT HPT HOT HNEHG⊢
      clear ePT
      refine Reg.both_all [4] (by kernel_rfl) (by simp) ?_
      intro j0 hj0
      obtain rfl:j0=4:=by simpa using hj0
      clear hj0
      right
      refine⟨_,_,_,_,_,_,27,#[],rfl,by rfl,(by go_simp<;>first | rfl | exact⟨rfl,rfl⟩),?_⟩
      refine Calls.mono (LC.out _) ?_
      rintro e wlf101 ⟨rfl,hb⟩
      replace HG:=Lib.hid (HG.out.below hb)
      replace HK:=Lib.hid (HK.out.below hb)
      replace HT:=Lib.hid (HT.out.below hb)
      clear hb
      refine⟨_,rfl,HG.out,?_⟩
      simp only[Act.put,Reg.s0,Reg.s1,Reg.s2]
      refine Reg.both_all [5] (by kernel_rfl) (by simp) ?_
      intro j0 hj0
      obtain rfl:j0=5:=by simpa using hj0
      clear hj0
      right
      refine⟨_,_,_,_,_,_,28,#[.string ⟨rA.toArray⟩,.string ⟨rA.toArray⟩],rfl,by rfl,(by go_simp<;>first | rfl | exact⟨rfl,rfl⟩),?_⟩
      refine Calls.mono (LAA.out _) ?_
      rintro e wlf102 ⟨rfl,hb⟩
      replace HG:=Lib.hid (HG.out.below hb)
      replace HK:=Lib.hid (HK.out.below hb)
      replace HT:=Lib.hid (HT.out.below hb)
      clear hb
      refine⟨_,rfl,HG.out,?_⟩
      simp only[Act.put,Reg.s0,Reg.s1,Reg.s2]
      refine Reg.tk 8 (v:=.agg csQ) rfl HG.out (fun w' hS=>?hf103) ?rf103
      case hf103=>exact Rg.exec_build (by simp only[List.map_toArray,List.map_cons,List.map_nil];rfl) HBQ.out
      simp only[Act.put,Reg.s0,Reg.s1,Reg.s2]
      refine Reg.both_all [11] (by kernel_rfl) (by simp) ?_
      intro j0 hj0
      obtain rfl:j0=11:=by simpa using hj0
      clear hj0
      right
      refine⟨_,_,_,_,_,_,18,#[.int .u8 nK],rfl,by rfl,(by go_simp<;>first | rfl | exact⟨rfl,rfl⟩),?_⟩
      refine Calls.mono (CK.out _) ?_
      rintro e wlf104 ⟨rfl,hb⟩
      replace HG:=Lib.hid (HG.out.below hb)
      replace HK:=Lib.hid (HK.out.below hb)
      replace HT:=Lib.hid (HT.out.below hb)
      clear hb
      refine⟨_,rfl,HG.out,?_⟩
      simp only[Act.put,Reg.s0,Reg.s1,Reg.s2]
      refine Reg.both_all [12] (by kernel_rfl) (by simp) ?_
      intro j0 hj0
      obtain rfl:j0=12:=by simpa using hj0
      clear hj0
      right
      refine⟨_,_,_,_,_,_,17,#[.pointer (some ⟨p.k,0,none⟩),.agg csQ,.int .i64 5,.agg cK],rfl,by rfl,(by go_simp<;>first | rfl | exact⟨rfl,rfl⟩),?_⟩
      refine Calls.mono (CAS.out _ HK.out.st) ?_
      rintro e waf105 ⟨cs,es2,rfl,hre,hk⟩
      have HCS:=Lib.hid (re_cells hre)
      have hnb:=hk.blk HG.out HOG.out.no
      replace HOG:=Lib.hid (hk.off HOG.out HG.out.lt)
      replace HG:=Lib.hid hnb
      clear hnb
      have HRE:=Lib.hid (re_old hre HK.out.size HT.out.lt)
      have hnb:=hk.blk HT.out HOT.out.no
      replace HOT:=Lib.hid (hk.off HOT.out HT.out.lt)
      replace HT:=Lib.hid hnb
      clear hnb
      replace HK:=Lib.hid (HK.out.trans hk)
      clear hk hre
      refine⟨_,rfl,HG.out,?_⟩
      simp only[Act.put,Reg.s0,Reg.s1,Reg.s2]
      refine Reg.tk 13 (v:=?vf106) rfl HG.out (fun w' hS=>?hf106) ?rf106
      case hf106=>go_simp<;>rfl
      simp only[Act.put,Reg.s0,Reg.s1,Reg.s2]
      refine Reg.tk 14 (v:=?vf107) rfl HG.out (fun w' hS=>?hf107) ?rf107
      case hf107=>go_simp<;>rfl
      simp only[Act.put,Reg.s0,Reg.s1,Reg.s2]
      refine Reg.tk 15 (v:=?vf108) rfl HG.out (fun w' hS=>?hf108) ?rf108
      case hf108=>go_simp<;>rfl
      simp only[Act.put,Reg.s0,Reg.s1,Reg.s2]
      refine Reg.any_store_whole 17 rfl (by kernel_rfl) (by rfl) PT 38 _ cs HT.out (by rfl) (by rfl) (by rw[HCS.out.1];rfl) (by rw[HCS.out.1];exact re_info) HCS.out.2 ?_
      intro Vf109 hV hg
      have HGT:=Lib.hid (got_mk HK.out HRE.out HOT.out HPT.out hV hg)
      replace HG:=Lib.hid (HG.out.grown hg (fun e=>by injection e with e;exact HNEHG.out e.symm))
      clear hV hg HT HK HRE HOT HPT HCS
      refine⟨HG.out,?_⟩
      simp only[Act.put,Reg.s0,Reg.s1,Reg.s2]
      refine Reg.tk 18 (v:=?vf110) rfl HG.out (fun w' hS=>?hf110) ?rf110
      case hf110=>go_simp<;>rfl
      simp only[Act.put,Reg.s0,Reg.s1,Reg.s2]
      refine wpAnyH_done (by kernel_rfl) ?_ _
      go_wp2_with fail
      go_meet
      exact⟨PT,_,_,rfl,rfl,HGT.out⟩
    case rest=>
     obtain⟨PT,cs,es2,rfl,rfl,hgt⟩:=hcut
     replace HIT:=Lib.hid ((bts_its hgt.kn.eq).trans HIT.out)
     replace HB:=Lib.hid (HB.out.trans ((hgt.kn.base HS0.out).mono HWB.out))
     replace HG:=Lib.hid (hgt.kn.blk HG.out HOG.out.no)
     replace HOG:=Lib.hid (hgt.kn.off HOG.out HG0.out)
     obtain⟨ga2,oa2,eA,hga,kcb⟩:=(HR.out.below HB.out).at_ (i:=i) (u:=.bool false) (by rw[List.getElem?_map,HLB.out];rfl)
     injection eA with eA
     injection eA with eg eo
     subst eg eo
     have hz:=no_2 (kb_len (UInt8.ofNat i)) HI.out (show n≤100 by have:=HN.out;omega)
     rw[show noX n 100 (i:Int) (Kd.kb (UInt8.ofNat i))=rr from HER.out.symm] at hz
     obtain⟨hz1,⟨t1,hz2⟩,t2,hz3⟩:=hz
     have hst:KS wc B p es2 none (n+2) ((n+2) / 2) (4*(i+1)):=by have:=hgt.kn.st;rw[hz1] at this;rw[show(n+2) / 2=n / 2+1 by omega];exact this
     obtain⟨A1,d1,A2,d2,h5,h6,r1,r2⟩:=re_bs hgt.re
     have kr5:=(hgt.blk.cell 5).trans h5
     have kr6:=(hgt.blk.cell 6).trans h6
     rw[hz2] at r1
     rw[hz3] at r2
     have N1:=Lib.hid (nonce_8 (UInt8.ofNat (n+1)) t1 A1 rr.2.t.b.length d1 _ wc (by rw[hz2];simp) r1)
     have N2:=Lib.hid (nonce_8 (UInt8.ofNat (n+2)) t2 A2 rr.2.b.length d2 _ wc (by rw[hz3];simp) r2)
     rw[show(UInt8.ofNat (n+1)).toNat=n+1 by rw[UInt8.toNat_ofNat'];have:=HN.out;omega] at N1
     rw[show(UInt8.ofNat (n+2)).toNat=n+2 by rw[UInt8.toNat_ofNat'];have:=HN.out;omega] at N2
     obtain⟨L1,eL1⟩:∃z,z=rr.2.t.b.length:=⟨_,rfl⟩
     obtain⟨L2,eL2⟩:∃z,z=rr.2.b.length:=⟨_,rfl⟩
     rw[←eL1] at kr5 N1
     rw[←eL2] at kr6 N2
     have e10:(n:Int)≤60:=by have:=HN.out;omega
     rw[hz1]
     replace HKS:=Lib.hid hst
     clear hst hz1 hz2 hz3 hgt CAS HEQ HER HBQ HS0 HG0 h5 h6 r1 r2 eL1 eL2
     go_wp2_with (first
      |(go_at_call 40;refine Calls.mono N1.out ?_;rintro e wn ⟨rfl,hw⟩;clear N1;subst hw)
      |(go_at_call 40;refine Calls.mono N2.out ?_;rintro e wn ⟨rfl,hw⟩;clear N2;subst hw)
      |fail)
     go_roundw
     case rel=>exact⟨i+1,n+2,es2,by have:=HLT.out;omega,by go_num,by go_num,by rw[nonN_s HLB.out];have:=HNN.out;simp;omega,HKS.out,HIT.out,HG.out,HOG.out,HB.out⟩
     case measure=>simp [intOf];have:=HLT.out;omega
  ·have hie:i=m:=by omega
   have e1:¬((i:Int)<(m:Int)):=by omega
   have kg0:=HG.out.cell 0
   obtain⟨k,ek⟩:∃k,n=2*k:=⟨_,HNN.out⟩
   have hst:=HKS.out
   rw[show n / 2=k by omega] at hst
   have CI:=Lib.hid (iss_any hst.k (by have:=HN.out;omega))
   obtain⟨N,eN⟩:∃z:Int,z=(n:Int):=⟨_,rfl⟩
   obtain⟨K,eK⟩:∃z:Int,z=(k:Int):=⟨_,rfl⟩
   have e3:N.tdiv 2=K:=by rw[eN,eK,Int.tdiv_eq_ediv_of_nonneg (by omega)];omega
   have e5:0≤K:=by omega
   have e6:K≤30:=by have:=HN.out;omega
   have e7:0≤N:=by omega
   have e8:N≤60:=by have:=HN.out;omega
   rw[←eK] at CI
   rw[←eN]
   clear hst eN eK
   clear hi hie HKS HR ek
   go_wp2_with (first
    |(go_at_call 25;refine Calls.mono CI.out ?_;rintro e wi ⟨rfl,hw⟩;clear CI;subst hw)
    |(go_at_call 26;refine Calls.mono (KN.out _) ?_;rintro e wk ⟨rfl,hb⟩;clear KN;replace HB:=Lib.hid (HB.out.trans (hb.mono HB.out.size));clear hb)
    |fail)
   go_ret
   exact⟨rfl,HB.out⟩
theorem non (l:List Bool) (A:Option Addr) (c:Nat) (w:World) (hr:Rd w w.heap.size A (l.map Value.bool)):Calls Tryz.prog 11 #[.slice A l.length c] w fun e w'=>e = .returned (.bool true)∧Below w.heap.size w w':=by
 by_cases h:30<l.length
 ·exact non_x l A _ c w h
 ·exact non_in l A _ c w (by omega) rfl hr
end Go.Proofs.YtfcjeebnkigeaaaGreat.Kd
end
