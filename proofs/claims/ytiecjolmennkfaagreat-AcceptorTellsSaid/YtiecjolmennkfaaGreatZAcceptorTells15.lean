import Derived.Test.YtiecjolmennkfaaGreatZAcceptorTells14
set_option maxHeartbeats 25600000
set_option maxRecDepth 100000
set_option linter.unusedVariables false
set_option linter.unusedSimpArgs false
namespace Go.Proofs.YtiecjolmennkfaaGreat
namespace Mc
open Go.RowKit Af DerP DerC Ms
theorem bc {pa M:Array Value} {x y:As} (h:AsV pa x) (g:AsV M y) (w:World):(Op.equalIn 10000 78 (.agg pa) (.agg M)).run Tryz.prog w=.ok (decide (x=y)) w:=by rw[h,g];exact dX x y w
theorem bd {pa M:Array Value} {x y:Fa} (h:FaV pa x) (g:FaV M y) (w:World):(Op.equalIn 10000 84 (.agg pa) (.agg M)).run Tryz.prog w=.ok (decide (x=y)) w:=by rw[h,g];exact dW x y w
theorem UZ {pa M:Array Value} {x y:Tg} (w:World) (h:TgV w w.heap.size pa x) (g:TgV w w.heap.size M y):Calls Tryz.prog 204 #[.agg pa,.agg M] w fun e w'=>e=.returned (.bool (decide (x=y)))/\Below w.heap.size w w':=by
 obtain⟨b,a,rfl,⟨A1,c1,rfl,_,O⟩,⟨A2,c2,rfl,_,Z⟩⟩:=h;obtain⟨b2,a2,rfl,⟨D1,d1,rfl,_,g1⟩,⟨D2,d2,rfl,_,g2⟩⟩:=g;exact OP x y A1 A2 D1 D2 c1 c2 d1 d2 w O g1 Z g2
theorem Va {pa M:Array Value} {x y:Re} (w:World) (h:ReV w w.heap.size pa x) (g:ReV w w.heap.size M y):Calls Tryz.prog 205 #[.agg pa,.agg M] w fun e w'=>e=.returned (.bool (decide (x=y)))/\Below w.heap.size w w':=by
 obtain⟨b,a,rfl,⟨A1,c1,rfl,_,O⟩,⟨A2,c2,rfl,_,Z⟩⟩:=h;obtain⟨b2,a2,rfl,⟨D1,d1,rfl,_,g1⟩,⟨D2,d2,rfl,_,g2⟩⟩:=g;exact OQ x y A1 A2 D1 D2 c1 c2 d1 d2 w O g1 Z g2
theorem Vb {pa M:Array Value} {x y:Ap} (w:World) (h:ApV w w.heap.size pa x) (g:ApV w w.heap.size M y):Calls Tryz.prog 206 #[.agg pa,.agg M] w fun e w'=>e=.returned (.bool (decide (x=y)))/\Below w.heap.size w w':=by
 obtain⟨b,a,rfl,⟨A1,c1,rfl,_,O⟩,⟨A2,c2,rfl,_,Z⟩⟩:=h;obtain⟨b2,a2,rfl,⟨D1,d1,rfl,_,g1⟩,⟨D2,d2,rfl,_,g2⟩⟩:=g;exact OR x y A1 A2 D1 D2 c1 c2 d1 d2 w O g1 Z g2
theorem mg_eq (m o:Mg):decide (m=o)=(decide (m.k=o.k)&&(decide (m.aq=o.aq)&&(decide (m.tg=o.tg)&&(decide (m.re=o.re)&&(decide (m.ap=o.ap)&&decide (m.fa=o.fa)))))):=by
 obtain⟨k,a,t,r,p,f⟩:=m;obtain⟨k2,M,t2,Z,O,f2⟩:=o;simp [Bool.decide_and]
theorem Vc (cs ds:Array Value) (m o:Mg) (w:World) (h:MgV w w.heap.size cs m) (g:MgV w w.heap.size ds o):Calls Tryz.prog 157 #[.agg cs,.agg ds] w fun e w'=>e=.returned (.bool (decide (m=o)))/\Below w.heap.size w w':=by
 obtain⟨pa,pt,pr,pp,pf,hc,hp⟩:=h;obtain⟨qa,qt,qr,qp,qf,hd,hq⟩:=g;obtain⟨W,eW⟩:=Ak ((w.alloc (.cells cs 86)).alloc (.cells ds 86));have HK:=I (show Blk W w.heap.size 86 (mgA m.k pa pt pr pp pf) by rw[eW,<-hc];exact(Blk.new _ _ _).alloc _);have av:=Blk.new (w.alloc (.cells cs 86)) 86 ds;rw[show(w.alloc (.cells cs 86)).heap.size=w.heap.size+1 by simp,<-eW,hd] at av;have HL:=I av;clear av;have HB:=I (show Below w.heap.size w W by rw[eW];exact(Ah.alloc Ag _).alloc (by simp) _);have HP:=I hp;have HQ:=I hq;have Z:=I (hp.at_ HK.o);have O:=I (hq.at_ HL.o);have k0:=Z.o.k;have k1:=O.o.k;have Tt:=I (fun w1 (h:Below w.heap.size w w1)=>UZ w1 ((hp.t.keep h).more h.size) ((hq.t.keep h).more h.size));have Tr:=I (fun w1 (h:Below w.heap.size w w1)=>Va w1 ((hp.r.keep h).more h.size) ((hq.r.keep h).more h.size));have Tp:=I (fun w1 (h:Below w.heap.size w w1)=>Vb w1 ((hp.p.keep h).more h.size) ((hq.p.keep h).more h.size));have EA:=I (fun w1=>bc hp.a hq.a w1);have EF:=I (fun w1=>bd hp.f hq.f w1);have ME:=I (mg_eq m o);clear hc hd hp hq;cases ek:decide (m.k=o.k) with
 |false=>
  have tk:(m.k==o.k)=false:=by simpa using ek
  have E:=I (show decide (m=o)=false by rw[ME.o,ek];rfl);clear ek;go_enter Tryz.func157,Tryz.ntmps157
  go_upto_region 1 with fail
  rw[<-eW];clear eW
  go_wp2
  go_ret;exact⟨by rw[E.o];rfl,HB.o⟩
 |true=>
  have tk:(m.k==o.k)=true:=by simpa using ek
  cases ea:decide (m.aq=o.aq) with
  |false=>
   rw[ea] at EA;have fa:=EA.o;have E:=I (show decide (m=o)=false by rw[ME.o,ek,ea];rfl);clear ek ea;go_enter Tryz.func157,Tryz.ntmps157
   go_upto_region 1 with fail
   rw[<-eW];clear eW
   go_wp2_with (first
    |(refine AF (by rfl) 78 (.tmp 11) (by rfl) w.heap.size 1 (by rfl) pa _ Z.o.a Tryz.underlying78 (by rfl) (by rw[HP.o.a.size];exact Cs) ?_)
    |(refine AF (by rfl) 78 (.tmp 13) (by rfl) (w.heap.size+1) 1 (by rfl) qa _ O.o.a Tryz.underlying78 (by rfl) (by rw[HQ.o.a.size];exact Cs) ?_)
    |fail)
   go_ret;exact⟨by rw[E.o];rfl,HB.o⟩
  |true=>
   rw[ea] at EA;have fa:=EA.o;cases et:decide (m.tg=o.tg) with
   |false=>
    rw[et] at Tt;have E:=I (show decide (m=o)=false by rw[ME.o,ek,ea,et];rfl);clear ek ea et;go_enter Tryz.func157,Tryz.ntmps157
    go_upto_region 1 with fail
    rw[<-eW];clear eW
    go_wp2_with (first
     |(refine AF (by rfl) 78 (.tmp 11) (by rfl) w.heap.size 1 (by rfl) pa _ Z.o.a Tryz.underlying78 (by rfl) (by rw[HP.o.a.size];exact Cs) ?_)
     |(refine AF (by rfl) 78 (.tmp 13) (by rfl) (w.heap.size+1) 1 (by rfl) qa _ O.o.a Tryz.underlying78 (by rfl) (by rw[HQ.o.a.size];exact Cs) ?_)
     |(refine AF (by rfl) 80 (.tmp 18) (by rfl) w.heap.size 7 (by rfl) pt _ Z.o.t Tryz.underlying80 (by rfl) (by rw[HP.o.t.size];exact Df) ?_)
     |(refine AF (by rfl) 80 (.tmp 20) (by rfl) (w.heap.size+1) 7 (by rfl) qt _ O.o.t Tryz.underlying80 (by rfl) (by rw[HQ.o.t.size];exact Df) ?_)
     |(go_at_call 204;refine Aj (Tt.o _ HB.o) ?_;rintro wt M;clear Z O;replace HK:=I (HK.o.below M);replace HL:=I (HL.o.below M);replace HB:=HB.t M;clear M Tt;have Z:=I (HP.o.at_ HK.o);have O:=I (HQ.o.at_ HL.o))
     |fail)
    go_ret;exact⟨by rw[E.o];rfl,HB.o⟩
   |true=>
    rw[et] at Tt;cases er:decide (m.re=o.re) with
    |false=>
     rw[er] at Tr;have E:=I (show decide (m=o)=false by rw[ME.o,ek,ea,et,er];rfl);clear ek ea et er;go_enter Tryz.func157,Tryz.ntmps157
     go_upto_region 1 with fail
     rw[<-eW];clear eW
     go_wp2_with (first
      |(refine AF (by rfl) 78 (.tmp 11) (by rfl) w.heap.size 1 (by rfl) pa _ Z.o.a Tryz.underlying78 (by rfl) (by rw[HP.o.a.size];exact Cs) ?_)
      |(refine AF (by rfl) 78 (.tmp 13) (by rfl) (w.heap.size+1) 1 (by rfl) qa _ O.o.a Tryz.underlying78 (by rfl) (by rw[HQ.o.a.size];exact Cs) ?_)
      |(refine AF (by rfl) 80 (.tmp 18) (by rfl) w.heap.size 7 (by rfl) pt _ Z.o.t Tryz.underlying80 (by rfl) (by rw[HP.o.t.size];exact Df) ?_)
      |(refine AF (by rfl) 80 (.tmp 20) (by rfl) (w.heap.size+1) 7 (by rfl) qt _ O.o.t Tryz.underlying80 (by rfl) (by rw[HQ.o.t.size];exact Df) ?_)
      |(go_at_call 204;refine Aj (Tt.o _ HB.o) ?_;rintro wt M;clear Z O;replace HK:=I (HK.o.below M);replace HL:=I (HL.o.below M);replace HB:=HB.t M;clear M Tt;have Z:=I (HP.o.at_ HK.o);have O:=I (HQ.o.at_ HL.o))
      |(refine AF (by rfl) 82 (.tmp 25) (by rfl) w.heap.size 16 (by rfl) pr _ Z.o.r Tryz.underlying82 (by rfl) (by rw[HP.o.r.size];exact DF) ?_)
      |(refine AF (by rfl) 82 (.tmp 27) (by rfl) (w.heap.size+1) 16 (by rfl) qr _ O.o.r Tryz.underlying82 (by rfl) (by rw[HQ.o.r.size];exact DF) ?_)
      |(go_at_call 205;refine Aj (Tr.o _ HB.o) ?_;rintro wr M;clear Z O;replace HK:=I (HK.o.below M);replace HL:=I (HL.o.below M);replace HB:=HB.t M;clear M Tr;have Z:=I (HP.o.at_ HK.o);have O:=I (HQ.o.at_ HL.o))
      |fail)
     go_ret;exact⟨by rw[E.o];rfl,HB.o⟩
    |true=>
     rw[er] at Tr;cases ep:decide (m.ap=o.ap) with
     |false=>
      rw[ep] at Tp;have E:=I (show decide (m=o)=false by rw[ME.o,ek,ea,et,er,ep];rfl);clear ek ea et er ep;go_enter Tryz.func157,Tryz.ntmps157
      go_upto_region 1 with fail
      rw[<-eW];clear eW
      go_wp2_with (first
       |(refine AF (by rfl) 78 (.tmp 11) (by rfl) w.heap.size 1 (by rfl) pa _ Z.o.a Tryz.underlying78 (by rfl) (by rw[HP.o.a.size];exact Cs) ?_)
       |(refine AF (by rfl) 78 (.tmp 13) (by rfl) (w.heap.size+1) 1 (by rfl) qa _ O.o.a Tryz.underlying78 (by rfl) (by rw[HQ.o.a.size];exact Cs) ?_)
       |(refine AF (by rfl) 80 (.tmp 18) (by rfl) w.heap.size 7 (by rfl) pt _ Z.o.t Tryz.underlying80 (by rfl) (by rw[HP.o.t.size];exact Df) ?_)
       |(refine AF (by rfl) 80 (.tmp 20) (by rfl) (w.heap.size+1) 7 (by rfl) qt _ O.o.t Tryz.underlying80 (by rfl) (by rw[HQ.o.t.size];exact Df) ?_)
       |(go_at_call 204;refine Aj (Tt.o _ HB.o) ?_;rintro wt M;clear Z O;replace HK:=I (HK.o.below M);replace HL:=I (HL.o.below M);replace HB:=HB.t M;clear M Tt;have Z:=I (HP.o.at_ HK.o);have O:=I (HQ.o.at_ HL.o))
       |(refine AF (by rfl) 82 (.tmp 25) (by rfl) w.heap.size 16 (by rfl) pr _ Z.o.r Tryz.underlying82 (by rfl) (by rw[HP.o.r.size];exact DF) ?_)
       |(refine AF (by rfl) 82 (.tmp 27) (by rfl) (w.heap.size+1) 16 (by rfl) qr _ O.o.r Tryz.underlying82 (by rfl) (by rw[HQ.o.r.size];exact DF) ?_)
       |(go_at_call 205;refine Aj (Tr.o _ HB.o) ?_;rintro wr M;clear Z O;replace HK:=I (HK.o.below M);replace HL:=I (HL.o.below M);replace HB:=HB.t M;clear M Tr;have Z:=I (HP.o.at_ HK.o);have O:=I (HQ.o.at_ HL.o))
       |(refine AF (by rfl) 76 (.tmp 32) (by rfl) w.heap.size 23 (by rfl) pp _ Z.o.p Tryz.underlying76 (by rfl) (by rw[HP.o.p.size];exact Ei) ?_)
       |(refine AF (by rfl) 76 (.tmp 34) (by rfl) (w.heap.size+1) 23 (by rfl) qp _ O.o.p Tryz.underlying76 (by rfl) (by rw[HQ.o.p.size];exact Ei) ?_)
       |(go_at_call 206;refine Aj (Tp.o _ HB.o) ?_;rintro wp M;clear Z O;replace HK:=I (HK.o.below M);replace HL:=I (HL.o.below M);replace HB:=HB.t M;clear M Tp;have Z:=I (HP.o.at_ HK.o);have O:=I (HQ.o.at_ HL.o))
       |fail)
      go_ret;exact⟨by rw[E.o];rfl,HB.o⟩
     |true=>
      rw[ep] at Tp;cases ef:decide (m.fa=o.fa) with
      |false=>
       rw[ef] at EF;have ff:=EF.o;have E:=I (show decide (m=o)=false by rw[ME.o,ek,ea,et,er,ep,ef];rfl);clear ek ea et er ep ef;go_enter Tryz.func157,Tryz.ntmps157
       go_upto_region 1 with fail
       rw[<-eW];clear eW
       go_wp2_with (first
        |(refine AF (by rfl) 78 (.tmp 11) (by rfl) w.heap.size 1 (by rfl) pa _ Z.o.a Tryz.underlying78 (by rfl) (by rw[HP.o.a.size];exact Cs) ?_)
        |(refine AF (by rfl) 78 (.tmp 13) (by rfl) (w.heap.size+1) 1 (by rfl) qa _ O.o.a Tryz.underlying78 (by rfl) (by rw[HQ.o.a.size];exact Cs) ?_)
        |(refine AF (by rfl) 80 (.tmp 18) (by rfl) w.heap.size 7 (by rfl) pt _ Z.o.t Tryz.underlying80 (by rfl) (by rw[HP.o.t.size];exact Df) ?_)
        |(refine AF (by rfl) 80 (.tmp 20) (by rfl) (w.heap.size+1) 7 (by rfl) qt _ O.o.t Tryz.underlying80 (by rfl) (by rw[HQ.o.t.size];exact Df) ?_)
        |(go_at_call 204;refine Aj (Tt.o _ HB.o) ?_;rintro wt M;clear Z O;replace HK:=I (HK.o.below M);replace HL:=I (HL.o.below M);replace HB:=HB.t M;clear M Tt;have Z:=I (HP.o.at_ HK.o);have O:=I (HQ.o.at_ HL.o))
        |(refine AF (by rfl) 82 (.tmp 25) (by rfl) w.heap.size 16 (by rfl) pr _ Z.o.r Tryz.underlying82 (by rfl) (by rw[HP.o.r.size];exact DF) ?_)
        |(refine AF (by rfl) 82 (.tmp 27) (by rfl) (w.heap.size+1) 16 (by rfl) qr _ O.o.r Tryz.underlying82 (by rfl) (by rw[HQ.o.r.size];exact DF) ?_)
        |(go_at_call 205;refine Aj (Tr.o _ HB.o) ?_;rintro wr M;clear Z O;replace HK:=I (HK.o.below M);replace HL:=I (HL.o.below M);replace HB:=HB.t M;clear M Tr;have Z:=I (HP.o.at_ HK.o);have O:=I (HQ.o.at_ HL.o))
        |(refine AF (by rfl) 76 (.tmp 32) (by rfl) w.heap.size 23 (by rfl) pp _ Z.o.p Tryz.underlying76 (by rfl) (by rw[HP.o.p.size];exact Ei) ?_)
        |(refine AF (by rfl) 76 (.tmp 34) (by rfl) (w.heap.size+1) 23 (by rfl) qp _ O.o.p Tryz.underlying76 (by rfl) (by rw[HQ.o.p.size];exact Ei) ?_)
        |(go_at_call 206;refine Aj (Tp.o _ HB.o) ?_;rintro wp M;clear Z O;replace HK:=I (HK.o.below M);replace HL:=I (HL.o.below M);replace HB:=HB.t M;clear M Tp;have Z:=I (HP.o.at_ HK.o);have O:=I (HQ.o.at_ HL.o))
        |(refine AF (by rfl) 84 (.tmp 39) (by rfl) w.heap.size 28 (by rfl) pf _ Z.o.f Tryz.underlying84 (by rfl) (by rw[HP.o.f.size];exact FO) ?_)
        |(refine AF (by rfl) 84 (.tmp 41) (by rfl) (w.heap.size+1) 28 (by rfl) qf _ O.o.f Tryz.underlying84 (by rfl) (by rw[HQ.o.f.size];exact FO) ?_)
        |fail)
       go_ret;exact⟨by rw[E.o];rfl,HB.o⟩
      |true=>
       rw[ef] at EF;have ff:=EF.o;have E:=I (show decide (m=o)=true by rw[ME.o,ek,ea,et,er,ep,ef];rfl);clear ek ea et er ep ef;go_enter Tryz.func157,Tryz.ntmps157
       go_upto_region 1 with fail
       rw[<-eW];clear eW
       go_wp2_with (first
        |(refine AF (by rfl) 78 (.tmp 11) (by rfl) w.heap.size 1 (by rfl) pa _ Z.o.a Tryz.underlying78 (by rfl) (by rw[HP.o.a.size];exact Cs) ?_)
        |(refine AF (by rfl) 78 (.tmp 13) (by rfl) (w.heap.size+1) 1 (by rfl) qa _ O.o.a Tryz.underlying78 (by rfl) (by rw[HQ.o.a.size];exact Cs) ?_)
        |(refine AF (by rfl) 80 (.tmp 18) (by rfl) w.heap.size 7 (by rfl) pt _ Z.o.t Tryz.underlying80 (by rfl) (by rw[HP.o.t.size];exact Df) ?_)
        |(refine AF (by rfl) 80 (.tmp 20) (by rfl) (w.heap.size+1) 7 (by rfl) qt _ O.o.t Tryz.underlying80 (by rfl) (by rw[HQ.o.t.size];exact Df) ?_)
        |(go_at_call 204;refine Aj (Tt.o _ HB.o) ?_;rintro wt M;clear Z O;replace HK:=I (HK.o.below M);replace HL:=I (HL.o.below M);replace HB:=HB.t M;clear M Tt;have Z:=I (HP.o.at_ HK.o);have O:=I (HQ.o.at_ HL.o))
        |(refine AF (by rfl) 82 (.tmp 25) (by rfl) w.heap.size 16 (by rfl) pr _ Z.o.r Tryz.underlying82 (by rfl) (by rw[HP.o.r.size];exact DF) ?_)
        |(refine AF (by rfl) 82 (.tmp 27) (by rfl) (w.heap.size+1) 16 (by rfl) qr _ O.o.r Tryz.underlying82 (by rfl) (by rw[HQ.o.r.size];exact DF) ?_)
        |(go_at_call 205;refine Aj (Tr.o _ HB.o) ?_;rintro wr M;clear Z O;replace HK:=I (HK.o.below M);replace HL:=I (HL.o.below M);replace HB:=HB.t M;clear M Tr;have Z:=I (HP.o.at_ HK.o);have O:=I (HQ.o.at_ HL.o))
        |(refine AF (by rfl) 76 (.tmp 32) (by rfl) w.heap.size 23 (by rfl) pp _ Z.o.p Tryz.underlying76 (by rfl) (by rw[HP.o.p.size];exact Ei) ?_)
        |(refine AF (by rfl) 76 (.tmp 34) (by rfl) (w.heap.size+1) 23 (by rfl) qp _ O.o.p Tryz.underlying76 (by rfl) (by rw[HQ.o.p.size];exact Ei) ?_)
        |(go_at_call 206;refine Aj (Tp.o _ HB.o) ?_;rintro wp M;clear Z O;replace HK:=I (HK.o.below M);replace HL:=I (HL.o.below M);replace HB:=HB.t M;clear M Tp;have Z:=I (HP.o.at_ HK.o);have O:=I (HQ.o.at_ HL.o))
        |(refine AF (by rfl) 84 (.tmp 39) (by rfl) w.heap.size 28 (by rfl) pf _ Z.o.f Tryz.underlying84 (by rfl) (by rw[HP.o.f.size];exact FO) ?_)
        |(refine AF (by rfl) 84 (.tmp 41) (by rfl) (w.heap.size+1) 28 (by rfl) qf _ O.o.f Tryz.underlying84 (by rfl) (by rw[HQ.o.f.size];exact FO) ?_)
        |fail)
       go_ret;exact⟨by rw[E.o];rfl,HB.o⟩
open DerR
theorem dZ {pa:Array Value} {x:As} (w:World) (h:AsV pa x) (s:pSm x.c/\pSm x.s):Calls Tryz.prog 159 #[.agg pa] w fun e w'=>e=.returned (.bool (asB x))/\Below w.heap.size w w':=by rw[h];exact Xr x w s.1 s.2
theorem ee {pa:Array Value} {x:Tg} {w0:World} {B:Nat} (w:World) (h:TgV w0 B pa x) (s:pSm x.t.s/\pSm x.s):Calls Tryz.prog 160 #[.agg pa] w fun e w'=>e=.returned (.bool (tgB x))/\Below w.heap.size w w':=by
 obtain⟨b,a,rfl,⟨A1,c1,rfl,_,M⟩,⟨A2,c2,rfl,_,O⟩⟩:=h;exact UM x A1 A2 c1 c2 w s.1 s.2
theorem eh {pa:Array Value} {x:Re} {w0:World} {B:Nat} (w:World) (h:ReV w0 B pa x) (s:pSm x.c/\pSm x.t.s):Calls Tryz.prog 161 #[.agg pa] w fun e w'=>e=.returned (.bool (reB x))/\Below w.heap.size w w':=by
 obtain⟨b,a,rfl,⟨A1,c1,rfl,_,M⟩,⟨A2,c2,rfl,_,O⟩⟩:=h;exact Xs x A1 A2 c1 c2 w s.2 s.1
theorem eD {pa:Array Value} {x:Ap} {w0:World} {B:Nat} (w:World) (h:ApV w0 B pa x) (s:pSm x.t.s):Calls Tryz.prog 162 #[.agg pa] w fun e w'=>e=.returned (.bool (apB x))/\Below w.heap.size w w':=by
 obtain⟨b,a,rfl,⟨A1,c1,rfl,_,M⟩,⟨A2,c2,rfl,_,O⟩⟩:=h;exact Xt x A1 A2 c1 c2 w s
theorem eG {pa:Array Value} {x:Fa} (w:World) (h:FaV pa x):Calls Tryz.prog 163 #[.agg pa] w fun e w'=>e=.returned (.bool (faB x))/\Below w.heap.size w w':=by rw[h];exact Xu x w
theorem bf {pa:Array Value} {x:As} (w:World) (h:AsV pa x) (s:asB x=true):Calls Tryz.prog 164 #[.agg pa] w (BY w (asE x)):=by rw[h];exact UN x w s
theorem bg {pa:Array Value} {x:Tg} (w:World) (h:TgV w w.heap.size pa x) (s:tgB x=true):Calls Tryz.prog 165 #[.agg pa] w (BY w (tgE x)):=by
 obtain⟨b,a,rfl,⟨A1,c1,rfl,_,M⟩,⟨A2,c2,rfl,_,O⟩⟩:=h;exact UO x A1 A2 c1 c2 w s M O
theorem bh {pa:Array Value} {x:Re} (w:World) (h:ReV w w.heap.size pa x) (s:reB x=true):Calls Tryz.prog 166 #[.agg pa] w (BY w (reE x)):=by
 obtain⟨b,a,rfl,⟨A1,c1,rfl,_,M⟩,⟨A2,c2,rfl,_,O⟩⟩:=h;exact UP x A1 A2 c1 c2 w s M O
theorem bj {pa:Array Value} {x:Ap} (w:World) (h:ApV w w.heap.size pa x) (s:apB x=true):Calls Tryz.prog 167 #[.agg pa] w (BY w (apE x)):=by
 obtain⟨b,a,rfl,⟨A1,c1,rfl,_,M⟩,⟨A2,c2,rfl,_,O⟩⟩:=h;exact UQ x A1 A2 c1 c2 w s M O
theorem bl {pa:Array Value} {x:Fa} (w:World) (h:FaV pa x):Calls Tryz.prog 168 #[.agg pa] w (BY w (faE x)):=by rw[h];exact UR x w
def kdB (m:Mg):Bool:=if m.k=1 then asB m.aq else if m.k=2 then tgB m.tg else if m.k=3 then reB m.re else if m.k=4 then apB m.ap else if m.k=5 then faB m.fa else false
theorem eH (m:Mg):mgB m=(decide (m=nm m)&&kdB m):=by
 unfold mgB kdB nm
 by_cases h1:m.k=1
 ·simp only[if_pos h1];rw[Bool.and_comm]
 ·simp only[if_neg h1]
  by_cases h2:m.k=2
  ·simp only[if_pos h2];rw[Bool.and_comm]
  ·simp only[if_neg h2]
   by_cases h3:m.k=3
   ·simp only[if_pos h3];rw[Bool.and_comm]
   ·simp only[if_neg h3]
    by_cases h4:m.k=4
    ·simp only[if_pos h4];rw[Bool.and_comm]
    ·simp only[if_neg h4]
     by_cases h5:m.k=5
     ·simp only[if_pos h5];rw[Bool.and_comm]
     ·simp only[if_neg h5];rw[Bool.and_false]
section
variable {P:Program} {w:World} {o:Oper} {a:Act}
theorem Bm {w':World} {g:Nat} {t ty:TypeId} {cs:Array Value} {d:TypeDesc} (x:Operand) (M:o.op=.load ty x) (O:a.eval x=.pointer (some ⟨g,0,none⟩)) (h:Blk w' g t cs) (hu:P.underlying ty=some d) (Z:d.isRow=true) (hi:(P.info? ty).map (·.size)=some cs.size) :
  (execOp a.eval o).run P w'=.ok (.value (.agg cs)) w':=by
 unfold execOp;simp only[M,O,Instr.loadAt,Instr.sureAddr,Sem.run_bind,Sem.run_pure,Result.andThen_ok,Ao h hu Z hi]
end
theorem Vd (cs:Array Value) (m:Mg) (w:World) (h:MgV w w.heap.size cs m) (hs:mSm m):Calls Tryz.prog 120 #[.agg cs] w fun e w'=>e=.returned (.bool (mgB m))/\Below w.heap.size w w':=by
 have hV:=h;obtain⟨pa,pt,pr,pp,pf,hc,hp⟩:=h;have aw:cs.size=30:=by rw[hc];exact hp.size m.k
 have HI:=I (show(Tryz.prog.info? 86).map (·.size)=some cs.size by rw[aw];exact Ba);obtain⟨W,eW⟩:=Ak (w.alloc (.cells cs 86));have Z:=I (show Blk W w.heap.size 86 cs by rw[eW];exact Blk.new _ _ _);have O:=I (show Below w.heap.size w W by rw[eW];exact Ah.alloc Ag _);have EC:=I hc;have HP:=I hp;have TN:=I (fun w1 (h:Below w.heap.size w w1)=>UY cs m w1 ((hV.keep h).more h.size));have TE:=I (fun w1 ds (h:Below w.heap.size w w1) (g:MgV w1 w1.heap.size ds (nm m))=>Vc cs ds m (nm m) w1 ((hV.keep h).more h.size) g);have T1:=I (fun w1=>dZ w1 hp.a hs.1);have T2:=I (fun w1=>ee w1 hp.t hs.2.1);have T3:=I (fun w1=>eh w1 hp.r hs.2.2.1);have T4:=I (fun w1=>eD w1 hp.p hs.2.2.2);have T5:=I (fun w1=>eG w1 hp.f);have MB:=I (eH m);clear hc hp hV aw hs;cases en:decide (m=nm m) with
 |false=>
  rw[en] at TE;have E:=I (show mgB m=false by rw[MB.o,en];rfl);clear en;go_enter Tryz.func120,Tryz.ntmps120
  go_upto_region 1 with fail
  rw[<-eW];clear eW;replace Z:=I (show Blk W.drew _ _ _ from Z.o.drewN 1);replace O:=I (show Below _ _ W.drew from below_drewN O.o 1);refine Reg.Cd 5 rfl (by kernel_rfl) ?_;refine Reg.tx 0 (v:=.agg cs) rfl (fun w' hS=>Bm (.tmp 1) rfl rfl (Z.o.below hS) Tryz.underlying86 rfl HI.o) ?_;refine Reg.tx 1 (v:=.agg cs) rfl (fun w' hS=>Bm (.tmp 1) rfl rfl (Z.o.below hS) Tryz.underlying86 rfl HI.o) ?_;refine Reg.Fi 2 rfl (by kernel_rfl) (by rfl) 158 #[.agg cs] (by go_simp) ?_;refine Calls.mono (TN.o _ O.o) ?_;rintro e w1 ⟨ds,rfl,av,M⟩;refine⟨_,rfl,M,?_⟩;replace Z:=I (Z.o.below M);replace O:=O.t M;have HD:=I av;clear M av TN;simp only[Act.put,U,Aa,Ab];refine Reg.Fi 3 rfl (by kernel_rfl) (by rfl) 157 #[.agg cs,.agg ds] (by go_simp) ?_;refine Aj (TE.o _ ds O.o HD.o) ?_;rintro w2 M;refine⟨_,rfl,M,?_⟩;replace Z:=I (Z.o.below M);replace O:=O.t M;clear M TE HD;simp only[Act.put,U,Aa,Ab];refine Reg.tx 4 (v:=.bool true) rfl (fun w' hS=>by go_simp) ?_;refine wpAnyH_done (by kernel_rfl) ?_ _
  go_wp2
  go_ret;exact⟨by rw[E.o];rfl,O.o⟩
 |true=>
  rw[en] at TE;have MK:=I (show mgB m=kdB m by rw[MB.o,en];rfl);clear en;go_enter Tryz.func120,Tryz.ntmps120
  go_upto_region 1 with fail
  rw[<-eW];clear eW;replace Z:=I (show Blk W.drew _ _ _ from Z.o.drewN 1);replace O:=I (show Below _ _ W.drew from below_drewN O.o 1);refine Reg.Cd 5 rfl (by kernel_rfl) ?_;refine Reg.tx 0 (v:=.agg cs) rfl (fun w' hS=>Bm (.tmp 1) rfl rfl (Z.o.below hS) Tryz.underlying86 rfl HI.o) ?_;refine Reg.tx 1 (v:=.agg cs) rfl (fun w' hS=>Bm (.tmp 1) rfl rfl (Z.o.below hS) Tryz.underlying86 rfl HI.o) ?_;refine Reg.Fi 2 rfl (by kernel_rfl) (by rfl) 158 #[.agg cs] (by go_simp) ?_;refine Calls.mono (TN.o _ O.o) ?_;rintro e w1 ⟨ds,rfl,av,M⟩;refine⟨_,rfl,M,?_⟩;replace Z:=I (Z.o.below M);replace O:=O.t M;have HD:=I av;clear M av TN;simp only[Act.put,U,Aa,Ab];refine Reg.Fi 3 rfl (by kernel_rfl) (by rfl) 157 #[.agg cs,.agg ds] (by go_simp) ?_;refine Aj (TE.o _ ds O.o HD.o) ?_;rintro w2 M;refine⟨_,rfl,M,?_⟩;replace Z:=I (Z.o.below M);replace O:=O.t M;clear M TE HD;simp only[Act.put,U,Aa,Ab];refine Reg.tx 4 (v:=.bool false) rfl (fun w' hS=>by go_simp) ?_;refine wpAnyH_done (by kernel_rfl) ?_ _;replace Z:=I (EC.o▸Z.o);have HA:=I (HP.o.at_ Z.o);have k0:=HA.o.k
  by_cases m1:m.k=1
  ·have y1:(m.k==1)=true:=by simpa using m1
   have y2:(m.k==2)=false:=by simp;omega
   have y3:(m.k==3)=false:=by simp;omega
   have y4:(m.k==4)=false:=by simp;omega
   have y5:(m.k==5)=false:=by simp;omega
   have E:=I (show mgB m=asB m.aq by rw[MK.o,kdB,if_pos m1]);clear m1
   go_wp2_with (first
    |(refine AF (by rfl) 78 (.tmp 12) (by rfl) w.heap.size 1 (by rfl) pa _ HA.o.a Tryz.underlying78 (by rfl) (by rw[HP.o.a.size];exact Cs) ?_)
    |(go_at_call 159;refine Aj (T1.o _) ?_;rintro w3 M;replace O:=O.t M;clear M T1)
    |fail)
   go_ret;exact⟨by rw[E.o];rfl,O.o⟩
  ·have bn:=m1
   by_cases m2:m.k=2
   ·have y1:(m.k==1)=false:=by simp;omega
    have y2:(m.k==2)=true:=by simpa using m2
    have y3:(m.k==3)=false:=by simp;omega
    have y4:(m.k==4)=false:=by simp;omega
    have y5:(m.k==5)=false:=by simp;omega
    have E:=I (show mgB m=tgB m.tg by rw[MK.o,kdB,if_neg m1,if_pos m2]);clear m1 m2
    go_wp2_with (first
     |(refine AF (by rfl) 80 (.tmp 17) (by rfl) w.heap.size 7 (by rfl) pt _ HA.o.t Tryz.underlying80 (by rfl) (by rw[HP.o.t.size];exact Df) ?_)
     |(go_at_call 160;refine Aj (T2.o _) ?_;rintro w3 M;replace O:=O.t M;clear M T2)
     |fail)
    go_ret;exact⟨by rw[E.o];rfl,O.o⟩
   ·have bb:=m2
    by_cases m3:m.k=3
    ·have y1:(m.k==1)=false:=by simp;omega
     have y2:(m.k==2)=false:=by simp;omega
     have y3:(m.k==3)=true:=by simpa using m3
     have y4:(m.k==4)=false:=by simp;omega
     have y5:(m.k==5)=false:=by simp;omega
     have E:=I (show mgB m=reB m.re by rw[MK.o,kdB,if_neg m1,if_neg m2,if_pos m3]);clear m1 m2 m3
     go_wp2_with (first
      |(refine AF (by rfl) 82 (.tmp 22) (by rfl) w.heap.size 16 (by rfl) pr _ HA.o.r Tryz.underlying82 (by rfl) (by rw[HP.o.r.size];exact DF) ?_)
      |(go_at_call 161;refine Aj (T3.o _) ?_;rintro w3 M;replace O:=O.t M;clear M T3)
      |fail)
     go_ret;exact⟨by rw[E.o];rfl,O.o⟩
    ·have bs:=m3
     by_cases m4:m.k=4
     ·have y1:(m.k==1)=false:=by simp;omega
      have y2:(m.k==2)=false:=by simp;omega
      have y3:(m.k==3)=false:=by simp;omega
      have y4:(m.k==4)=true:=by simpa using m4
      have y5:(m.k==5)=false:=by simp;omega
      have E:=I (show mgB m=apB m.ap by rw[MK.o,kdB,if_neg m1,if_neg m2,if_neg m3,if_pos m4]);clear m1 m2 m3 m4
      go_wp2_with (first
       |(refine AF (by rfl) 76 (.tmp 27) (by rfl) w.heap.size 23 (by rfl) pp _ HA.o.p Tryz.underlying76 (by rfl) (by rw[HP.o.p.size];exact Ei) ?_)
       |(go_at_call 162;refine Aj (T4.o _) ?_;rintro w3 M;replace O:=O.t M;clear M T4)
       |fail)
      go_ret;exact⟨by rw[E.o];rfl,O.o⟩
     ·have bq:=m4
      by_cases m5:m.k=5
      ·have y1:(m.k==1)=false:=by simp;omega
       have y2:(m.k==2)=false:=by simp;omega
       have y3:(m.k==3)=false:=by simp;omega
       have y4:(m.k==4)=false:=by simp;omega
       have y5:(m.k==5)=true:=by simpa using m5
       have E:=I (show mgB m=faB m.fa by rw[MK.o,kdB,if_neg m1,if_neg m2,if_neg m3,if_neg m4,if_pos m5]);clear m1 m2 m3 m4 m5
       go_wp2_with (first
        |(refine AF (by rfl) 84 (.tmp 32) (by rfl) w.heap.size 28 (by rfl) pf _ HA.o.f Tryz.underlying84 (by rfl) (by rw[HP.o.f.size];exact FO) ?_)
        |(go_at_call 163;refine Aj (T5.o _) ?_;rintro w3 M;replace O:=O.t M;clear M T5)
        |fail)
       go_ret;exact⟨by rw[E.o];rfl,O.o⟩
      ·have bx:=m5
       have y1:(m.k==1)=false:=by simp;omega
       have y2:(m.k==2)=false:=by simp;omega
       have y3:(m.k==3)=false:=by simp;omega
       have y4:(m.k==4)=false:=by simp;omega
       have y5:(m.k==5)=false:=by simp;omega
       have E:=I (show mgB m=false by rw[MK.o,kdB,if_neg m1,if_neg m2,if_neg m3,if_neg m4,if_neg m5]);clear m1 m2 m3 m4 m5
       go_wp2
       go_ret;exact⟨by rw[E.o];rfl,O.o⟩
theorem Ry (cs:Array Value) (m:Mg) (w:World) (h:MgV w w.heap.size cs m) (hx:mgB m=true):Calls Tryz.prog 122 #[.agg cs] w (BY w (mgE m)):=by
 obtain⟨pa,pt,pr,pp,pf,hc,hp⟩:=h;obtain⟨W,eW⟩:=Ak (w.alloc (.cells cs 86));have HK:=I (show Blk W w.heap.size 86 (mgA m.k pa pt pr pp pf) by rw[eW,<-hc];exact Blk.new _ _ _);have HB:=I (show Below w.heap.size w W by rw[eW];exact Ah.alloc Ag _);have HA:=I (hp.at_ HK.o);have k0:=HA.o.k;have HP:=I hp;clear hc;rcases GX hx with⟨h1,e⟩ | ⟨h1,e⟩ | ⟨h1,e⟩ | ⟨h1,e⟩ | ⟨h1,e⟩
 ·have hk:m.k=1:=by rw[e]
  have y1:(m.k==1)=true:=by rw[hk];rfl
  have y2:(m.k==2)=false:=by rw[hk];rfl
  have y3:(m.k==3)=false:=by rw[hk];rfl
  have y4:(m.k==4)=false:=by rw[hk];rfl
  have y5:(m.k==5)=false:=by rw[hk];rfl
  have E:=I (show mgE m=asE m.aq by rw[e];rfl);have T1:=I (fun w1 (h:Below w.heap.size w w1)=>bf w1 hp.a h1);rw[E.o];clear hx h1 e hk hp E;go_enter Tryz.func122,Tryz.ntmps122
  go_upto_region 1 with fail
  rw[<-eW];clear eW
  go_wp2_with (first
   |(refine AF (by rfl) 78 (.tmp 7) (by rfl) w.heap.size 1 (by rfl) pa _ HA.o.a Tryz.underlying78 (by rfl) (by rw[HP.o.a.size];exact Cs) ?_)
   |(go_at_call 164;refine Calls.mono (T1.o _ HB.o) ?_;rintro e w3 ⟨⟨g,c,rfl,O,M,Z⟩,hb⟩;have HG:=I (Bg (l:=asE m.aq) ⟨⟨g,c,rfl,O,M,Z⟩,hb⟩ HB.o);clear O M Z hb T1)
   |fail)
  go_ret;exact HG.o
 ·have hk:m.k=2:=by rw[e]
  have y1:(m.k==1)=false:=by rw[hk];rfl
  have y2:(m.k==2)=true:=by rw[hk];rfl
  have y3:(m.k==3)=false:=by rw[hk];rfl
  have y4:(m.k==4)=false:=by rw[hk];rfl
  have y5:(m.k==5)=false:=by rw[hk];rfl
  have E:=I (show mgE m=tgE m.tg by rw[e];rfl);have T1:=I (fun w1 (h:Below w.heap.size w w1)=>bg w1 ((hp.t.keep h).more h.size) h1);rw[E.o];clear hx h1 e hk hp E;go_enter Tryz.func122,Tryz.ntmps122
  go_upto_region 1 with fail
  rw[<-eW];clear eW
  go_wp2_with (first
   |(refine AF (by rfl) 80 (.tmp 12) (by rfl) w.heap.size 7 (by rfl) pt _ HA.o.t Tryz.underlying80 (by rfl) (by rw[HP.o.t.size];exact Df) ?_)
   |(go_at_call 165;refine Calls.mono (T1.o _ HB.o) ?_;rintro e w3 ⟨⟨g,c,rfl,O,M,Z⟩,hb⟩;have HG:=I (Bg (l:=tgE m.tg) ⟨⟨g,c,rfl,O,M,Z⟩,hb⟩ HB.o);clear O M Z hb T1)
   |fail)
  go_ret;exact HG.o
 ·have hk:m.k=3:=by rw[e]
  have y1:(m.k==1)=false:=by rw[hk];rfl
  have y2:(m.k==2)=false:=by rw[hk];rfl
  have y3:(m.k==3)=true:=by rw[hk];rfl
  have y4:(m.k==4)=false:=by rw[hk];rfl
  have y5:(m.k==5)=false:=by rw[hk];rfl
  have E:=I (show mgE m=reE m.re by rw[e];rfl);have T1:=I (fun w1 (h:Below w.heap.size w w1)=>bh w1 ((hp.r.keep h).more h.size) h1);rw[E.o];clear hx h1 e hk hp E;go_enter Tryz.func122,Tryz.ntmps122
  go_upto_region 1 with fail
  rw[<-eW];clear eW
  go_wp2_with (first
   |(refine AF (by rfl) 82 (.tmp 17) (by rfl) w.heap.size 16 (by rfl) pr _ HA.o.r Tryz.underlying82 (by rfl) (by rw[HP.o.r.size];exact DF) ?_)
   |(go_at_call 166;refine Calls.mono (T1.o _ HB.o) ?_;rintro e w3 ⟨⟨g,c,rfl,O,M,Z⟩,hb⟩;have HG:=I (Bg (l:=reE m.re) ⟨⟨g,c,rfl,O,M,Z⟩,hb⟩ HB.o);clear O M Z hb T1)
   |fail)
  go_ret;exact HG.o
 ·have hk:m.k=4:=by rw[e]
  have y1:(m.k==1)=false:=by rw[hk];rfl
  have y2:(m.k==2)=false:=by rw[hk];rfl
  have y3:(m.k==3)=false:=by rw[hk];rfl
  have y4:(m.k==4)=true:=by rw[hk];rfl
  have y5:(m.k==5)=false:=by rw[hk];rfl
  have E:=I (show mgE m=apE m.ap by rw[e];rfl);have T1:=I (fun w1 (h:Below w.heap.size w w1)=>bj w1 ((hp.p.keep h).more h.size) h1);rw[E.o];clear hx h1 e hk hp E;go_enter Tryz.func122,Tryz.ntmps122
  go_upto_region 1 with fail
  rw[<-eW];clear eW
  go_wp2_with (first
   |(refine AF (by rfl) 76 (.tmp 22) (by rfl) w.heap.size 23 (by rfl) pp _ HA.o.p Tryz.underlying76 (by rfl) (by rw[HP.o.p.size];exact Ei) ?_)
   |(go_at_call 167;refine Calls.mono (T1.o _ HB.o) ?_;rintro e w3 ⟨⟨g,c,rfl,O,M,Z⟩,hb⟩;have HG:=I (Bg (l:=apE m.ap) ⟨⟨g,c,rfl,O,M,Z⟩,hb⟩ HB.o);clear O M Z hb T1)
   |fail)
  go_ret;exact HG.o
 ·have hk:m.k=5:=by rw[e]
  have y1:(m.k==1)=false:=by rw[hk];rfl
  have y2:(m.k==2)=false:=by rw[hk];rfl
  have y3:(m.k==3)=false:=by rw[hk];rfl
  have y4:(m.k==4)=false:=by rw[hk];rfl
  have y5:(m.k==5)=true:=by rw[hk];rfl
  have E:=I (show mgE m=faE m.fa by rw[e];rfl);have T1:=I (fun w1 (h:Below w.heap.size w w1)=>bl w1 hp.f);rw[E.o];clear hx h1 e hk hp E;go_enter Tryz.func122,Tryz.ntmps122
  go_upto_region 1 with fail
  rw[<-eW];clear eW
  go_wp2_with (first
   |(refine AF (by rfl) 84 (.tmp 25) (by rfl) w.heap.size 28 (by rfl) pf _ HA.o.f Tryz.underlying84 (by rfl) (by rw[HP.o.f.size];exact FO) ?_)
   |(go_at_call 168;refine Calls.mono (T1.o _ HB.o) ?_;rintro e w3 ⟨⟨g,c,rfl,O,M,Z⟩,hb⟩;have HG:=I (Bg (l:=faE m.fa) ⟨⟨g,c,rfl,O,M,Z⟩,hb⟩ HB.o);clear O M Z hb T1)
   |fail)
  go_ret;exact HG.o
theorem eI {m:Mg} (hx:mgB m=true):(mgE m).length<=2000:=by
 rcases GX hx with⟨O,e⟩ | ⟨O,e⟩ | ⟨O,e⟩ | ⟨O,e⟩ | ⟨O,e⟩
 ·have M:mgE m=asE m.aq:=by rw[e];rfl
  have hp:prB m.aq.c=true/\prB m.aq.s=true/\tmB m.aq.t=true/\tmB m.aq.no=true:=by simpa [asB] using O
  have b1:=(AY hp.1).1;have b2:=(AY hp.2.1).1;have b3:=AK m.aq.t;have b4:=AK m.aq.no;have:=AE 106 [prE m.aq.c,prE m.aq.s,encI m.aq.t,encI m.aq.no].flatten;rw[M,asE];rw[QD] at this⊢;simp only[List.length_append] at this;omega
 ·have M:mgE m=tgE m.tg:=by rw[e];rfl
  have hp:tkB m.tg.t=true/\BR m.tg.a=true/\prB m.tg.s=true/\tmB m.tg.u=true/\tmB m.tg.no=true:=by simpa [tgB] using O
  have b1:=(Cq hp.1).1;have b2:=AE 4 m.tg.a;have b3:=(AY hp.2.2.1).1;have b4:=AK m.tg.u;have b5:=AK m.tg.no;have Z:=Bn hp.2.1;have:=AE 108 [tkE m.tg.t,elem 4 m.tg.a,prE m.tg.s,encI m.tg.u,encI m.tg.no].flatten;rw[M,tgE];rw[Gs] at this⊢;simp only[List.length_append] at this;omega
 ·have M:mgE m=reE m.re:=by rw[e];rfl
  have hp:prB m.re.c=true/\tkB m.re.t=true/\BR m.re.b=true:=by simpa [reB] using O
  have b1:=(AY hp.1).1;have b2:=(Cq hp.2.1).1;have b3:=AE 4 m.re.b;have Z:=Bn hp.2.2;have:=AE 107 [prE m.re.c,tkE m.re.t,elem 4 m.re.b].flatten;rw[M,reE];rw[DS] at this⊢;simp only[List.length_append] at this;omega
 ·have M:mgE m=apE m.ap:=by rw[e];rfl
  have hp:tkB m.ap.t=true/\BR m.ap.a=true:=by simpa [apB] using O
  have b2:=(Cq hp.1).1;have b3:=AE 4 m.ap.a;have Z:=Bn hp.2;have:=AE 110 [tkE m.ap.t,elem 4 m.ap.a].flatten;rw[M,apE];rw[Dm] at this⊢;simp only[List.length_append] at this;omega
 ·have M:mgE m=faE m.fa:=by rw[e];rfl
  have b2:=AK m.fa.e;have b3:=AK m.fa.no;have:=AE 126 [encI m.fa.e,encI m.fa.no].flatten;rw[M,faE];rw[Dm] at this⊢;simp only[List.length_append] at this;omega
theorem bm (M:Array Value) (m:Mg) (w:World) (h:MgV w w.heap.size M m) (hs:mSm m):Calls Tryz.prog 86 #[.agg M] w (EncR w (mgO m)):=by
 have HI:=I (show(Tryz.prog.info? 86).map (·.size)=some M.size by obtain⟨pa,pt,pr,pp,pf,hc,hp⟩:=h;rw[hc,hp.size];exact Ba);have I1:=I (fun w1 (h1:Below w.heap.size w w1)=>Vd M m w1 ((h.keep h1).more h1.size) hs);have T0:=I (fun(O:mgB m=true)=>fun w1 (h1:Below w.heap.size w w1)=>Ry M m w1 ((h.keep h1).more h1.size) O);have Z:=I (fun(O:mgB m=true)=>eI O);obtain⟨cs,aw⟩:∃cs:Array Value,cs=M:=⟨_,rfl⟩;rw[<-aw] at HI I1 T0⊢;clear aw;have HB:=I ((Below.refl w.heap.size w).alloc Ag (.cells cs 86));have HK:=I (Blk.new w 86 cs);cases O:mgB m with
 |false=>
  rw[O] at I1;have E:=I (show mgO m=none by unfold mgO limO;rw[O];rfl);rw[E.o];clear O E T0 Z hs h;go_enter Tryz.func86,Tryz.ntmps86
  go_wp2_with (first
   |(refine Al (by rfl) 86 (.tmp 1) (by rfl) w.heap.size 0 (by rfl) cs _ (Ad HK.o) Tryz.underlying86 (by rfl) HI.o ?_)
   |(go_at_call 120;refine Aj (I1.o _ HB.o) ?_;rintro w1 hb;replace HB:=HB.t hb;clear hb I1)
   |fail)
  go_ret2
  exact FY HB.o
 |true=>
  rw[O] at I1;have T1:=I (T0.o O);have av:=Z.o O;have E:=I (show mgO m=some (mgE m) from BS.2 ⟨O,av,rfl⟩);rw[E.o];obtain⟨l,el⟩:=Ak (mgE m);rw[<-el] at T1 av⊢;have LM:=I (fun A c w1=>Ii l A _ c w1 rfl av);clear O E el av T0 Z hs h;go_enter Tryz.func86,Tryz.ntmps86
  go_wp2_with (first
   |(refine Al (by rfl) 86 (.tmp 1) (by rfl) w.heap.size 0 (by rfl) cs _ (Ad HK.o) Tryz.underlying86 (by rfl) HI.o ?_)
   |(go_at_call 120;refine Aj (I1.o _ HB.o) ?_;rintro w1 hb;replace HK:=I (HK.o.below hb);replace HB:=HB.t hb;clear hb I1)
   |(go_at_call 122;refine Calls.mono (T1.o _ HB.o) ?_;rintro e w2 ⟨⟨g,c,rfl,h2,h3,h4⟩,hb⟩;have HG:=I (Bg (l:=l) ⟨⟨g,c,rfl,h2,h3,h4⟩,hb⟩ HB.o);clear h2 h3 h4 hb T1)
   |(go_at_call 121;refine Aj (LM.o _ _ _) ?_;rintro wy rfl;clear LM)
   |fail)
  go_ret2
  exact FZ HG.o
end Mc
namespace Mc
open Go.RowKit Af DerP DerC Ms
def mgG (b:L):Mg:=(mgD b).getD mg0
def mgI (b:L):Int:=if (mgD b).isSome then 0 else 2
theorem JU:pSm pr0:=⟨by decide,by decide⟩
theorem eO {b:L} (Z:b.length<=100000):mSm (mgQ b):=by
 have z:=JU;have O:mSm ⟨0,as0,tg0,re0,ap0,fa0⟩:=⟨⟨z,z⟩,⟨z,z⟩,⟨z,z⟩,z⟩;cases b with
 |nil=>exact O
 |cons t r=>
  have M:∀u,((AN u (some (t :: r))).getD []).length<=100000:=fun u=>FM u (show((some (t :: r):Option L).getD []).length<=100000 from Z)
  simp only[mgQ]
  split
  ·exact⟨⟨Hn (M _),Hn (BX 48 (M _))⟩,⟨z,z⟩,⟨z,z⟩,z⟩
  ·split
   ·exact⟨⟨z,z⟩,⟨Hn (FM 97 (M _)),Hn (BX 4 (BX 97 (M _)))⟩,⟨z,z⟩,z⟩
   ·split
    ·exact⟨⟨z,z⟩,⟨z,z⟩,⟨Hn (M _),Hn (FM 97 (BX 48 (M _)))⟩,z⟩
    ·split
     ·exact⟨⟨z,z⟩,⟨z,z⟩,⟨z,z⟩,Hn (FM 97 (M _))⟩
     ·split
      ·exact⟨⟨z,z⟩,⟨z,z⟩,⟨z,z⟩,z⟩
      ·exact O
theorem zz_o (w:World) (B:Nat):MgO w B (mgA 0 zA zT zR zP zF) mg0:=⟨_,_,_,_,_,rfl,zM_o w B 0⟩
theorem Ve (A:Option Addr) (b:L) (c:Nat) (w:World) (hr:Rd w w.heap.size A (bvs b)):Calls Tryz.prog 84 #[.slice A b.length c,.func (.func 85) #[] #[],.func (.func 86) #[] #[]] w fun e w'=>∃ds,e=.returned (.tuple #[.agg ds,.int .i64 (mgI b)])/\MgO w' w.heap.size ds (mgG b)/\Below w.heap.size w w':=by
 obtain⟨Z,bq⟩:∃z:Array Value,z=#[.int .i64 0,.string ⟨#[]⟩,.string ⟨#[]⟩,.string ⟨#[]⟩,.string ⟨#[]⟩,.int .i64 0,.int .i64 0,.string ⟨#[]⟩,.string ⟨#[]⟩,.int .i64 0,.slice none 0 0,.slice none 0 0,.string ⟨#[]⟩,.string ⟨#[]⟩,.int .i64 0,.int .i64 0,.string ⟨#[]⟩,.string ⟨#[]⟩,.string ⟨#[]⟩,.string ⟨#[]⟩,.int .i64 0,.slice none 0 0,.slice none 0 0,.string ⟨#[]⟩,.string ⟨#[]⟩,.int .i64 0,.slice none 0 0,.slice none 0 0,.int .i64 0,.int .i64 0]:=⟨_,rfl⟩;have cj:Z=mgA 0 zA zT zR zP zF:=by rw[bq];rfl
 have hz:∀(w1:World) (B:Nat),MgO w1 B Z mg0:=fun w1 B=>by rw[cj];exact zz_o w1 B
 have ca:Z.size=30:=(hz w 0).size;obtain⟨W,eW⟩:=Ak ((w.alloc (.cells Z 86)).alloc (.cells Z 86));have ck:W.heap.size=w.heap.size+1+1:=by rw[eW];simp
 have hq:=Blk.new (w.alloc (.cells Z 86)) 86 Z;rw[show(w.alloc (.cells Z 86)).heap.size=w.heap.size+1 by simp,<-eW] at hq;have HZ:=I hq;clear hq;have O:=I (show Blk W w.heap.size 86 Z by rw[eW];exact(Blk.new _ _ _).alloc _);have HG:=I (show Below w.heap.size w W by rw[eW];exact(Ah.alloc Ag _).alloc (by simp) _);have bx:=I (fun w1 (h:Below w.heap.size w w1)=>(hr.below h).more h.size);have aw:=I (show(Tryz.prog.info? 86).map (·.size)=some Z.size by rw[ca];exact Ba);have cg:=I (show Z.all (·.oneCell')=true from(hz w 0).one);have cm:=I ca;have cf:=I hz;have ED:=I (aY b);have cn:=I ck;clear ck ca cj hz
 by_cases hl:b.length<=2000
 ·have t1:decide ((2000:Int)<(b.length:Int))=false:=decide_eq_false (by omega)
  have cc:b.length<=100000:=by omega
  have av:=eO cc;have T1:=I (fun w1 (h:Rd w1 w1.heap.size A (bvs b))=>OW A b c w1 h cc);have EN:=I (fun w1 cs (h:MgV w1 w1.heap.size cs (mgQ b))=>bm cs (mgQ b) w1 h av);have BE:=I (fun(l:L) (g c2:Nat) (w1:World) (h:Rd w1 w1.heap.size (some ⟨g,0,none⟩) (bvs l)) (M:Below w.heap.size w w1)=>Gx l b (some ⟨g,0,none⟩) A c2 c w1.heap.size w1 h (bx.o w1 M));clear hl cc hr av;cases ho:mgO (mgQ b) with
  |none=>
   rw[ho] at EN;have hD:mgD b=none:=by rw[ED.o,ho];rfl
   have GE:=I (show mgG b=mg0 by rw[mgG,hD];rfl);have IE:=I (show mgI b=2 by rw[mgI,hD];rfl);clear ED ho hD BE;go_enter Tryz.func84,Tryz.ntmps84
   go_upto_region 2 with fail
   rw[<-bq,<-eW];clear bq eW
   go_wp2_with (first
    |(refine Al (by rfl) 86 (.tmp 8) (by rfl) (w.heap.size+1) 0 (by rfl) Z _ (Ad HZ.o) Tryz.underlying86 (by rfl) aw.o ?_)
    |(refine wpList_store_mid (by rfl) 86 (.tmp 6) (.tmp 33) (by rfl) w.heap.size 0 Z (by rfl) (by rfl) (Ar O.o _ Ag) aw.o cg.o ?_)
    |(go_at_call 85;refine Calls.mono (T1.o _ (bx.o _ HG.o)) ?_;rintro e w4 ⟨cs,rfl,hv,M⟩;clear T1;have HV:=I (hv.less (show w.heap.size+1<=_ by have:=O.o.lt;omega));have bn:=I (show(Tryz.prog.info? 86).map (·.size)=some cs.size by rw[hv.size];exact Ba);have bs:=I (show cs.all (·.oneCell')=true from hv.one);have bb:=I hv.size;clear hv;replace HZ:=I (HZ.o.below M);replace O:=I (O.o.below M);replace HG:=HG.t M;clear M)
    |(refine wpList_store_mid (by rfl) 86 (.tmp 9) (.tmp 18) (by rfl) w4.heap.size 0 cs (by rfl) (by rfl) (Ar (Blk.new w4 86 Ay) _ (by have:=bb.o;simp;omega)) bn.o bs.o ?_;have hV:=Bl w4 86 Ay cs (by have:=bb.o;simp;omega);generalize ((w4.alloc (.cells Ay 86)).setCells w4.heap.size 0 cs.toList)=V at hV⊢;have HX:=I hV.1;replace HV:=I (HV.o.below hV.2);replace HZ:=I (HZ.o.below hV.2);replace O:=I (O.o.below hV.2);replace HG:=I (HG.o.trans (hV.2.mono HG.o.size));clear hV)
    |(refine Al (by rfl) 86 (.tmp 9) (by rfl) w4.heap.size 0 (by rfl) cs _ (Ad HX.o) Tryz.underlying86 (by rfl) bn.o ?_)
    |(go_at_call 86;refine Calls.mono (EN.o _ _ HV.o.toV) ?_;rintro e we ⟨⟨v,i,rfl,hn,av⟩,M⟩;obtain⟨rfl,rfl⟩:=hn rfl;clear EN;replace HV:=I (HV.o.below M);replace HX:=I (HX.o.below M);replace HZ:=I (HZ.o.below M);replace O:=I (O.o.below M);replace HG:=HG.t M;clear M hn av)
    |fail)
   have hE:=AJ (ds:=Z) O.o (by rfl);have hp:=AP we w.heap.size Z.toList;have hq:=Ao (P:=Tryz.prog) hE Tryz.underlying86 rfl aw.o;refine bodyPost_ret (v:=.tuple #[.agg Z,.int .i64 2]) ?_ ?_ ?_
   ·exact Ae (v:=.agg Z) 6 7 86 ⟨w.heap.size,0,none⟩ Tryz.results84 rfl hq rfl
   ·rfl
   refine⟨_,by rw[IE.o],?_,Az HG.o hp (by have:=O.o.lt;omega) Ag⟩;rw[GE.o];exact cf.o _ _
  |some l=>
   rw[ho] at EN
   by_cases hlb:l=b
   ·have BF:=I (decide_eq_true hlb)
    have hD:mgD b=some (mgQ b):=by rw[ED.o,ho,if_pos (by rw[hlb])]
    have GE:=I (show mgG b=mgQ b by rw[mgG,hD];rfl);have IE:=I (show mgI b=0 by rw[mgI,hD];rfl);clear ED ho hlb hD;go_enter Tryz.func84,Tryz.ntmps84
    go_upto_region 2 with fail
    rw[<-bq,<-eW];clear bq eW
    go_wp2_with (first
     |(refine Al (by rfl) 86 (.tmp 8) (by rfl) (w.heap.size+1) 0 (by rfl) Z _ (Ad HZ.o) Tryz.underlying86 (by rfl) aw.o ?_)
     |(refine wpList_store_mid (by rfl) 86 (.tmp 6) (.tmp 34) (by rfl) w.heap.size 0 cs (by rfl) (by rfl) (Ar O.o _ (by have:=cm.o;have:=bb.o;omega)) bn.o bs.o ?_)
     |(go_at_call 85;refine Calls.mono (T1.o _ (bx.o _ HG.o)) ?_;rintro e w4 ⟨cs,rfl,hv,M⟩;clear T1;have HV:=I (hv.less (show w.heap.size+1<=_ by have:=O.o.lt;omega));have bn:=I (show(Tryz.prog.info? 86).map (·.size)=some cs.size by rw[hv.size];exact Ba);have bs:=I (show cs.all (·.oneCell')=true from hv.one);have bb:=I hv.size;clear hv;replace HZ:=I (HZ.o.below M);replace O:=I (O.o.below M);replace HG:=HG.t M;clear M)
     |(refine wpList_store_mid (by rfl) 86 (.tmp 9) (.tmp 18) (by rfl) w4.heap.size 0 cs (by rfl) (by rfl) (Ar (Blk.new w4 86 Ay) _ (by have:=bb.o;simp;omega)) bn.o bs.o ?_;have hV:=Bl w4 86 Ay cs (by have:=bb.o;simp;omega);generalize ((w4.alloc (.cells Ay 86)).setCells w4.heap.size 0 cs.toList)=V at hV⊢;have HX:=I hV.1;replace HV:=I (HV.o.below hV.2);replace HZ:=I (HZ.o.below hV.2);replace O:=I (O.o.below hV.2);replace HG:=I (HG.o.trans (hV.2.mono HG.o.size));clear hV)
     |(refine Al (by rfl) 86 (.tmp 9) (by rfl) w4.heap.size 0 (by rfl) cs _ (Ad HX.o) Tryz.underlying86 (by rfl) bn.o ?_)
     |(go_at_call 86;refine Calls.mono (EN.o _ _ HV.o.toV) ?_;rintro e we ⟨⟨v,i,rfl,hn,av⟩,M⟩;obtain⟨rfl,gx,cx,rfl,cb,cd,bz⟩:=av l rfl;have bB:=I bz;clear cb cd bz;clear EN;replace HV:=I (HV.o.below M);replace HX:=I (HX.o.below M);replace HZ:=I (HZ.o.below M);replace O:=I (O.o.below M);replace HG:=HG.t M;clear M hn av)
     |(go_at_call 112;refine Calls.mono (BE.o l gx cx _ bB.o HG.o) ?_;rw[BF.o];rintro e wb ⟨rfl,hw⟩;subst hw;clear BE)
     |fail)
    have hE:=AJ (ds:=cs) O.o (by have:=cm.o;have:=bb.o;omega);have hp:=AP we w.heap.size cs.toList;have hq:=Ao (P:=Tryz.prog) hE Tryz.underlying86 rfl bn.o;refine bodyPost_ret (v:=.tuple #[.agg cs,.int .i64 0]) ?_ ?_ ?_
    ·exact Ae (v:=.agg cs) 6 7 86 ⟨w.heap.size,0,none⟩ Tryz.results84 rfl hq rfl
    ·rfl
    refine⟨_,by rw[IE.o],?_,Az HG.o hp (by have:=O.o.lt;omega) Ag⟩;rw[GE.o];exact(HV.o.keep hp (by omega)).less (by omega)
   ·have BF:=I (decide_eq_false hlb)
    have hD:mgD b=none:=by rw[ED.o,ho,if_neg (fun h=>hlb (Option.some.inj h))]
    have GE:=I (show mgG b=mg0 by rw[mgG,hD];rfl);have IE:=I (show mgI b=2 by rw[mgI,hD];rfl);clear ED ho hlb hD;go_enter Tryz.func84,Tryz.ntmps84
    go_upto_region 2 with fail
    rw[<-bq,<-eW];clear bq eW
    go_wp2_with (first
     |(refine Al (by rfl) 86 (.tmp 8) (by rfl) (w.heap.size+1) 0 (by rfl) Z _ (Ad HZ.o) Tryz.underlying86 (by rfl) aw.o ?_)
     |(refine wpList_store_mid (by rfl) 86 (.tmp 6) (.tmp 33) (by rfl) w.heap.size 0 Z (by rfl) (by rfl) (Ar O.o _ Ag) aw.o cg.o ?_)
     |(go_at_call 85;refine Calls.mono (T1.o _ (bx.o _ HG.o)) ?_;rintro e w4 ⟨cs,rfl,hv,M⟩;clear T1;have HV:=I (hv.less (show w.heap.size+1<=_ by have:=O.o.lt;omega));have bn:=I (show(Tryz.prog.info? 86).map (·.size)=some cs.size by rw[hv.size];exact Ba);have bs:=I (show cs.all (·.oneCell')=true from hv.one);have bb:=I hv.size;clear hv;replace HZ:=I (HZ.o.below M);replace O:=I (O.o.below M);replace HG:=HG.t M;clear M)
     |(refine wpList_store_mid (by rfl) 86 (.tmp 9) (.tmp 18) (by rfl) w4.heap.size 0 cs (by rfl) (by rfl) (Ar (Blk.new w4 86 Ay) _ (by have:=bb.o;simp;omega)) bn.o bs.o ?_;have hV:=Bl w4 86 Ay cs (by have:=bb.o;simp;omega);generalize ((w4.alloc (.cells Ay 86)).setCells w4.heap.size 0 cs.toList)=V at hV⊢;have HX:=I hV.1;replace HV:=I (HV.o.below hV.2);replace HZ:=I (HZ.o.below hV.2);replace O:=I (O.o.below hV.2);replace HG:=I (HG.o.trans (hV.2.mono HG.o.size));clear hV)
     |(refine Al (by rfl) 86 (.tmp 9) (by rfl) w4.heap.size 0 (by rfl) cs _ (Ad HX.o) Tryz.underlying86 (by rfl) bn.o ?_)
     |(go_at_call 86;refine Calls.mono (EN.o _ _ HV.o.toV) ?_;rintro e we ⟨⟨v,i,rfl,hn,av⟩,M⟩;obtain⟨rfl,gx,cx,rfl,cb,cd,bz⟩:=av l rfl;have bB:=I bz;clear cb cd bz;clear EN;replace HV:=I (HV.o.below M);replace HX:=I (HX.o.below M);replace HZ:=I (HZ.o.below M);replace O:=I (O.o.below M);replace HG:=HG.t M;clear M hn av)
     |(go_at_call 112;refine Calls.mono (BE.o l gx cx _ bB.o HG.o) ?_;rw[BF.o];rintro e wb ⟨rfl,hw⟩;subst hw;clear BE)
     |fail)
    have hE:=AJ (ds:=Z) O.o (by rfl);have hp:=AP we w.heap.size Z.toList;have hq:=Ao (P:=Tryz.prog) hE Tryz.underlying86 rfl aw.o;refine bodyPost_ret (v:=.tuple #[.agg Z,.int .i64 2]) ?_ ?_ ?_
    ·exact Ae (v:=.agg Z) 6 7 86 ⟨w.heap.size,0,none⟩ Tryz.results84 rfl hq rfl
    ·rfl
    refine⟨_,by rw[IE.o],?_,Az HG.o hp (by have:=O.o.lt;omega) Ag⟩;rw[GE.o];exact cf.o _ _
 ·have t1:decide ((2000:Int)<(b.length:Int))=true:=decide_eq_true (by omega)
  have hD:mgD b=none:=by
   rw[ED.o,if_neg];intro h;have h2:=BS.1 h;exact hl (by rw[<-h2.2.2];exact h2.2.1)
  have GE:=I (show mgG b=mg0 by rw[mgG,hD];rfl);have IE:=I (show mgI b=2 by rw[mgI,hD];rfl);clear ED hD hl hr bx;go_enter Tryz.func84,Tryz.ntmps84
  go_upto_region 2 with fail
  rw[<-bq,<-eW];clear bq eW
  go_wp2_with (first
   |(refine Al (by rfl) 86 (.tmp 8) (by rfl) (w.heap.size+1) 0 (by rfl) Z _ (Ad HZ.o) Tryz.underlying86 (by rfl) aw.o ?_)
   |(refine wpList_store_mid (by rfl) 86 (.tmp 6) (.tmp 15) (by rfl) w.heap.size 0 Z (by rfl) (by rfl) (Ar O.o _ Ag) aw.o cg.o ?_)
   |fail)
  have hE:=AJ (ds:=Z) O.o (by rfl);have hp:=AP W w.heap.size Z.toList;have hq:=Ao (P:=Tryz.prog) hE Tryz.underlying86 rfl aw.o;refine bodyPost_ret (v:=.tuple #[.agg Z,.int .i64 2]) ?_ ?_ ?_
  ·exact Ae (v:=.agg Z) 6 7 86 ⟨w.heap.size,0,none⟩ Tryz.results84 rfl hq rfl
  ·rfl
  refine⟨_,by rw[IE.o],?_,Az HG.o hp (by have:=O.o.lt;omega) Ag⟩;rw[GE.o];exact cf.o _ _
theorem bo (A:Option Addr) (b:L) (c:Nat) (w:World) (hr:Rd w w.heap.size A (bvs b)):Calls Tryz.prog 52 #[.slice A b.length c] w fun e w'=>∃ds,e=.returned (.tuple #[.agg ds,.int .i64 (mgI b)])/\MgO w' w.heap.size ds (mgG b)/\Below w.heap.size w w':=by
 obtain⟨O,M⟩:∃z:Array Value,z=#[.int .i64 0,.string ⟨#[]⟩,.string ⟨#[]⟩,.string ⟨#[]⟩,.string ⟨#[]⟩,.int .i64 0,.int .i64 0,.string ⟨#[]⟩,.string ⟨#[]⟩,.int .i64 0,.slice none 0 0,.slice none 0 0,.string ⟨#[]⟩,.string ⟨#[]⟩,.int .i64 0,.int .i64 0,.string ⟨#[]⟩,.string ⟨#[]⟩,.string ⟨#[]⟩,.string ⟨#[]⟩,.int .i64 0,.slice none 0 0,.slice none 0 0,.string ⟨#[]⟩,.string ⟨#[]⟩,.int .i64 0,.slice none 0 0,.slice none 0 0,.int .i64 0,.int .i64 0]:=⟨_,rfl⟩;have av:=I (show O.size=30 by rw[M];simp);have c1:=Ve A b c (w.alloc (.cells O 86)) ((hr.alloc Ag _).more (by simp));have HR:=I (Blk.new w 86 O);have HG:=I ((Below.refl w.heap.size w).alloc Ag (.cells O 86));have aw:=I (show(w.alloc (.cells O 86)).heap.size=w.heap.size+1 by simp);clear hr;go_enter Tryz.func52,Tryz.ntmps52
 go_upto_region 1 with fail
 rw[<-M];clear M
 go_wp2_with (first
  |(go_at_call 84;refine Calls.mono c1 ?_;rintro e w1 ⟨cs,rfl,hv,hb⟩;clear c1;have HV:=I (hv.less (show w.heap.size+1<=_ by have:=aw.o;omega));have HI:=I (show(Tryz.prog.info? 86).map (·.size)=some cs.size by rw[hv.size];exact Ba);have HO:=I (show cs.all (·.oneCell')=true from hv.one);have Z:=I hv.size;clear hv;replace HR:=I (HR.o.below hb);replace HG:=HG.t hb;clear hb)
  |(refine wpList_store_mid (by rfl) 86 (.tmp 2) (.tmp 6) (by rfl) w.heap.size 0 cs (by rfl) (by rfl) (Ar HR.o _ (by have:=av.o;have:=Z.o;omega)) HI.o HO.o ?_)
  |fail)
 have hE:=AJ (ds:=cs) HR.o (by have:=av.o;have:=Z.o;omega);have hp:=AP w1 w.heap.size cs.toList;have hq:=Ao (P:=Tryz.prog) hE Tryz.underlying86 rfl HI.o;refine bodyPost_ret (v:=.tuple #[.agg cs,.int .i64 (mgI b)]) ?_ ?_ ?_
 ·exact Ae (v:=.agg cs) 2 3 86 ⟨w.heap.size,0,none⟩ Tryz.results52 rfl hq rfl
 ·rfl
 exact⟨_,rfl,(HV.o.keep hp (by omega)).less (by omega),Az HG.o hp (by have:=HR.o.lt;omega) Ag⟩
end Mc
end Go.Proofs.YtiecjolmennkfaaGreat
