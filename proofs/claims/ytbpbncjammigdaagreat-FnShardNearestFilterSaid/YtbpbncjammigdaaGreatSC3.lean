/- The functions compute what their models say. -/
import Derived.Test.YtbpbncjammigdaaGreatAl
import Derived.Test.YtbpbncjammigdaaGreatEng2
import Derived.Test.YtbpbncjammigdaaGreatSC2
set_option linter.unusedVariables false
set_option linter.unusedSimpArgs false
set_option maxHeartbeats 2000000
set_option maxRecDepth 20000
namespace Go.Vs
open Go Go.Proofs
attribute [local irreducible] Code.wp Code.wpIn wpList wpListIn wpQuiet Calls CallsIn
theorem yo{bN rJ}(I9:rJ.length=4){r}(h:M.j7 bN rJ=some r):
    bL Lz.prog 115 [(I bN),(.agg (List.map I rJ).toArray)] [] (λn0 v L=>v=(I r)/\L=[]):=by
 refine cI Lz.agK ?_;intro S0 aq n0 aQ H;unfold M.j7 at h;refine k1 (bE (gm (cs:=(List.map I rJ)) H aQ rfl rfl) wn ?_);rintro _ iL ⟨b1,rfl,H, -⟩;refine aJ (I 0) (k4 (aJ (I 0) (k5 ?_)));have P8:=H.ei 0;refine sv (.agg (List.map I rJ).toArray) (bp (cs:=(List.map I rJ)) Lz.zF rfl AE rfl (by rw [qbu];exact I9) P8) (av (I 0) (k2 ?_));obtain ⟨o4,h,h'⟩:=bind_some h;refine cj (λe a w=>(∃t,o4=(.inl t)/\e= .normal/\ ∃ρ σ,a=fr 38 (cz ρ [(5,(I t))])/\w=σ.w/\Hp S0 aq σ [])\/(∃t,o4=(.inr t)/\e= .ret/\ ∃ρ σ,a=fr 38 (cz ρ [(4,(I t))])/\w=σ.w/\Hp S0 aq σ [])) ?_ ?_
 ·clear h';refine bV (bZ _ h (λs5 a w=> ∃ρ σ,a=fr 38 (cz ρ [(0,(I bN)),(5,(I s5.1)),(8,(.agg (List.map I rJ).toArray)),(9,(I s5.2))])/\w=σ.w/\Hp S0 aq σ []) ⟨_,iL,cC rfl,rfl,H.se []⟩ ?_);clear h H;rintro s5 a w o ⟨ρ,CH,rfl,rfl,H⟩ h cE;refine k1 (sv (B (decide (s5.2<4))) (cD rfl rfl) (k3 (gB h (λqs h=> ?_) (λqs h=> ?_))))
  ·refine k6 ?_;obtain ⟨o8,h,h'⟩:=bind_some h;refine cj (λe a w=>(∃t,o8=(.inl t)/\e= .normal/\ ∃ρ σ,a=fr 38 (cz ρ [(0,(I bN)),(5,(I t)),(8,(.agg (List.map I rJ).toArray)),(9,(I s5.2))])/\w=σ.w/\Hp S0 aq σ [])\/(∃t,o8=(.inr t)/\e= .ret/\ ∃ρ σ,a=fr 38 (cz ρ [(4,(I t))])/\w=σ.w/\Hp S0 aq σ [])) ?_ ?_
   ·clear h';refine bV (k1 (bz h λx9 vg h=> ?_));refine sv (I x9) (aai Lz.zF gx Lz.U3 rfl rfl vg I9) (aJ (I x9) (k4 (av (I bN) (k2 (bV (k1 (sv (B (bN==1)) (fA rfl rfl) (aJ (B (bN==1)) (k2 (gB h (λmG h=> ?_) (λmG h=> ?_)))))))))))
    ·refine rg (av (I s5.1) (av (I x9) (sv (I (ao (s5.1+x9))) (cF rfl rfl) (aJ (I (ao (s5.1+x9))) (bo (bX (bX ?_)))))));obtain rfl:=sj h;exact .inl ⟨_,rfl,rfl,_,CH,cC rfl,rfl,H.se []⟩
    ·refine k1 (sv (B (bN==2)) (fA rfl rfl) (aJ (B (bN==2)) (k2 (gB h (λqv h=> ?_) (λqv h=> ?_)))))
     ·refine rg (av (I s5.1) (av (I x9) (sv (I (max s5.1 x9)) (F0 rfl rfl) (aJ (I (max s5.1 x9)) (bo (bX (bX ?_)))))));obtain rfl:=sj h;exact .inl ⟨_,rfl,rfl,_,CH,cC rfl,rfl,H.se []⟩
     ·refine k1 (sv (B (bN==3)) (fA rfl rfl) (aJ (B (bN==3)) (k2 (gB h (λoc h=> ?_) (λoc h=> ?_)))))
      ·refine rg (av (I s5.1) (av (I x9) (av (I x9) (sv (I (ao (x9*x9))) (oS rfl rfl) (sv (I (ao (s5.1+(ao (x9*x9))))) (cF rfl rfl) (aJ (I (ao (s5.1+(ao (x9*x9))))) (bo (bX (bX ?_)))))))));obtain rfl:=sj h;exact .inl ⟨_,rfl,rfl,_,CH,cC rfl,rfl,H.se []⟩
      ·refine k1 (sv (B (bN==4)) (fA rfl rfl) (aJ (B (bN==4)) (k2 (gB h (λoV h=> ?_) (λoV h=> ?_)))))
       ·refine rg (av (I s5.1) (av (I x9) (sv (I (min x9 1)) (KV rfl rfl) (sv (I (ao (s5.1+(min x9 1)))) (cF rfl rfl) (aJ (I (ao (s5.1+(min x9 1)))) (bo (bX (bX ?_))))))));obtain rfl:=sj h;exact .inl ⟨_,rfl,rfl,_,CH,cC rfl,rfl,H.se []⟩
       ·refine k1 (aJ (I (-1)) (k7 (dD (dD ?_))));obtain rfl:=sj h;exact .inr (⟨_,rfl,rfl,_,CH,cC rfl,rfl,H.se []⟩)
   ·replace h:=h';clear h' H;rintro e a w (⟨t15,rfl,rfl,ρ,ux,rfl,rfl,H⟩ | ⟨t17,rfl,rfl,ρ,qU,rfl,rfl,H⟩)
    ·replace h:=kN h;refine az (rg (sv (I (ao (s5.2+1))) (cF rfl rfl) (av (I (ao (s5.2+1))) (k2 ?_))));obtain rfl:=sj h;exact ⟨_,rfl,_,ux,cC rfl,rfl,H.se []⟩
    ·replace h:=kO h;refine aF (aF (dD ?_));obtain rfl:=sj h;obtain rfl:=cE _ rfl;exact .inr (⟨_,rfl,rfl,_,qU,cC rfl,rfl,H.se []⟩)
  ·refine dH (aC (aC (bD ?_)));obtain rfl:=sj h;obtain rfl:=cE _ rfl;exact .inl ⟨_,rfl,rfl,_,CH,cC rfl,rfl,H.se []⟩
 ·replace h:=h';clear h' H;rintro e a w (⟨t19,rfl,rfl,ρ,D8,rfl,rfl,H⟩ | ⟨t21,rfl,rfl,ρ,sr,rfl,rfl,H⟩)
  ·replace h:=kN h;refine az (k1 (av (I t19) (aJ (I t19) (k7 ?_))));obtain rfl:=sj h;exact en Tryz.results115 ⟨rfl,rfl⟩ (H.se [])
  ·replace h:=kO h;refine aF ?_;obtain rfl:=sj h;exact en Tryz.results115 ⟨rfl,rfl⟩ (H.se [])
theorem Bd{bN ua vP xm uA yp vi r}(h:M.kq bN ua vP=some r):
    bL Lz.prog 74 [(I bN),(Sl xm ua uA),(Sl yp vP vi)] [Ch.ro 0 (Sl xm ua uA) ua,Ch.ro 0 (Sl yp vP vi) vP] (λn0 v L=>v=(I r)/\L=[]):=by
 refine cI Lz.N74 ?_;intro S0 aq n0 aQ H;unfold M.kq at h;refine k1 (aJ (I 0) (k3 (dy ?_)));obtain ⟨o1,h,h'⟩:=bind_some h;refine cj (Jn S0 aq 24 [(0,(I bN)),(1,(Sl xm ua uA)),(2,(Sl yp vP vi)),(14,(B o1))] [Ch.ro 0 (Sl xm ua uA) ua,Ch.ro 0 (Sl yp vP vi) vP]) ?_ ?_
 ·clear h';refine rg (av (Sl xm ua uA) (bz h λr2 Kf h=> ?_));refine cl (@jW _ xm uA _ Kf) aQ (H.se [0,0,1]:Hp S0 aq _ ([_]++_)) ?_;rintro _ Cv ⟨_,⟨rfl,rfl⟩,H⟩;replace H:Hp _ _ _ [_,_]:=H;refine sv (B (!r2)) (cO rfl) (av (B (!r2)) ?_);rcases oF h with ⟨qy,h⟩ | ⟨qy,h⟩
  ·refine ak (congrArg some qy) (ak (congrArg some qy) (ak (congrArg some qy) (sv (B true) (aK (congrArg B qy) rfl) (bo ?_))));obtain rfl:=sj h;exact ⟨rfl,_,Cv,cC rfl,rfl,H.se [0,1]⟩
  ·refine bW (v:=(Sl yp vP vi)) (congrArg some qy) (ai rfl) (bz h λr7 zb h=> ?_);have zM:= @jW _ yp vi _ zb;refine bY (bh zM (cY zM.fn rfl) aQ (H.se [1,0,1]:Hp S0 aq _ ([_]++_))) (aA rfl (by exact (congrArg some qy))) ?_;rintro _ xj ⟨_,⟨rfl,rfl⟩,H, -⟩;replace H:Hp _ _ _ [_,_]:=H;refine bW (v:=(B (!r7))) (congrArg some qy) (cO rfl) (sv (B (!r7)) (ax (congrArg B qy) rfl) (bo ?_));obtain rfl:=sj h;exact ⟨rfl,_,xj,cC rfl,rfl,H.se [0,1]⟩
 ·replace h:=h';clear h' H;rintro e a w ⟨rfl,ρ,wu,rfl,rfl,H⟩;refine az (gB h (λqv h=> ?_) (λqv h=> ?_))
  ·refine k1 (aJ (I (-1)) (k7 (aF ?_)));obtain rfl:=sj h;exact en Tryz.results74 ⟨rfl,rfl⟩ (H.se [])
  ·refine k6 (bz h λakA Bc h=> ?_);obtain ⟨I6,ais⟩:=EO Bc;clear Bc ais;obtain ⟨Na,sg,rfl,rK⟩:=(H.fj 0).arr (qa2 (by decide) I6);refine bz h λakB O5 h=> ?_;obtain ⟨WM,ait⟩:=EO O5;clear O5 ait;obtain ⟨b22,P4,rfl,zX⟩:=(H.fj 1).arr (qa2 (by decide) WM);refine bz h λuo I7 h=> ?_;have IQ:=Eb (by rw [qan];have:=I6;omega) (by rw [qan];have:=WM;omega) I7;have Hs:=H;refine BD (σ:=wu) (Nm:=Unit) 8 [7] [[false],[true]] ([[(0,0),(1,1)]]++rp 6 [(0,0)]++[[(0,1)]]) 1 [λ_ ck=>Hp S0 aq ck [Ch.ro 0 (Sl (some ⟨Na,sg,none⟩) ua uA) ua,Ch.ro 0 (Sl (some ⟨b22,P4,none⟩) vP vi) vP]/\Md (dv []) wu ck,λ_ ck=>Hp S0 aq ck [Ch.ro 0 (Sl (some ⟨Na,sg,none⟩) ua uA) ua,Ch.ro 0 (Sl (some ⟨b22,P4,none⟩) vP vi) vP]/\Md (dv []) wu ck/\uo.length=4] [λ_=>(I bN),λ_=>(Sl (some ⟨Na,sg,none⟩) ua uA),λ_=>(.pointer (some ⟨Na,sg,none⟩)),λ_=>(.agg (List.map I (List.take 4 ua)).toArray),λ_=>(Sl (some ⟨b22,P4,none⟩) vP vi),λ_=>(.pointer (some ⟨b22,P4,none⟩)),λ_=>(.agg (List.map I (List.take 4 vP)).toArray),λ_=>(.agg (List.map I uo).toArray)] () (by kernel_rfl) (by kernel_rfl) (BG H) ?_ ?_
   ·refine fy (λ_ _ _ o d=>ai (lo o 0)) (fy (λ_ _ _ o d=>ai (lo o 1)) (fy (λ_ _ _ o d=>EN Lz.zF (dq d 1 16) I6) (all_cons ⟨?_,trivial⟩ ?_)))
    ·intro _nm ρ ck hJ aY aG;have e17:=dq aG 2 17;obtain ⟨H,m⟩:=id hJ;replace rK:=(Hs.ro 0 rfl).RF rK m;exact qR (bp (cs:=List.map I (List.take 4 ua)) Lz.zF rfl AE e17 (by rw [qbu,qan];have:=I6;omega) (Iq rK)) hJ
    refine fy (λ_ _ _ o d=>ai (lo o 2)) (fy (λ_ _ _ o d=>EN Lz.zF (dq d 4 19) WM) (all_cons ⟨?_,trivial⟩ ?_))
    ·intro _nm ρ ck hJ aY aG;have e20:=dq aG 5 20;obtain ⟨H,m⟩:=id hJ;replace zX:=(Hs.ro 1 rfl).RF zX m;exact qR (bp (cs:=List.map I (List.take 4 vP)) Lz.zF rfl AE e20 (by rw [qbu,qan];have:=WM;omega) (Iq zX)) hJ
    refine all_cons ⟨?_,trivial⟩ ?_
    ·intro _nm ρ ck hJ aY aG;have GJ:look 24 ρ 18=(.agg (List.map I (List.take 4 ua)).toArray):=dq aG 3 18;have e21:look 24 ρ 21=(.agg (List.map I (List.take 4 vP)).toArray):=dq aG 6 21;obtain ⟨H,m⟩:=id hJ;refine jK wn (bh IQ (cY IQ.fn (by show [look 24 ρ 18,look 24 ρ 21]=_;rw [GJ,e21])) aQ (H.se [0,1]:Hp S0 aq _ ([]++_))) ?_;rintro _ vf ⟨_,⟨rfl,rfl,aaP⟩,H2,m2⟩;exact ⟨_,(),rfl,rfl,⟨H2.se [0,1],m.jj m2,aaP⟩,uG [0,1,2,3,4,5,6]⟩
    exact all_nil
   ·intro _nm ρ GC hJ aY eM;obtain ⟨H, -, aaP⟩:=hJ;clear Hs;refine BH aY eM [(15,(I bN)),(22,(.agg (List.map I uo).toArray))] [0,7] (bz h λuu AX h=> ?_);refine cl (yo aaP AX) aQ (H.se [0,1]:Hp S0 aq _ ([]++_)) ?_;rintro _ IW ⟨_,⟨rfl,rfl⟩,H⟩;replace H:Hp _ _ _ [_,_]:=H;refine aJ (I uu) (k7 ?_);obtain rfl:=sj h;exact en Tryz.results74 ⟨rfl,rfl⟩ (H.se [])
theorem og{bQ AB DJ cA cB ym zU xl tG tH Ta Tb E2 GH Ba zV zW r}(h:M.dJ bQ AB DJ=some r):
  bL Lz.prog 73 [(.agg #[(I bQ.1),(Sl cA bQ.2.1 cB),(I bQ.2.2)]),(pt zU xl),(pt GH Ba)] [Ch.ro 0 (Sl cA bQ.2.1 cB) bQ.2.1,Ch.bx ym zU xl [(I AB)] tG tH,Ch.bx E2 GH Ba [(Sl Ta DJ Tb)] zV zW,Ch.ro 0 (Sl Ta DJ Tb) DJ] (λn0 v L=>v=(I r)/\L=[Ch.bx ym zU xl [(I AB)] tG tH,Ch.bx E2 GH Ba [(Sl Ta DJ Tb)] zV zW]):=by
 refine cI Lz.N73 ?_;intro S0 aq n0 aQ H;unfold M.dJ at h;refine k1 (bE (gm (cs:=[(I bQ.1),(Sl cA bQ.2.1 cB),(I bQ.2.2)]) H aQ rfl rfl) wn ?_);rintro _ iL ⟨b1,rfl,H, -⟩;refine aJ (I 0) (k4 (sv (I AB) (an Lz.U3 rfl rfl (H.eW 2 0)) (sv (pt b1 1) (aj (off:=1) Lz.mE rfl CE rfl rfl) (sv (Sl cA bQ.2.1 cB) (an Lz.oq rfl rfl (H.eW 0 1)) (sv (Sl Ta DJ Tb) (an Lz.oq rfl rfl (H.eW 3 0)) (bz h λr6 ue h=> ?_))))));refine cl (@Bd _ _ _ cA cB Ta Tb _ ue) aQ (H.se [1,4,0,1,2,3,4]:Hp S0 aq _ ([_,_]++_)) ?_;rintro _ Sy ⟨_,⟨rfl,rfl⟩,H⟩;replace H:Hp _ _ _ [_,_,_,_,_]:=H;refine aJ (I r6) (k7 ?_);obtain rfl:=sj h;exact en Tryz.results73 ⟨rfl,rfl⟩ (H.se [2,3])
theorem oI{dT fe eo er gy dP da dQ dR r}(h:M.fz dT fe=some r):
    bL Lz.prog 189 [(pt dP da),(.iface 35 (.agg #[(I fe.1),(I fe.2)]))] [Ch.bx gy dP da [(Sl eo dT er)] dQ dR,Ch.own 0 0 (Sl eo dT er) dT] (λn0 v L=> ∃du db,v=(.tuple #[])/\L=[Ch.bx gy dP da [(Sl du r db)] dQ dR,Ch.own 0 0 (Sl du r db) r]):=by
 refine cI Lz.aho ?_;intro S0 aq n0 aQ H;unfold M.fz at h;have F7:=H.cell (u:=(Sl eo dT er)) (o':=da) 0 0 rfl rfl rfl;refine bz h λIK M9 h=> ?_;refine BD (σ:=aq) (Nm:=(Nat)×(Option Addr)×(Nat)) 8 [6,7] [[false,false],[true,false],[true,true]] ([[(0,0),(1,1),(2,2)]]++rp 3 [(0,0),(1,1)]++[[(0,0)],[(0,0)],[(0,1)],[(1,2)]]) 2 [λ⟨b2,a5,c6⟩ ck=>Hp S0 aq ck [Ch.bx gy dP da [(Sl eo dT er)] dQ dR,Ch.own 0 0 (Sl eo dT er) dT]/\Md (dv []) aq ck,λ⟨b2,a5,c6⟩ ck=>Hp S0 aq ck [Ch.own n0 n0 (Sl (some ⟨b2,0,none⟩) ([(fe.1,fe.2)]:List (Int×Int)) 1) ([(fe.1,fe.2)]:List (Int×Int)),Ch.bx gy dP da [(Sl eo dT er)] dQ dR,Ch.own 0 0 (Sl eo dT er) dT]/\Md (dv []) aq ck,λ⟨b2,a5,c6⟩ ck=>Hp S0 aq ck [Ch.own 0 0 (Sl a5 IK c6) IK,Ch.own n0 n0 (Sl (some ⟨b2,0,none⟩) ([(fe.1,fe.2)]:List (Int×Int)) 1) ([(fe.1,fe.2)]:List (Int×Int)),Ch.bx gy dP da [(Sl eo dT er)] dQ dR]/\Md (λi=>(dv []) i\/(λb=>blk (Sl eo dT er)=some b) i) aq ck] (Gq (rp 3 (λ⟨b2,a5,c6⟩=>(pt dP da))) [λ⟨b2,a5,c6⟩=>(Sl eo dT er),λ⟨b2,a5,c6⟩=>(.iface 35 (.agg #[(I fe.1),(I fe.2)])),λ⟨b2,a5,c6⟩=>(.agg #[(I fe.1),(I fe.2)]),λ⟨b2,a5,c6⟩=>(Sl (some ⟨b2,0,none⟩) ([(fe.1,fe.2)]:List (Int×Int)) 1),λ⟨b2,a5,c6⟩=>(Sl a5 IK c6)]) (0,none,0) (by kernel_rfl) (by kernel_rfl) (BG H) ?_ ?_
 ·refine fy (λ⟨b2,a5,c6⟩ _ _ o d=>ai (lo o 0)) (fy (λ⟨b2,a5,c6⟩ _ _ o d=>ai (lo o 0)) (fy (λ⟨b2,a5,c6⟩ _ _ o d=>cG (dq d 1 5)) (all_cons ⟨?_, ?_,trivial⟩ ?_)))
  ·rintro ⟨b2,a5,c6⟩ ρ ck hJ aY aG;have e6:=dq aG 2 6;obtain ⟨H,m⟩:=id hJ;have F7:=H.cell (u:=(Sl eo dT er)) (o':=da) 0 0 rfl rfl rfl;exact qR (an Lz.mj rfl e6 F7) hJ
  ·rintro ⟨b2,a5,c6⟩ ρ ck hJ aY aG;have e6:=dq aG 2 6;obtain ⟨H,m⟩:=id hJ;have F7:=H.cell (u:=(Sl eo dT er)) (o':=da) 1 0 rfl rfl rfl;exact qR (an Lz.mj rfl e6 F7) hJ
  refine fy (λ⟨b2,a5,c6⟩ _ _ o d=>ai (lo o 1)) (fy (λ⟨b2,a5,c6⟩ _ _ o d=>DY Lz.jU rfl (dq d 4 8)) (all_cons ⟨?_,trivial⟩ ?_))
  ·rintro ⟨b2,a5,c6⟩ ρ ck hJ aY aG;have e9:look 13 ρ 9=(.agg #[(I fe.1),(I fe.2)]):=dq aG 5 9;obtain ⟨H,m⟩:=id hJ;refine yf wn (aN (el:=n0) (xs:=([(fe.1,fe.2)]:List (Int×Int))) (ps:=[(0,(.agg #[(I fe.1),(I fe.2)]))]) (cs:=[(I fe.1),(I fe.2)]) H aQ Lz.mj bO rfl (by show [(0,look 13 ρ 9)]=_;rw [e9]) (by kernel_rfl) (.cons (c:=[(I fe.1),(I fe.2)]) ⟨[(I fe.1)],[(I fe.2)],rfl,rfl,rfl⟩ (.nil)) rfl) ?_;rintro _ vf ⟨b2x,rfl,H2,m2⟩;exact ⟨_,(b2x,a5,c6),rfl,rfl,⟨H2.se [0,1,2],m.jj m2⟩,uG [0,1,2,3,4,5]⟩
  refine all_cons ⟨?_,trivial⟩ ?_
  ·rintro ⟨b2,a5,c6⟩ ρ ck hJ aY aG;have e7:=dq aG 3 7;have WN:=dq aG 6 10;obtain ⟨H,m⟩:=id hJ;refine yf wn (fb H (i:=2) rfl Lz.mj Lz.mj bO rfl rfl (by decide) ((H.gK 0).rd.sc) M9 (qa8 _) e7 WN) ?_;rintro _ vf ⟨a5x,c6x,rfl,H2,m2⟩;exact ⟨_,(b2,a5x,c6x),rfl,rfl,⟨H2.se [0,1,2],m.comp m2⟩,uG [0,1,2,3,4,5,6]⟩
  exact all_nil
 ·rintro ⟨b2,a5,c6⟩ ρ IT hJ aY eM;obtain ⟨H, -⟩:=hJ;refine BH aY eM [(0,(pt dP da)),(4,(pt dP da)),(11,(Sl a5 IK c6))] [0,7] (sv (pt dP da) (cG rfl) (gk (bK (k:=0) (cs:=[(Sl eo dT er)]) (vs:=[(Sl a5 IK c6)]) (cs':=[(Sl a5 IK c6)]) H (i:=2) rfl CG rfl rfl rfl rfl rfl (qa5 rfl) (by simp [plain]) rfl) wn ?_));rintro WE ⟨H, -⟩;refine bo ?_;obtain rfl:=sj h;exact vO (v:=(.tuple #[])) (cv Tryz.results189 eU rfl) ⟨a5,c6,rfl,rfl⟩ (H.se [0,1])
theorem qz{dT eo er r}(h:M.iz dT=some r):
  bL Lz.prog 182 [(Sl eo dT er)] [Ch.ro 0 (Sl eo dT er) dT] (λn0 v L=>v=(I r)/\L=[]):=by
 refine cI Lz.ahk ?_;intro S0 aq n0 aQ H;unfold M.iz at h;refine k1 (aJ (I 0) (k4 (av (Sl eo dT er) (sv (I (dT.length:Int)) (bF Lz.mj rfl) (aJ (I (dT.length:Int)) (k7 ?_))))));obtain rfl:=sj h;exact en Tryz.results182 ⟨rfl,rfl⟩ (H.se [])
theorem ug{bQ r}(h:M.cmp_isNaN_int bQ=some r):
  bL Lz.prog 119 [(I bQ)] [] (λn0 v L=>v=(B r)/\L=[]):=by
 refine cI Lz.agO ?_;intro S0 aq n0 aQ H;unfold M.cmp_isNaN_int at h;refine k1 (aJ (B false) (k4 (av (I bQ) (av (I bQ) (sv (B (bQ != bQ)) (KU rfl rfl) (aJ (B (bQ != bQ)) (k7 ?_)))))));obtain rfl:=sj h;exact en Tryz.results119 ⟨rfl,rfl⟩ (H.se [])
theorem nE{bQ Sk r}(h:M.gM bQ Sk=some r):
    bL Lz.prog 78 [(I bQ),(I Sk)] [] (λn0 v L=>v=(I r)/\L=[]):=by
 refine cI Lz.N78 ?_;intro S0 aq n0 aQ H;unfold M.gM at h;refine k1 (aJ (I 0) (k4 (av (I bQ) (bz h λr1 oN h=> ?_))));refine cl (ug oN) aQ (H.se []:Hp S0 aq _ ([]++_)) ?_;rintro _ uH ⟨_,⟨rfl,rfl⟩,H⟩;replace H:Hp _ _ _ []:=H;refine aJ (B r1) (k4 (av (I Sk) (bz h λr5 rT h=> ?_)));refine cl (ug rT) aQ (H.se []:Hp S0 aq _ ([]++_)) ?_;rintro _ WE ⟨_,⟨rfl,rfl⟩,H⟩;replace H:Hp _ _ _ []:=H;refine aJ (B r5) (k5 (av (B r1) (k2 (gB h (λhb9 h=> ?_) (λhb9 h=> ?_)))))
 ·refine dy (k1 (av (B r5) (k2 (gB h (λfJ h=> ?_) (λfJ h=> ?_)))))
  ·refine k1 (aJ (I 0) (k7 (aF (aF ?_))));obtain rfl:=sj h;exact en Tryz.results78 ⟨rfl,rfl⟩ (H.se [])
  ·refine k6 (rg (aJ (I (-1)) (k7 (aF ?_))));obtain rfl:=sj h;exact en Tryz.results78 ⟨rfl,rfl⟩ (H.se [])
 ·refine k6 (k1 (av (B r5) (k2 (gB h (λmG h=> ?_) (λmG h=> ?_)))))
  ·refine k1 (aJ (I 1) (k7 (aF ?_)));obtain rfl:=sj h;exact en Tryz.results78 ⟨rfl,rfl⟩ (H.se [])
  ·refine k6 (k1 (av (I bQ) (av (I Sk) (sv (B (decide (bQ<Sk))) (cD rfl rfl) (k2 (gB h (λqv h=> ?_) (λqv h=> ?_)))))))
   ·refine k1 (aJ (I (-1)) (k7 (aF ?_)));obtain rfl:=sj h;exact en Tryz.results78 ⟨rfl,rfl⟩ (H.se [])
   ·refine k6 (k1 (av (I bQ) (av (I Sk) (sv (B (decide (Sk<bQ))) (iC rfl rfl) (k2 (gB h (λoc h=> ?_) (λoc h=> ?_)))))))
    ·refine k1 (aJ (I 1) (k7 (aF ?_)));obtain rfl:=sj h;exact en Tryz.results78 ⟨rfl,rfl⟩ (H.se [])
    ·refine k6 (rg (aJ (I 0) (k7 ?_)));obtain rfl:=sj h;exact en Tryz.results78 ⟨rfl,rfl⟩ (H.se [])
theorem GK{nt yq yr r}(h:M.qo nt=some r):
    bL Lz.prog 132 [(Sl yq nt yr)] [Ch.ro 0 (Sl yq nt yr) nt] (λn0 v L=>v=(I r)/\L=[]):=by
 refine cI Lz.agR ?_;intro S0 aq n0 aQ H;unfold M.qo at h;refine k1 (aJ (I 0) (k4 (aJ (I 0) (k5 (av (Sl yq nt yr) (sv (I (nt.length:Int)) (bF Lz.oq rfl) (av (I 0) (k2 ?_))))))));obtain ⟨o1,h,h'⟩:=bind_some h;refine cj (λe a w=>(∃t,o1=(.inl t)/\e= .normal/\ ∃ρ σ,a=fr 18 (cz ρ [(3,(I 0))])/\w=σ.w/\Hp S0 aq σ [])\/(∃t,o1=(.inr t)/\e= .ret/\ ∃ρ σ,a=fr 18 (cz ρ [(2,(I t))])/\w=σ.w/\Hp S0 aq σ [])) ?_ ?_
 ·clear h';refine bV (bZ _ h (λs2 a w=> ∃ρ σ,a=fr 18 (cz ρ [(3,(I 0)),(6,(Sl yq nt yr)),(7,(I (nt.length:Int))),(8,(I s2))])/\w=σ.w/\Hp S0 aq σ [Ch.ro 0 (Sl yq nt yr) nt]) ⟨_,aq,cC rfl,rfl,H.se [0]⟩ ?_);clear h H;rintro s2 a w o ⟨ρ,jh,rfl,rfl,H⟩ h cE;refine k1 (sv (B (decide (s2<(nt.length:Int)))) (cD rfl rfl) (k3 (gB h (λuv h=> ?_) (λuv h=> ?_))))
  ·refine k6 (bV (k1 (bz h λx5 rT h=> ?_)));obtain ⟨b8,o9,CN, -⟩:=(H.fj 0).ix rT;refine sv (pt b8 o9) (bR Lz.oq gx rfl rfl CN) ?_;have ve:=((H.fj 0).at rT CN).int;refine sv (I x5) (an Lz.U3 rfl rfl ve) (aJ (I x5) (k4 (av (I x5) (av (I 0) (sv (B (x5 != 0)) (KU rfl rfl) (k2 (gB h (λmG h=> ?_) (λmG h=> ?_))))))))
   ·refine k1 (av (I x5) (aJ (I x5) (k7 (dD (aF (aF (dD ?_)))))));obtain rfl:=sj h;obtain rfl:=cE _ rfl;exact .inr (⟨_,rfl,rfl,_,jh,cC rfl,rfl,H.se []⟩)
   ·refine eF (bX (az (rg (sv (I (ao (s2+1))) (cF rfl rfl) (av (I (ao (s2+1))) (k2 ?_))))));obtain rfl:=sj h;exact ⟨_,rfl,_,jh,cC rfl,rfl,H.se [0]⟩
  ·refine dH (aC (aC (bD ?_)));obtain rfl:=sj h;obtain rfl:=cE _ rfl;exact .inl ⟨_,rfl,rfl,_,jh,cC rfl,rfl,H.se []⟩
 ·replace h:=h';clear h' H;rintro e a w (⟨t12,rfl,rfl,ρ,zH,rfl,rfl,H⟩ | ⟨t14,rfl,rfl,ρ,mS,rfl,rfl,H⟩)
  ·replace h:=kN h;refine az (k1 (av (I 0) (aJ (I 0) (k7 ?_))));obtain rfl:=sj h;exact en Tryz.results132 ⟨rfl,rfl⟩ (H.se [])
  ·replace h:=kO h;refine aF ?_;obtain rfl:=sj h;exact en Tryz.results132 ⟨rfl,rfl⟩ (H.se [])
theorem mH{eJ eT r}(h:M.dp eJ eT=some r):
    bL Lz.prog 104 [(.agg #[(I eJ.1),(I eJ.2)]),(.agg #[(I eT.1),(I eT.2)])] [] (λn0 v L=>v=(I r)/\L=[]):=by
 refine cI Lz.ac6 ?_;intro S0 aq n0 aQ H;unfold M.dp at h;refine k1 (bE (gm (cs:=[(I eJ.1),(I eJ.2)]) H aQ rfl rfl) wn ?_);rintro _ iL ⟨b1,rfl,H, -⟩;refine bE (gm (cs:=[(I eT.1),(I eT.2)]) H aQ rfl rfl) wn ?_;rintro _ uH ⟨b3,rfl,H, -⟩;refine aJ (I 0) (k3 ?_);have Nf:=H.cell (u:=(I eJ.2)) (o':=1) 1 1 rfl rfl rfl;have YT:=H.cell (u:=(I eT.2)) (o':=1) 0 1 rfl rfl rfl;refine bz h λr7 zb h=> ?_;have zM:=nE zb;have ve:=H.cell (u:=(I eJ.1)) (o':=0) 1 0 rfl rfl rfl;have nF:=H.cell (u:=(I eT.1)) (o':=0) 0 0 rfl rfl rfl;refine BD (σ:=uH) (Nm:=Unit) 9 [4] [[false],[true]] (rp 4 [(0,0)]++[[(0,1)]]++rp 4 [(0,0),(1,1)]) 1 (rp 2 (λ_ ck=>Hp S0 aq ck [Ch.bx n0 b3 0 [(I eT.1),(I eT.2)] [] [],Ch.bx n0 b1 0 [(I eJ.1),(I eJ.2)] [] []]/\Md (dv []) uH ck)) [λ_=>(pt b1 1),λ_=>(I eJ.2),λ_=>(pt b3 1),λ_=>(I eT.2),λ_=>(I r7),λ_=>(pt b1 0),λ_=>(I eJ.1),λ_=>(pt b3 0),λ_=>(I eT.1)] () (by kernel_rfl) (by kernel_rfl) (BG H) ?_ ?_
 ·refine fy (λ_ _ _ o d=>aj (off:=1) Lz.jU rfl gx rfl (lo o 2)) (all_cons ⟨?_,trivial⟩ ?_)
  ·intro _nm ρ ck hJ aY aG;have e5:=dq aG 0 5;obtain ⟨H,m⟩:=id hJ;have Nf:=H.cell (u:=(I eJ.2)) (o':=1) 1 1 rfl rfl rfl;exact qR (an Lz.U3 rfl e5 Nf) hJ
  refine fy (λ_ _ _ o d=>aj (off:=1) Lz.jU rfl gx rfl (lo o 3)) (all_cons ⟨?_,trivial⟩ ?_)
  ·intro _nm ρ ck hJ aY aG;have e7:=dq aG 2 7;obtain ⟨H,m⟩:=id hJ;have YT:=H.cell (u:=(I eT.2)) (o':=1) 0 1 rfl rfl rfl;exact qR (an Lz.U3 rfl e7 YT) hJ
  refine all_cons ⟨?_,trivial⟩ ?_
  ·intro _nm ρ ck hJ aY aG;have e6:look 17 ρ 6=(I eJ.2):=dq aG 1 6;have e8:look 17 ρ 8=(I eT.2):=dq aG 3 8;obtain ⟨H,m⟩:=id hJ;refine jK wn (bh zM (cY zM.fn (by show [look 17 ρ 6,look 17 ρ 8]=_;rw [e6,e8])) aQ (H.se [0,1]:Hp S0 aq _ ([]++_))) ?_;rintro _ vf ⟨_,⟨rfl,rfl⟩,H2,m2⟩;exact ⟨_,(),rfl,rfl,⟨H2.se [0,1],m.jj m2⟩,uG [0,1,2,3,5,6,7,8]⟩
  refine fy (λ_ _ _ o d=>aj (off:=0) Lz.jU rfl gx rfl (lo o 2)) (all_cons ⟨?_, ?_,trivial⟩ ?_)
  ·intro _nm ρ ck hJ aY aG;have WN:=dq aG 5 10;obtain ⟨H,m⟩:=id hJ;have ve:=H.cell (u:=(I eJ.1)) (o':=0) 1 0 rfl rfl rfl;exact qR (an Lz.U3 rfl WN ve) hJ
  ·intro _nm ρ ck hJ aY aG;have WN:=dq aG 5 10;obtain ⟨H,m⟩:=id hJ;have ve:=H.cell (u:=(I eJ.1)) (o':=0) 1 0 rfl rfl rfl;exact qR (an Lz.U3 rfl WN ve) hJ
  refine fy (λ_ _ _ o d=>aj (off:=0) Lz.jU rfl gx rfl (lo o 3)) (all_cons ⟨?_, ?_,trivial⟩ ?_)
  ·intro _nm ρ ck hJ aY aG;have SF:=dq aG 7 12;obtain ⟨H,m⟩:=id hJ;have nF:=H.cell (u:=(I eT.1)) (o':=0) 0 0 rfl rfl rfl;exact qR (an Lz.U3 rfl SF nF) hJ
  ·intro _nm ρ ck hJ aY aG;have SF:=dq aG 7 12;obtain ⟨H,m⟩:=id hJ;have nF:=H.cell (u:=(I eT.1)) (o':=0) 0 0 rfl rfl rfl;exact qR (an Lz.U3 rfl SF nF) hJ
  exact all_nil
 ·intro _nm ρ vd hJ aY eM;obtain ⟨H, -⟩:=hJ;refine BH aY eM [(9,(I r7)),(11,(I eJ.1)),(13,(I eT.1))] [4,6,8] (bz h λP2 Bc h=> ?_);refine cl (nE Bc) aQ (H.se [0,1]:Hp S0 aq _ ([]++_)) ?_;rintro _ ux ⟨_,⟨rfl,rfl⟩,H⟩;replace H:Hp _ _ _ [_,_]:=H;refine bE (aN (el:=n0) (xs:=([r7,P2]:List Int)) (ps:=[(0,(I r7)),(1,(I P2))]) (cs:=[(I r7),(I P2)]) H aQ Lz.oq gx rfl rfl (by kernel_rfl) (.cons (c:=[(I r7)]) rfl (.cons (c:=[(I P2)]) rfl (.nil))) rfl) wn ?_;rintro _ qU ⟨b17,rfl,H, -⟩;obtain ⟨zK,adO,H, -⟩:=H.kR 0;rw [←adO];clear adO;replace H:=H.iU 0 0 rfl (qa8 _);refine bz h λr21 GG h=> ?_;refine cl (@GK _ (some ⟨b17,0,none⟩) 2 _ GG) aQ (H.se [0,0,1,2,3]:Hp S0 aq _ ([_]++_)) ?_;rintro _ Gx ⟨_,⟨rfl,rfl⟩,H⟩;replace H:Hp _ _ _ [_,_,_,_]:=H;refine aJ (I r21) (k7 ?_);obtain rfl:=sj h;exact en Tryz.results104 ⟨rfl,rfl⟩ (H.se [])
theorem lU{dT vR y7 eo er r}(h:M.dV dT vR y7=some r):
  bL Lz.prog 183 [(Sl eo dT er),(I vR),(I y7)] [Ch.ro 0 (Sl eo dT er) dT] (λn0 v L=>v=(B r)/\L=[]):=by
 refine cI Lz.ahl ?_;intro S0 aq n0 aQ H;unfold M.dV at h;refine k1 (aJ (B false) (k3 (La (σ:=aq) 8 (by kernel_rfl) (by kernel_rfl) (by kernel_rfl) ?_)));refine eh (Sl eo dT er) (ai rfl) (eh (I vR) (ai rfl) (bz h λx1 oN h=> ?_));obtain ⟨b4,o5,P0, -⟩:=(H.fj 0).ix oN;refine eh (pt b4 o5) (bR Lz.mj bO rfl rfl P0) ?_;obtain ⟨_,⟨_,_,rfl,rfl,rfl⟩,DR,UW⟩:=((H.fj 0).at oN P0).cells;refine eh (.agg #[(I x1.1),(I x1.2)]) (bp Lz.jU rfl bO rfl DR UW) (eh (Sl eo dT er) (ai rfl) (eh (I y7) (ai rfl) (bz h λx8 Lt h=> ?_)));obtain ⟨I2,o12,GI, -⟩:=(H.fj 0).ix Lt;refine eh (pt I2 o12) (bR Lz.mj bO rfl rfl GI) ?_;obtain ⟨_,⟨_,_,rfl,rfl,rfl⟩,O3,kj⟩:=((H.fj 0).at Lt GI).cells;refine eh (.agg #[(I x8.1),(I x8.2)]) (bp Lz.jU rfl bO rfl O3 kj) (kJ ?_);intro mS adP;replace H:=H.grow (adP.mono λ_ h=>h);clear adP;refine bz h λkS oW h=> ?_;refine cl (mH oW) aQ (H.se [0]:Hp S0 aq _ ([]++_)) ?_;rintro _ D8 ⟨_,⟨rfl,rfl⟩,H⟩;replace H:Hp _ _ _ [_]:=H;refine sv (B (decide (0<kS))) (iC rfl rfl) (aJ (B (decide (0<kS))) (k7 ?_));obtain rfl:=sj h;exact en Tryz.results183 ⟨rfl,rfl⟩ (H.se [])
theorem lV{dT vR y7 eo er r}(h:M.fH dT vR y7=some r):
    bL Lz.prog 184 [(Sl eo dT er),(I vR),(I y7)] [Ch.own 0 0 (Sl eo dT er) dT] (λn0 v L=>v=(.tuple #[])/\L=[Ch.own 0 0 (Sl eo r er) r]/\r.length=dT.length):=by
 refine cI Lz.ahm ?_;intro S0 aq n0 aQ H;unfold M.fH at h;refine bz h λx1 oN h=> ?_;obtain ⟨b4,o5,P0, -⟩:=(H.gK 0).ix oN;obtain ⟨_,⟨_,_,rfl,rfl,rfl⟩,DR,UW⟩:=((H.gK 0).at oN P0).cells;refine bz h λx8 Lt h=> ?_;obtain ⟨I2,o12,GI, -⟩:=(H.gK 0).ix Lt;obtain ⟨_,⟨_,_,rfl,rfl,rfl⟩,O3,kj⟩:=((H.gK 0).at Lt GI).cells;refine bz h λUR Ec h=> ?_;obtain ⟨b18,M6,O6, -⟩:=(H.gK 0).ix Ec;refine BD (σ:=aq) (Nm:=Unit) 14 [13] [[false],[true]] ([[(0,0)],[(0,0)]]++rp 2 [(0,0),(1,1)]++rp 9 [(0,0)]++[[(0,1)]]) 1 [λ_ ck=>Hp S0 aq ck [Ch.own 0 0 (Sl eo dT er) dT]/\Md (dv []) aq ck,λ_ ck=>Hp S0 aq ck [Ch.own 0 0 (Sl eo dT er) (dT.set vR.toNat (x1.1,x1.2))]/\Md (λi=>(dv []) i\/(λb=>blk (Sl eo dT er)=some b) i) aq ck] [λ_=>(Sl eo dT er),λ_=>(I vR),λ_=>(Sl eo dT er),λ_=>(I y7),λ_=>(Sl eo dT er),λ_=>(I y7),λ_=>(pt b4 o5),λ_=>(.agg #[(I x1.1),(I x1.2)]),λ_=>(Sl eo dT er),λ_=>(I vR),λ_=>(pt I2 o12),λ_=>(.agg #[(I x8.1),(I x8.2)]),λ_=>(pt b18 M6),λ_=>undef] () (by kernel_rfl) (by kernel_rfl) (BG H) ?_ ?_
 ·refine fy (λ_ _ _ o d=>ai (lo o 0)) (fy (λ_ _ _ o d=>ai (lo o 1)) (fy (λ_ _ _ o d=>ai (lo o 0)) (fy (λ_ _ _ o d=>ai (lo o 2)) (fy (λ_ _ _ o d=>ai (lo o 0)) (fy (λ_ _ _ o d=>ai (lo o 2)) (fy (λ_ _ _ o d=>bR Lz.mj bO (dq d 4 10) (dq d 5 11) P0) (all_cons ⟨?_,trivial⟩ ?_)))))))
  ·intro _nm ρ ck hJ aY aG;have SF:=dq aG 6 12;obtain ⟨H,m⟩:=id hJ;obtain ⟨_,⟨_,_,rfl,rfl,rfl⟩,DR,UW⟩:=((H.gK 0).at oN P0).cells;exact qR (bp Lz.jU rfl bO SF DR UW) hJ
  refine fy (λ_ _ _ o d=>ai (lo o 0)) (fy (λ_ _ _ o d=>ai (lo o 1)) (fy (λ_ _ _ o d=>bR Lz.mj bO (dq d 8 14) (dq d 9 15) GI) (all_cons ⟨?_,trivial⟩ ?_)))
  ·intro _nm ρ ck hJ aY aG;have e16:=dq aG 10 16;obtain ⟨H,m⟩:=id hJ;obtain ⟨_,⟨_,_,rfl,rfl,rfl⟩,O3,kj⟩:=((H.gK 0).at Lt GI).cells;exact qR (bp Lz.jU rfl bO e16 O3 kj) hJ
  refine fy (λ_ _ _ o d=>bR Lz.mj bO (dq d 0 6) (dq d 1 7) O6) (all_cons ⟨?_,trivial⟩ ?_)
  ·intro _nm ρ ck hJ aY aG;have GJ:=dq aG 12 18;have OS:=dq aG 7 13;obtain ⟨H,m⟩:=id hJ;refine aag wn rfl (jR (e':=(x1.1,x1.2)) (vs:=[(I x1.1),(I x1.2)]) (k:=0) H (i:=0) rfl bO Ec O6 GJ rfl OS rfl rfl (qa5 rfl) (by simp [plain]) (by rintro _ ⟨_,_,rfl,rfl,rfl⟩;exact ⟨[(I x1.1)],[(I x1.2)],rfl,rfl,rfl⟩)) ?_;rintro vf ⟨H2,m2⟩;exact ⟨_,(),rfl,⟨H2.se [0],m.comp m2⟩,uG [0,1,2,3,4,5,6,7,8,9,10,11,12]⟩
  exact all_nil
 ·intro _nm ρ D8 hJ aY eM;obtain ⟨H, -⟩:=hJ;refine BH aY eM [(0,(Sl eo dT er)),(8,(Sl eo dT er)),(9,(I y7)),(17,(.agg #[(I x8.1),(I x8.2)]))] [2,3,11] ?_;have oP:(Sl eo dT er)=(Sl eo (dT.set vR.toNat (x1.1,x1.2)) er):=oT (by simp);rw [oP];rw [oP] at H;clear oP;refine bz h λM4 GG h=> ?_;obtain ⟨b24,o25,Tc, -⟩:=(H.gK 0).ix GG;refine sv (pt b24 o25) (bR Lz.mj bO rfl rfl Tc) (gk (jR (e':=(x8.1,x8.2)) (vs:=[(I x8.1),(I x8.2)]) (k:=0) H (i:=0) rfl bO GG Tc rfl rfl rfl rfl rfl (qa5 rfl) (by simp [plain]) (by rintro _ ⟨_,_,rfl,rfl,rfl⟩;exact ⟨[(I x8.1)],[(I x8.2)],rfl,rfl,rfl⟩)) wn ?_);rintro adD ⟨H, -⟩;have oP:(Sl eo (dT.set vR.toNat (x1.1,x1.2)) er)=(Sl eo ((dT.set vR.toNat (x1.1,x1.2)).set y7.toNat (x8.1,x8.2)) er):=oT qb3.symm;rw [oP];rw [oP] at H;clear oP;refine bo ?_;obtain rfl:=sj h;exact vO (v:=(.tuple #[])) (cv Tryz.results184 eU rfl) ⟨rfl,rfl,(qb3.trans qb3)⟩ (H.se [0])
theorem mU{dT j_1 eo er gy dP da dQ dR r}(h:M.bu dT j_1=some r):
    bL Lz.prog 155 [(.iface 152 (pt dP da)),(I j_1)] [Ch.bx gy dP da [(Sl eo dT er)] dQ dR,Ch.own 0 0 (Sl eo dT er) dT] (λn0 v L=> ∃du db,v=(.tuple #[])/\L=[Ch.bx gy dP da [(Sl du r db)] dQ dR,Ch.own 0 0 (Sl du r db) r]):=by
 refine cI Lz.ahb ?_;intro S0 aq n0 aQ H;unfold M.bu at h;obtain ⟨o1,h,h'⟩:=bind_some h;refine cj (λe a w=>e= .normal/\ ∃ρ σ et ew,a=fr 23 (cz ρ [(0,(.iface 152 (pt dP da)))])/\w=σ.w/\Hp S0 aq σ [Ch.bx gy dP da [(Sl et o1 ew)] dQ dR,Ch.own 0 0 (Sl et o1 ew) o1]) ?_ ?_
 ·clear h';refine bV (bZ _ h (λs2 a w=> ∃ρ σ et ew,a=fr 23 (cz ρ [(0,(.iface 152 (pt dP da))),(1,(I s2.2))])/\w=σ.w/\Hp S0 aq σ [Ch.bx gy dP da [(Sl et s2.1 ew)] dQ dR,Ch.own 0 0 (Sl et s2.1 ew) s2.1]) ⟨_,aq,eo,er,cC rfl,rfl,H.se [0,1]⟩ ?_);clear h H;rintro s2 a w o ⟨ρ,jh,a4,c5,rfl,rfl,H⟩ h cE;refine bV (k1 (av (I s2.2) (sv (I (ao (s2.2 - 1))) (ig rfl rfl) (sv (I (ao ((ao (s2.2 - 1)).tdiv 2))) (Cj rfl rfl (by decide)) (aJ (I (ao ((ao (s2.2 - 1)).tdiv 2))) (k3 (dy ?_)))))));obtain ⟨o6,h,h'⟩:=bind_some h;refine cj (Jn S0 aq 23 [(0,(.iface 152 (pt dP da))),(1,(I s2.2)),(4,(I (ao ((ao (s2.2 - 1)).tdiv 2)))),(17,(B o6))] [Ch.own 0 0 (Sl a4 s2.1 c5) s2.1,Ch.bx gy dP da [(Sl a4 s2.1 c5)] dQ dR]) ?_ ?_
  ·clear h';refine rg (av (I (ao ((ao (s2.2 - 1)).tdiv 2))) (av (I s2.2) (sv (B ((ao ((ao (s2.2 - 1)).tdiv 2))==s2.2)) (fA rfl rfl) (av (B ((ao ((ao (s2.2 - 1)).tdiv 2))==s2.2)) ?_))));rcases oF h with ⟨qs,h⟩ | ⟨qs,h⟩
   ·refine ak (congrArg some qs) (ak (congrArg some qs) (ak (congrArg some qs) (ak (congrArg some qs) (ak (congrArg some qs) (sv (B true) (aK (congrArg B qs) rfl) (bo ?_))))));obtain rfl:=sj h;exact ⟨rfl,_,jh,cC rfl,rfl,H.se [1,0]⟩
   ·refine bW (v:=(.iface 152 (pt dP da))) (congrArg some qs) (ai rfl) (bW (v:=(I s2.2)) (congrArg some qs) (ai rfl) (bW (v:=(I (ao ((ao (s2.2 - 1)).tdiv 2)))) (congrArg some qs) (ai rfl) (bz h λr8 Lt h=> ?_)));have ve:= @lU _ _ _ a4 c5 _ Lt;have hle:=qaa aQ H.size;refine bY (rh (gU.tu gU.nil) ve (u5 ve.fn (by kernel_rfl) Lz.AW Lz.mj rfl rfl (H.cell (u:=(Sl a4 s2.1 c5)) (o':=da) 0 0 rfl rfl rfl) rfl) (show Hp S0 aq _ ([Ch.own 0 0 (Sl a4 s2.1 c5) s2.1]++([]++[Ch.bx gy dP da [(Sl a4 s2.1 c5)] dQ dR])) from (H.se [1,0])) (by rintro _ _ _ ⟨rfl,rfl⟩;exact trivial)) (aA rfl (by exact (congrArg some qs))) ?_;rintro _ wu ⟨_,⟨rfl,rfl⟩,H, -, -⟩;replace H:Hp _ _ _ [_,_]:=H;clear hle;replace H:Hp _ _ _ [_,_]:=H;refine bW (v:=(B (!r8))) (congrArg some qs) (cO rfl) (sv (B (!r8)) (ax (congrArg B qs) rfl) (bo ?_));obtain rfl:=sj h;exact ⟨rfl,_,wu,cC rfl,rfl,H.se [0,1]⟩
  ·replace h:=h';clear h' H;rintro e a w ⟨rfl,ρ,vd,rfl,rfl,H⟩;refine az (gB h (λoc h=> ?_) (λoc h=> ?_))
   ·refine dH (aC (F9 (by decide) ?_));refine aC (bD ?_);obtain rfl:=sj h;obtain rfl:=cE _ rfl;exact ⟨rfl,_,vd,a4,c5,cC rfl,rfl,H.se [1,0]⟩
   ·refine k6 (rg (av (.iface 152 (pt dP da)) (av (I (ao ((ao (s2.2 - 1)).tdiv 2))) (av (I s2.2) (bz h λwG zO h=> ?_)))));have A6:= @lV _ _ _ a4 c5 _ zO;refine bY (bh A6 (u5 A6.fn (by kernel_rfl) Lz.AW Lz.mj rfl rfl (H.cell (u:=(Sl a4 s2.1 c5)) (o':=da) 1 0 rfl rfl rfl) rfl) aQ (H.se [0,1]:Hp S0 aq _ ([_]++_))) wn ?_;rintro _ qU ⟨_,⟨rfl,rfl,aiu⟩,H, -⟩;replace H:Hp _ _ _ [_,_]:=H;have oP:(Sl a4 s2.1 c5)=(Sl a4 wG c5):=oT aiu.symm
    try rw [oP]
    try rw [oP] at H
    clear oP;refine k2 (rg (av (I (ao ((ao (s2.2 - 1)).tdiv 2))) (aJ (I (ao ((ao (s2.2 - 1)).tdiv 2))) (bo (bX (az ?_))))));obtain rfl:=sj h;exact ⟨_,rfl,_,qU,a4,c5,cC rfl,rfl,H.se [1,0]⟩
 ·replace h:=h';clear h' H;rintro e a w ⟨rfl,ρ,zK,a20,nQ,rfl,rfl,H⟩;obtain rfl:=sj h;exact vO (v:=(.tuple #[])) (cv Tryz.results155 eU rfl) ⟨a20,nQ,rfl,rfl⟩ (H.se [0,1])
theorem jk{dT fe eo er gy dP da dQ dR r}(h:M.bP dT fe=some r):
  bL Lz.prog 138 [(.iface 152 (pt dP da)),(.iface 35 (.agg #[(I fe.1),(I fe.2)]))] [Ch.bx gy dP da [(Sl eo dT er)] dQ dR,Ch.own 0 0 (Sl eo dT er) dT] (λn0 v L=> ∃du db,v=(.tuple #[])/\L=[Ch.bx gy dP da [(Sl du r db)] dQ dR,Ch.own 0 0 (Sl du r db) r]):=by
 refine cI Lz.agX ?_;intro S0 aq n0 aQ H;unfold M.bP at h;refine k1 (av (.iface 152 (pt dP da)) (av (.iface 35 (.agg #[(I fe.1),(I fe.2)])) (bz h λr1 oN h=> ?_)));have P8:= @oI _ _ eo er gy dP da dQ dR _ oN;refine bY (bh P8 (RM P8.fn (by kernel_rfl) Lz.AW rfl rfl) aQ (H.se [0,1]:Hp S0 aq _ ([_,_]++_))) wn ?_;rintro _ CH ⟨_,⟨a4,c5,rfl,rfl⟩,H, -⟩;replace H:Hp _ _ _ [_,_]:=H;refine k2 (rg (av (.iface 152 (pt dP da)) (av (.iface 152 (pt dP da)) (bz h λr7 zb h=> ?_))));have zM:= @qz _ a4 c5 _ zb;have hle:=qaa aQ H.size;refine bY (rh (gU.tu gU.nil) zM (u5 zM.fn (by kernel_rfl) Lz.AW Lz.mj rfl rfl (H.cell (u:=(Sl a4 r1 c5)) (o':=da) 0 0 rfl rfl rfl) rfl) (show Hp S0 aq _ ([Ch.own 0 0 (Sl a4 r1 c5) r1]++([]++[Ch.bx gy dP da [(Sl a4 r1 c5)] dQ dR])) from (H.se [1,0])) (by rintro _ _ _ ⟨rfl,rfl⟩;exact trivial)) wn ?_;rintro _ xj ⟨_,⟨rfl,rfl⟩,H, -, -⟩;replace H:Hp _ _ _ [_,_]:=H;clear hle;replace H:Hp _ _ _ [_,_]:=H;refine sv (I (ao (r7 - 1))) (ig rfl rfl) (bz h λrq xg h=> ?_);refine cl (@mU _ _ a4 c5 gy dP da dQ dR _ xg) aQ (H.se [1,0]:Hp S0 aq _ ([_,_]++_)) ?_;rintro _ ux ⟨_,⟨Wz,c15,rfl,rfl⟩,H⟩;replace H:Hp _ _ _ [_,_]:=H;refine bo ?_;obtain rfl:=sj h;exact vO (v:=(.tuple #[])) (cv Tryz.results138 eU rfl) ⟨Wz,c15,rfl,rfl⟩ (H.se [0,1])
theorem mn{dT xe qk eo er gy dP da dQ dR r}(h:M.cR dT xe qk=some r):
    bL Lz.prog 156 [(.iface 152 (pt dP da)),(I xe),(I qk)] [Ch.bx gy dP da [(Sl eo dT er)] dQ dR,Ch.own 0 0 (Sl eo dT er) dT] (λn0 v L=> ∃du db,v=(B r.1)/\L=[Ch.bx gy dP da [(Sl du r.2 db)] dQ dR,Ch.own 0 0 (Sl du r.2 db) r.2]):=by
 refine cI Lz.ahc ?_;intro S0 aq n0 aQ H;unfold M.cR at h;refine k1 (aJ (B false) (k4 (av (I xe) (aJ (I xe) (k3 ?_)))));obtain ⟨o1,h,h'⟩:=bind_some h;refine cj (λe a w=>e= .normal/\ ∃ρ σ et ew,a=fr 48 (cz ρ [(0,(.iface 152 (pt dP da))),(1,(I xe)),(7,(I o1.2))])/\w=σ.w/\Hp S0 aq σ [Ch.bx gy dP da [(Sl et o1.1 ew)] dQ dR,Ch.own 0 0 (Sl et o1.1 ew) o1.1]) ?_ ?_
 ·clear h';refine bV (bZ _ h (λs2 a w=> ∃ρ σ et ew,a=fr 48 (cz ρ [(0,(.iface 152 (pt dP da))),(1,(I xe)),(2,(I qk)),(7,(I s2.2))])/\w=σ.w/\Hp S0 aq σ [Ch.bx gy dP da [(Sl et s2.1 ew)] dQ dR,Ch.own 0 0 (Sl et s2.1 ew) s2.1]) ⟨_,aq,eo,er,cC rfl,rfl,H.se [0,1]⟩ ?_);clear h H;rintro s2 a w o ⟨ρ,jh,a4,c5,rfl,rfl,H⟩ h cE;refine bV (k1 (av (I s2.2) (sv (I (ao (2*s2.2))) (oS rfl rfl) (sv (I (ao ((ao (2*s2.2))+1))) (cF rfl rfl) (aJ (I (ao ((ao (2*s2.2))+1))) (k3 (dy ?_)))))));obtain ⟨o6,h,h'⟩:=bind_some h;refine cj (Jn S0 aq 48 [(0,(.iface 152 (pt dP da))),(1,(I xe)),(2,(I qk)),(7,(I s2.2)),(8,(I (ao ((ao (2*s2.2))+1)))),(21,(B o6))] [Ch.own 0 0 (Sl a4 s2.1 c5) s2.1,Ch.bx gy dP da [(Sl a4 s2.1 c5)] dQ dR]) ?_ ?_
  ·clear h';refine rg (av (I (ao ((ao (2*s2.2))+1))) (av (I qk) (sv (B (decide (qk<=(ao ((ao (2*s2.2))+1))))) (qe rfl rfl) (av (B (decide (qk<=(ao ((ao (2*s2.2))+1))))) ?_))));rcases oF h with ⟨qs,h⟩ | ⟨qs,h⟩
   ·refine ak (congrArg some qs) (ak (congrArg some qs) (sv (B true) (aK (congrArg B qs) rfl) (bo ?_)));obtain rfl:=sj h;exact ⟨rfl,_,jh,cC rfl,rfl,H.se [1,0]⟩
   ·refine bW (v:=(I (ao ((ao (2*s2.2))+1)))) (congrArg some qs) (ai rfl) (bW (v:=(B (decide ((ao ((ao (2*s2.2))+1))<0)))) (congrArg some qs) (cD rfl rfl) (sv (B (decide ((ao ((ao (2*s2.2))+1))<0))) (ax (congrArg B qs) rfl) (bo ?_)));obtain rfl:=sj h;exact ⟨rfl,_,jh,cC rfl,rfl,H.se [1,0]⟩
  ·replace h:=h';clear h' H;rintro e a w ⟨rfl,ρ,WE,rfl,rfl,H⟩;refine az (gB h (λhb9 h=> ?_) (λhb9 h=> ?_))
   ·refine dH (aC (F9 (by decide) ?_));refine aC (bD ?_);obtain rfl:=sj h;obtain rfl:=cE _ rfl;exact ⟨rfl,_,WE,a4,c5,cC rfl,rfl,H.se [1,0]⟩
   ·refine k6 (rg (av (I (ao ((ao (2*s2.2))+1))) (aJ (I (ao ((ao (2*s2.2))+1))) (k5 (av (I (ao ((ao (2*s2.2))+1))) (sv (I (ao ((ao ((ao (2*s2.2))+1))+1))) (cF rfl rfl) (aJ (I (ao ((ao ((ao (2*s2.2))+1))+1))) (k3 ?_))))))));obtain ⟨wH,h,h'⟩:=bind_some h;refine cj (Jn S0 aq 48 [(0,(.iface 152 (pt dP da))),(1,(I xe)),(2,(I qk)),(7,(I s2.2)),(9,(I (ao ((ao (2*s2.2))+1)))),(10,(I (ao ((ao ((ao (2*s2.2))+1))+1)))),(33,(B wH))] [Ch.own 0 0 (Sl a4 s2.1 c5) s2.1,Ch.bx gy dP da [(Sl a4 s2.1 c5)] dQ dR]) ?_ ?_
    ·clear h';refine rg (av (I (ao ((ao ((ao (2*s2.2))+1))+1))) (av (I qk) (sv (B (decide ((ao ((ao ((ao (2*s2.2))+1))+1))<qk))) (cD rfl rfl) (av (B (decide ((ao ((ao ((ao (2*s2.2))+1))+1))<qk))) ?_))));rcases oF h with ⟨mG,h⟩ | ⟨mG,h⟩
     ·refine bW (v:=(.iface 152 (pt dP da))) (congrArg some mG) (ai rfl) (bW (v:=(I (ao ((ao ((ao (2*s2.2))+1))+1)))) (congrArg some mG) (ai rfl) (bW (v:=(I (ao ((ao (2*s2.2))+1)))) (congrArg some mG) (ai rfl) (bz h λrn uw h=> ?_)));have kj:= @lU _ _ _ a4 c5 _ uw;have hle:=qaa aQ H.size;refine bY (rh (gU.tu gU.nil) kj (u5 kj.fn (by kernel_rfl) Lz.AW Lz.mj rfl rfl (H.cell (u:=(Sl a4 s2.1 c5)) (o':=da) 1 0 rfl rfl rfl) rfl) (show Hp S0 aq _ ([Ch.own 0 0 (Sl a4 s2.1 c5) s2.1]++([]++[Ch.bx gy dP da [(Sl a4 s2.1 c5)] dQ dR])) from (H.se [0,1])) (by rintro _ _ _ ⟨rfl,rfl⟩;exact trivial)) (aA rfl (by exact (congrArg some mG))) ?_;rintro _ mS ⟨_,⟨rfl,rfl⟩,H, -, -⟩;replace H:Hp _ _ _ [_,_]:=H;clear hle;replace H:Hp _ _ _ [_,_]:=H;refine sv (B rn) (aK (congrArg B mG) rfl) (bo ?_);obtain rfl:=sj h;exact ⟨rfl,_,mS,cC rfl,rfl,H.se [0,1]⟩
     ·refine ak (congrArg some mG) (ak (congrArg some mG) (ak (congrArg some mG) (ak (congrArg some mG) (sv (B false) (ax (congrArg B mG) rfl) (bo ?_)))));obtain rfl:=sj h;exact ⟨rfl,_,WE,cC rfl,rfl,H.se [0,1]⟩
    ·replace h:=h';clear h' H;rintro e a w ⟨rfl,ρ,ux,rfl,rfl,H⟩;refine az ?_;obtain ⟨II,h,h'⟩:=bind_some h;refine cj (Jn S0 aq 48 [(0,(.iface 152 (pt dP da))),(1,(I xe)),(2,(I qk)),(7,(I s2.2)),(9,(I II))] [Ch.own 0 0 (Sl a4 s2.1 c5) s2.1,Ch.bx gy dP da [(Sl a4 s2.1 c5)] dQ dR]) ?_ ?_
     ·clear h';refine gB h (λaiv h=> ?_) (λaiv h=> ?_)
      ·refine rg (av (I (ao ((ao ((ao (2*s2.2))+1))+1))) (aJ (I (ao ((ao ((ao (2*s2.2))+1))+1))) (bo ?_)));obtain rfl:=sj h;exact ⟨rfl,_,ux,cC rfl,rfl,H.se [0,1]⟩
      ·refine eF ?_;obtain rfl:=sj h;exact ⟨rfl,_,ux,cC rfl,rfl,H.se [0,1]⟩
     ·replace h:=h';clear h' H;rintro e a w ⟨rfl,ρ,zK,rfl,rfl,H⟩;refine az (dy (k1 (av (.iface 152 (pt dP da)) (av (I II) (av (I s2.2) (bz h λyj O5 h=> ?_))))));have yt:= @lU _ _ _ a4 c5 _ O5;have hle:=qaa aQ H.size;refine bY (rh (gU.tu gU.nil) yt (u5 yt.fn (by kernel_rfl) Lz.AW Lz.mj rfl rfl (H.cell (u:=(Sl a4 s2.1 c5)) (o':=da) 1 0 rfl rfl rfl) rfl) (show Hp S0 aq _ ([Ch.own 0 0 (Sl a4 s2.1 c5) s2.1]++([]++[Ch.bx gy dP da [(Sl a4 s2.1 c5)] dQ dR])) from (H.se [0,1])) (by rintro _ _ _ ⟨rfl,rfl⟩;exact trivial)) wn ?_;rintro _ xh ⟨_,⟨rfl,rfl⟩,H, -, -⟩;replace H:Hp _ _ _ [_,_]:=H;clear hle;replace H:Hp _ _ _ [_,_]:=H;refine sv (B (!yj)) (cO rfl) (k2 (gB h (λTd h=> ?_) (λTd h=> ?_)))
      ·refine dH (aC (F9 (by decide) ?_));refine aC (bD ?_);obtain rfl:=sj h;obtain rfl:=cE _ rfl;exact ⟨rfl,_,xh,a4,c5,cC rfl,rfl,H.se [1,0]⟩
      ·refine k6 (rg (av (.iface 152 (pt dP da)) (av (I s2.2) (av (I II) (bz h λy8 GL h=> ?_)))));have wo:= @lV _ _ _ a4 c5 _ GL;refine bY (bh wo (u5 wo.fn (by kernel_rfl) Lz.AW Lz.mj rfl rfl (H.cell (u:=(Sl a4 s2.1 c5)) (o':=da) 1 0 rfl rfl rfl) rfl) aQ (H.se [0,1]:Hp S0 aq _ ([_]++_))) wn ?_;rintro _ WI ⟨_,⟨rfl,rfl,aiw⟩,H, -⟩;replace H:Hp _ _ _ [_,_]:=H;have oP:(Sl a4 s2.1 c5)=(Sl a4 y8 c5):=oT aiw.symm
       try rw [oP]
       try rw [oP] at H
       clear oP;refine k2 (rg (av (I II) (aJ (I II) (bo (bX (az ?_))))));obtain rfl:=sj h;exact ⟨_,rfl,_,WI,a4,c5,cC rfl,rfl,H.se [1,0]⟩
 ·replace h:=h';clear h' H;rintro e a w ⟨rfl,ρ,SL,a31,Nd,rfl,rfl,H⟩;refine az (k1 (av (I o1.2) (av (I xe) (sv (B (decide (xe<o1.2))) (iC rfl rfl) (aJ (B (decide (xe<o1.2))) (k7 ?_))))));obtain rfl:=sj h;exact en Tryz.results156 ⟨a31,Nd,rfl,rfl⟩ (H.se [0,1])
theorem xn{dT eo er gy dP da dQ dR r}(h:M.lF dT=some r):
  bL Lz.prog 188 [(pt dP da)] [Ch.bx gy dP da [(Sl eo dT er)] dQ dR,Ch.own 0 0 (Sl eo dT er) dT] (λn0 v L=> ∃du db,v=(.iface 35 (.agg #[(I r.1.1),(I r.1.2)]))/\L=[Ch.bx gy dP da [(Sl du r.2 db)] dQ dR,Ch.own 0 0 (Sl du r.2 db) r.2]):=by
 refine cI Lz.ahn ?_;intro S0 aq n0 aQ H;unfold M.lF at h;refine k1 (aJ (.nilIface) (k4 (av (pt dP da) (sv (pt dP da) (cG rfl) (sv (Sl eo dT er) (an Lz.mj rfl rfl (H.eW 0 0)) (sv (I (dT.length:Int)) (bF Lz.mj rfl) (sv (I (ao ((dT.length:Int) - 1))) (ig rfl rfl) (aJ (I (ao ((dT.length:Int) - 1))) (k4 (av (pt dP da) (sv (pt dP da) (cG rfl) (sv (Sl eo dT er) (an Lz.mj rfl rfl (H.eW 0 0)) (av (I (ao ((dT.length:Int) - 1))) (bz h λx3 M9 h=> ?_))))))))))))));obtain ⟨b6,o7,hi5, -⟩:=(H.gK 1).ix M9;refine sv (pt b6 o7) (bR Lz.mj bO rfl rfl hi5) ?_;obtain ⟨_,⟨_,_,rfl,rfl,rfl⟩,hl8,zM⟩:=((H.gK 1).at M9 hi5).cells;refine sv (.agg #[(I x3.1),(I x3.2)]) (bp Lz.jU rfl bO rfl hl8 zM) (bE (gr (cs:=[(I 0),(I 0)]) H aQ bO rfl) wn ?_);rintro _ wu ⟨b10,rfl,H, -⟩;refine gk (bK (k:=0) (cs:=[(I 0),(I 0)]) (vs:=[(I x3.1),(I x3.2)]) (cs':=[(I x3.1),(I x3.2)]) H (i:=0) rfl bO rfl rfl rfl rfl rfl (qa5 rfl) (by simp [plain]) rfl) wn ?_;rintro vd ⟨H, -⟩;refine k4 (av (pt dP da) (av (pt dP da) (sv (pt dP da) (cG rfl) (sv (Sl eo dT er) (an Lz.mj rfl rfl (H.eW 1 0)) (av (I (ao ((dT.length:Int) - 1))) (bz h λLm zO h=> ?_))))));obtain ⟨WG,WH,adQ, -⟩:=(H.gK 2).slice zO;refine sv (Sl WG Lm WH) (jQ Lz.mj bO adQ rfl rfl) (sv (pt dP da) (cG rfl) ?_);have aaQ:=(H.gK 2).view zO adQ;replace H:=(H.front (i:=2) rfl).nN (d:=Ch.own 0 0 (Sl WG Lm WH) Lm) (λ_=>aaQ.1) aaQ.2;clear aaQ;refine gk (bK (k:=0) (cs:=[(Sl eo dT er)]) (vs:=[(Sl WG Lm WH)]) (cs':=[(Sl WG Lm WH)]) H (i:=2) rfl CG rfl rfl rfl rfl rfl (qa5 rfl) (by simp [plain]) rfl) wn ?_;rintro Gv ⟨H, -⟩;refine k4 ?_;have yt:=H.ei 2
 refine sv (.agg #[(I x3.1),(I x3.2)]) (bp (cs:=[(I x3.1),(I x3.2)]) Lz.jU rfl bO rfl rfl yt) (sv (.iface 35 (.agg #[(I x3.1),(I x3.2)])) (iw Lz.jU rfl rfl) (aJ (.iface 35 (.agg #[(I x3.1),(I x3.2)])) (k7 ?_)));obtain rfl:=sj h;exact en Tryz.results188 ⟨WG,WH,rfl,rfl⟩ (H.se [0,1])
theorem mI{dT eo er gy dP da dQ dR r}(h:M.cX dT=some r):
  bL Lz.prog 139 [(.iface 152 (pt dP da))] [Ch.bx gy dP da [(Sl eo dT er)] dQ dR,Ch.own 0 0 (Sl eo dT er) dT] (λn0 v L=> ∃du db,v=(.iface 35 (.agg #[(I r.1.1),(I r.1.2)]))/\L=[Ch.bx gy dP da [(Sl du r.2 db)] dQ dR,Ch.own 0 0 (Sl du r.2 db) r.2]):=by
 refine cI Lz.agY ?_;intro S0 aq n0 aQ H;unfold M.cX at h;refine k1 (aJ (.nilIface) (k4 (av (.iface 152 (pt dP da)) (bz h λr1 oN h=> ?_))));have P8:= @qz _ eo er _ oN;have hle:=qaa aQ H.size;refine bY (rh (gU.tu gU.nil) P8 (u5 P8.fn (by kernel_rfl) Lz.AW Lz.mj rfl rfl (H.cell (u:=(Sl eo dT er)) (o':=da) 0 0 rfl rfl rfl) rfl) (show Hp S0 aq _ ([Ch.own 0 0 (Sl eo dT er) dT]++([]++[Ch.bx gy dP da [(Sl eo dT er)] dQ dR])) from (H.se [1,0])) (by rintro _ _ _ ⟨rfl,rfl⟩;exact trivial)) wn ?_;rintro _ uH ⟨_,⟨rfl,rfl⟩,H, -, -⟩;replace H:Hp _ _ _ [_,_]:=H;clear hle;replace H:Hp _ _ _ [_,_]:=H;refine sv (I (ao (r1 - 1))) (ig rfl rfl) (aJ (I (ao (r1 - 1))) (k4 (av (.iface 152 (pt dP da)) (av (I (ao (r1 - 1))) (bz h λr5 rT h=> ?_)))));have UW:= @lV _ _ _ eo er _ rT;refine bY (bh UW (u5 UW.fn (by kernel_rfl) Lz.AW Lz.mj rfl rfl (H.cell (u:=(Sl eo dT er)) (o':=da) 1 0 rfl rfl rfl) rfl) aQ (H.se [0,1]:Hp S0 aq _ ([_]++_))) wn ?_;rintro _ Sy ⟨_,⟨rfl,rfl,hn8⟩,H, -⟩;replace H:Hp _ _ _ [_,_]:=H;have oP:(Sl eo dT er)=(Sl eo r5 er):=oT hn8.symm
 try rw [oP]
 try rw [oP] at H
 clear oP;refine k4 (av (.iface 152 (pt dP da)) (av (I (ao (r1 - 1))) (bz h λj4 qu h=> ?_)));refine cl (@mn _ _ _ eo er gy dP da dQ dR _ qu) aQ (H.se [1,0]:Hp S0 aq _ ([_,_]++_)) ?_;rintro _ mS ⟨_,⟨ku,kP,rfl,rfl⟩,H⟩;replace H:Hp _ _ _ [_,_]:=H;refine k4 (av (.iface 152 (pt dP da)) (bz h λqT zL h=> ?_));have uy:= @xn _ ku kP gy dP da dQ dR _ zL;refine bY (bh uy (RM uy.fn (by kernel_rfl) Lz.AW rfl rfl) aQ (H.se [0,1]:Hp S0 aq _ ([_,_]++_))) wn ?_;rintro _ Gv ⟨_,⟨Kd,Ke,rfl,rfl⟩,H, -⟩;replace H:Hp _ _ _ [_,_]:=H;refine aJ (.iface 35 (.agg #[(I qT.1.1),(I qT.1.2)])) (k7 ?_);obtain rfl:=sj h;exact en Tryz.results139 ⟨Kd,Ke,rfl,rfl⟩ (H.se [0,1])
theorem rM{mW ij qA qB yu nS mo qC qD r}(h:M.dF mW ij=some r):
   bL Lz.prog 113 [(pt nS mo),(.agg #[(I ij.1),(I ij.2)])] [Ch.bx yu nS mo [(I mW.1),(Sl qA mW.2 qB)] qC qD,Ch.own 0 0 (Sl qA mW.2 qB) mW.2] (λn0 v L=> ∃du db,v=(.tuple #[])/\L=[Ch.bx yu nS mo [(I r.1),(Sl du r.2 db)] qC qD,Ch.own 0 0 (Sl du r.2 db) r.2]):=by
 refine cI Lz.agI ?_;intro S0 aq n0 aQ H;unfold M.dF at h;refine k1 (bE (gm (cs:=[(I ij.1),(I ij.2)]) H aQ rfl rfl) wn ?_);rintro _ iL ⟨b1,rfl,H, -⟩;refine k3 (La (σ:=iL) 6 (by kernel_rfl) (by kernel_rfl) (by kernel_rfl) ?_);refine eh (pt nS mo) (ai rfl) (eh (pt nS mo) (cG rfl) (eh (pt nS (mo+1)) (aj (off:=1) Lz.IN rfl CG rfl rfl) (eh (.iface 152 (pt nS (mo+1))) (iw Lz.AW rfl rfl) ?_)));have P8:=H.ei 0;refine eh (.agg #[(I ij.1),(I ij.2)]) (bp (cs:=[(I ij.1),(I ij.2)]) Lz.jU rfl bO rfl rfl P8) (eh (.iface 35 (.agg #[(I ij.1),(I ij.2)])) (iw Lz.jU rfl rfl) (kJ ?_));intro uH hm5;replace H:=H.grow (hm5.mono λ_ h=>h);clear hm5;replace H:=Hp.focus (c1:=[(I mW.1)]) (c2:=[(Sl qA mW.2 qB)]) (c3:=[]) (o':=(mo+1)) H 1 rfl rfl;refine bz h λr6 ue h=> ?_;refine cl (@jk _ _ qA qB yu nS (mo+1) (qC++[(I mW.1)]) ([]++qD) _ ue) aQ (H.se [0,2,1]:Hp S0 aq _ ([_,_]++_)) ?_;rintro _ wu ⟨_,⟨a9,UX,rfl,rfl⟩,H⟩;replace H:Hp _ _ _ [_,_,_]:=H;replace H:Hp S0 aq wu [Ch.bx yu nS mo [(I mW.1),(Sl a9 r6 UX)] qC qD,Ch.own 0 0 (Sl a9 r6 UX) r6,Ch.bx n0 b1 0 [(I ij.1),(I ij.2)] [] []]:=Hp.MP (o:=mo) (c1:=[(I mW.1)]) (c2:=[(Sl a9 r6 UX)]) (c3:=[]) (pre:=qC) (uZ:=qD) H 0 rfl rfl;refine k3 (La (σ:=wu) 9 (by kernel_rfl) (by kernel_rfl) (by kernel_rfl) ?_);refine eh (pt nS mo) (ai rfl) (eh (pt nS mo) (cG rfl) (eh (pt nS (mo+1)) (aj (off:=1) Lz.IN rfl CG rfl rfl) (eh (Sl a9 r6 UX) (an Lz.mj rfl rfl (H.eW 0 1)) (eh (I (r6.length:Int)) (bF Lz.mj rfl) (eh (pt nS mo) (ai rfl) (eh (pt nS mo) (cG rfl) (eh (pt nS mo) (aj (off:=0) Lz.IN rfl gx rfl rfl) (eh (I mW.1) (an Lz.U3 rfl rfl (H.eW 0 0)) (kJ ?_)))))))));intro xf adR
 replace H:=H.grow (adR.mono λ_ h=>h);clear adR;refine sv (B (decide (mW.1<(r6.length:Int)))) (iC rfl rfl) (k2 (gB h (λSQ h=> ?_) (λSQ h=> ?_)))
 ·refine rg (av (pt nS mo) (sv (pt nS mo) (cG rfl) (sv (pt nS (mo+1)) (aj (off:=1) Lz.IN rfl CG rfl rfl) (sv (.iface 152 (pt nS (mo+1))) (iw Lz.AW rfl rfl) ?_))));replace H:=Hp.focus (c1:=[(I mW.1)]) (c2:=[(Sl a9 r6 UX)]) (c3:=[]) (o':=(mo+1)) H 0 rfl rfl;refine bz h λkS oW h=> ?_;refine cl (@mI _ a9 UX yu nS (mo+1) (qC++[(I mW.1)]) ([]++qD) _ oW) aQ (H.se [0,1,2]:Hp S0 aq _ ([_,_]++_)) ?_;rintro _ sr ⟨_,⟨a20,nQ,rfl,rfl⟩,H⟩;replace H:Hp _ _ _ [_,_,_]:=H;replace H:Hp S0 aq sr [Ch.bx yu nS mo [(I mW.1),(Sl a20 kS.2 nQ)] qC qD,Ch.own 0 0 (Sl a20 kS.2 nQ) kS.2,Ch.bx n0 b1 0 [(I ij.1),(I ij.2)] [] []]:=Hp.MP (o:=mo) (c1:=[(I mW.1)]) (c2:=[(Sl a20 kS.2 nQ)]) (c3:=[]) (pre:=qC) (uZ:=qD) H 0 rfl rfl;refine bo ?_;obtain rfl:=sj h;exact vO (v:=(.tuple #[])) (cv Tryz.results113 eU rfl) ⟨a20,nQ,rfl,rfl⟩ (H.se [0,1])
 ·refine eF ?_;obtain rfl:=sj h;exact vO (v:=(.tuple #[])) (cv Tryz.results113 eU rfl) ⟨a9,UX,rfl,rfl⟩ (H.se [0,1])
theorem lL{iA jF kL r}(h:M.dz iA=some r):
  bL Lz.prog 141 [(Sl jF iA kL)] [Ch.ro 0 (Sl jF iA kL) iA] (λn0 v L=> ∃bz1,v=(.func (.func 158) #[] #[(pt bz1 0)])/\L=[Ch.bx n0 bz1 0 [(Sl jF iA kL)] [] []]):=by
 refine cI Lz.ag0 ?_;intro S0 aq n0 aQ H;unfold M.dz at h;refine k1 (bE (gm (cs:=[(Sl jF iA kL)]) H aQ rfl rfl) wn ?_);rintro _ iL ⟨b1,rfl,H, -⟩;refine aJ (.nilFunc) (k4 (sv (.func (.func 158) #[] #[(pt b1 0)]) (rj (vs:=[(pt b1 0)]) rfl) (aJ (.func (.func 158) #[] #[(pt b1 0)]) (k7 ?_))));obtain rfl:=sj h;exact en Tryz.results141 ⟨b1,rfl,rfl⟩ (H.se [0])
theorem dZ{b o c l:Nat}{a:Option Addr}{xs:List (Int×Int)}{J:Nat->St->Prop}(fu: ∀{i σ σ'},J i σ->Md (λ_=>False) σ σ'->J i σ')
  (VU: ∀{i σ},J i σ->jH σ.w.heap b o=some (Sl a xs c)/\Rd 0 σ (Sl a xs c) xs) (hn:xs.length<=2147483648)
  (hy: ∀i,(h:i<xs.length)-> ∀σ,J i σ->YieldAt Fence.wide 0 Lz.prog l [(.agg #[(I (xs[i]).1),(I (xs[i]).2)])].toArray σ.w λe W'=>e= .returned (.bool true)/\ ∃σ',W'=σ'.w/\J (i+1) σ')
  (σ:St) (h0:J 0 σ):CallsIn Fence.wide 0 Lz.prog 158 [.func (.yield l) #[] #[],(pt b o)].toArray σ.w λe W'=>(∃v,e= .returned v)/\ ∃σ',W'=σ'.w/\J xs.length σ':=by
 refine R6 (n:=16) Lz.ac7 rfl rfl rfl ?_;refine wpIn_seq ?_;obtain ⟨hc, -⟩:=VU h0;refine Wc ?_;refine Lb nofun (v:=(Sl a xs c)) (an Lz.mj rfl rfl hc) ?_;refine Lb nofun (v:=(I (xs.length:Int))) (bF Lz.mj rfl) ?_;refine Lb nofun (v:=(I 0)) (ai rfl) ?_;refine Gn ?_;refine az (wpIn_block ?_);refine wpIn_loop_ghost (λk a' w'=> ∃i ρ σ,i+k=xs.length/\a'=fr 16 (cz ρ [(0, .func (.yield l) #[] #[]),(1,pt b o),(5,Sl a xs c),(6,I (xs.length:Int)),(7,I (i:Int))])/\w'=σ.w/\J i σ) xs.length ⟨0,_,σ,by omega,cC rfl,rfl,h0⟩ ?_;clear hc h0;rintro k _ _ ⟨i,ρ,σ,hik,rfl,rfl,hJ⟩;refine wpIn_seq ?_;refine Wc ?_;refine Lb nofun (v:=(B (decide ((i:Int)<(xs.length:Int))))) (cD rfl rfl) ?_;refine Gn ?_;refine az (wpIn_seq ?_);refine IG (decide ((i:Int)<(xs.length:Int))) rfl (λhb=> ?_) (λhb=> ?_)
 ·have bG:i<xs.length:=by have:=of_decide_eq_true hb;omega
  refine wpIn_skip ?_;refine az (wpIn_seq ?_);refine wpIn_block ?_;refine wpIn_seq ?_;refine Wc ?_;have hg:bs xs (i:Int)=some xs[i]:=We bG;obtain ⟨-, hR⟩:=VU hJ;obtain ⟨bx,ox,hi,UQ⟩:=hR.ix hg;obtain ⟨_,⟨_,_,rfl,rfl,rfl⟩,hl,hcx⟩:=UQ.cells;refine Lb nofun (v:=(pt bx ox)) (bR Lz.mj bO rfl rfl hi) ?_;refine Lb nofun (v:=(.agg #[(I (xs[i]).1),(I (xs[i]).2)])) (bp (cs:=[(I (xs[i]).1),(I (xs[i]).2)]) Lz.jU rfl bO rfl hl hcx) ?_;have H:Hp (dv []) σ σ []:=Hp.begin trivial trivial;refine Cu nofun (gr (lo:=0) H (qa8 _) bO rfl) ?_;rintro _ iL ⟨b4,rfl,H, -⟩;refine Gm nofun (bK (vs:=[(I (xs[i]).1),(I (xs[i]).2)]) (k:=0) H (i:=0) rfl bO rfl rfl rfl rfl rfl (qa5 rfl) (by simp [plain]) rfl) ?_;rintro jh ⟨H, -⟩;refine Gn ?_;refine az (wpIn_seq ?_);refine Wc ?_;refine Lb nofun (v:=(.func (.yield l) #[] #[])) (ai rfl) ?_;have UT:=H.ei 0;refine Lb nofun (v:=(.agg #[(I (xs[i]).1),(I (xs[i]).2)])) (bp (cs:=[(I (xs[i]).1),(I (xs[i]).2)]) Lz.jU rfl bO rfl rfl UT) ?_;refine OI (args:=[(.agg #[(I (xs[i]).1),(I (xs[i]).2)])]) rfl rfl (hy i bG jh (fu hJ H.md)) ?_;rintro e w' ⟨rfl,uH,rfl,hJ4⟩;refine ⟨_,rfl, ?_⟩;refine Lb nofun (v:=(B (!true))) (cO rfl) ?_;refine Gn ?_;refine az (IG false rfl (λhb=>by cases hb) (λ_=> ?_));refine wpIn_skip ?_;refine bX (az (Wc ?_));refine Lb nofun (v:=(I (ao ((i:Int)+1)))) (cF rfl rfl) ?_;refine Lb nofun (v:=(I (ao ((i:Int)+1)))) (ai rfl) ?_;refine Gn ?_;have e1:ao ((i:Int)+1)=((i+1:Nat):Int):=aU (by omega) (by omega);rw [e1];refine az ?_;exact ⟨k - 1,by omega,i+1,_,uH,by omega,cC rfl,rfl,hJ4⟩
 ·have bG: ¬i<xs.length:=by have:=of_decide_eq_false hb;omega
  have:i=xs.length:=by omega
  subst this;refine wpIn_exit ?_;refine aC (aC (bD ?_));exact Lf (v:= .tuple #[]) (cv Tryz.results158 eU rfl) ⟨⟨_,rfl⟩,σ,rfl,hJ⟩
theorem ee{rr sE sF zY sG sH xo xp r}(h:M.bA rr=some r):
  bL Lz.prog 164 [.slice none 0 0,(.func (.func 158) #[] #[(pt sG sH)])] [Ch.bx zY sG sH [(Sl sE rr sF)] xo xp,Ch.ro 0 (Sl sE rr sF) rr] (λn0 v L=> ∃du db,v=(Sl du r db)/\L=[Ch.own n0 n0 (Sl du r db) r,Ch.bx zY sG sH [(Sl sE rr sF)] xo xp]):=by
 obtain ⟨hn,rfl⟩:=OK (show M.zn rr=some r from h);refine ⟨⟨_,_,Lz.ac8,rfl,rfl⟩,λaq n0 aQ H=> ?_⟩;refine callsIn_wide.1 (R6 (n:=13) Lz.ac8 rfl rfl rfl ?_);refine wpIn_seq ?_;refine Wc ?_;refine Cu nofun (gm (cs:=[.slice none 0 0]) H aQ rfl rfl) ?_;rintro _ qj ⟨b1,rfl,H, -⟩;refine Lb nofun (v:=(.slice none 0 0)) (vI rfl) ?_;refine Gn ?_;refine az (wpIn_seq ?_);refine wpIn_seq ?_;refine Wc ?_;refine Lb nofun (v:=(.func (.func 158) #[] #[(pt sG sH)])) (ai rfl) ?_;refine Gn ?_;refine az (wpIn_block ?_);replace H:=H.kY (Int×Int) n0 n0;refine OJ (gf:=158) (lb:= #[(pt sG sH)]) (N:=r.length) (R4:=λi=>[(.agg #[(I (r.getD i (0,0)).1),(I (r.getD i (0,0)).2)])].toArray) (by rw [aR];rfl) (ac2 ⟨_,_,Lz.ac7,rfl,rfl⟩) (λ_ _=>rfl)
  (λi L=> ∃a' c',L=[Ch.own n0 n0 (Sl a' (r.take i) c') (r.take i),Ch.bx n0 b1 0 [(Sl a' (r.take i) c')] [] [],Ch.bx zY sG sH [(Sl sE r sF)] xo xp,Ch.ro 0 (Sl sE r sF) r]) ⟨none,0,rfl⟩ H ?_ ?_ ?_
 ·intro l J fu hJ hy σ h0;refine dZ (J:=J) (a:=sE) (c:=sF) fu (fun {i σ} h=> ?_) hn (λi hi σ h=> ?_) σ h0
  ·obtain ⟨L,R,⟨a',c',rfl⟩,H⟩:=hJ h;have H2:=H.drop R;exact ⟨H2.cells 2 rfl 0 (by simp),(H2.ro 3 rfl).rd⟩
  ·have:=hy i hi σ h;simpa [List.getD,hi] using this
 ·rintro l D i rc rc' hi σ _ ⟨a',c',rfl⟩ H;have hgd:r.getD i (0,0)=r[i]:=by simp [List.getD,hi]
  simp only [hgd];rw [R5];refine Wc ?_;refine Cu nofun (gr (lo:=n0) H aQ bO rfl) ?_;rintro _ iL ⟨b5,rfl,H, -⟩;refine Gm nofun (bK (vs:=[(I (r[i]).1),(I (r[i]).2)]) (cs':=[(I (r[i]).1),(I (r[i]).2)]) (k:=0) H (i:=0) rfl bO rfl rfl rfl rfl rfl (qa5 rfl) (by simp [plain]) rfl) ?_;rintro jh ⟨H, -⟩;refine Gn ?_;refine az (⟨jh,_,rfl,H.se [1,2,0,3,4,5,6], ?_⟩);clear H;intro uH H;refine wpIn_block ?_;refine Wc ?_;have F7:=H.ei 4;refine Lb nofun (v:=(Sl a' (r.take i) c')) (an Lz.gY rfl rfl (F7 0 (by simp))) ?_;have Nf:=H.ei 2;refine Lb nofun (v:=(.agg #[(I (r[i]).1),(I (r[i]).2)])) (bp (cs:=[(I (r[i]).1),(I (r[i]).2)]) Lz.jU rfl bO rfl rfl Nf) ?_;refine Cu nofun (aN (lo:=n0) (el:=n0) (xs:=([((r[i]).1,(r[i]).2)]:List (Int×Int))) (ps:=[(0,(.agg #[(I (r[i]).1),(I (r[i]).2)]))]) (cs:=[(I (r[i]).1),(I (r[i]).2)]) H aQ Lz.gY bO rfl rfl (by kernel_rfl) (.cons (c:=[(I (r[i]).1),(I (r[i]).2)]) ⟨_,_,rfl,rfl,rfl⟩ .nil) rfl) ?_;rintro _ Cv ⟨b10,rfl,H, -⟩;refine Cu nofun (fb H (i:=4) rfl Lz.gY Lz.gY bO rfl rfl (by decide) (H.gK 0).rd (OL hi hn) aQ rfl rfl) ?_;rintro _ CH ⟨a2,c2,rfl,H, -⟩;refine Gm nofun (bK (vs:=[(Sl a2 (r.take (i+1)) c2)]) (cs':=[(Sl a2 (r.take (i+1)) c2)]) (k:=0) H (i:=5) rfl CF rfl rfl rfl rfl rfl (qa5 rfl) (by simp [plain,Sl]) rfl) ?_;rintro IT ⟨H, -⟩;refine Gn ?_;refine bX ?_;exact ⟨rfl,IT,_,rfl,⟨a2,c2,rfl⟩,H.se [3,4,1,0,6,7]⟩
 ·rintro D σ _ ⟨a',c',rfl⟩ H;rw [qbv] at H;refine bX (az (wpIn_seq ?_));refine rgD (ds:=[{ target:= .collected D,args:= #[] }]) ?_;have F7:=H.ei 2;refine stD nofun (v:=(Sl a' r c')) (an Lz.gY rfl rfl (F7 0 (by simp))) ?_;refine stD nofun (v:=(Sl a' r c')) (vI rfl) ?_;refine agp ?_;refine az (wpIn_ret ?_);exact R7 (v:=Sl a' r c') H (cv Tryz.results164 (eH (v:=Sl a' r c') rfl eU) rfl) ⟨_,_,_,rfl,rfl,⟨a',c',rfl,rfl⟩,(H.acZ _).aac [0,2] rfl rfl⟩
theorem fD{jS nG nH oh lr lu mJ mK r}(h:M.bm jS=some r):
  bL Lz.prog 157 [(.func (.func 158) #[] #[(pt lr lu)])] [Ch.bx oh lr lu [(Sl nG jS nH)] mJ mK,Ch.ro 0 (Sl nG jS nH) jS] (λn0 v L=> ∃du db,v=(Sl du r db)/\L=[Ch.own n0 n0 (Sl du r db) r,Ch.bx oh lr lu [(Sl nG jS nH)] mJ mK]):=by
 refine cI Lz.ahd ?_;intro S0 aq n0 aQ H;unfold M.bm at h;refine k1 (aJ (.slice none 0 0) (k4 (av (.func (.func 158) #[] #[(pt lr lu)]) (bz h λr1 oN h=> ?_))));refine cl (@ee _ nG nH oh lr lu mJ mK _ oN) aQ (H.se [0,1,1]:Hp S0 aq _ ([_,_]++_)) ?_;rintro _ CH ⟨_,⟨a4,c5,rfl,rfl⟩,H⟩;replace H:Hp _ _ _ [_,_,_]:=H;refine aJ (Sl a4 r1 c5) (k7 ?_);obtain rfl:=sj h;exact en Tryz.results157 ⟨a4,c5,rfl,rfl⟩ (H.se [0,1])
def Ja:Go.Shelf.Ren:=⟨fun | 6=>107 | 15=>137 | 14=>136 | 28=>153 | 29=>154 | 20=>145 | 21=>146 | 22=>147 | 23=>148 | 24=>149 | 25=>150 | 26=>151 | 27=>152 | 46=>159 | 47=>160 | 48=>161 | 49=>162 | 50=>163 | 57=>165 | n=>n,fun | 22=>27 | 24=>35 | 25=>119 | 3=>3 | 39=>109 | 0=>0 | 53=>87 | 55=>84 | 4=>4 | 46=>162 | 45=>161 | 50=>62 | 5=>5 | 9=>9 | 66=>178 | 70=>181 | 76=>185 | 77=>186 | n=>n,fun | n=>n⟩
theorem WO:Go.Proofs.SlLaysF0.n6 Lz.prog Ja:={
 mixed:=by kernel_rfl
 f6:=⟨Tryz.f107.name,by decide,Lz.agC.trans (congrArg some (by kernel_rfl))⟩
 f14:=⟨Tryz.f136.name,by decide,Lz.agV.trans (congrArg some (by kernel_rfl))⟩
 f15:=Lz.agW.trans (congrArg some (by kernel_rfl))
 f20:=⟨Tryz.f145.name,by decide,Lz.ag1.trans (congrArg some (by kernel_rfl))⟩
 f21:=⟨Tryz.f146.name,by decide,Lz.ag2.trans (congrArg some (by kernel_rfl))⟩
 f22:=⟨Tryz.f147.name,by decide,Lz.ag3.trans (congrArg some (by kernel_rfl))⟩
 f23:=⟨Tryz.f148.name,by decide,Lz.ag4.trans (congrArg some (by kernel_rfl))⟩
 f24:=⟨Tryz.f149.name,by decide,Lz.ag5.trans (congrArg some (by kernel_rfl))⟩
 f25:=⟨Tryz.f150.name,by decide,Lz.ag6.trans (congrArg some (by kernel_rfl))⟩
 f26:=⟨Tryz.f151.name,by decide,Lz.ag7.trans (congrArg some (by kernel_rfl))⟩
 f27:=⟨Tryz.f152.name,by decide,Lz.ag8.trans (congrArg some (by kernel_rfl))⟩
 f28:=Lz.ag9.trans (congrArg some (by kernel_rfl))
 f29:=Lz.aha.trans (congrArg some (by kernel_rfl))
 f46:=⟨Tryz.f159.name,by decide,Lz.ahe.trans (congrArg some (by kernel_rfl))⟩
 f47:=Lz.ahf.trans (congrArg some (by kernel_rfl))
 f48:=Lz.ahg.trans (congrArg some (by kernel_rfl))
 f49:=⟨Tryz.f162.name,by decide,Lz.ahh.trans (congrArg some (by kernel_rfl))⟩
 f50:=⟨Tryz.f163.name,by decide,Lz.ahi.trans (congrArg some (by kernel_rfl))⟩
 f57:=⟨Tryz.f165.name,by decide,Lz.ahj.trans (congrArg some (by kernel_rfl))⟩
 t0:=Lz.U0
 a0:=Lz.A0
 z0:=Lz.S0
 v0:=Lz.Z0
 t3:=Lz.U3
 a3:=Lz.A3
 z3:=Lz.S3
 v3:=Lz.Z3
 t4:=Lz.U4
 a4:=Lz.A4
 z4:=Lz.S4
 v4:=Lz.Z4
 t5:=Lz.U5
 a5:=Lz.A5
 z5:=Lz.S5
 v5:=Lz.Z5
 t9:=Lz.U9
 a9:=Lz.A9
 z9:=Lz.S9
 v9:=Lz.Z9
 t22:=Lz.gY
 a22:=Lz.A27
 z22:=Lz.S27
 v22:=Lz.Z27
 t25:=Lz.ahp
 a25:=Lz.ahx
 z25:=Lz.ahF
 v25:=Lz.ahN
 t39:=Lz.aat
 a39:=Lz.ahw
 z39:=Lz.ahE
 v39:=Lz.ahM
 t45:=Lz.ahq
 a45:=Lz.ahy
 z45:=Lz.ahG
 v45:=Lz.ahO
 t46:=Lz.ahr
 a46:=Lz.ahz
 z46:=Lz.ahH
 v46:=Lz.ahP
 t50:=Lz.U62
 a50:=Lz.A62
 z50:=Lz.S62
 v50:=Lz.Z62
 t53:=Lz.U87
 a53:=Lz.A87
 z53:=Lz.S87
 v53:=Lz.Z87
 t55:=Lz.U84
 a55:=Lz.A84
 z55:=Lz.S84
 v55:=Lz.Z84
 t66:=Lz.ahs
 a66:=Lz.ahA
 z66:=Lz.ahI
 v66:=Lz.ahQ
 t70:=Lz.aht
 a70:=Lz.ahB
 z70:=Lz.ahJ
 v70:=Lz.ahR
 t76:=Lz.ahu
 a76:=Lz.ahC
 z76:=Lz.ahK
 v76:=Lz.ahS
 t77:=Lz.ahv
 a77:=Lz.ahD
 z77:=Lz.ahL
 v77:=Lz.ahT }
theorem dN{bQ yw yx r}(h:M.bb bQ=some r):
  bL Lz.prog 107 [(Sl yw bQ yx),(.func (.func 104) #[] #[])] [Ch.own 0 0 (Sl yw bQ yx) bQ] (λn0 v L=>v=(.tuple #[])/\L=[Ch.own 0 0 (Sl yw r yx) r]/\r.length=bQ.length):=by
 obtain ⟨hn,hs,hL,rfl⟩:=K3 h;have hE: ∀σ σ':St,Ext σ σ'->(True)->(True):=λ_ _ _ hp=>hp;have hB: ∀σ:St,ji σ []->apart []-> ∃tg,Pb (dv []) σ tg/\True:=λσ _ _=>⟨σ,⟨rfl,rfl,λ_ _=>rfl,λ_=>qa3 _⟩,trivial⟩;have hC: ∀σ:St, ¬σ.ef->(True)-> ∀x∈bQ, ∀y∈bQ, ∀cx cy,Rp.rp 0 σ cx x->Rp.rp 0 σ cy y->Calls Lz.prog 104 ([Value.agg cx.toArray,Value.agg cy.toArray]++[]).toArray σ.w λe w'=>e= .returned (I ((M.dp (x.1,x.2) (y.1,y.2)).getD 0))/\ ∃q os,w'=Go.Sort.grow (σ.w.drewN q) os:=by
   intro σ hl hp x hx y hy cx cy rx ry;obtain ⟨r,hr⟩:=hs x hx y hy;obtain ⟨_,_,rfl,rfl,rfl⟩:=rx;obtain ⟨_,_,rfl,rfl,rfl⟩:=ry;have hc:=mH hr;refine (hc.runs σ 0 (qa8 _) (Hp.begin trivial trivial)).mono ?_;rintro e w' ⟨v,σ',L',rfl,rfl,⟨rfl, -⟩,H⟩;exact ⟨by rw [hr];rfl,(H.md.mono λi=>λh=>h).grown hl⟩
 refine (OH (α:=(Int×Int)) WO Lz.A35 Lz.S35 (xs:=bQ) (a:=yw) (c:=yx) (g:=104) (cb:=[]) (B:=[]) (λx y=>(M.dp (x.1,x.2) (y.1,y.2)).getD 0) hL hn ⟨_,_,Lz.ac6,rfl,rfl⟩ _ hE hB hC).conv ?_;rintro m v L ⟨rfl,rfl⟩;exact ⟨_,⟨rfl,rfl,EW⟩,λH=>H.se [0]⟩
theorem dx{jS nG nH oh lr lu mJ mK r}(h:M.aP jS=some r):
  bL Lz.prog 140 [(.func (.func 158) #[] #[(pt lr lu)]),(.func (.func 104) #[] #[])] [Ch.bx oh lr lu [(Sl nG jS nH)] mJ mK,Ch.ro 0 (Sl nG jS nH) jS] (λn0 v L=> ∃du db,v=(Sl du r db)/\L=[Ch.own 0 n0 (Sl du r db) r,Ch.bx oh lr lu [(Sl nG jS nH)] mJ mK]):=by
 refine cI Lz.agZ ?_;intro S0 aq n0 aQ H;unfold M.aP at h;refine k1 (aJ (.slice none 0 0) (k4 (av (.func (.func 158) #[] #[(pt lr lu)]) (bz h λr1 oN h=> ?_))));refine cl (@fD _ nG nH oh lr lu mJ mK _ oN) aQ (H.se [0,1,1]:Hp S0 aq _ ([_,_]++_)) ?_;rintro _ CH ⟨_,⟨a4,c5,rfl,rfl⟩,H⟩;replace H:Hp _ _ _ [_,_,_]:=H;refine aJ (Sl a4 r1 c5) (k4 (av (Sl a4 r1 c5) (av (.func (.func 104) #[] #[]) ?_)));replace H:=H.zx 0 0 0 rfl (qa8 _) (qa8 _);refine bz h λr7 zb h=> ?_;refine cl (@dN _ a4 c5 _ zb) aQ (H.se [0,1,2]:Hp S0 aq _ ([_]++_)) ?_;rintro _ wu ⟨_,⟨rfl,rfl,aix⟩,H⟩;replace H:Hp _ _ _ [_,_,_]:=H;have oP:(Sl a4 r1 c5)=(Sl a4 r7 c5):=oT aix.symm
 try rw [oP]
 try rw [oP] at H
 clear oP;refine k4 (av (Sl a4 r7 c5) (aJ (Sl a4 r7 c5) (k7 ?_)));replace H:=H.Cs 0 0 n0 rfl (qa3 _);obtain rfl:=sj h;exact en Tryz.results140 ⟨a4,c5,rfl,rfl⟩ (H.se [0,1])
theorem qE{mW qA qB yu nS mo qC qD r}(h:M.fg mW=some r):
  bL Lz.prog 114 [(pt nS mo)] [Ch.bx yu nS mo [(I mW.1),(Sl qA mW.2 qB)] qC qD,Ch.ro 0 (Sl qA mW.2 qB) mW.2] (λn0 v L=> ∃du db,v=(Sl du r db)/\L=[Ch.own 0 n0 (Sl du r db) r,Ch.bx yu nS mo [(I mW.1),(Sl qA mW.2 qB)] qC qD]):=by
 refine cI Lz.agJ ?_;intro S0 aq n0 aQ H;unfold M.fg at h;refine k1 (aJ (.slice none 0 0) (k4 (av (pt nS mo) (sv (pt nS mo) (cG rfl) (sv (pt nS (mo+1)) (aj (off:=1) Lz.IN rfl CG rfl rfl) (sv (Sl qA mW.2 qB) (an Lz.mj rfl rfl (H.eW 0 1)) (bz h λr2 Kf h=> ?_)))))));refine cl (@lL _ qA qB _ Kf) aQ (H.se [1,0,1]:Hp S0 aq _ ([_]++_)) ?_;rintro _ CH ⟨_,⟨b5,rfl,rfl⟩,H⟩;replace H:Hp _ _ _ [_,_,_]:=H;refine bz h λr7 zb h=> ?_;refine cl (@dx _ qA qB n0 b5 0 [] [] _ zb) aQ (H.se [0,2,1,2]:Hp S0 aq _ ([_,_]++_)) ?_;rintro _ vd ⟨_,⟨jm,jC,rfl,rfl⟩,H⟩;replace H:Hp _ _ _ [_,_,_,_]:=H;refine aJ (Sl jm r7 jC) (k7 ?_);obtain rfl:=sj h;exact en Tryz.results114 ⟨jm,jC,rfl,rfl⟩ (H.se [0,2])
theorem lM{ab Wn lj dK ah ag jX fL fM iX iY fN fO jY fP fQ iZ ja r}(h:M.dA ab Wn lj dK=some r):
    bL Lz.prog 72 [(Sl ah ab ag),(I Wn),(.func (.func 73) #[] #[(pt fL fM),(pt fP fQ)])] [Ch.ro 0 (Sl ah ab ag) ab,Ch.bx jX fL fM [(I lj)] iX iY,Ch.bx jY fP fQ [(Sl fN dK fO)] iZ ja,Ch.ro 0 (Sl fN dK fO) dK] (λn0 v L=> ∃du db,v=(Sl du r db)/\L=[Ch.own 0 n0 (Sl du r db) r,Ch.bx jX fL fM [(I lj)] iX iY,Ch.bx jY fP fQ [(Sl fN dK fO)] iZ ja]):=by
 refine cI Lz.N72 ?_;intro S0 aq n0 aQ H;unfold M.dA at h;refine k1 (aJ (.slice none 0 0) (k4 (av (I Wn) (sv (.agg #[(I Wn),(.slice none 0 0)]) (oC (ps:=[(0,(I Wn))]) Lz.IN Sv (adf Lz.IN) rfl (by kernel_rfl)) (bE (gr (cs:=[(I 0),(.slice none 0 0)]) H aQ Sv rfl) wn ?_)))));rintro _ iL ⟨b1,rfl,H, -⟩;refine gk (bK (k:=0) (cs:=[(I 0),(.slice none 0 0)]) (vs:=[(I Wn),(.slice none 0 0)]) (cs':=[(I Wn),(.slice none 0 0)]) H (i:=0) rfl Sv rfl rfl rfl rfl rfl (qa5 rfl) (by simp [plain]) rfl) wn ?_;rintro jh ⟨H, -⟩;refine k5 (av (Sl ah ab ag) (sv (I (ab.length:Int)) (bF Lz.lP rfl) (av (I 0) (k2 ?_))));obtain ⟨o4,h,h'⟩:=bind_some h;refine cj (λe a w=>e= .normal/\ ∃ρ σ et ew,a=fr 27 (cz ρ [(2,(.func (.func 73) #[] #[(pt fL fM),(pt fP fQ)])),(7,(pt b1 0))])/\w=σ.w/\Hp S0 aq σ [Ch.bx n0 b1 0 [(I o4.1),(Sl et o4.2 ew)] [] [],Ch.own 0 0 (Sl et o4.2 ew) o4.2,Ch.bx jX fL fM [(I lj)] iX iY,Ch.ro 0 (Sl fN dK fO) dK,Ch.bx jY fP fQ [(Sl fN dK fO)] iZ ja]) ?_ ?_
 ·clear h';refine bV ?_;replace H:=H.kY (Int×Int) 0 0;refine bZ _ h (λs5 a w=> ∃ρ σ et ew,a=fr 27 (cz ρ [(2,(.func (.func 73) #[] #[(pt fL fM),(pt fP fQ)])),(7,(pt b1 0)),(12,(Sl ah ab ag)),(13,(I (ab.length:Int))),(14,(I s5.2))])/\w=σ.w/\Hp S0 aq σ [Ch.bx n0 b1 0 [(I s5.1.1),(Sl et s5.1.2 ew)] [] [],Ch.own 0 0 (Sl et s5.1.2 ew) s5.1.2,Ch.bx jX fL fM [(I lj)] iX iY,Ch.ro 0 (Sl fN dK fO) dK,Ch.bx jY fP fQ [(Sl fN dK fO)] iZ ja,Ch.ro 0 (Sl ah ab ag) ab]) ⟨_,jh,none,0,cC rfl,rfl,H.se [1,0,3,5,4,2]⟩ ?_;clear h H;rintro s5 a w o ⟨ρ,CH,a7,c8,rfl,rfl,H⟩ h cE;refine k1 (sv (B (decide (s5.2<(ab.length:Int)))) (cD rfl rfl) (k3 (gB h (λhb9 h=> ?_) (λhb9 h=> ?_))))
  ·refine k6 (bV (k1 (bz h λoH qu h=> ?_)));obtain ⟨IU,o14,Te, -⟩:=(H.fj 5).ix qu;refine sv (pt IU o14) (bR Lz.lP cW rfl rfl Te) ?_;obtain ⟨_,⟨_,_,rfl,rfl,⟨_,_,rfl,⟨_,rfl,aaR⟩,rfl⟩⟩,aiy,A6⟩:=((H.fj 5).at qu Te).cells;obtain ⟨a17,zP,rfl⟩:=aaR.rG;replace H:=H.add (d:=Ch.ro 0 (Sl a17 oH.2.1 zP) oH.2.1) aaR (λ_ h=>h);clear aaR;refine sv (.agg #[(I oH.1),(Sl a17 oH.2.1 zP),(I oH.2.2)]) (bp Lz.mE rfl cW rfl aiy A6) (bE (gr (cs:=[(I 0),(.slice none 0 0),(I 0)]) H aQ cW rfl) wn ?_);rintro _ Gv ⟨UY,rfl,H, -⟩;refine gk (bK (k:=0) (cs:=[(I 0),(.slice none 0 0),(I 0)]) (vs:=[(I oH.1),(Sl a17 oH.2.1 zP),(I oH.2.2)]) (cs':=[(I oH.1),(Sl a17 oH.2.1 zP),(I oH.2.2)]) H (i:=0) rfl cW rfl rfl rfl rfl rfl (qa5 rfl) (by simp [plain]) rfl) wn ?_;rintro sr ⟨H, -⟩;refine k2 ?_;have WQ:=H.cell (u:=(I oH.1)) (o':=0) 0 0 rfl rfl rfl;have zX:=H.ei 0;refine bz h λy8 GL h=> ?_;have wo:= @og _ _ _ a17 zP jX fL fM iX iY fN fO jY fP fQ iZ ja _ GL
   refine BD (σ:=sr) (Nm:=Unit) 5 [4] [[false],[true]] (rp 2 [(0,0),(1,1)]++[[(0,0)],[(0,0)],[(0,1)]]) 1 [λ_ ck=>Hp S0 aq ck [Ch.bx n0 UY 0 [(I oH.1),(Sl a17 oH.2.1 zP),(I oH.2.2)] [] [],Ch.ro 0 (Sl a17 oH.2.1 zP) oH.2.1,Ch.bx n0 b1 0 [(I s5.1.1),(Sl a7 s5.1.2 c8)] [] [],Ch.own 0 0 (Sl a7 s5.1.2 c8) s5.1.2,Ch.bx jX fL fM [(I lj)] iX iY,Ch.ro 0 (Sl fN dK fO) dK,Ch.bx jY fP fQ [(Sl fN dK fO)] iZ ja,Ch.ro 0 (Sl ah ab ag) ab]/\Md (dv []) sr ck,λ_ ck=>Hp S0 aq ck [Ch.bx jX fL fM [(I lj)] iX iY,Ch.bx jY fP fQ [(Sl fN dK fO)] iZ ja,Ch.bx n0 UY 0 [(I oH.1),(Sl a17 oH.2.1 zP),(I oH.2.2)] [] [],Ch.ro 0 (Sl a17 oH.2.1 zP) oH.2.1,Ch.bx n0 b1 0 [(I s5.1.1),(Sl a7 s5.1.2 c8)] [] [],Ch.own 0 0 (Sl a7 s5.1.2 c8) s5.1.2,Ch.ro 0 (Sl fN dK fO) dK,Ch.ro 0 (Sl ah ab ag) ab]/\Md (λi=>(dv []) i\/(dv [Ch.ro 0 (Sl a17 oH.2.1 zP) oH.2.1,Ch.bx jX fL fM [(I lj)] iX iY,Ch.bx jY fP fQ [(Sl fN dK fO)] iZ ja,Ch.ro 0 (Sl fN dK fO) dK]) i) sr ck] [λ_=>(pt UY 0),λ_=>(I oH.1),λ_=>(.func (.func 73) #[] #[(pt fL fM),(pt fP fQ)]),λ_=>(.agg #[(I oH.1),(Sl a17 oH.2.1 zP),(I oH.2.2)]),λ_=>(I y8)] () (by kernel_rfl) (by kernel_rfl) (BG H) ?_ ?_
   ·refine fy (λ_ _ _ o d=>aj (off:=0) Lz.mE rfl gx rfl (lo o 9)) (all_cons ⟨?_, ?_,trivial⟩ ?_)
    ·intro _nm ρ ck hJ aY aG;have GJ:=dq aG 0 18;obtain ⟨H,m⟩:=id hJ;have WQ:=H.cell (u:=(I oH.1)) (o':=0) 0 0 rfl rfl rfl;exact qR (an Lz.U3 rfl GJ WQ) hJ
    ·intro _nm ρ ck hJ aY aG;have GJ:=dq aG 0 18;obtain ⟨H,m⟩:=id hJ;have WQ:=H.cell (u:=(I oH.1)) (o':=0) 2 0 rfl rfl rfl;exact qR (an Lz.U3 rfl GJ WQ) hJ
    refine fy (λ_ _ _ o d=>ai (lo o 2)) (all_cons ⟨?_,trivial⟩ ?_)
    ·intro _nm ρ ck hJ aY aG;have e9:=lo (N:=27) aY 9;obtain ⟨H,m⟩:=id hJ;have zX:=H.ei 0;exact qR (bp (cs:=[(I oH.1),(Sl a17 oH.2.1 zP),(I oH.2.2)]) Lz.mE rfl cW e9 rfl zX) hJ
    refine all_cons ⟨?_,trivial⟩ ?_
    ·intro _nm ρ ck hJ aY aG;have e21:look 27 ρ 21=(.agg #[(I oH.1),(Sl a17 oH.2.1 zP),(I oH.2.2)]):=dq aG 3 21;have e20:=dq aG 2 20;obtain ⟨H,m⟩:=id hJ;refine jK wn (bh wo (It (cap:=[(pt fL fM),(pt fP fQ)]) wo.fn e20 (by show [look 27 ρ 21]++[(pt fL fM),(pt fP fQ)]=_;rw [e21];rfl)) aQ (H.se [1,4,6,5,0,1,2,3,5,7]:Hp S0 aq _ ([_,_,_,_]++_))) ?_;rintro _ vf ⟨_,⟨rfl,rfl⟩,H2,m2⟩;exact ⟨_,(),rfl,rfl,⟨H2.se [0,1,2,3,4,5,6,7],m.comp m2⟩,uG [0,1,2,3]⟩
    exact all_nil
   ·intro _nm ρ O2 hJ aY eM;obtain ⟨H, -⟩:=hJ;refine BH aY eM [(2,(.func (.func 73) #[] #[(pt fL fM),(pt fP fQ)])),(7,(pt b1 0)),(12,(Sl ah ab ag)),(13,(I (ab.length:Int))),(14,(I s5.2)),(19,(I oH.1)),(22,(I y8))] [1,4] (sv (.agg #[(I oH.1),(I y8)]) (oC (ps:=[(0,(I oH.1)),(1,(I y8))]) Lz.jU bO (ade Lz.jU) rfl (by kernel_rfl)) (bz h λKb zQ h=> ?_));refine cl (@rM _ _ a7 c8 n0 b1 0 [] [] _ zQ) aQ (H.se [4,5,0,1,2,3,6,7]:Hp S0 aq _ ([_,_]++_)) ?_;rintro _ Lx ⟨_,⟨a32,c33,rfl,rfl⟩,H⟩;replace H:Hp _ _ _ [_,_,_,_,_,_,_,_]:=H;replace H:Hp S0 aq Lx [Ch.bx n0 b1 0 [(I Kb.1),(Sl a32 Kb.2 c33)] [] [],Ch.own 0 0 (Sl a32 Kb.2 c33) Kb.2,Ch.bx jX fL fM [(I lj)] iX iY,Ch.bx jY fP fQ [(Sl fN dK fO)] iZ ja,Ch.ro 0 (Sl fN dK fO) dK,Ch.ro 0 (Sl ah ab ag) ab]:=H.se [0,1,2,3,6,7];refine bo (bX (az (rg (sv (I (ao (s5.2+1))) (cF rfl rfl) (av (I (ao (s5.2+1))) (k2 ?_))))));obtain rfl:=sj h;exact ⟨_,rfl,_,Lx,a32,c33,cC rfl,rfl,H.se [0,1,2,4,3,5]⟩
  ·refine dH (aC (aC (bD ?_)));obtain rfl:=sj h;obtain rfl:=cE _ rfl;exact ⟨rfl,_,CH,a7,c8,cC rfl,rfl,H.se [0,1,2,3,4]⟩
 ·replace h:=h';clear h' H;rintro e a w ⟨rfl,ρ,IW,YP,YQ,rfl,rfl,H⟩;refine az (k1 ?_);obtain ⟨Gw,IX,H, -⟩:=H.kR 1;rw [←IX];clear IX;refine bz h λr40 aaS h=> ?_;refine cl (@qE _ YP YQ n0 b1 0 [] [] _ aaS) aQ (H.se [1,0,0,2,3,4]:Hp S0 aq _ ([_,_]++_)) ?_;rintro _ WJ ⟨_,⟨a43,c44,rfl,rfl⟩,H⟩;replace H:Hp _ _ _ [_,_,_,_,_,_]:=H;refine aJ (Sl a43 r40 c44) (k7 ?_);obtain rfl:=sj h;exact en Tryz.results72 ⟨a43,c44,rfl,rfl⟩ (H.se [0,3,5])
theorem wx{ab eK iy y6 ah ag iI iJ r}(h:M.iW ab eK iy y6=some r):
  bL Lz.prog 39 [(Sl ah ab ag),(I eK),(Sl iI iy iJ),(I y6)] [Ch.ro 0 (Sl ah ab ag) ab,Ch.ro 0 (Sl iI iy iJ) iy] (λn0 v L=> ∃du db,v=(Sl du r db)/\L=[Ch.own 0 n0 (Sl du r db) r]):=by
 refine cI Lz.N39 ?_;intro S0 aq n0 aQ H;unfold M.iW at h;refine k1 (bE (gm (cs:=[(I eK)]) H aQ rfl rfl) wn ?_);rintro _ iL ⟨b1,rfl,H, -⟩;refine bE (gm (cs:=[(Sl iI iy iJ)]) H aQ rfl rfl) wn ?_;rintro _ uH ⟨b3,rfl,H, -⟩;refine aJ (.slice none 0 0) (k4 (av (Sl ah ab ag) (av (I y6) (sv (.func (.func 73) #[] #[(pt b1 0),(pt b3 0)]) (rj (vs:=[(pt b1 0),(pt b3 0)]) rfl) (bz h λr5 rT h=> ?_)))));refine cl (@lM _ _ _ _ ah ag n0 b1 0 [] [] iI iJ n0 b3 0 [] [] _ rT) aQ (H.se [2,1,0,3,2,3]:Hp S0 aq _ ([_,_,_,_]++_)) ?_;rintro _ xj ⟨_,⟨a8,c9,rfl,rfl⟩,H⟩;replace H:Hp _ _ _ [_,_,_,_,_]:=H;refine aJ (Sl a8 r5 c9) (k7 ?_);obtain rfl:=sj h;exact en Tryz.results39 ⟨a8,c9,rfl,rfl⟩ (H.se [0])
theorem CV{ab eK iy y6 ah ag iI iJ r}(h:M.ik ab eK iy y6=some r):
   bL Lz.prog 10 [(Sl ah ab ag),(I eK),(Sl iI iy iJ),(I y6)] [Ch.ro 0 (Sl ah ab ag) ab,Ch.ro 0 (Sl iI iy iJ) iy] (λn0 v L=> ∃du db,v=(Sl du r db)/\L=[Ch.own 0 n0 (Sl du r db) r]):=by
 refine cI Lz.N10 ?_;intro S0 aq n0 aQ H;unfold M.ik at h;refine k1 (aJ (.slice none 0 0) (k5 (av (Sl ah ab ag) (av (I eK) (av (Sl iI iy iJ) (av (I y6) (bz h λr1 oN h=> ?_)))))));refine cl (@qx _ _ _ _ ah ag iI iJ _ oN) aQ (H.se [0,1,0,1]:Hp S0 aq _ ([_,_]++_)) ?_;rintro _ uH ⟨_,⟨rfl,rfl⟩,H⟩;replace H:Hp _ _ _ [_,_]:=H;refine sv (B (!r1)) (cO rfl) (k2 (gB h (λA8 h=> ?_) (λA8 h=> ?_)))
 ·refine k1 (aJ (.slice none 0 0) (k7 (aF ?_)));replace H:=H.kY (Int×Int) 0 n0;obtain rfl:=sj h;exact en Tryz.results10 ⟨none,0,rfl,rfl⟩ (H.se [0])
 ·refine k6 (rg (av (Sl ah ab ag) (av (I eK) (av (Sl iI iy iJ) (av (I y6) (bz h λr6 ue h=> ?_))))));refine cl (@wx _ _ _ _ ah ag iI iJ _ ue) aQ (H.se [0,1,0,1]:Hp S0 aq _ ([_,_]++_)) ?_;rintro _ wu ⟨_,⟨a9,UX,rfl,rfl⟩,H⟩;replace H:Hp _ _ _ [_,_,_]:=H;refine aJ (Sl a9 r6 UX) (k7 ?_);obtain rfl:=sj h;exact en Tryz.results10 ⟨a9,UX,rfl,rfl⟩ (H.se [0])
end Go.Vs
