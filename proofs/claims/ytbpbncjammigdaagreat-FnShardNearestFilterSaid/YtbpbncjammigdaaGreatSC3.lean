/- The functions compute what their models say. -/
import Derived.Test.YtbpbncjammigdaaGreatAl
import Derived.Test.YtbpbncjammigdaaGreatEng2
import Derived.Test.YtbpbncjammigdaaGreatSC2
set_option linter.unusedVariables false
set_option linter.unusedSimpArgs false
set_option maxHeartbeats 2000000
set_option maxRecDepth 20000
namespace Go.Vs
open Go Go.Proofs
attribute [local irreducible] Code.wp Code.wpIn wpList wpListIn wpQuiet Calls CallsIn
theorem yt{bN rL}(Je:rL.length=4){r}(h:M.j7 bN rL=some r):
    bL Lz.prog 115 [(I bN),(.agg (List.map I rL).toArray)] [] (λn0 v L=>v=(I r)/\L=[]):=by
 refine cI Lz.agO ?_;intro S0 aq n0 aQ H;unfold M.j7 at h;refine k1 (bE (gm (cs:=(List.map I rL)) H aQ rfl rfl) wn ?_);rintro _ iL ⟨b1,rfl,H, -⟩;refine aJ (I 0) (k4 (aJ (I 0) (k5 ?_)));have Qc:=H.ei 0;refine sv (.agg (List.map I rL).toArray) (bq (cs:=(List.map I rL)) Lz.zJ rfl AI rfl (by rw [qbu];exact Je) Qc) (av (I 0) (k2 ?_));obtain ⟨o4,h,h'⟩:=bind_some h;refine cj (λe a w=>(∃t,o4=(.inl t)/\e= .normal/\ ∃ρ σ,a=fr 38 (cz ρ [(5,(I t))])/\w=σ.w/\Hp S0 aq σ [])\/(∃t,o4=(.inr t)/\e= .ret/\ ∃ρ σ,a=fr 38 (cz ρ [(4,(I t))])/\w=σ.w/\Hp S0 aq σ [])) ?_ ?_
 ·clear h';refine bV (bZ _ h (λs5 a w=> ∃ρ σ,a=fr 38 (cz ρ [(0,(I bN)),(5,(I s5.1)),(8,(.agg (List.map I rL).toArray)),(9,(I s5.2))])/\w=σ.w/\Hp S0 aq σ []) ⟨_,iL,cC rfl,rfl,H.se []⟩ ?_);clear h H;rintro s5 a w o ⟨ρ,CK,rfl,rfl,H⟩ h cE;refine k1 (sv (B (decide (s5.2<4))) (cD rfl rfl) (k3 (gC h (λqv h=> ?_) (λqv h=> ?_))))
  ·refine k6 ?_;obtain ⟨o8,h,h'⟩:=bind_some h;refine cj (λe a w=>(∃t,o8=(.inl t)/\e= .normal/\ ∃ρ σ,a=fr 38 (cz ρ [(0,(I bN)),(5,(I t)),(8,(.agg (List.map I rL).toArray)),(9,(I s5.2))])/\w=σ.w/\Hp S0 aq σ [])\/(∃t,o8=(.inr t)/\e= .ret/\ ∃ρ σ,a=fr 38 (cz ρ [(4,(I t))])/\w=σ.w/\Hp S0 aq σ [])) ?_ ?_
   ·clear h';refine bV (k1 (bA h λx9 vk h=> ?_));refine sv (I x9) (aan Lz.zJ gy Lz.U3 rfl rfl vk Je) (aJ (I x9) (k4 (av (I bN) (k2 (bV (k1 (sv (B (bN==1)) (fA rfl rfl) (aJ (B (bN==1)) (k2 (gC h (λmI h=> ?_) (λmI h=> ?_)))))))))))
    ·refine rg (av (I s5.1) (av (I x9) (sv (I (ao (s5.1+x9))) (cF rfl rfl) (aJ (I (ao (s5.1+x9))) (bp (bX (bX ?_)))))));obtain rfl:=sj h;exact .inl ⟨_,rfl,rfl,_,CK,cC rfl,rfl,H.se []⟩
    ·refine k1 (sv (B (bN==2)) (fA rfl rfl) (aJ (B (bN==2)) (k2 (gC h (λqz h=> ?_) (λqz h=> ?_)))))
     ·refine rg (av (I s5.1) (av (I x9) (sv (I (max s5.1 x9)) (F3 rfl rfl) (aJ (I (max s5.1 x9)) (bp (bX (bX ?_)))))));obtain rfl:=sj h;exact .inl ⟨_,rfl,rfl,_,CK,cC rfl,rfl,H.se []⟩
     ·refine k1 (sv (B (bN==3)) (fA rfl rfl) (aJ (B (bN==3)) (k2 (gC h (λoh h=> ?_) (λoh h=> ?_)))))
      ·refine rg (av (I s5.1) (av (I x9) (av (I x9) (sv (I (ao (x9*x9))) (oV rfl rfl) (sv (I (ao (s5.1+(ao (x9*x9))))) (cF rfl rfl) (aJ (I (ao (s5.1+(ao (x9*x9))))) (bp (bX (bX ?_)))))))));obtain rfl:=sj h;exact .inl ⟨_,rfl,rfl,_,CK,cC rfl,rfl,H.se []⟩
      ·refine k1 (sv (B (bN==4)) (fA rfl rfl) (aJ (B (bN==4)) (k2 (gC h (λoY h=> ?_) (λoY h=> ?_)))))
       ·refine rg (av (I s5.1) (av (I x9) (sv (I (min x9 1)) (KZ rfl rfl) (sv (I (ao (s5.1+(min x9 1)))) (cF rfl rfl) (aJ (I (ao (s5.1+(min x9 1)))) (bp (bX (bX ?_))))))));obtain rfl:=sj h;exact .inl ⟨_,rfl,rfl,_,CK,cC rfl,rfl,H.se []⟩
       ·refine k1 (aJ (I (-1)) (k7 (dD (dD ?_))));obtain rfl:=sj h;exact .inr (⟨_,rfl,rfl,_,CK,cC rfl,rfl,H.se []⟩)
   ·replace h:=h';clear h' H;rintro e a w (⟨t15,rfl,rfl,ρ,uA,rfl,rfl,H⟩ | ⟨t17,rfl,rfl,ρ,qZ,rfl,rfl,H⟩)
    ·replace h:=kP h;refine az (rg (sv (I (ao (s5.2+1))) (cF rfl rfl) (av (I (ao (s5.2+1))) (k2 ?_))));obtain rfl:=sj h;exact ⟨_,rfl,_,uA,cC rfl,rfl,H.se []⟩
    ·replace h:=kQ h;refine aG (aG (dD ?_));obtain rfl:=sj h;obtain rfl:=cE _ rfl;exact .inr (⟨_,rfl,rfl,_,qZ,cC rfl,rfl,H.se []⟩)
  ·refine dH (aC (aC (bD ?_)));obtain rfl:=sj h;obtain rfl:=cE _ rfl;exact .inl ⟨_,rfl,rfl,_,CK,cC rfl,rfl,H.se []⟩
 ·replace h:=h';clear h' H;rintro e a w (⟨t19,rfl,rfl,ρ,Ea,rfl,rfl,H⟩ | ⟨t21,rfl,rfl,ρ,sx,rfl,rfl,H⟩)
  ·replace h:=kP h;refine az (k1 (av (I t19) (aJ (I t19) (k7 ?_))));obtain rfl:=sj h;exact en Tryz.results115 ⟨rfl,rfl⟩ (H.se [])
  ·replace h:=kQ h;refine aG ?_;obtain rfl:=sj h;exact en Tryz.results115 ⟨rfl,rfl⟩ (H.se [])
theorem Bi{bN ud vU xq uD yu vn r}(h:M.kr bN ud vU=some r):
    bL Lz.prog 74 [(I bN),(Sl xq ud uD),(Sl yu vU vn)] [Ch.ro 0 (Sl xq ud uD) ud,Ch.ro 0 (Sl yu vU vn) vU] (λn0 v L=>v=(I r)/\L=[]):=by
 refine cI Lz.N74 ?_;intro S0 aq n0 aQ H;unfold M.kr at h;refine k1 (aJ (I 0) (k3 (dz ?_)));obtain ⟨o1,h,h'⟩:=bind_some h;refine cj (Jn S0 aq 24 [(0,(I bN)),(1,(Sl xq ud uD)),(2,(Sl yu vU vn)),(14,(B o1))] [Ch.ro 0 (Sl xq ud uD) ud,Ch.ro 0 (Sl yu vU vn) vU]) ?_ ?_
 ·clear h';refine rg (av (Sl xq ud uD) (bA h λr2 Kk h=> ?_));refine cl (@jW _ xq uD _ Kk) aQ (H.se [0,0,1]:Hp S0 aq _ ([_]++_)) ?_;rintro _ Cz ⟨_,⟨rfl,rfl⟩,H⟩;replace H:Hp _ _ _ [_,_]:=H;refine sv (B (!r2)) (cO rfl) (av (B (!r2)) ?_);rcases oI h with ⟨qB,h⟩ | ⟨qB,h⟩
  ·refine ak (congrArg some qB) (ak (congrArg some qB) (ak (congrArg some qB) (sv (B true) (aK (congrArg B qB) rfl) (bp ?_))));obtain rfl:=sj h;exact ⟨rfl,_,Cz,cC rfl,rfl,H.se [0,1]⟩
  ·refine bW (v:=(Sl yu vU vn)) (congrArg some qB) (ai rfl) (bA h λr7 zh h=> ?_);have zQ:= @jW _ yu vn _ zh;refine bY (bh zQ (cY zQ.fn rfl) aQ (H.se [1,0,1]:Hp S0 aq _ ([_]++_))) (aA rfl (by exact (congrArg some qB))) ?_;rintro _ xn ⟨_,⟨rfl,rfl⟩,H, -⟩;replace H:Hp _ _ _ [_,_]:=H;refine bW (v:=(B (!r7))) (congrArg some qB) (cO rfl) (sv (B (!r7)) (ax (congrArg B qB) rfl) (bp ?_));obtain rfl:=sj h;exact ⟨rfl,_,xn,cC rfl,rfl,H.se [0,1]⟩
 ·replace h:=h';clear h' H;rintro e a w ⟨rfl,ρ,wz,rfl,rfl,H⟩;refine az (gC h (λqz h=> ?_) (λqz h=> ?_))
  ·refine k1 (aJ (I (-1)) (k7 (aG ?_)));obtain rfl:=sj h;exact en Tryz.results74 ⟨rfl,rfl⟩ (H.se [])
  ·refine k6 (bA h λakF Bh h=> ?_);obtain ⟨Jb,aiw⟩:=ER Bh;clear Bh aiw;obtain ⟨Nf,sn,rfl,rM⟩:=(H.fl 0).arr (qa3 (by decide) Jb);refine bA h λakG O9 h=> ?_;obtain ⟨WW,aix⟩:=ER O9;clear O9 aix;obtain ⟨b22,P8,rfl,z7⟩:=(H.fl 1).arr (qa3 (by decide) WW);refine bA h λuu Jc h=> ?_;have IW:=Ed (by rw [qan];have:=Jb;omega) (by rw [qan];have:=WW;omega) Jc;have Hs:=H;refine BH (σ:=wz) (Nm:=Unit) 8 [7] [[false],[true]] ([[(0,0),(1,1)]]++rp 6 [(0,0)]++[[(0,1)]]) 1 [λ_ ck=>Hp S0 aq ck [Ch.ro 0 (Sl (some ⟨Nf,sn,none⟩) ud uD) ud,Ch.ro 0 (Sl (some ⟨b22,P8,none⟩) vU vn) vU]/\Md (dx []) wz ck,λ_ ck=>Hp S0 aq ck [Ch.ro 0 (Sl (some ⟨Nf,sn,none⟩) ud uD) ud,Ch.ro 0 (Sl (some ⟨b22,P8,none⟩) vU vn) vU]/\Md (dx []) wz ck/\uu.length=4] [λ_=>(I bN),λ_=>(Sl (some ⟨Nf,sn,none⟩) ud uD),λ_=>(.pointer (some ⟨Nf,sn,none⟩)),λ_=>(.agg (List.map I (List.take 4 ud)).toArray),λ_=>(Sl (some ⟨b22,P8,none⟩) vU vn),λ_=>(.pointer (some ⟨b22,P8,none⟩)),λ_=>(.agg (List.map I (List.take 4 vU)).toArray),λ_=>(.agg (List.map I uu).toArray)] () (by kernel_rfl) (by kernel_rfl) (BK H) ?_ ?_
   ·refine fy (λ_ _ _ o d=>ai (lo o 0)) (fy (λ_ _ _ o d=>ai (lo o 1)) (fy (λ_ _ _ o d=>EP Lz.zJ (dq d 1 16) Jb) (all_cons ⟨?_,trivial⟩ ?_)))
    ·intro _nm ρ ck hJ aY aH;have e17:=dq aH 2 17;obtain ⟨H,m⟩:=id hJ;replace rM:=(Hs.ro 0 rfl).RP rM m;exact qV (bq (cs:=List.map I (List.take 4 ud)) Lz.zJ rfl AI e17 (by rw [qbu,qan];have:=Jb;omega) (Iw rM)) hJ
    refine fy (λ_ _ _ o d=>ai (lo o 2)) (fy (λ_ _ _ o d=>EP Lz.zJ (dq d 4 19) WW) (all_cons ⟨?_,trivial⟩ ?_))
    ·intro _nm ρ ck hJ aY aH;have e20:=dq aH 5 20;obtain ⟨H,m⟩:=id hJ;replace z7:=(Hs.ro 1 rfl).RP z7 m;exact qV (bq (cs:=List.map I (List.take 4 vU)) Lz.zJ rfl AI e20 (by rw [qbu,qan];have:=WW;omega) (Iw z7)) hJ
    refine all_cons ⟨?_,trivial⟩ ?_
    ·intro _nm ρ ck hJ aY aH;have GM:look 24 ρ 18=(.agg (List.map I (List.take 4 ud)).toArray):=dq aH 3 18;have e21:look 24 ρ 21=(.agg (List.map I (List.take 4 vU)).toArray):=dq aH 6 21;obtain ⟨H,m⟩:=id hJ;refine jL wn (bh IW (cY IW.fn (by show [look 24 ρ 18,look 24 ρ 21]=_;rw [GM,e21])) aQ (H.se [0,1]:Hp S0 aq _ ([]++_))) ?_;rintro _ vj ⟨_,⟨rfl,rfl,aaU⟩,H2,m2⟩;exact ⟨_,(),rfl,rfl,⟨H2.se [0,1],m.jk m2,aaU⟩,uJ [0,1,2,3,4,5,6]⟩
    exact all_nil
   ·intro _nm ρ GG hJ aY eN;obtain ⟨H, -, aaU⟩:=hJ;clear Hs;refine BM aY eN [(15,(I bN)),(22,(.agg (List.map I uu).toArray))] [0,7] (bA h λux A7 h=> ?_);refine cl (yt aaU A7) aQ (H.se [0,1]:Hp S0 aq _ ([]++_)) ?_;rintro _ I1 ⟨_,⟨rfl,rfl⟩,H⟩;replace H:Hp _ _ _ [_,_]:=H;refine aJ (I ux) (k7 ?_);obtain rfl:=sj h;exact en Tryz.results74 ⟨rfl,rfl⟩ (H.se [])
theorem oi{bQ AG DN cA cB yq zY xp tJ tK Tj Tk E4 GK Bf zZ z6 r}(h:M.dJ bQ AG DN=some r):
  bL Lz.prog 73 [(.agg #[(I bQ.1),(Sl cA bQ.2.1 cB),(I bQ.2.2)]),(pt zY xp),(pt GK Bf)] [Ch.ro 0 (Sl cA bQ.2.1 cB) bQ.2.1,Ch.bx yq zY xp [(I AG)] tJ tK,Ch.bx E4 GK Bf [(Sl Tj DN Tk)] zZ z6,Ch.ro 0 (Sl Tj DN Tk) DN] (λn0 v L=>v=(I r)/\L=[Ch.bx yq zY xp [(I AG)] tJ tK,Ch.bx E4 GK Bf [(Sl Tj DN Tk)] zZ z6]):=by
 refine cI Lz.N73 ?_;intro S0 aq n0 aQ H;unfold M.dJ at h;refine k1 (bE (gm (cs:=[(I bQ.1),(Sl cA bQ.2.1 cB),(I bQ.2.2)]) H aQ rfl rfl) wn ?_);rintro _ iL ⟨b1,rfl,H, -⟩;refine aJ (I 0) (k4 (sv (I AG) (an Lz.U3 rfl rfl (H.eZ 2 0)) (sv (pt b1 1) (aj (off:=1) Lz.mG rfl CH rfl rfl) (sv (Sl cA bQ.2.1 cB) (an Lz.ov rfl rfl (H.eZ 0 1)) (sv (Sl Tj DN Tk) (an Lz.ov rfl rfl (H.eZ 3 0)) (bA h λr6 uh h=> ?_))))));refine cl (@Bi _ _ _ cA cB Tj Tk _ uh) aQ (H.se [1,4,0,1,2,3,4]:Hp S0 aq _ ([_,_]++_)) ?_;rintro _ SG ⟨_,⟨rfl,rfl⟩,H⟩;replace H:Hp _ _ _ [_,_,_,_,_]:=H;refine aJ (I r6) (k7 ?_);obtain rfl:=sj h;exact en Tryz.results73 ⟨rfl,rfl⟩ (H.se [2,3])
theorem oL{dT ff eo er gz dP da dQ dR r}(h:M.fz dT ff=some r):
    bL Lz.prog 189 [(pt dP da),(.iface 35 (.agg #[(I ff.1),(I ff.2)]))] [Ch.bx gz dP da [(Sl eo dT er)] dQ dR,Ch.own 0 0 (Sl eo dT er) dT] (λn0 v L=> ∃dv dc,v=(.tuple #[])/\L=[Ch.bx gz dP da [(Sl dv r dc)] dQ dR,Ch.own 0 0 (Sl dv r dc) r]):=by
 refine cI Lz.ahs ?_;intro S0 aq n0 aQ H;unfold M.fz at h;have Gc:=H.cell (u:=(Sl eo dT er)) (o':=da) 0 0 rfl rfl rfl;refine bA h λIQ Nd h=> ?_;refine BH (σ:=aq) (Nm:=(Nat)×(Option Addr)×(Nat)) 8 [6,7] [[false,false],[true,false],[true,true]] ([[(0,0),(1,1),(2,2)]]++rp 3 [(0,0),(1,1)]++[[(0,0)],[(0,0)],[(0,1)],[(1,2)]]) 2 [λ⟨b2,a5,c6⟩ ck=>Hp S0 aq ck [Ch.bx gz dP da [(Sl eo dT er)] dQ dR,Ch.own 0 0 (Sl eo dT er) dT]/\Md (dx []) aq ck,λ⟨b2,a5,c6⟩ ck=>Hp S0 aq ck [Ch.own n0 n0 (Sl (some ⟨b2,0,none⟩) ([(ff.1,ff.2)]:List (Int×Int)) 1) ([(ff.1,ff.2)]:List (Int×Int)),Ch.bx gz dP da [(Sl eo dT er)] dQ dR,Ch.own 0 0 (Sl eo dT er) dT]/\Md (dx []) aq ck,λ⟨b2,a5,c6⟩ ck=>Hp S0 aq ck [Ch.own 0 0 (Sl a5 IQ c6) IQ,Ch.own n0 n0 (Sl (some ⟨b2,0,none⟩) ([(ff.1,ff.2)]:List (Int×Int)) 1) ([(ff.1,ff.2)]:List (Int×Int)),Ch.bx gz dP da [(Sl eo dT er)] dQ dR]/\Md (λi=>(dx []) i\/(λb=>blk (Sl eo dT er)=some b) i) aq ck] (Gt (rp 3 (λ⟨b2,a5,c6⟩=>(pt dP da))) [λ⟨b2,a5,c6⟩=>(Sl eo dT er),λ⟨b2,a5,c6⟩=>(.iface 35 (.agg #[(I ff.1),(I ff.2)])),λ⟨b2,a5,c6⟩=>(.agg #[(I ff.1),(I ff.2)]),λ⟨b2,a5,c6⟩=>(Sl (some ⟨b2,0,none⟩) ([(ff.1,ff.2)]:List (Int×Int)) 1),λ⟨b2,a5,c6⟩=>(Sl a5 IQ c6)]) (0,none,0) (by kernel_rfl) (by kernel_rfl) (BK H) ?_ ?_
 ·refine fy (λ⟨b2,a5,c6⟩ _ _ o d=>ai (lo o 0)) (fy (λ⟨b2,a5,c6⟩ _ _ o d=>ai (lo o 0)) (fy (λ⟨b2,a5,c6⟩ _ _ o d=>cG (dq d 1 5)) (all_cons ⟨?_, ?_,trivial⟩ ?_)))
  ·rintro ⟨b2,a5,c6⟩ ρ ck hJ aY aH;have e6:=dq aH 2 6;obtain ⟨H,m⟩:=id hJ;have Gc:=H.cell (u:=(Sl eo dT er)) (o':=da) 0 0 rfl rfl rfl;exact qV (an Lz.mo rfl e6 Gc) hJ
  ·rintro ⟨b2,a5,c6⟩ ρ ck hJ aY aH;have e6:=dq aH 2 6;obtain ⟨H,m⟩:=id hJ;have Gc:=H.cell (u:=(Sl eo dT er)) (o':=da) 1 0 rfl rfl rfl;exact qV (an Lz.mo rfl e6 Gc) hJ
  refine fy (λ⟨b2,a5,c6⟩ _ _ o d=>ai (lo o 1)) (fy (λ⟨b2,a5,c6⟩ _ _ o d=>D1 Lz.jU rfl (dq d 4 8)) (all_cons ⟨?_,trivial⟩ ?_))
  ·rintro ⟨b2,a5,c6⟩ ρ ck hJ aY aH;have e9:look 13 ρ 9=(.agg #[(I ff.1),(I ff.2)]):=dq aH 5 9;obtain ⟨H,m⟩:=id hJ;refine yj wn (aN (el:=n0) (xs:=([(ff.1,ff.2)]:List (Int×Int))) (ps:=[(0,(.agg #[(I ff.1),(I ff.2)]))]) (cs:=[(I ff.1),(I ff.2)]) H aQ Lz.mo bO rfl (by show [(0,look 13 ρ 9)]=_;rw [e9]) (by kernel_rfl) (.cons (c:=[(I ff.1),(I ff.2)]) ⟨[(I ff.1)],[(I ff.2)],rfl,rfl,rfl⟩ (.nil)) rfl) ?_;rintro _ vj ⟨b2x,rfl,H2,m2⟩;exact ⟨_,(b2x,a5,c6),rfl,rfl,⟨H2.se [0,1,2],m.jk m2⟩,uJ [0,1,2,3,4,5]⟩
  refine all_cons ⟨?_,trivial⟩ ?_
  ·rintro ⟨b2,a5,c6⟩ ρ ck hJ aY aH;have e7:=dq aH 3 7;have WY:=dq aH 6 10;obtain ⟨H,m⟩:=id hJ;refine yj wn (fe H (i:=2) rfl Lz.mo Lz.mo bO rfl rfl (by decide) ((H.gN 0).rd.sc) Nd (qa7 _) e7 WY) ?_;rintro _ vj ⟨a5x,c6x,rfl,H2,m2⟩;exact ⟨_,(b2,a5x,c6x),rfl,rfl,⟨H2.se [0,1,2],m.comp m2⟩,uJ [0,1,2,3,4,5,6]⟩
  exact all_nil
 ·rintro ⟨b2,a5,c6⟩ ρ IY hJ aY eN;obtain ⟨H, -⟩:=hJ;refine BM aY eN [(0,(pt dP da)),(4,(pt dP da)),(11,(Sl a5 IQ c6))] [0,7] (sv (pt dP da) (cG rfl) (gk (bK (k:=0) (cs:=[(Sl eo dT er)]) (vs:=[(Sl a5 IQ c6)]) (cs':=[(Sl a5 IQ c6)]) H (i:=2) rfl CJ rfl rfl rfl rfl rfl (qa5 rfl) (by simp [plain]) rfl) wn ?_));rintro WN ⟨H, -⟩;refine bp ?_;obtain rfl:=sj h;exact vT (v:=(.tuple #[])) (cv Tryz.results189 eW rfl) ⟨a5,c6,rfl,rfl⟩ (H.se [0,1])
theorem qC{dT eo er r}(h:M.iA dT=some r):
  bL Lz.prog 182 [(Sl eo dT er)] [Ch.ro 0 (Sl eo dT er) dT] (λn0 v L=>v=(I r)/\L=[]):=by
 refine cI Lz.aho ?_;intro S0 aq n0 aQ H;unfold M.iA at h;refine k1 (aJ (I 0) (k4 (av (Sl eo dT er) (sv (I (dT.length:Int)) (bF Lz.mo rfl) (aJ (I (dT.length:Int)) (k7 ?_))))));obtain rfl:=sj h;exact en Tryz.results182 ⟨rfl,rfl⟩ (H.se [])
theorem uj{bQ r}(h:M.cmp_isNaN_int bQ=some r):
  bL Lz.prog 119 [(I bQ)] [] (λn0 v L=>v=(B r)/\L=[]):=by
 refine cI Lz.agS ?_;intro S0 aq n0 aQ H;unfold M.cmp_isNaN_int at h;refine k1 (aJ (B false) (k4 (av (I bQ) (av (I bQ) (sv (B (bQ != bQ)) (KY rfl rfl) (aJ (B (bQ != bQ)) (k7 ?_)))))));obtain rfl:=sj h;exact en Tryz.results119 ⟨rfl,rfl⟩ (H.se [])
theorem nF{bQ Sv r}(h:M.gP bQ Sv=some r):
    bL Lz.prog 78 [(I bQ),(I Sv)] [] (λn0 v L=>v=(I r)/\L=[]):=by
 refine cI Lz.N78 ?_;intro S0 aq n0 aQ H;unfold M.gP at h;refine k1 (aJ (I 0) (k4 (av (I bQ) (bA h λr1 oQ h=> ?_))));refine cl (uj oQ) aQ (H.se []:Hp S0 aq _ ([]++_)) ?_;rintro _ uK ⟨_,⟨rfl,rfl⟩,H⟩;replace H:Hp _ _ _ []:=H;refine aJ (B r1) (k4 (av (I Sv) (bA h λr5 rV h=> ?_)));refine cl (uj rV) aQ (H.se []:Hp S0 aq _ ([]++_)) ?_;rintro _ WN ⟨_,⟨rfl,rfl⟩,H⟩;replace H:Hp _ _ _ []:=H;refine aJ (B r5) (k5 (av (B r1) (k2 (gC h (λhb9 h=> ?_) (λhb9 h=> ?_)))))
 ·refine dz (k1 (av (B r5) (k2 (gC h (λfJ h=> ?_) (λfJ h=> ?_)))))
  ·refine k1 (aJ (I 0) (k7 (aG (aG ?_))));obtain rfl:=sj h;exact en Tryz.results78 ⟨rfl,rfl⟩ (H.se [])
  ·refine k6 (rg (aJ (I (-1)) (k7 (aG ?_))));obtain rfl:=sj h;exact en Tryz.results78 ⟨rfl,rfl⟩ (H.se [])
 ·refine k6 (k1 (av (B r5) (k2 (gC h (λmI h=> ?_) (λmI h=> ?_)))))
  ·refine k1 (aJ (I 1) (k7 (aG ?_)));obtain rfl:=sj h;exact en Tryz.results78 ⟨rfl,rfl⟩ (H.se [])
  ·refine k6 (k1 (av (I bQ) (av (I Sv) (sv (B (decide (bQ<Sv))) (cD rfl rfl) (k2 (gC h (λqz h=> ?_) (λqz h=> ?_)))))))
   ·refine k1 (aJ (I (-1)) (k7 (aG ?_)));obtain rfl:=sj h;exact en Tryz.results78 ⟨rfl,rfl⟩ (H.se [])
   ·refine k6 (k1 (av (I bQ) (av (I Sv) (sv (B (decide (Sv<bQ))) (iC rfl rfl) (k2 (gC h (λoh h=> ?_) (λoh h=> ?_)))))))
    ·refine k1 (aJ (I 1) (k7 (aG ?_)));obtain rfl:=sj h;exact en Tryz.results78 ⟨rfl,rfl⟩ (H.se [])
    ·refine k6 (rg (aJ (I 0) (k7 ?_)));obtain rfl:=sj h;exact en Tryz.results78 ⟨rfl,rfl⟩ (H.se [])
theorem GN{nu yw yx r}(h:M.qs nu=some r):
    bL Lz.prog 132 [(Sl yw nu yx)] [Ch.ro 0 (Sl yw nu yx) nu] (λn0 v L=>v=(I r)/\L=[]):=by
 refine cI Lz.agV ?_;intro S0 aq n0 aQ H;unfold M.qs at h;refine k1 (aJ (I 0) (k4 (aJ (I 0) (k5 (av (Sl yw nu yx) (sv (I (nu.length:Int)) (bF Lz.ov rfl) (av (I 0) (k2 ?_))))))));obtain ⟨o1,h,h'⟩:=bind_some h;refine cj (λe a w=>(∃t,o1=(.inl t)/\e= .normal/\ ∃ρ σ,a=fr 18 (cz ρ [(3,(I 0))])/\w=σ.w/\Hp S0 aq σ [])\/(∃t,o1=(.inr t)/\e= .ret/\ ∃ρ σ,a=fr 18 (cz ρ [(2,(I t))])/\w=σ.w/\Hp S0 aq σ [])) ?_ ?_
 ·clear h';refine bV (bZ _ h (λs2 a w=> ∃ρ σ,a=fr 18 (cz ρ [(3,(I 0)),(6,(Sl yw nu yx)),(7,(I (nu.length:Int))),(8,(I s2))])/\w=σ.w/\Hp S0 aq σ [Ch.ro 0 (Sl yw nu yx) nu]) ⟨_,aq,cC rfl,rfl,H.se [0]⟩ ?_);clear h H;rintro s2 a w o ⟨ρ,ji,rfl,rfl,H⟩ h cE;refine k1 (sv (B (decide (s2<(nu.length:Int)))) (cD rfl rfl) (k3 (gC h (λuy h=> ?_) (λuy h=> ?_))))
  ·refine k6 (bV (k1 (bA h λx5 rV h=> ?_)));obtain ⟨b8,o9,CQ, -⟩:=(H.fl 0).ix rV;refine sv (pt b8 o9) (bR Lz.ov gy rfl rfl CQ) ?_;have vi:=((H.fl 0).at rV CQ).int;refine sv (I x5) (an Lz.U3 rfl rfl vi) (aJ (I x5) (k4 (av (I x5) (av (I 0) (sv (B (x5 != 0)) (KY rfl rfl) (k2 (gC h (λmI h=> ?_) (λmI h=> ?_))))))))
   ·refine k1 (av (I x5) (aJ (I x5) (k7 (dD (aG (aG (dD ?_)))))));obtain rfl:=sj h;obtain rfl:=cE _ rfl;exact .inr (⟨_,rfl,rfl,_,ji,cC rfl,rfl,H.se []⟩)
   ·refine eF (bX (az (rg (sv (I (ao (s2+1))) (cF rfl rfl) (av (I (ao (s2+1))) (k2 ?_))))));obtain rfl:=sj h;exact ⟨_,rfl,_,ji,cC rfl,rfl,H.se [0]⟩
  ·refine dH (aC (aC (bD ?_)));obtain rfl:=sj h;obtain rfl:=cE _ rfl;exact .inl ⟨_,rfl,rfl,_,ji,cC rfl,rfl,H.se []⟩
 ·replace h:=h';clear h' H;rintro e a w (⟨t12,rfl,rfl,ρ,zL,rfl,rfl,H⟩ | ⟨t14,rfl,rfl,ρ,mU,rfl,rfl,H⟩)
  ·replace h:=kP h;refine az (k1 (av (I 0) (aJ (I 0) (k7 ?_))));obtain rfl:=sj h;exact en Tryz.results132 ⟨rfl,rfl⟩ (H.se [])
  ·replace h:=kQ h;refine aG ?_;obtain rfl:=sj h;exact en Tryz.results132 ⟨rfl,rfl⟩ (H.se [])
theorem mJ{eJ eU r}(h:M.dt eJ eU=some r):
    bL Lz.prog 104 [(.agg #[(I eJ.1),(I eJ.2)]),(.agg #[(I eU.1),(I eU.2)])] [] (λn0 v L=>v=(I r)/\L=[]):=by
 refine cI Lz.adb ?_;intro S0 aq n0 aQ H;unfold M.dt at h;refine k1 (bE (gm (cs:=[(I eJ.1),(I eJ.2)]) H aQ rfl rfl) wn ?_);rintro _ iL ⟨b1,rfl,H, -⟩;refine bE (gm (cs:=[(I eU.1),(I eU.2)]) H aQ rfl rfl) wn ?_;rintro _ uK ⟨b3,rfl,H, -⟩;refine aJ (I 0) (k3 ?_);have Nj:=H.cell (u:=(I eJ.2)) (o':=1) 1 1 rfl rfl rfl;have Y1:=H.cell (u:=(I eU.2)) (o':=1) 0 1 rfl rfl rfl;refine bA h λr7 zh h=> ?_;have zQ:=nF zh;have vi:=H.cell (u:=(I eJ.1)) (o':=0) 1 0 rfl rfl rfl;have nG:=H.cell (u:=(I eU.1)) (o':=0) 0 0 rfl rfl rfl;refine BH (σ:=uK) (Nm:=Unit) 9 [4] [[false],[true]] (rp 4 [(0,0)]++[[(0,1)]]++rp 4 [(0,0),(1,1)]) 1 (rp 2 (λ_ ck=>Hp S0 aq ck [Ch.bx n0 b3 0 [(I eU.1),(I eU.2)] [] [],Ch.bx n0 b1 0 [(I eJ.1),(I eJ.2)] [] []]/\Md (dx []) uK ck)) [λ_=>(pt b1 1),λ_=>(I eJ.2),λ_=>(pt b3 1),λ_=>(I eU.2),λ_=>(I r7),λ_=>(pt b1 0),λ_=>(I eJ.1),λ_=>(pt b3 0),λ_=>(I eU.1)] () (by kernel_rfl) (by kernel_rfl) (BK H) ?_ ?_
 ·refine fy (λ_ _ _ o d=>aj (off:=1) Lz.jU rfl gy rfl (lo o 2)) (all_cons ⟨?_,trivial⟩ ?_)
  ·intro _nm ρ ck hJ aY aH;have e5:=dq aH 0 5;obtain ⟨H,m⟩:=id hJ;have Nj:=H.cell (u:=(I eJ.2)) (o':=1) 1 1 rfl rfl rfl;exact qV (an Lz.U3 rfl e5 Nj) hJ
  refine fy (λ_ _ _ o d=>aj (off:=1) Lz.jU rfl gy rfl (lo o 3)) (all_cons ⟨?_,trivial⟩ ?_)
  ·intro _nm ρ ck hJ aY aH;have e7:=dq aH 2 7;obtain ⟨H,m⟩:=id hJ;have Y1:=H.cell (u:=(I eU.2)) (o':=1) 0 1 rfl rfl rfl;exact qV (an Lz.U3 rfl e7 Y1) hJ
  refine all_cons ⟨?_,trivial⟩ ?_
  ·intro _nm ρ ck hJ aY aH;have e6:look 17 ρ 6=(I eJ.2):=dq aH 1 6;have e8:look 17 ρ 8=(I eU.2):=dq aH 3 8;obtain ⟨H,m⟩:=id hJ;refine jL wn (bh zQ (cY zQ.fn (by show [look 17 ρ 6,look 17 ρ 8]=_;rw [e6,e8])) aQ (H.se [0,1]:Hp S0 aq _ ([]++_))) ?_;rintro _ vj ⟨_,⟨rfl,rfl⟩,H2,m2⟩;exact ⟨_,(),rfl,rfl,⟨H2.se [0,1],m.jk m2⟩,uJ [0,1,2,3,5,6,7,8]⟩
  refine fy (λ_ _ _ o d=>aj (off:=0) Lz.jU rfl gy rfl (lo o 2)) (all_cons ⟨?_, ?_,trivial⟩ ?_)
  ·intro _nm ρ ck hJ aY aH;have WY:=dq aH 5 10;obtain ⟨H,m⟩:=id hJ;have vi:=H.cell (u:=(I eJ.1)) (o':=0) 1 0 rfl rfl rfl;exact qV (an Lz.U3 rfl WY vi) hJ
  ·intro _nm ρ ck hJ aY aH;have WY:=dq aH 5 10;obtain ⟨H,m⟩:=id hJ;have vi:=H.cell (u:=(I eJ.1)) (o':=0) 1 0 rfl rfl rfl;exact qV (an Lz.U3 rfl WY vi) hJ
  refine fy (λ_ _ _ o d=>aj (off:=0) Lz.jU rfl gy rfl (lo o 3)) (all_cons ⟨?_, ?_,trivial⟩ ?_)
  ·intro _nm ρ ck hJ aY aH;have SN:=dq aH 7 12;obtain ⟨H,m⟩:=id hJ;have nG:=H.cell (u:=(I eU.1)) (o':=0) 0 0 rfl rfl rfl;exact qV (an Lz.U3 rfl SN nG) hJ
  ·intro _nm ρ ck hJ aY aH;have SN:=dq aH 7 12;obtain ⟨H,m⟩:=id hJ;have nG:=H.cell (u:=(I eU.1)) (o':=0) 0 0 rfl rfl rfl;exact qV (an Lz.U3 rfl SN nG) hJ
  exact all_nil
 ·intro _nm ρ vh hJ aY eN;obtain ⟨H, -⟩:=hJ;refine BM aY eN [(9,(I r7)),(11,(I eJ.1)),(13,(I eU.1))] [4,6,8] (bA h λP6 Bh h=> ?_);refine cl (nF Bh) aQ (H.se [0,1]:Hp S0 aq _ ([]++_)) ?_;rintro _ uA ⟨_,⟨rfl,rfl⟩,H⟩;replace H:Hp _ _ _ [_,_]:=H;refine bE (aN (el:=n0) (xs:=([r7,P6]:List Int)) (ps:=[(0,(I r7)),(1,(I P6))]) (cs:=[(I r7),(I P6)]) H aQ Lz.ov gy rfl rfl (by kernel_rfl) (.cons (c:=[(I r7)]) rfl (.cons (c:=[(I P6)]) rfl (.nil))) rfl) wn ?_;rintro _ qZ ⟨b17,rfl,H, -⟩;obtain ⟨zO,adT,H, -⟩:=H.kU 0;rw [←adT];clear adT;replace H:=H.iV 0 0 rfl (qa7 _);refine bA h λr21 GJ h=> ?_;refine cl (@GN _ (some ⟨b17,0,none⟩) 2 _ GJ) aQ (H.se [0,0,1,2,3]:Hp S0 aq _ ([_]++_)) ?_;rintro _ GA ⟨_,⟨rfl,rfl⟩,H⟩;replace H:Hp _ _ _ [_,_,_,_]:=H;refine aJ (I r21) (k7 ?_);obtain rfl:=sj h;exact en Tryz.results104 ⟨rfl,rfl⟩ (H.se [])
theorem lX{dT vW zd eo er r}(h:M.dV dT vW zd=some r):
  bL Lz.prog 183 [(Sl eo dT er),(I vW),(I zd)] [Ch.ro 0 (Sl eo dT er) dT] (λn0 v L=>v=(B r)/\L=[]):=by
 refine cI Lz.ahp ?_;intro S0 aq n0 aQ H;unfold M.dV at h;refine k1 (aJ (B false) (k3 (Lg (σ:=aq) 8 (by kernel_rfl) (by kernel_rfl) (by kernel_rfl) ?_)));refine eh (Sl eo dT er) (ai rfl) (eh (I vW) (ai rfl) (bA h λx1 oQ h=> ?_));obtain ⟨b4,o5,P4, -⟩:=(H.fl 0).ix oQ;refine eh (pt b4 o5) (bR Lz.mo bO rfl rfl P4) ?_;obtain ⟨_,⟨_,_,rfl,rfl,rfl⟩,AT,U8⟩:=((H.fl 0).at oQ P4).cells;refine eh (.agg #[(I x1.1),(I x1.2)]) (bq Lz.jU rfl bO rfl AT U8) (eh (Sl eo dT er) (ai rfl) (eh (I zd) (ai rfl) (bA h λx8 Ly h=> ?_)));obtain ⟨I7,o12,GL, -⟩:=(H.fl 0).ix Ly;refine eh (pt I7 o12) (bR Lz.mo bO rfl rfl GL) ?_;obtain ⟨_,⟨_,_,rfl,rfl,rfl⟩,O7,kj⟩:=((H.fl 0).at Ly GL).cells;refine eh (.agg #[(I x8.1),(I x8.2)]) (bq Lz.jU rfl bO rfl O7 kj) (kL ?_);intro mU adU;replace H:=H.grow (adU.mono λ_ h=>h);clear adU;refine bA h λkV oZ h=> ?_;refine cl (mJ oZ) aQ (H.se [0]:Hp S0 aq _ ([]++_)) ?_;rintro _ Ea ⟨_,⟨rfl,rfl⟩,H⟩;replace H:Hp _ _ _ [_]:=H;refine sv (B (decide (0<kV))) (iC rfl rfl) (aJ (B (decide (0<kV))) (k7 ?_));obtain rfl:=sj h;exact en Tryz.results183 ⟨rfl,rfl⟩ (H.se [])
theorem lY{dT vW zd eo er r}(h:M.fH dT vW zd=some r):
    bL Lz.prog 184 [(Sl eo dT er),(I vW),(I zd)] [Ch.own 0 0 (Sl eo dT er) dT] (λn0 v L=>v=(.tuple #[])/\L=[Ch.own 0 0 (Sl eo r er) r]/\r.length=dT.length):=by
 refine cI Lz.ahq ?_;intro S0 aq n0 aQ H;unfold M.fH at h;refine bA h λx1 oQ h=> ?_;obtain ⟨b4,o5,P4, -⟩:=(H.gN 0).ix oQ;obtain ⟨_,⟨_,_,rfl,rfl,rfl⟩,AT,U8⟩:=((H.gN 0).at oQ P4).cells;refine bA h λx8 Ly h=> ?_;obtain ⟨I7,o12,GL, -⟩:=(H.gN 0).ix Ly;obtain ⟨_,⟨_,_,rfl,rfl,rfl⟩,O7,kj⟩:=((H.gN 0).at Ly GL).cells;refine bA h λUZ Ee h=> ?_;obtain ⟨b18,Na,Pa, -⟩:=(H.gN 0).ix Ee;refine BH (σ:=aq) (Nm:=Unit) 14 [13] [[false],[true]] ([[(0,0)],[(0,0)]]++rp 2 [(0,0),(1,1)]++rp 9 [(0,0)]++[[(0,1)]]) 1 [λ_ ck=>Hp S0 aq ck [Ch.own 0 0 (Sl eo dT er) dT]/\Md (dx []) aq ck,λ_ ck=>Hp S0 aq ck [Ch.own 0 0 (Sl eo dT er) (dT.set vW.toNat (x1.1,x1.2))]/\Md (λi=>(dx []) i\/(λb=>blk (Sl eo dT er)=some b) i) aq ck] [λ_=>(Sl eo dT er),λ_=>(I vW),λ_=>(Sl eo dT er),λ_=>(I zd),λ_=>(Sl eo dT er),λ_=>(I zd),λ_=>(pt b4 o5),λ_=>(.agg #[(I x1.1),(I x1.2)]),λ_=>(Sl eo dT er),λ_=>(I vW),λ_=>(pt I7 o12),λ_=>(.agg #[(I x8.1),(I x8.2)]),λ_=>(pt b18 Na),λ_=>undef] () (by kernel_rfl) (by kernel_rfl) (BK H) ?_ ?_
 ·refine fy (λ_ _ _ o d=>ai (lo o 0)) (fy (λ_ _ _ o d=>ai (lo o 1)) (fy (λ_ _ _ o d=>ai (lo o 0)) (fy (λ_ _ _ o d=>ai (lo o 2)) (fy (λ_ _ _ o d=>ai (lo o 0)) (fy (λ_ _ _ o d=>ai (lo o 2)) (fy (λ_ _ _ o d=>bR Lz.mo bO (dq d 4 10) (dq d 5 11) P4) (all_cons ⟨?_,trivial⟩ ?_)))))))
  ·intro _nm ρ ck hJ aY aH;have SN:=dq aH 6 12;obtain ⟨H,m⟩:=id hJ;obtain ⟨_,⟨_,_,rfl,rfl,rfl⟩,AT,U8⟩:=((H.gN 0).at oQ P4).cells;exact qV (bq Lz.jU rfl bO SN AT U8) hJ
  refine fy (λ_ _ _ o d=>ai (lo o 0)) (fy (λ_ _ _ o d=>ai (lo o 1)) (fy (λ_ _ _ o d=>bR Lz.mo bO (dq d 8 14) (dq d 9 15) GL) (all_cons ⟨?_,trivial⟩ ?_)))
  ·intro _nm ρ ck hJ aY aH;have e16:=dq aH 10 16;obtain ⟨H,m⟩:=id hJ;obtain ⟨_,⟨_,_,rfl,rfl,rfl⟩,O7,kj⟩:=((H.gN 0).at Ly GL).cells;exact qV (bq Lz.jU rfl bO e16 O7 kj) hJ
  refine fy (λ_ _ _ o d=>bR Lz.mo bO (dq d 0 6) (dq d 1 7) Pa) (all_cons ⟨?_,trivial⟩ ?_)
  ·intro _nm ρ ck hJ aY aH;have GM:=dq aH 12 18;have OW:=dq aH 7 13;obtain ⟨H,m⟩:=id hJ;refine aal wn rfl (jR (e':=(x1.1,x1.2)) (vs:=[(I x1.1),(I x1.2)]) (k:=0) H (i:=0) rfl bO Ee Pa GM rfl OW rfl rfl (qa5 rfl) (by simp [plain]) (by rintro _ ⟨_,_,rfl,rfl,rfl⟩;exact ⟨[(I x1.1)],[(I x1.2)],rfl,rfl,rfl⟩)) ?_;rintro vj ⟨H2,m2⟩;exact ⟨_,(),rfl,⟨H2.se [0],m.comp m2⟩,uJ [0,1,2,3,4,5,6,7,8,9,10,11,12]⟩
  exact all_nil
 ·intro _nm ρ Ea hJ aY eN;obtain ⟨H, -⟩:=hJ;refine BM aY eN [(0,(Sl eo dT er)),(8,(Sl eo dT er)),(9,(I zd)),(17,(.agg #[(I x8.1),(I x8.2)]))] [2,3,11] ?_;have oS:(Sl eo dT er)=(Sl eo (dT.set vW.toNat (x1.1,x1.2)) er):=oW (by simp);rw [oS];rw [oS] at H;clear oS;refine bA h λM8 GJ h=> ?_;obtain ⟨b24,o25,Tl, -⟩:=(H.gN 0).ix GJ;refine sv (pt b24 o25) (bR Lz.mo bO rfl rfl Tl) (gk (jR (e':=(x8.1,x8.2)) (vs:=[(I x8.1),(I x8.2)]) (k:=0) H (i:=0) rfl bO GJ Tl rfl rfl rfl rfl rfl (qa5 rfl) (by simp [plain]) (by rintro _ ⟨_,_,rfl,rfl,rfl⟩;exact ⟨[(I x8.1)],[(I x8.2)],rfl,rfl,rfl⟩)) wn ?_);rintro adI ⟨H, -⟩;have oS:(Sl eo (dT.set vW.toNat (x1.1,x1.2)) er)=(Sl eo ((dT.set vW.toNat (x1.1,x1.2)).set zd.toNat (x8.1,x8.2)) er):=oW qb3.symm;rw [oS];rw [oS] at H;clear oS;refine bp ?_;obtain rfl:=sj h;exact vT (v:=(.tuple #[])) (cv Tryz.results184 eW rfl) ⟨rfl,rfl,(qb3.trans qb3)⟩ (H.se [0])
theorem mV{dT j_1 eo er gz dP da dQ dR r}(h:M.bz dT j_1=some r):
    bL Lz.prog 155 [(.iface 152 (pt dP da)),(I j_1)] [Ch.bx gz dP da [(Sl eo dT er)] dQ dR,Ch.own 0 0 (Sl eo dT er) dT] (λn0 v L=> ∃dv dc,v=(.tuple #[])/\L=[Ch.bx gz dP da [(Sl dv r dc)] dQ dR,Ch.own 0 0 (Sl dv r dc) r]):=by
 refine cI Lz.ahf ?_;intro S0 aq n0 aQ H;unfold M.bz at h;obtain ⟨o1,h,h'⟩:=bind_some h;refine cj (λe a w=>e= .normal/\ ∃ρ σ et ew,a=fr 23 (cz ρ [(0,(.iface 152 (pt dP da)))])/\w=σ.w/\Hp S0 aq σ [Ch.bx gz dP da [(Sl et o1 ew)] dQ dR,Ch.own 0 0 (Sl et o1 ew) o1]) ?_ ?_
 ·clear h';refine bV (bZ _ h (λs2 a w=> ∃ρ σ et ew,a=fr 23 (cz ρ [(0,(.iface 152 (pt dP da))),(1,(I s2.2))])/\w=σ.w/\Hp S0 aq σ [Ch.bx gz dP da [(Sl et s2.1 ew)] dQ dR,Ch.own 0 0 (Sl et s2.1 ew) s2.1]) ⟨_,aq,eo,er,cC rfl,rfl,H.se [0,1]⟩ ?_);clear h H;rintro s2 a w o ⟨ρ,ji,a4,c5,rfl,rfl,H⟩ h cE;refine bV (k1 (av (I s2.2) (sv (I (ao (s2.2 - 1))) (ik rfl rfl) (sv (I (ao ((ao (s2.2 - 1)).tdiv 2))) (Cn rfl rfl (by decide)) (aJ (I (ao ((ao (s2.2 - 1)).tdiv 2))) (k3 (dz ?_)))))));obtain ⟨o6,h,h'⟩:=bind_some h;refine cj (Jn S0 aq 23 [(0,(.iface 152 (pt dP da))),(1,(I s2.2)),(4,(I (ao ((ao (s2.2 - 1)).tdiv 2)))),(17,(B o6))] [Ch.own 0 0 (Sl a4 s2.1 c5) s2.1,Ch.bx gz dP da [(Sl a4 s2.1 c5)] dQ dR]) ?_ ?_
  ·clear h';refine rg (av (I (ao ((ao (s2.2 - 1)).tdiv 2))) (av (I s2.2) (sv (B ((ao ((ao (s2.2 - 1)).tdiv 2))==s2.2)) (fA rfl rfl) (av (B ((ao ((ao (s2.2 - 1)).tdiv 2))==s2.2)) ?_))));rcases oI h with ⟨qv,h⟩ | ⟨qv,h⟩
   ·refine ak (congrArg some qv) (ak (congrArg some qv) (ak (congrArg some qv) (ak (congrArg some qv) (ak (congrArg some qv) (sv (B true) (aK (congrArg B qv) rfl) (bp ?_))))));obtain rfl:=sj h;exact ⟨rfl,_,ji,cC rfl,rfl,H.se [1,0]⟩
   ·refine bW (v:=(.iface 152 (pt dP da))) (congrArg some qv) (ai rfl) (bW (v:=(I s2.2)) (congrArg some qv) (ai rfl) (bW (v:=(I (ao ((ao (s2.2 - 1)).tdiv 2)))) (congrArg some qv) (ai rfl) (bA h λr8 Ly h=> ?_)));have vi:= @lX _ _ _ a4 c5 _ Ly;have hle:=qaa aQ H.size;refine bY (rm (gW.tz gW.nil) vi (vd vi.fn (by kernel_rfl) Lz.A6 Lz.mo rfl rfl (H.cell (u:=(Sl a4 s2.1 c5)) (o':=da) 0 0 rfl rfl rfl) rfl) (show Hp S0 aq _ ([Ch.own 0 0 (Sl a4 s2.1 c5) s2.1]++([]++[Ch.bx gz dP da [(Sl a4 s2.1 c5)] dQ dR])) from (H.se [1,0])) (by rintro _ _ _ ⟨rfl,rfl⟩;exact trivial)) (aA rfl (by exact (congrArg some qv))) ?_;rintro _ wz ⟨_,⟨rfl,rfl⟩,H, -, -⟩;replace H:Hp _ _ _ [_,_]:=H;clear hle;replace H:Hp _ _ _ [_,_]:=H;refine bW (v:=(B (!r8))) (congrArg some qv) (cO rfl) (sv (B (!r8)) (ax (congrArg B qv) rfl) (bp ?_));obtain rfl:=sj h;exact ⟨rfl,_,wz,cC rfl,rfl,H.se [0,1]⟩
  ·replace h:=h';clear h' H;rintro e a w ⟨rfl,ρ,vh,rfl,rfl,H⟩;refine az (gC h (λoh h=> ?_) (λoh h=> ?_))
   ·refine dH (aC (Ge (by decide) ?_));refine aC (bD ?_);obtain rfl:=sj h;obtain rfl:=cE _ rfl;exact ⟨rfl,_,vh,a4,c5,cC rfl,rfl,H.se [1,0]⟩
   ·refine k6 (rg (av (.iface 152 (pt dP da)) (av (I (ao ((ao (s2.2 - 1)).tdiv 2))) (av (I s2.2) (bA h λwL zS h=> ?_)))));have Bc:= @lY _ _ _ a4 c5 _ zS;refine bY (bh Bc (vd Bc.fn (by kernel_rfl) Lz.A6 Lz.mo rfl rfl (H.cell (u:=(Sl a4 s2.1 c5)) (o':=da) 1 0 rfl rfl rfl) rfl) aQ (H.se [0,1]:Hp S0 aq _ ([_]++_))) wn ?_;rintro _ qZ ⟨_,⟨rfl,rfl,aiy⟩,H, -⟩;replace H:Hp _ _ _ [_,_]:=H;have oS:(Sl a4 s2.1 c5)=(Sl a4 wL c5):=oW aiy.symm
    try rw [oS]
    try rw [oS] at H
    clear oS;refine k2 (rg (av (I (ao ((ao (s2.2 - 1)).tdiv 2))) (aJ (I (ao ((ao (s2.2 - 1)).tdiv 2))) (bp (bX (az ?_))))));obtain rfl:=sj h;exact ⟨_,rfl,_,qZ,a4,c5,cC rfl,rfl,H.se [1,0]⟩
 ·replace h:=h';clear h' H;rintro e a w ⟨rfl,ρ,zO,a20,nQ,rfl,rfl,H⟩;obtain rfl:=sj h;exact vT (v:=(.tuple #[])) (cv Tryz.results155 eW rfl) ⟨a20,nQ,rfl,rfl⟩ (H.se [0,1])
theorem jl{dT ff eo er gz dP da dQ dR r}(h:M.bP dT ff=some r):
  bL Lz.prog 138 [(.iface 152 (pt dP da)),(.iface 35 (.agg #[(I ff.1),(I ff.2)]))] [Ch.bx gz dP da [(Sl eo dT er)] dQ dR,Ch.own 0 0 (Sl eo dT er) dT] (λn0 v L=> ∃dv dc,v=(.tuple #[])/\L=[Ch.bx gz dP da [(Sl dv r dc)] dQ dR,Ch.own 0 0 (Sl dv r dc) r]):=by
 refine cI Lz.ag1 ?_;intro S0 aq n0 aQ H;unfold M.bP at h;refine k1 (av (.iface 152 (pt dP da)) (av (.iface 35 (.agg #[(I ff.1),(I ff.2)])) (bA h λr1 oQ h=> ?_)));have Qc:= @oL _ _ eo er gz dP da dQ dR _ oQ;refine bY (bh Qc (RY Qc.fn (by kernel_rfl) Lz.A6 rfl rfl) aQ (H.se [0,1]:Hp S0 aq _ ([_,_]++_))) wn ?_;rintro _ CK ⟨_,⟨a4,c5,rfl,rfl⟩,H, -⟩;replace H:Hp _ _ _ [_,_]:=H;refine k2 (rg (av (.iface 152 (pt dP da)) (av (.iface 152 (pt dP da)) (bA h λr7 zh h=> ?_))));have zQ:= @qC _ a4 c5 _ zh;have hle:=qaa aQ H.size;refine bY (rm (gW.tz gW.nil) zQ (vd zQ.fn (by kernel_rfl) Lz.A6 Lz.mo rfl rfl (H.cell (u:=(Sl a4 r1 c5)) (o':=da) 0 0 rfl rfl rfl) rfl) (show Hp S0 aq _ ([Ch.own 0 0 (Sl a4 r1 c5) r1]++([]++[Ch.bx gz dP da [(Sl a4 r1 c5)] dQ dR])) from (H.se [1,0])) (by rintro _ _ _ ⟨rfl,rfl⟩;exact trivial)) wn ?_;rintro _ xn ⟨_,⟨rfl,rfl⟩,H, -, -⟩;replace H:Hp _ _ _ [_,_]:=H;clear hle;replace H:Hp _ _ _ [_,_]:=H;refine sv (I (ao (r7 - 1))) (ik rfl rfl) (bA h λrv xk h=> ?_);refine cl (@mV _ _ a4 c5 gz dP da dQ dR _ xk) aQ (H.se [1,0]:Hp S0 aq _ ([_,_]++_)) ?_;rintro _ uA ⟨_,⟨WK,c15,rfl,rfl⟩,H⟩;replace H:Hp _ _ _ [_,_]:=H;refine bp ?_;obtain rfl:=sj h;exact vT (v:=(.tuple #[])) (cv Tryz.results138 eW rfl) ⟨WK,c15,rfl,rfl⟩ (H.se [0,1])
theorem mv{dT xi qn eo er gz dP da dQ dR r}(h:M.cR dT xi qn=some r):
    bL Lz.prog 156 [(.iface 152 (pt dP da)),(I xi),(I qn)] [Ch.bx gz dP da [(Sl eo dT er)] dQ dR,Ch.own 0 0 (Sl eo dT er) dT] (λn0 v L=> ∃dv dc,v=(B r.1)/\L=[Ch.bx gz dP da [(Sl dv r.2 dc)] dQ dR,Ch.own 0 0 (Sl dv r.2 dc) r.2]):=by
 refine cI Lz.ahg ?_;intro S0 aq n0 aQ H;unfold M.cR at h;refine k1 (aJ (B false) (k4 (av (I xi) (aJ (I xi) (k3 ?_)))));obtain ⟨o1,h,h'⟩:=bind_some h;refine cj (λe a w=>e= .normal/\ ∃ρ σ et ew,a=fr 48 (cz ρ [(0,(.iface 152 (pt dP da))),(1,(I xi)),(7,(I o1.2))])/\w=σ.w/\Hp S0 aq σ [Ch.bx gz dP da [(Sl et o1.1 ew)] dQ dR,Ch.own 0 0 (Sl et o1.1 ew) o1.1]) ?_ ?_
 ·clear h';refine bV (bZ _ h (λs2 a w=> ∃ρ σ et ew,a=fr 48 (cz ρ [(0,(.iface 152 (pt dP da))),(1,(I xi)),(2,(I qn)),(7,(I s2.2))])/\w=σ.w/\Hp S0 aq σ [Ch.bx gz dP da [(Sl et s2.1 ew)] dQ dR,Ch.own 0 0 (Sl et s2.1 ew) s2.1]) ⟨_,aq,eo,er,cC rfl,rfl,H.se [0,1]⟩ ?_);clear h H;rintro s2 a w o ⟨ρ,ji,a4,c5,rfl,rfl,H⟩ h cE;refine bV (k1 (av (I s2.2) (sv (I (ao (2*s2.2))) (oV rfl rfl) (sv (I (ao ((ao (2*s2.2))+1))) (cF rfl rfl) (aJ (I (ao ((ao (2*s2.2))+1))) (k3 (dz ?_)))))));obtain ⟨o6,h,h'⟩:=bind_some h;refine cj (Jn S0 aq 48 [(0,(.iface 152 (pt dP da))),(1,(I xi)),(2,(I qn)),(7,(I s2.2)),(8,(I (ao ((ao (2*s2.2))+1)))),(21,(B o6))] [Ch.own 0 0 (Sl a4 s2.1 c5) s2.1,Ch.bx gz dP da [(Sl a4 s2.1 c5)] dQ dR]) ?_ ?_
  ·clear h';refine rg (av (I (ao ((ao (2*s2.2))+1))) (av (I qn) (sv (B (decide (qn<=(ao ((ao (2*s2.2))+1))))) (qi rfl rfl) (av (B (decide (qn<=(ao ((ao (2*s2.2))+1))))) ?_))));rcases oI h with ⟨qv,h⟩ | ⟨qv,h⟩
   ·refine ak (congrArg some qv) (ak (congrArg some qv) (sv (B true) (aK (congrArg B qv) rfl) (bp ?_)));obtain rfl:=sj h;exact ⟨rfl,_,ji,cC rfl,rfl,H.se [1,0]⟩
   ·refine bW (v:=(I (ao ((ao (2*s2.2))+1)))) (congrArg some qv) (ai rfl) (bW (v:=(B (decide ((ao ((ao (2*s2.2))+1))<0)))) (congrArg some qv) (cD rfl rfl) (sv (B (decide ((ao ((ao (2*s2.2))+1))<0))) (ax (congrArg B qv) rfl) (bp ?_)));obtain rfl:=sj h;exact ⟨rfl,_,ji,cC rfl,rfl,H.se [1,0]⟩
  ·replace h:=h';clear h' H;rintro e a w ⟨rfl,ρ,WN,rfl,rfl,H⟩;refine az (gC h (λhb9 h=> ?_) (λhb9 h=> ?_))
   ·refine dH (aC (Ge (by decide) ?_));refine aC (bD ?_);obtain rfl:=sj h;obtain rfl:=cE _ rfl;exact ⟨rfl,_,WN,a4,c5,cC rfl,rfl,H.se [1,0]⟩
   ·refine k6 (rg (av (I (ao ((ao (2*s2.2))+1))) (aJ (I (ao ((ao (2*s2.2))+1))) (k5 (av (I (ao ((ao (2*s2.2))+1))) (sv (I (ao ((ao ((ao (2*s2.2))+1))+1))) (cF rfl rfl) (aJ (I (ao ((ao ((ao (2*s2.2))+1))+1))) (k3 ?_))))))));obtain ⟨wM,h,h'⟩:=bind_some h;refine cj (Jn S0 aq 48 [(0,(.iface 152 (pt dP da))),(1,(I xi)),(2,(I qn)),(7,(I s2.2)),(9,(I (ao ((ao (2*s2.2))+1)))),(10,(I (ao ((ao ((ao (2*s2.2))+1))+1)))),(33,(B wM))] [Ch.own 0 0 (Sl a4 s2.1 c5) s2.1,Ch.bx gz dP da [(Sl a4 s2.1 c5)] dQ dR]) ?_ ?_
    ·clear h';refine rg (av (I (ao ((ao ((ao (2*s2.2))+1))+1))) (av (I qn) (sv (B (decide ((ao ((ao ((ao (2*s2.2))+1))+1))<qn))) (cD rfl rfl) (av (B (decide ((ao ((ao ((ao (2*s2.2))+1))+1))<qn))) ?_))));rcases oI h with ⟨mI,h⟩ | ⟨mI,h⟩
     ·refine bW (v:=(.iface 152 (pt dP da))) (congrArg some mI) (ai rfl) (bW (v:=(I (ao ((ao ((ao (2*s2.2))+1))+1)))) (congrArg some mI) (ai rfl) (bW (v:=(I (ao ((ao (2*s2.2))+1)))) (congrArg some mI) (ai rfl) (bA h λru uz h=> ?_)));have kj:= @lX _ _ _ a4 c5 _ uz;have hle:=qaa aQ H.size;refine bY (rm (gW.tz gW.nil) kj (vd kj.fn (by kernel_rfl) Lz.A6 Lz.mo rfl rfl (H.cell (u:=(Sl a4 s2.1 c5)) (o':=da) 1 0 rfl rfl rfl) rfl) (show Hp S0 aq _ ([Ch.own 0 0 (Sl a4 s2.1 c5) s2.1]++([]++[Ch.bx gz dP da [(Sl a4 s2.1 c5)] dQ dR])) from (H.se [0,1])) (by rintro _ _ _ ⟨rfl,rfl⟩;exact trivial)) (aA rfl (by exact (congrArg some mI))) ?_;rintro _ mU ⟨_,⟨rfl,rfl⟩,H, -, -⟩;replace H:Hp _ _ _ [_,_]:=H;clear hle;replace H:Hp _ _ _ [_,_]:=H;refine sv (B ru) (aK (congrArg B mI) rfl) (bp ?_);obtain rfl:=sj h;exact ⟨rfl,_,mU,cC rfl,rfl,H.se [0,1]⟩
     ·refine ak (congrArg some mI) (ak (congrArg some mI) (ak (congrArg some mI) (ak (congrArg some mI) (sv (B false) (ax (congrArg B mI) rfl) (bp ?_)))));obtain rfl:=sj h;exact ⟨rfl,_,WN,cC rfl,rfl,H.se [0,1]⟩
    ·replace h:=h';clear h' H;rintro e a w ⟨rfl,ρ,uA,rfl,rfl,H⟩;refine az ?_;obtain ⟨IN,h,h'⟩:=bind_some h;refine cj (Jn S0 aq 48 [(0,(.iface 152 (pt dP da))),(1,(I xi)),(2,(I qn)),(7,(I s2.2)),(9,(I IN))] [Ch.own 0 0 (Sl a4 s2.1 c5) s2.1,Ch.bx gz dP da [(Sl a4 s2.1 c5)] dQ dR]) ?_ ?_
     ·clear h';refine gC h (λaiz h=> ?_) (λaiz h=> ?_)
      ·refine rg (av (I (ao ((ao ((ao (2*s2.2))+1))+1))) (aJ (I (ao ((ao ((ao (2*s2.2))+1))+1))) (bp ?_)));obtain rfl:=sj h;exact ⟨rfl,_,uA,cC rfl,rfl,H.se [0,1]⟩
      ·refine eF ?_;obtain rfl:=sj h;exact ⟨rfl,_,uA,cC rfl,rfl,H.se [0,1]⟩
     ·replace h:=h';clear h' H;rintro e a w ⟨rfl,ρ,zO,rfl,rfl,H⟩;refine az (dz (k1 (av (.iface 152 (pt dP da)) (av (I IN) (av (I s2.2) (bA h λyo O9 h=> ?_))))));have yy:= @lX _ _ _ a4 c5 _ O9;have hle:=qaa aQ H.size;refine bY (rm (gW.tz gW.nil) yy (vd yy.fn (by kernel_rfl) Lz.A6 Lz.mo rfl rfl (H.cell (u:=(Sl a4 s2.1 c5)) (o':=da) 1 0 rfl rfl rfl) rfl) (show Hp S0 aq _ ([Ch.own 0 0 (Sl a4 s2.1 c5) s2.1]++([]++[Ch.bx gz dP da [(Sl a4 s2.1 c5)] dQ dR])) from (H.se [0,1])) (by rintro _ _ _ ⟨rfl,rfl⟩;exact trivial)) wn ?_;rintro _ xl ⟨_,⟨rfl,rfl⟩,H, -, -⟩;replace H:Hp _ _ _ [_,_]:=H;clear hle;replace H:Hp _ _ _ [_,_]:=H;refine sv (B (!yo)) (cO rfl) (k2 (gC h (λTm h=> ?_) (λTm h=> ?_)))
      ·refine dH (aC (Ge (by decide) ?_));refine aC (bD ?_);obtain rfl:=sj h;obtain rfl:=cE _ rfl;exact ⟨rfl,_,xl,a4,c5,cC rfl,rfl,H.se [1,0]⟩
      ·refine k6 (rg (av (.iface 152 (pt dP da)) (av (I s2.2) (av (I IN) (bA h λze GO h=> ?_)))));have wy:= @lY _ _ _ a4 c5 _ GO;refine bY (bh wy (vd wy.fn (by kernel_rfl) Lz.A6 Lz.mo rfl rfl (H.cell (u:=(Sl a4 s2.1 c5)) (o':=da) 1 0 rfl rfl rfl) rfl) aQ (H.se [0,1]:Hp S0 aq _ ([_]++_))) wn ?_;rintro _ WR ⟨_,⟨rfl,rfl,aiA⟩,H, -⟩;replace H:Hp _ _ _ [_,_]:=H;have oS:(Sl a4 s2.1 c5)=(Sl a4 ze c5):=oW aiA.symm
       try rw [oS]
       try rw [oS] at H
       clear oS;refine k2 (rg (av (I IN) (aJ (I IN) (bp (bX (az ?_))))));obtain rfl:=sj h;exact ⟨_,rfl,_,WR,a4,c5,cC rfl,rfl,H.se [1,0]⟩
 ·replace h:=h';clear h' H;rintro e a w ⟨rfl,ρ,SV,a31,Ni,rfl,rfl,H⟩;refine az (k1 (av (I o1.2) (av (I xi) (sv (B (decide (xi<o1.2))) (iC rfl rfl) (aJ (B (decide (xi<o1.2))) (k7 ?_))))));obtain rfl:=sj h;exact en Tryz.results156 ⟨a31,Ni,rfl,rfl⟩ (H.se [0,1])
theorem xr{dT eo er gz dP da dQ dR r}(h:M.lJ dT=some r):
  bL Lz.prog 188 [(pt dP da)] [Ch.bx gz dP da [(Sl eo dT er)] dQ dR,Ch.own 0 0 (Sl eo dT er) dT] (λn0 v L=> ∃dv dc,v=(.iface 35 (.agg #[(I r.1.1),(I r.1.2)]))/\L=[Ch.bx gz dP da [(Sl dv r.2 dc)] dQ dR,Ch.own 0 0 (Sl dv r.2 dc) r.2]):=by
 refine cI Lz.ahr ?_;intro S0 aq n0 aQ H;unfold M.lJ at h;refine k1 (aJ (.nilIface) (k4 (av (pt dP da) (sv (pt dP da) (cG rfl) (sv (Sl eo dT er) (an Lz.mo rfl rfl (H.eZ 0 0)) (sv (I (dT.length:Int)) (bF Lz.mo rfl) (sv (I (ao ((dT.length:Int) - 1))) (ik rfl rfl) (aJ (I (ao ((dT.length:Int) - 1))) (k4 (av (pt dP da) (sv (pt dP da) (cG rfl) (sv (Sl eo dT er) (an Lz.mo rfl rfl (H.eZ 0 0)) (av (I (ao ((dT.length:Int) - 1))) (bA h λx3 Nd h=> ?_))))))))))))));obtain ⟨b6,o7,hi5, -⟩:=(H.gN 1).ix Nd;refine sv (pt b6 o7) (bR Lz.mo bO rfl rfl hi5) ?_;obtain ⟨_,⟨_,_,rfl,rfl,rfl⟩,hl8,zQ⟩:=((H.gN 1).at Nd hi5).cells;refine sv (.agg #[(I x3.1),(I x3.2)]) (bq Lz.jU rfl bO rfl hl8 zQ) (bE (gu (cs:=[(I 0),(I 0)]) H aQ bO rfl) wn ?_);rintro _ wz ⟨b10,rfl,H, -⟩;refine gk (bK (k:=0) (cs:=[(I 0),(I 0)]) (vs:=[(I x3.1),(I x3.2)]) (cs':=[(I x3.1),(I x3.2)]) H (i:=0) rfl bO rfl rfl rfl rfl rfl (qa5 rfl) (by simp [plain]) rfl) wn ?_;rintro vh ⟨H, -⟩;refine k4 (av (pt dP da) (av (pt dP da) (sv (pt dP da) (cG rfl) (sv (Sl eo dT er) (an Lz.mo rfl rfl (H.eZ 1 0)) (av (I (ao ((dT.length:Int) - 1))) (bA h λLs zS h=> ?_))))));obtain ⟨WO,WQ,adV, -⟩:=(H.gN 2).slice zS;refine sv (Sl WO Ls WQ) (jQ Lz.mo bO adV rfl rfl) (sv (pt dP da) (cG rfl) ?_);have aaV:=(H.gN 2).view zS adV;replace H:=(H.front (i:=2) rfl).nN (d:=Ch.own 0 0 (Sl WO Ls WQ) Ls) (λ_=>aaV.1) aaV.2;clear aaV;refine gk (bK (k:=0) (cs:=[(Sl eo dT er)]) (vs:=[(Sl WO Ls WQ)]) (cs':=[(Sl WO Ls WQ)]) H (i:=2) rfl CJ rfl rfl rfl rfl rfl (qa5 rfl) (by simp [plain]) rfl) wn ?_;rintro Gy ⟨H, -⟩;refine k4 ?_;have yy:=H.ei 2
 refine sv (.agg #[(I x3.1),(I x3.2)]) (bq (cs:=[(I x3.1),(I x3.2)]) Lz.jU rfl bO rfl rfl yy) (sv (.iface 35 (.agg #[(I x3.1),(I x3.2)])) (iy Lz.jU rfl rfl) (aJ (.iface 35 (.agg #[(I x3.1),(I x3.2)])) (k7 ?_)));obtain rfl:=sj h;exact en Tryz.results188 ⟨WO,WQ,rfl,rfl⟩ (H.se [0,1])
theorem mK{dT eo er gz dP da dQ dR r}(h:M.cX dT=some r):
  bL Lz.prog 139 [(.iface 152 (pt dP da))] [Ch.bx gz dP da [(Sl eo dT er)] dQ dR,Ch.own 0 0 (Sl eo dT er) dT] (λn0 v L=> ∃dv dc,v=(.iface 35 (.agg #[(I r.1.1),(I r.1.2)]))/\L=[Ch.bx gz dP da [(Sl dv r.2 dc)] dQ dR,Ch.own 0 0 (Sl dv r.2 dc) r.2]):=by
 refine cI Lz.ag2 ?_;intro S0 aq n0 aQ H;unfold M.cX at h;refine k1 (aJ (.nilIface) (k4 (av (.iface 152 (pt dP da)) (bA h λr1 oQ h=> ?_))));have Qc:= @qC _ eo er _ oQ;have hle:=qaa aQ H.size;refine bY (rm (gW.tz gW.nil) Qc (vd Qc.fn (by kernel_rfl) Lz.A6 Lz.mo rfl rfl (H.cell (u:=(Sl eo dT er)) (o':=da) 0 0 rfl rfl rfl) rfl) (show Hp S0 aq _ ([Ch.own 0 0 (Sl eo dT er) dT]++([]++[Ch.bx gz dP da [(Sl eo dT er)] dQ dR])) from (H.se [1,0])) (by rintro _ _ _ ⟨rfl,rfl⟩;exact trivial)) wn ?_;rintro _ uK ⟨_,⟨rfl,rfl⟩,H, -, -⟩;replace H:Hp _ _ _ [_,_]:=H;clear hle;replace H:Hp _ _ _ [_,_]:=H;refine sv (I (ao (r1 - 1))) (ik rfl rfl) (aJ (I (ao (r1 - 1))) (k4 (av (.iface 152 (pt dP da)) (av (I (ao (r1 - 1))) (bA h λr5 rV h=> ?_)))));have U8:= @lY _ _ _ eo er _ rV;refine bY (bh U8 (vd U8.fn (by kernel_rfl) Lz.A6 Lz.mo rfl rfl (H.cell (u:=(Sl eo dT er)) (o':=da) 1 0 rfl rfl rfl) rfl) aQ (H.se [0,1]:Hp S0 aq _ ([_]++_))) wn ?_;rintro _ SG ⟨_,⟨rfl,rfl,hn8⟩,H, -⟩;replace H:Hp _ _ _ [_,_]:=H;have oS:(Sl eo dT er)=(Sl eo r5 er):=oW hn8.symm
 try rw [oS]
 try rw [oS] at H
 clear oS;refine k4 (av (.iface 152 (pt dP da)) (av (I (ao (r1 - 1))) (bA h λj4 qy h=> ?_)));refine cl (@mv _ _ _ eo er gz dP da dQ dR _ qy) aQ (H.se [1,0]:Hp S0 aq _ ([_,_]++_)) ?_;rintro _ mU ⟨_,⟨kv,kR,rfl,rfl⟩,H⟩;replace H:Hp _ _ _ [_,_]:=H;refine k4 (av (.iface 152 (pt dP da)) (bA h λqY zP h=> ?_));have uB:= @xr _ kv kR gz dP da dQ dR _ zP;refine bY (bh uB (RY uB.fn (by kernel_rfl) Lz.A6 rfl rfl) aQ (H.se [0,1]:Hp S0 aq _ ([_,_]++_))) wn ?_;rintro _ Gy ⟨_,⟨Ki,Kj,rfl,rfl⟩,H, -⟩;replace H:Hp _ _ _ [_,_]:=H;refine aJ (.iface 35 (.agg #[(I qY.1.1),(I qY.1.2)])) (k7 ?_);obtain rfl:=sj h;exact en Tryz.results139 ⟨Ki,Kj,rfl,rfl⟩ (H.se [0,1])
theorem rO{mX il qD qE yz nS mw qF qG r}(h:M.dF mX il=some r):
   bL Lz.prog 113 [(pt nS mw),(.agg #[(I il.1),(I il.2)])] [Ch.bx yz nS mw [(I mX.1),(Sl qD mX.2 qE)] qF qG,Ch.own 0 0 (Sl qD mX.2 qE) mX.2] (λn0 v L=> ∃dv dc,v=(.tuple #[])/\L=[Ch.bx yz nS mw [(I r.1),(Sl dv r.2 dc)] qF qG,Ch.own 0 0 (Sl dv r.2 dc) r.2]):=by
 refine cI Lz.agM ?_;intro S0 aq n0 aQ H;unfold M.dF at h;refine k1 (bE (gm (cs:=[(I il.1),(I il.2)]) H aQ rfl rfl) wn ?_);rintro _ iL ⟨b1,rfl,H, -⟩;refine k3 (Lg (σ:=iL) 6 (by kernel_rfl) (by kernel_rfl) (by kernel_rfl) ?_);refine eh (pt nS mw) (ai rfl) (eh (pt nS mw) (cG rfl) (eh (pt nS (mw+1)) (aj (off:=1) Lz.IU rfl CJ rfl rfl) (eh (.iface 152 (pt nS (mw+1))) (iy Lz.A6 rfl rfl) ?_)));have Qc:=H.ei 0;refine eh (.agg #[(I il.1),(I il.2)]) (bq (cs:=[(I il.1),(I il.2)]) Lz.jU rfl bO rfl rfl Qc) (eh (.iface 35 (.agg #[(I il.1),(I il.2)])) (iy Lz.jU rfl rfl) (kL ?_));intro uK hm5;replace H:=H.grow (hm5.mono λ_ h=>h);clear hm5;replace H:=Hp.focus (c1:=[(I mX.1)]) (c2:=[(Sl qD mX.2 qE)]) (c3:=[]) (o':=(mw+1)) H 1 rfl rfl;refine bA h λr6 uh h=> ?_;refine cl (@jl _ _ qD qE yz nS (mw+1) (qF++[(I mX.1)]) ([]++qG) _ uh) aQ (H.se [0,2,1]:Hp S0 aq _ ([_,_]++_)) ?_;rintro _ wz ⟨_,⟨a9,Va,rfl,rfl⟩,H⟩;replace H:Hp _ _ _ [_,_,_]:=H;replace H:Hp S0 aq wz [Ch.bx yz nS mw [(I mX.1),(Sl a9 r6 Va)] qF qG,Ch.own 0 0 (Sl a9 r6 Va) r6,Ch.bx n0 b1 0 [(I il.1),(I il.2)] [] []]:=Hp.MU (o:=mw) (c1:=[(I mX.1)]) (c2:=[(Sl a9 r6 Va)]) (c3:=[]) (pre:=qF) (u7:=qG) H 0 rfl rfl;refine k3 (Lg (σ:=wz) 9 (by kernel_rfl) (by kernel_rfl) (by kernel_rfl) ?_);refine eh (pt nS mw) (ai rfl) (eh (pt nS mw) (cG rfl) (eh (pt nS (mw+1)) (aj (off:=1) Lz.IU rfl CJ rfl rfl) (eh (Sl a9 r6 Va) (an Lz.mo rfl rfl (H.eZ 0 1)) (eh (I (r6.length:Int)) (bF Lz.mo rfl) (eh (pt nS mw) (ai rfl) (eh (pt nS mw) (cG rfl) (eh (pt nS mw) (aj (off:=0) Lz.IU rfl gy rfl rfl) (eh (I mX.1) (an Lz.U3 rfl rfl (H.eZ 0 0)) (kL ?_)))))))));intro xj adW
 replace H:=H.grow (adW.mono λ_ h=>h);clear adW;refine sv (B (decide (mX.1<(r6.length:Int)))) (iC rfl rfl) (k2 (gC h (λS2 h=> ?_) (λS2 h=> ?_)))
 ·refine rg (av (pt nS mw) (sv (pt nS mw) (cG rfl) (sv (pt nS (mw+1)) (aj (off:=1) Lz.IU rfl CJ rfl rfl) (sv (.iface 152 (pt nS (mw+1))) (iy Lz.A6 rfl rfl) ?_))));replace H:=Hp.focus (c1:=[(I mX.1)]) (c2:=[(Sl a9 r6 Va)]) (c3:=[]) (o':=(mw+1)) H 0 rfl rfl;refine bA h λkV oZ h=> ?_;refine cl (@mK _ a9 Va yz nS (mw+1) (qF++[(I mX.1)]) ([]++qG) _ oZ) aQ (H.se [0,1,2]:Hp S0 aq _ ([_,_]++_)) ?_;rintro _ sx ⟨_,⟨a20,nQ,rfl,rfl⟩,H⟩;replace H:Hp _ _ _ [_,_,_]:=H;replace H:Hp S0 aq sx [Ch.bx yz nS mw [(I mX.1),(Sl a20 kV.2 nQ)] qF qG,Ch.own 0 0 (Sl a20 kV.2 nQ) kV.2,Ch.bx n0 b1 0 [(I il.1),(I il.2)] [] []]:=Hp.MU (o:=mw) (c1:=[(I mX.1)]) (c2:=[(Sl a20 kV.2 nQ)]) (c3:=[]) (pre:=qF) (u7:=qG) H 0 rfl rfl;refine bp ?_;obtain rfl:=sj h;exact vT (v:=(.tuple #[])) (cv Tryz.results113 eW rfl) ⟨a20,nQ,rfl,rfl⟩ (H.se [0,1])
 ·refine eF ?_;obtain rfl:=sj h;exact vT (v:=(.tuple #[])) (cv Tryz.results113 eW rfl) ⟨a9,Va,rfl,rfl⟩ (H.se [0,1])
theorem lP{iB jG kN r}(h:M.dA iB=some r):
  bL Lz.prog 141 [(Sl jG iB kN)] [Ch.ro 0 (Sl jG iB kN) iB] (λn0 v L=> ∃bz1,v=(.func (.func 158) #[] #[(pt bz1 0)])/\L=[Ch.bx n0 bz1 0 [(Sl jG iB kN)] [] []]):=by
 refine cI Lz.ag4 ?_;intro S0 aq n0 aQ H;unfold M.dA at h;refine k1 (bE (gm (cs:=[(Sl jG iB kN)]) H aQ rfl rfl) wn ?_);rintro _ iL ⟨b1,rfl,H, -⟩;refine aJ (.nilFunc) (k4 (sv (.func (.func 158) #[] #[(pt b1 0)]) (rq (vs:=[(pt b1 0)]) rfl) (aJ (.func (.func 158) #[] #[(pt b1 0)]) (k7 ?_))));obtain rfl:=sj h;exact en Tryz.results141 ⟨b1,rfl,rfl⟩ (H.se [0])
theorem dZ{b o c l:Nat}{a:Option Addr}{xs:List (Int×Int)}{J:Nat->St->Prop}(fu: ∀{i σ σ'},J i σ->Md (λ_=>False) σ σ'->J i σ')
  (V2: ∀{i σ},J i σ->jI σ.w.heap b o=some (Sl a xs c)/\Rd 0 σ (Sl a xs c) xs) (hn:xs.length<=2147483648)
  (hy: ∀i,(h:i<xs.length)-> ∀σ,J i σ->YieldAt Fence.wide 0 Lz.prog l [(.agg #[(I (xs[i]).1),(I (xs[i]).2)])].toArray σ.w λe W'=>e= .returned (.bool true)/\ ∃σ',W'=σ'.w/\J (i+1) σ')
  (σ:St) (h0:J 0 σ):CallsIn Fence.wide 0 Lz.prog 158 [.func (.yield l) #[] #[],(pt b o)].toArray σ.w λe W'=>(∃v,e= .returned v)/\ ∃σ',W'=σ'.w/\J xs.length σ':=by
 refine Sj (n:=16) Lz.ade rfl rfl rfl ?_;refine wpIn_seq ?_;obtain ⟨hc, -⟩:=V2 h0;refine Wo ?_;refine Lh nofun (v:=(Sl a xs c)) (an Lz.mo rfl rfl hc) ?_;refine Lh nofun (v:=(I (xs.length:Int))) (bF Lz.mo rfl) ?_;refine Lh nofun (v:=(I 0)) (ai rfl) ?_;refine Gr ?_;refine az (wpIn_block ?_);refine wpIn_loop_ghost (λk a' w'=> ∃i ρ σ,i+k=xs.length/\a'=fr 16 (cz ρ [(0, .func (.yield l) #[] #[]),(1,pt b o),(5,Sl a xs c),(6,I (xs.length:Int)),(7,I (i:Int))])/\w'=σ.w/\J i σ) xs.length ⟨0,_,σ,by omega,cC rfl,rfl,h0⟩ ?_;clear hc h0;rintro k _ _ ⟨i,ρ,σ,hik,rfl,rfl,hJ⟩;refine wpIn_seq ?_;refine Wo ?_;refine Lh nofun (v:=(B (decide ((i:Int)<(xs.length:Int))))) (cD rfl rfl) ?_;refine Gr ?_;refine az (wpIn_seq ?_);refine IL (decide ((i:Int)<(xs.length:Int))) rfl (λhb=> ?_) (λhb=> ?_)
 ·have bG:i<xs.length:=by have:=of_decide_eq_true hb;omega
  refine wpIn_skip ?_;refine az (wpIn_seq ?_);refine wpIn_block ?_;refine wpIn_seq ?_;refine Wo ?_;have hg:bu xs (i:Int)=some xs[i]:=Wp bG;obtain ⟨-, hR⟩:=V2 hJ;obtain ⟨bx,ox,hi,UY⟩:=hR.ix hg;obtain ⟨_,⟨_,_,rfl,rfl,rfl⟩,hl,hcx⟩:=UY.cells;refine Lh nofun (v:=(pt bx ox)) (bR Lz.mo bO rfl rfl hi) ?_;refine Lh nofun (v:=(.agg #[(I (xs[i]).1),(I (xs[i]).2)])) (bq (cs:=[(I (xs[i]).1),(I (xs[i]).2)]) Lz.jU rfl bO rfl hl hcx) ?_;have H:Hp (dx []) σ σ []:=Hp.begin trivial trivial;refine Cy nofun (gu (lo:=0) H (qa7 _) bO rfl) ?_;rintro _ iL ⟨b4,rfl,H, -⟩;refine Gq nofun (bK (vs:=[(I (xs[i]).1),(I (xs[i]).2)]) (k:=0) H (i:=0) rfl bO rfl rfl rfl rfl rfl (qa5 rfl) (by simp [plain]) rfl) ?_;rintro ji ⟨H, -⟩;refine Gr ?_;refine az (wpIn_seq ?_);refine Wo ?_;refine Lh nofun (v:=(.func (.yield l) #[] #[])) (ai rfl) ?_;have U6:=H.ei 0;refine Lh nofun (v:=(.agg #[(I (xs[i]).1),(I (xs[i]).2)])) (bq (cs:=[(I (xs[i]).1),(I (xs[i]).2)]) Lz.jU rfl bO rfl rfl U6) ?_;refine OM (args:=[(.agg #[(I (xs[i]).1),(I (xs[i]).2)])]) rfl rfl (hy i bG ji (fu hJ H.md)) ?_;rintro e w' ⟨rfl,uK,rfl,hJ4⟩;refine ⟨_,rfl, ?_⟩;refine Lh nofun (v:=(B (!true))) (cO rfl) ?_;refine Gr ?_;refine az (IL false rfl (λhb=>by cases hb) (λ_=> ?_));refine wpIn_skip ?_;refine bX (az (Wo ?_));refine Lh nofun (v:=(I (ao ((i:Int)+1)))) (cF rfl rfl) ?_;refine Lh nofun (v:=(I (ao ((i:Int)+1)))) (ai rfl) ?_;refine Gr ?_;have e1:ao ((i:Int)+1)=((i+1:Nat):Int):=aV (by omega) (by omega);rw [e1];refine az ?_;exact ⟨k - 1,by omega,i+1,_,uK,by omega,cC rfl,rfl,hJ4⟩
 ·have bG: ¬i<xs.length:=by have:=of_decide_eq_false hb;omega
  have:i=xs.length:=by omega
  subst this;refine wpIn_exit ?_;refine aC (aC (bD ?_));exact Lj (v:= .tuple #[]) (cv Tryz.results158 eW rfl) ⟨⟨_,rfl⟩,σ,rfl,hJ⟩
theorem ee{rz sH sI z8 sJ sK xu xv r}(h:M.bB rz=some r):
  bL Lz.prog 164 [.slice none 0 0,(.func (.func 158) #[] #[(pt sJ sK)])] [Ch.bx z8 sJ sK [(Sl sH rz sI)] xu xv,Ch.ro 0 (Sl sH rz sI) rz] (λn0 v L=> ∃dv dc,v=(Sl dv r dc)/\L=[Ch.own n0 n0 (Sl dv r dc) r,Ch.bx z8 sJ sK [(Sl sH rz sI)] xu xv]):=by
 obtain ⟨hn,rfl⟩:=OO (show M.zr rz=some r from h);refine ⟨⟨_,_,Lz.adf,rfl,rfl⟩,λaq n0 aQ H=> ?_⟩;refine callsIn_wide.1 (Sj (n:=13) Lz.adf rfl rfl rfl ?_);refine wpIn_seq ?_;refine Wo ?_;refine Cy nofun (gm (cs:=[.slice none 0 0]) H aQ rfl rfl) ?_;rintro _ qm ⟨b1,rfl,H, -⟩;refine Lh nofun (v:=(.slice none 0 0)) (vO rfl) ?_;refine Gr ?_;refine az (wpIn_seq ?_);refine wpIn_seq ?_;refine Wo ?_;refine Lh nofun (v:=(.func (.func 158) #[] #[(pt sJ sK)])) (ai rfl) ?_;refine Gr ?_;refine az (wpIn_block ?_);replace H:=H.k9 (Int×Int) n0 n0;refine ON (gf:=158) (lb:= #[(pt sJ sK)]) (N:=r.length) (Se:=λi=>[(.agg #[(I (r.getD i (0,0)).1),(I (r.getD i (0,0)).2)])].toArray) (by rw [aR];rfl) (ac7 ⟨_,_,Lz.ade,rfl,rfl⟩) (λ_ _=>rfl)
  (λi L=> ∃a' c',L=[Ch.own n0 n0 (Sl a' (r.take i) c') (r.take i),Ch.bx n0 b1 0 [(Sl a' (r.take i) c')] [] [],Ch.bx z8 sJ sK [(Sl sH r sI)] xu xv,Ch.ro 0 (Sl sH r sI) r]) ⟨none,0,rfl⟩ H ?_ ?_ ?_
 ·intro l J fu hJ hy σ h0;refine dZ (J:=J) (a:=sH) (c:=sI) fu (fun {i σ} h=> ?_) hn (λi hi σ h=> ?_) σ h0
  ·obtain ⟨L,R,⟨a',c',rfl⟩,H⟩:=hJ h;have H2:=H.drop R;exact ⟨H2.cells 2 rfl 0 (by simp),(H2.ro 3 rfl).rd⟩
  ·have:=hy i hi σ h;simpa [List.getD,hi] using this
 ·rintro l D i rc rc' hi σ _ ⟨a',c',rfl⟩ H;have hgd:r.getD i (0,0)=r[i]:=by simp [List.getD,hi]
  simp only [hgd];rw [Si];refine Wo ?_;refine Cy nofun (gu (lo:=n0) H aQ bO rfl) ?_;rintro _ iL ⟨b5,rfl,H, -⟩;refine Gq nofun (bK (vs:=[(I (r[i]).1),(I (r[i]).2)]) (cs':=[(I (r[i]).1),(I (r[i]).2)]) (k:=0) H (i:=0) rfl bO rfl rfl rfl rfl rfl (qa5 rfl) (by simp [plain]) rfl) ?_;rintro ji ⟨H, -⟩;refine Gr ?_;refine az (⟨ji,_,rfl,H.se [1,2,0,3,4,5,6], ?_⟩);clear H;intro uK H;refine wpIn_block ?_;refine Wo ?_;have Gc:=H.ei 4;refine Lh nofun (v:=(Sl a' (r.take i) c')) (an Lz.ic rfl rfl (Gc 0 (by simp))) ?_;have Nj:=H.ei 2;refine Lh nofun (v:=(.agg #[(I (r[i]).1),(I (r[i]).2)])) (bq (cs:=[(I (r[i]).1),(I (r[i]).2)]) Lz.jU rfl bO rfl rfl Nj) ?_;refine Cy nofun (aN (lo:=n0) (el:=n0) (xs:=([((r[i]).1,(r[i]).2)]:List (Int×Int))) (ps:=[(0,(.agg #[(I (r[i]).1),(I (r[i]).2)]))]) (cs:=[(I (r[i]).1),(I (r[i]).2)]) H aQ Lz.ic bO rfl rfl (by kernel_rfl) (.cons (c:=[(I (r[i]).1),(I (r[i]).2)]) ⟨_,_,rfl,rfl,rfl⟩ .nil) rfl) ?_;rintro _ Cz ⟨b10,rfl,H, -⟩;refine Cy nofun (fe H (i:=4) rfl Lz.ic Lz.ic bO rfl rfl (by decide) (H.gN 0).rd (OP hi hn) aQ rfl rfl) ?_;rintro _ CK ⟨a2,c2,rfl,H, -⟩;refine Gq nofun (bK (vs:=[(Sl a2 (r.take (i+1)) c2)]) (cs':=[(Sl a2 (r.take (i+1)) c2)]) (k:=0) H (i:=5) rfl CI rfl rfl rfl rfl rfl (qa5 rfl) (by simp [plain,Sl]) rfl) ?_;rintro IY ⟨H, -⟩;refine Gr ?_;refine bX ?_;exact ⟨rfl,IY,_,rfl,⟨a2,c2,rfl⟩,H.se [3,4,1,0,6,7]⟩
 ·rintro D σ _ ⟨a',c',rfl⟩ H;rw [qbv] at H;refine bX (az (wpIn_seq ?_));refine rgD (ds:=[{ target:= .collected D,args:= #[] }]) ?_;have Gc:=H.ei 2;refine stD nofun (v:=(Sl a' r c')) (an Lz.ic rfl rfl (Gc 0 (by simp))) ?_;refine stD nofun (v:=(Sl a' r c')) (vO rfl) ?_;refine agt ?_;refine az (wpIn_ret ?_);exact Sk (v:=Sl a' r c') H (cv Tryz.results164 (eH (v:=Sl a' r c') rfl eW) rfl) ⟨_,_,_,rfl,rfl,⟨a',c',rfl,rfl⟩,(H.ac4 _).aah [0,2] rfl rfl⟩
theorem fD{jS nH nI om lz lB mL mM r}(h:M.bo jS=some r):
  bL Lz.prog 157 [(.func (.func 158) #[] #[(pt lz lB)])] [Ch.bx om lz lB [(Sl nH jS nI)] mL mM,Ch.ro 0 (Sl nH jS nI) jS] (λn0 v L=> ∃dv dc,v=(Sl dv r dc)/\L=[Ch.own n0 n0 (Sl dv r dc) r,Ch.bx om lz lB [(Sl nH jS nI)] mL mM]):=by
 refine cI Lz.ahh ?_;intro S0 aq n0 aQ H;unfold M.bo at h;refine k1 (aJ (.slice none 0 0) (k4 (av (.func (.func 158) #[] #[(pt lz lB)]) (bA h λr1 oQ h=> ?_))));refine cl (@ee _ nH nI om lz lB mL mM _ oQ) aQ (H.se [0,1,1]:Hp S0 aq _ ([_,_]++_)) ?_;rintro _ CK ⟨_,⟨a4,c5,rfl,rfl⟩,H⟩;replace H:Hp _ _ _ [_,_,_]:=H;refine aJ (Sl a4 r1 c5) (k7 ?_);obtain rfl:=sj h;exact en Tryz.results157 ⟨a4,c5,rfl,rfl⟩ (H.se [0,1])
def Jf:Go.Shelf.Ren:=⟨fun | 6=>107 | 15=>137 | 14=>136 | 28=>153 | 29=>154 | 20=>145 | 21=>146 | 22=>147 | 23=>148 | 24=>149 | 25=>150 | 26=>151 | 27=>152 | 46=>159 | 47=>160 | 48=>161 | 49=>162 | 50=>163 | 57=>165 | n=>n,fun | 22=>27 | 24=>35 | 25=>119 | 3=>3 | 39=>109 | 0=>0 | 53=>87 | 55=>84 | 4=>4 | 46=>162 | 45=>161 | 50=>62 | 5=>5 | 9=>9 | 66=>178 | 70=>181 | 76=>185 | 77=>186 | n=>n,fun | n=>n⟩
theorem WZ:Go.Proofs.SlLaysF0.n6 Lz.prog Jf:={
 mixed:=by kernel_rfl
 f6:=⟨Tryz.f107.name,by decide,Lz.agG.trans (congrArg some (by kernel_rfl))⟩
 f14:=⟨Tryz.f136.name,by decide,Lz.agZ.trans (congrArg some (by kernel_rfl))⟩
 f15:=Lz.ag0.trans (congrArg some (by kernel_rfl))
 f20:=⟨Tryz.f145.name,by decide,Lz.ag5.trans (congrArg some (by kernel_rfl))⟩
 f21:=⟨Tryz.f146.name,by decide,Lz.ag6.trans (congrArg some (by kernel_rfl))⟩
 f22:=⟨Tryz.f147.name,by decide,Lz.ag7.trans (congrArg some (by kernel_rfl))⟩
 f23:=⟨Tryz.f148.name,by decide,Lz.ag8.trans (congrArg some (by kernel_rfl))⟩
 f24:=⟨Tryz.f149.name,by decide,Lz.ag9.trans (congrArg some (by kernel_rfl))⟩
 f25:=⟨Tryz.f150.name,by decide,Lz.aha.trans (congrArg some (by kernel_rfl))⟩
 f26:=⟨Tryz.f151.name,by decide,Lz.ahb.trans (congrArg some (by kernel_rfl))⟩
 f27:=⟨Tryz.f152.name,by decide,Lz.ahc.trans (congrArg some (by kernel_rfl))⟩
 f28:=Lz.ahd.trans (congrArg some (by kernel_rfl))
 f29:=Lz.ahe.trans (congrArg some (by kernel_rfl))
 f46:=⟨Tryz.f159.name,by decide,Lz.ahi.trans (congrArg some (by kernel_rfl))⟩
 f47:=Lz.ahj.trans (congrArg some (by kernel_rfl))
 f48:=Lz.ahk.trans (congrArg some (by kernel_rfl))
 f49:=⟨Tryz.f162.name,by decide,Lz.ahl.trans (congrArg some (by kernel_rfl))⟩
 f50:=⟨Tryz.f163.name,by decide,Lz.ahm.trans (congrArg some (by kernel_rfl))⟩
 f57:=⟨Tryz.f165.name,by decide,Lz.ahn.trans (congrArg some (by kernel_rfl))⟩
 t0:=Lz.U0
 a0:=Lz.A0
 z0:=Lz.S0
 v0:=Lz.Z0
 t3:=Lz.U3
 a3:=Lz.A3
 z3:=Lz.S3
 v3:=Lz.Z3
 t4:=Lz.U4
 a4:=Lz.A4
 z4:=Lz.S4
 v4:=Lz.Z4
 t5:=Lz.U5
 a5:=Lz.A5
 z5:=Lz.S5
 v5:=Lz.Z5
 t9:=Lz.U9
 a9:=Lz.A9
 z9:=Lz.S9
 v9:=Lz.Z9
 t22:=Lz.ic
 a22:=Lz.A27
 z22:=Lz.S27
 v22:=Lz.Z27
 t25:=Lz.aht
 a25:=Lz.ahB
 z25:=Lz.ahJ
 v25:=Lz.ahR
 t39:=Lz.aay
 a39:=Lz.ahA
 z39:=Lz.ahI
 v39:=Lz.ahQ
 t45:=Lz.ahu
 a45:=Lz.ahC
 z45:=Lz.ahK
 v45:=Lz.ahS
 t46:=Lz.ahv
 a46:=Lz.ahD
 z46:=Lz.ahL
 v46:=Lz.ahT
 t50:=Lz.U62
 a50:=Lz.A62
 z50:=Lz.S62
 v50:=Lz.Z62
 t53:=Lz.U87
 a53:=Lz.A87
 z53:=Lz.S87
 v53:=Lz.Z87
 t55:=Lz.U84
 a55:=Lz.A84
 z55:=Lz.S84
 v55:=Lz.Z84
 t66:=Lz.ahw
 a66:=Lz.ahE
 z66:=Lz.ahM
 v66:=Lz.ahU
 t70:=Lz.ahx
 a70:=Lz.ahF
 z70:=Lz.ahN
 v70:=Lz.ahV
 t76:=Lz.ahy
 a76:=Lz.ahG
 z76:=Lz.ahO
 v76:=Lz.ahW
 t77:=Lz.ahz
 a77:=Lz.ahH
 z77:=Lz.ahP
 v77:=Lz.ahX }
theorem dN{bQ yA yB r}(h:M.bb bQ=some r):
  bL Lz.prog 107 [(Sl yA bQ yB),(.func (.func 104) #[] #[])] [Ch.own 0 0 (Sl yA bQ yB) bQ] (λn0 v L=>v=(.tuple #[])/\L=[Ch.own 0 0 (Sl yA r yB) r]/\r.length=bQ.length):=by
 obtain ⟨hn,hs,hL,rfl⟩:=K7 h;have hE: ∀σ σ':St,Ext σ σ'->(True)->(True):=λ_ _ _ hp=>hp;have hB: ∀σ:St,jj σ []->apart []-> ∃tl,Pb (dx []) σ tl/\True:=λσ _ _=>⟨σ,⟨rfl,rfl,λ_ _=>rfl,λ_=>qa2 _⟩,trivial⟩;have hC: ∀σ:St, ¬σ.ef->(True)-> ∀x∈bQ, ∀y∈bQ, ∀cx cy,Rp.rp 0 σ cx x->Rp.rp 0 σ cy y->Calls Lz.prog 104 ([Value.agg cx.toArray,Value.agg cy.toArray]++[]).toArray σ.w λe w'=>e= .returned (I ((M.dt (x.1,x.2) (y.1,y.2)).getD 0))/\ ∃q os,w'=Go.Sort.grow (σ.w.drewN q) os:=by
   intro σ hl hp x hx y hy cx cy rx ry;obtain ⟨r,hr⟩:=hs x hx y hy;obtain ⟨_,_,rfl,rfl,rfl⟩:=rx;obtain ⟨_,_,rfl,rfl,rfl⟩:=ry;have hc:=mJ hr;refine (hc.runs σ 0 (qa7 _) (Hp.begin trivial trivial)).mono ?_;rintro e w' ⟨v,σ',L',rfl,rfl,⟨rfl, -⟩,H⟩;exact ⟨by rw [hr];rfl,(H.md.mono λi=>λh=>h).grown hl⟩
 refine (OL (α:=(Int×Int)) WZ Lz.A35 Lz.S35 (xs:=bQ) (a:=yA) (c:=yB) (g:=104) (cb:=[]) (B:=[]) (λx y=>(M.dt (x.1,x.2) (y.1,y.2)).getD 0) hL hn ⟨_,_,Lz.adb,rfl,rfl⟩ _ hE hB hC).conv ?_;rintro m v L ⟨rfl,rfl⟩;exact ⟨_,⟨rfl,rfl,EY⟩,λH=>H.se [0]⟩
theorem dy{jS nH nI om lz lB mL mM r}(h:M.aP jS=some r):
  bL Lz.prog 140 [(.func (.func 158) #[] #[(pt lz lB)]),(.func (.func 104) #[] #[])] [Ch.bx om lz lB [(Sl nH jS nI)] mL mM,Ch.ro 0 (Sl nH jS nI) jS] (λn0 v L=> ∃dv dc,v=(Sl dv r dc)/\L=[Ch.own 0 n0 (Sl dv r dc) r,Ch.bx om lz lB [(Sl nH jS nI)] mL mM]):=by
 refine cI Lz.ag3 ?_;intro S0 aq n0 aQ H;unfold M.aP at h;refine k1 (aJ (.slice none 0 0) (k4 (av (.func (.func 158) #[] #[(pt lz lB)]) (bA h λr1 oQ h=> ?_))));refine cl (@fD _ nH nI om lz lB mL mM _ oQ) aQ (H.se [0,1,1]:Hp S0 aq _ ([_,_]++_)) ?_;rintro _ CK ⟨_,⟨a4,c5,rfl,rfl⟩,H⟩;replace H:Hp _ _ _ [_,_,_]:=H;refine aJ (Sl a4 r1 c5) (k4 (av (Sl a4 r1 c5) (av (.func (.func 104) #[] #[]) ?_)));replace H:=H.zC 0 0 0 rfl (qa7 _) (qa7 _);refine bA h λr7 zh h=> ?_;refine cl (@dN _ a4 c5 _ zh) aQ (H.se [0,1,2]:Hp S0 aq _ ([_]++_)) ?_;rintro _ wz ⟨_,⟨rfl,rfl,aiB⟩,H⟩;replace H:Hp _ _ _ [_,_,_]:=H;have oS:(Sl a4 r1 c5)=(Sl a4 r7 c5):=oW aiB.symm
 try rw [oS]
 try rw [oS] at H
 clear oS;refine k4 (av (Sl a4 r7 c5) (aJ (Sl a4 r7 c5) (k7 ?_)));replace H:=H.Cv 0 0 n0 rfl (qa2 _);obtain rfl:=sj h;exact en Tryz.results140 ⟨a4,c5,rfl,rfl⟩ (H.se [0,1])
theorem qH{mX qD qE yz nS mw qF qG r}(h:M.fh mX=some r):
  bL Lz.prog 114 [(pt nS mw)] [Ch.bx yz nS mw [(I mX.1),(Sl qD mX.2 qE)] qF qG,Ch.ro 0 (Sl qD mX.2 qE) mX.2] (λn0 v L=> ∃dv dc,v=(Sl dv r dc)/\L=[Ch.own 0 n0 (Sl dv r dc) r,Ch.bx yz nS mw [(I mX.1),(Sl qD mX.2 qE)] qF qG]):=by
 refine cI Lz.agN ?_;intro S0 aq n0 aQ H;unfold M.fh at h;refine k1 (aJ (.slice none 0 0) (k4 (av (pt nS mw) (sv (pt nS mw) (cG rfl) (sv (pt nS (mw+1)) (aj (off:=1) Lz.IU rfl CJ rfl rfl) (sv (Sl qD mX.2 qE) (an Lz.mo rfl rfl (H.eZ 0 1)) (bA h λr2 Kk h=> ?_)))))));refine cl (@lP _ qD qE _ Kk) aQ (H.se [1,0,1]:Hp S0 aq _ ([_]++_)) ?_;rintro _ CK ⟨_,⟨b5,rfl,rfl⟩,H⟩;replace H:Hp _ _ _ [_,_,_]:=H;refine bA h λr7 zh h=> ?_;refine cl (@dy _ qD qE n0 b5 0 [] [] _ zh) aQ (H.se [0,2,1,2]:Hp S0 aq _ ([_,_]++_)) ?_;rintro _ vh ⟨_,⟨jo,jD,rfl,rfl⟩,H⟩;replace H:Hp _ _ _ [_,_,_,_]:=H;refine aJ (Sl jo r7 jD) (k7 ?_);obtain rfl:=sj h;exact en Tryz.results114 ⟨jo,jD,rfl,rfl⟩ (H.se [0,2])
theorem lQ{ab Wy lq dK ah ag jX fL fM iY iZ fN fO jY fP fQ ja jb r}(h:M.dB ab Wy lq dK=some r):
    bL Lz.prog 72 [(Sl ah ab ag),(I Wy),(.func (.func 73) #[] #[(pt fL fM),(pt fP fQ)])] [Ch.ro 0 (Sl ah ab ag) ab,Ch.bx jX fL fM [(I lq)] iY iZ,Ch.bx jY fP fQ [(Sl fN dK fO)] ja jb,Ch.ro 0 (Sl fN dK fO) dK] (λn0 v L=> ∃dv dc,v=(Sl dv r dc)/\L=[Ch.own 0 n0 (Sl dv r dc) r,Ch.bx jX fL fM [(I lq)] iY iZ,Ch.bx jY fP fQ [(Sl fN dK fO)] ja jb]):=by
 refine cI Lz.N72 ?_;intro S0 aq n0 aQ H;unfold M.dB at h;refine k1 (aJ (.slice none 0 0) (k4 (av (I Wy) (sv (.agg #[(I Wy),(.slice none 0 0)]) (oF (ps:=[(0,(I Wy))]) Lz.IU SF (adl Lz.IU) rfl (by kernel_rfl)) (bE (gu (cs:=[(I 0),(.slice none 0 0)]) H aQ SF rfl) wn ?_)))));rintro _ iL ⟨b1,rfl,H, -⟩;refine gk (bK (k:=0) (cs:=[(I 0),(.slice none 0 0)]) (vs:=[(I Wy),(.slice none 0 0)]) (cs':=[(I Wy),(.slice none 0 0)]) H (i:=0) rfl SF rfl rfl rfl rfl rfl (qa5 rfl) (by simp [plain]) rfl) wn ?_;rintro ji ⟨H, -⟩;refine k5 (av (Sl ah ab ag) (sv (I (ab.length:Int)) (bF Lz.lT rfl) (av (I 0) (k2 ?_))));obtain ⟨o4,h,h'⟩:=bind_some h;refine cj (λe a w=>e= .normal/\ ∃ρ σ et ew,a=fr 27 (cz ρ [(2,(.func (.func 73) #[] #[(pt fL fM),(pt fP fQ)])),(7,(pt b1 0))])/\w=σ.w/\Hp S0 aq σ [Ch.bx n0 b1 0 [(I o4.1),(Sl et o4.2 ew)] [] [],Ch.own 0 0 (Sl et o4.2 ew) o4.2,Ch.bx jX fL fM [(I lq)] iY iZ,Ch.ro 0 (Sl fN dK fO) dK,Ch.bx jY fP fQ [(Sl fN dK fO)] ja jb]) ?_ ?_
 ·clear h';refine bV ?_;replace H:=H.k9 (Int×Int) 0 0;refine bZ _ h (λs5 a w=> ∃ρ σ et ew,a=fr 27 (cz ρ [(2,(.func (.func 73) #[] #[(pt fL fM),(pt fP fQ)])),(7,(pt b1 0)),(12,(Sl ah ab ag)),(13,(I (ab.length:Int))),(14,(I s5.2))])/\w=σ.w/\Hp S0 aq σ [Ch.bx n0 b1 0 [(I s5.1.1),(Sl et s5.1.2 ew)] [] [],Ch.own 0 0 (Sl et s5.1.2 ew) s5.1.2,Ch.bx jX fL fM [(I lq)] iY iZ,Ch.ro 0 (Sl fN dK fO) dK,Ch.bx jY fP fQ [(Sl fN dK fO)] ja jb,Ch.ro 0 (Sl ah ab ag) ab]) ⟨_,ji,none,0,cC rfl,rfl,H.se [1,0,3,5,4,2]⟩ ?_;clear h H;rintro s5 a w o ⟨ρ,CK,a7,c8,rfl,rfl,H⟩ h cE;refine k1 (sv (B (decide (s5.2<(ab.length:Int)))) (cD rfl rfl) (k3 (gC h (λhb9 h=> ?_) (λhb9 h=> ?_))))
  ·refine k6 (bV (k1 (bA h λoK qy h=> ?_)));obtain ⟨IZ,o14,Tn, -⟩:=(H.fl 5).ix qy;refine sv (pt IZ o14) (bR Lz.lT cW rfl rfl Tn) ?_;obtain ⟨_,⟨_,_,rfl,rfl,⟨_,_,rfl,⟨_,rfl,aaW⟩,rfl⟩⟩,aiC,Bc⟩:=((H.fl 5).at qy Tn).cells;obtain ⟨a17,zT,rfl⟩:=aaW.rI;replace H:=H.add (d:=Ch.ro 0 (Sl a17 oK.2.1 zT) oK.2.1) aaW (λ_ h=>h);clear aaW;refine sv (.agg #[(I oK.1),(Sl a17 oK.2.1 zT),(I oK.2.2)]) (bq Lz.mG rfl cW rfl aiC Bc) (bE (gu (cs:=[(I 0),(.slice none 0 0),(I 0)]) H aQ cW rfl) wn ?_);rintro _ Gy ⟨Vb,rfl,H, -⟩;refine gk (bK (k:=0) (cs:=[(I 0),(.slice none 0 0),(I 0)]) (vs:=[(I oK.1),(Sl a17 oK.2.1 zT),(I oK.2.2)]) (cs':=[(I oK.1),(Sl a17 oK.2.1 zT),(I oK.2.2)]) H (i:=0) rfl cW rfl rfl rfl rfl rfl (qa5 rfl) (by simp [plain]) rfl) wn ?_;rintro sx ⟨H, -⟩;refine k2 ?_;have W4:=H.cell (u:=(I oK.1)) (o':=0) 0 0 rfl rfl rfl;have z7:=H.ei 0;refine bA h λze GO h=> ?_;have wy:= @oi _ _ _ a17 zT jX fL fM iY iZ fN fO jY fP fQ ja jb _ GO
   refine BH (σ:=sx) (Nm:=Unit) 5 [4] [[false],[true]] (rp 2 [(0,0),(1,1)]++[[(0,0)],[(0,0)],[(0,1)]]) 1 [λ_ ck=>Hp S0 aq ck [Ch.bx n0 Vb 0 [(I oK.1),(Sl a17 oK.2.1 zT),(I oK.2.2)] [] [],Ch.ro 0 (Sl a17 oK.2.1 zT) oK.2.1,Ch.bx n0 b1 0 [(I s5.1.1),(Sl a7 s5.1.2 c8)] [] [],Ch.own 0 0 (Sl a7 s5.1.2 c8) s5.1.2,Ch.bx jX fL fM [(I lq)] iY iZ,Ch.ro 0 (Sl fN dK fO) dK,Ch.bx jY fP fQ [(Sl fN dK fO)] ja jb,Ch.ro 0 (Sl ah ab ag) ab]/\Md (dx []) sx ck,λ_ ck=>Hp S0 aq ck [Ch.bx jX fL fM [(I lq)] iY iZ,Ch.bx jY fP fQ [(Sl fN dK fO)] ja jb,Ch.bx n0 Vb 0 [(I oK.1),(Sl a17 oK.2.1 zT),(I oK.2.2)] [] [],Ch.ro 0 (Sl a17 oK.2.1 zT) oK.2.1,Ch.bx n0 b1 0 [(I s5.1.1),(Sl a7 s5.1.2 c8)] [] [],Ch.own 0 0 (Sl a7 s5.1.2 c8) s5.1.2,Ch.ro 0 (Sl fN dK fO) dK,Ch.ro 0 (Sl ah ab ag) ab]/\Md (λi=>(dx []) i\/(dx [Ch.ro 0 (Sl a17 oK.2.1 zT) oK.2.1,Ch.bx jX fL fM [(I lq)] iY iZ,Ch.bx jY fP fQ [(Sl fN dK fO)] ja jb,Ch.ro 0 (Sl fN dK fO) dK]) i) sx ck] [λ_=>(pt Vb 0),λ_=>(I oK.1),λ_=>(.func (.func 73) #[] #[(pt fL fM),(pt fP fQ)]),λ_=>(.agg #[(I oK.1),(Sl a17 oK.2.1 zT),(I oK.2.2)]),λ_=>(I ze)] () (by kernel_rfl) (by kernel_rfl) (BK H) ?_ ?_
   ·refine fy (λ_ _ _ o d=>aj (off:=0) Lz.mG rfl gy rfl (lo o 9)) (all_cons ⟨?_, ?_,trivial⟩ ?_)
    ·intro _nm ρ ck hJ aY aH;have GM:=dq aH 0 18;obtain ⟨H,m⟩:=id hJ;have W4:=H.cell (u:=(I oK.1)) (o':=0) 0 0 rfl rfl rfl;exact qV (an Lz.U3 rfl GM W4) hJ
    ·intro _nm ρ ck hJ aY aH;have GM:=dq aH 0 18;obtain ⟨H,m⟩:=id hJ;have W4:=H.cell (u:=(I oK.1)) (o':=0) 2 0 rfl rfl rfl;exact qV (an Lz.U3 rfl GM W4) hJ
    refine fy (λ_ _ _ o d=>ai (lo o 2)) (all_cons ⟨?_,trivial⟩ ?_)
    ·intro _nm ρ ck hJ aY aH;have e9:=lo (N:=27) aY 9;obtain ⟨H,m⟩:=id hJ;have z7:=H.ei 0;exact qV (bq (cs:=[(I oK.1),(Sl a17 oK.2.1 zT),(I oK.2.2)]) Lz.mG rfl cW e9 rfl z7) hJ
    refine all_cons ⟨?_,trivial⟩ ?_
    ·intro _nm ρ ck hJ aY aH;have e21:look 27 ρ 21=(.agg #[(I oK.1),(Sl a17 oK.2.1 zT),(I oK.2.2)]):=dq aH 3 21;have e20:=dq aH 2 20;obtain ⟨H,m⟩:=id hJ;refine jL wn (bh wy (IA (cap:=[(pt fL fM),(pt fP fQ)]) wy.fn e20 (by show [look 27 ρ 21]++[(pt fL fM),(pt fP fQ)]=_;rw [e21];rfl)) aQ (H.se [1,4,6,5,0,1,2,3,5,7]:Hp S0 aq _ ([_,_,_,_]++_))) ?_;rintro _ vj ⟨_,⟨rfl,rfl⟩,H2,m2⟩;exact ⟨_,(),rfl,rfl,⟨H2.se [0,1,2,3,4,5,6,7],m.comp m2⟩,uJ [0,1,2,3]⟩
    exact all_nil
   ·intro _nm ρ O6 hJ aY eN;obtain ⟨H, -⟩:=hJ;refine BM aY eN [(2,(.func (.func 73) #[] #[(pt fL fM),(pt fP fQ)])),(7,(pt b1 0)),(12,(Sl ah ab ag)),(13,(I (ab.length:Int))),(14,(I s5.2)),(19,(I oK.1)),(22,(I ze))] [1,4] (sv (.agg #[(I oK.1),(I ze)]) (oF (ps:=[(0,(I oK.1)),(1,(I ze))]) Lz.jU bO (adk Lz.jU) rfl (by kernel_rfl)) (bA h λKg zU h=> ?_));refine cl (@rO _ _ a7 c8 n0 b1 0 [] [] _ zU) aQ (H.se [4,5,0,1,2,3,6,7]:Hp S0 aq _ ([_,_]++_)) ?_;rintro _ LF ⟨_,⟨a32,c33,rfl,rfl⟩,H⟩;replace H:Hp _ _ _ [_,_,_,_,_,_,_,_]:=H;replace H:Hp S0 aq LF [Ch.bx n0 b1 0 [(I Kg.1),(Sl a32 Kg.2 c33)] [] [],Ch.own 0 0 (Sl a32 Kg.2 c33) Kg.2,Ch.bx jX fL fM [(I lq)] iY iZ,Ch.bx jY fP fQ [(Sl fN dK fO)] ja jb,Ch.ro 0 (Sl fN dK fO) dK,Ch.ro 0 (Sl ah ab ag) ab]:=H.se [0,1,2,3,6,7];refine bp (bX (az (rg (sv (I (ao (s5.2+1))) (cF rfl rfl) (av (I (ao (s5.2+1))) (k2 ?_))))));obtain rfl:=sj h;exact ⟨_,rfl,_,LF,a32,c33,cC rfl,rfl,H.se [0,1,2,4,3,5]⟩
  ·refine dH (aC (aC (bD ?_)));obtain rfl:=sj h;obtain rfl:=cE _ rfl;exact ⟨rfl,_,CK,a7,c8,cC rfl,rfl,H.se [0,1,2,3,4]⟩
 ·replace h:=h';clear h' H;rintro e a w ⟨rfl,ρ,I1,YX,YY,rfl,rfl,H⟩;refine az (k1 ?_);obtain ⟨Gz,I2,H, -⟩:=H.kU 1;rw [←I2];clear I2;refine bA h λr40 aaX h=> ?_;refine cl (@qH _ YX YY n0 b1 0 [] [] _ aaX) aQ (H.se [1,0,0,2,3,4]:Hp S0 aq _ ([_,_]++_)) ?_;rintro _ WT ⟨_,⟨a43,c44,rfl,rfl⟩,H⟩;replace H:Hp _ _ _ [_,_,_,_,_,_]:=H;refine aJ (Sl a43 r40 c44) (k7 ?_);obtain rfl:=sj h;exact en Tryz.results72 ⟨a43,c44,rfl,rfl⟩ (H.se [0,3,5])
theorem wB{ab eK iz zb ah ag iI iJ r}(h:M.iX ab eK iz zb=some r):
  bL Lz.prog 39 [(Sl ah ab ag),(I eK),(Sl iI iz iJ),(I zb)] [Ch.ro 0 (Sl ah ab ag) ab,Ch.ro 0 (Sl iI iz iJ) iz] (λn0 v L=> ∃dv dc,v=(Sl dv r dc)/\L=[Ch.own 0 n0 (Sl dv r dc) r]):=by
 refine cI Lz.N39 ?_;intro S0 aq n0 aQ H;unfold M.iX at h;refine k1 (bE (gm (cs:=[(I eK)]) H aQ rfl rfl) wn ?_);rintro _ iL ⟨b1,rfl,H, -⟩;refine bE (gm (cs:=[(Sl iI iz iJ)]) H aQ rfl rfl) wn ?_;rintro _ uK ⟨b3,rfl,H, -⟩;refine aJ (.slice none 0 0) (k4 (av (Sl ah ab ag) (av (I zb) (sv (.func (.func 73) #[] #[(pt b1 0),(pt b3 0)]) (rq (vs:=[(pt b1 0),(pt b3 0)]) rfl) (bA h λr5 rV h=> ?_)))));refine cl (@lQ _ _ _ _ ah ag n0 b1 0 [] [] iI iJ n0 b3 0 [] [] _ rV) aQ (H.se [2,1,0,3,2,3]:Hp S0 aq _ ([_,_,_,_]++_)) ?_;rintro _ xn ⟨_,⟨a8,c9,rfl,rfl⟩,H⟩;replace H:Hp _ _ _ [_,_,_,_,_]:=H;refine aJ (Sl a8 r5 c9) (k7 ?_);obtain rfl:=sj h;exact en Tryz.results39 ⟨a8,c9,rfl,rfl⟩ (H.se [0])
theorem CY{ab eK iz zb ah ag iI iJ r}(h:M.im ab eK iz zb=some r):
   bL Lz.prog 10 [(Sl ah ab ag),(I eK),(Sl iI iz iJ),(I zb)] [Ch.ro 0 (Sl ah ab ag) ab,Ch.ro 0 (Sl iI iz iJ) iz] (λn0 v L=> ∃dv dc,v=(Sl dv r dc)/\L=[Ch.own 0 n0 (Sl dv r dc) r]):=by
 refine cI Lz.N10 ?_;intro S0 aq n0 aQ H;unfold M.im at h;refine k1 (aJ (.slice none 0 0) (k5 (av (Sl ah ab ag) (av (I eK) (av (Sl iI iz iJ) (av (I zb) (bA h λr1 oQ h=> ?_)))))));refine cl (@qA _ _ _ _ ah ag iI iJ _ oQ) aQ (H.se [0,1,0,1]:Hp S0 aq _ ([_,_]++_)) ?_;rintro _ uK ⟨_,⟨rfl,rfl⟩,H⟩;replace H:Hp _ _ _ [_,_]:=H;refine sv (B (!r1)) (cO rfl) (k2 (gC h (λBe h=> ?_) (λBe h=> ?_)))
 ·refine k1 (aJ (.slice none 0 0) (k7 (aG ?_)));replace H:=H.k9 (Int×Int) 0 n0;obtain rfl:=sj h;exact en Tryz.results10 ⟨none,0,rfl,rfl⟩ (H.se [0])
 ·refine k6 (rg (av (Sl ah ab ag) (av (I eK) (av (Sl iI iz iJ) (av (I zb) (bA h λr6 uh h=> ?_))))));refine cl (@wB _ _ _ _ ah ag iI iJ _ uh) aQ (H.se [0,1,0,1]:Hp S0 aq _ ([_,_]++_)) ?_;rintro _ wz ⟨_,⟨a9,Va,rfl,rfl⟩,H⟩;replace H:Hp _ _ _ [_,_,_]:=H;refine aJ (Sl a9 r6 Va) (k7 ?_);obtain rfl:=sj h;exact en Tryz.results10 ⟨a9,Va,rfl,rfl⟩ (H.se [0])
end Go.Vs
