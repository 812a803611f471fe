/- The functions compute what their models say. -/
import Derived.Test.YtbpbncjammigdaaGreatAl
import Derived.Test.YtbpbncjammigdaaGreatEng2
import Derived.Test.YtbpbncjammigdaaGreatSC2
set_option linter.unusedVariables false
set_option linter.unusedSimpArgs false
set_option maxHeartbeats 2000000
set_option maxRecDepth 20000
namespace Go.Vs
open Go Go.Proofs
attribute [local irreducible] Code.wp Code.wpIn wpList wpListIn wpQuiet Calls CallsIn
theorem xp{bJ qO}(HG:qO.length=4){r}(h:M.jH bJ qO=some r):
    bN Lz.prog 115 [(I bJ),(.agg (List.map I qO).toArray)] [] (λn0 v L=>v=(I r)/\L=[]):=by
 refine cO Lz.afl ?_;intro S0 ar n0 aS H;unfold M.jH at h;refine k1 (bF (fY (cs:=(List.map I qO)) H aS rfl rfl) wn ?_);rintro _ il ⟨b1,rfl,H, -⟩;refine aN (I 0) (k4 (aN (I 0) (k5 ?_)));have OI:=H.dS 0;refine sv (.agg (List.map I qO).toArray) (bq (cs:=(List.map I qO)) Lz.yE rfl zw rfl (by rw [qbr];exact HG) OI) (aw (I 0) (k2 ?_));obtain ⟨o4,h,h'⟩:=bind_some h;refine bW (λe a w=>(∃t,o4=(.inl t)/\e= .normal/\ ∃ρ σ,a=fr 38 (cu ρ [(5,(I t))])/\w=σ.w/\Hp S0 ar σ [])\/(∃t,o4=(.inr t)/\e= .ret/\ ∃ρ σ,a=fr 38 (cu ρ [(4,(I t))])/\w=σ.w/\Hp S0 ar σ [])) ?_ ?_
 ·clear h';refine bU (cj _ h (λs5 a w=> ∃ρ σ,a=fr 38 (cu ρ [(0,(I bJ)),(5,(I s5.1)),(8,(.agg (List.map I qO).toArray)),(9,(I s5.2))])/\w=σ.w/\Hp S0 ar σ []) ⟨_,il,cq rfl,rfl,H.se []⟩ ?_);clear h H;rintro s5 a w o ⟨ρ,Bs,rfl,rfl,H⟩ h cC;refine k1 (sv (B (decide (s5.2<4))) (cB rfl rfl) (k3 (gr h (λpK h=> ?_) (λpK h=> ?_))))
  ·refine k6 ?_;obtain ⟨o8,h,h'⟩:=bind_some h;refine bW (λe a w=>(∃t,o8=(.inl t)/\e= .normal/\ ∃ρ σ,a=fr 38 (cu ρ [(0,(I bJ)),(5,(I t)),(8,(.agg (List.map I qO).toArray)),(9,(I s5.2))])/\w=σ.w/\Hp S0 ar σ [])\/(∃t,o8=(.inr t)/\e= .ret/\ ∃ρ σ,a=fr 38 (cu ρ [(4,(I t))])/\w=σ.w/\Hp S0 ar σ [])) ?_ ?_
   ·clear h';refine bU (k1 (bD h λx9 xl h=> ?_));refine sv (I x9) (YA Lz.yE gw Lz.U3 rfl rfl xl HG) (aN (I x9) (k4 (aw (I bJ) (k2 (bU (k1 (sv (B (bJ==1)) (gh rfl rfl) (aN (B (bJ==1)) (k2 (gr h (λmV h=> ?_) (λmV h=> ?_)))))))))))
    ·refine rg (aw (I s5.1) (aw (I x9) (sv (I (an (s5.1+x9))) (cH rfl rfl) (aN (I (an (s5.1+x9))) (bo (bV (bV ?_)))))));obtain rfl:=sj h;exact .inl ⟨_,rfl,rfl,_,Bs,cq rfl,rfl,H.se []⟩
    ·refine k1 (sv (B (bJ==2)) (gh rfl rfl) (aN (B (bJ==2)) (k2 (gr h (λpN h=> ?_) (λpN h=> ?_)))))
     ·refine rg (aw (I s5.1) (aw (I x9) (sv (I (max s5.1 x9)) (EH rfl rfl) (aN (I (max s5.1 x9)) (bo (bV (bV ?_)))))));obtain rfl:=sj h;exact .inl ⟨_,rfl,rfl,_,Bs,cq rfl,rfl,H.se []⟩
     ·refine k1 (sv (B (bJ==3)) (gh rfl rfl) (aN (B (bJ==3)) (k2 (gr h (λnB h=> ?_) (λnB h=> ?_)))))
      ·refine rg (aw (I s5.1) (aw (I x9) (aw (I x9) (sv (I (an (x9*x9))) (oh rfl rfl) (sv (I (an (s5.1+(an (x9*x9))))) (cH rfl rfl) (aN (I (an (s5.1+(an (x9*x9))))) (bo (bV (bV ?_)))))))));obtain rfl:=sj h;exact .inl ⟨_,rfl,rfl,_,Bs,cq rfl,rfl,H.se []⟩
      ·refine k1 (sv (B (bJ==4)) (gh rfl rfl) (aN (B (bJ==4)) (k2 (gr h (λoo h=> ?_) (λoo h=> ?_)))))
       ·refine rg (aw (I s5.1) (aw (I x9) (sv (I (min x9 1)) (JC rfl rfl) (sv (I (an (s5.1+(min x9 1)))) (cH rfl rfl) (aN (I (an (s5.1+(min x9 1)))) (bo (bV (bV ?_))))))));obtain rfl:=sj h;exact .inl ⟨_,rfl,rfl,_,Bs,cq rfl,rfl,H.se []⟩
       ·refine k1 (aN (I (-1)) (k7 (dK (dK ?_))));obtain rfl:=sj h;exact .inr (⟨_,rfl,rfl,_,Bs,cq rfl,rfl,H.se []⟩)
   ·replace h:=h';clear h' H;rintro e a w (⟨t15,rfl,rfl,ρ,vi,rfl,rfl,H⟩ | ⟨t17,rfl,rfl,ρ,sx,rfl,rfl,H⟩)
    ·replace h:=kU h;refine aD (rg (sv (I (an (s5.2+1))) (cH rfl rfl) (aw (I (an (s5.2+1))) (k2 ?_))));obtain rfl:=sj h;exact ⟨_,rfl,_,vi,cq rfl,rfl,H.se []⟩
    ·replace h:=kV h;refine aI (aI (dK ?_));obtain rfl:=sj h;obtain rfl:=cC _ rfl;exact .inr (⟨_,rfl,rfl,_,sx,cq rfl,rfl,H.se []⟩)
  ·refine dQ (aG (aG (bH ?_)));obtain rfl:=sj h;obtain rfl:=cC _ rfl;exact .inl ⟨_,rfl,rfl,_,Bs,cq rfl,rfl,H.se []⟩
 ·replace h:=h';clear h' H;rintro e a w (⟨t19,rfl,rfl,ρ,Fe,rfl,rfl,H⟩ | ⟨t21,rfl,rfl,ρ,su,rfl,rfl,H⟩)
  ·replace h:=kU h;refine aD (k1 (aw (I t19) (aN (I t19) (k7 ?_))));obtain rfl:=sj h;exact eo Tryz.results115 ⟨rfl,rfl⟩ (H.se [])
  ·replace h:=kV h;refine aI ?_;obtain rfl:=sj h;exact eo Tryz.results115 ⟨rfl,rfl⟩ (H.se [])
theorem z6{bJ sW uR we tE xq uo r}(h:M.jR bJ sW uR=some r):
    bN Lz.prog 74 [(I bJ),(Sl we sW tE),(Sl xq uR uo)] [Ch.ro 0 (Sl we sW tE) sW,Ch.ro 0 (Sl xq uR uo) uR] (λn0 v L=>v=(I r)/\L=[]):=by
 refine cO Lz.N74 ?_;intro S0 ar n0 aS H;unfold M.jR at h;refine k1 (aN (I 0) (k3 (dC ?_)));obtain ⟨o1,h,h'⟩:=bind_some h;refine bW (Jn S0 ar 24 [(0,(I bJ)),(1,(Sl we sW tE)),(2,(Sl xq uR uo)),(14,(B o1))] [Ch.ro 0 (Sl we sW tE) sW,Ch.ro 0 (Sl xq uR uo) uR]) ?_ ?_
 ·clear h';refine rg (aw (Sl we sW tE) (bD h λr2 IV h=> ?_));refine cl (@jA _ we tE _ IV) aS (H.se [0,0,1]:Hp S0 ar _ ([_]++_)) ?_;rintro _ CH ⟨_,⟨rfl,rfl⟩,H⟩;replace H:Hp _ _ _ [_,_]:=H;refine sv (B (!r2)) (cY rfl) (aw (B (!r2)) ?_);rcases oD h with ⟨pP,h⟩ | ⟨pP,h⟩
  ·refine aj (congrArg some pP) (aj (congrArg some pP) (aj (congrArg some pP) (sv (B true) (aM (congrArg B pP) rfl) (bo ?_))));obtain rfl:=sj h;exact ⟨rfl,_,CH,cq rfl,rfl,H.se [0,1]⟩
  ·refine bT (v:=(Sl xq uR uo)) (congrArg some pP) (ai rfl) (bD h λr7 yg h=> ?_);have yN:= @jA _ xq uo _ yg;refine bZ (bu yN (dE yN.fn rfl) aS (H.se [1,0,1]:Hp S0 ar _ ([_]++_))) (aU rfl (by exact (congrArg some pP))) ?_;rintro _ vZ ⟨_,⟨rfl,rfl⟩,H, -⟩;replace H:Hp _ _ _ [_,_]:=H;refine bT (v:=(B (!r7))) (congrArg some pP) (cY rfl) (sv (B (!r7)) (aA (congrArg B pP) rfl) (bo ?_));obtain rfl:=sj h;exact ⟨rfl,_,vZ,cq rfl,rfl,H.se [0,1]⟩
 ·replace h:=h';clear h' H;rintro e a w ⟨rfl,ρ,vm,rfl,rfl,H⟩;refine aD (gr h (λpN h=> ?_) (λpN h=> ?_))
  ·refine k1 (aN (I (-1)) (k7 (aI ?_)));obtain rfl:=sj h;exact eo Tryz.results74 ⟨rfl,rfl⟩ (H.se [])
  ·refine k6 (bD h λai5 zZ h=> ?_);obtain ⟨HC,ag6⟩:=Dv zZ;clear zZ ag6;obtain ⟨Nn,ss,rfl,tv⟩:=(H.fB 0).arr (qa2 (by decide) HC);refine bD h λai6 NK h=> ?_;obtain ⟨UP,ag7⟩:=Dv NK;clear NK ag7;obtain ⟨Zj,OE,rfl,yY⟩:=(H.fB 1).arr (qa2 (by decide) UP);refine bD h λtn HD h=> ?_;have Hq:=CR (by rw [qaq];have:=HC;omega) (by rw [qaq];have:=UP;omega) HD;have Hs:=H;refine DG (σ:=vm) (Nm:=Unit) 8 [7] [[false],[true]] ([[(0,0),(1,1)]]++rp 6 [(0,0)]++[[(0,1)]]) 1 [λ_ cD=>Hp S0 ar cD [Ch.ro 0 (Sl (some ⟨Nn,ss,none⟩) sW tE) sW,Ch.ro 0 (Sl (some ⟨Zj,OE,none⟩) uR uo) uR]/\Md (dD []) vm cD,λ_ cD=>Hp S0 ar cD [Ch.ro 0 (Sl (some ⟨Nn,ss,none⟩) sW tE) sW,Ch.ro 0 (Sl (some ⟨Zj,OE,none⟩) uR uo) uR]/\Md (dD []) vm cD/\tn.length=4] [λ_=>(I bJ),λ_=>(Sl (some ⟨Nn,ss,none⟩) sW tE),λ_=>(.pointer (some ⟨Nn,ss,none⟩)),λ_=>(.agg (List.map I (List.take 4 sW)).toArray),λ_=>(Sl (some ⟨Zj,OE,none⟩) uR uo),λ_=>(.pointer (some ⟨Zj,OE,none⟩)),λ_=>(.agg (List.map I (List.take 4 uR)).toArray),λ_=>(.agg (List.map I tn).toArray)] () (by kernel_rfl) (by kernel_rfl) (DL H) ?_ ?_
   ·refine gH (λ_ _ _ o d=>ai (lo o 0)) (gH (λ_ _ _ o d=>ai (lo o 1)) (gH (λ_ _ _ o d=>Du Lz.yE (dq d 1 16) HC) (all_cons ⟨?_,trivial⟩ ?_)))
    ·intro _nm ρ cD hJ bh aP;have e17:=dq aP 2 17;obtain ⟨H,m⟩:=id hJ;replace tv:=(Hs.ro 0 rfl).Qg tv m;exact qk (bq (cs:=List.map I (List.take 4 sW)) Lz.yE rfl zw e17 (by rw [qbr,qaq];have:=HC;omega) (G4 tv)) hJ
    refine gH (λ_ _ _ o d=>ai (lo o 2)) (gH (λ_ _ _ o d=>Du Lz.yE (dq d 4 19) UP) (all_cons ⟨?_,trivial⟩ ?_))
    ·intro _nm ρ cD hJ bh aP;have e20:=dq aP 5 20;obtain ⟨H,m⟩:=id hJ;replace yY:=(Hs.ro 1 rfl).Qg yY m;exact qk (bq (cs:=List.map I (List.take 4 uR)) Lz.yE rfl zw e20 (by rw [qbr,qaq];have:=UP;omega) (G4 yY)) hJ
    refine all_cons ⟨?_,trivial⟩ ?_
    ·intro _nm ρ cD hJ bh aP;have Fo:look 24 ρ 18=(.agg (List.map I (List.take 4 sW)).toArray):=dq aP 3 18;have Zq:look 24 ρ 21=(.agg (List.map I (List.take 4 uR)).toArray):=dq aP 6 21;obtain ⟨H,m⟩:=id hJ;refine mf wn (bu Hq (dE Hq.fn (by show [look 24 ρ 18,look 24 ρ 21]=_;rw [Fo,Zq])) aS (H.se [0,1]:Hp S0 ar _ ([]++_))) ?_;rintro _ xj ⟨_,⟨rfl,rfl,Zr⟩,H2,m2⟩;exact ⟨_,(),rfl,rfl,⟨H2.se [0,1],m.jG m2,Zr⟩,wB [0,1,2,3,4,5,6]⟩
    exact all_nil
   ·intro _nm ρ Fg hJ bh fg;obtain ⟨H, -, Zr⟩:=hJ;clear Hs;refine DN bh fg [(15,(I bJ)),(22,(.agg (List.map I tn).toArray))] [0,7] (bD h λxk CN h=> ?_);refine cl (xp Zr CN) aS (H.se [0,1]:Hp S0 ar _ ([]++_)) ?_;rintro _ Hv ⟨_,⟨rfl,rfl⟩,H⟩;replace H:Hp _ _ _ [_,_]:=H;refine aN (I xk) (k7 ?_);obtain rfl:=sj h;exact eo Tryz.results74 ⟨rfl,rfl⟩ (H.se [])
theorem nD{cv zu Cs cz cA xn yV wb sE sF Q7 Q8 DU Fj zX yW yX r}(h:M.dz cv zu Cs=some r):
  bN Lz.prog 73 [(.agg #[(I cv.1),(Sl cz cv.2.1 cA),(I cv.2.2)]),(pt yV wb),(pt Fj zX)] [Ch.ro 0 (Sl cz cv.2.1 cA) cv.2.1,Ch.bx xn yV wb [(I zu)] sE sF,Ch.bx DU Fj zX [(Sl Q7 Cs Q8)] yW yX,Ch.ro 0 (Sl Q7 Cs Q8) Cs] (λn0 v L=>v=(I r)/\L=[Ch.bx xn yV wb [(I zu)] sE sF,Ch.bx DU Fj zX [(Sl Q7 Cs Q8)] yW yX]):=by
 refine cO Lz.N73 ?_;intro S0 ar n0 aS H;unfold M.dz at h;refine k1 (bF (fY (cs:=[(I cv.1),(Sl cz cv.2.1 cA),(I cv.2.2)]) H aS rfl rfl) wn ?_);rintro _ il ⟨b1,rfl,H, -⟩;refine aN (I 0) (k4 (sv (I zu) (aq Lz.U3 rfl rfl (H.eH 2 0)) (sv (pt b1 1) (ak (off:=1) Lz.mz rfl Bp rfl rfl) (sv (Sl cz cv.2.1 cA) (aq Lz.oZ rfl rfl (H.eH 0 1)) (sv (Sl Q7 Cs Q8) (aq Lz.oZ rfl rfl (H.eH 3 0)) (bD h λr6 tN h=> ?_))))));refine cl (@z6 _ _ _ cz cA Q7 Q8 _ tN) aS (H.se [1,4,0,1,2,3,4]:Hp S0 ar _ ([_,_]++_)) ?_;rintro _ SY ⟨_,⟨rfl,rfl⟩,H⟩;replace H:Hp _ _ _ [_,_,_,_,_]:=H;refine aN (I r6) (k7 ?_);obtain rfl:=sj h;exact eo Tryz.results73 ⟨rfl,rfl⟩ (H.se [2,3])
theorem nV{dJ eI dU dV fR dG cT dH dI r}(h:M.eU dJ eI=some r):
    bN Lz.prog 189 [(pt dG cT),(.iface 35 (.agg #[(I eI.1),(I eI.2)]))] [Ch.bx fR dG cT [(Sl dU dJ dV)] dH dI,Ch.own 0 0 (Sl dU dJ dV) dJ] (λn0 v L=> ∃dv dh,v=(.tuple #[])/\L=[Ch.bx fR dG cT [(Sl dv r dh)] dH dI,Ch.own 0 0 (Sl dv r dh) r]):=by
 refine cO Lz.afZ ?_;intro S0 ar n0 aS H;unfold M.eU at h;have EN:=H.cell (u:=(Sl dU dJ dV)) (o':=cT) 0 0 rfl rfl rfl;refine bD h λHl LO h=> ?_;refine DG (σ:=ar) (Nm:=(Nat)×(Option Addr)×(Nat)) 8 [6,7] [[false,false],[true,false],[true,true]] ([[(0,0),(1,1),(2,2)]]++rp 3 [(0,0),(1,1)]++[[(0,0)],[(0,0)],[(0,1)],[(1,2)]]) 2 [λ⟨b2,a5,c6⟩ cD=>Hp S0 ar cD [Ch.bx fR dG cT [(Sl dU dJ dV)] dH dI,Ch.own 0 0 (Sl dU dJ dV) dJ]/\Md (dD []) ar cD,λ⟨b2,a5,c6⟩ cD=>Hp S0 ar cD [Ch.own n0 n0 (Sl (some ⟨b2,0,none⟩) ([(eI.1,eI.2)]:List (Int×Int)) 1) ([(eI.1,eI.2)]:List (Int×Int)),Ch.bx fR dG cT [(Sl dU dJ dV)] dH dI,Ch.own 0 0 (Sl dU dJ dV) dJ]/\Md (dD []) ar cD,λ⟨b2,a5,c6⟩ cD=>Hp S0 ar cD [Ch.own 0 0 (Sl a5 Hl c6) Hl,Ch.own n0 n0 (Sl (some ⟨b2,0,none⟩) ([(eI.1,eI.2)]:List (Int×Int)) 1) ([(eI.1,eI.2)]:List (Int×Int)),Ch.bx fR dG cT [(Sl dU dJ dV)] dH dI]/\Md (λi=>(dD []) i\/(λb=>blk (Sl dU dJ dV)=some b) i) ar cD] (ctq (rp 3 (λ⟨b2,a5,c6⟩=>(pt dG cT))) [λ⟨b2,a5,c6⟩=>(Sl dU dJ dV),λ⟨b2,a5,c6⟩=>(.iface 35 (.agg #[(I eI.1),(I eI.2)])),λ⟨b2,a5,c6⟩=>(.agg #[(I eI.1),(I eI.2)]),λ⟨b2,a5,c6⟩=>(Sl (some ⟨b2,0,none⟩) ([(eI.1,eI.2)]:List (Int×Int)) 1),λ⟨b2,a5,c6⟩=>(Sl a5 Hl c6)]) (0,none,0) (by kernel_rfl) (by kernel_rfl) (DL H) ?_ ?_
 ·refine gH (λ⟨b2,a5,c6⟩ _ _ o d=>ai (lo o 0)) (gH (λ⟨b2,a5,c6⟩ _ _ o d=>ai (lo o 0)) (gH (λ⟨b2,a5,c6⟩ _ _ o d=>cm (dq d 1 5)) (all_cons ⟨?_, ?_,trivial⟩ ?_)))
  ·rintro ⟨b2,a5,c6⟩ ρ cD hJ bh aP;have e6:=dq aP 2 6;obtain ⟨H,m⟩:=id hJ;have EN:=H.cell (u:=(Sl dU dJ dV)) (o':=cT) 0 0 rfl rfl rfl;exact qk (aq Lz.lH rfl e6 EN) hJ
  ·rintro ⟨b2,a5,c6⟩ ρ cD hJ bh aP;have e6:=dq aP 2 6;obtain ⟨H,m⟩:=id hJ;have EN:=H.cell (u:=(Sl dU dJ dV)) (o':=cT) 1 0 rfl rfl rfl;exact qk (aq Lz.lH rfl e6 EN) hJ
  refine gH (λ⟨b2,a5,c6⟩ _ _ o d=>ai (lo o 1)) (gH (λ⟨b2,a5,c6⟩ _ _ o d=>CG Lz.j8 rfl (dq d 4 8)) (all_cons ⟨?_,trivial⟩ ?_))
  ·rintro ⟨b2,a5,c6⟩ ρ cD hJ bh aP;have e9:look 13 ρ 9=(.agg #[(I eI.1),(I eI.2)]):=dq aP 5 9;obtain ⟨H,m⟩:=id hJ;refine xe wn (aL (el:=n0) (xs:=([(eI.1,eI.2)]:List (Int×Int))) (ps:=[(0,(.agg #[(I eI.1),(I eI.2)]))]) (cs:=[(I eI.1),(I eI.2)]) H aS Lz.lH bO rfl (by show [(0,look 13 ρ 9)]=_;rw [e9]) (by kernel_rfl) (.cons (c:=[(I eI.1),(I eI.2)]) ⟨[(I eI.1)],[(I eI.2)],rfl,rfl,rfl⟩ (.nil)) rfl) ?_;rintro _ xj ⟨b2x,rfl,H2,m2⟩;exact ⟨_,(b2x,a5,c6),rfl,rfl,⟨H2.se [0,1,2],m.jG m2⟩,wB [0,1,2,3,4,5]⟩
  refine all_cons ⟨?_,trivial⟩ ?_
  ·rintro ⟨b2,a5,c6⟩ ρ cD hJ bh aP;have e7:=dq aP 3 7;have UQ:=dq aP 6 10;obtain ⟨H,m⟩:=id hJ;refine xe wn (eR H (i:=2) rfl Lz.lH Lz.lH bO rfl rfl (by decide) ((H.iB 0).rd.sc) LO (qa8 _) e7 UQ) ?_;rintro _ xj ⟨a5x,c6x,rfl,H2,m2⟩;exact ⟨_,(b2,a5x,c6x),rfl,rfl,⟨H2.se [0,1,2],m.comp m2⟩,wB [0,1,2,3,4,5,6]⟩
  exact all_nil
 ·rintro ⟨b2,a5,c6⟩ ρ IU hJ bh fg;obtain ⟨H, -⟩:=hJ;refine DN bh fg [(0,(pt dG cT)),(4,(pt dG cT)),(11,(Sl a5 Hl c6))] [0,7] (sv (pt dG cT) (cm rfl) (fI (bE (k:=0) (cs:=[(Sl dU dJ dV)]) (vs:=[(Sl a5 Hl c6)]) (cs':=[(Sl a5 Hl c6)]) H (i:=2) rfl Br rfl rfl rfl rfl rfl (qa5 rfl) (by simp [plain]) rfl) wn ?_));rintro UH ⟨H, -⟩;refine bo ?_;obtain rfl:=sj h;exact uQ (v:=(.tuple #[])) (dp Tryz.results189 gL rfl) ⟨a5,c6,rfl,rfl⟩ (H.se [0,1])
theorem pQ{dJ dU dV r}(h:M.gU dJ=some r):
  bN Lz.prog 182 [(Sl dU dJ dV)] [Ch.ro 0 (Sl dU dJ dV) dJ] (λn0 v L=>v=(I r)/\L=[]):=by
 refine cO Lz.afV ?_;intro S0 ar n0 aS H;unfold M.gU at h;refine k1 (aN (I 0) (k4 (aw (Sl dU dJ dV) (sv (I (dJ.length:Int)) (bQ Lz.lH rfl) (aN (I (dJ.length:Int)) (k7 ?_))))));obtain rfl:=sj h;exact eo Tryz.results182 ⟨rfl,rfl⟩ (H.se [])
theorem te{cv r}(h:M.cmp_isNaN_int cv=some r):
  bN Lz.prog 119 [(I cv)] [] (λn0 v L=>v=(B r)/\L=[]):=by
 refine cO Lz.afp ?_;intro S0 ar n0 aS H;unfold M.cmp_isNaN_int at h;refine k1 (aN (B false) (k4 (aw (I cv) (aw (I cv) (sv (B (cv != cv)) (JB rfl rfl) (aN (B (cv != cv)) (k7 ?_)))))));obtain rfl:=sj h;exact eo Tryz.results119 ⟨rfl,rfl⟩ (H.se [])
theorem qF{cv QF r}(h:M.iu cv QF=some r):
    bN Lz.prog 78 [(I cv),(I QF)] [] (λn0 v L=>v=(I r)/\L=[]):=by
 refine cO Lz.N78 ?_;intro S0 ar n0 aS H;unfold M.iu at h;refine k1 (aN (I 0) (k4 (aw (I cv) (bD h λr1 ql h=> ?_))));refine cl (te ql) aS (H.se []:Hp S0 ar _ ([]++_)) ?_;rintro _ uT ⟨_,⟨rfl,rfl⟩,H⟩;replace H:Hp _ _ _ []:=H;refine aN (B r1) (k4 (aw (I QF) (bD h λr5 tM h=> ?_)));refine cl (te tM) aS (H.se []:Hp S0 ar _ ([]++_)) ?_;rintro _ UH ⟨_,⟨rfl,rfl⟩,H⟩;replace H:Hp _ _ _ []:=H;refine aN (B r5) (k5 (aw (B r1) (k2 (gr h (λhb9 h=> ?_) (λhb9 h=> ?_)))))
 ·refine dC (k1 (aw (B r5) (k2 (gr h (λfJ h=> ?_) (λfJ h=> ?_)))))
  ·refine k1 (aN (I 0) (k7 (aI (aI ?_))));obtain rfl:=sj h;exact eo Tryz.results78 ⟨rfl,rfl⟩ (H.se [])
  ·refine k6 (rg (aN (I (-1)) (k7 (aI ?_))));obtain rfl:=sj h;exact eo Tryz.results78 ⟨rfl,rfl⟩ (H.se [])
 ·refine k6 (k1 (aw (B r5) (k2 (gr h (λmV h=> ?_) (λmV h=> ?_)))))
  ·refine k1 (aN (I 1) (k7 (aI ?_)));obtain rfl:=sj h;exact eo Tryz.results78 ⟨rfl,rfl⟩ (H.se [])
  ·refine k6 (k1 (aw (I cv) (aw (I QF) (sv (B (decide (cv<QF))) (cB rfl rfl) (k2 (gr h (λpN h=> ?_) (λpN h=> ?_)))))))
   ·refine k1 (aN (I (-1)) (k7 (aI ?_)));obtain rfl:=sj h;exact eo Tryz.results78 ⟨rfl,rfl⟩ (H.se [])
   ·refine k6 (k1 (aw (I cv) (aw (I QF) (sv (B (decide (QF<cv))) (gM rfl rfl) (k2 (gr h (λnB h=> ?_) (λnB h=> ?_)))))))
    ·refine k1 (aN (I 1) (k7 (aI ?_)));obtain rfl:=sj h;exact eo Tryz.results78 ⟨rfl,rfl⟩ (H.se [])
    ·refine k6 (rg (aN (I 0) (k7 ?_)));obtain rfl:=sj h;exact eo Tryz.results78 ⟨rfl,rfl⟩ (H.se [])
theorem Fp{mO xr xu r}(h:M.pH mO=some r):
    bN Lz.prog 132 [(Sl xr mO xu)] [Ch.ro 0 (Sl xr mO xu) mO] (λn0 v L=>v=(I r)/\L=[]):=by
 refine cO Lz.afs ?_;intro S0 ar n0 aS H;unfold M.pH at h;refine k1 (aN (I 0) (k4 (aN (I 0) (k5 (aw (Sl xr mO xu) (sv (I (mO.length:Int)) (bQ Lz.oZ rfl) (aw (I 0) (k2 ?_))))))));obtain ⟨o1,h,h'⟩:=bind_some h;refine bW (λe a w=>(∃t,o1=(.inl t)/\e= .normal/\ ∃ρ σ,a=fr 18 (cu ρ [(3,(I 0))])/\w=σ.w/\Hp S0 ar σ [])\/(∃t,o1=(.inr t)/\e= .ret/\ ∃ρ σ,a=fr 18 (cu ρ [(2,(I t))])/\w=σ.w/\Hp S0 ar σ [])) ?_ ?_
 ·clear h';refine bU (cj _ h (λs2 a w=> ∃ρ σ,a=fr 18 (cu ρ [(3,(I 0)),(6,(Sl xr mO xu)),(7,(I (mO.length:Int))),(8,(I s2))])/\w=σ.w/\Hp S0 ar σ [Ch.ro 0 (Sl xr mO xu) mO]) ⟨_,ar,cq rfl,rfl,H.se [0]⟩ ?_);clear h H;rintro s2 a w o ⟨ρ,jk,rfl,rfl,H⟩ h cC;refine k1 (sv (B (decide (s2<(mO.length:Int)))) (cB rfl rfl) (k3 (gr h (λvg h=> ?_) (λvg h=> ?_))))
  ·refine k6 (bU (k1 (bD h λx5 tM h=> ?_)));obtain ⟨b8,o9,Hu, -⟩:=(H.fB 0).ix tM;refine sv (pt b8 o9) (bX Lz.oZ gw rfl rfl Hu) ?_;have vX:=((H.fB 0).at tM Hu).int;refine sv (I x5) (aq Lz.U3 rfl rfl vX) (aN (I x5) (k4 (aw (I x5) (aw (I 0) (sv (B (x5 != 0)) (JB rfl rfl) (k2 (gr h (λmV h=> ?_) (λmV h=> ?_))))))))
   ·refine k1 (aw (I x5) (aN (I x5) (k7 (dK (aI (aI (dK ?_)))))));obtain rfl:=sj h;obtain rfl:=cC _ rfl;exact .inr (⟨_,rfl,rfl,_,jk,cq rfl,rfl,H.se []⟩)
   ·refine eG (bV (aD (rg (sv (I (an (s2+1))) (cH rfl rfl) (aw (I (an (s2+1))) (k2 ?_))))));obtain rfl:=sj h;exact ⟨_,rfl,_,jk,cq rfl,rfl,H.se [0]⟩
  ·refine dQ (aG (aG (bH ?_)));obtain rfl:=sj h;obtain rfl:=cC _ rfl;exact .inl ⟨_,rfl,rfl,_,jk,cq rfl,rfl,H.se []⟩
 ·replace h:=h';clear h' H;rintro e a w (⟨t12,rfl,rfl,ρ,zR,rfl,rfl,H⟩ | ⟨t14,rfl,rfl,ρ,mQ,rfl,rfl,H⟩)
  ·replace h:=kU h;refine aD (k1 (aw (I 0) (aN (I 0) (k7 ?_))));obtain rfl:=sj h;exact eo Tryz.results132 ⟨rfl,rfl⟩ (H.se [])
  ·replace h:=kV h;refine aI ?_;obtain rfl:=sj h;exact eo Tryz.results132 ⟨rfl,rfl⟩ (H.se [])
theorem lX{dZ er r}(h:M.cZ dZ er=some r):
    bN Lz.prog 104 [(.agg #[(I dZ.1),(I dZ.2)]),(.agg #[(I er.1),(I er.2)])] [] (λn0 v L=>v=(I r)/\L=[]):=by
 refine cO Lz.abG ?_;intro S0 ar n0 aS H;unfold M.cZ at h;refine k1 (bF (fY (cs:=[(I dZ.1),(I dZ.2)]) H aS rfl rfl) wn ?_);rintro _ il ⟨b1,rfl,H, -⟩;refine bF (fY (cs:=[(I er.1),(I er.2)]) H aS rfl rfl) wn ?_;rintro _ uT ⟨b3,rfl,H, -⟩;refine aN (I 0) (k3 ?_);have LS:=H.cell (u:=(I dZ.2)) (o':=1) 1 1 rfl rfl rfl;have Xa:=H.cell (u:=(I er.2)) (o':=1) 0 1 rfl rfl rfl;refine bD h λr7 yg h=> ?_;have yN:=qF yg;have vX:=H.cell (u:=(I dZ.1)) (o':=0) 1 0 rfl rfl rfl;have nE:=H.cell (u:=(I er.1)) (o':=0) 0 0 rfl rfl rfl;refine DG (σ:=uT) (Nm:=Unit) 9 [4] [[false],[true]] (rp 4 [(0,0)]++[[(0,1)]]++rp 4 [(0,0),(1,1)]) 1 (rp 2 (λ_ cD=>Hp S0 ar cD [Ch.bx n0 b3 0 [(I er.1),(I er.2)] [] [],Ch.bx n0 b1 0 [(I dZ.1),(I dZ.2)] [] []]/\Md (dD []) uT cD)) [λ_=>(pt b1 1),λ_=>(I dZ.2),λ_=>(pt b3 1),λ_=>(I er.2),λ_=>(I r7),λ_=>(pt b1 0),λ_=>(I dZ.1),λ_=>(pt b3 0),λ_=>(I er.1)] () (by kernel_rfl) (by kernel_rfl) (DL H) ?_ ?_
 ·refine gH (λ_ _ _ o d=>ak (off:=1) Lz.j8 rfl gw rfl (lo o 2)) (all_cons ⟨?_,trivial⟩ ?_)
  ·intro _nm ρ cD hJ bh aP;have e5:=dq aP 0 5;obtain ⟨H,m⟩:=id hJ;have LS:=H.cell (u:=(I dZ.2)) (o':=1) 1 1 rfl rfl rfl;exact qk (aq Lz.U3 rfl e5 LS) hJ
  refine gH (λ_ _ _ o d=>ak (off:=1) Lz.j8 rfl gw rfl (lo o 3)) (all_cons ⟨?_,trivial⟩ ?_)
  ·intro _nm ρ cD hJ bh aP;have e7:=dq aP 2 7;obtain ⟨H,m⟩:=id hJ;have Xa:=H.cell (u:=(I er.2)) (o':=1) 0 1 rfl rfl rfl;exact qk (aq Lz.U3 rfl e7 Xa) hJ
  refine all_cons ⟨?_,trivial⟩ ?_
  ·intro _nm ρ cD hJ bh aP;have e6:look 17 ρ 6=(I dZ.2):=dq aP 1 6;have e8:look 17 ρ 8=(I er.2):=dq aP 3 8;obtain ⟨H,m⟩:=id hJ;refine mf wn (bu yN (dE yN.fn (by show [look 17 ρ 6,look 17 ρ 8]=_;rw [e6,e8])) aS (H.se [0,1]:Hp S0 ar _ ([]++_))) ?_;rintro _ xj ⟨_,⟨rfl,rfl⟩,H2,m2⟩;exact ⟨_,(),rfl,rfl,⟨H2.se [0,1],m.jG m2⟩,wB [0,1,2,3,5,6,7,8]⟩
  refine gH (λ_ _ _ o d=>ak (off:=0) Lz.j8 rfl gw rfl (lo o 2)) (all_cons ⟨?_, ?_,trivial⟩ ?_)
  ·intro _nm ρ cD hJ bh aP;have UQ:=dq aP 5 10;obtain ⟨H,m⟩:=id hJ;have vX:=H.cell (u:=(I dZ.1)) (o':=0) 1 0 rfl rfl rfl;exact qk (aq Lz.U3 rfl UQ vX) hJ
  ·intro _nm ρ cD hJ bh aP;have UQ:=dq aP 5 10;obtain ⟨H,m⟩:=id hJ;have vX:=H.cell (u:=(I dZ.1)) (o':=0) 1 0 rfl rfl rfl;exact qk (aq Lz.U3 rfl UQ vX) hJ
  refine gH (λ_ _ _ o d=>ak (off:=0) Lz.j8 rfl gw rfl (lo o 3)) (all_cons ⟨?_, ?_,trivial⟩ ?_)
  ·intro _nm ρ cD hJ bh aP;have QS:=dq aP 7 12;obtain ⟨H,m⟩:=id hJ;have nE:=H.cell (u:=(I er.1)) (o':=0) 0 0 rfl rfl rfl;exact qk (aq Lz.U3 rfl QS nE) hJ
  ·intro _nm ρ cD hJ bh aP;have QS:=dq aP 7 12;obtain ⟨H,m⟩:=id hJ;have nE:=H.cell (u:=(I er.1)) (o':=0) 0 0 rfl rfl rfl;exact qk (aq Lz.U3 rfl QS nE) hJ
  exact all_nil
 ·intro _nm ρ uk hJ bh fg;obtain ⟨H, -⟩:=hJ;refine DN bh fg [(9,(I r7)),(11,(I dZ.1)),(13,(I er.1))] [4,6,8] (bD h λOC zZ h=> ?_);refine cl (qF zZ) aS (H.se [0,1]:Hp S0 ar _ ([]++_)) ?_;rintro _ vi ⟨_,⟨rfl,rfl⟩,H⟩;replace H:Hp _ _ _ [_,_]:=H;refine bF (aL (el:=n0) (xs:=([r7,OC]:List Int)) (ps:=[(0,(I r7)),(1,(I OC))]) (cs:=[(I r7),(I OC)]) H aS Lz.oZ gw rfl rfl (by kernel_rfl) (.cons (c:=[(I r7)]) rfl (.cons (c:=[(I OC)]) rfl (.nil))) rfl) wn ?_;rintro _ sx ⟨b17,rfl,H, -⟩;obtain ⟨yL,aco,H, -⟩:=H.ku 0;rw [←aco];clear aco;replace H:=H.iY 0 0 rfl (qa8 _);refine bD h λr21 Fi h=> ?_;refine cl (@Fp _ (some ⟨b17,0,none⟩) 2 _ Fi) aS (H.se [0,0,1,2,3]:Hp S0 ar _ ([_]++_)) ?_;rintro _ Fb ⟨_,⟨rfl,rfl⟩,H⟩;replace H:Hp _ _ _ [_,_,_,_]:=H;refine aN (I r21) (k7 ?_);obtain rfl:=sj h;exact eo Tryz.results104 ⟨rfl,rfl⟩ (H.se [])
theorem ln{dJ E6 IS dU dV r}(h:M.dM dJ E6 IS=some r):
  bN Lz.prog 183 [(Sl dU dJ dV),(I E6),(I IS)] [Ch.ro 0 (Sl dU dJ dV) dJ] (λn0 v L=>v=(B r)/\L=[]):=by
 refine cO Lz.afW ?_;intro S0 ar n0 aS H;unfold M.dM at h;refine k1 (aN (B false) (k3 (LG (σ:=ar) 8 (by kernel_rfl) (by kernel_rfl) (by kernel_rfl) ?_)));refine ei (Sl dU dJ dV) (ai rfl) (ei (I E6) (ai rfl) (bD h λx1 ql h=> ?_));obtain ⟨b4,o5,Oz, -⟩:=(H.fB 0).ix ql;refine ei (pt b4 o5) (bX Lz.lH bO rfl rfl Oz) ?_;obtain ⟨_,⟨_,_,rfl,rfl,rfl⟩,zJ,Tb⟩:=((H.fB 0).at ql Oz).cells;refine ei (.agg #[(I x1.1),(I x1.2)]) (bq Lz.j8 rfl bO rfl zJ Tb) (ei (Sl dU dJ dV) (ai rfl) (ei (I IS) (ai rfl) (bD h λx8 J6 h=> ?_)));obtain ⟨Hy,o12,Fl, -⟩:=(H.fB 0).ix J6;refine ei (pt Hy o12) (bX Lz.lH bO rfl rfl Fl) ?_;obtain ⟨_,⟨_,_,rfl,rfl,rfl⟩,NI,kh⟩:=((H.fB 0).at J6 Fl).cells;refine ei (.agg #[(I x8.1),(I x8.2)]) (bq Lz.j8 rfl bO rfl NI kh) (kt ?_);intro mQ acr;replace H:=H.grow (acr.mono λ_ h=>h);clear acr;refine bD h λkR pM h=> ?_;refine cl (lX pM) aS (H.se [0]:Hp S0 ar _ ([]++_)) ?_;rintro _ Fe ⟨_,⟨rfl,rfl⟩,H⟩;replace H:Hp _ _ _ [_]:=H;refine sv (B (decide (0<kR))) (gM rfl rfl) (aN (B (decide (0<kR))) (k7 ?_));obtain rfl:=sj h;exact eo Tryz.results183 ⟨rfl,rfl⟩ (H.se [])
theorem lq{dJ E6 IS dU dV r}(h:M.fh dJ E6 IS=some r):
    bN Lz.prog 184 [(Sl dU dJ dV),(I E6),(I IS)] [Ch.own 0 0 (Sl dU dJ dV) dJ] (λn0 v L=>v=(.tuple #[])/\L=[Ch.own 0 0 (Sl dU r dV) r]/\r.length=dJ.length):=by
 refine cO Lz.afX ?_;intro S0 ar n0 aS H;unfold M.fh at h;refine bD h λx1 ql h=> ?_;obtain ⟨b4,o5,Oz, -⟩:=(H.iB 0).ix ql;obtain ⟨_,⟨_,_,rfl,rfl,rfl⟩,zJ,Tb⟩:=((H.iB 0).at ql Oz).cells;refine bD h λx8 J6 h=> ?_;obtain ⟨Hy,o12,Fl, -⟩:=(H.iB 0).ix J6;obtain ⟨_,⟨_,_,rfl,rfl,rfl⟩,NI,kh⟩:=((H.iB 0).at J6 Fl).cells;refine bD h λSX HH h=> ?_;obtain ⟨b18,LM,NL, -⟩:=(H.iB 0).ix HH;refine DG (σ:=ar) (Nm:=Unit) 14 [13] [[false],[true]] ([[(0,0)],[(0,0)]]++rp 2 [(0,0),(1,1)]++rp 9 [(0,0)]++[[(0,1)]]) 1 [λ_ cD=>Hp S0 ar cD [Ch.own 0 0 (Sl dU dJ dV) dJ]/\Md (dD []) ar cD,λ_ cD=>Hp S0 ar cD [Ch.own 0 0 (Sl dU dJ dV) (dJ.set E6.toNat (x1.1,x1.2))]/\Md (λi=>(dD []) i\/(λb=>blk (Sl dU dJ dV)=some b) i) ar cD] [λ_=>(Sl dU dJ dV),λ_=>(I E6),λ_=>(Sl dU dJ dV),λ_=>(I IS),λ_=>(Sl dU dJ dV),λ_=>(I IS),λ_=>(pt b4 o5),λ_=>(.agg #[(I x1.1),(I x1.2)]),λ_=>(Sl dU dJ dV),λ_=>(I E6),λ_=>(pt Hy o12),λ_=>(.agg #[(I x8.1),(I x8.2)]),λ_=>(pt b18 LM),λ_=>undef] () (by kernel_rfl) (by kernel_rfl) (DL H) ?_ ?_
 ·refine gH (λ_ _ _ o d=>ai (lo o 0)) (gH (λ_ _ _ o d=>ai (lo o 1)) (gH (λ_ _ _ o d=>ai (lo o 0)) (gH (λ_ _ _ o d=>ai (lo o 2)) (gH (λ_ _ _ o d=>ai (lo o 0)) (gH (λ_ _ _ o d=>ai (lo o 2)) (gH (λ_ _ _ o d=>bX Lz.lH bO (dq d 4 10) (dq d 5 11) Oz) (all_cons ⟨?_,trivial⟩ ?_)))))))
  ·intro _nm ρ cD hJ bh aP;have QS:=dq aP 6 12;obtain ⟨H,m⟩:=id hJ;obtain ⟨_,⟨_,_,rfl,rfl,rfl⟩,zJ,Tb⟩:=((H.iB 0).at ql Oz).cells;exact qk (bq Lz.j8 rfl bO QS zJ Tb) hJ
  refine gH (λ_ _ _ o d=>ai (lo o 0)) (gH (λ_ _ _ o d=>ai (lo o 1)) (gH (λ_ _ _ o d=>bX Lz.lH bO (dq d 8 14) (dq d 9 15) Fl) (all_cons ⟨?_,trivial⟩ ?_)))
  ·intro _nm ρ cD hJ bh aP;have e16:=dq aP 10 16;obtain ⟨H,m⟩:=id hJ;obtain ⟨_,⟨_,_,rfl,rfl,rfl⟩,NI,kh⟩:=((H.iB 0).at J6 Fl).cells;exact qk (bq Lz.j8 rfl bO e16 NI kh) hJ
  refine gH (λ_ _ _ o d=>bX Lz.lH bO (dq d 0 6) (dq d 1 7) NL) (all_cons ⟨?_,trivial⟩ ?_)
  ·intro _nm ρ cD hJ bh aP;have Fo:=dq aP 12 18;have Nv:=dq aP 7 13;obtain ⟨H,m⟩:=id hJ;refine Yy wn rfl (jv (e':=(x1.1,x1.2)) (vs:=[(I x1.1),(I x1.2)]) (k:=0) H (i:=0) rfl bO HH NL Fo rfl Nv rfl rfl (qa5 rfl) (by simp [plain]) (by rintro _ ⟨_,_,rfl,rfl,rfl⟩;exact ⟨[(I x1.1)],[(I x1.2)],rfl,rfl,rfl⟩)) ?_;rintro xj ⟨H2,m2⟩;exact ⟨_,(),rfl,⟨H2.se [0],m.comp m2⟩,wB [0,1,2,3,4,5,6,7,8,9,10,11,12]⟩
  exact all_nil
 ·intro _nm ρ Fe hJ bh fg;obtain ⟨H, -⟩:=hJ;refine DN bh fg [(0,(Sl dU dJ dV)),(8,(Sl dU dJ dV)),(9,(I IS)),(17,(.agg #[(I x8.1),(I x8.2)]))] [2,3,11] ?_;have oL:(Sl dU dJ dV)=(Sl dU (dJ.set E6.toNat (x1.1,x1.2)) dV):=oi (by simp);rw [oL];rw [oL] at H;clear oL;refine bD h λLK Fi h=> ?_;obtain ⟨b24,o25,Q9, -⟩:=(H.iB 0).ix Fi;refine sv (pt b24 o25) (bX Lz.lH bO rfl rfl Q9) (fI (jv (e':=(x8.1,x8.2)) (vs:=[(I x8.1),(I x8.2)]) (k:=0) H (i:=0) rfl bO Fi Q9 rfl rfl rfl rfl rfl (qa5 rfl) (by simp [plain]) (by rintro _ ⟨_,_,rfl,rfl,rfl⟩;exact ⟨[(I x8.1)],[(I x8.2)],rfl,rfl,rfl⟩)) wn ?_);rintro ab6 ⟨H, -⟩;have oL:(Sl dU (dJ.set E6.toNat (x1.1,x1.2)) dV)=(Sl dU ((dJ.set E6.toNat (x1.1,x1.2)).set IS.toNat (x8.1,x8.2)) dV):=oi qaz.symm;rw [oL];rw [oL] at H;clear oL;refine bo ?_;obtain rfl:=sj h;exact uQ (v:=(.tuple #[])) (dp Tryz.results184 gL rfl) ⟨rfl,rfl,(qaz.trans qaz)⟩ (H.se [0])
theorem mq{dJ j_1 dU dV fR dG cT dH dI r}(h:M.bp dJ j_1=some r):
    bN Lz.prog 155 [(.iface 152 (pt dG cT)),(I j_1)] [Ch.bx fR dG cT [(Sl dU dJ dV)] dH dI,Ch.own 0 0 (Sl dU dJ dV) dJ] (λn0 v L=> ∃dv dh,v=(.tuple #[])/\L=[Ch.bx fR dG cT [(Sl dv r dh)] dH dI,Ch.own 0 0 (Sl dv r dh) r]):=by
 refine cO Lz.afM ?_;intro S0 ar n0 aS H;unfold M.bp at h;obtain ⟨o1,h,h'⟩:=bind_some h;refine bW (λe a w=>e= .normal/\ ∃ρ σ et ew,a=fr 23 (cu ρ [(0,(.iface 152 (pt dG cT)))])/\w=σ.w/\Hp S0 ar σ [Ch.bx fR dG cT [(Sl et o1 ew)] dH dI,Ch.own 0 0 (Sl et o1 ew) o1]) ?_ ?_
 ·clear h';refine bU (cj _ h (λs2 a w=> ∃ρ σ et ew,a=fr 23 (cu ρ [(0,(.iface 152 (pt dG cT))),(1,(I s2.2))])/\w=σ.w/\Hp S0 ar σ [Ch.bx fR dG cT [(Sl et s2.1 ew)] dH dI,Ch.own 0 0 (Sl et s2.1 ew) s2.1]) ⟨_,ar,dU,dV,cq rfl,rfl,H.se [0,1]⟩ ?_);clear h H;rintro s2 a w o ⟨ρ,jk,a4,c5,rfl,rfl,H⟩ h cC;refine bU (k1 (aw (I s2.2) (sv (I (an (s2.2 - 1))) (iN rfl rfl) (sv (I (an ((an (s2.2 - 1)).tdiv 2))) (Ba rfl rfl (by decide)) (aN (I (an ((an (s2.2 - 1)).tdiv 2))) (k3 (dC ?_)))))));obtain ⟨o6,h,h'⟩:=bind_some h;refine bW (Jn S0 ar 23 [(0,(.iface 152 (pt dG cT))),(1,(I s2.2)),(4,(I (an ((an (s2.2 - 1)).tdiv 2)))),(17,(B o6))] [Ch.own 0 0 (Sl a4 s2.1 c5) s2.1,Ch.bx fR dG cT [(Sl a4 s2.1 c5)] dH dI]) ?_ ?_
  ·clear h';refine rg (aw (I (an ((an (s2.2 - 1)).tdiv 2))) (aw (I s2.2) (sv (B ((an ((an (s2.2 - 1)).tdiv 2))==s2.2)) (gh rfl rfl) (aw (B ((an ((an (s2.2 - 1)).tdiv 2))==s2.2)) ?_))));rcases oD h with ⟨pK,h⟩ | ⟨pK,h⟩
   ·refine aj (congrArg some pK) (aj (congrArg some pK) (aj (congrArg some pK) (aj (congrArg some pK) (aj (congrArg some pK) (sv (B true) (aM (congrArg B pK) rfl) (bo ?_))))));obtain rfl:=sj h;exact ⟨rfl,_,jk,cq rfl,rfl,H.se [1,0]⟩
   ·refine bT (v:=(.iface 152 (pt dG cT))) (congrArg some pK) (ai rfl) (bT (v:=(I s2.2)) (congrArg some pK) (ai rfl) (bT (v:=(I (an ((an (s2.2 - 1)).tdiv 2)))) (congrArg some pK) (ai rfl) (bD h λr8 J6 h=> ?_)));have vX:= @ln _ _ _ a4 c5 _ J6;have hle:=qaa aS H.size;refine bZ (qu (gD.sb gD.nil) vX (ui vX.fn (by kernel_rfl) Lz.zQ Lz.lH rfl rfl (H.cell (u:=(Sl a4 s2.1 c5)) (o':=cT) 0 0 rfl rfl rfl) rfl) (show Hp S0 ar _ ([Ch.own 0 0 (Sl a4 s2.1 c5) s2.1]++([]++[Ch.bx fR dG cT [(Sl a4 s2.1 c5)] dH dI])) from (H.se [1,0])) (by rintro _ _ _ ⟨rfl,rfl⟩;exact trivial)) (aU rfl (by exact (congrArg some pK))) ?_;rintro _ vm ⟨_,⟨rfl,rfl⟩,H, -, -⟩;replace H:Hp _ _ _ [_,_]:=H;clear hle;replace H:Hp _ _ _ [_,_]:=H;refine bT (v:=(B (!r8))) (congrArg some pK) (cY rfl) (sv (B (!r8)) (aA (congrArg B pK) rfl) (bo ?_));obtain rfl:=sj h;exact ⟨rfl,_,vm,cq rfl,rfl,H.se [0,1]⟩
  ·replace h:=h';clear h' H;rintro e a w ⟨rfl,ρ,uk,rfl,rfl,H⟩;refine aD (gr h (λnB h=> ?_) (λnB h=> ?_))
   ·refine dQ (aG (EP (by decide) ?_));refine aG (bH ?_);obtain rfl:=sj h;obtain rfl:=cC _ rfl;exact ⟨rfl,_,uk,a4,c5,cq rfl,rfl,H.se [1,0]⟩
   ·refine k6 (rg (aw (.iface 152 (pt dG cT)) (aw (I (an ((an (s2.2 - 1)).tdiv 2))) (aw (I s2.2) (bD h λvz yP h=> ?_)))));have zV:= @lq _ _ _ a4 c5 _ yP;refine bZ (bu zV (ui zV.fn (by kernel_rfl) Lz.zQ Lz.lH rfl rfl (H.cell (u:=(Sl a4 s2.1 c5)) (o':=cT) 1 0 rfl rfl rfl) rfl) aS (H.se [0,1]:Hp S0 ar _ ([_]++_))) wn ?_;rintro _ sx ⟨_,⟨rfl,rfl,ag8⟩,H, -⟩;replace H:Hp _ _ _ [_,_]:=H;have oL:(Sl a4 s2.1 c5)=(Sl a4 vz c5):=oi ag8.symm
    try rw [oL]
    try rw [oL] at H
    clear oL;refine k2 (rg (aw (I (an ((an (s2.2 - 1)).tdiv 2))) (aN (I (an ((an (s2.2 - 1)).tdiv 2))) (bo (bV (aD ?_))))));obtain rfl:=sj h;exact ⟨_,rfl,_,sx,a4,c5,cq rfl,rfl,H.se [1,0]⟩
 ·replace h:=h';clear h' H;rintro e a w ⟨rfl,ρ,yL,a20,o0,rfl,rfl,H⟩;obtain rfl:=sj h;exact uQ (v:=(.tuple #[])) (dp Tryz.results155 gL rfl) ⟨a20,o0,rfl,rfl⟩ (H.se [0,1])
theorem iS{dJ eI dU dV fR dG cT dH dI r}(h:M.bK dJ eI=some r):
  bN Lz.prog 138 [(.iface 152 (pt dG cT)),(.iface 35 (.agg #[(I eI.1),(I eI.2)]))] [Ch.bx fR dG cT [(Sl dU dJ dV)] dH dI,Ch.own 0 0 (Sl dU dJ dV) dJ] (λn0 v L=> ∃dv dh,v=(.tuple #[])/\L=[Ch.bx fR dG cT [(Sl dv r dh)] dH dI,Ch.own 0 0 (Sl dv r dh) r]):=by
 refine cO Lz.afy ?_;intro S0 ar n0 aS H;unfold M.bK at h;refine k1 (aw (.iface 152 (pt dG cT)) (aw (.iface 35 (.agg #[(I eI.1),(I eI.2)])) (bD h λr1 ql h=> ?_)));have OI:= @nV _ _ dU dV fR dG cT dH dI _ ql;refine bZ (bu OI (Ql OI.fn (by kernel_rfl) Lz.zQ rfl rfl) aS (H.se [0,1]:Hp S0 ar _ ([_,_]++_))) wn ?_;rintro _ Bs ⟨_,⟨a4,c5,rfl,rfl⟩,H, -⟩;replace H:Hp _ _ _ [_,_]:=H;refine k2 (rg (aw (.iface 152 (pt dG cT)) (aw (.iface 152 (pt dG cT)) (bD h λr7 yg h=> ?_))));have yN:= @pQ _ a4 c5 _ yg;have hle:=qaa aS H.size;refine bZ (qu (gD.sb gD.nil) yN (ui yN.fn (by kernel_rfl) Lz.zQ Lz.lH rfl rfl (H.cell (u:=(Sl a4 r1 c5)) (o':=cT) 0 0 rfl rfl rfl) rfl) (show Hp S0 ar _ ([Ch.own 0 0 (Sl a4 r1 c5) r1]++([]++[Ch.bx fR dG cT [(Sl a4 r1 c5)] dH dI])) from (H.se [1,0])) (by rintro _ _ _ ⟨rfl,rfl⟩;exact trivial)) wn ?_;rintro _ vZ ⟨_,⟨rfl,rfl⟩,H, -, -⟩;replace H:Hp _ _ _ [_,_]:=H;clear hle;replace H:Hp _ _ _ [_,_]:=H;refine sv (I (an (r7 - 1))) (iN rfl rfl) (bD h λrj yJ h=> ?_);refine cl (@mq _ _ a4 c5 fR dG cT dH dI _ yJ) aS (H.se [1,0]:Hp S0 ar _ ([_,_]++_)) ?_;rintro _ vi ⟨_,⟨Y4,c15,rfl,rfl⟩,H⟩;replace H:Hp _ _ _ [_,_]:=H;refine bo ?_;obtain rfl:=sj h;exact uQ (v:=(.tuple #[])) (dp Tryz.results138 gL rfl) ⟨Y4,c15,rfl,rfl⟩ (H.se [0,1])
theorem lK{dJ vV pD dU dV fR dG cT dH dI r}(h:M.cI dJ vV pD=some r):
    bN Lz.prog 156 [(.iface 152 (pt dG cT)),(I vV),(I pD)] [Ch.bx fR dG cT [(Sl dU dJ dV)] dH dI,Ch.own 0 0 (Sl dU dJ dV) dJ] (λn0 v L=> ∃dv dh,v=(B r.1)/\L=[Ch.bx fR dG cT [(Sl dv r.2 dh)] dH dI,Ch.own 0 0 (Sl dv r.2 dh) r.2]):=by
 refine cO Lz.afN ?_;intro S0 ar n0 aS H;unfold M.cI at h;refine k1 (aN (B false) (k4 (aw (I vV) (aN (I vV) (k3 ?_)))));obtain ⟨o1,h,h'⟩:=bind_some h;refine bW (λe a w=>e= .normal/\ ∃ρ σ et ew,a=fr 48 (cu ρ [(0,(.iface 152 (pt dG cT))),(1,(I vV)),(7,(I o1.2))])/\w=σ.w/\Hp S0 ar σ [Ch.bx fR dG cT [(Sl et o1.1 ew)] dH dI,Ch.own 0 0 (Sl et o1.1 ew) o1.1]) ?_ ?_
 ·clear h';refine bU (cj _ h (λs2 a w=> ∃ρ σ et ew,a=fr 48 (cu ρ [(0,(.iface 152 (pt dG cT))),(1,(I vV)),(2,(I pD)),(7,(I s2.2))])/\w=σ.w/\Hp S0 ar σ [Ch.bx fR dG cT [(Sl et s2.1 ew)] dH dI,Ch.own 0 0 (Sl et s2.1 ew) s2.1]) ⟨_,ar,dU,dV,cq rfl,rfl,H.se [0,1]⟩ ?_);clear h H;rintro s2 a w o ⟨ρ,jk,a4,c5,rfl,rfl,H⟩ h cC;refine bU (k1 (aw (I s2.2) (sv (I (an (2*s2.2))) (oh rfl rfl) (sv (I (an ((an (2*s2.2))+1))) (cH rfl rfl) (aN (I (an ((an (2*s2.2))+1))) (k3 (dC ?_)))))));obtain ⟨o6,h,h'⟩:=bind_some h;refine bW (Jn S0 ar 48 [(0,(.iface 152 (pt dG cT))),(1,(I vV)),(2,(I pD)),(7,(I s2.2)),(8,(I (an ((an (2*s2.2))+1)))),(21,(B o6))] [Ch.own 0 0 (Sl a4 s2.1 c5) s2.1,Ch.bx fR dG cT [(Sl a4 s2.1 c5)] dH dI]) ?_ ?_
  ·clear h';refine rg (aw (I (an ((an (2*s2.2))+1))) (aw (I pD) (sv (B (decide (pD<=(an ((an (2*s2.2))+1))))) (sf rfl rfl) (aw (B (decide (pD<=(an ((an (2*s2.2))+1))))) ?_))));rcases oD h with ⟨pK,h⟩ | ⟨pK,h⟩
   ·refine aj (congrArg some pK) (aj (congrArg some pK) (sv (B true) (aM (congrArg B pK) rfl) (bo ?_)));obtain rfl:=sj h;exact ⟨rfl,_,jk,cq rfl,rfl,H.se [1,0]⟩
   ·refine bT (v:=(I (an ((an (2*s2.2))+1)))) (congrArg some pK) (ai rfl) (bT (v:=(B (decide ((an ((an (2*s2.2))+1))<0)))) (congrArg some pK) (cB rfl rfl) (sv (B (decide ((an ((an (2*s2.2))+1))<0))) (aA (congrArg B pK) rfl) (bo ?_)));obtain rfl:=sj h;exact ⟨rfl,_,jk,cq rfl,rfl,H.se [1,0]⟩
  ·replace h:=h';clear h' H;rintro e a w ⟨rfl,ρ,UH,rfl,rfl,H⟩;refine aD (gr h (λhb9 h=> ?_) (λhb9 h=> ?_))
   ·refine dQ (aG (EP (by decide) ?_));refine aG (bH ?_);obtain rfl:=sj h;obtain rfl:=cC _ rfl;exact ⟨rfl,_,UH,a4,c5,cq rfl,rfl,H.se [1,0]⟩
   ·refine k6 (rg (aw (I (an ((an (2*s2.2))+1))) (aN (I (an ((an (2*s2.2))+1))) (k5 (aw (I (an ((an (2*s2.2))+1))) (sv (I (an ((an ((an (2*s2.2))+1))+1))) (cH rfl rfl) (aN (I (an ((an ((an (2*s2.2))+1))+1))) (k3 ?_))))))));obtain ⟨vA,h,h'⟩:=bind_some h;refine bW (Jn S0 ar 48 [(0,(.iface 152 (pt dG cT))),(1,(I vV)),(2,(I pD)),(7,(I s2.2)),(9,(I (an ((an (2*s2.2))+1)))),(10,(I (an ((an ((an (2*s2.2))+1))+1)))),(33,(B vA))] [Ch.own 0 0 (Sl a4 s2.1 c5) s2.1,Ch.bx fR dG cT [(Sl a4 s2.1 c5)] dH dI]) ?_ ?_
    ·clear h';refine rg (aw (I (an ((an ((an (2*s2.2))+1))+1))) (aw (I pD) (sv (B (decide ((an ((an ((an (2*s2.2))+1))+1))<pD))) (cB rfl rfl) (aw (B (decide ((an ((an ((an (2*s2.2))+1))+1))<pD))) ?_))));rcases oD h with ⟨mV,h⟩ | ⟨mV,h⟩
     ·refine bT (v:=(.iface 152 (pt dG cT))) (congrArg some mV) (ai rfl) (bT (v:=(I (an ((an ((an (2*s2.2))+1))+1)))) (congrArg some mV) (ai rfl) (bT (v:=(I (an ((an (2*s2.2))+1)))) (congrArg some mV) (ai rfl) (bD h λqB tu h=> ?_)));have kh:= @ln _ _ _ a4 c5 _ tu;have hle:=qaa aS H.size;refine bZ (qu (gD.sb gD.nil) kh (ui kh.fn (by kernel_rfl) Lz.zQ Lz.lH rfl rfl (H.cell (u:=(Sl a4 s2.1 c5)) (o':=cT) 1 0 rfl rfl rfl) rfl) (show Hp S0 ar _ ([Ch.own 0 0 (Sl a4 s2.1 c5) s2.1]++([]++[Ch.bx fR dG cT [(Sl a4 s2.1 c5)] dH dI])) from (H.se [0,1])) (by rintro _ _ _ ⟨rfl,rfl⟩;exact trivial)) (aU rfl (by exact (congrArg some mV))) ?_;rintro _ mQ ⟨_,⟨rfl,rfl⟩,H, -, -⟩;replace H:Hp _ _ _ [_,_]:=H;clear hle;replace H:Hp _ _ _ [_,_]:=H;refine sv (B qB) (aM (congrArg B mV) rfl) (bo ?_);obtain rfl:=sj h;exact ⟨rfl,_,mQ,cq rfl,rfl,H.se [0,1]⟩
     ·refine aj (congrArg some mV) (aj (congrArg some mV) (aj (congrArg some mV) (aj (congrArg some mV) (sv (B false) (aA (congrArg B mV) rfl) (bo ?_)))));obtain rfl:=sj h;exact ⟨rfl,_,UH,cq rfl,rfl,H.se [0,1]⟩
    ·replace h:=h';clear h' H;rintro e a w ⟨rfl,ρ,vi,rfl,rfl,H⟩;refine aD ?_;obtain ⟨Hj,h,h'⟩:=bind_some h;refine bW (Jn S0 ar 48 [(0,(.iface 152 (pt dG cT))),(1,(I vV)),(2,(I pD)),(7,(I s2.2)),(9,(I Hj))] [Ch.own 0 0 (Sl a4 s2.1 c5) s2.1,Ch.bx fR dG cT [(Sl a4 s2.1 c5)] dH dI]) ?_ ?_
     ·clear h';refine gr h (λag9 h=> ?_) (λag9 h=> ?_)
      ·refine rg (aw (I (an ((an ((an (2*s2.2))+1))+1))) (aN (I (an ((an ((an (2*s2.2))+1))+1))) (bo ?_)));obtain rfl:=sj h;exact ⟨rfl,_,vi,cq rfl,rfl,H.se [0,1]⟩
      ·refine eG ?_;obtain rfl:=sj h;exact ⟨rfl,_,vi,cq rfl,rfl,H.se [0,1]⟩
     ·replace h:=h';clear h' H;rintro e a w ⟨rfl,ρ,yL,rfl,rfl,H⟩;refine aD (dC (k1 (aw (.iface 152 (pt dG cT)) (aw (I Hj) (aw (I s2.2) (bD h λxi NK h=> ?_))))));have xv:= @ln _ _ _ a4 c5 _ NK;have hle:=qaa aS H.size;refine bZ (qu (gD.sb gD.nil) xv (ui xv.fn (by kernel_rfl) Lz.zQ Lz.lH rfl rfl (H.cell (u:=(Sl a4 s2.1 c5)) (o':=cT) 1 0 rfl rfl rfl) rfl) (show Hp S0 ar _ ([Ch.own 0 0 (Sl a4 s2.1 c5) s2.1]++([]++[Ch.bx fR dG cT [(Sl a4 s2.1 c5)] dH dI])) from (H.se [0,1])) (by rintro _ _ _ ⟨rfl,rfl⟩;exact trivial)) wn ?_;rintro _ yK ⟨_,⟨rfl,rfl⟩,H, -, -⟩;replace H:Hp _ _ _ [_,_]:=H;clear hle;replace H:Hp _ _ _ [_,_]:=H;refine sv (B (!xi)) (cY rfl) (k2 (gr h (λRa h=> ?_) (λRa h=> ?_)))
      ·refine dQ (aG (EP (by decide) ?_));refine aG (bH ?_);obtain rfl:=sj h;obtain rfl:=cC _ rfl;exact ⟨rfl,_,yK,a4,c5,cq rfl,rfl,H.se [1,0]⟩
      ·refine k6 (rg (aw (.iface 152 (pt dG cT)) (aw (I s2.2) (aw (I Hj) (bD h λzt Fs h=> ?_)))));have vk:= @lq _ _ _ a4 c5 _ Fs;refine bZ (bu vk (ui vk.fn (by kernel_rfl) Lz.zQ Lz.lH rfl rfl (H.cell (u:=(Sl a4 s2.1 c5)) (o':=cT) 1 0 rfl rfl rfl) rfl) aS (H.se [0,1]:Hp S0 ar _ ([_]++_))) wn ?_;rintro _ UK ⟨_,⟨rfl,rfl,aha⟩,H, -⟩;replace H:Hp _ _ _ [_,_]:=H;have oL:(Sl a4 s2.1 c5)=(Sl a4 zt c5):=oi aha.symm
       try rw [oL]
       try rw [oL] at H
       clear oL;refine k2 (rg (aw (I Hj) (aN (I Hj) (bo (bV (aD ?_))))));obtain rfl:=sj h;exact ⟨_,rfl,_,UK,a4,c5,cq rfl,rfl,H.se [1,0]⟩
 ·replace h:=h';clear h' H;rintro e a w ⟨rfl,ρ,UL,a31,LR,rfl,rfl,H⟩;refine aD (k1 (aw (I o1.2) (aw (I vV) (sv (B (decide (vV<o1.2))) (gM rfl rfl) (aN (B (decide (vV<o1.2))) (k7 ?_))))));obtain rfl:=sj h;exact eo Tryz.results156 ⟨a31,LR,rfl,rfl⟩ (H.se [0,1])
theorem wh{dJ dU dV fR dG cT dH dI r}(h:M.kX dJ=some r):
  bN Lz.prog 188 [(pt dG cT)] [Ch.bx fR dG cT [(Sl dU dJ dV)] dH dI,Ch.own 0 0 (Sl dU dJ dV) dJ] (λn0 v L=> ∃dv dh,v=(.iface 35 (.agg #[(I r.1.1),(I r.1.2)]))/\L=[Ch.bx fR dG cT [(Sl dv r.2 dh)] dH dI,Ch.own 0 0 (Sl dv r.2 dh) r.2]):=by
 refine cO Lz.afY ?_;intro S0 ar n0 aS H;unfold M.kX at h;refine k1 (aN (.nilIface) (k4 (aw (pt dG cT) (sv (pt dG cT) (cm rfl) (sv (Sl dU dJ dV) (aq Lz.lH rfl rfl (H.eH 0 0)) (sv (I (dJ.length:Int)) (bQ Lz.lH rfl) (sv (I (an ((dJ.length:Int) - 1))) (iN rfl rfl) (aN (I (an ((dJ.length:Int) - 1))) (k4 (aw (pt dG cT) (sv (pt dG cT) (cm rfl) (sv (Sl dU dJ dV) (aq Lz.lH rfl rfl (H.eH 0 0)) (aw (I (an ((dJ.length:Int) - 1))) (bD h λx3 LO h=> ?_))))))))))))));obtain ⟨b6,o7,hi5, -⟩:=(H.iB 1).ix LO;refine sv (pt b6 o7) (bX Lz.lH bO rfl rfl hi5) ?_;obtain ⟨_,⟨_,_,rfl,rfl,rfl⟩,hl8,yN⟩:=((H.iB 1).at LO hi5).cells;refine sv (.agg #[(I x3.1),(I x3.2)]) (bq Lz.j8 rfl bO rfl hl8 yN) (bF (fN (cs:=[(I 0),(I 0)]) H aS bO rfl) wn ?_);rintro _ vm ⟨b10,rfl,H, -⟩;refine fI (bE (k:=0) (cs:=[(I 0),(I 0)]) (vs:=[(I x3.1),(I x3.2)]) (cs':=[(I x3.1),(I x3.2)]) H (i:=0) rfl bO rfl rfl rfl rfl rfl (qa5 rfl) (by simp [plain]) rfl) wn ?_;rintro uk ⟨H, -⟩;refine k4 (aw (pt dG cT) (aw (pt dG cT) (sv (pt dG cT) (cm rfl) (sv (Sl dU dJ dV) (aq Lz.lH rfl rfl (H.eH 1 0)) (aw (I (an ((dJ.length:Int) - 1))) (bD h λJ1 yP h=> ?_))))));obtain ⟨UI,UJ,acs, -⟩:=(H.iB 2).slice yP;refine sv (Sl UI J1 UJ) (lT Lz.lH bO acs rfl rfl) (sv (pt dG cT) (cm rfl) ?_);have Zs:=(H.iB 2).view yP acs;replace H:=(H.front (i:=2) rfl).nb (d:=Ch.own 0 0 (Sl UI J1 UJ) J1) (λ_=>Zs.1) Zs.2;clear Zs;refine fI (bE (k:=0) (cs:=[(Sl dU dJ dV)]) (vs:=[(Sl UI J1 UJ)]) (cs':=[(Sl UI J1 UJ)]) H (i:=2) rfl Br rfl rfl rfl rfl rfl (qa5 rfl) (by simp [plain]) rfl) wn ?_;rintro J5 ⟨H, -⟩;refine k4 ?_;have xv:=H.dS 2
 refine sv (.agg #[(I x3.1),(I x3.2)]) (bq (cs:=[(I x3.1),(I x3.2)]) Lz.j8 rfl bO rfl rfl xv) (sv (.iface 35 (.agg #[(I x3.1),(I x3.2)])) (gS Lz.j8 rfl rfl) (aN (.iface 35 (.agg #[(I x3.1),(I x3.2)])) (k7 ?_)));obtain rfl:=sj h;exact eo Tryz.results188 ⟨UI,UJ,rfl,rfl⟩ (H.se [0,1])
theorem lY{dJ dU dV fR dG cT dH dI r}(h:M.cQ dJ=some r):
  bN Lz.prog 139 [(.iface 152 (pt dG cT))] [Ch.bx fR dG cT [(Sl dU dJ dV)] dH dI,Ch.own 0 0 (Sl dU dJ dV) dJ] (λn0 v L=> ∃dv dh,v=(.iface 35 (.agg #[(I r.1.1),(I r.1.2)]))/\L=[Ch.bx fR dG cT [(Sl dv r.2 dh)] dH dI,Ch.own 0 0 (Sl dv r.2 dh) r.2]):=by
 refine cO Lz.afz ?_;intro S0 ar n0 aS H;unfold M.cQ at h;refine k1 (aN (.nilIface) (k4 (aw (.iface 152 (pt dG cT)) (bD h λr1 ql h=> ?_))));have OI:= @pQ _ dU dV _ ql;have hle:=qaa aS H.size;refine bZ (qu (gD.sb gD.nil) OI (ui OI.fn (by kernel_rfl) Lz.zQ Lz.lH rfl rfl (H.cell (u:=(Sl dU dJ dV)) (o':=cT) 0 0 rfl rfl rfl) rfl) (show Hp S0 ar _ ([Ch.own 0 0 (Sl dU dJ dV) dJ]++([]++[Ch.bx fR dG cT [(Sl dU dJ dV)] dH dI])) from (H.se [1,0])) (by rintro _ _ _ ⟨rfl,rfl⟩;exact trivial)) wn ?_;rintro _ uT ⟨_,⟨rfl,rfl⟩,H, -, -⟩;replace H:Hp _ _ _ [_,_]:=H;clear hle;replace H:Hp _ _ _ [_,_]:=H;refine sv (I (an (r1 - 1))) (iN rfl rfl) (aN (I (an (r1 - 1))) (k4 (aw (.iface 152 (pt dG cT)) (aw (I (an (r1 - 1))) (bD h λr5 tM h=> ?_)))));have Tb:= @lq _ _ _ dU dV _ tM;refine bZ (bu Tb (ui Tb.fn (by kernel_rfl) Lz.zQ Lz.lH rfl rfl (H.cell (u:=(Sl dU dJ dV)) (o':=cT) 1 0 rfl rfl rfl) rfl) aS (H.se [0,1]:Hp S0 ar _ ([_]++_))) wn ?_;rintro _ SY ⟨_,⟨rfl,rfl,hn8⟩,H, -⟩;replace H:Hp _ _ _ [_,_]:=H;have oL:(Sl dU dJ dV)=(Sl dU r5 dV):=oi hn8.symm
 try rw [oL]
 try rw [oL] at H
 clear oL;refine k4 (aw (.iface 152 (pt dG cT)) (aw (I (an (r1 - 1))) (bD h λvf sD h=> ?_)));refine cl (@lK _ _ _ dU dV fR dG cT dH dI _ sD) aS (H.se [1,0]:Hp S0 ar _ ([_,_]++_)) ?_;rintro _ mQ ⟨_,⟨mg,mA,rfl,rfl⟩,H⟩;replace H:Hp _ _ _ [_,_]:=H;refine k4 (aw (.iface 152 (pt dG cT)) (bD h λqn yM h=> ?_));have tx:= @wh _ mg mA fR dG cT dH dI _ yM;refine bZ (bu tx (Ql tx.fn (by kernel_rfl) Lz.zQ rfl rfl) aS (H.se [0,1]:Hp S0 ar _ ([_,_]++_))) wn ?_;rintro _ J5 ⟨_,⟨Nr,Ns,rfl,rfl⟩,H, -⟩;replace H:Hp _ _ _ [_,_]:=H;refine aN (.iface 35 (.agg #[(I qn.1.1),(I qn.1.2)])) (k7 ?_);obtain rfl:=sj h;exact eo Tryz.results139 ⟨Nr,Ns,rfl,rfl⟩ (H.se [0,1])
theorem qQ{mw gN pS pT xw nf lL pU pV r}(h:M.du mw gN=some r):
   bN Lz.prog 113 [(pt nf lL),(.agg #[(I gN.1),(I gN.2)])] [Ch.bx xw nf lL [(I mw.1),(Sl pS mw.2 pT)] pU pV,Ch.own 0 0 (Sl pS mw.2 pT) mw.2] (λn0 v L=> ∃dv dh,v=(.tuple #[])/\L=[Ch.bx xw nf lL [(I r.1),(Sl dv r.2 dh)] pU pV,Ch.own 0 0 (Sl dv r.2 dh) r.2]):=by
 refine cO Lz.afj ?_;intro S0 ar n0 aS H;unfold M.du at h;refine k1 (bF (fY (cs:=[(I gN.1),(I gN.2)]) H aS rfl rfl) wn ?_);rintro _ il ⟨b1,rfl,H, -⟩;refine k3 (LG (σ:=il) 6 (by kernel_rfl) (by kernel_rfl) (by kernel_rfl) ?_);refine ei (pt nf lL) (ai rfl) (ei (pt nf lL) (cm rfl) (ei (pt nf (lL+1)) (ak (off:=1) Lz.Hn rfl Br rfl rfl) (ei (.iface 152 (pt nf (lL+1))) (gS Lz.zQ rfl rfl) ?_)));have OI:=H.dS 0;refine ei (.agg #[(I gN.1),(I gN.2)]) (bq (cs:=[(I gN.1),(I gN.2)]) Lz.j8 rfl bO rfl rfl OI) (ei (.iface 35 (.agg #[(I gN.1),(I gN.2)])) (gS Lz.j8 rfl rfl) (kt ?_));intro uT hm5;replace H:=H.grow (hm5.mono λ_ h=>h);clear hm5;replace H:=Hp.focus (c1:=[(I mw.1)]) (c2:=[(Sl pS mw.2 pT)]) (c3:=[]) (o':=(lL+1)) H 1 rfl rfl;refine bD h λr6 tN h=> ?_;refine cl (@iS _ _ pS pT xw nf (lL+1) (pU++[(I mw.1)]) ([]++pV) _ tN) aS (H.se [0,2,1]:Hp S0 ar _ ([_,_]++_)) ?_;rintro _ vm ⟨_,⟨a9,Tc,rfl,rfl⟩,H⟩;replace H:Hp _ _ _ [_,_,_]:=H;replace H:Hp S0 ar vm [Ch.bx xw nf lL [(I mw.1),(Sl a9 r6 Tc)] pU pV,Ch.own 0 0 (Sl a9 r6 Tc) r6,Ch.bx n0 b1 0 [(I gN.1),(I gN.2)] [] []]:=Hp.Ls (o:=lL) (c1:=[(I mw.1)]) (c2:=[(Sl a9 r6 Tc)]) (c3:=[]) (pre:=pU) (ug:=pV) H 0 rfl rfl;refine k3 (LG (σ:=vm) 9 (by kernel_rfl) (by kernel_rfl) (by kernel_rfl) ?_);refine ei (pt nf lL) (ai rfl) (ei (pt nf lL) (cm rfl) (ei (pt nf (lL+1)) (ak (off:=1) Lz.Hn rfl Br rfl rfl) (ei (Sl a9 r6 Tc) (aq Lz.lH rfl rfl (H.eH 0 1)) (ei (I (r6.length:Int)) (bQ Lz.lH rfl) (ei (pt nf lL) (ai rfl) (ei (pt nf lL) (cm rfl) (ei (pt nf lL) (ak (off:=0) Lz.Hn rfl gw rfl rfl) (ei (I mw.1) (aq Lz.U3 rfl rfl (H.eH 0 0)) (kt ?_)))))))));intro vW acv
 replace H:=H.grow (acv.mono λ_ h=>h);clear acv;refine sv (B (decide (mw.1<(r6.length:Int)))) (gM rfl rfl) (k2 (gr h (λQ0 h=> ?_) (λQ0 h=> ?_)))
 ·refine rg (aw (pt nf lL) (sv (pt nf lL) (cm rfl) (sv (pt nf (lL+1)) (ak (off:=1) Lz.Hn rfl Br rfl rfl) (sv (.iface 152 (pt nf (lL+1))) (gS Lz.zQ rfl rfl) ?_))));replace H:=Hp.focus (c1:=[(I mw.1)]) (c2:=[(Sl a9 r6 Tc)]) (c3:=[]) (o':=(lL+1)) H 0 rfl rfl;refine bD h λkR pM h=> ?_;refine cl (@lY _ a9 Tc xw nf (lL+1) (pU++[(I mw.1)]) ([]++pV) _ pM) aS (H.se [0,1,2]:Hp S0 ar _ ([_,_]++_)) ?_;rintro _ su ⟨_,⟨a20,o0,rfl,rfl⟩,H⟩;replace H:Hp _ _ _ [_,_,_]:=H;replace H:Hp S0 ar su [Ch.bx xw nf lL [(I mw.1),(Sl a20 kR.2 o0)] pU pV,Ch.own 0 0 (Sl a20 kR.2 o0) kR.2,Ch.bx n0 b1 0 [(I gN.1),(I gN.2)] [] []]:=Hp.Ls (o:=lL) (c1:=[(I mw.1)]) (c2:=[(Sl a20 kR.2 o0)]) (c3:=[]) (pre:=pU) (ug:=pV) H 0 rfl rfl;refine bo ?_;obtain rfl:=sj h;exact uQ (v:=(.tuple #[])) (dp Tryz.results113 gL rfl) ⟨a20,o0,rfl,rfl⟩ (H.se [0,1])
 ·refine eG ?_;obtain rfl:=sj h;exact uQ (v:=(.tuple #[])) (dp Tryz.results113 gL rfl) ⟨a9,Tc,rfl,rfl⟩ (H.se [0,1])
theorem lg{lk nA nU r}(h:M.dc lk=some r):
  bN Lz.prog 141 [(Sl nA lk nU)] [Ch.ro 0 (Sl nA lk nU) lk] (λn0 v L=> ∃bz1,v=(.func (.func 158) #[] #[(pt bz1 0)])/\L=[Ch.bx n0 bz1 0 [(Sl nA lk nU)] [] []]):=by
 refine cO Lz.afB ?_;intro S0 ar n0 aS H;unfold M.dc at h;refine k1 (bF (fY (cs:=[(Sl nA lk nU)]) H aS rfl rfl) wn ?_);rintro _ il ⟨b1,rfl,H, -⟩;refine aN (.nilFunc) (k4 (sv (.func (.func 158) #[] #[(pt b1 0)]) (qz (vs:=[(pt b1 0)]) rfl) (aN (.func (.func 158) #[] #[(pt b1 0)]) (k7 ?_))));obtain rfl:=sj h;exact eo Tryz.results141 ⟨b1,rfl,rfl⟩ (H.se [0])
theorem dO{b o c l:Nat}{a:Option Addr}{xs:List (Int×Int)}{J:Nat->St->Prop}(fb: ∀{i σ σ'},J i σ->Md (λ_=>False) σ σ'->J i σ')
  (T8: ∀{i σ},J i σ->jl σ.w.heap b o=some (Sl a xs c)/\Rd 0 σ (Sl a xs c) xs) (hn:xs.length<=2147483648)
  (hy: ∀i,(h:i<xs.length)-> ∀σ,J i σ->YieldAt Fence.wide 0 Lz.prog l [(.agg #[(I (xs[i]).1),(I (xs[i]).2)])].toArray σ.w λe W'=>e= .returned (.bool true)/\ ∃σ',W'=σ'.w/\J (i+1) σ')
  (σ:St) (h0:J 0 σ):CallsIn Fence.wide 0 Lz.prog 158 [.func (.yield l) #[] #[],(pt b o)].toArray σ.w λe W'=>(∃v,e= .returned v)/\ ∃σ',W'=σ'.w/\J xs.length σ':=by
 refine Qy (n:=16) Lz.abH rfl rfl rfl ?_;refine wpIn_seq ?_;obtain ⟨hc, -⟩:=T8 h0;refine Uo ?_;refine JR nofun (v:=(Sl a xs c)) (aq Lz.lH rfl rfl hc) ?_;refine JR nofun (v:=(I (xs.length:Int))) (bQ Lz.lH rfl) ?_;refine JR nofun (v:=(I 0)) (ai rfl) ?_;refine E2 ?_;refine aD (wpIn_block ?_);refine wpIn_loop_ghost (λk a' w'=> ∃i ρ σ,i+k=xs.length/\a'=fr 16 (cu ρ [(0, .func (.yield l) #[] #[]),(1,pt b o),(5,Sl a xs c),(6,I (xs.length:Int)),(7,I (i:Int))])/\w'=σ.w/\J i σ) xs.length ⟨0,_,σ,by omega,cq rfl,rfl,h0⟩ ?_;clear hc h0;rintro k _ _ ⟨i,ρ,σ,hik,rfl,rfl,hJ⟩;refine wpIn_seq ?_;refine Uo ?_;refine JR nofun (v:=(B (decide ((i:Int)<(xs.length:Int))))) (cB rfl rfl) ?_;refine E2 ?_;refine aD (wpIn_seq ?_);refine Hh (decide ((i:Int)<(xs.length:Int))) rfl (λhb=> ?_) (λhb=> ?_)
 ·have bG:i<xs.length:=by have:=of_decide_eq_true hb;omega
  refine wpIn_skip ?_;refine aD (wpIn_seq ?_);refine wpIn_block ?_;refine wpIn_seq ?_;refine Uo ?_;have hg:bz xs (i:Int)=some xs[i]:=Up bG;obtain ⟨-, hR⟩:=T8 hJ;obtain ⟨bx,ox,hi,SV⟩:=hR.ix hg;obtain ⟨_,⟨_,_,rfl,rfl,rfl⟩,hl,hcx⟩:=SV.cells;refine JR nofun (v:=(pt bx ox)) (bX Lz.lH bO rfl rfl hi) ?_;refine JR nofun (v:=(.agg #[(I (xs[i]).1),(I (xs[i]).2)])) (bq (cs:=[(I (xs[i]).1),(I (xs[i]).2)]) Lz.j8 rfl bO rfl hl hcx) ?_;have H:Hp (dD []) σ σ []:=Hp.begin trivial trivial;refine Bi nofun (fN (lo:=0) H (qa8 _) bO rfl) ?_;rintro _ il ⟨b4,rfl,H, -⟩;refine E1 nofun (bE (vs:=[(I (xs[i]).1),(I (xs[i]).2)]) (k:=0) H (i:=0) rfl bO rfl rfl rfl rfl rfl (qa5 rfl) (by simp [plain]) rfl) ?_;rintro jk ⟨H, -⟩;refine E2 ?_;refine aD (wpIn_seq ?_);refine Uo ?_;refine JR nofun (v:=(.func (.yield l) #[] #[])) (ai rfl) ?_;have SZ:=H.dS 0;refine JR nofun (v:=(.agg #[(I (xs[i]).1),(I (xs[i]).2)])) (bq (cs:=[(I (xs[i]).1),(I (xs[i]).2)]) Lz.j8 rfl bO rfl rfl SZ) ?_;refine Ni (args:=[(.agg #[(I (xs[i]).1),(I (xs[i]).2)])]) rfl rfl (hy i bG jk (fb hJ H.md)) ?_;rintro e w' ⟨rfl,uT,rfl,hJ4⟩;refine ⟨_,rfl, ?_⟩;refine JR nofun (v:=(B (!true))) (cY rfl) ?_;refine E2 ?_;refine aD (Hh false rfl (λhb=>by cases hb) (λ_=> ?_));refine wpIn_skip ?_;refine bV (aD (Uo ?_));refine JR nofun (v:=(I (an ((i:Int)+1)))) (cH rfl rfl) ?_;refine JR nofun (v:=(I (an ((i:Int)+1)))) (ai rfl) ?_;refine E2 ?_;have e1:an ((i:Int)+1)=((i+1:Nat):Int):=aT (by omega) (by omega);rw [e1];refine aD ?_;exact ⟨k - 1,by omega,i+1,_,uT,by omega,cq rfl,rfl,hJ4⟩
 ·have bG: ¬i<xs.length:=by have:=of_decide_eq_false hb;omega
  have:i=xs.length:=by omega
  subst this;refine wpIn_exit ?_;refine aG (aG (bH ?_));exact JU (v:= .tuple #[]) (dp Tryz.results158 gL rfl) ⟨⟨_,rfl⟩,σ,rfl,hJ⟩
theorem dP{qC rz rA y4 rC rD wi wj r}(h:M.bs qC=some r):
  bN Lz.prog 164 [.slice none 0 0,(.func (.func 158) #[] #[(pt rC rD)])] [Ch.bx y4 rC rD [(Sl rz qC rA)] wi wj,Ch.ro 0 (Sl rz qC rA) qC] (λn0 v L=> ∃dv dh,v=(Sl dv r dh)/\L=[Ch.own n0 n0 (Sl dv r dh) r,Ch.bx y4 rC rD [(Sl rz qC rA)] wi wj]):=by
 obtain ⟨hn,rfl⟩:=Nk (show M.yr qC=some r from h);refine ⟨⟨_,_,Lz.abI,rfl,rfl⟩,λar n0 aS H=> ?_⟩;refine callsIn_wide.1 (Qy (n:=13) Lz.abI rfl rfl rfl ?_);refine wpIn_seq ?_;refine Uo ?_;refine Bi nofun (fY (cs:=[.slice none 0 0]) H aS rfl rfl) ?_;rintro _ pB ⟨b1,rfl,H, -⟩;refine JR nofun (v:=(.slice none 0 0)) (uM rfl) ?_;refine E2 ?_;refine aD (wpIn_seq ?_);refine wpIn_seq ?_;refine Uo ?_;refine JR nofun (v:=(.func (.func 158) #[] #[(pt rC rD)])) (ai rfl) ?_;refine E2 ?_;refine aD (wpIn_block ?_);replace H:=H.lU (Int×Int) n0 n0;refine Nj (gf:=158) (lb:= #[(pt rC rD)]) (N:=r.length) (Qw:=λi=>[(.agg #[(I (r.getD i (0,0)).1),(I (r.getD i (0,0)).2)])].toArray) (by rw [aO];rfl) (abB ⟨_,_,Lz.abH,rfl,rfl⟩) (λ_ _=>rfl)
  (λi L=> ∃a' c',L=[Ch.own n0 n0 (Sl a' (r.take i) c') (r.take i),Ch.bx n0 b1 0 [(Sl a' (r.take i) c')] [] [],Ch.bx y4 rC rD [(Sl rz r rA)] wi wj,Ch.ro 0 (Sl rz r rA) r]) ⟨none,0,rfl⟩ H ?_ ?_ ?_
 ·intro l J fb hJ hy σ h0;refine dO (J:=J) (a:=rz) (c:=rA) fb (fun {i σ} h=> ?_) hn (λi hi σ h=> ?_) σ h0
  ·obtain ⟨L,R,⟨a',c',rfl⟩,H⟩:=hJ h;have H2:=H.drop R;exact ⟨H2.cells 2 rfl 0 (by simp),(H2.ro 3 rfl).rd⟩
  ·have:=hy i hi σ h;simpa [List.getD,hi] using this
 ·rintro l D i rc rc' hi σ _ ⟨a',c',rfl⟩ H;have YG:r.getD i (0,0)=r[i]:=by simp [List.getD,hi]
  simp only [YG];rw [Qx];refine Uo ?_;refine Bi nofun (fN (lo:=n0) H aS bO rfl) ?_;rintro _ il ⟨b5,rfl,H, -⟩;refine E1 nofun (bE (vs:=[(I (r[i]).1),(I (r[i]).2)]) (cs':=[(I (r[i]).1),(I (r[i]).2)]) (k:=0) H (i:=0) rfl bO rfl rfl rfl rfl rfl (qa5 rfl) (by simp [plain]) rfl) ?_;rintro jk ⟨H, -⟩;refine E2 ?_;refine aD (⟨jk,_,rfl,H.se [1,2,0,3,4,5,6], ?_⟩);clear H;intro uT H;refine wpIn_block ?_;refine Uo ?_;have EN:=H.dS 4;refine JR nofun (v:=(Sl a' (r.take i) c')) (aq Lz.iR rfl rfl (EN 0 (by simp))) ?_;have LS:=H.dS 2;refine JR nofun (v:=(.agg #[(I (r[i]).1),(I (r[i]).2)])) (bq (cs:=[(I (r[i]).1),(I (r[i]).2)]) Lz.j8 rfl bO rfl rfl LS) ?_;refine Bi nofun (aL (lo:=n0) (el:=n0) (xs:=([((r[i]).1,(r[i]).2)]:List (Int×Int))) (ps:=[(0,(.agg #[(I (r[i]).1),(I (r[i]).2)]))]) (cs:=[(I (r[i]).1),(I (r[i]).2)]) H aS Lz.iR bO rfl rfl (by kernel_rfl) (.cons (c:=[(I (r[i]).1),(I (r[i]).2)]) ⟨_,_,rfl,rfl,rfl⟩ .nil) rfl) ?_;rintro _ CH ⟨b10,rfl,H, -⟩;refine Bi nofun (eR H (i:=4) rfl Lz.iR Lz.iR bO rfl rfl (by decide) (H.iB 0).rd (Nl hi hn) aS rfl rfl) ?_;rintro _ Bs ⟨a2,c2,rfl,H, -⟩;refine E1 nofun (bE (vs:=[(Sl a2 (r.take (i+1)) c2)]) (cs':=[(Sl a2 (r.take (i+1)) c2)]) (k:=0) H (i:=5) rfl Bq rfl rfl rfl rfl rfl (qa5 rfl) (by simp [plain,Sl]) rfl) ?_;rintro IU ⟨H, -⟩;refine E2 ?_;refine bV ?_;exact ⟨rfl,IU,_,rfl,⟨a2,c2,rfl⟩,H.se [3,4,1,0,6,7]⟩
 ·rintro D σ _ ⟨a',c',rfl⟩ H;rw [qc8] at H;refine bV (aD (wpIn_seq ?_));refine rgD (ds:=[{ target:= .collected D,args:= #[] }]) ?_;have EN:=H.dS 2;refine stD nofun (v:=(Sl a' r c')) (aq Lz.iR rfl rfl (EN 0 (by simp))) ?_;refine stD nofun (v:=(Sl a' r c')) (uM rfl) ?_;refine ae0 ?_;refine aD (wpIn_ret ?_);exact Qz (v:=Sl a' r c') H (dp Tryz.results164 (j6 (v:=Sl a' r c') rfl gL) rfl) ⟨_,_,_,rfl,rfl,⟨a',c',rfl,rfl⟩,(H.aby _).Ys [0,2] rfl rfl⟩
theorem fa{jw mW mX nF kL kM lZ ma r}(h:M.bj jw=some r):
  bN Lz.prog 157 [(.func (.func 158) #[] #[(pt kL kM)])] [Ch.bx nF kL kM [(Sl mW jw mX)] lZ ma,Ch.ro 0 (Sl mW jw mX) jw] (λn0 v L=> ∃dv dh,v=(Sl dv r dh)/\L=[Ch.own n0 n0 (Sl dv r dh) r,Ch.bx nF kL kM [(Sl mW jw mX)] lZ ma]):=by
 refine cO Lz.afO ?_;intro S0 ar n0 aS H;unfold M.bj at h;refine k1 (aN (.slice none 0 0) (k4 (aw (.func (.func 158) #[] #[(pt kL kM)]) (bD h λr1 ql h=> ?_))));refine cl (@dP _ mW mX nF kL kM lZ ma _ ql) aS (H.se [0,1,1]:Hp S0 ar _ ([_,_]++_)) ?_;rintro _ Bs ⟨_,⟨a4,c5,rfl,rfl⟩,H⟩;replace H:Hp _ _ _ [_,_,_]:=H;refine aN (Sl a4 r1 c5) (k7 ?_);obtain rfl:=sj h;exact eo Tryz.results157 ⟨a4,c5,rfl,rfl⟩ (H.se [0,1])
def HI:Go.Shelf.Ren:=⟨fun | 6=>107 | 15=>137 | 14=>136 | 28=>153 | 29=>154 | 20=>145 | 21=>146 | 22=>147 | 23=>148 | 24=>149 | 25=>150 | 26=>151 | 27=>152 | 46=>159 | 47=>160 | 48=>161 | 49=>162 | 50=>163 | 57=>165 | n=>n,fun | 22=>27 | 24=>35 | 25=>119 | 3=>3 | 39=>109 | 0=>0 | 53=>87 | 55=>84 | 4=>4 | 46=>162 | 45=>161 | 50=>62 | 5=>5 | 9=>9 | 66=>178 | 70=>181 | 76=>185 | 77=>186 | n=>n,fun | n=>n⟩
theorem UR:Go.Proofs.SlLaysF0.n6 Lz.prog HI:={
 mixed:=by kernel_rfl
 f6:=⟨Tryz.f107.name,by decide,Lz.afd.trans (congrArg some (by kernel_rfl))⟩
 f14:=⟨Tryz.f136.name,by decide,Lz.afw.trans (congrArg some (by kernel_rfl))⟩
 f15:=Lz.afx.trans (congrArg some (by kernel_rfl))
 f20:=⟨Tryz.f145.name,by decide,Lz.afC.trans (congrArg some (by kernel_rfl))⟩
 f21:=⟨Tryz.f146.name,by decide,Lz.afD.trans (congrArg some (by kernel_rfl))⟩
 f22:=⟨Tryz.f147.name,by decide,Lz.afE.trans (congrArg some (by kernel_rfl))⟩
 f23:=⟨Tryz.f148.name,by decide,Lz.afF.trans (congrArg some (by kernel_rfl))⟩
 f24:=⟨Tryz.f149.name,by decide,Lz.afG.trans (congrArg some (by kernel_rfl))⟩
 f25:=⟨Tryz.f150.name,by decide,Lz.afH.trans (congrArg some (by kernel_rfl))⟩
 f26:=⟨Tryz.f151.name,by decide,Lz.afI.trans (congrArg some (by kernel_rfl))⟩
 f27:=⟨Tryz.f152.name,by decide,Lz.afJ.trans (congrArg some (by kernel_rfl))⟩
 f28:=Lz.afK.trans (congrArg some (by kernel_rfl))
 f29:=Lz.afL.trans (congrArg some (by kernel_rfl))
 f46:=⟨Tryz.f159.name,by decide,Lz.afP.trans (congrArg some (by kernel_rfl))⟩
 f47:=Lz.afQ.trans (congrArg some (by kernel_rfl))
 f48:=Lz.afR.trans (congrArg some (by kernel_rfl))
 f49:=⟨Tryz.f162.name,by decide,Lz.afS.trans (congrArg some (by kernel_rfl))⟩
 f50:=⟨Tryz.f163.name,by decide,Lz.afT.trans (congrArg some (by kernel_rfl))⟩
 f57:=⟨Tryz.f165.name,by decide,Lz.afU.trans (congrArg some (by kernel_rfl))⟩
 t0:=Lz.U0
 a0:=Lz.A0
 z0:=Lz.S0
 v0:=Lz.Z0
 t3:=Lz.U3
 a3:=Lz.A3
 z3:=Lz.S3
 v3:=Lz.Z3
 t4:=Lz.U4
 a4:=Lz.A4
 z4:=Lz.S4
 v4:=Lz.Z4
 t5:=Lz.U5
 a5:=Lz.A5
 z5:=Lz.S5
 v5:=Lz.Z5
 t9:=Lz.U9
 a9:=Lz.A9
 z9:=Lz.S9
 v9:=Lz.Z9
 t22:=Lz.iR
 a22:=Lz.A27
 z22:=Lz.S27
 v22:=Lz.Z27
 t25:=Lz.af1
 a25:=Lz.af9
 z25:=Lz.agi
 v25:=Lz.agq
 t39:=Lz.af0
 a39:=Lz.af8
 z39:=Lz.agh
 v39:=Lz.agp
 t45:=Lz.af2
 a45:=Lz.aga
 z45:=Lz.agj
 v45:=Lz.agr
 t46:=Lz.af3
 a46:=Lz.agb
 z46:=Lz.agk
 v46:=Lz.ags
 t50:=Lz.U62
 a50:=Lz.A62
 z50:=Lz.S62
 v50:=Lz.Z62
 t53:=Lz.U87
 a53:=Lz.A87
 z53:=Lz.S87
 v53:=Lz.Z87
 t55:=Lz.U84
 a55:=Lz.A84
 z55:=Lz.S84
 v55:=Lz.Z84
 t66:=Lz.af4
 a66:=Lz.agc
 z66:=Lz.agl
 v66:=Lz.agt
 t70:=Lz.af5
 a70:=Lz.agd
 z70:=Lz.agm
 v70:=Lz.agu
 t76:=Lz.af6
 a76:=Lz.age
 z76:=Lz.agn
 v76:=Lz.agv
 t77:=Lz.af7
 a77:=Lz.agf
 z77:=Lz.ago
 v77:=Lz.agw }
theorem dF{cv US UT r}(h:M.aZ cv=some r):
  bN Lz.prog 107 [(Sl US cv UT),(.func (.func 104) #[] #[])] [Ch.own 0 0 (Sl US cv UT) cv] (λn0 v L=>v=(.tuple #[])/\L=[Ch.own 0 0 (Sl US r UT) r]/\r.length=cv.length):=by
 obtain ⟨hn,hs,hL,rfl⟩:=JL h;have hE: ∀σ σ':St,Ext σ σ'->(True)->(True):=λ_ _ _ hp=>hp;have hB: ∀σ:St,iQ σ []->apart []-> ∃rU,Pb (dD []) σ rU/\True:=λσ _ _=>⟨σ,⟨rfl,rfl,λ_ _=>rfl,λ_=>qa3 _⟩,trivial⟩;have hC: ∀σ:St, ¬σ.dR->(True)-> ∀x∈cv, ∀y∈cv, ∀cx cy,Rp.rp 0 σ cx x->Rp.rp 0 σ cy y->Calls Lz.prog 104 ([Value.agg cx.toArray,Value.agg cy.toArray]++[]).toArray σ.w λe w'=>e= .returned (I ((M.cZ (x.1,x.2) (y.1,y.2)).getD 0))/\ ∃q os,w'=Go.Sort.grow (σ.w.drewN q) os:=by
   intro σ hl hp x hx y hy cx cy rx ry;obtain ⟨r,hr⟩:=hs x hx y hy;obtain ⟨_,_,rfl,rfl,rfl⟩:=rx;obtain ⟨_,_,rfl,rfl,rfl⟩:=ry;have hc:=lX hr;refine (hc.runs σ 0 (qa8 _) (Hp.begin trivial trivial)).mono ?_;rintro e w' ⟨v,σ',L',rfl,rfl,⟨rfl, -⟩,H⟩;exact ⟨by rw [hr];rfl,(H.md.mono λi=>λh=>h).grown hl⟩
 refine (Nh (α:=(Int×Int)) UR Lz.A35 Lz.S35 (xs:=cv) (a:=US) (c:=UT) (g:=104) (cb:=[]) (B:=[]) (λx y=>(M.cZ (x.1,x.2) (y.1,y.2)).getD 0) hL hn ⟨_,_,Lz.abG,rfl,rfl⟩ _ hE hB hC).conv ?_;rintro m v L ⟨rfl,rfl⟩;exact ⟨_,⟨rfl,rfl,DI⟩,λH=>H.se [0]⟩
theorem db{jw mW mX nF kL kM lZ ma r}(h:M.aK jw=some r):
  bN Lz.prog 140 [(.func (.func 158) #[] #[(pt kL kM)]),(.func (.func 104) #[] #[])] [Ch.bx nF kL kM [(Sl mW jw mX)] lZ ma,Ch.ro 0 (Sl mW jw mX) jw] (λn0 v L=> ∃dv dh,v=(Sl dv r dh)/\L=[Ch.own 0 n0 (Sl dv r dh) r,Ch.bx nF kL kM [(Sl mW jw mX)] lZ ma]):=by
 refine cO Lz.afA ?_;intro S0 ar n0 aS H;unfold M.aK at h;refine k1 (aN (.slice none 0 0) (k4 (aw (.func (.func 158) #[] #[(pt kL kM)]) (bD h λr1 ql h=> ?_))));refine cl (@fa _ mW mX nF kL kM lZ ma _ ql) aS (H.se [0,1,1]:Hp S0 ar _ ([_,_]++_)) ?_;rintro _ Bs ⟨_,⟨a4,c5,rfl,rfl⟩,H⟩;replace H:Hp _ _ _ [_,_,_]:=H;refine aN (Sl a4 r1 c5) (k4 (aw (Sl a4 r1 c5) (aw (.func (.func 104) #[] #[]) ?_)));replace H:=H.yz 0 0 0 rfl (qa8 _) (qa8 _);refine bD h λr7 yg h=> ?_;refine cl (@dF _ a4 c5 _ yg) aS (H.se [0,1,2]:Hp S0 ar _ ([_]++_)) ?_;rintro _ vm ⟨_,⟨rfl,rfl,ahb⟩,H⟩;replace H:Hp _ _ _ [_,_,_]:=H;have oL:(Sl a4 r1 c5)=(Sl a4 r7 c5):=oi ahb.symm
 try rw [oL]
 try rw [oL] at H
 clear oL;refine k4 (aw (Sl a4 r7 c5) (aN (Sl a4 r7 c5) (k7 ?_)));replace H:=H.Dz 0 0 n0 rfl (qa3 _);obtain rfl:=sj h;exact eo Tryz.results140 ⟨a4,c5,rfl,rfl⟩ (H.se [0,1])
theorem pW{mw pS pT xw nf lL pU pV r}(h:M.eJ mw=some r):
  bN Lz.prog 114 [(pt nf lL)] [Ch.bx xw nf lL [(I mw.1),(Sl pS mw.2 pT)] pU pV,Ch.ro 0 (Sl pS mw.2 pT) mw.2] (λn0 v L=> ∃dv dh,v=(Sl dv r dh)/\L=[Ch.own 0 n0 (Sl dv r dh) r,Ch.bx xw nf lL [(I mw.1),(Sl pS mw.2 pT)] pU pV]):=by
 refine cO Lz.afk ?_;intro S0 ar n0 aS H;unfold M.eJ at h;refine k1 (aN (.slice none 0 0) (k4 (aw (pt nf lL) (sv (pt nf lL) (cm rfl) (sv (pt nf (lL+1)) (ak (off:=1) Lz.Hn rfl Br rfl rfl) (sv (Sl pS mw.2 pT) (aq Lz.lH rfl rfl (H.eH 0 1)) (bD h λr2 IV h=> ?_)))))));refine cl (@lg _ pS pT _ IV) aS (H.se [1,0,1]:Hp S0 ar _ ([_]++_)) ?_;rintro _ Bs ⟨_,⟨b5,rfl,rfl⟩,H⟩;replace H:Hp _ _ _ [_,_,_]:=H;refine bD h λr7 yg h=> ?_;refine cl (@db _ pS pT n0 b5 0 [] [] _ yg) aS (H.se [0,2,1,2]:Hp S0 ar _ ([_,_]++_)) ?_;rintro _ uk ⟨_,⟨iV,ji,rfl,rfl⟩,H⟩;replace H:Hp _ _ _ [_,_,_,_]:=H;refine aN (Sl iV r7 ji) (k7 ?_);obtain rfl:=sj h;exact eo Tryz.results114 ⟨iV,ji,rfl,rfl⟩ (H.se [0,2])
theorem lh{ab Uw kH dA ah ag jB fl fo iF iG fu fv jC fw fx iH iI r}(h:M.de ab Uw kH dA=some r):
    bN Lz.prog 72 [(Sl ah ab ag),(I Uw),(.func (.func 73) #[] #[(pt fl fo),(pt fw fx)])] [Ch.ro 0 (Sl ah ab ag) ab,Ch.bx jB fl fo [(I kH)] iF iG,Ch.bx jC fw fx [(Sl fu dA fv)] iH iI,Ch.ro 0 (Sl fu dA fv) dA] (λn0 v L=> ∃dv dh,v=(Sl dv r dh)/\L=[Ch.own 0 n0 (Sl dv r dh) r,Ch.bx jB fl fo [(I kH)] iF iG,Ch.bx jC fw fx [(Sl fu dA fv)] iH iI]):=by
 refine cO Lz.N72 ?_;intro S0 ar n0 aS H;unfold M.de at h;refine k1 (aN (.slice none 0 0) (k4 (aw (I Uw) (sv (.agg #[(I Uw),(.slice none 0 0)]) (nN (ps:=[(0,(I Uw))]) Lz.Hn QN (abN Lz.Hn) rfl (by kernel_rfl)) (bF (fN (cs:=[(I 0),(.slice none 0 0)]) H aS QN rfl) wn ?_)))));rintro _ il ⟨b1,rfl,H, -⟩;refine fI (bE (k:=0) (cs:=[(I 0),(.slice none 0 0)]) (vs:=[(I Uw),(.slice none 0 0)]) (cs':=[(I Uw),(.slice none 0 0)]) H (i:=0) rfl QN rfl rfl rfl rfl rfl (qa5 rfl) (by simp [plain]) rfl) wn ?_;rintro jk ⟨H, -⟩;refine k5 (aw (Sl ah ab ag) (sv (I (ab.length:Int)) (bQ Lz.ns rfl) (aw (I 0) (k2 ?_))));obtain ⟨o4,h,h'⟩:=bind_some h;refine bW (λe a w=>e= .normal/\ ∃ρ σ et ew,a=fr 27 (cu ρ [(2,(.func (.func 73) #[] #[(pt fl fo),(pt fw fx)])),(7,(pt b1 0))])/\w=σ.w/\Hp S0 ar σ [Ch.bx n0 b1 0 [(I o4.1),(Sl et o4.2 ew)] [] [],Ch.own 0 0 (Sl et o4.2 ew) o4.2,Ch.bx jB fl fo [(I kH)] iF iG,Ch.ro 0 (Sl fu dA fv) dA,Ch.bx jC fw fx [(Sl fu dA fv)] iH iI]) ?_ ?_
 ·clear h';refine bU ?_;replace H:=H.lU (Int×Int) 0 0;refine cj _ h (λs5 a w=> ∃ρ σ et ew,a=fr 27 (cu ρ [(2,(.func (.func 73) #[] #[(pt fl fo),(pt fw fx)])),(7,(pt b1 0)),(12,(Sl ah ab ag)),(13,(I (ab.length:Int))),(14,(I s5.2))])/\w=σ.w/\Hp S0 ar σ [Ch.bx n0 b1 0 [(I s5.1.1),(Sl et s5.1.2 ew)] [] [],Ch.own 0 0 (Sl et s5.1.2 ew) s5.1.2,Ch.bx jB fl fo [(I kH)] iF iG,Ch.ro 0 (Sl fu dA fv) dA,Ch.bx jC fw fx [(Sl fu dA fv)] iH iI,Ch.ro 0 (Sl ah ab ag) ab]) ⟨_,jk,none,0,cq rfl,rfl,H.se [1,0,3,5,4,2]⟩ ?_;clear h H;rintro s5 a w o ⟨ρ,Bs,a7,c8,rfl,rfl,H⟩ h cC;refine k1 (sv (B (decide (s5.2<(ab.length:Int)))) (cB rfl rfl) (k3 (gr h (λhb9 h=> ?_) (λhb9 h=> ?_))))
  ·refine k6 (bU (k1 (bD h λnT sD h=> ?_)));obtain ⟨Ht,o14,Rb, -⟩:=(H.fB 5).ix sD;refine sv (pt Ht o14) (bX Lz.ns dm rfl rfl Rb) ?_;obtain ⟨_,⟨_,_,rfl,rfl,⟨_,_,rfl,⟨_,rfl,Zt⟩,rfl⟩⟩,ahc,zV⟩:=((H.fB 5).at sD Rb).cells;obtain ⟨a17,yQ,rfl⟩:=Zt.sg;replace H:=H.add (d:=Ch.ro 0 (Sl a17 nT.2.1 yQ) nT.2.1) Zt (λ_ h=>h);clear Zt;refine sv (.agg #[(I nT.1),(Sl a17 nT.2.1 yQ),(I nT.2.2)]) (bq Lz.mz rfl dm rfl ahc zV) (bF (fN (cs:=[(I 0),(.slice none 0 0),(I 0)]) H aS dm rfl) wn ?_);rintro _ J5 ⟨Td,rfl,H, -⟩;refine fI (bE (k:=0) (cs:=[(I 0),(.slice none 0 0),(I 0)]) (vs:=[(I nT.1),(Sl a17 nT.2.1 yQ),(I nT.2.2)]) (cs':=[(I nT.1),(Sl a17 nT.2.1 yQ),(I nT.2.2)]) H (i:=0) rfl dm rfl rfl rfl rfl rfl (qa5 rfl) (by simp [plain]) rfl) wn ?_;rintro su ⟨H, -⟩;refine k2 ?_;have UU:=H.cell (u:=(I nT.1)) (o':=0) 0 0 rfl rfl rfl;have yY:=H.dS 0;refine bD h λzt Fs h=> ?_;have vk:= @nD _ _ _ a17 yQ jB fl fo iF iG fu fv jC fw fx iH iI _ Fs
   refine DG (σ:=su) (Nm:=Unit) 5 [4] [[false],[true]] (rp 2 [(0,0),(1,1)]++[[(0,0)],[(0,0)],[(0,1)]]) 1 [λ_ cD=>Hp S0 ar cD [Ch.bx n0 Td 0 [(I nT.1),(Sl a17 nT.2.1 yQ),(I nT.2.2)] [] [],Ch.ro 0 (Sl a17 nT.2.1 yQ) nT.2.1,Ch.bx n0 b1 0 [(I s5.1.1),(Sl a7 s5.1.2 c8)] [] [],Ch.own 0 0 (Sl a7 s5.1.2 c8) s5.1.2,Ch.bx jB fl fo [(I kH)] iF iG,Ch.ro 0 (Sl fu dA fv) dA,Ch.bx jC fw fx [(Sl fu dA fv)] iH iI,Ch.ro 0 (Sl ah ab ag) ab]/\Md (dD []) su cD,λ_ cD=>Hp S0 ar cD [Ch.bx jB fl fo [(I kH)] iF iG,Ch.bx jC fw fx [(Sl fu dA fv)] iH iI,Ch.bx n0 Td 0 [(I nT.1),(Sl a17 nT.2.1 yQ),(I nT.2.2)] [] [],Ch.ro 0 (Sl a17 nT.2.1 yQ) nT.2.1,Ch.bx n0 b1 0 [(I s5.1.1),(Sl a7 s5.1.2 c8)] [] [],Ch.own 0 0 (Sl a7 s5.1.2 c8) s5.1.2,Ch.ro 0 (Sl fu dA fv) dA,Ch.ro 0 (Sl ah ab ag) ab]/\Md (λi=>(dD []) i\/(dD [Ch.ro 0 (Sl a17 nT.2.1 yQ) nT.2.1,Ch.bx jB fl fo [(I kH)] iF iG,Ch.bx jC fw fx [(Sl fu dA fv)] iH iI,Ch.ro 0 (Sl fu dA fv) dA]) i) su cD] [λ_=>(pt Td 0),λ_=>(I nT.1),λ_=>(.func (.func 73) #[] #[(pt fl fo),(pt fw fx)]),λ_=>(.agg #[(I nT.1),(Sl a17 nT.2.1 yQ),(I nT.2.2)]),λ_=>(I zt)] () (by kernel_rfl) (by kernel_rfl) (DL H) ?_ ?_
   ·refine gH (λ_ _ _ o d=>ak (off:=0) Lz.mz rfl gw rfl (lo o 9)) (all_cons ⟨?_, ?_,trivial⟩ ?_)
    ·intro _nm ρ cD hJ bh aP;have Fo:=dq aP 0 18;obtain ⟨H,m⟩:=id hJ;have UU:=H.cell (u:=(I nT.1)) (o':=0) 0 0 rfl rfl rfl;exact qk (aq Lz.U3 rfl Fo UU) hJ
    ·intro _nm ρ cD hJ bh aP;have Fo:=dq aP 0 18;obtain ⟨H,m⟩:=id hJ;have UU:=H.cell (u:=(I nT.1)) (o':=0) 2 0 rfl rfl rfl;exact qk (aq Lz.U3 rfl Fo UU) hJ
    refine gH (λ_ _ _ o d=>ai (lo o 2)) (all_cons ⟨?_,trivial⟩ ?_)
    ·intro _nm ρ cD hJ bh aP;have e9:=lo (N:=27) bh 9;obtain ⟨H,m⟩:=id hJ;have yY:=H.dS 0;exact qk (bq (cs:=[(I nT.1),(Sl a17 nT.2.1 yQ),(I nT.2.2)]) Lz.mz rfl dm e9 rfl yY) hJ
    refine all_cons ⟨?_,trivial⟩ ?_
    ·intro _nm ρ cD hJ bh aP;have Zq:look 27 ρ 21=(.agg #[(I nT.1),(Sl a17 nT.2.1 yQ),(I nT.2.2)]):=dq aP 3 21;have e20:=dq aP 2 20;obtain ⟨H,m⟩:=id hJ;refine mf wn (bu vk (P8 (cap:=[(pt fl fo),(pt fw fx)]) vk.fn e20 (by show [look 27 ρ 21]++[(pt fl fo),(pt fw fx)]=_;rw [Zq];rfl)) aS (H.se [1,4,6,5,0,1,2,3,5,7]:Hp S0 ar _ ([_,_,_,_]++_))) ?_;rintro _ xj ⟨_,⟨rfl,rfl⟩,H2,m2⟩;exact ⟨_,(),rfl,rfl,⟨H2.se [0,1,2,3,4,5,6,7],m.comp m2⟩,wB [0,1,2,3]⟩
    exact all_nil
   ·intro _nm ρ Ke hJ bh fg;obtain ⟨H, -⟩:=hJ;refine DN bh fg [(2,(.func (.func 73) #[] #[(pt fl fo),(pt fw fx)])),(7,(pt b1 0)),(12,(Sl ah ab ag)),(13,(I (ab.length:Int))),(14,(I s5.2)),(19,(I nT.1)),(22,(I zt))] [1,4] (sv (.agg #[(I nT.1),(I zt)]) (nN (ps:=[(0,(I nT.1)),(1,(I zt))]) Lz.j8 bO (abM Lz.j8) rfl (by kernel_rfl)) (bD h λIN yR h=> ?_));refine cl (@qQ _ _ a7 c8 n0 b1 0 [] [] _ yR) aS (H.se [4,5,0,1,2,3,6,7]:Hp S0 ar _ ([_,_]++_)) ?_;rintro _ Nw ⟨_,⟨a32,c33,rfl,rfl⟩,H⟩;replace H:Hp _ _ _ [_,_,_,_,_,_,_,_]:=H;replace H:Hp S0 ar Nw [Ch.bx n0 b1 0 [(I IN.1),(Sl a32 IN.2 c33)] [] [],Ch.own 0 0 (Sl a32 IN.2 c33) IN.2,Ch.bx jB fl fo [(I kH)] iF iG,Ch.bx jC fw fx [(Sl fu dA fv)] iH iI,Ch.ro 0 (Sl fu dA fv) dA,Ch.ro 0 (Sl ah ab ag) ab]:=H.se [0,1,2,3,6,7];refine bo (bV (aD (rg (sv (I (an (s5.2+1))) (cH rfl rfl) (aw (I (an (s5.2+1))) (k2 ?_))))));obtain rfl:=sj h;exact ⟨_,rfl,_,Nw,a32,c33,cq rfl,rfl,H.se [0,1,2,4,3,5]⟩
  ·refine dQ (aG (aG (bH ?_)));obtain rfl:=sj h;obtain rfl:=cC _ rfl;exact ⟨rfl,_,Bs,a7,c8,cq rfl,rfl,H.se [0,1,2,3,4]⟩
 ·replace h:=h';clear h' H;rintro e a w ⟨rfl,ρ,Hv,W7,W8,rfl,rfl,H⟩;refine aD (k1 ?_);obtain ⟨E9,Hw,H, -⟩:=H.ku 1;rw [←Hw];clear Hw;refine bD h λr40 Zu h=> ?_;refine cl (@pW _ W7 W8 n0 b1 0 [] [] _ Zu) aS (H.se [1,0,0,2,3,4]:Hp S0 ar _ ([_,_]++_)) ?_;rintro _ QZ ⟨_,⟨a43,c44,rfl,rfl⟩,H⟩;replace H:Hp _ _ _ [_,_,_,_,_,_]:=H;refine aN (Sl a43 r40 c44) (k7 ?_);obtain rfl:=sj h;exact eo Tryz.results72 ⟨a43,c44,rfl,rfl⟩ (H.se [0,3,5])
theorem vo{ab ee gT ye ah ag ic ie r}(h:M.iD ab ee gT ye=some r):
  bN Lz.prog 39 [(Sl ah ab ag),(I ee),(Sl ic gT ie),(I ye)] [Ch.ro 0 (Sl ah ab ag) ab,Ch.ro 0 (Sl ic gT ie) gT] (λn0 v L=> ∃dv dh,v=(Sl dv r dh)/\L=[Ch.own 0 n0 (Sl dv r dh) r]):=by
 refine cO Lz.N39 ?_;intro S0 ar n0 aS H;unfold M.iD at h;refine k1 (bF (fY (cs:=[(I ee)]) H aS rfl rfl) wn ?_);rintro _ il ⟨b1,rfl,H, -⟩;refine bF (fY (cs:=[(Sl ic gT ie)]) H aS rfl rfl) wn ?_;rintro _ uT ⟨b3,rfl,H, -⟩;refine aN (.slice none 0 0) (k4 (aw (Sl ah ab ag) (aw (I ye) (sv (.func (.func 73) #[] #[(pt b1 0),(pt b3 0)]) (qz (vs:=[(pt b1 0),(pt b3 0)]) rfl) (bD h λr5 tM h=> ?_)))));refine cl (@lh _ _ _ _ ah ag n0 b1 0 [] [] ic ie n0 b3 0 [] [] _ tM) aS (H.se [2,1,0,3,2,3]:Hp S0 ar _ ([_,_,_,_]++_)) ?_;rintro _ vZ ⟨_,⟨a8,c9,rfl,rfl⟩,H⟩;replace H:Hp _ _ _ [_,_,_,_,_]:=H;refine aN (Sl a8 r5 c9) (k7 ?_);obtain rfl:=sj h;exact eo Tryz.results39 ⟨a8,c9,rfl,rfl⟩ (H.se [0])
theorem uq{ab ee gT ye ah ag ic ie r}(h:M.gO ab ee gT ye=some r):
   bN Lz.prog 10 [(Sl ah ab ag),(I ee),(Sl ic gT ie),(I ye)] [Ch.ro 0 (Sl ah ab ag) ab,Ch.ro 0 (Sl ic gT ie) gT] (λn0 v L=> ∃dv dh,v=(Sl dv r dh)/\L=[Ch.own 0 n0 (Sl dv r dh) r]):=by
 refine cO Lz.N10 ?_;intro S0 ar n0 aS H;unfold M.gO at h;refine k1 (aN (.slice none 0 0) (k5 (aw (Sl ah ab ag) (aw (I ee) (aw (Sl ic gT ie) (aw (I ye) (bD h λr1 ql h=> ?_)))))));refine cl (@pO _ _ _ _ ah ag ic ie _ ql) aS (H.se [0,1,0,1]:Hp S0 ar _ ([_,_]++_)) ?_;rintro _ uT ⟨_,⟨rfl,rfl⟩,H⟩;replace H:Hp _ _ _ [_,_]:=H;refine sv (B (!r1)) (cY rfl) (k2 (gr h (λBD h=> ?_) (λBD h=> ?_)))
 ·refine k1 (aN (.slice none 0 0) (k7 (aI ?_)));replace H:=H.lU (Int×Int) 0 n0;obtain rfl:=sj h;exact eo Tryz.results10 ⟨none,0,rfl,rfl⟩ (H.se [0])
 ·refine k6 (rg (aw (Sl ah ab ag) (aw (I ee) (aw (Sl ic gT ie) (aw (I ye) (bD h λr6 tN h=> ?_))))));refine cl (@vo _ _ _ _ ah ag ic ie _ tN) aS (H.se [0,1,0,1]:Hp S0 ar _ ([_,_]++_)) ?_;rintro _ vm ⟨_,⟨a9,Tc,rfl,rfl⟩,H⟩;replace H:Hp _ _ _ [_,_,_]:=H;refine aN (Sl a9 r6 Tc) (k7 ?_);obtain rfl:=sj h;exact eo Tryz.results10 ⟨a9,Tc,rfl,rfl⟩ (H.se [0])
end Go.Vs
