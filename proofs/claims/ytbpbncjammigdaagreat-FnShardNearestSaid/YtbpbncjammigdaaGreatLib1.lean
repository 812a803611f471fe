/- What the functions compute. -/
import Derived.Test.YtbpbncjammigdaaGreatAl
import Derived.Test.YtbpbncjammigdaaGreatEng1
import Derived.Test.YtbpbncjammigdaaGreatEng2
import Derived.Lib.Split
import Derived.Lib.Atoi
import Derived.Lib.Join
import Derived.Lib.ItoaNum
set_option linter.unusedVariables false
set_option linter.unusedSimpArgs false
namespace Go.Vs
noncomputable def M.bR(cF:(List UInt8)×Int)(yB:Int):Option (Int×((List UInt8)×Int)):=
  Option.bind ((bif decide (yB<1) then
  some true
 else
  some ((cF.1.length:Int)==0))) λo5=>
  (bif o5 then
  some (0,(cF.1,an (cF.2+1)))
 else
  (bif decide ((an ((an (cF.2+1)) - 1))<(cF.1.length:Int)) then
  (bz cF.1 (an ((an (cF.2+1)) - 1))).bind λLJ=>
  (EO (an (LJ.toNat:Int)) yB).bind λq17=>
  some (q17,(cF.1,an (cF.2+1)))
 else
  (EO (an ((an (cF.2+1)) - 1)) (cF.1.length:Int)).bind λq19=>
  (bz cF.1 q19).bind λLK=>
  (EO (an ((an ((an ((an (cF.2+1)) - 1))*7))+3)) (cF.1.length:Int)).bind λq26=>
  (bz cF.1 q26).bind λUs=>
  (M7 (an ((an (cF.2+1)) - 1)) (cF.1.length:Int)).bind λq33=>
  (EO (EF (an ((an ((an ((an ((an (LK.toNat:Int))*131))+(an ((an (Us.toNat:Int))*1117))))+(an ((an ((an (cF.2+1)) - 1))*29))))+(an (q33*53)))) (an ((an ((an ((an ((an ((an (LK.toNat:Int))*131))+(an ((an (Us.toNat:Int))*1117))))+(an ((an ((an (cF.2+1)) - 1))*29))))+(an (q33*53)))).tdiv 64))) yB).bind λq36=>
  some (q36,(cF.1,an (cF.2+1)))))
noncomputable def M.cP(cF:(List UInt8)×Int)(j5:List Int):Option (Int×((List UInt8)×Int)):=
 (M.bR (cF.1,cF.2) (j5.length:Int)).bind λr1=>
 (bz j5 r1.1).bind λx9=>
 some (x9,(r1.2.1,r1.2.2))
noncomputable def M.kv(cF:(List UInt8)×Int):Option (Int×((List UInt8)×Int)):=
 (M.bR (cF.1,cF.2) 201).bind λr1=>
 (M.bR (r1.2.1,r1.2.2) 21).bind λr9=>
 (M.cP (r9.2.1,r9.2.2) ([0,1, -1,5, -7,10,3,100, -100,an (r1.1 - 100),an (r9.1 - 10)]:List Int)).bind λtn=>
 some (tn.1,(tn.2.1,tn.2.2))
noncomputable def M.gu(cF:(List UInt8)×Int):Option ((List Int)×((List UInt8)×Int)):=
  Option.bind (cr (fun (s7:((List UInt8)×(Int))×(List Int)×(Int))=>(bif decide (s7.2.2<4) then
  (M.kv (s7.1.1,s7.1.2)).bind λtq=>
  (oO s7.2.1 ([tq.1]:List Int)).bind λae2=>
  some (.inl ((tq.2.1,tq.2.2),ae2,an (s7.2.2+1)))
 else
  some (.inr ((s7.1.1,s7.1.2),s7.2.1)))) ((cF.1,cF.2),([]:List Int),0)) λo6=>
  some (o6.2,(o6.1.1,o6.1.2))
noncomputable def M.jP(ab:List Int):Option ((List Int)):=
 (oO ([]:List Int) ab).bind λxs6=>
 some xs6
noncomputable def M.iC(cF:(List UInt8)×Int)(j5:List Int)(pD:Int):Option ((List Int)×((List UInt8)×Int)):=
  (M.jP j5).bind λr1=>
  (M.bR (cF.1,cF.2) 20).bind λr8=>
  Option.bind ((bif r8.1==0 then
  (oO r1 ([pD]:List Int)).bind λae3=>
  some ((r8.2.1,r8.2.2),ae3)
 else
  (bif r8.1==1 then
  (bif decide (0<(r1.length:Int)) then
  (gV r1 1 (r1.length:Int)).bind λae4=>
  some ((r8.2.1,r8.2.2),ae4)
 else
  some ((r8.2.1,r8.2.2),r1))
 else
  (bif r8.1==2 then
  (bif decide (0<(r1.length:Int)) then
  (M.bR (r8.2.1,r8.2.2) (r1.length:Int)).bind λDR=>
  (M.cP (DR.2.1,DR.2.2) ([-1,pD,0,1]:List Int)).bind λr64=>
  (bz r1 DR.1).bind λx73=>
  some ((r64.2.1,r64.2.2),(r1.set DR.1.toNat r64.1))
 else
  some ((r8.2.1,r8.2.2),r1))
 else
  some ((r8.2.1,r8.2.2),r1))))) λHj=>
  some (Hj.2,(Hj.1.1,Hj.1.2))
noncomputable def M.gW(cF:(List UInt8)×Int):Option ((List Int)×((List UInt8)×Int)):=
  (M.bR (cF.1,cF.2) 10).bind λr1=>
  (bif r1.1==0 then
  (M.gu (r1.2.1,r1.2.2)).bind λvf=>
  (M.iC (vf.2.1,vf.2.2) vf.1 101).bind λHk=>
  some (Hk.1,(Hk.2.1,Hk.2.2))
 else
  (M.gu (r1.2.1,r1.2.2)).bind λOB=>
  some (OB.1,(OB.2.1,OB.2.2)))
noncomputable def M.kz(dy:List UInt8):Option (((List UInt8)×Int)):=
  Option.bind ((bif decide (2000<(dy.length:Int)) then
  (gV dy 0 2000).bind λHl=>
  some Hl
 else
  some dy)) λo1=>
  some (o1,0)
noncomputable def M.iZ(fO:List Int):Option Bool:=
  Option.bind (cr (fun (s2:(Int))=>(bif decide (s2<(fO.length:Int)) then
  (bz fO s2).bind λx5=>
  Option.bind ((bif decide (x5<(-100)) then
  some true
 else
  some (decide (100<x5)))) λUt=>
  (bif Ut then
  some (.inr (.inr false))
 else
  some (.inl (an (s2+1))))
 else
  some (.inr (.inl ())))) 0) (bk (λt15=>some true)
   (λt17=>some t17))
noncomputable def M.eT(zO:List Int):Option Bool:=
  (bif (zO.length:Int)==4 then
  (M.iZ zO).bind λr2=>
  some r2
 else
  some false)
noncomputable def M.dt(mw:Int)(qA:Int)(lV:Int):Option Bool:=
  (bif decide (qA<=mw) then
  some (decide (mw<=lV))
 else
  some false)
noncomputable def M.pE(ab:List Int)(qA:Int)(lV:Int):Option Bool:=
  Option.bind (cr (fun (s2:(Int))=>(bif decide (s2<(ab.length:Int)) then
  (bz ab s2).bind λx7=>
  (M.dt x7 qA lV).bind λqB=>
  (bif !qB then
  some (.inr (.inr false))
 else
  some (.inl (an (s2+1))))
 else
  some (.inr (.inl ())))) 0) (bk (λt17=>some true)
   (λt19=>some t19))
noncomputable def M.jQ(zO:List Int):Option Bool:=
  (bif (zO.length:Int)==4 then
  (M.pE zO (-100) 100).bind λr2=>
  some r2
 else
  some false)
noncomputable def M.mL(cF:(List UInt8)×Int):Option (Int×((List UInt8)×Int)):=
 (M.cP (cF.1,cF.2) ([1,2,3,4,1,2,3,4,1,2,0,5]:List Int)).bind λrj=>
 some (rj.1,(rj.2.1,rj.2.2))
noncomputable def M.jH(bJ:Int)(qO:List Int):Option Int:=
  Option.bind (cr (fun (s8:(Int)×(Int))=>(bif decide (s8.2<4) then
  Option.bind ((bz qO s8.2).bind λtt=>
  (bif bJ==1 then
  some (.inl (an (s8.1+tt)))
 else
  (bif bJ==2 then
  some (.inl (max s8.1 tt))
 else
  (bif bJ==3 then
  some (.inl (an (s8.1+(an (tt*tt)))))
 else
  (bif bJ==4 then
  some (.inl (an (s8.1+(min tt 1))))
 else
  some (.inr (-1))))))) (bk (λt19=>some (.inl (t19,an (s8.2+1))))
   (λt21=>some (.inr (.inr t21))))
 else
  some (.inr (.inl s8.1)))) (0,0)) (bk (λt23=>some t23)
   (λt25=>some t25))
noncomputable def M.nS(dZ:List Int)(er:List Int):Option ((List Int)):=
  Option.bind (cr (fun (QD:(List Int)×(Int))=>(bif decide (QD.2<4) then
  (bz dZ QD.2).bind λYI=>
  (bz er QD.2).bind λUu=>
  (bz er QD.2).bind λx53=>
  (bz dZ QD.2).bind λGi=>
  (bz QD.1 QD.2).bind λx60=>
  some (.inl ((QD.1.set QD.2.toNat (max (an (YI - Uu)) (an (x53 - Gi)))),an (QD.2+1)))
 else
  some (.inr QD.1))) ((List.replicate 4 0),0)) λo31=>
  some o31
noncomputable def M.jR(bJ:Int)(sW:List Int)(uR:List Int):Option Int:=
  Option.bind ((M.eT sW).bind λr2=>
  (bif !r2 then
  some true
 else
  (M.eT uR).bind λr7=>
  some (!r7))) λo1=>
  (bif o1 then
  some (-1)
 else
  (Na 4 sW).bind λJX=>
  (Na 4 uR).bind λaiY=>
  (M.nS (List.take 4 sW) (List.take 4 uR)).bind λIN=>
  (M.jH bJ IN).bind λAx=>
  some Ax)
noncomputable def M.kC(bJ:Int):Option Bool:=
 (M.dt bJ 1 4).bind λr1=>
 some r1
noncomputable def M.rm(mw:Int):Option Int:=
 some (max mw (an (0 - mw)))
noncomputable def M.pF(b_0:Bool):Option Int:=
  (bif b_0 then
  some 1
 else
  some 0)
noncomputable def M.oY(bJ:Int)(sW:List Int)(uR:List Int):Option Int:=
  Option.bind (cr (fun (s2:(Int)×(Int))=>(bif decide (s2.2<(sW.length:Int)) then
  Option.bind ((bz sW s2.2).bind λx9=>
  (bz uR s2.2).bind λYJ=>
  (M.rm (an (x9 - YJ))).bind λxi=>
  (bif bJ==1 then
  some (an (s2.1+xi))
 else
  (bif bJ==2 then
  some (max s2.1 xi)
 else
  (bif bJ==3 then
  some (an (s2.1+(an (xi*xi))))
 else
  (M.pF (decide (0<xi))).bind λtn=>
  some (an (s2.1+tn)))))) λo8=>
  some (.inl (o8,an (s2.2+1)))
 else
  some (.inr s2.1))) (0,0)) λo1=>
  some o1
noncomputable def M.iP(cF:(List UInt8)×Int):Option ((Int×(List Int)×Int)×((List UInt8)×Int)):=
 (M.bR (cF.1,cF.2) 30).bind λr7=>
 (M.gu (r7.2.1,r7.2.2)).bind λqn=>
 (M.bR (qn.2.1,qn.2.2) 16).bind λIN=>
 some ((an (1+r7.1),qn.1,IN.1),(IN.2.1,IN.2.2))
noncomputable def M.mM(cF:(List UInt8)×Int):Option ((Int×(List Int)×Int)×((List UInt8)×Int)):=
  (M.iP (cF.1,cF.2)).bind λr7=>
  (M.bR (r7.2.1,r7.2.2) 16).bind λJY=>
  Option.bind ((bif JY.1==0 then
  (M.cP (JY.2.1,JY.2.2) ([0,99,100]:List Int)).bind λCI=>
  some ((CI.2.1,CI.2.2),(CI.1,r7.1.2.1,r7.1.2.2))
 else
  (bif JY.1==1 then
  (M.gW (JY.2.1,JY.2.2)).bind λr69=>
  some ((r69.2.1,r69.2.2),(r7.1.1,r69.1,r7.1.2.2))
 else
  (bif JY.1==2 then
  (M.cP (JY.2.1,JY.2.2) ([-1,16]:List Int)).bind λYK=>
  some ((YK.2.1,YK.2.2),(r7.1.1,r7.1.2.1,YK.1))
 else
  some ((JY.2.1,JY.2.2),(r7.1.1,r7.1.2.1,r7.1.2.2)))))) λYL=>
  some ((YL.2.1,YL.2.2.1,YL.2.2.2),(YL.1.1,YL.1.2))
noncomputable def M.gY(cv:Int×(List Int)×Int):Option Bool:=
  (M.dt cv.1 1 99).bind λr7=>
  (bif r7 then
  (M.jQ cv.2.1).bind λOC=>
  (bif OC then
  (M.dt cv.2.2 0 15).bind λr19=>
  some r19
 else
  some false)
 else
  some false)
noncomputable def M.fC(ab:List (Int×(List Int)×Int)):Option Bool:=
  Option.bind (cr (fun (s2:(Int))=>(bif decide (s2<(ab.length:Int)) then
  Option.bind ((bz ab s2).bind λx8=>
  (M.gY (x8.1,x8.2.1,x8.2.2)).bind λr19=>
  (bif !r19 then
  some true
 else
  (bif decide (0<s2) then
  (bz ab s2).bind λvy=>
  (bz ab (an (s2 - 1))).bind λwC=>
  some (decide (vy.1<=wC.1))
 else
  some false))) λo7=>
  (bif o7 then
  some (.inr (.inr false))
 else
  some (.inl (an (s2+1))))
 else
  some (.inr (.inl ())))) 0) (bk (λt39=>some (decide ((ab.length:Int)<=16)))
   (λt42=>some t42))
noncomputable def M.gQ(cv:Int×(List Int)×Int):Option ((Int×(List Int)×Int)):=
 (M.jP cv.2.1).bind λvz=>
 some (cv.1,vz,cv.2.2)
noncomputable def M.uj(ab:List (Int×(List Int)×Int))(eI:Int×(List Int)×Int):Option ((List (Int×(List Int)×Int))):=
  Option.bind (cr (fun (uS:(List (Int×(List Int)×Int))×(Int))=>(bif decide (uS.2<(ab.length:Int)) then
  Option.bind ((bz ab uS.2).bind λYM=>
  (bif decide (YM.1<eI.1) then
  (bz ab uS.2).bind λx33=>
  (M.gQ (x33.1,x33.2.1,x33.2.2)).bind λDR=>
  (oO uS.1 ([(DR.1,DR.2.1,DR.2.2)]:List (Int×(List Int)×Int))).bind λae5=>
  some ae5
 else
  some uS.1)) λo25=>
  some (.inl (o25,an (uS.2+1)))
 else
  some (.inr uS.1))) (([]:List (Int×(List Int)×Int)),0)) λAy=>
  (M.gQ (eI.1,eI.2.1,eI.2.2)).bind λW4=>
  (oO Ay ([(W4.1,W4.2.1,W4.2.2)]:List (Int×(List Int)×Int))).bind λabC=>
  Option.bind (cr (fun (JZ:(List (Int×(List Int)×Int))×(Int))=>(bif decide (JZ.2<(ab.length:Int)) then
  Option.bind ((bz ab JZ.2).bind λae6=>
  (bif decide (eI.1<ae6.1) then
  (bz ab JZ.2).bind λYN=>
  (M.gQ (YN.1,YN.2.1,YN.2.2)).bind λYO=>
  (oO JZ.1 ([(YO.1,YO.2.1,YO.2.2)]:List (Int×(List Int)×Int))).bind λabD=>
  some abD
 else
  some JZ.1)) λae7=>
  some (.inl (ae7,an (JZ.2+1)))
 else
  some (.inr JZ.1))) (abC,0)) λae8=>
  some ae8
noncomputable def M.kW(ab:List (Int×(List Int)×Int))(eI:Int×(List Int)×Int):Option ((List (Int×(List Int)×Int))×Bool):=
  Option.bind ((M.fC ab).bind λr8=>
  (bif !r8 then
  some true
 else
  (M.gY (eI.1,eI.2.1,eI.2.2)).bind λvz=>
  some (!vz))) λo7=>
  (bif o7 then
  some ([],false)
 else
  (M.uj ab (eI.1,eI.2.1,eI.2.2)).bind λr24=>
  (M.fC r24).bind λr35=>
  (bif !r35 then
  some ([],false)
 else
  some (r24,true)))
noncomputable def M.kD(cF:(List UInt8)×Int):Option ((List (Int×(List Int)×Int))×((List UInt8)×Int)):=
  (M.cP (cF.1,cF.2) ([4,6,8,3,1,0,20,12]:List Int)).bind λkR=>
  Option.bind (cr (fun (Bl:((List UInt8)×(Int))×(List (Int×(List Int)×Int))×(Int))=>(bif decide (0<Bl.2.2) then
  Option.bind ((M.iP (Bl.1.1,Bl.1.2)).bind λJ0=>
  (M.kW Bl.2.1 (J0.1.1,J0.1.2.1,J0.1.2.2)).bind λW5=>
  (bif W5.2 then
  some ((J0.2.1,J0.2.2),W5.1)
 else
  some ((J0.2.1,J0.2.2),Bl.2.1))) λUv=>
  some (.inl ((Uv.1.1,Uv.1.2),Uv.2,an (Bl.2.2 - 1)))
 else
  some (.inr ((Bl.1.1,Bl.1.2),Bl.2.1)))) ((kR.2.1,kR.2.2),([]:List (Int×(List Int)×Int)),kR.1)) λIP=>
  some (IP.2,(IP.1.1,IP.1.2))
noncomputable def M.lF(cF:(List UInt8)×Int):Option ((List (Int×(List Int)×Int))×((List UInt8)×Int)):=
  (M.kD (cF.1,cF.2)).bind λr1=>
  (M.bR (r1.2.1,r1.2.2) 20).bind λqB=>
  Option.bind ((bif qB.1==0 then
  (M.mM (qB.2.1,qB.2.2)).bind λE5=>
  (oO r1.1 ([(E5.1.1,E5.1.2.1,E5.1.2.2)]:List (Int×(List Int)×Int))).bind λQE=>
  some ((E5.2.1,E5.2.2),QE)
 else
  (bif qB.1==1 then
  (bif decide (0<(r1.1.length:Int)) then
  (M.bR (qB.2.1,qB.2.2) (r1.1.length:Int)).bind λr52=>
  (M.gW (r52.2.1,r52.2.2)).bind λr61=>
  (bz r1.1 r52.1).bind λx74=>
  some ((r61.2.1,r61.2.2),(r1.1.set r52.1.toNat (x74.1,r61.1,x74.2.2)))
 else
  some ((qB.2.1,qB.2.2),r1.1))
 else
  some ((qB.2.1,qB.2.2),r1.1)))) λGj=>
  some (Gj.2,(Gj.1.1,Gj.1.2))
noncomputable def M.gR(fP:Int):Option Bool:=
  (bif decide (1<=fP) then
  some (decide (fP<=99))
 else
  some false)
noncomputable def M.mN(om:Int):Option Bool:=
  (bif decide (0<=om) then
  some (decide (om<=15))
 else
  some false)
noncomputable def M.ja(cv:Int×(List Int)×Int):Option Bool:=
  (M.gR cv.1).bind λr4=>
  (bif r4 then
  (M.eT cv.2.1).bind λvf=>
  (bif vf then
  (M.mN cv.2.2).bind λqn=>
  some qn
 else
  some false)
 else
  some false)
noncomputable def M.gv(ab:List (Int×(List Int)×Int)):Option Bool:=
  (bif decide (16<(ab.length:Int)) then
  some false
 else
  Option.bind (cr (fun (s3:(Int)×(Int))=>(bif decide (s3.2<(ab.length:Int)) then
  (bz ab s3.2).bind λx8=>
  Option.bind ((M.ja (x8.1,x8.2.1,x8.2.2)).bind λJY=>
  (bif !JY then
  some true
 else
  some (decide (x8.1<=s3.1)))) λo29=>
  (bif o29 then
  some (.inr (.inr false))
 else
  some (.inl (x8.1,an (s3.2+1))))
 else
  some (.inr (.inl ())))) (0,0)) (bk (λt41=>some true)
   (λt43=>some t43)))
noncomputable def M.cmp_isNaN_int(cv:Int):Option Bool:=
 some (cv != cv)
noncomputable def M.iu(cv:Int)(QF:Int):Option Int:=
  (M.cmp_isNaN_int cv).bind λr1=>
  (M.cmp_isNaN_int QF).bind λr5=>
  (bif r1 then
  (bif r5 then
  some 0
 else
  some (-1))
 else
  (bif r5 then
  some 1
 else
  (bif decide (cv<QF) then
  some (-1)
 else
  (bif decide (QF<cv) then
  some 1
 else
  some 0))))
end Go.Vs
namespace Go.Vs
end Go.Vs
namespace Go.Vs
end Go.Vs
namespace Go.Vs
end Go.Vs
namespace Go.Vs
end Go.Vs
namespace Go.Vs
noncomputable def M.gi(lk:List Int):Option ((List Int)):=
 (oO ([]:List Int) lk).bind λIQ=>
 some IQ
noncomputable def M.jS(cv:Int×(List Int)×Int):Option ((Int×(List Int)×Int)):=
 (M.gi cv.2.1).bind λr7=>
 some (cv.1,r7,cv.2.2)
noncomputable def M.kE(ab:List (Int×(List Int)×Int)):Option ((List (Int×(List Int)×Int))):=
  (zr (ab.length:Int) ((0,[],0):Int×(List Int)×Int)).bind λxs1=>
  Option.bind (cr (fun (s8:(List (Int×(List Int)×Int))×(Int))=>(bif decide (s8.2<(ab.length:Int)) then
  (bz ab s8.2).bind λtt=>
  (M.jS (tt.1,tt.2.1,tt.2.2)).bind λtn=>
  (bz s8.1 s8.2).bind λx33=>
  some (.inl ((s8.1.set s8.2.toNat (tn.1,tn.2.1,tn.2.2)),an (s8.2+1)))
 else
  some (.inr s8.1))) (xs1,0)) λo7=>
  some o7
noncomputable def M.pG(cF:(List UInt8)×Int):Option (Int×((List UInt8)×Int)):=
 (M.cP (cF.1,cF.2) ([1,2,3,5,16,4,0,17]:List Int)).bind λr5=>
 some (r5.1,(r5.2.1,r5.2.2))
noncomputable def M.kF(bJ:Int):Option Bool:=
  (bif decide (1<=bJ) then
  some (decide (bJ<=4))
 else
  some false)
noncomputable def M.iw(OD:Int):Option Bool:=
  (bif decide (1<=OD) then
  some (decide (OD<=16))
 else
  some false)
noncomputable def M.fZ(ab:List (Int×(List Int)×Int))(ee:Int)(gT:List Int)(ye:Int):Option Bool:=
  (M.gv ab).bind λr1=>
  (bif r1 then
  (M.kF ee).bind λr6=>
  (bif r6 then
  (M.eT gT).bind λrj=>
  (bif rj then
  (M.iw ye).bind λqn=>
  some qn
 else
  some false)
 else
  some false)
 else
  some false)
noncomputable def M.eU(dJ:List (Int×Int))(eI:Int×Int):Option ((List (Int×Int))):=
 (oO dJ ([(eI.1,eI.2)]:List (Int×Int))).bind λHl=>
 some Hl
noncomputable def M.gU(dJ:List (Int×Int)):Option Int:=
 some (dJ.length:Int)
noncomputable def M.pH(mO:List Int):Option Int:=
  Option.bind (cr (fun (s2:(Int))=>(bif decide (s2<(mO.length:Int)) then
  (bz mO s2).bind λx5=>
  (bif x5 != 0 then
  some (.inr (.inr x5))
 else
  some (.inl (an (s2+1))))
 else
  some (.inr (.inl ())))) 0) (bk (λt12=>some 0)
   (λt14=>some t14))
noncomputable def M.cZ(dZ:Int×Int)(er:Int×Int):Option Int:=
 (M.iu dZ.2 er.2).bind λr7=>
 (M.iu dZ.1 er.1).bind λOC=>
 (M.pH ([r7,OC]:List Int)).bind λr21=>
 some r21
noncomputable def M.dM(dJ:List (Int×Int))(E6:Int)(IS:Int):Option Bool:=
 (bz dJ E6).bind λx1=>
 (bz dJ IS).bind λx8=>
 (M.cZ (x1.1,x1.2) (x8.1,x8.2)).bind λqn=>
 some (decide (0<qn))
noncomputable def M.fh(dJ:List (Int×Int))(E6:Int)(IS:Int):Option ((List (Int×Int))):=
 (bz dJ IS).bind λx1=>
 (bz dJ E6).bind λx8=>
 (bz dJ E6).bind λSX=>
 (bz (dJ.set E6.toNat (x1.1,x1.2)) IS).bind λLK=>
 some ((dJ.set E6.toNat (x1.1,x1.2)).set IS.toNat (x8.1,x8.2))
noncomputable def M.bp(dJ:List (Int×Int))(j_1:Int):Option ((List (Int×Int))):=
  Option.bind (cr (fun (s2:(List (Int×Int))×(Int))=>Option.bind ((bif (an ((an (s2.2 - 1)).tdiv 2))==s2.2 then
  some true
 else
  (M.dM s2.1 s2.2 (an ((an (s2.2 - 1)).tdiv 2))).bind λr8=>
  some (!r8))) λo6=>
  (bif o6 then
  some (.inr s2.1)
 else
  (M.fh s2.1 (an ((an (s2.2 - 1)).tdiv 2)) s2.2).bind λvz=>
  some (.inl (vz,an ((an (s2.2 - 1)).tdiv 2))))) (dJ,j_1)) λo1=>
  some o1
noncomputable def M.bK(dJ:List (Int×Int))(eI:Int×Int):Option ((List (Int×Int))):=
 (M.eU dJ (eI.1,eI.2)).bind λr1=>
 (M.gU r1).bind λr7=>
 (M.bp r1 (an (r7 - 1))).bind λrj=>
 some rj
noncomputable def M.cI(dJ:List (Int×Int))(vV:Int)(pD:Int):Option (Bool×(List (Int×Int))):=
  Option.bind (cr (fun (s2:(List (Int×Int))×(Int))=>Option.bind ((bif decide (pD<=(an ((an (2*s2.2))+1))) then
  some true
 else
  some (decide ((an ((an (2*s2.2))+1))<0)))) λo6=>
  (bif o6 then
  some (.inr (s2.1,s2.2))
 else
  Option.bind ((bif decide ((an ((an ((an (2*s2.2))+1))+1))<pD) then
  (M.dM s2.1 (an ((an ((an (2*s2.2))+1))+1)) (an ((an (2*s2.2))+1))).bind λqB=>
  some qB
 else
  some false)) λvA=>
  Option.bind ((bif vA then
  some (an ((an ((an (2*s2.2))+1))+1))
 else
  some (an ((an (2*s2.2))+1)))) λHj=>
  (M.dM s2.1 Hj s2.2).bind λxi=>
  (bif !xi then
  some (.inr (s2.1,s2.2))
 else
  (M.fh s2.1 s2.2 Hj).bind λzt=>
  some (.inl (zt,Hj))))) (dJ,vV)) λo1=>
  some (decide (vV<o1.2),o1.1)
noncomputable def M.kX(dJ:List (Int×Int)):Option (((Int)×(Int))×(List (Int×Int))):=
 (bz dJ (an ((dJ.length:Int) - 1))).bind λx3=>
 (gV dJ 0 (an ((dJ.length:Int) - 1))).bind λJ1=>
 some ((x3.1,x3.2),J1)
noncomputable def M.cQ(dJ:List (Int×Int)):Option (((Int)×(Int))×(List (Int×Int))):=
 (M.gU dJ).bind λr1=>
 (M.fh dJ 0 (an (r1 - 1))).bind λr5=>
 (M.cI r5 0 (an (r1 - 1))).bind λvf=>
 (M.kX vf.2).bind λtq=>
 some ((tq.1.1,tq.1.2),tq.2)
noncomputable def M.du(mw:Int×(List (Int×Int)))(gN:Int×Int):Option ((Int×(List (Int×Int)))):=
  (M.bK mw.2 (gN.1,gN.2)).bind λr5=>
  (bif decide (mw.1<(r5.length:Int)) then
  (M.cQ r5).bind λr15=>
  some (mw.1,r15.2)
 else
  some (mw.1,r5))
noncomputable def M.gZ(dZ:List (Int×Int))(er:List (Int×Int)):Option Bool:=
  (bif (dZ.length:Int) != (er.length:Int) then
  some false
 else
  Option.bind (cr (fun (s3:(Int))=>(bif decide (s3<(dZ.length:Int)) then
  (bz dZ s3).bind λx6=>
  (bz er s3).bind λtt=>
  (bif !(([x6.1,x6.2]:List Int)==([tt.1,tt.2]:List Int)) then
  some (.inr (.inr false))
 else
  some (.inl (an (s3+1))))
 else
  some (.inr (.inl ())))) 0) (bk (λt22=>some true)
   (λt24=>some t24)))
noncomputable def M.jI(ab:List (Int×(List Int)×Int))(ee:Int)(gT:List Int):Option Bool:=
  (M.fC ab).bind λr1=>
  (bif r1 then
  (M.kC ee).bind λr6=>
  (bif r6 then
  (M.jQ gT).bind λrj=>
  some rj
 else
  some false)
 else
  some false)
noncomputable def M.jm(dZ:Int×Int)(er:Int×Int):Option Bool:=
  (bif decide (dZ.2<er.2) then
  some true
 else
  (bif dZ.2==er.2 then
  some (decide (dZ.1<er.1))
 else
  some false))
noncomputable def M.kG(ab:List (Int×Int))(gN:Int×Int)(sX:Int):Option ((List (Int×Int))):=
  (oO ([]:List (Int×Int)) ab).bind λIQ=>
  (oO IQ ([(gN.1,gN.2)]:List (Int×Int))).bind λCJ=>
  Option.bind (cr (fun (gA:(List (Int×Int))×(Int))=>Option.bind ((bif decide (0<gA.2) then
  (bz gA.1 gA.2).bind λyC=>
  (bz gA.1 (an (gA.2 - 1))).bind λwC=>
  (M.jm (yC.1,yC.2) (wC.1,wC.2)).bind λOB=>
  some OB
 else
  some false)) λpI=>
  (bif pI then
  (bz gA.1 gA.2).bind λYP=>
  (bz gA.1 (an (gA.2 - 1))).bind λLL=>
  (bz gA.1 gA.2).bind λYQ=>
  (bz (gA.1.set gA.2.toNat (LL.1,LL.2)) (an (gA.2 - 1))).bind λx68=>
  some (.inl (((gA.1.set gA.2.toNat (LL.1,LL.2)).set (an (gA.2 - 1)).toNat (YP.1,YP.2)),an (gA.2 - 1)))
 else
  some (.inr gA.1))) (CJ,an ((CJ.length:Int) - 1))) λss=>
  (gV ss 0 (min sX (ss.length:Int))).bind λae9=>
  some ae9
noncomputable def M.kY(ab:List (Int×(List Int)×Int))(ee:Int)(gT:List Int)(ye:Int):Option ((List (Int×Int))):=
  Option.bind (cr (fun (s4:(List (Int×Int))×(Int))=>(bif decide (s4.2<(ab.length:Int)) then
  (bz ab s4.2).bind λx9=>
  (bz ab s4.2).bind λSX=>
  (M.oY ee SX.2.1 gT).bind λzt=>
  (M.kG s4.1 (x9.1,zt) ye).bind λzP=>
  some (.inl (zP,an (s4.2+1)))
 else
  some (.inr s4.1))) (([]:List (Int×Int)),0)) λo3=>
  some o3
end Go.Vs
namespace Go.Vs
end Go.Vs
namespace Go.Vs
end Go.Vs
namespace Go.Vs
noncomputable def M.dc(lk:List (Int×Int)):Option Unit:=
 some ()
noncomputable def M.bs(qC:List (Int×Int)):Option (List (Int×Int)):=
 M.yr qC
noncomputable def M.bj(jw:List (Int×Int)):Option ((List (Int×Int))):=
 (M.bs jw).bind λr1=>
 some r1
noncomputable def M.aZ(cv:List (Int×Int)):Option (List (Int×Int)):=
 M.Ha (λx y=>M.cZ (x.1,x.2) (y.1,y.2)) cv
noncomputable def M.aK(jw:List (Int×Int)):Option ((List (Int×Int))):=
 (M.bj jw).bind λr1=>
 (M.aZ r1).bind λr7=>
 some r7
noncomputable def M.eJ(mw:Int×(List (Int×Int))):Option ((List (Int×Int))):=
 (M.dc mw.2).bind λr2=>
 (M.aK mw.2).bind λr7=>
 some r7
noncomputable def M.dz(cv:Int×(List Int)×Int)(zu:Int)(Cs:List Int):Option Int:=
 (M.jR zu cv.2.1 Cs).bind λr6=>
 some r6
noncomputable def M.de(ab:List (Int×(List Int)×Int))(Uw:Int)(kH:Int)(dA:List Int):Option ((List (Int×Int))):=
  Option.bind (cr (fun (s5:((Int)×(List (Int×Int)))×(Int))=>(bif decide (s5.2<(ab.length:Int)) then
  (bz ab s5.2).bind λnT=>
  (M.dz (nT.1,nT.2.1,nT.2.2) kH dA).bind λzt=>
  (M.du (s5.1.1,s5.1.2) (nT.1,zt)).bind λIN=>
  some (.inl ((IN.1,IN.2),an (s5.2+1)))
 else
  some (.inr (s5.1.1,s5.1.2)))) ((Uw,[]),0)) λo4=>
  (M.eJ (o4.1,o4.2)).bind λr40=>
  some r40
noncomputable def M.iD(ab:List (Int×(List Int)×Int))(ee:Int)(gT:List Int)(ye:Int):Option ((List (Int×Int))):=
 (M.de ab ye ee gT).bind λr5=>
 some r5
noncomputable def M.gO(ab:List (Int×(List Int)×Int))(ee:Int)(gT:List Int)(ye:Int):Option ((List (Int×Int))):=
  (M.fZ ab ee gT ye).bind λr1=>
  (bif !r1 then
  some []
 else
  (M.iD ab ee gT ye).bind λr6=>
  some r6)
end Go.Vs
namespace Go.Vs
end Go.Vs
namespace Go.Vs
end Go.Vs
namespace Go.Vs
end Go.Vs
namespace Go.Vs
end Go.Vs
namespace Go.Vs
end Go.Vs
namespace Go.Vs
end Go.Vs
namespace Go.Vs
end Go.Vs
namespace Go.Vs
end Go.Vs
namespace Go.Vs
end Go.Vs
namespace Go.Vs
end Go.Vs
namespace Go.Vs
end Go.Vs
namespace Go.Vs
end Go.Vs
namespace Go.Vs
end Go.Vs
namespace Go.Vs
end Go.Vs
namespace Go.Vs
noncomputable def M.jb(ab:List (Int×Int)):Option Bool:=
  Option.bind (cr (fun (s2:(Int))=>(bif decide (s2<(ab.length:Int)) then
  Option.bind ((bz ab s2).bind λx6=>
  (M.dt x6.1 1 99).bind λqB=>
  (bif !qB then
  some true
 else
  (bz ab s2).bind λQG=>
  (M.dt QG.2 0 1000000).bind λE5=>
  (bif !E5 then
  some true
 else
  (bif decide (0<s2) then
  (bz ab (an (s2 - 1))).bind λwC=>
  (bz ab s2).bind λUx=>
  (M.jm (wC.1,wC.2) (Ux.1,Ux.2)).bind λDR=>
  some (!DR)
 else
  some false)))) λo5=>
  (bif o5 then
  some (.inr (.inr false))
 else
  Option.bind (cr (fun (IT:(Int))=>(bif decide (IT<s2) then
  (bz ab IT).bind λx55=>
  (bz ab s2).bind λYQ=>
  (bif x55.1==YQ.1 then
  some (.inr (.inr false))
 else
  some (.inl (an (IT+1))))
 else
  some (.inr (.inl ())))) 0) (bk (λt70=>some (.inl (an (s2+1))))
   (λt72=>some (.inr (.inr t72)))))
 else
  some (.inr (.inl ())))) 0) (bk (λt74=>some (decide ((ab.length:Int)<=16)))
   (λt76=>some t76))
noncomputable def M.nq(ab:List (Int×Int))(rn:Int):Option Int:=
  Option.bind (cr (fun (s2:(Int))=>(bif decide (s2<(ab.length:Int)) then
  (bz ab s2).bind λx5=>
  (bif x5.1==rn then
  some (.inr (.inr s2))
 else
  some (.inl (an (s2+1))))
 else
  some (.inr (.inl ())))) 0) (bk (λt12=>some (-1))
   (λt14=>some t14))
noncomputable def M.kI(dZ:List (Int×Int))(er:List (Int×Int))(sX:Int):Option ((List (Int×Int))):=
  Option.bind ((M.jb dZ).bind λr4=>
  (bif !r4 then
  some true
 else
  (M.jb er).bind λr9=>
  (bif !r9 then
  some true
 else
  (M.dt sX 1 16).bind λvz=>
  some (!vz)))) λo3=>
  (bif o3 then
  some []
 else
  Option.bind (cr (fun (pJ:(List (Int×Int))×(Int))=>(bif decide (pJ.2<(dZ.length:Int)) then
  Option.bind ((bz dZ pJ.2).bind λx27=>
  (M.nq er x27.1).bind λAx=>
  Option.bind ((bif decide (Ax<0) then
  some true
 else
  (bz dZ pJ.2).bind λQH=>
  (bz er Ax).bind λYI=>
  some (decide (QH.2<=YI.2)))) λo37=>
  (bif o37 then
  (bz dZ pJ.2).bind λx57=>
  (M.kG pJ.1 (x57.1,x57.2) sX).bind λr66=>
  some r66
 else
  some pJ.1)) λIP=>
  some (.inl (IP,an (pJ.2+1)))
 else
  some (.inr pJ.1))) (([]:List (Int×Int)),0)) λpI=>
  Option.bind (cr (fun (yf:(List (Int×Int))×(Int))=>(bif decide (yf.2<(er.length:Int)) then
  Option.bind ((bz er yf.2).bind λx85=>
  (M.nq dZ x85.1).bind λW6=>
  Option.bind ((bif decide (W6<0) then
  some true
 else
  (bz er yf.2).bind λx99=>
  (bz dZ W6).bind λQI=>
  some (decide (x99.2<QI.2)))) λo95=>
  (bif o95 then
  (bz er yf.2).bind λQJ=>
  (M.kG yf.1 (QJ.1,QJ.2) sX).bind λYR=>
  some YR
 else
  some yf.1)) λYS=>
  some (.inl (YS,an (yf.2+1)))
 else
  some (.inr yf.1))) (pI,0)) λYT=>
  some YT)
end Go.Vs
namespace Go.Vs
noncomputable def M.kZ(fP:Int)(az:Int):Option Int:=
 some (an ((an (((an (389*fP)).tmod 1009)*az)).tdiv 1009))
noncomputable def M.jJ(cF:(List UInt8)×Int):Option (Int×((List UInt8)×Int)):=
 (M.cP (cF.1,cF.2) ([1,2,3,4,8,0,9,5]:List Int)).bind λr5=>
 some (r5.1,(r5.2.1,r5.2.2))
noncomputable def M.jK(ab:List (Int×(List Int)×Int))(az:Int)(pD:Int):Option ((List (Int×(List Int)×Int))):=
  Option.bind (cr (fun (s4:(List (Int×(List Int)×Int))×(Int))=>(bif decide (s4.2<(ab.length:Int)) then
  Option.bind ((bz ab s4.2).bind λnT=>
  (M.kZ nT.1 az).bind λqn=>
  (bif qn==pD then
  (bz ab s4.2).bind λLK=>
  (M.gQ (LK.1,LK.2.1,LK.2.2)).bind λzP=>
  (oO s4.1 ([(zP.1,zP.2.1,zP.2.2)]:List (Int×(List Int)×Int))).bind λQE=>
  some QE
 else
  some s4.1)) λo9=>
  some (.inl (o9,an (s4.2+1)))
 else
  some (.inr s4.1))) (([]:List (Int×(List Int)×Int)),0)) λo3=>
  some o3
noncomputable def M.eF(dy:List UInt8):Option ((List (Int×(List Int)×Int))×Int×Int×(List Int)×Int):=
 (M.kz dy).bind λr1=>
 (M.lF (r1.1,r1.2)).bind λr8=>
 (M.jJ (r8.2.1,r8.2.2)).bind λqn=>
 (M.mL (qn.2.1,qn.2.2)).bind λBm=>
 (M.gW (Bm.2.1,Bm.2.2)).bind λHm=>
 (M.pG (Hm.2.1,Hm.2.2)).bind λYU=>
 some (r8.1,qn.1,Bm.1,Hm.1,YU.1)
noncomputable def M.gm(ab:List (Int×(List Int)×Int))(az:Int)(dN:Int)(fQ:List Int)(rq:Int):Option ((List (Int×Int))):=
  Option.bind ((M.jI ab dN fQ).bind λr4=>
  (bif !r4 then
  some true
 else
  (M.dt az 1 8).bind λr9=>
  (bif !r9 then
  some true
 else
  (M.dt rq 1 16).bind λvz=>
  some (!vz)))) λo3=>
  (bif o3 then
  some []
 else
  Option.bind (cr (fun (pJ:(List (Int×Int))×(Int))=>(bif decide (pJ.2<az) then
  (M.jK ab az pJ.2).bind λHk=>
  (M.kY Hk dN fQ rq).bind λJ2=>
  (M.kI pJ.1 J2 rq).bind λDR=>
  some (.inl (DR,an (pJ.2+1)))
 else
  some (.inr pJ.1))) (([]:List (Int×Int)),0)) λpI=>
  some pI)
end Go.Vs
namespace Go.Vs
end Go.Vs
namespace Go.Vs
end Go.Vs
namespace Go.Vs
end Go.Vs
namespace Go.Vs
noncomputable def M.lG(dJ:Int×Int):Option Bool:=
  (M.gR dJ.1).bind λr4=>
  (bif r4 then
  (bif decide (0<=dJ.2) then
  some (decide (dJ.2<=1000000))
 else
  some false)
 else
  some false)
noncomputable def M.jy(dJ:Int×Int)(zu:Int):Option Bool:=
 some (dJ.1==zu)
noncomputable def M.bL(lk:List (Int×Int))(zv:Int):Option Int:=
  Option.bind (cr (fun (s2:(Int))=>(bif decide (s2<(lk.length:Int)) then
  (bz lk s2).bind λx5=>
  (M.jy (x5.1,x5.2) zv).bind λqB=>
  (bif qB then
  some (.inr (.inr s2))
 else
  some (.inl (an (s2+1))))
 else
  some (.inr (.inl ())))) 0) (bk (λt17=>some (-1))
   (λt19=>some t19))
noncomputable def M.k8(ab:List (Int×Int))(rn:Int):Option Int:=
 (M.bL ab rn).bind λr3=>
 some r3
noncomputable def M.jc(ab:List (Int×Int)):Option Bool:=
  (bif decide (16<(ab.length:Int)) then
  some false
 else
  Option.bind (cr (fun (s3:(Int))=>(bif decide (s3<(ab.length:Int)) then
  (bz ab s3).bind λx6=>
  Option.bind ((M.lG (x6.1,x6.2)).bind λtq=>
  (bif !tq then
  some true
 else
  (bif decide (0<s3) then
  (bz ab (an (s3 - 1))).bind λvy=>
  (M.cZ (vy.1,vy.2) (x6.1,x6.2)).bind λAx=>
  some (decide (0<=Ax))
 else
  some false))) λss=>
  (bif ss then
  some (.inr (.inr false))
 else
  (gV ab 0 s3).bind λQK=>
  (M.k8 QK x6.1).bind λr49=>
  (bif decide (0<=r49) then
  some (.inr (.inr false))
 else
  some (.inl (an (s3+1)))))
 else
  some (.inr (.inl ())))) 0) (bk (λt54=>some true)
   (λt56=>some t56)))
noncomputable def M.di(lk:List (Int×Int))(yB:Int):Option ((List (Int×Int))):=
  (bif decide (yB<0) then
  none
 else
  Option.bind ((bif decide (0<(an (yB - (an ((lk.length:Int) - (lk.length:Int)))))) then
  (gV lk 0 (lk.length:Int)).bind λIQ=>
  (DK IQ (an (yB - (an ((lk.length:Int) - (lk.length:Int))))) ((0,0):Int×Int)).bind λabE=>
  (gV abE 0 (lk.length:Int)).bind λJX=>
  some JX
 else
  some lk)) λo2=>
  some o2)
noncomputable def M.cS(da:List (List (Int×Int))):Option ((List (Int×Int))):=
  Option.bind (cr (fun (s2:(Int)×(Int))=>(bif decide (s2.2<(da.length:Int)) then
  (bz da s2.2).bind λx5=>
  (bif decide ((an (s2.1+(x5.length:Int)))<0) then
  none
 else
  some (.inl (an (s2.1+(x5.length:Int)),an (s2.2+1))))
 else
  some (.inr s2.1))) (0,0)) λo1=>
  (M.di ([]:List (Int×Int)) o1).bind λkR=>
  Option.bind (cr (fun (J3:(List (Int×Int))×(Int))=>(bif decide (J3.2<(da.length:Int)) then
  (bz da J3.2).bind λwC=>
  (oO J3.1 wC).bind λYV=>
  some (.inl (YV,an (J3.2+1)))
 else
  some (.inr J3.1))) (kR,0)) λOE=>
  some OE
noncomputable def M.jL(dZ:List (Int×Int))(er:List (Int×Int)):Option ((List (Int×Int))):=
  (M.cS ([dZ,er]:List (List (Int×Int)))).bind λr5=>
  (M.aZ r5).bind λrj=>
  Option.bind (cr (fun (gA:(List (Int×Int))×(Int))=>(bif decide (gA.2<(rj.length:Int)) then
  Option.bind ((bz rj gA.2).bind λyD=>
  (M.k8 gA.1 yD.1).bind λJ2=>
  (bif decide (J2<0) then
  (oO gA.1 ([(yD.1,yD.2)]:List (Int×Int))).bind λQL=>
  some QL
 else
  some gA.1)) λo22=>
  some (.inl (o22,an (gA.2+1)))
 else
  some (.inr gA.1))) ([],0)) λss=>
  some ss
noncomputable def M.jd(dZ:List (Int×Int))(er:List (Int×Int))(sX:Int):Option ((List (Int×Int))):=
  Option.bind ((M.jc dZ).bind λr2=>
  (bif !r2 then
  some true
 else
  (M.jc er).bind λr7=>
  (bif !r7 then
  some true
 else
  (M.iw sX).bind λqB=>
  some (!qB)))) λo1=>
  (bif o1 then
  some []
 else
  (M.jL dZ er).bind λtq=>
  (gV tq 0 (min sX (tq.length:Int))).bind λBn=>
  some Bn)
end Go.Vs
namespace Go.Vs
end Go.Vs
namespace Go.Vs
end Go.Vs
namespace Go.Vs
end Go.Vs
namespace Go.Vs
end Go.Vs
namespace Go.Vs
noncomputable def M.ef(jM:Int):Option Bool:=
  (bif decide (1<=jM) then
  some (decide (jM<=8))
 else
  some false)
noncomputable def M.mP(fP:Int)(az:Int):Option Int:=
  Option.bind ((M.gR fP).bind λr2=>
  (bif !r2 then
  some true
 else
  (M.ef az).bind λr7=>
  some (!r7))) λo1=>
  (bif o1 then
  some (-1)
 else
  some (an ((an (((an (389*fP)).tmod 1009)*az)).tdiv 1009)))
noncomputable def M.fK(cv:Int×(List Int)×Int)(zu:Int)(Cs:Int):Option Bool:=
 (M.mP cv.1 zu).bind λr5=>
 some (r5==Cs)
noncomputable def M.cJ(ab:List (Int×(List Int)×Int))(kJ:Int)(kK:Int):Option ((List (Int×(List Int)×Int))):=
  Option.bind (cr (fun (s2:(List (Int×(List Int)×Int))×(Int))=>(bif decide (s2.2<(ab.length:Int)) then
  Option.bind ((bz ab s2.2).bind λx8=>
  (M.fK (x8.1,x8.2.1,x8.2.2) kJ kK).bind λBm=>
  (bif Bm then
  (oO s2.1 ([(x8.1,x8.2.1,x8.2.2)]:List (Int×(List Int)×Int))).bind λYW=>
  some YW
 else
  some s2.1)) λo7=>
  some (.inl (o7,an (s2.2+1)))
 else
  some (.inr s2.1))) ([],0)) λo1=>
  some o1
noncomputable def M.fD(ab:List (Int×(List Int)×Int))(az:Int)(pD:Int):Option ((List (Int×(List Int)×Int))):=
  Option.bind ((M.gv ab).bind λr6=>
  (bif !r6 then
  some true
 else
  (M.ef az).bind λqB=>
  some (!qB))) λo5=>
  (bif o5 then
  some []
 else
  (M.cJ ab az pD).bind λxi=>
  (M.kE xi).bind λHm=>
  some Hm)
end Go.Vs
namespace Go.Vs
end Go.Vs
namespace Go.Vs
open Go
end Go.Vs
namespace Go.Vs
end Go.Vs
namespace Go.Vs
noncomputable def M.gn(ab:List (Int×(List Int)×Int))(az:Int)(dN:Int)(fQ:List Int)(rq:Int):Option (List (List (Int×Int))):=
 (DO (λi=>(M.fD ab az (i:Int)).bind λt=>M.gO t dN fQ rq) az.toNat).bind λl=>some (l++List.replicate (8 - l.length) [])
noncomputable def M.iE(ab:List (Int×(List Int)×Int))(az:Int)(dN:Int)(fQ:List Int)(rq:Int):Option ((List (Int×Int))):=
  Option.bind ((M.ef az).bind λr2=>
  (bif !r2 then
  some true
 else
  (M.fZ ab dN fQ rq).bind λr7=>
  some (!r7))) λo1=>
  (bif o1 then
  some []
 else
  (M.gn ab az dN fQ rq).bind λOC=>
  Option.bind (cr (fun (CK:(List (Int×Int))×(Int))=>(bif decide (CK.2<8) then
  (bz OC CK.2).bind λUy=>
  (M.jd CK.1 Uy rq).bind λAx=>
  some (.inl (Ax,an (CK.2+1)))
 else
  some (.inr CK.1))) ([],0)) λLM=>
  some LM)
noncomputable def M.iU(dy:List UInt8):Option Bool:=
  (bif decide (1048576<(dy.length:Int)) then
  some true
 else
  (M.eF dy).bind λr2=>
  (M.iE r2.1 r2.2.1 r2.2.2.1 r2.2.2.2.1 r2.2.2.2.2).bind λvf=>
  Option.bind ((M.gm r2.1 r2.2.1 r2.2.2.1 r2.2.2.2.1 r2.2.2.2.2).bind λkR=>
  (M.gZ vf kR).bind λzt=>
  (bif !zt then
  some true
 else
  (bif decide (r2.2.1<1) then
  some true
 else
  some (decide (8<r2.2.1))))) λss=>
  (bif ss then
  (M.gm r2.1 r2.2.1 r2.2.2.1 r2.2.2.2.1 r2.2.2.2.2).bind λOB=>
  (M.gZ vf OB).bind λr47=>
  some r47
 else
  (M.gO r2.1 r2.2.2.1 r2.2.2.2.1 r2.2.2.2.2).bind λW5=>
  (M.gZ W5 vf).bind λr65=>
  some r65))
end Go.Vs
