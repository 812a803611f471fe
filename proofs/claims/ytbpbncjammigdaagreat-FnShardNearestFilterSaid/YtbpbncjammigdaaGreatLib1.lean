/- What the functions compute. -/
import Derived.Test.YtbpbncjammigdaaGreatAl
import Derived.Test.YtbpbncjammigdaaGreatEng1
import Derived.Test.YtbpbncjammigdaaGreatEng2
import Derived.Lib.Split
import Derived.Lib.Atoi
import Derived.Lib.Join
import Derived.Lib.ItoaNum
set_option linter.unusedVariables false
set_option linter.unusedSimpArgs false
namespace Go.Vs
noncomputable def M.cn(cL:(List UInt8)×Int)(ve:Int):Option (Int×((List UInt8)×Int)):=
  Option.bind ((bif decide (ve<1) then
  some true
 else
  some ((cL.1.length:Int)==0))) λo5=>
  (bif o5 then
  some (0,(cL.1,ao (cL.2+1)))
 else
  (bif decide ((ao ((ao (cL.2+1)) - 1))<(cL.1.length:Int)) then
  (bu cL.1 (ao ((ao (cL.2+1)) - 1))).bind λM7=>
  (Gd (ao (M7.toNat:Int)) ve).bind λq17=>
  some (q17,(cL.1,ao (cL.2+1)))
 else
  (Gd (ao ((ao (cL.2+1)) - 1)) (cL.1.length:Int)).bind λq19=>
  (bu cL.1 q19).bind λM8=>
  (Gd (ao ((ao ((ao ((ao (cL.2+1)) - 1))*7))+3)) (cL.1.length:Int)).bind λq26=>
  (bu cL.1 q26).bind λWu=>
  (OA (ao ((ao (cL.2+1)) - 1)) (cL.1.length:Int)).bind λq33=>
  (Gd (F1 (ao ((ao ((ao ((ao ((ao (M8.toNat:Int))*131))+(ao ((ao (Wu.toNat:Int))*1117))))+(ao ((ao ((ao (cL.2+1)) - 1))*29))))+(ao (q33*53)))) (ao ((ao ((ao ((ao ((ao ((ao (M8.toNat:Int))*131))+(ao ((ao (Wu.toNat:Int))*1117))))+(ao ((ao ((ao (cL.2+1)) - 1))*29))))+(ao (q33*53)))).tdiv 64))) ve).bind λq36=>
  some (q36,(cL.1,ao (cL.2+1)))))
noncomputable def M.cV(cL:(List UInt8)×Int)(kM:List Int):Option (Int×((List UInt8)×Int)):=
 (M.cn (cL.1,cL.2) (kM.length:Int)).bind λr1=>
 (bu kM r1.1).bind λx9=>
 some (x9,(r1.2.1,r1.2.2))
noncomputable def M.lf(cL:(List UInt8)×Int):Option (Int×((List UInt8)×Int)):=
 (M.cn (cL.1,cL.2) 201).bind λr1=>
 (M.cn (r1.2.1,r1.2.2) 21).bind λr9=>
 (M.cV (r9.2.1,r9.2.2) ([0,1, -1,5, -7,10,3,100, -100,ao (r1.1 - 100),ao (r9.1 - 10)]:List Int)).bind λuu=>
 some (uu.1,(uu.2.1,uu.2.2))
noncomputable def M.gO(cL:(List UInt8)×Int):Option ((List Int)×((List UInt8)×Int)):=
  Option.bind (cu (fun (s7:((List UInt8)×(Int))×(List Int)×(Int))=>(bif decide (s7.2.2<4) then
  (M.lf (s7.1.1,s7.1.2)).bind λrK=>
  (nP s7.2.1 ([rK.1]:List Int)).bind λagv=>
  some (.inl ((rK.2.1,rK.2.2),agv,ao (s7.2.2+1)))
 else
  some (.inr ((s7.1.1,s7.1.2),s7.2.1)))) ((cL.1,cL.2),([]:List Int),0)) λo6=>
  some (o6.2,(o6.1.1,o6.1.2))
noncomputable def M.ko(ab:List Int):Option ((List Int)):=
 (nP ([]:List Int) ab).bind λxs6=>
 some xs6
noncomputable def M.iW(cL:(List UInt8)×Int)(kM:List Int)(qn:Int):Option ((List Int)×((List UInt8)×Int)):=
  (M.ko kM).bind λr1=>
  (M.cn (cL.1,cL.2) 20).bind λr8=>
  Option.bind ((bif r8.1==0 then
  (nP r1 ([qn]:List Int)).bind λagw=>
  some ((r8.2.1,r8.2.2),agw)
 else
  (bif r8.1==1 then
  (bif decide (0<(r1.length:Int)) then
  (eI r1 1 (r1.length:Int)).bind λagx=>
  some ((r8.2.1,r8.2.2),agx)
 else
  some ((r8.2.1,r8.2.2),r1))
 else
  (bif r8.1==2 then
  (bif decide (0<(r1.length:Int)) then
  (M.cn (r8.2.1,r8.2.2) (r1.length:Int)).bind λE2=>
  (M.cV (E2.2.1,E2.2.2) ([-1,qn,0,1]:List Int)).bind λr64=>
  (bu r1 E2.1).bind λx73=>
  some ((r64.2.1,r64.2.2),(r1.set E2.1.toNat r64.1))
 else
  some ((r8.2.1,r8.2.2),r1))
 else
  some ((r8.2.1,r8.2.2),r1))))) λIN=>
  some (IN.2,(IN.1.1,IN.1.2))
noncomputable def M.iE(cL:(List UInt8)×Int):Option ((List Int)×((List UInt8)×Int)):=
  (M.cn (cL.1,cL.2) 10).bind λr1=>
  (bif r1.1==0 then
  (M.gO (r1.2.1,r1.2.2)).bind λj4=>
  (M.iW (j4.2.1,j4.2.2) j4.1 101).bind λIP=>
  some (IP.1,(IP.2.1,IP.2.2))
 else
  (M.gO (r1.2.1,r1.2.2)).bind λSr=>
  some (Sr.1,(Sr.2.1,Sr.2.2)))
noncomputable def M.lg(dp:List UInt8):Option (((List UInt8)×Int)):=
  Option.bind ((bif decide (2000<(dp.length:Int)) then
  (eI dp 0 2000).bind λIQ=>
  some IQ
 else
  some dp)) λo1=>
  some (o1,0)
noncomputable def M.jq(gv:List Int):Option Bool:=
  Option.bind (cu (fun (s2:(Int))=>(bif decide (s2<(gv.length:Int)) then
  (bu gv s2).bind λx5=>
  Option.bind ((bif decide (x5<(-100)) then
  some true
 else
  some (decide (100<x5)))) λWv=>
  (bif Wv then
  some (.inr (.inr false))
 else
  some (.inl (ao (s2+1))))
 else
  some (.inr (.inl ())))) 0) (bm (λt15=>some true)
   (λt17=>some t17))
noncomputable def M.fv(A1:List Int):Option Bool:=
  (bif (A1.length:Int)==4 then
  (M.jq A1).bind λr2=>
  some r2
 else
  some false)
noncomputable def M.dE(mX:Int)(rr:Int)(mF:Int):Option Bool:=
  (bif decide (rr<=mX) then
  some (decide (mX<=mF))
 else
  some false)
noncomputable def M.qo(ab:List Int)(rr:Int)(mF:Int):Option Bool:=
  Option.bind (cu (fun (s2:(Int))=>(bif decide (s2<(ab.length:Int)) then
  (bu ab s2).bind λx7=>
  (M.dE x7 rr mF).bind λru=>
  (bif !ru then
  some (.inr (.inr false))
 else
  some (.inl (ao (s2+1))))
 else
  some (.inr (.inl ())))) 0) (bm (λt17=>some true)
   (λt19=>some t19))
noncomputable def M.kq(A1:List Int):Option Bool:=
  (bif (A1.length:Int)==4 then
  (M.qo A1 (-100) 100).bind λr2=>
  some r2
 else
  some false)
noncomputable def M.nk(cL:(List UInt8)×Int):Option (Int×((List UInt8)×Int)):=
 (M.cV (cL.1,cL.2) ([1,2,3,4,1,2,3,4,1,2,0,5]:List Int)).bind λrv=>
 some (rv.1,(rv.2.1,rv.2.2))
noncomputable def M.j7(bN:Int)(rL:List Int):Option Int:=
  Option.bind (cu (fun (s8:(Int)×(Int))=>(bif decide (s8.2<4) then
  Option.bind ((bu rL s8.2).bind λuv=>
  (bif bN==1 then
  some (.inl (ao (s8.1+uv)))
 else
  (bif bN==2 then
  some (.inl (max s8.1 uv))
 else
  (bif bN==3 then
  some (.inl (ao (s8.1+(ao (uv*uv)))))
 else
  (bif bN==4 then
  some (.inl (ao (s8.1+(min uv 1))))
 else
  some (.inr (-1))))))) (bm (λt19=>some (.inl (t19,ao (s8.2+1))))
   (λt21=>some (.inr (.inr t21))))
 else
  some (.inr (.inl s8.1)))) (0,0)) (bm (λt23=>some t23)
   (λt25=>some t25))
noncomputable def M.oJ(eJ:List Int)(eU:List Int):Option ((List Int)):=
  Option.bind (cu (fun (Ss:(List Int)×(Int))=>(bif decide (Ss.2<4) then
  (bu eJ Ss.2).bind λx47=>
  (bu eU Ss.2).bind λOQ=>
  (bu eU Ss.2).bind λx53=>
  (bu eJ Ss.2).bind λHC=>
  (bu Ss.1 Ss.2).bind λx60=>
  some (.inl ((Ss.1.set Ss.2.toNat (max (ao (x47 - OQ)) (ao (x53 - HC)))),ao (Ss.2+1)))
 else
  some (.inr Ss.1))) ((List.replicate 4 0),0)) λo31=>
  some o31
noncomputable def M.kr(bN:Int)(ud:List Int)(vU:List Int):Option Int:=
  Option.bind ((M.fv ud).bind λr2=>
  (bif !r2 then
  some true
 else
  (M.fv vU).bind λr7=>
  some (!r7))) λo1=>
  (bif o1 then
  some (-1)
 else
  (OD 4 ud).bind λLm=>
  (OD 4 vU).bind λaky=>
  (M.oJ (List.take 4 ud) (List.take 4 vU)).bind λKg=>
  (M.j7 bN Kg).bind λBN=>
  some BN)
noncomputable def M.lh(bN:Int):Option Bool:=
 (M.dE bN 1 4).bind λr1=>
 some r1
noncomputable def M.si(mX:Int):Option Int:=
 some (max mX (ao (0 - mX)))
noncomputable def M.qp(b_0:Bool):Option Int:=
  (bif b_0 then
  some 1
 else
  some 0)
noncomputable def M.pX(bN:Int)(ud:List Int)(vU:List Int):Option Int:=
  Option.bind (cu (fun (s2:(Int)×(Int))=>(bif decide (s2.2<(ud.length:Int)) then
  Option.bind ((bu ud s2.2).bind λx9=>
  (bu vU s2.2).bind λx14=>
  (M.si (ao (x9 - x14))).bind λyo=>
  (bif bN==1 then
  some (ao (s2.1+yo))
 else
  (bif bN==2 then
  some (max s2.1 yo)
 else
  (bif bN==3 then
  some (ao (s2.1+(ao (yo*yo))))
 else
  (M.qp (decide (0<yo))).bind λuu=>
  some (ao (s2.1+uu)))))) λo8=>
  some (.inl (o8,ao (s2.2+1)))
 else
  some (.inr s2.1))) (0,0)) λo1=>
  some o1
noncomputable def M.jh(cL:(List UInt8)×Int):Option ((Int×(List Int)×Int)×((List UInt8)×Int)):=
 (M.cn (cL.1,cL.2) 30).bind λr7=>
 (M.gO (r7.2.1,r7.2.2)).bind λqY=>
 (M.cn (qY.2.1,qY.2.2) 16).bind λKg=>
 some ((ao (1+r7.1),qY.1,Kg.1),(Kg.2.1,Kg.2.2))
noncomputable def M.np(cL:(List UInt8)×Int):Option ((Int×(List Int)×Int)×((List UInt8)×Int)):=
  (M.jh (cL.1,cL.2)).bind λr7=>
  (M.cn (r7.2.1,r7.2.2) 16).bind λLp=>
  Option.bind ((bif Lp.1==0 then
  (M.cV (Lp.2.1,Lp.2.2) ([0,99,100]:List Int)).bind λD2=>
  some ((D2.2.1,D2.2.2),(D2.1,r7.1.2.1,r7.1.2.2))
 else
  (bif Lp.1==1 then
  (M.iE (Lp.2.1,Lp.2.2)).bind λr69=>
  some ((r69.2.1,r69.2.2),(r7.1.1,r69.1,r7.1.2.2))
 else
  (bif Lp.1==2 then
  (M.cV (Lp.2.1,Lp.2.2) ([-1,16]:List Int)).bind λaas=>
  some ((aas.2.1,aas.2.2),(r7.1.1,r7.1.2.1,aas.1))
 else
  some ((Lp.2.1,Lp.2.2),(r7.1.1,r7.1.2.1,r7.1.2.2)))))) λo40=>
  some ((o40.2.1,o40.2.2.1,o40.2.2.2),(o40.1.1,o40.1.2))
noncomputable def M.iF(bQ:Int×(List Int)×Int):Option Bool:=
  (M.dE bQ.1 1 99).bind λr7=>
  (bif r7 then
  (M.kq bQ.2.1).bind λP6=>
  (bif P6 then
  (M.dE bQ.2.2 0 15).bind λr19=>
  some r19
 else
  some false)
 else
  some false)
noncomputable def M.fV(ab:List (Int×(List Int)×Int)):Option Bool:=
  Option.bind (cu (fun (s2:(Int))=>(bif decide (s2<(ab.length:Int)) then
  Option.bind ((bu ab s2).bind λx8=>
  (M.iF (x8.1,x8.2.1,x8.2.2)).bind λr19=>
  (bif !r19 then
  some true
 else
  (bif decide (0<s2) then
  (bu ab s2).bind λwK=>
  (bu ab (ao (s2 - 1))).bind λxH=>
  some (decide (wK.1<=xH.1))
 else
  some false))) λo7=>
  (bif o7 then
  some (.inr (.inr false))
 else
  some (.inl (ao (s2+1))))
 else
  some (.inr (.inl ())))) 0) (bm (λt39=>some (decide ((ab.length:Int)<=16)))
   (λt42=>some t42))
noncomputable def M.ir(bQ:Int×(List Int)×Int):Option ((Int×(List Int)×Int)):=
 (M.ko bQ.2.1).bind λwL=>
 some (bQ.1,wL,bQ.2.2)
noncomputable def M.vf(ab:List (Int×(List Int)×Int))(ff:Int×(List Int)×Int):Option ((List (Int×(List Int)×Int))):=
  Option.bind (cu (fun (vV:(List (Int×(List Int)×Int))×(Int))=>(bif decide (vV.2<(ab.length:Int)) then
  Option.bind ((bu ab vV.2).bind λx26=>
  (bif decide (x26.1<ff.1) then
  (bu ab vV.2).bind λx33=>
  (M.ir (x33.1,x33.2.1,x33.2.2)).bind λE2=>
  (nP vV.1 ([(E2.1,E2.2.1,E2.2.2)]:List (Int×(List Int)×Int))).bind λagy=>
  some agy
 else
  some vV.1)) λo25=>
  some (.inl (o25,ao (vV.2+1)))
 else
  some (.inr vV.1))) (([]:List (Int×(List Int)×Int)),0)) λzH=>
  (M.ir (ff.1,ff.2.1,ff.2.2)).bind λYU=>
  (nP zH ([(YU.1,YU.2.1,YU.2.2)]:List (Int×(List Int)×Int))).bind λac8=>
  Option.bind (cu (fun (Lq:(List (Int×(List Int)×Int))×(Int))=>(bif decide (Lq.2<(ab.length:Int)) then
  Option.bind ((bu ab Lq.2).bind λagz=>
  (bif decide (ff.1<agz.1) then
  (bu ab Lq.2).bind λaat=>
  (M.ir (aat.1,aat.2.1,aat.2.2)).bind λaau=>
  (nP Lq.1 ([(aau.1,aau.2.1,aau.2.2)]:List (Int×(List Int)×Int))).bind λac9=>
  some ac9
 else
  some Lq.1)) λagA=>
  some (.inl (agA,ao (Lq.2+1)))
 else
  some (.inr Lq.1))) (ac8,0)) λagB=>
  some agB
noncomputable def M.lI(ab:List (Int×(List Int)×Int))(ff:Int×(List Int)×Int):Option ((List (Int×(List Int)×Int))×Bool):=
  Option.bind ((M.fV ab).bind λr8=>
  (bif !r8 then
  some true
 else
  (M.iF (ff.1,ff.2.1,ff.2.2)).bind λwL=>
  some (!wL))) λo7=>
  (bif o7 then
  some ([],false)
 else
  (M.vf ab (ff.1,ff.2.1,ff.2.2)).bind λr24=>
  (M.fV r24).bind λr35=>
  (bif !r35 then
  some ([],false)
 else
  some (r24,true)))
noncomputable def M.lj(cL:(List UInt8)×Int):Option ((List (Int×(List Int)×Int))×((List UInt8)×Int)):=
  (M.cV (cL.1,cL.2) ([4,6,8,3,1,0,20,12]:List Int)).bind λkV=>
  Option.bind (cu (fun (CB:((List UInt8)×(Int))×(List (Int×(List Int)×Int))×(Int))=>(bif decide (0<CB.2.2) then
  Option.bind ((M.jh (CB.1.1,CB.1.2)).bind λLr=>
  (M.lI CB.2.1 (Lr.1.1,Lr.1.2.1,Lr.1.2.2)).bind λr55=>
  (bif r55.2 then
  some ((Lr.2.1,Lr.2.2),r55.1)
 else
  some ((Lr.2.1,Lr.2.2),CB.2.1))) λWw=>
  some (.inl ((Ww.1.1,Ww.1.2),Ww.2,ao (CB.2.2 - 1)))
 else
  some (.inr ((CB.1.1,CB.1.2),CB.2.1)))) ((kV.2.1,kV.2.2),([]:List (Int×(List Int)×Int)),kV.1)) λHD=>
  some (HD.2,(HD.1.1,HD.1.2))
noncomputable def M.ml(cL:(List UInt8)×Int):Option ((List (Int×(List Int)×Int))×((List UInt8)×Int)):=
  (M.lj (cL.1,cL.2)).bind λr1=>
  (M.cn (r1.2.1,r1.2.2) 20).bind λru=>
  Option.bind ((bif ru.1==0 then
  (M.np (ru.2.1,ru.2.2)).bind λGv=>
  (nP r1.1 ([(Gv.1.1,Gv.1.2.1,Gv.1.2.2)]:List (Int×(List Int)×Int))).bind λSu=>
  some ((Gv.2.1,Gv.2.2),Su)
 else
  (bif ru.1==1 then
  (bif decide (0<(r1.1.length:Int)) then
  (M.cn (ru.2.1,ru.2.2) (r1.1.length:Int)).bind λr52=>
  (M.iE (r52.2.1,r52.2.2)).bind λr61=>
  (bu r1.1 r52.1).bind λx74=>
  some ((r61.2.1,r61.2.2),(r1.1.set r52.1.toNat (x74.1,r61.1,x74.2.2)))
 else
  some ((ru.2.1,ru.2.2),r1.1))
 else
  some ((ru.2.1,ru.2.2),r1.1)))) λHE=>
  some (HE.2,(HE.1.1,HE.1.2))
noncomputable def M.iu(gw:Int):Option Bool:=
  (bif decide (1<=gw) then
  some (decide (gw<=99))
 else
  some false)
noncomputable def M.nq(oX:Int):Option Bool:=
  (bif decide (0<=oX) then
  some (decide (oX<=15))
 else
  some false)
noncomputable def M.jr(bQ:Int×(List Int)×Int):Option Bool:=
  (M.iu bQ.1).bind λr4=>
  (bif r4 then
  (M.fv bQ.2.1).bind λj4=>
  (bif j4 then
  (M.nq bQ.2.2).bind λqY=>
  some qY
 else
  some false)
 else
  some false)
noncomputable def M.fW(ab:List (Int×(List Int)×Int)):Option Bool:=
  (bif decide (16<(ab.length:Int)) then
  some false
 else
  Option.bind (cu (fun (s3:(Int)×(Int))=>(bif decide (s3.2<(ab.length:Int)) then
  (bu ab s3.2).bind λx8=>
  Option.bind ((M.jr (x8.1,x8.2.1,x8.2.2)).bind λLp=>
  (bif !Lp then
  some true
 else
  some (decide (x8.1<=s3.1)))) λo29=>
  (bif o29 then
  some (.inr (.inr false))
 else
  some (.inl (x8.1,ao (s3.2+1))))
 else
  some (.inr (.inl ())))) (0,0)) (bm (λt41=>some true)
   (λt43=>some t43)))
noncomputable def M.cmp_isNaN_int(bQ:Int):Option Bool:=
 some (bQ != bQ)
noncomputable def M.gP(bQ:Int)(Sv:Int):Option Int:=
  (M.cmp_isNaN_int bQ).bind λr1=>
  (M.cmp_isNaN_int Sv).bind λr5=>
  (bif r1 then
  (bif r5 then
  some 0
 else
  some (-1))
 else
  (bif r5 then
  some 1
 else
  (bif decide (bQ<Sv) then
  some (-1)
 else
  (bif decide (Sv<bQ) then
  some 1
 else
  some 0))))
noncomputable def M.iG(bQ:Int×(List Int)×Int)(iH:Int):Option Int:=
 (M.gP bQ.1 iH).bind λr7=>
 some r7
end Go.Vs
namespace Go.Vs
end Go.Vs
namespace Go.Vs
end Go.Vs
namespace Go.Vs
end Go.Vs
namespace Go.Vs
end Go.Vs
namespace Go.Vs
noncomputable def M.aU(bQ:List (Int×(List Int)×Int))(ns:Int):Option (Int×Bool):=
  Option.bind (cu (fun (s2:(Int)×(Int))=>(bif decide (s2.1<s2.2) then
  (bu bQ (wk .i64 (rJ .u64 (wk .u64 (ao (s2.1+s2.2))) 1))).bind λx5=>
  (M.iG (x5.1,x5.2.1,x5.2.2) ns).bind λr15=>
  (bif decide (r15<0) then
  some (.inl (ao ((wk .i64 (rJ .u64 (wk .u64 (ao (s2.1+s2.2))) 1))+1),s2.2))
 else
  some (.inl (s2.1,wk .i64 (rJ .u64 (wk .u64 (ao (s2.1+s2.2))) 1))))
 else
  some (.inr s2.1))) (0,(bQ.length:Int))) λo1=>
  (bif decide (o1<(bQ.length:Int)) then
  (bu bQ o1).bind λuw=>
  (M.iG (uw.1,uw.2.1,uw.2.2) ns).bind λux=>
  some (o1,ux==0)
 else
  some (o1,false))
noncomputable def M.nt(ab:List (Int×(List Int)×Int))(iH:Int):Option (Int×Bool):=
 (M.aU ab iH).bind λr1=>
 some (r1.1,r1.2)
noncomputable def M.gH(iB:List Int):Option ((List Int)):=
 (nP ([]:List Int) iB).bind λE3=>
 some E3
noncomputable def M.kt(bQ:Int×(List Int)×Int):Option ((Int×(List Int)×Int)):=
 (M.gH bQ.2.1).bind λr7=>
 some (bQ.1,r7,bQ.2.2)
noncomputable def M.ju(ab:List (Int×(List Int)×Int)):Option ((List (Int×(List Int)×Int))):=
  (AE (ab.length:Int) ((0,[],0):Int×(List Int)×Int)).bind λxs1=>
  Option.bind (cu (fun (s8:(List (Int×(List Int)×Int))×(Int))=>(bif decide (s8.2<(ab.length:Int)) then
  (bu ab s8.2).bind λuv=>
  (M.kt (uv.1,uv.2.1,uv.2.2)).bind λuu=>
  (bu s8.1 s8.2).bind λx33=>
  some (.inl ((s8.1.set s8.2.toNat (uu.1,uu.2.1,uu.2.2)),ao (s8.2+1)))
 else
  some (.inr s8.1))) (xs1,0)) λo7=>
  some o7
noncomputable def M.qq(cL:(List UInt8)×Int):Option (Int×((List UInt8)×Int)):=
 (M.cV (cL.1,cL.2) ([1,2,3,5,16,4,0,17]:List Int)).bind λr5=>
 some (r5.1,(r5.2.1,r5.2.2))
noncomputable def M.lk(bN:Int):Option Bool:=
  (bif decide (1<=bN) then
  some (decide (bN<=4))
 else
  some false)
noncomputable def M.iR(P7:Int):Option Bool:=
  (bif decide (1<=P7) then
  some (decide (P7<=16))
 else
  some false)
noncomputable def M.gE(ab:List (Int×(List Int)×Int))(eK:Int)(iz:List Int)(zb:Int):Option Bool:=
  (M.fW ab).bind λr1=>
  (bif r1 then
  (M.lk eK).bind λr6=>
  (bif r6 then
  (M.fv iz).bind λrv=>
  (bif rv then
  (M.iR zb).bind λqY=>
  some qY
 else
  some false)
 else
  some false)
 else
  some false)
noncomputable def M.fz(dT:List (Int×Int))(ff:Int×Int):Option ((List (Int×Int))):=
 (nP dT ([(ff.1,ff.2)]:List (Int×Int))).bind λIQ=>
 some IQ
noncomputable def M.iA(dT:List (Int×Int)):Option Int:=
 some (dT.length:Int)
noncomputable def M.qs(nu:List Int):Option Int:=
  Option.bind (cu (fun (s2:(Int))=>(bif decide (s2<(nu.length:Int)) then
  (bu nu s2).bind λx5=>
  (bif x5 != 0 then
  some (.inr (.inr x5))
 else
  some (.inl (ao (s2+1))))
 else
  some (.inr (.inl ())))) 0) (bm (λt12=>some 0)
   (λt14=>some t14))
noncomputable def M.dt(eJ:Int×Int)(eU:Int×Int):Option Int:=
 (M.gP eJ.2 eU.2).bind λr7=>
 (M.gP eJ.1 eU.1).bind λP6=>
 (M.qs ([r7,P6]:List Int)).bind λr21=>
 some r21
noncomputable def M.dV(dT:List (Int×Int))(vW:Int)(zd:Int):Option Bool:=
 (bu dT vW).bind λx1=>
 (bu dT zd).bind λx8=>
 (M.dt (x1.1,x1.2) (x8.1,x8.2)).bind λqY=>
 some (decide (0<qY))
noncomputable def M.fH(dT:List (Int×Int))(vW:Int)(zd:Int):Option ((List (Int×Int))):=
 (bu dT zd).bind λx1=>
 (bu dT vW).bind λx8=>
 (bu dT vW).bind λUZ=>
 (bu (dT.set vW.toNat (x1.1,x1.2)) zd).bind λM8=>
 some ((dT.set vW.toNat (x1.1,x1.2)).set zd.toNat (x8.1,x8.2))
noncomputable def M.bz(dT:List (Int×Int))(j_1:Int):Option ((List (Int×Int))):=
  Option.bind (cu (fun (s2:(List (Int×Int))×(Int))=>Option.bind ((bif (ao ((ao (s2.2 - 1)).tdiv 2))==s2.2 then
  some true
 else
  (M.dV s2.1 s2.2 (ao ((ao (s2.2 - 1)).tdiv 2))).bind λr8=>
  some (!r8))) λo6=>
  (bif o6 then
  some (.inr s2.1)
 else
  (M.fH s2.1 (ao ((ao (s2.2 - 1)).tdiv 2)) s2.2).bind λwL=>
  some (.inl (wL,ao ((ao (s2.2 - 1)).tdiv 2))))) (dT,j_1)) λo1=>
  some o1
noncomputable def M.bP(dT:List (Int×Int))(ff:Int×Int):Option ((List (Int×Int))):=
 (M.fz dT (ff.1,ff.2)).bind λr1=>
 (M.iA r1).bind λr7=>
 (M.bz r1 (ao (r7 - 1))).bind λrv=>
 some rv
noncomputable def M.cR(dT:List (Int×Int))(xi:Int)(qn:Int):Option (Bool×(List (Int×Int))):=
  Option.bind (cu (fun (s2:(List (Int×Int))×(Int))=>Option.bind ((bif decide (qn<=(ao ((ao (2*s2.2))+1))) then
  some true
 else
  some (decide ((ao ((ao (2*s2.2))+1))<0)))) λo6=>
  (bif o6 then
  some (.inr (s2.1,s2.2))
 else
  Option.bind ((bif decide ((ao ((ao ((ao (2*s2.2))+1))+1))<qn) then
  (M.dV s2.1 (ao ((ao ((ao (2*s2.2))+1))+1)) (ao ((ao (2*s2.2))+1))).bind λru=>
  some ru
 else
  some false)) λwM=>
  Option.bind ((bif wM then
  some (ao ((ao ((ao (2*s2.2))+1))+1))
 else
  some (ao ((ao (2*s2.2))+1)))) λIN=>
  (M.dV s2.1 IN s2.2).bind λyo=>
  (bif !yo then
  some (.inr (s2.1,s2.2))
 else
  (M.fH s2.1 s2.2 IN).bind λze=>
  some (.inl (ze,IN))))) (dT,xi)) λo1=>
  some (decide (xi<o1.2),o1.1)
noncomputable def M.lJ(dT:List (Int×Int)):Option (((Int)×(Int))×(List (Int×Int))):=
 (bu dT (ao ((dT.length:Int) - 1))).bind λx3=>
 (eI dT 0 (ao ((dT.length:Int) - 1))).bind λLs=>
 some ((x3.1,x3.2),Ls)
noncomputable def M.cX(dT:List (Int×Int)):Option (((Int)×(Int))×(List (Int×Int))):=
 (M.iA dT).bind λr1=>
 (M.fH dT 0 (ao (r1 - 1))).bind λr5=>
 (M.cR r5 0 (ao (r1 - 1))).bind λj4=>
 (M.lJ j4.2).bind λrK=>
 some ((rK.1.1,rK.1.2),rK.2)
noncomputable def M.dF(mX:Int×(List (Int×Int)))(il:Int×Int):Option ((Int×(List (Int×Int)))):=
  (M.bP mX.2 (il.1,il.2)).bind λr5=>
  (bif decide (mX.1<(r5.length:Int)) then
  (M.cX r5).bind λr15=>
  some (mX.1,r15.2)
 else
  some (mX.1,r5))
noncomputable def M.fg(eJ:List (Int×Int))(eU:List (Int×Int)):Option Bool:=
  (bif (eJ.length:Int) != (eU.length:Int) then
  some false
 else
  Option.bind (cu (fun (s3:(Int))=>(bif decide (s3<(eJ.length:Int)) then
  (bu eJ s3).bind λx6=>
  (bu eU s3).bind λuv=>
  (bif !(([x6.1,x6.2]:List Int)==([uv.1,uv.2]:List Int)) then
  some (.inr (.inr false))
 else
  some (.inl (ao (s3+1))))
 else
  some (.inr (.inl ())))) 0) (bm (λt22=>some true)
   (λt24=>some t24)))
noncomputable def M.j8(ab:List (Int×(List Int)×Int))(eK:Int)(iz:List Int):Option Bool:=
  (M.fV ab).bind λr1=>
  (bif r1 then
  (M.lh eK).bind λr6=>
  (bif r6 then
  (M.kq iz).bind λrv=>
  some rv
 else
  some false)
 else
  some false)
noncomputable def M.jM(eJ:Int×Int)(eU:Int×Int):Option Bool:=
  (bif decide (eJ.2<eU.2) then
  some true
 else
  (bif eJ.2==eU.2 then
  some (decide (eJ.1<eU.1))
 else
  some false))
noncomputable def M.ln(ab:List (Int×Int))(il:Int×Int)(ue:Int):Option ((List (Int×Int))):=
  (nP ([]:List (Int×Int)) ab).bind λE3=>
  (nP E3 ([(il.1,il.2)]:List (Int×Int))).bind λD3=>
  Option.bind (cu (fun (gT:(List (Int×Int))×(Int))=>Option.bind ((bif decide (0<gT.2) then
  (bu gT.1 gT.2).bind λuw=>
  (bu gT.1 (ao (gT.2 - 1))).bind λxH=>
  (M.jM (uw.1,uw.2) (xH.1,xH.2)).bind λSr=>
  some Sr
 else
  some false)) λqt=>
  (bif qt then
  (bu gT.1 gT.2).bind λx44=>
  (bu gT.1 (ao (gT.2 - 1))).bind λM9=>
  (bu gT.1 gT.2).bind λx61=>
  (bu (gT.1.set gT.2.toNat (M9.1,M9.2)) (ao (gT.2 - 1))).bind λx68=>
  some (.inl (((gT.1.set gT.2.toNat (M9.1,M9.2)).set (ao (gT.2 - 1)).toNat (x44.1,x44.2)),ao (gT.2 - 1)))
 else
  some (.inr gT.1))) (D3,ao ((D3.length:Int) - 1))) λsn=>
  (eI sn 0 (min ue (sn.length:Int))).bind λagC=>
  some agC
noncomputable def M.lK(ab:List (Int×(List Int)×Int))(eK:Int)(iz:List Int)(zb:Int):Option ((List (Int×Int))):=
  Option.bind (cu (fun (s4:(List (Int×Int))×(Int))=>(bif decide (s4.2<(ab.length:Int)) then
  (bu ab s4.2).bind λx9=>
  (bu ab s4.2).bind λUZ=>
  (M.pX eK UZ.2.1 iz).bind λze=>
  (M.ln s4.1 (x9.1,ze) zb).bind λA2=>
  some (.inl (A2,ao (s4.2+1)))
 else
  some (.inr s4.1))) (([]:List (Int×Int)),0)) λo3=>
  some o3
noncomputable def M.sr(ab:List Int)(ve:Int):Option Bool:=
  Option.bind (cu (fun (s2:(Int))=>(bif decide (s2<(ab.length:Int)) then
  (bu ab s2).bind λx5=>
  (bif x5==ve then
  some (.inr (.inr true))
 else
  some (.inl (ao (s2+1))))
 else
  some (.inr (.inl ())))) 0) (bm (λt12=>some false)
   (λt14=>some t14))
noncomputable def M.ss(ab:List (Int×Int)):Option ((List Int)):=
  Option.bind (cu (fun (s4:(List Int)×(Int))=>(bif decide (s4.2<(ab.length:Int)) then
  (bu ab s4.2).bind λx9=>
  (nP s4.1 ([x9.1]:List Int)).bind λLt=>
  some (.inl (Lt,ao (s4.2+1)))
 else
  some (.inr s4.1))) (([]:List Int),0)) λo3=>
  some o3
end Go.Vs
namespace Go.Vs
noncomputable def M.dM(iB:List (Int×(List Int)×Int))(vW:Int)(zd:Int):Option ((List (Int×(List Int)×Int))):=
  (zG vW zd (iB.length:Int) iB.length).bind λo1=>
  (bif vW==zd then
  some iB
 else
  (eI iB 0 vW).bind λE3=>
  (eI iB zd (iB.length:Int)).bind λOR=>
  (nP E3 OR).bind λLt=>
  some Lt)
noncomputable def M.ku(ab:List (Int×(List Int)×Int))(iH:Int):Option ((List (Int×(List Int)×Int))×Bool):=
  (M.fW ab).bind λr1=>
  (bif !r1 then
  some ([],false)
 else
  (M.nt ab iH).bind λr6=>
  (bif !r6.2 then
  some ([],false)
 else
  (M.ju ab).bind λrv=>
  (M.dM rv r6.1 (ao (r6.1+1))).bind λrK=>
  some (rK,true)))
end Go.Vs
namespace Go.Vs
end Go.Vs
namespace Go.Vs
noncomputable def M.dA(iB:List (Int×Int)):Option Unit:=
 some ()
noncomputable def M.bB(rz:List (Int×Int)):Option (List (Int×Int)):=
 M.zr rz
noncomputable def M.bo(jS:List (Int×Int)):Option ((List (Int×Int))):=
 (M.bB jS).bind λr1=>
 some r1
noncomputable def M.bb(bQ:List (Int×Int)):Option (List (Int×Int)):=
 M.IE (λx y=>M.dt (x.1,x.2) (y.1,y.2)) bQ
noncomputable def M.aP(jS:List (Int×Int)):Option ((List (Int×Int))):=
 (M.bo jS).bind λr1=>
 (M.bb r1).bind λr7=>
 some r7
noncomputable def M.fh(mX:Int×(List (Int×Int))):Option ((List (Int×Int))):=
 (M.dA mX.2).bind λr2=>
 (M.aP mX.2).bind λr7=>
 some r7
noncomputable def M.dJ(bQ:Int×(List Int)×Int)(AG:Int)(DN:List Int):Option Int:=
 (M.kr AG bQ.2.1 DN).bind λr6=>
 some r6
noncomputable def M.dB(ab:List (Int×(List Int)×Int))(Wy:Int)(lq:Int)(dK:List Int):Option ((List (Int×Int))):=
  Option.bind (cu (fun (s5:((Int)×(List (Int×Int)))×(Int))=>(bif decide (s5.2<(ab.length:Int)) then
  (bu ab s5.2).bind λoK=>
  (M.dJ (oK.1,oK.2.1,oK.2.2) lq dK).bind λze=>
  (M.dF (s5.1.1,s5.1.2) (oK.1,ze)).bind λKg=>
  some (.inl ((Kg.1,Kg.2),ao (s5.2+1)))
 else
  some (.inr (s5.1.1,s5.1.2)))) ((Wy,[]),0)) λo4=>
  (M.fh (o4.1,o4.2)).bind λr40=>
  some r40
noncomputable def M.iX(ab:List (Int×(List Int)×Int))(eK:Int)(iz:List Int)(zb:Int):Option ((List (Int×Int))):=
 (M.dB ab zb eK iz).bind λr5=>
 some r5
noncomputable def M.im(ab:List (Int×(List Int)×Int))(eK:Int)(iz:List Int)(zb:Int):Option ((List (Int×Int))):=
  (M.gE ab eK iz zb).bind λr1=>
  (bif !r1 then
  some []
 else
  (M.iX ab eK iz zb).bind λr6=>
  some r6)
end Go.Vs
namespace Go.Vs
end Go.Vs
namespace Go.Vs
end Go.Vs
namespace Go.Vs
end Go.Vs
namespace Go.Vs
end Go.Vs
namespace Go.Vs
end Go.Vs
namespace Go.Vs
end Go.Vs
namespace Go.Vs
end Go.Vs
namespace Go.Vs
end Go.Vs
namespace Go.Vs
theorem CC{α:Type}{xs:List α}{l h:Nat}(h1:l<=h)(h2:h<=xs.length):eI xs (l:Int) (h:Int)=some ((xs.take h).drop l):=by
 unfold eI;rw [if_pos (by omega)];simp
end Go.Vs
namespace Go.Vs
end Go.Vs
namespace Go.Vs
end Go.Vs
namespace Go.Vs
end Go.Vs
namespace Go.Vs
end Go.Vs
namespace Go.Vs
end Go.Vs
namespace Go.Vs
noncomputable def M.jv(ab:List (Int×Int)):Option Bool:=
  Option.bind (cu (fun (s2:(Int))=>(bif decide (s2<(ab.length:Int)) then
  Option.bind ((bu ab s2).bind λx6=>
  (M.dE x6.1 1 99).bind λru=>
  (bif !ru then
  some true
 else
  (bu ab s2).bind λSy=>
  (M.dE Sy.2 0 1000000).bind λGv=>
  (bif !Gv then
  some true
 else
  (bif decide (0<s2) then
  (bu ab (ao (s2 - 1))).bind λxH=>
  (bu ab s2).bind λWz=>
  (M.jM (xH.1,xH.2) (Wz.1,Wz.2)).bind λE2=>
  some (!E2)
 else
  some false)))) λo5=>
  (bif o5 then
  some (.inr (.inr false))
 else
  Option.bind (cu (fun (Kh:(Int))=>(bif decide (Kh<s2) then
  (bu ab Kh).bind λx55=>
  (bu ab s2).bind λx61=>
  (bif x55.1==x61.1 then
  some (.inr (.inr false))
 else
  some (.inl (ao (Kh+1))))
 else
  some (.inr (.inl ())))) 0) (bm (λt70=>some (.inl (ao (s2+1))))
   (λt72=>some (.inr (.inr t72)))))
 else
  some (.inr (.inl ())))) 0) (bm (λt74=>some (decide ((ab.length:Int)<=16)))
   (λt76=>some t76))
noncomputable def M.nZ(ab:List (Int×Int))(iH:Int):Option Int:=
  Option.bind (cu (fun (s2:(Int))=>(bif decide (s2<(ab.length:Int)) then
  (bu ab s2).bind λx5=>
  (bif x5.1==iH then
  some (.inr (.inr s2))
 else
  some (.inl (ao (s2+1))))
 else
  some (.inr (.inl ())))) 0) (bm (λt12=>some (-1))
   (λt14=>some t14))
noncomputable def M.lr(eJ:List (Int×Int))(eU:List (Int×Int))(ue:Int):Option ((List (Int×Int))):=
  Option.bind ((M.jv eJ).bind λr4=>
  (bif !r4 then
  some true
 else
  (M.jv eU).bind λr9=>
  (bif !r9 then
  some true
 else
  (M.dE ue 1 16).bind λwL=>
  some (!wL)))) λo3=>
  (bif o3 then
  some []
 else
  Option.bind (cu (fun (qu:(List (Int×Int))×(Int))=>(bif decide (qu.2<(eJ.length:Int)) then
  Option.bind ((bu eJ qu.2).bind λx27=>
  (M.nZ eU x27.1).bind λBN=>
  Option.bind ((bif decide (BN<0) then
  some true
 else
  (bu eJ qu.2).bind λSz=>
  (bu eU BN).bind λx47=>
  some (decide (Sz.2<=x47.2)))) λo37=>
  (bif o37 then
  (bu eJ qu.2).bind λx57=>
  (M.ln qu.1 (x57.1,x57.2) ue).bind λr66=>
  some r66
 else
  some qu.1)) λHD=>
  some (.inl (HD,ao (qu.2+1)))
 else
  some (.inr qu.1))) (([]:List (Int×Int)),0)) λqt=>
  Option.bind (cu (fun (zf:(List (Int×Int))×(Int))=>(bif decide (zf.2<(eU.length:Int)) then
  Option.bind ((bu eU zf.2).bind λx85=>
  (M.nZ eJ x85.1).bind λYV=>
  Option.bind ((bif decide (YV<0) then
  some true
 else
  (bu eU zf.2).bind λx99=>
  (bu eJ YV).bind λSA=>
  some (decide (x99.2<SA.2)))) λo95=>
  (bif o95 then
  (bu eU zf.2).bind λSB=>
  (M.ln zf.1 (SB.1,SB.2) ue).bind λaav=>
  some aav
 else
  some zf.1)) λo84=>
  some (.inl (o84,ao (zf.2+1)))
 else
  some (.inr zf.1))) (qt,0)) λo78=>
  some o78)
end Go.Vs
namespace Go.Vs
noncomputable def M.lL(gw:Int)(aF:Int):Option Int:=
 some (ao ((ao (((ao (389*gw)).tmod 1009)*aF)).tdiv 1009))
noncomputable def M.j9(cL:(List UInt8)×Int):Option (Int×((List UInt8)×Int)):=
 (M.cV (cL.1,cL.2) ([1,2,3,4,8,0,9,5]:List Int)).bind λr5=>
 some (r5.1,(r5.2.1,r5.2.2))
noncomputable def M.kg(ab:List (Int×(List Int)×Int))(aF:Int)(qn:Int):Option ((List (Int×(List Int)×Int))):=
  Option.bind (cu (fun (s4:(List (Int×(List Int)×Int))×(Int))=>(bif decide (s4.2<(ab.length:Int)) then
  Option.bind ((bu ab s4.2).bind λoK=>
  (M.lL oK.1 aF).bind λqY=>
  (bif qY==qn then
  (bu ab s4.2).bind λM8=>
  (M.ir (M8.1,M8.2.1,M8.2.2)).bind λA2=>
  (nP s4.1 ([(A2.1,A2.2.1,A2.2.2)]:List (Int×(List Int)×Int))).bind λSu=>
  some Su
 else
  some s4.1)) λo9=>
  some (.inl (o9,ao (s4.2+1)))
 else
  some (.inr s4.1))) (([]:List (Int×(List Int)×Int)),0)) λo3=>
  some o3
noncomputable def M.dO(dp:List UInt8):Option ((List (Int×(List Int)×Int))×Int×Int×(List Int)×Int):=
 (M.lg dp).bind λr1=>
 (M.ml (r1.1,r1.2)).bind λr8=>
 (M.j9 (r8.2.1,r8.2.2)).bind λqY=>
 (M.nk (qY.2.1,qY.2.2)).bind λCE=>
 (M.iE (CE.2.1,CE.2.2)).bind λIS=>
 (M.qq (IS.2.1,IS.2.2)).bind λU2=>
 some (r8.1,qY.1,CE.1,IS.1,U2.1)
noncomputable def M.fa(ab:List (Int×(List Int)×Int))(aF:Int)(dY:Int)(gx:List Int)(su:Int):Option ((List (Int×Int))):=
  Option.bind ((M.j8 ab dY gx).bind λr4=>
  (bif !r4 then
  some true
 else
  (M.dE aF 1 8).bind λr9=>
  (bif !r9 then
  some true
 else
  (M.dE su 1 16).bind λwL=>
  some (!wL)))) λo3=>
  (bif o3 then
  some []
 else
  Option.bind (cu (fun (qu:(List (Int×Int))×(Int))=>(bif decide (qu.2<aF) then
  (M.kg ab aF qu.2).bind λIP=>
  (M.lK IP dY gx su).bind λLu=>
  (M.lr qu.1 Lu su).bind λE2=>
  some (.inl (E2,ao (qu.2+1)))
 else
  some (.inr qu.1))) (([]:List (Int×Int)),0)) λqt=>
  some qt)
end Go.Vs
namespace Go.Vs
end Go.Vs
namespace Go.Vs
end Go.Vs
namespace Go.Vs
end Go.Vs
namespace Go.Vs
noncomputable def M.mn(dT:Int×Int):Option Bool:=
  (M.iu dT.1).bind λr4=>
  (bif r4 then
  (bif decide (0<=dT.2) then
  some (decide (dT.2<=1000000))
 else
  some false)
 else
  some false)
noncomputable def M.jT(dT:Int×Int)(AG:Int):Option Bool:=
 some (dT.1==AG)
noncomputable def M.bS(iB:List (Int×Int))(AH:Int):Option Int:=
  Option.bind (cu (fun (s2:(Int))=>(bif decide (s2<(iB.length:Int)) then
  (bu iB s2).bind λx5=>
  (M.jT (x5.1,x5.2) AH).bind λru=>
  (bif ru then
  some (.inr (.inr s2))
 else
  some (.inl (ao (s2+1))))
 else
  some (.inr (.inl ())))) 0) (bm (λt17=>some (-1))
   (λt19=>some t19))
noncomputable def M.lM(ab:List (Int×Int))(iH:Int):Option Int:=
 (M.bS ab iH).bind λr3=>
 some r3
noncomputable def M.jw(ab:List (Int×Int)):Option Bool:=
  (bif decide (16<(ab.length:Int)) then
  some false
 else
  Option.bind (cu (fun (s3:(Int))=>(bif decide (s3<(ab.length:Int)) then
  (bu ab s3).bind λx6=>
  Option.bind ((M.mn (x6.1,x6.2)).bind λrK=>
  (bif !rK then
  some true
 else
  (bif decide (0<s3) then
  (bu ab (ao (s3 - 1))).bind λwK=>
  (M.dt (wK.1,wK.2) (x6.1,x6.2)).bind λBN=>
  some (decide (0<=BN))
 else
  some false))) λsn=>
  (bif sn then
  some (.inr (.inr false))
 else
  (eI ab 0 s3).bind λSC=>
  (M.lM SC x6.1).bind λr49=>
  (bif decide (0<=r49) then
  some (.inr (.inr false))
 else
  some (.inl (ao (s3+1)))))
 else
  some (.inr (.inl ())))) 0) (bm (λt54=>some true)
   (λt56=>some t56)))
noncomputable def M.dC(iB:List (Int×Int))(ve:Int):Option ((List (Int×Int))):=
  (bif decide (ve<0) then
  none
 else
  Option.bind ((bif decide (0<(ao (ve - (ao ((iB.length:Int) - (iB.length:Int)))))) then
  (eI iB 0 (iB.length:Int)).bind λE3=>
  (E0 E3 (ao (ve - (ao ((iB.length:Int) - (iB.length:Int))))) ((0,0):Int×Int)).bind λOR=>
  (eI OR 0 (iB.length:Int)).bind λLm=>
  some Lm
 else
  some iB)) λo2=>
  some o2)
noncomputable def M.cZ(du:List (List (Int×Int))):Option ((List (Int×Int))):=
  Option.bind (cu (fun (s2:(Int)×(Int))=>(bif decide (s2.2<(du.length:Int)) then
  (bu du s2.2).bind λx5=>
  (bif decide ((ao (s2.1+(x5.length:Int)))<0) then
  none
 else
  some (.inl (ao (s2.1+(x5.length:Int)),ao (s2.2+1))))
 else
  some (.inr s2.1))) (0,0)) λo1=>
  (M.dC ([]:List (Int×Int)) o1).bind λkV=>
  Option.bind (cu (fun (Lw:(List (Int×Int))×(Int))=>(bif decide (Lw.2<(du.length:Int)) then
  (bu du Lw.2).bind λxH=>
  (nP Lw.1 xH).bind λaaw=>
  some (.inl (aaw,ao (Lw.2+1)))
 else
  some (.inr Lw.1))) (kV,0)) λP8=>
  some P8
noncomputable def M.kh(eJ:List (Int×Int))(eU:List (Int×Int)):Option ((List (Int×Int))):=
  (M.cZ ([eJ,eU]:List (List (Int×Int)))).bind λr5=>
  (M.bb r5).bind λrv=>
  Option.bind (cu (fun (gT:(List (Int×Int))×(Int))=>(bif decide (gT.2<(rv.length:Int)) then
  Option.bind ((bu rv gT.2).bind λzI=>
  (M.lM gT.1 zI.1).bind λLu=>
  (bif decide (Lu<0) then
  (nP gT.1 ([(zI.1,zI.2)]:List (Int×Int))).bind λSD=>
  some SD
 else
  some gT.1)) λo22=>
  some (.inl (o22,ao (gT.2+1)))
 else
  some (.inr gT.1))) ([],0)) λsn=>
  some sn
noncomputable def M.jy(eJ:List (Int×Int))(eU:List (Int×Int))(ue:Int):Option ((List (Int×Int))):=
  Option.bind ((M.jw eJ).bind λr2=>
  (bif !r2 then
  some true
 else
  (M.jw eU).bind λr7=>
  (bif !r7 then
  some true
 else
  (M.iR ue).bind λru=>
  some (!ru)))) λo1=>
  (bif o1 then
  some []
 else
  (M.kh eJ eU).bind λrK=>
  (eI rK 0 (min ue (rK.length:Int))).bind λCF=>
  some CF)
end Go.Vs
namespace Go.Vs
end Go.Vs
namespace Go.Vs
end Go.Vs
namespace Go.Vs
end Go.Vs
namespace Go.Vs
end Go.Vs
namespace Go.Vs
noncomputable def M.eL(ki:Int):Option Bool:=
  (bif decide (1<=ki) then
  some (decide (ki<=8))
 else
  some false)
noncomputable def M.nz(gw:Int)(aF:Int):Option Int:=
  Option.bind ((M.iu gw).bind λr2=>
  (bif !r2 then
  some true
 else
  (M.eL aF).bind λr7=>
  some (!r7))) λo1=>
  (bif o1 then
  some (-1)
 else
  some (ao ((ao (((ao (389*gw)).tmod 1009)*aF)).tdiv 1009)))
noncomputable def M.gn(bQ:Int×(List Int)×Int)(AG:Int)(DN:Int):Option Bool:=
 (M.nz bQ.1 AG).bind λr5=>
 some (r5==DN)
noncomputable def M.cS(ab:List (Int×(List Int)×Int))(lu:Int)(ly:Int):Option ((List (Int×(List Int)×Int))):=
  Option.bind (cu (fun (s2:(List (Int×(List Int)×Int))×(Int))=>(bif decide (s2.2<(ab.length:Int)) then
  Option.bind ((bu ab s2.2).bind λx8=>
  (M.gn (x8.1,x8.2.1,x8.2.2) lu ly).bind λCE=>
  (bif CE then
  (nP s2.1 ([(x8.1,x8.2.1,x8.2.2)]:List (Int×(List Int)×Int))).bind λaax=>
  some aax
 else
  some s2.1)) λo7=>
  some (.inl (o7,ao (s2.2+1)))
 else
  some (.inr s2.1))) ([],0)) λo1=>
  some o1
noncomputable def M.fY(ab:List (Int×(List Int)×Int))(aF:Int)(qn:Int):Option ((List (Int×(List Int)×Int))):=
  Option.bind ((M.fW ab).bind λr6=>
  (bif !r6 then
  some true
 else
  (M.eL aF).bind λru=>
  some (!ru))) λo5=>
  (bif o5 then
  some []
 else
  (M.cS ab aF qn).bind λyo=>
  (M.ju yo).bind λIS=>
  some IS)
end Go.Vs
namespace Go.Vs
end Go.Vs
namespace Go.Vs
open Go
end Go.Vs
namespace Go.Vs
end Go.Vs
namespace Go.Vs
noncomputable def M.gK(ab:List (Int×(List Int)×Int))(aF:Int)(dY:Int)(gx:List Int)(su:Int):Option (List (List (Int×Int))):=
 (E1 (λi=>(M.fY ab aF (i:Int)).bind λt=>M.im t dY gx su) aF.toNat).bind λl=>some (l++List.replicate (8 - l.length) [])
noncomputable def M.fI(ab:List (Int×(List Int)×Int))(aF:Int)(dY:Int)(gx:List Int)(su:Int):Option ((List (Int×Int))):=
  Option.bind ((M.eL aF).bind λr2=>
  (bif !r2 then
  some true
 else
  (M.gE ab dY gx su).bind λr7=>
  some (!r7))) λo1=>
  (bif o1 then
  some []
 else
  (M.gK ab aF dY gx su).bind λP6=>
  Option.bind (cu (fun (D4:(List (Int×Int))×(Int))=>(bif decide (D4.2<8) then
  (bu P6 D4.2).bind λWA=>
  (M.jy D4.1 WA su).bind λBN=>
  some (.inl (BN,ao (D4.2+1)))
 else
  some (.inr D4.1))) ([],0)) λNa=>
  some Na)
noncomputable def M.po(dp:List UInt8):Option Bool:=
  (bif decide (1048576<(dp.length:Int)) then
  some true
 else
  (M.dO dp).bind λr2=>
  (M.fI r2.1 r2.2.1 r2.2.2.1 r2.2.2.2.1 r2.2.2.2.2).bind λj4=>
  Option.bind ((M.fa r2.1 r2.2.1 r2.2.2.1 r2.2.2.2.1 r2.2.2.2.2).bind λkV=>
  (M.fg j4 kV).bind λze=>
  (bif !ze then
  some true
 else
  (bif decide (r2.2.1<1) then
  some true
 else
  some (decide (8<r2.2.1))))) λsn=>
  (bif sn then
  (M.fa r2.1 r2.2.1 r2.2.2.1 r2.2.2.2.1 r2.2.2.2.2).bind λSr=>
  (M.fg j4 Sr).bind λr47=>
  some r47
 else
  (M.im r2.1 r2.2.2.1 r2.2.2.2.1 r2.2.2.2.2).bind λr55=>
  (M.fg r55 j4).bind λr65=>
  some r65))
noncomputable def M.gp(dp:List UInt8):Option Bool:=
  (bif decide (1048576<(dp.length:Int)) then
  some true
 else
  (M.dO dp).bind λr2=>
  (M.fI r2.1 r2.2.1 r2.2.2.1 r2.2.2.2.1 r2.2.2.2.2).bind λj4=>
  Option.bind ((M.fa r2.1 r2.2.1 r2.2.2.1 r2.2.2.2.1 r2.2.2.2.2).bind λkV=>
  (M.fg j4 kV).bind λze=>
  (bif !ze then
  some true
 else
  some ((j4.length:Int)==0))) λsn=>
  (bif sn then
  (M.fa r2.1 r2.2.1 r2.2.2.1 r2.2.2.2.1 r2.2.2.2.2).bind λU2=>
  (M.fg j4 U2).bind λr46=>
  some r46
 else
  (bu j4 0).bind λOQ=>
  (M.ku r2.1 OQ.1).bind λzg=>
  (M.fI zg.1 r2.2.1 r2.2.2.1 r2.2.2.2.1 r2.2.2.2.2).bind λoR=>
  (bif zg.2 then
  (M.ss oR).bind λIT=>
  (bu j4 0).bind λNb=>
  (M.sr IT Nb.1).bind λYW=>
  (bif !YW then
  (bif decide ((ao ((j4.length:Int) - 1))<=(oR.length:Int)) then
  (eI oR 0 (ao ((j4.length:Int) - 1))).bind λD5=>
  (eI j4 1 (j4.length:Int)).bind λwN=>
  (M.fg D5 wN).bind λWC=>
  some WC
 else
  some false)
 else
  some false)
 else
  some false)))
end Go.Vs
