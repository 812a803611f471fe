/- What the functions compute. -/
import Derived.Test.YtbpbncjammigdaaGreatAl
import Derived.Test.YtbpbncjammigdaaGreatEng1
import Derived.Test.YtbpbncjammigdaaGreatEng2
import Derived.Lib.Split
import Derived.Lib.Atoi
import Derived.Lib.Join
import Derived.Lib.ItoaNum
set_option linter.unusedVariables false
set_option linter.unusedSimpArgs false
namespace Go.Vs
noncomputable def M.cn(cL:(List UInt8)×Int)(u6:Int):Option (Int×((List UInt8)×Int)):=
  Option.bind ((bif decide (u6<1) then
  some true
 else
  some ((cL.1.length:Int)==0))) λo5=>
  (bif o5 then
  some (0,(cL.1,ao (cL.2+1)))
 else
  (bif decide ((ao ((ao (cL.2+1)) - 1))<(cL.1.length:Int)) then
  (bs cL.1 (ao ((ao (cL.2+1)) - 1))).bind λM3=>
  (F8 (ao (M3.toNat:Int)) u6).bind λq17=>
  some (q17,(cL.1,ao (cL.2+1)))
 else
  (F8 (ao ((ao (cL.2+1)) - 1)) (cL.1.length:Int)).bind λq19=>
  (bs cL.1 q19).bind λM4=>
  (F8 (ao ((ao ((ao ((ao (cL.2+1)) - 1))*7))+3)) (cL.1.length:Int)).bind λq26=>
  (bs cL.1 q26).bind λWj=>
  (Ov (ao ((ao (cL.2+1)) - 1)) (cL.1.length:Int)).bind λq33=>
  (F8 (FY (ao ((ao ((ao ((ao ((ao (M4.toNat:Int))*131))+(ao ((ao (Wj.toNat:Int))*1117))))+(ao ((ao ((ao (cL.2+1)) - 1))*29))))+(ao (q33*53)))) (ao ((ao ((ao ((ao ((ao ((ao (M4.toNat:Int))*131))+(ao ((ao (Wj.toNat:Int))*1117))))+(ao ((ao ((ao (cL.2+1)) - 1))*29))))+(ao (q33*53)))).tdiv 64))) u6).bind λq36=>
  some (q36,(cL.1,ao (cL.2+1)))))
noncomputable def M.cV(cL:(List UInt8)×Int)(kK:List Int):Option (Int×((List UInt8)×Int)):=
 (M.cn (cL.1,cL.2) (kK.length:Int)).bind λr1=>
 (bs kK r1.1).bind λx9=>
 some (x9,(r1.2.1,r1.2.2))
noncomputable def M.kZ(cL:(List UInt8)×Int):Option (Int×((List UInt8)×Int)):=
 (M.cn (cL.1,cL.2) 201).bind λr1=>
 (M.cn (r1.2.1,r1.2.2) 21).bind λr9=>
 (M.cV (r9.2.1,r9.2.2) ([0,1, -1,5, -7,10,3,100, -100,ao (r1.1 - 100),ao (r9.1 - 10)]:List Int)).bind λuo=>
 some (uo.1,(uo.2.1,uo.2.2))
noncomputable def M.gL(cL:(List UInt8)×Int):Option ((List Int)×((List UInt8)×Int)):=
  Option.bind (cu (fun (s7:((List UInt8)×(Int))×(List Int)×(Int))=>(bif decide (s7.2.2<4) then
  (M.kZ (s7.1.1,s7.1.2)).bind λrI=>
  (nP s7.2.1 ([rI.1]:List Int)).bind λagr=>
  some (.inl ((rI.2.1,rI.2.2),agr,ao (s7.2.2+1)))
 else
  some (.inr ((s7.1.1,s7.1.2),s7.2.1)))) ((cL.1,cL.2),([]:List Int),0)) λo6=>
  some (o6.2,(o6.1.1,o6.1.2))
noncomputable def M.km(ab:List Int):Option ((List Int)):=
 (nP ([]:List Int) ab).bind λxs6=>
 some xs6
noncomputable def M.iV(cL:(List UInt8)×Int)(kK:List Int)(qk:Int):Option ((List Int)×((List UInt8)×Int)):=
  (M.km kK).bind λr1=>
  (M.cn (cL.1,cL.2) 20).bind λr8=>
  Option.bind ((bif r8.1==0 then
  (nP r1 ([qk]:List Int)).bind λags=>
  some ((r8.2.1,r8.2.2),ags)
 else
  (bif r8.1==1 then
  (bif decide (0<(r1.length:Int)) then
  (eI r1 1 (r1.length:Int)).bind λagt=>
  some ((r8.2.1,r8.2.2),agt)
 else
  some ((r8.2.1,r8.2.2),r1))
 else
  (bif r8.1==2 then
  (bif decide (0<(r1.length:Int)) then
  (M.cn (r8.2.1,r8.2.2) (r1.length:Int)).bind λE0=>
  (M.cV (E0.2.1,E0.2.2) ([-1,qk,0,1]:List Int)).bind λr64=>
  (bs r1 E0.1).bind λx73=>
  some ((r64.2.1,r64.2.2),(r1.set E0.1.toNat r64.1))
 else
  some ((r8.2.1,r8.2.2),r1))
 else
  some ((r8.2.1,r8.2.2),r1))))) λII=>
  some (II.2,(II.1.1,II.1.2))
noncomputable def M.iE(cL:(List UInt8)×Int):Option ((List Int)×((List UInt8)×Int)):=
  (M.cn (cL.1,cL.2) 10).bind λr1=>
  (bif r1.1==0 then
  (M.gL (r1.2.1,r1.2.2)).bind λj4=>
  (M.iV (j4.2.1,j4.2.2) j4.1 101).bind λIJ=>
  some (IJ.1,(IJ.2.1,IJ.2.2))
 else
  (M.gL (r1.2.1,r1.2.2)).bind λSe=>
  some (Se.1,(Se.2.1,Se.2.2)))
noncomputable def M.k8(dm:List UInt8):Option (((List UInt8)×Int)):=
  Option.bind ((bif decide (2000<(dm.length:Int)) then
  (eI dm 0 2000).bind λIK=>
  some IK
 else
  some dm)) λo1=>
  some (o1,0)
noncomputable def M.jo(gu:List Int):Option Bool:=
  Option.bind (cu (fun (s2:(Int))=>(bif decide (s2<(gu.length:Int)) then
  (bs gu s2).bind λx5=>
  Option.bind ((bif decide (x5<(-100)) then
  some true
 else
  some (decide (100<x5)))) λWl=>
  (bif Wl then
  some (.inr (.inr false))
 else
  some (.inl (ao (s2+1))))
 else
  some (.inr (.inl ())))) 0) (bk (λt15=>some true)
   (λt17=>some t17))
noncomputable def M.fv(AU:List Int):Option Bool:=
  (bif (AU.length:Int)==4 then
  (M.jo AU).bind λr2=>
  some r2
 else
  some false)
noncomputable def M.dE(mW:Int)(rm:Int)(mD:Int):Option Bool:=
  (bif decide (rm<=mW) then
  some (decide (mW<=mD))
 else
  some false)
noncomputable def M.ql(ab:List Int)(rm:Int)(mD:Int):Option Bool:=
  Option.bind (cu (fun (s2:(Int))=>(bif decide (s2<(ab.length:Int)) then
  (bs ab s2).bind λx7=>
  (M.dE x7 rm mD).bind λrn=>
  (bif !rn then
  some (.inr (.inr false))
 else
  some (.inl (ao (s2+1))))
 else
  some (.inr (.inl ())))) 0) (bk (λt17=>some true)
   (λt19=>some t19))
noncomputable def M.ko(AU:List Int):Option Bool:=
  (bif (AU.length:Int)==4 then
  (M.ql AU (-100) 100).bind λr2=>
  some r2
 else
  some false)
noncomputable def M.nj(cL:(List UInt8)×Int):Option (Int×((List UInt8)×Int)):=
 (M.cV (cL.1,cL.2) ([1,2,3,4,1,2,3,4,1,2,0,5]:List Int)).bind λrq=>
 some (rq.1,(rq.2.1,rq.2.2))
noncomputable def M.j7(bN:Int)(rJ:List Int):Option Int:=
  Option.bind (cu (fun (s8:(Int)×(Int))=>(bif decide (s8.2<4) then
  Option.bind ((bs rJ s8.2).bind λuq=>
  (bif bN==1 then
  some (.inl (ao (s8.1+uq)))
 else
  (bif bN==2 then
  some (.inl (max s8.1 uq))
 else
  (bif bN==3 then
  some (.inl (ao (s8.1+(ao (uq*uq)))))
 else
  (bif bN==4 then
  some (.inl (ao (s8.1+(min uq 1))))
 else
  some (.inr (-1))))))) (bk (λt19=>some (.inl (t19,ao (s8.2+1))))
   (λt21=>some (.inr (.inr t21))))
 else
  some (.inr (.inl s8.1)))) (0,0)) (bk (λt23=>some t23)
   (λt25=>some t25))
noncomputable def M.oG(eJ:List Int)(eT:List Int):Option ((List Int)):=
  Option.bind (cu (fun (Si:(List Int)×(Int))=>(bif decide (Si.2<4) then
  (bs eJ Si.2).bind λx47=>
  (bs eT Si.2).bind λOM=>
  (bs eT Si.2).bind λx53=>
  (bs eJ Si.2).bind λHz=>
  (bs Si.1 Si.2).bind λx60=>
  some (.inl ((Si.1.set Si.2.toNat (max (ao (x47 - OM)) (ao (x53 - Hz)))),ao (Si.2+1)))
 else
  some (.inr Si.1))) ((List.replicate 4 0),0)) λo31=>
  some o31
noncomputable def M.kq(bN:Int)(ua:List Int)(vP:List Int):Option Int:=
  Option.bind ((M.fv ua).bind λr2=>
  (bif !r2 then
  some true
 else
  (M.fv vP).bind λr7=>
  some (!r7))) λo1=>
  (bif o1 then
  some (-1)
 else
  (Oz 4 ua).bind λLi=>
  (Oz 4 vP).bind λakt=>
  (M.oG (List.take 4 ua) (List.take 4 vP)).bind λKb=>
  (M.j7 bN Kb).bind λBI=>
  some BI)
noncomputable def M.k9(bN:Int):Option Bool:=
 (M.dE bN 1 4).bind λr1=>
 some r1
noncomputable def M.sf(mW:Int):Option Int:=
 some (max mW (ao (0 - mW)))
noncomputable def M.qm(b_0:Bool):Option Int:=
  (bif b_0 then
  some 1
 else
  some 0)
noncomputable def M.pU(bN:Int)(ua:List Int)(vP:List Int):Option Int:=
  Option.bind (cu (fun (s2:(Int)×(Int))=>(bif decide (s2.2<(ua.length:Int)) then
  Option.bind ((bs ua s2.2).bind λx9=>
  (bs vP s2.2).bind λx14=>
  (M.sf (ao (x9 - x14))).bind λyj=>
  (bif bN==1 then
  some (ao (s2.1+yj))
 else
  (bif bN==2 then
  some (max s2.1 yj)
 else
  (bif bN==3 then
  some (ao (s2.1+(ao (yj*yj))))
 else
  (M.qm (decide (0<yj))).bind λuo=>
  some (ao (s2.1+uo)))))) λo8=>
  some (.inl (o8,ao (s2.2+1)))
 else
  some (.inr s2.1))) (0,0)) λo1=>
  some o1
noncomputable def M.jf(cL:(List UInt8)×Int):Option ((Int×(List Int)×Int)×((List UInt8)×Int)):=
 (M.cn (cL.1,cL.2) 30).bind λr7=>
 (M.gL (r7.2.1,r7.2.2)).bind λqT=>
 (M.cn (qT.2.1,qT.2.2) 16).bind λKb=>
 some ((ao (1+r7.1),qT.1,Kb.1),(Kb.2.1,Kb.2.2))
noncomputable def M.nk(cL:(List UInt8)×Int):Option ((Int×(List Int)×Int)×((List UInt8)×Int)):=
  (M.jf (cL.1,cL.2)).bind λr7=>
  (M.cn (r7.2.1,r7.2.2) 16).bind λLj=>
  Option.bind ((bif Lj.1==0 then
  (M.cV (Lj.2.1,Lj.2.2) ([0,99,100]:List Int)).bind λDZ=>
  some ((DZ.2.1,DZ.2.2),(DZ.1,r7.1.2.1,r7.1.2.2))
 else
  (bif Lj.1==1 then
  (M.iE (Lj.2.1,Lj.2.2)).bind λr69=>
  some ((r69.2.1,r69.2.2),(r7.1.1,r69.1,r7.1.2.2))
 else
  (bif Lj.1==2 then
  (M.cV (Lj.2.1,Lj.2.2) ([-1,16]:List Int)).bind λaan=>
  some ((aan.2.1,aan.2.2),(r7.1.1,r7.1.2.1,aan.1))
 else
  some ((Lj.2.1,Lj.2.2),(r7.1.1,r7.1.2.1,r7.1.2.2)))))) λo40=>
  some ((o40.2.1,o40.2.2.1,o40.2.2.2),(o40.1.1,o40.1.2))
noncomputable def M.iF(bQ:Int×(List Int)×Int):Option Bool:=
  (M.dE bQ.1 1 99).bind λr7=>
  (bif r7 then
  (M.ko bQ.2.1).bind λP2=>
  (bif P2 then
  (M.dE bQ.2.2 0 15).bind λr19=>
  some r19
 else
  some false)
 else
  some false)
noncomputable def M.fV(ab:List (Int×(List Int)×Int)):Option Bool:=
  Option.bind (cu (fun (s2:(Int))=>(bif decide (s2<(ab.length:Int)) then
  Option.bind ((bs ab s2).bind λx8=>
  (M.iF (x8.1,x8.2.1,x8.2.2)).bind λr19=>
  (bif !r19 then
  some true
 else
  (bif decide (0<s2) then
  (bs ab s2).bind λwF=>
  (bs ab (ao (s2 - 1))).bind λxD=>
  some (decide (wF.1<=xD.1))
 else
  some false))) λo7=>
  (bif o7 then
  some (.inr (.inr false))
 else
  some (.inl (ao (s2+1))))
 else
  some (.inr (.inl ())))) 0) (bk (λt39=>some (decide ((ab.length:Int)<=16)))
   (λt42=>some t42))
noncomputable def M.iq(bQ:Int×(List Int)×Int):Option ((Int×(List Int)×Int)):=
 (M.km bQ.2.1).bind λwG=>
 some (bQ.1,wG,bQ.2.2)
noncomputable def M.u7(ab:List (Int×(List Int)×Int))(fe:Int×(List Int)×Int):Option ((List (Int×(List Int)×Int))):=
  Option.bind (cu (fun (vQ:(List (Int×(List Int)×Int))×(Int))=>(bif decide (vQ.2<(ab.length:Int)) then
  Option.bind ((bs ab vQ.2).bind λx26=>
  (bif decide (x26.1<fe.1) then
  (bs ab vQ.2).bind λx33=>
  (M.iq (x33.1,x33.2.1,x33.2.2)).bind λE0=>
  (nP vQ.1 ([(E0.1,E0.2.1,E0.2.2)]:List (Int×(List Int)×Int))).bind λagu=>
  some agu
 else
  some vQ.1)) λo25=>
  some (.inl (o25,ao (vQ.2+1)))
 else
  some (.inr vQ.1))) (([]:List (Int×(List Int)×Int)),0)) λzC=>
  (M.iq (fe.1,fe.2.1,fe.2.2)).bind λYM=>
  (nP zC ([(YM.1,YM.2.1,YM.2.2)]:List (Int×(List Int)×Int))).bind λac3=>
  Option.bind (cu (fun (Lk:(List (Int×(List Int)×Int))×(Int))=>(bif decide (Lk.2<(ab.length:Int)) then
  Option.bind ((bs ab Lk.2).bind λagv=>
  (bif decide (fe.1<agv.1) then
  (bs ab Lk.2).bind λaao=>
  (M.iq (aao.1,aao.2.1,aao.2.2)).bind λaap=>
  (nP Lk.1 ([(aap.1,aap.2.1,aap.2.2)]:List (Int×(List Int)×Int))).bind λac4=>
  some ac4
 else
  some Lk.1)) λagw=>
  some (.inl (agw,ao (Lk.2+1)))
 else
  some (.inr Lk.1))) (ac3,0)) λagx=>
  some agx
noncomputable def M.lE(ab:List (Int×(List Int)×Int))(fe:Int×(List Int)×Int):Option ((List (Int×(List Int)×Int))×Bool):=
  Option.bind ((M.fV ab).bind λr8=>
  (bif !r8 then
  some true
 else
  (M.iF (fe.1,fe.2.1,fe.2.2)).bind λwG=>
  some (!wG))) λo7=>
  (bif o7 then
  some ([],false)
 else
  (M.u7 ab (fe.1,fe.2.1,fe.2.2)).bind λr24=>
  (M.fV r24).bind λr35=>
  (bif !r35 then
  some ([],false)
 else
  some (r24,true)))
noncomputable def M.lf(cL:(List UInt8)×Int):Option ((List (Int×(List Int)×Int))×((List UInt8)×Int)):=
  (M.cV (cL.1,cL.2) ([4,6,8,3,1,0,20,12]:List Int)).bind λkS=>
  Option.bind (cu (fun (Cw:((List UInt8)×(Int))×(List (Int×(List Int)×Int))×(Int))=>(bif decide (0<Cw.2.2) then
  Option.bind ((M.jf (Cw.1.1,Cw.1.2)).bind λLl=>
  (M.lE Cw.2.1 (Ll.1.1,Ll.1.2.1,Ll.1.2.2)).bind λr55=>
  (bif r55.2 then
  some ((Ll.2.1,Ll.2.2),r55.1)
 else
  some ((Ll.2.1,Ll.2.2),Cw.2.1))) λWm=>
  some (.inl ((Wm.1.1,Wm.1.2),Wm.2,ao (Cw.2.2 - 1)))
 else
  some (.inr ((Cw.1.1,Cw.1.2),Cw.2.1)))) ((kS.2.1,kS.2.2),([]:List (Int×(List Int)×Int)),kS.1)) λHA=>
  some (HA.2,(HA.1.1,HA.1.2))
noncomputable def M.mh(cL:(List UInt8)×Int):Option ((List (Int×(List Int)×Int))×((List UInt8)×Int)):=
  (M.lf (cL.1,cL.2)).bind λr1=>
  (M.cn (r1.2.1,r1.2.2) 20).bind λrn=>
  Option.bind ((bif rn.1==0 then
  (M.nk (rn.2.1,rn.2.2)).bind λGs=>
  (nP r1.1 ([(Gs.1.1,Gs.1.2.1,Gs.1.2.2)]:List (Int×(List Int)×Int))).bind λSj=>
  some ((Gs.2.1,Gs.2.2),Sj)
 else
  (bif rn.1==1 then
  (bif decide (0<(r1.1.length:Int)) then
  (M.cn (rn.2.1,rn.2.2) (r1.1.length:Int)).bind λr52=>
  (M.iE (r52.2.1,r52.2.2)).bind λr61=>
  (bs r1.1 r52.1).bind λx74=>
  some ((r61.2.1,r61.2.2),(r1.1.set r52.1.toNat (x74.1,r61.1,x74.2.2)))
 else
  some ((rn.2.1,rn.2.2),r1.1))
 else
  some ((rn.2.1,rn.2.2),r1.1)))) λHB=>
  some (HB.2,(HB.1.1,HB.1.2))
noncomputable def M.ir(gv:Int):Option Bool:=
  (bif decide (1<=gv) then
  some (decide (gv<=99))
 else
  some false)
noncomputable def M.np(oU:Int):Option Bool:=
  (bif decide (0<=oU) then
  some (decide (oU<=15))
 else
  some false)
noncomputable def M.jq(bQ:Int×(List Int)×Int):Option Bool:=
  (M.ir bQ.1).bind λr4=>
  (bif r4 then
  (M.fv bQ.2.1).bind λj4=>
  (bif j4 then
  (M.np bQ.2.2).bind λqT=>
  some qT
 else
  some false)
 else
  some false)
noncomputable def M.fW(ab:List (Int×(List Int)×Int)):Option Bool:=
  (bif decide (16<(ab.length:Int)) then
  some false
 else
  Option.bind (cu (fun (s3:(Int)×(Int))=>(bif decide (s3.2<(ab.length:Int)) then
  (bs ab s3.2).bind λx8=>
  Option.bind ((M.jq (x8.1,x8.2.1,x8.2.2)).bind λLj=>
  (bif !Lj then
  some true
 else
  some (decide (x8.1<=s3.1)))) λo29=>
  (bif o29 then
  some (.inr (.inr false))
 else
  some (.inl (x8.1,ao (s3.2+1))))
 else
  some (.inr (.inl ())))) (0,0)) (bk (λt41=>some true)
   (λt43=>some t43)))
noncomputable def M.cmp_isNaN_int(bQ:Int):Option Bool:=
 some (bQ != bQ)
noncomputable def M.gM(bQ:Int)(Sk:Int):Option Int:=
  (M.cmp_isNaN_int bQ).bind λr1=>
  (M.cmp_isNaN_int Sk).bind λr5=>
  (bif r1 then
  (bif r5 then
  some 0
 else
  some (-1))
 else
  (bif r5 then
  some 1
 else
  (bif decide (bQ<Sk) then
  some (-1)
 else
  (bif decide (Sk<bQ) then
  some 1
 else
  some 0))))
noncomputable def M.iG(bQ:Int×(List Int)×Int)(iH:Int):Option Int:=
 (M.gM bQ.1 iH).bind λr7=>
 some r7
end Go.Vs
namespace Go.Vs
end Go.Vs
namespace Go.Vs
end Go.Vs
namespace Go.Vs
end Go.Vs
namespace Go.Vs
end Go.Vs
namespace Go.Vs
noncomputable def M.aT(bQ:List (Int×(List Int)×Int))(nq:Int):Option (Int×Bool):=
  Option.bind (cu (fun (s2:(Int)×(Int))=>(bif decide (s2.1<s2.2) then
  (bs bQ (wk .i64 (rH .u64 (wk .u64 (ao (s2.1+s2.2))) 1))).bind λx5=>
  (M.iG (x5.1,x5.2.1,x5.2.2) nq).bind λr15=>
  (bif decide (r15<0) then
  some (.inl (ao ((wk .i64 (rH .u64 (wk .u64 (ao (s2.1+s2.2))) 1))+1),s2.2))
 else
  some (.inl (s2.1,wk .i64 (rH .u64 (wk .u64 (ao (s2.1+s2.2))) 1))))
 else
  some (.inr s2.1))) (0,(bQ.length:Int))) λo1=>
  (bif decide (o1<(bQ.length:Int)) then
  (bs bQ o1).bind λur=>
  (M.iG (ur.1,ur.2.1,ur.2.2) nq).bind λuu=>
  some (o1,uu==0)
 else
  some (o1,false))
noncomputable def M.ns(ab:List (Int×(List Int)×Int))(iH:Int):Option (Int×Bool):=
 (M.aT ab iH).bind λr1=>
 some (r1.1,r1.2)
noncomputable def M.gF(iA:List Int):Option ((List Int)):=
 (nP ([]:List Int) iA).bind λE1=>
 some E1
noncomputable def M.kr(bQ:Int×(List Int)×Int):Option ((Int×(List Int)×Int)):=
 (M.gF bQ.2.1).bind λr7=>
 some (bQ.1,r7,bQ.2.2)
noncomputable def M.jr(ab:List (Int×(List Int)×Int)):Option ((List (Int×(List Int)×Int))):=
  (Az (ab.length:Int) ((0,[],0):Int×(List Int)×Int)).bind λxs1=>
  Option.bind (cu (fun (s8:(List (Int×(List Int)×Int))×(Int))=>(bif decide (s8.2<(ab.length:Int)) then
  (bs ab s8.2).bind λuq=>
  (M.kr (uq.1,uq.2.1,uq.2.2)).bind λuo=>
  (bs s8.1 s8.2).bind λx33=>
  some (.inl ((s8.1.set s8.2.toNat (uo.1,uo.2.1,uo.2.2)),ao (s8.2+1)))
 else
  some (.inr s8.1))) (xs1,0)) λo7=>
  some o7
noncomputable def M.qn(cL:(List UInt8)×Int):Option (Int×((List UInt8)×Int)):=
 (M.cV (cL.1,cL.2) ([1,2,3,5,16,4,0,17]:List Int)).bind λr5=>
 some (r5.1,(r5.2.1,r5.2.2))
noncomputable def M.lg(bN:Int):Option Bool:=
  (bif decide (1<=bN) then
  some (decide (bN<=4))
 else
  some false)
noncomputable def M.iQ(P3:Int):Option Bool:=
  (bif decide (1<=P3) then
  some (decide (P3<=16))
 else
  some false)
noncomputable def M.gD(ab:List (Int×(List Int)×Int))(eK:Int)(iy:List Int)(y6:Int):Option Bool:=
  (M.fW ab).bind λr1=>
  (bif r1 then
  (M.lg eK).bind λr6=>
  (bif r6 then
  (M.fv iy).bind λrq=>
  (bif rq then
  (M.iQ y6).bind λqT=>
  some qT
 else
  some false)
 else
  some false)
 else
  some false)
noncomputable def M.fz(dT:List (Int×Int))(fe:Int×Int):Option ((List (Int×Int))):=
 (nP dT ([(fe.1,fe.2)]:List (Int×Int))).bind λIK=>
 some IK
noncomputable def M.iz(dT:List (Int×Int)):Option Int:=
 some (dT.length:Int)
noncomputable def M.qo(nt:List Int):Option Int:=
  Option.bind (cu (fun (s2:(Int))=>(bif decide (s2<(nt.length:Int)) then
  (bs nt s2).bind λx5=>
  (bif x5 != 0 then
  some (.inr (.inr x5))
 else
  some (.inl (ao (s2+1))))
 else
  some (.inr (.inl ())))) 0) (bk (λt12=>some 0)
   (λt14=>some t14))
noncomputable def M.dp(eJ:Int×Int)(eT:Int×Int):Option Int:=
 (M.gM eJ.2 eT.2).bind λr7=>
 (M.gM eJ.1 eT.1).bind λP2=>
 (M.qo ([r7,P2]:List Int)).bind λr21=>
 some r21
noncomputable def M.dV(dT:List (Int×Int))(vR:Int)(y7:Int):Option Bool:=
 (bs dT vR).bind λx1=>
 (bs dT y7).bind λx8=>
 (M.dp (x1.1,x1.2) (x8.1,x8.2)).bind λqT=>
 some (decide (0<qT))
noncomputable def M.fH(dT:List (Int×Int))(vR:Int)(y7:Int):Option ((List (Int×Int))):=
 (bs dT y7).bind λx1=>
 (bs dT vR).bind λx8=>
 (bs dT vR).bind λUR=>
 (bs (dT.set vR.toNat (x1.1,x1.2)) y7).bind λM4=>
 some ((dT.set vR.toNat (x1.1,x1.2)).set y7.toNat (x8.1,x8.2))
noncomputable def M.bu(dT:List (Int×Int))(j_1:Int):Option ((List (Int×Int))):=
  Option.bind (cu (fun (s2:(List (Int×Int))×(Int))=>Option.bind ((bif (ao ((ao (s2.2 - 1)).tdiv 2))==s2.2 then
  some true
 else
  (M.dV s2.1 s2.2 (ao ((ao (s2.2 - 1)).tdiv 2))).bind λr8=>
  some (!r8))) λo6=>
  (bif o6 then
  some (.inr s2.1)
 else
  (M.fH s2.1 (ao ((ao (s2.2 - 1)).tdiv 2)) s2.2).bind λwG=>
  some (.inl (wG,ao ((ao (s2.2 - 1)).tdiv 2))))) (dT,j_1)) λo1=>
  some o1
noncomputable def M.bP(dT:List (Int×Int))(fe:Int×Int):Option ((List (Int×Int))):=
 (M.fz dT (fe.1,fe.2)).bind λr1=>
 (M.iz r1).bind λr7=>
 (M.bu r1 (ao (r7 - 1))).bind λrq=>
 some rq
noncomputable def M.cR(dT:List (Int×Int))(xe:Int)(qk:Int):Option (Bool×(List (Int×Int))):=
  Option.bind (cu (fun (s2:(List (Int×Int))×(Int))=>Option.bind ((bif decide (qk<=(ao ((ao (2*s2.2))+1))) then
  some true
 else
  some (decide ((ao ((ao (2*s2.2))+1))<0)))) λo6=>
  (bif o6 then
  some (.inr (s2.1,s2.2))
 else
  Option.bind ((bif decide ((ao ((ao ((ao (2*s2.2))+1))+1))<qk) then
  (M.dV s2.1 (ao ((ao ((ao (2*s2.2))+1))+1)) (ao ((ao (2*s2.2))+1))).bind λrn=>
  some rn
 else
  some false)) λwH=>
  Option.bind ((bif wH then
  some (ao ((ao ((ao (2*s2.2))+1))+1))
 else
  some (ao ((ao (2*s2.2))+1)))) λII=>
  (M.dV s2.1 II s2.2).bind λyj=>
  (bif !yj then
  some (.inr (s2.1,s2.2))
 else
  (M.fH s2.1 s2.2 II).bind λy8=>
  some (.inl (y8,II))))) (dT,xe)) λo1=>
  some (decide (xe<o1.2),o1.1)
noncomputable def M.lF(dT:List (Int×Int)):Option (((Int)×(Int))×(List (Int×Int))):=
 (bs dT (ao ((dT.length:Int) - 1))).bind λx3=>
 (eI dT 0 (ao ((dT.length:Int) - 1))).bind λLm=>
 some ((x3.1,x3.2),Lm)
noncomputable def M.cX(dT:List (Int×Int)):Option (((Int)×(Int))×(List (Int×Int))):=
 (M.iz dT).bind λr1=>
 (M.fH dT 0 (ao (r1 - 1))).bind λr5=>
 (M.cR r5 0 (ao (r1 - 1))).bind λj4=>
 (M.lF j4.2).bind λrI=>
 some ((rI.1.1,rI.1.2),rI.2)
noncomputable def M.dF(mW:Int×(List (Int×Int)))(ij:Int×Int):Option ((Int×(List (Int×Int)))):=
  (M.bP mW.2 (ij.1,ij.2)).bind λr5=>
  (bif decide (mW.1<(r5.length:Int)) then
  (M.cX r5).bind λr15=>
  some (mW.1,r15.2)
 else
  some (mW.1,r5))
noncomputable def M.ff(eJ:List (Int×Int))(eT:List (Int×Int)):Option Bool:=
  (bif (eJ.length:Int) != (eT.length:Int) then
  some false
 else
  Option.bind (cu (fun (s3:(Int))=>(bif decide (s3<(eJ.length:Int)) then
  (bs eJ s3).bind λx6=>
  (bs eT s3).bind λuq=>
  (bif !(([x6.1,x6.2]:List Int)==([uq.1,uq.2]:List Int)) then
  some (.inr (.inr false))
 else
  some (.inl (ao (s3+1))))
 else
  some (.inr (.inl ())))) 0) (bk (λt22=>some true)
   (λt24=>some t24)))
noncomputable def M.j8(ab:List (Int×(List Int)×Int))(eK:Int)(iy:List Int):Option Bool:=
  (M.fV ab).bind λr1=>
  (bif r1 then
  (M.k9 eK).bind λr6=>
  (bif r6 then
  (M.ko iy).bind λrq=>
  some rq
 else
  some false)
 else
  some false)
noncomputable def M.jL(eJ:Int×Int)(eT:Int×Int):Option Bool:=
  (bif decide (eJ.2<eT.2) then
  some true
 else
  (bif eJ.2==eT.2 then
  some (decide (eJ.1<eT.1))
 else
  some false))
noncomputable def M.lh(ab:List (Int×Int))(ij:Int×Int)(ub:Int):Option ((List (Int×Int))):=
  (nP ([]:List (Int×Int)) ab).bind λE1=>
  (nP E1 ([(ij.1,ij.2)]:List (Int×Int))).bind λD1=>
  Option.bind (cu (fun (gQ:(List (Int×Int))×(Int))=>Option.bind ((bif decide (0<gQ.2) then
  (bs gQ.1 gQ.2).bind λur=>
  (bs gQ.1 (ao (gQ.2 - 1))).bind λxD=>
  (M.jL (ur.1,ur.2) (xD.1,xD.2)).bind λSe=>
  some Se
 else
  some false)) λqp=>
  (bif qp then
  (bs gQ.1 gQ.2).bind λx44=>
  (bs gQ.1 (ao (gQ.2 - 1))).bind λM5=>
  (bs gQ.1 gQ.2).bind λx61=>
  (bs (gQ.1.set gQ.2.toNat (M5.1,M5.2)) (ao (gQ.2 - 1))).bind λx68=>
  some (.inl (((gQ.1.set gQ.2.toNat (M5.1,M5.2)).set (ao (gQ.2 - 1)).toNat (x44.1,x44.2)),ao (gQ.2 - 1)))
 else
  some (.inr gQ.1))) (D1,ao ((D1.length:Int) - 1))) λsg=>
  (eI sg 0 (min ub (sg.length:Int))).bind λagy=>
  some agy
noncomputable def M.lG(ab:List (Int×(List Int)×Int))(eK:Int)(iy:List Int)(y6:Int):Option ((List (Int×Int))):=
  Option.bind (cu (fun (s4:(List (Int×Int))×(Int))=>(bif decide (s4.2<(ab.length:Int)) then
  (bs ab s4.2).bind λx9=>
  (bs ab s4.2).bind λUR=>
  (M.pU eK UR.2.1 iy).bind λy8=>
  (M.lh s4.1 (x9.1,y8) y6).bind λAV=>
  some (.inl (AV,ao (s4.2+1)))
 else
  some (.inr s4.1))) (([]:List (Int×Int)),0)) λo3=>
  some o3
noncomputable def M.sh(ab:List Int)(u6:Int):Option Bool:=
  Option.bind (cu (fun (s2:(Int))=>(bif decide (s2<(ab.length:Int)) then
  (bs ab s2).bind λx5=>
  (bif x5==u6 then
  some (.inr (.inr true))
 else
  some (.inl (ao (s2+1))))
 else
  some (.inr (.inl ())))) 0) (bk (λt12=>some false)
   (λt14=>some t14))
noncomputable def M.si(ab:List (Int×Int)):Option ((List Int)):=
  Option.bind (cu (fun (s4:(List Int)×(Int))=>(bif decide (s4.2<(ab.length:Int)) then
  (bs ab s4.2).bind λx9=>
  (nP s4.1 ([x9.1]:List Int)).bind λLp=>
  some (.inl (Lp,ao (s4.2+1)))
 else
  some (.inr s4.1))) (([]:List Int),0)) λo3=>
  some o3
end Go.Vs
namespace Go.Vs
noncomputable def M.dM(iA:List (Int×(List Int)×Int))(vR:Int)(y7:Int):Option ((List (Int×(List Int)×Int))):=
  (zA vR y7 (iA.length:Int) iA.length).bind λo1=>
  (bif vR==y7 then
  some iA
 else
  (eI iA 0 vR).bind λE1=>
  (eI iA y7 (iA.length:Int)).bind λON=>
  (nP E1 ON).bind λLp=>
  some Lp)
noncomputable def M.kt(ab:List (Int×(List Int)×Int))(iH:Int):Option ((List (Int×(List Int)×Int))×Bool):=
  (M.fW ab).bind λr1=>
  (bif !r1 then
  some ([],false)
 else
  (M.ns ab iH).bind λr6=>
  (bif !r6.2 then
  some ([],false)
 else
  (M.jr ab).bind λrq=>
  (M.dM rq r6.1 (ao (r6.1+1))).bind λrI=>
  some (rI,true)))
end Go.Vs
namespace Go.Vs
end Go.Vs
namespace Go.Vs
noncomputable def M.dz(iA:List (Int×Int)):Option Unit:=
 some ()
noncomputable def M.bA(rr:List (Int×Int)):Option (List (Int×Int)):=
 M.zn rr
noncomputable def M.bm(jS:List (Int×Int)):Option ((List (Int×Int))):=
 (M.bA jS).bind λr1=>
 some r1
noncomputable def M.bb(bQ:List (Int×Int)):Option (List (Int×Int)):=
 M.Iz (λx y=>M.dp (x.1,x.2) (y.1,y.2)) bQ
noncomputable def M.aP(jS:List (Int×Int)):Option ((List (Int×Int))):=
 (M.bm jS).bind λr1=>
 (M.bb r1).bind λr7=>
 some r7
noncomputable def M.fg(mW:Int×(List (Int×Int))):Option ((List (Int×Int))):=
 (M.dz mW.2).bind λr2=>
 (M.aP mW.2).bind λr7=>
 some r7
noncomputable def M.dJ(bQ:Int×(List Int)×Int)(AB:Int)(DJ:List Int):Option Int:=
 (M.kq AB bQ.2.1 DJ).bind λr6=>
 some r6
noncomputable def M.dA(ab:List (Int×(List Int)×Int))(Wn:Int)(lj:Int)(dK:List Int):Option ((List (Int×Int))):=
  Option.bind (cu (fun (s5:((Int)×(List (Int×Int)))×(Int))=>(bif decide (s5.2<(ab.length:Int)) then
  (bs ab s5.2).bind λoH=>
  (M.dJ (oH.1,oH.2.1,oH.2.2) lj dK).bind λy8=>
  (M.dF (s5.1.1,s5.1.2) (oH.1,y8)).bind λKb=>
  some (.inl ((Kb.1,Kb.2),ao (s5.2+1)))
 else
  some (.inr (s5.1.1,s5.1.2)))) ((Wn,[]),0)) λo4=>
  (M.fg (o4.1,o4.2)).bind λr40=>
  some r40
noncomputable def M.iW(ab:List (Int×(List Int)×Int))(eK:Int)(iy:List Int)(y6:Int):Option ((List (Int×Int))):=
 (M.dA ab y6 eK iy).bind λr5=>
 some r5
noncomputable def M.ik(ab:List (Int×(List Int)×Int))(eK:Int)(iy:List Int)(y6:Int):Option ((List (Int×Int))):=
  (M.gD ab eK iy y6).bind λr1=>
  (bif !r1 then
  some []
 else
  (M.iW ab eK iy y6).bind λr6=>
  some r6)
end Go.Vs
namespace Go.Vs
end Go.Vs
namespace Go.Vs
end Go.Vs
namespace Go.Vs
end Go.Vs
namespace Go.Vs
end Go.Vs
namespace Go.Vs
end Go.Vs
namespace Go.Vs
end Go.Vs
namespace Go.Vs
end Go.Vs
namespace Go.Vs
end Go.Vs
namespace Go.Vs
theorem Cy{α:Type}{xs:List α}{l h:Nat}(h1:l<=h)(h2:h<=xs.length):eI xs (l:Int) (h:Int)=some ((xs.take h).drop l):=by
 unfold eI;rw [if_pos (by omega)];simp
end Go.Vs
namespace Go.Vs
end Go.Vs
namespace Go.Vs
end Go.Vs
namespace Go.Vs
end Go.Vs
namespace Go.Vs
end Go.Vs
namespace Go.Vs
end Go.Vs
namespace Go.Vs
noncomputable def M.ju(ab:List (Int×Int)):Option Bool:=
  Option.bind (cu (fun (s2:(Int))=>(bif decide (s2<(ab.length:Int)) then
  Option.bind ((bs ab s2).bind λx6=>
  (M.dE x6.1 1 99).bind λrn=>
  (bif !rn then
  some true
 else
  (bs ab s2).bind λSm=>
  (M.dE Sm.2 0 1000000).bind λGs=>
  (bif !Gs then
  some true
 else
  (bif decide (0<s2) then
  (bs ab (ao (s2 - 1))).bind λxD=>
  (bs ab s2).bind λWo=>
  (M.jL (xD.1,xD.2) (Wo.1,Wo.2)).bind λE0=>
  some (!E0)
 else
  some false)))) λo5=>
  (bif o5 then
  some (.inr (.inr false))
 else
  Option.bind (cu (fun (Kc:(Int))=>(bif decide (Kc<s2) then
  (bs ab Kc).bind λx55=>
  (bs ab s2).bind λx61=>
  (bif x55.1==x61.1 then
  some (.inr (.inr false))
 else
  some (.inl (ao (Kc+1))))
 else
  some (.inr (.inl ())))) 0) (bk (λt70=>some (.inl (ao (s2+1))))
   (λt72=>some (.inr (.inr t72)))))
 else
  some (.inr (.inl ())))) 0) (bk (λt74=>some (decide ((ab.length:Int)<=16)))
   (λt76=>some t76))
noncomputable def M.nX(ab:List (Int×Int))(iH:Int):Option Int:=
  Option.bind (cu (fun (s2:(Int))=>(bif decide (s2<(ab.length:Int)) then
  (bs ab s2).bind λx5=>
  (bif x5.1==iH then
  some (.inr (.inr s2))
 else
  some (.inl (ao (s2+1))))
 else
  some (.inr (.inl ())))) 0) (bk (λt12=>some (-1))
   (λt14=>some t14))
noncomputable def M.lk(eJ:List (Int×Int))(eT:List (Int×Int))(ub:Int):Option ((List (Int×Int))):=
  Option.bind ((M.ju eJ).bind λr4=>
  (bif !r4 then
  some true
 else
  (M.ju eT).bind λr9=>
  (bif !r9 then
  some true
 else
  (M.dE ub 1 16).bind λwG=>
  some (!wG)))) λo3=>
  (bif o3 then
  some []
 else
  Option.bind (cu (fun (qq:(List (Int×Int))×(Int))=>(bif decide (qq.2<(eJ.length:Int)) then
  Option.bind ((bs eJ qq.2).bind λx27=>
  (M.nX eT x27.1).bind λBI=>
  Option.bind ((bif decide (BI<0) then
  some true
 else
  (bs eJ qq.2).bind λSn=>
  (bs eT BI).bind λx47=>
  some (decide (Sn.2<=x47.2)))) λo37=>
  (bif o37 then
  (bs eJ qq.2).bind λx57=>
  (M.lh qq.1 (x57.1,x57.2) ub).bind λr66=>
  some r66
 else
  some qq.1)) λHA=>
  some (.inl (HA,ao (qq.2+1)))
 else
  some (.inr qq.1))) (([]:List (Int×Int)),0)) λqp=>
  Option.bind (cu (fun (y9:(List (Int×Int))×(Int))=>(bif decide (y9.2<(eT.length:Int)) then
  Option.bind ((bs eT y9.2).bind λx85=>
  (M.nX eJ x85.1).bind λYN=>
  Option.bind ((bif decide (YN<0) then
  some true
 else
  (bs eT y9.2).bind λx99=>
  (bs eJ YN).bind λSp=>
  some (decide (x99.2<Sp.2)))) λo95=>
  (bif o95 then
  (bs eT y9.2).bind λSq=>
  (M.lh y9.1 (Sq.1,Sq.2) ub).bind λaaq=>
  some aaq
 else
  some y9.1)) λo84=>
  some (.inl (o84,ao (y9.2+1)))
 else
  some (.inr y9.1))) (qp,0)) λo78=>
  some o78)
end Go.Vs
namespace Go.Vs
noncomputable def M.lH(gv:Int)(aD:Int):Option Int:=
 some (ao ((ao (((ao (389*gv)).tmod 1009)*aD)).tdiv 1009))
noncomputable def M.j9(cL:(List UInt8)×Int):Option (Int×((List UInt8)×Int)):=
 (M.cV (cL.1,cL.2) ([1,2,3,4,8,0,9,5]:List Int)).bind λr5=>
 some (r5.1,(r5.2.1,r5.2.2))
noncomputable def M.kg(ab:List (Int×(List Int)×Int))(aD:Int)(qk:Int):Option ((List (Int×(List Int)×Int))):=
  Option.bind (cu (fun (s4:(List (Int×(List Int)×Int))×(Int))=>(bif decide (s4.2<(ab.length:Int)) then
  Option.bind ((bs ab s4.2).bind λoH=>
  (M.lH oH.1 aD).bind λqT=>
  (bif qT==qk then
  (bs ab s4.2).bind λM4=>
  (M.iq (M4.1,M4.2.1,M4.2.2)).bind λAV=>
  (nP s4.1 ([(AV.1,AV.2.1,AV.2.2)]:List (Int×(List Int)×Int))).bind λSj=>
  some Sj
 else
  some s4.1)) λo9=>
  some (.inl (o9,ao (s4.2+1)))
 else
  some (.inr s4.1))) (([]:List (Int×(List Int)×Int)),0)) λo3=>
  some o3
noncomputable def M.dO(dm:List UInt8):Option ((List (Int×(List Int)×Int))×Int×Int×(List Int)×Int):=
 (M.k8 dm).bind λr1=>
 (M.mh (r1.1,r1.2)).bind λr8=>
 (M.j9 (r8.2.1,r8.2.2)).bind λqT=>
 (M.nj (qT.2.1,qT.2.2)).bind λCz=>
 (M.iE (Cz.2.1,Cz.2.2)).bind λIL=>
 (M.qn (IL.2.1,IL.2.2)).bind λUS=>
 some (r8.1,qT.1,Cz.1,IL.1,US.1)
noncomputable def M.eZ(ab:List (Int×(List Int)×Int))(aD:Int)(dY:Int)(gw:List Int)(sn:Int):Option ((List (Int×Int))):=
  Option.bind ((M.j8 ab dY gw).bind λr4=>
  (bif !r4 then
  some true
 else
  (M.dE aD 1 8).bind λr9=>
  (bif !r9 then
  some true
 else
  (M.dE sn 1 16).bind λwG=>
  some (!wG)))) λo3=>
  (bif o3 then
  some []
 else
  Option.bind (cu (fun (qq:(List (Int×Int))×(Int))=>(bif decide (qq.2<aD) then
  (M.kg ab aD qq.2).bind λIJ=>
  (M.lG IJ dY gw sn).bind λLq=>
  (M.lk qq.1 Lq sn).bind λE0=>
  some (.inl (E0,ao (qq.2+1)))
 else
  some (.inr qq.1))) (([]:List (Int×Int)),0)) λqp=>
  some qp)
end Go.Vs
namespace Go.Vs
end Go.Vs
namespace Go.Vs
end Go.Vs
namespace Go.Vs
end Go.Vs
namespace Go.Vs
noncomputable def M.mi(dT:Int×Int):Option Bool:=
  (M.ir dT.1).bind λr4=>
  (bif r4 then
  (bif decide (0<=dT.2) then
  some (decide (dT.2<=1000000))
 else
  some false)
 else
  some false)
noncomputable def M.jT(dT:Int×Int)(AB:Int):Option Bool:=
 some (dT.1==AB)
noncomputable def M.bS(iA:List (Int×Int))(AD:Int):Option Int:=
  Option.bind (cu (fun (s2:(Int))=>(bif decide (s2<(iA.length:Int)) then
  (bs iA s2).bind λx5=>
  (M.jT (x5.1,x5.2) AD).bind λrn=>
  (bif rn then
  some (.inr (.inr s2))
 else
  some (.inl (ao (s2+1))))
 else
  some (.inr (.inl ())))) 0) (bk (λt17=>some (-1))
   (λt19=>some t19))
noncomputable def M.lI(ab:List (Int×Int))(iH:Int):Option Int:=
 (M.bS ab iH).bind λr3=>
 some r3
noncomputable def M.jv(ab:List (Int×Int)):Option Bool:=
  (bif decide (16<(ab.length:Int)) then
  some false
 else
  Option.bind (cu (fun (s3:(Int))=>(bif decide (s3<(ab.length:Int)) then
  (bs ab s3).bind λx6=>
  Option.bind ((M.mi (x6.1,x6.2)).bind λrI=>
  (bif !rI then
  some true
 else
  (bif decide (0<s3) then
  (bs ab (ao (s3 - 1))).bind λwF=>
  (M.dp (wF.1,wF.2) (x6.1,x6.2)).bind λBI=>
  some (decide (0<=BI))
 else
  some false))) λsg=>
  (bif sg then
  some (.inr (.inr false))
 else
  (eI ab 0 s3).bind λSr=>
  (M.lI Sr x6.1).bind λr49=>
  (bif decide (0<=r49) then
  some (.inr (.inr false))
 else
  some (.inl (ao (s3+1)))))
 else
  some (.inr (.inl ())))) 0) (bk (λt54=>some true)
   (λt56=>some t56)))
noncomputable def M.dC(iA:List (Int×Int))(u6:Int):Option ((List (Int×Int))):=
  (bif decide (u6<0) then
  none
 else
  Option.bind ((bif decide (0<(ao (u6 - (ao ((iA.length:Int) - (iA.length:Int)))))) then
  (eI iA 0 (iA.length:Int)).bind λE1=>
  (EY E1 (ao (u6 - (ao ((iA.length:Int) - (iA.length:Int))))) ((0,0):Int×Int)).bind λON=>
  (eI ON 0 (iA.length:Int)).bind λLi=>
  some Li
 else
  some iA)) λo2=>
  some o2)
noncomputable def M.cZ(dt:List (List (Int×Int))):Option ((List (Int×Int))):=
  Option.bind (cu (fun (s2:(Int)×(Int))=>(bif decide (s2.2<(dt.length:Int)) then
  (bs dt s2.2).bind λx5=>
  (bif decide ((ao (s2.1+(x5.length:Int)))<0) then
  none
 else
  some (.inl (ao (s2.1+(x5.length:Int)),ao (s2.2+1))))
 else
  some (.inr s2.1))) (0,0)) λo1=>
  (M.dC ([]:List (Int×Int)) o1).bind λkS=>
  Option.bind (cu (fun (Lr:(List (Int×Int))×(Int))=>(bif decide (Lr.2<(dt.length:Int)) then
  (bs dt Lr.2).bind λxD=>
  (nP Lr.1 xD).bind λaar=>
  some (.inl (aar,ao (Lr.2+1)))
 else
  some (.inr Lr.1))) (kS,0)) λP4=>
  some P4
noncomputable def M.kh(eJ:List (Int×Int))(eT:List (Int×Int)):Option ((List (Int×Int))):=
  (M.cZ ([eJ,eT]:List (List (Int×Int)))).bind λr5=>
  (M.bb r5).bind λrq=>
  Option.bind (cu (fun (gQ:(List (Int×Int))×(Int))=>(bif decide (gQ.2<(rq.length:Int)) then
  Option.bind ((bs rq gQ.2).bind λzD=>
  (M.lI gQ.1 zD.1).bind λLq=>
  (bif decide (Lq<0) then
  (nP gQ.1 ([(zD.1,zD.2)]:List (Int×Int))).bind λSs=>
  some Ss
 else
  some gQ.1)) λo22=>
  some (.inl (o22,ao (gQ.2+1)))
 else
  some (.inr gQ.1))) ([],0)) λsg=>
  some sg
noncomputable def M.jw(eJ:List (Int×Int))(eT:List (Int×Int))(ub:Int):Option ((List (Int×Int))):=
  Option.bind ((M.jv eJ).bind λr2=>
  (bif !r2 then
  some true
 else
  (M.jv eT).bind λr7=>
  (bif !r7 then
  some true
 else
  (M.iQ ub).bind λrn=>
  some (!rn)))) λo1=>
  (bif o1 then
  some []
 else
  (M.kh eJ eT).bind λrI=>
  (eI rI 0 (min ub (rI.length:Int))).bind λCB=>
  some CB)
end Go.Vs
namespace Go.Vs
end Go.Vs
namespace Go.Vs
end Go.Vs
namespace Go.Vs
end Go.Vs
namespace Go.Vs
end Go.Vs
namespace Go.Vs
noncomputable def M.eL(ki:Int):Option Bool:=
  (bif decide (1<=ki) then
  some (decide (ki<=8))
 else
  some false)
noncomputable def M.nu(gv:Int)(aD:Int):Option Int:=
  Option.bind ((M.ir gv).bind λr2=>
  (bif !r2 then
  some true
 else
  (M.eL aD).bind λr7=>
  some (!r7))) λo1=>
  (bif o1 then
  some (-1)
 else
  some (ao ((ao (((ao (389*gv)).tmod 1009)*aD)).tdiv 1009)))
noncomputable def M.gn(bQ:Int×(List Int)×Int)(AB:Int)(DJ:Int):Option Bool:=
 (M.nu bQ.1 AB).bind λr5=>
 some (r5==DJ)
noncomputable def M.cS(ab:List (Int×(List Int)×Int))(ln:Int)(lq:Int):Option ((List (Int×(List Int)×Int))):=
  Option.bind (cu (fun (s2:(List (Int×(List Int)×Int))×(Int))=>(bif decide (s2.2<(ab.length:Int)) then
  Option.bind ((bs ab s2.2).bind λx8=>
  (M.gn (x8.1,x8.2.1,x8.2.2) ln lq).bind λCz=>
  (bif Cz then
  (nP s2.1 ([(x8.1,x8.2.1,x8.2.2)]:List (Int×(List Int)×Int))).bind λaas=>
  some aas
 else
  some s2.1)) λo7=>
  some (.inl (o7,ao (s2.2+1)))
 else
  some (.inr s2.1))) ([],0)) λo1=>
  some o1
noncomputable def M.fY(ab:List (Int×(List Int)×Int))(aD:Int)(qk:Int):Option ((List (Int×(List Int)×Int))):=
  Option.bind ((M.fW ab).bind λr6=>
  (bif !r6 then
  some true
 else
  (M.eL aD).bind λrn=>
  some (!rn))) λo5=>
  (bif o5 then
  some []
 else
  (M.cS ab aD qk).bind λyj=>
  (M.jr yj).bind λIL=>
  some IL)
end Go.Vs
namespace Go.Vs
end Go.Vs
namespace Go.Vs
open Go
end Go.Vs
namespace Go.Vs
end Go.Vs
namespace Go.Vs
noncomputable def M.gH(ab:List (Int×(List Int)×Int))(aD:Int)(dY:Int)(gw:List Int)(sn:Int):Option (List (List (Int×Int))):=
 (EZ (λi=>(M.fY ab aD (i:Int)).bind λt=>M.ik t dY gw sn) aD.toNat).bind λl=>some (l++List.replicate (8 - l.length) [])
noncomputable def M.fI(ab:List (Int×(List Int)×Int))(aD:Int)(dY:Int)(gw:List Int)(sn:Int):Option ((List (Int×Int))):=
  Option.bind ((M.eL aD).bind λr2=>
  (bif !r2 then
  some true
 else
  (M.gD ab dY gw sn).bind λr7=>
  some (!r7))) λo1=>
  (bif o1 then
  some []
 else
  (M.gH ab aD dY gw sn).bind λP2=>
  Option.bind (cu (fun (D2:(List (Int×Int))×(Int))=>(bif decide (D2.2<8) then
  (bs P2 D2.2).bind λWp=>
  (M.jw D2.1 Wp sn).bind λBI=>
  some (.inl (BI,ao (D2.2+1)))
 else
  some (.inr D2.1))) ([],0)) λM6=>
  some M6)
noncomputable def M.pk(dm:List UInt8):Option Bool:=
  (bif decide (1048576<(dm.length:Int)) then
  some true
 else
  (M.dO dm).bind λr2=>
  (M.fI r2.1 r2.2.1 r2.2.2.1 r2.2.2.2.1 r2.2.2.2.2).bind λj4=>
  Option.bind ((M.eZ r2.1 r2.2.1 r2.2.2.1 r2.2.2.2.1 r2.2.2.2.2).bind λkS=>
  (M.ff j4 kS).bind λy8=>
  (bif !y8 then
  some true
 else
  (bif decide (r2.2.1<1) then
  some true
 else
  some (decide (8<r2.2.1))))) λsg=>
  (bif sg then
  (M.eZ r2.1 r2.2.1 r2.2.2.1 r2.2.2.2.1 r2.2.2.2.2).bind λSe=>
  (M.ff j4 Se).bind λr47=>
  some r47
 else
  (M.ik r2.1 r2.2.2.1 r2.2.2.2.1 r2.2.2.2.2).bind λr55=>
  (M.ff r55 j4).bind λr65=>
  some r65))
noncomputable def M.gp(dm:List UInt8):Option Bool:=
  (bif decide (1048576<(dm.length:Int)) then
  some true
 else
  (M.dO dm).bind λr2=>
  (M.fI r2.1 r2.2.1 r2.2.2.1 r2.2.2.2.1 r2.2.2.2.2).bind λj4=>
  Option.bind ((M.eZ r2.1 r2.2.1 r2.2.2.1 r2.2.2.2.1 r2.2.2.2.2).bind λkS=>
  (M.ff j4 kS).bind λy8=>
  (bif !y8 then
  some true
 else
  some ((j4.length:Int)==0))) λsg=>
  (bif sg then
  (M.eZ r2.1 r2.2.1 r2.2.2.1 r2.2.2.2.1 r2.2.2.2.2).bind λUS=>
  (M.ff j4 US).bind λr46=>
  some r46
 else
  (bs j4 0).bind λOM=>
  (M.kt r2.1 OM.1).bind λza=>
  (M.fI za.1 r2.2.1 r2.2.2.1 r2.2.2.2.1 r2.2.2.2.2).bind λoO=>
  (bif za.2 then
  (M.si oO).bind λIM=>
  (bs j4 0).bind λM7=>
  (M.sh IM M7.1).bind λYO=>
  (bif !YO then
  (bif decide ((ao ((j4.length:Int) - 1))<=(oO.length:Int)) then
  (eI oO 0 (ao ((j4.length:Int) - 1))).bind λD3=>
  (eI j4 1 (j4.length:Int)).bind λwI=>
  (M.ff D3 wI).bind λWr=>
  some Wr
 else
  some false)
 else
  some false)
 else
  some false)))
end Go.Vs
