/- What the functions compute. -/
import Derived.Test.YtbpbncjammigdaaGreatAl
import Derived.Test.YtbpbncjammigdaaGreatEng1
import Derived.Test.YtbpbncjammigdaaGreatEng2
import Derived.Lib.Split
import Derived.Lib.Atoi
import Derived.Lib.Join
import Derived.Lib.ItoaNum
set_option linter.unusedVariables false
set_option linter.unusedSimpArgs false
namespace Go.Vs
noncomputable def M.bT(lj:(List UInt8)×Int)(Y2:Int):Option (Int×((List UInt8)×Int)):=
  Option.bind ((bif decide (Y2<1) then
  some true
 else
  some ((lj.1.length:Int)==0))) λo5=>
  (bif o5 then
  some (0,(lj.1,av (lj.2+1)))
 else
  (bif decide ((av ((av (lj.2+1)) - 1))<(lj.1.length:Int)) then
  (bF lj.1 (av ((av (lj.2+1)) - 1))).bind λJ7=>
  (DV (av (J7.toNat:Int)) Y2).bind λq17=>
  some (q17,(lj.1,av (lj.2+1)))
 else
  (DV (av ((av (lj.2+1)) - 1)) (lj.1.length:Int)).bind λq19=>
  (bF lj.1 q19).bind λMs=>
  (DV (av ((av ((av ((av (lj.2+1)) - 1))*7))+3)) (lj.1.length:Int)).bind λq26=>
  (bF lj.1 q26).bind λUB=>
  (ND (av ((av (lj.2+1)) - 1)) (lj.1.length:Int)).bind λq33=>
  (DV (DF (av ((av ((av ((av ((av (Ms.toNat:Int))*131))+(av ((av (UB.toNat:Int))*1117))))+(av ((av ((av (lj.2+1)) - 1))*29))))+(av (q33*53)))) (av ((av ((av ((av ((av ((av (Ms.toNat:Int))*131))+(av ((av (UB.toNat:Int))*1117))))+(av ((av ((av (lj.2+1)) - 1))*29))))+(av (q33*53)))).tdiv 64))) Y2).bind λq36=>
  some (q36,(lj.1,av (lj.2+1)))))
noncomputable def M.cO(lj:(List UInt8)×Int)(D6:List Int):Option (Int×((List UInt8)×Int)):=
 (M.bT (lj.1,lj.2) (D6.length:Int)).bind λr1=>
 (bF D6 r1.1).bind λx9=>
 some (x9,(r1.2.1,r1.2.2))
noncomputable def M.iT(lj:(List UInt8)×Int):Option (Int×((List UInt8)×Int)):=
 (M.bT (lj.1,lj.2) 201).bind λr1=>
 (M.bT (r1.2.1,r1.2.2) 21).bind λr9=>
 (M.cO (r9.2.1,r9.2.2) ([0,1, -1,5, -7,10,3,100, -100,av (r1.1 - 100),av (r9.1 - 10)]:List Int)).bind λqk=>
 some (qk.1,(qk.2.1,qk.2.2))
noncomputable def M.fl(lj:(List UInt8)×Int):Option ((List Int)×((List UInt8)×Int)):=
  Option.bind (cA (fun (s7:((List UInt8)×(Int))×(List Int)×(Int))=>(bif decide (s7.2.2<4) then
  (M.iT (s7.1.1,s7.1.2)).bind λmP=>
  (mA s7.2.1 ([mP.1]:List Int)).bind λafF=>
  some (.inl ((mP.2.1,mP.2.2),afF,av (s7.2.2+1)))
 else
  some (.inr ((s7.1.1,s7.1.2),s7.2.1)))) ((lj.1,lj.2),([]:List Int),0)) λo6=>
  some (o6.2,(o6.1.1,o6.1.2))
noncomputable def M.iB(aT:List Int):Option ((List Int)):=
 (mA ([]:List Int) aT).bind λxs6=>
 some xs6
noncomputable def M.gk(lj:(List UInt8)×Int)(D6:List Int)(UC:Int):Option ((List Int)×((List UInt8)×Int)):=
  (M.iB D6).bind λr1=>
  (M.bT (lj.1,lj.2) 20).bind λr8=>
  Option.bind ((bif r8.1==0 then
  (mA r1 ([UC]:List Int)).bind λafG=>
  some ((r8.2.1,r8.2.2),afG)
 else
  (bif r8.1==1 then
  (bif decide (0<(r1.length:Int)) then
  (fN r1 1 (r1.length:Int)).bind λafH=>
  some ((r8.2.1,r8.2.2),afH)
 else
  some ((r8.2.1,r8.2.2),r1))
 else
  (bif r8.1==2 then
  (bif decide (0<(r1.length:Int)) then
  (M.bT (r8.2.1,r8.2.2) (r1.length:Int)).bind λB3=>
  (M.cO (B3.2.1,B3.2.2) ([-1,UC,0,1]:List Int)).bind λr64=>
  (bF r1 B3.1).bind λx73=>
  some ((r64.2.1,r64.2.2),(r1.set B3.1.toNat r64.1))
 else
  some ((r8.2.1,r8.2.2),r1))
 else
  some ((r8.2.1,r8.2.2),r1))))) λGS=>
  some (GS.2,(GS.1.1,GS.1.2))
noncomputable def M.fO(lj:(List UInt8)×Int):Option ((List Int)×((List UInt8)×Int)):=
  (M.bT (lj.1,lj.2) 10).bind λr1=>
  (bif r1.1==0 then
  (M.fl (r1.2.1,r1.2.2)).bind λqO=>
  (M.gk (qO.2.1,qO.2.2) qO.1 101).bind λD7=>
  some (D7.1,(D7.2.1,D7.2.2))
 else
  (M.fl (r1.2.1,r1.2.2)).bind λPu=>
  some (Pu.1,(Pu.2.1,Pu.2.2)))
noncomputable def M.iU(qP:List UInt8):Option (((List UInt8)×Int)):=
  Option.bind ((bif decide (2000<(qP.length:Int)) then
  (fN qP 0 2000).bind λB4=>
  some B4
 else
  some qP)) λo1=>
  some (o1,0)
noncomputable def M.gK(Hz:List Int):Option Bool:=
  Option.bind (cA (fun (s2:(Int))=>(bif decide (s2<(Hz.length:Int)) then
  (bF Hz s2).bind λx5=>
  Option.bind ((bif decide (x5<(-100)) then
  some true
 else
  some (decide (100<x5)))) λPv=>
  (bif Pv then
  some (.inr (.inr false))
 else
  some (.inl (av (s2+1))))
 else
  some (.inr (.inl ())))) 0) (bz (λt15=>some true)
   (λt17=>some t17))
noncomputable def M.dZ(v_0:List Int):Option Bool:=
  (bif (v_0.length:Int)==4 then
  (M.gK v_0).bind λr2=>
  some r2
 else
  some false)
noncomputable def M.dp(NN:Int)(Qp:Int)(J8:Int):Option Bool:=
  (bif decide (Qp<=NN) then
  some (decide (NN<=J8))
 else
  some false)
noncomputable def M.nb(aT:List Int)(Qp:Int)(J8:Int):Option Bool:=
  Option.bind (cA (fun (s2:(Int))=>(bif decide (s2<(aT.length:Int)) then
  (bF aT s2).bind λx7=>
  (M.dp x7 Qp J8).bind λlg=>
  (bif !lg then
  some (.inr (.inr false))
 else
  some (.inl (av (s2+1))))
 else
  some (.inr (.inl ())))) 0) (bz (λt17=>some true)
   (λt19=>some t19))
noncomputable def M.iC(v_0:List Int):Option Bool:=
  (bif (v_0.length:Int)==4 then
  (M.nb v_0 (-100) 100).bind λr2=>
  some r2
 else
  some false)
noncomputable def M.kK(lj:(List UInt8)×Int):Option (Int×((List UInt8)×Int)):=
 (M.cO (lj.1,lj.2) ([1,2,3,4,1,2,3,4,1,2,0,5]:List Int)).bind λnK=>
 some (nK.1,(nK.2.1,nK.2.2))
noncomputable def M.iq(j9:Int)(Y3:List Int):Option Int:=
  Option.bind (cA (fun (s8:(Int)×(Int))=>(bif decide (s8.2<4) then
  Option.bind ((bF Y3 s8.2).bind λpI=>
  (bif j9==1 then
  some (.inl (av (s8.1+pI)))
 else
  (bif j9==2 then
  some (.inl (max s8.1 pI))
 else
  (bif j9==3 then
  some (.inl (av (s8.1+(av (pI*pI)))))
 else
  (bif j9==4 then
  some (.inl (av (s8.1+(min pI 1))))
 else
  some (.inr (-1))))))) (bz (λt19=>some (.inl (t19,av (s8.2+1))))
   (λt21=>some (.inr (.inr t21))))
 else
  some (.inr (.inl s8.1)))) (0,0)) (bz (λt23=>some t23)
   (λt25=>some t25))
noncomputable def M.lN(wN:List Int)(xl:List Int):Option ((List Int)):=
  Option.bind (cA (fun (Qq:(List Int)×(Int))=>(bif decide (Qq.2<4) then
  (bF wN Qq.2).bind λY4=>
  (bF xl Qq.2).bind λUD=>
  (bF xl Qq.2).bind λx53=>
  (bF wN Qq.2).bind λGU=>
  (bF Qq.1 Qq.2).bind λx60=>
  some (.inl ((Qq.1.set Qq.2.toNat (max (av (Y4 - UD)) (av (x53 - GU)))),av (Qq.2+1)))
 else
  some (.inr Qq.1))) ((List.replicate 4 0),0)) λo31=>
  some o31
noncomputable def M.iD(j9:Int)(a_1:List Int)(b_2:List Int):Option Int:=
  Option.bind ((M.dZ a_1).bind λr2=>
  (bif !r2 then
  some true
 else
  (M.dZ b_2).bind λr7=>
  some (!r7))) λo1=>
  (bif o1 then
  some (-1)
 else
  (NH 4 a_1).bind λJ9=>
  (NH 4 b_2).bind λajr=>
  (M.lN (List.take 4 a_1) (List.take 4 b_2)).bind λJy=>
  (M.iq j9 Jy).bind λxm=>
  some xm)
noncomputable def M.iV(j9:Int):Option Bool:=
 (M.dp j9 1 4).bind λr1=>
 some r1
noncomputable def M.oN(NN:Int):Option Int:=
 some (max NN (av (0 - NN)))
noncomputable def M.nc(b_0:Bool):Option Int:=
  (bif b_0 then
  some 1
 else
  some 0)
noncomputable def M.mQ(j9:Int)(a_1:List Int)(b_2:List Int):Option Int:=
  Option.bind (cA (fun (s2:(Int)×(Int))=>(bif decide (s2.2<(a_1.length:Int)) then
  Option.bind ((bF a_1 s2.2).bind λx9=>
  (bF b_2 s2.2).bind λY5=>
  (M.oN (av (x9 - Y5))).bind λtW=>
  (bif j9==1 then
  some (av (s2.1+tW))
 else
  (bif j9==2 then
  some (max s2.1 tW)
 else
  (bif j9==3 then
  some (av (s2.1+(av (tW*tW))))
 else
  (M.nc (decide (0<tW))).bind λqk=>
  some (av (s2.1+qk)))))) λo8=>
  some (.inl (o8,av (s2.2+1)))
 else
  some (.inr s2.1))) (0,0)) λo1=>
  some o1
noncomputable def M.gu(lj:(List UInt8)×Int):Option ((Int×(List Int)×Int)×((List UInt8)×Int)):=
 (M.bT (lj.1,lj.2) 30).bind λr7=>
 (M.fl (r7.2.1,r7.2.2)).bind λkF=>
 (M.bT (kF.2.1,kF.2.2) 16).bind λJy=>
 some ((av (1+r7.1),kF.1,Jy.1),(Jy.2.1,Jy.2.2))
noncomputable def M.kL(lj:(List UInt8)×Int):Option ((Int×(List Int)×Int)×((List UInt8)×Int)):=
  (M.gu (lj.1,lj.2)).bind λr7=>
  (M.bT (r7.2.1,r7.2.2) 16).bind λKa=>
  Option.bind ((bif Ka.1==0 then
  (M.cO (Ka.2.1,Ka.2.2) ([0,99,100]:List Int)).bind λAI=>
  some ((AI.2.1,AI.2.2),(AI.1,r7.1.2.1,r7.1.2.2))
 else
  (bif Ka.1==1 then
  (M.fO (Ka.2.1,Ka.2.2)).bind λr69=>
  some ((r69.2.1,r69.2.2),(r7.1.1,r69.1,r7.1.2.2))
 else
  (bif Ka.1==2 then
  (M.cO (Ka.2.1,Ka.2.2) ([-1,16]:List Int)).bind λY6=>
  some ((Y6.2.1,Y6.2.2),(r7.1.1,r7.1.2.1,Y6.1))
 else
  some ((Ka.2.1,Ka.2.2),(r7.1.1,r7.1.2.1,r7.1.2.2)))))) λXr=>
  some ((Xr.2.1,Xr.2.2.1,Xr.2.2.2),(Xr.1.1,Xr.1.2))
noncomputable def M.fP(vr:Int×(List Int)×Int):Option Bool:=
  (M.dp vr.1 1 99).bind λr7=>
  (bif r7 then
  (M.iC vr.2.1).bind λPw=>
  (bif Pw then
  (M.dp vr.2.2 0 15).bind λr19=>
  some r19
 else
  some false)
 else
  some false)
noncomputable def M.eH(aT:List (Int×(List Int)×Int)):Option Bool:=
  Option.bind (cA (fun (s2:(Int))=>(bif decide (s2<(aT.length:Int)) then
  Option.bind ((bF aT s2).bind λx8=>
  (M.fP (x8.1,x8.2.1,x8.2.2)).bind λr19=>
  (bif !r19 then
  some true
 else
  (bif decide (0<s2) then
  (bF aT s2).bind λsN=>
  (bF aT (av (s2 - 1))).bind λtX=>
  some (decide (sN.1<=tX.1))
 else
  some false))) λo7=>
  (bif o7 then
  some (.inr (.inr false))
 else
  some (.inl (av (s2+1))))
 else
  some (.inr (.inl ())))) 0) (bz (λt39=>some (decide ((aT.length:Int)<=16)))
   (λt42=>some t42))
noncomputable def M.fG(vr:Int×(List Int)×Int):Option ((Int×(List Int)×Int)):=
 (M.iB vr.2.1).bind λqQ=>
 some (vr.1,qQ,vr.2.2)
noncomputable def M.qR(aT:List (Int×(List Int)×Int))(GV:Int×(List Int)×Int):Option ((List (Int×(List Int)×Int))):=
  Option.bind (cA (fun (qS:(List (Int×(List Int)×Int))×(Int))=>(bif decide (qS.2<(aT.length:Int)) then
  Option.bind ((bF aT qS.2).bind λY7=>
  (bif decide (Y7.1<GV.1) then
  (bF aT qS.2).bind λx33=>
  (M.fG (x33.1,x33.2.1,x33.2.2)).bind λB3=>
  (mA qS.1 ([(B3.1,B3.2.1,B3.2.2)]:List (Int×(List Int)×Int))).bind λafI=>
  some afI
 else
  some qS.1)) λo25=>
  some (.inl (o25,av (qS.2+1)))
 else
  some (.inr qS.1))) (([]:List (Int×(List Int)×Int)),0)) λtY=>
  (M.fG (GV.1,GV.2.1,GV.2.2)).bind λXt=>
  (mA tY ([(Xt.1,Xt.2.1,Xt.2.2)]:List (Int×(List Int)×Int))).bind λabS=>
  Option.bind (cA (fun (Kb:(List (Int×(List Int)×Int))×(Int))=>(bif decide (Kb.2<(aT.length:Int)) then
  Option.bind ((bF aT Kb.2).bind λafJ=>
  (bif decide (GV.1<afJ.1) then
  (bF aT Kb.2).bind λY8=>
  (M.fG (Y8.1,Y8.2.1,Y8.2.2)).bind λY9=>
  (mA Kb.1 ([(Y9.1,Y9.2.1,Y9.2.2)]:List (Int×(List Int)×Int))).bind λabT=>
  some abT
 else
  some Kb.1)) λafK=>
  some (.inl (afK,av (Kb.2+1)))
 else
  some (.inr Kb.1))) (abS,0)) λafL=>
  some afL
noncomputable def M.jv(aT:List (Int×(List Int)×Int))(GV:Int×(List Int)×Int):Option ((List (Int×(List Int)×Int))×Bool):=
  Option.bind ((M.eH aT).bind λr8=>
  (bif !r8 then
  some true
 else
  (M.fP (GV.1,GV.2.1,GV.2.2)).bind λqQ=>
  some (!qQ))) λo7=>
  (bif o7 then
  some ([],false)
 else
  (M.qR aT (GV.1,GV.2.1,GV.2.2)).bind λr24=>
  (M.eH r24).bind λr35=>
  (bif !r35 then
  some ([],false)
 else
  some (r24,true)))
noncomputable def M.iW(lj:(List UInt8)×Int):Option ((List (Int×(List Int)×Int))×((List UInt8)×Int)):=
  (M.cO (lj.1,lj.2) ([4,6,8,3,1,0,20,12]:List Int)).bind λiP=>
  Option.bind (cA (fun (yr:((List UInt8)×(Int))×(List (Int×(List Int)×Int))×(Int))=>(bif decide (0<yr.2.2) then
  Option.bind ((M.gu (yr.1.1,yr.1.2)).bind λKc=>
  (M.jv yr.2.1 (Kc.1.1,Kc.1.2.1,Kc.1.2.2)).bind λXu=>
  (bif Xu.2 then
  some ((Kc.2.1,Kc.2.2),Xu.1)
 else
  some ((Kc.2.1,Kc.2.2),yr.2.1))) λUE=>
  some (.inl ((UE.1.1,UE.1.2),UE.2,av (yr.2.2 - 1)))
 else
  some (.inr ((yr.1.1,yr.1.2),yr.2.1)))) ((iP.2.1,iP.2.2),([]:List (Int×(List Int)×Int)),iP.1)) λD8=>
  some (D8.2,(D8.1.1,D8.1.2))
noncomputable def M.jO(lj:(List UInt8)×Int):Option ((List (Int×(List Int)×Int))×((List UInt8)×Int)):=
  (M.iW (lj.1,lj.2)).bind λr1=>
  (M.bT (r1.2.1,r1.2.2) 20).bind λlg=>
  Option.bind ((bif lg.1==0 then
  (M.kL (lg.2.1,lg.2.2)).bind λqG=>
  (mA r1.1 ([(qG.1.1,qG.1.2.1,qG.1.2.2)]:List (Int×(List Int)×Int))).bind λQr=>
  some ((qG.2.1,qG.2.2),Qr)
 else
  (bif lg.1==1 then
  (bif decide (0<(r1.1.length:Int)) then
  (M.bT (lg.2.1,lg.2.2) (r1.1.length:Int)).bind λr52=>
  (M.fO (r52.2.1,r52.2.2)).bind λr61=>
  (bF r1.1 r52.1).bind λx74=>
  some ((r61.2.1,r61.2.2),(r1.1.set r52.1.toNat (x74.1,r61.1,x74.2.2)))
 else
  some ((lg.2.1,lg.2.2),r1.1))
 else
  some ((lg.2.1,lg.2.2),r1.1)))) λxn=>
  some (xn.2,(xn.1.1,xn.1.2))
noncomputable def M.fH(yt:Int):Option Bool:=
  (bif decide (1<=yt) then
  some (decide (yt<=99))
 else
  some false)
noncomputable def M.kM(Qs:Int):Option Bool:=
  (bif decide (0<=Qs) then
  some (decide (Qs<=15))
 else
  some false)
noncomputable def M.gL(vr:Int×(List Int)×Int):Option Bool:=
  (M.fH vr.1).bind λr4=>
  (bif r4 then
  (M.dZ vr.2.1).bind λqO=>
  (bif qO then
  (M.kM vr.2.2).bind λkF=>
  some kF
 else
  some false)
 else
  some false)
noncomputable def M.fo(aT:List (Int×(List Int)×Int)):Option Bool:=
  (bif decide (16<(aT.length:Int)) then
  some false
 else
  Option.bind (cA (fun (s3:(Int)×(Int))=>(bif decide (s3.2<(aT.length:Int)) then
  (bF aT s3.2).bind λx8=>
  Option.bind ((M.gL (x8.1,x8.2.1,x8.2.2)).bind λKa=>
  (bif !Ka then
  some true
 else
  some (decide (x8.1<=s3.1)))) λo29=>
  (bif o29 then
  some (.inr (.inr false))
 else
  some (.inl (x8.1,av (s3.2+1))))
 else
  some (.inr (.inl ())))) (0,0)) (bz (λt41=>some true)
   (λt43=>some t43)))
noncomputable def M.cmp_isNaN_int(vr:Int):Option Bool:=
 some (vr != vr)
noncomputable def M.gb(vr:Int)(y_1:Int):Option Int:=
  (M.cmp_isNaN_int vr).bind λr1=>
  (M.cmp_isNaN_int y_1).bind λr5=>
  (bif r1 then
  (bif r5 then
  some 0
 else
  some (-1))
 else
  (bif r5 then
  some 1
 else
  (bif decide (vr<y_1) then
  some (-1)
 else
  (bif decide (y_1<vr) then
  some 1
 else
  some 0))))
end Go.Vs
namespace Go.Vs
end Go.Vs
namespace Go.Vs
end Go.Vs
namespace Go.Vs
end Go.Vs
namespace Go.Vs
end Go.Vs
namespace Go.Vs
noncomputable def M.fg(Mt:List Int):Option ((List Int)):=
 (mA ([]:List Int) Mt).bind λD9=>
 some D9
noncomputable def M.iE(vr:Int×(List Int)×Int):Option ((Int×(List Int)×Int)):=
 (M.fg vr.2.1).bind λr7=>
 some (vr.1,r7,vr.2.2)
noncomputable def M.iX(aT:List (Int×(List Int)×Int)):Option ((List (Int×(List Int)×Int))):=
  (wM (aT.length:Int) ((0,[],0):Int×(List Int)×Int)).bind λxs1=>
  Option.bind (cA (fun (s8:(List (Int×(List Int)×Int))×(Int))=>(bif decide (s8.2<(aT.length:Int)) then
  (bF aT s8.2).bind λpI=>
  (M.iE (pI.1,pI.2.1,pI.2.2)).bind λqk=>
  (bF s8.1 s8.2).bind λx33=>
  some (.inl ((s8.1.set s8.2.toNat (qk.1,qk.2.1,qk.2.2)),av (s8.2+1)))
 else
  some (.inr s8.1))) (xs1,0)) λo7=>
  some o7
noncomputable def M.nf(lj:(List UInt8)×Int):Option (Int×((List UInt8)×Int)):=
 (M.cO (lj.1,lj.2) ([1,2,3,5,16,4,0,17]:List Int)).bind λr5=>
 some (r5.1,(r5.2.1,r5.2.2))
noncomputable def M.iY(j9:Int):Option Bool:=
  (bif decide (1<=j9) then
  some (decide (j9<=4))
 else
  some false)
noncomputable def M.gh(k_0:Int):Option Bool:=
  (bif decide (1<=k_0) then
  some (decide (k_0<=16))
 else
  some false)
noncomputable def M.fe(aT:List (Int×(List Int)×Int))(ou:Int)(AJ:List Int)(Xv:Int):Option Bool:=
  (M.fo aT).bind λr1=>
  (bif r1 then
  (M.iY ou).bind λr6=>
  (bif r6 then
  (M.dZ AJ).bind λnK=>
  (bif nK then
  (M.gh Xv).bind λkF=>
  some kF
 else
  some false)
 else
  some false)
 else
  some false)
noncomputable def M.ef(sO:List (Int×Int))(GV:Int×Int):Option ((List (Int×Int))):=
 (mA sO ([(GV.1,GV.2)]:List (Int×Int))).bind λB4=>
 some B4
noncomputable def M.fM(sO:List (Int×Int)):Option Int:=
 some (sO.length:Int)
noncomputable def M.ng(Qu:List Int):Option Int:=
  Option.bind (cA (fun (s2:(Int))=>(bif decide (s2<(Qu.length:Int)) then
  (bF Qu s2).bind λx5=>
  (bif x5 != 0 then
  some (.inr (.inr x5))
 else
  some (.inl (av (s2+1))))
 else
  some (.inr (.inl ())))) 0) (bz (λt12=>some 0)
   (λt14=>some t14))
noncomputable def M.cX(wN:Int×Int)(xl:Int×Int):Option Int:=
 (M.gb wN.2 xl.2).bind λr7=>
 (M.gb wN.1 xl.1).bind λPw=>
 (M.ng ([r7,Pw]:List Int)).bind λXx=>
 some Xx
noncomputable def M.dA(sO:List (Int×Int))(i_1:Int)(j_2:Int):Option Bool:=
 (bF sO i_1).bind λx1=>
 (bF sO j_2).bind λx8=>
 (M.cX (x1.1,x1.2) (x8.1,x8.2)).bind λkF=>
 some (decide (0<kF))
noncomputable def M.ew(sO:List (Int×Int))(i_1:Int)(j_2:Int):Option ((List (Int×Int))):=
 (bF sO j_2).bind λx1=>
 (bF sO i_1).bind λx8=>
 (bF sO i_1).bind λKd=>
 (bF (sO.set i_1.toNat (x1.1,x1.2)) j_2).bind λMs=>
 some ((sO.set i_1.toNat (x1.1,x1.2)).set j_2.toNat (x8.1,x8.2))
noncomputable def M.bB(sO:List (Int×Int))(j_1:Int):Option ((List (Int×Int))):=
  Option.bind (cA (fun (s2:(List (Int×Int))×(Int))=>Option.bind ((bif (av ((av (s2.2 - 1)).tdiv 2))==s2.2 then
  some true
 else
  (M.dA s2.1 s2.2 (av ((av (s2.2 - 1)).tdiv 2))).bind λr8=>
  some (!r8))) λo6=>
  (bif o6 then
  some (.inr s2.1)
 else
  (M.ew s2.1 (av ((av (s2.2 - 1)).tdiv 2)) s2.2).bind λqQ=>
  some (.inl (qQ,av ((av (s2.2 - 1)).tdiv 2))))) (sO,j_1)) λo1=>
  some o1
noncomputable def M.bN(sO:List (Int×Int))(GV:Int×Int):Option ((List (Int×Int))):=
 (M.ef sO (GV.1,GV.2)).bind λr1=>
 (M.fM r1).bind λr7=>
 (M.bB r1 (av (r7 - 1))).bind λnK=>
 some nK
noncomputable def M.cI(sO:List (Int×Int))(abU:Int)(UC:Int):Option (Bool×(List (Int×Int))):=
  Option.bind (cA (fun (s2:(List (Int×Int))×(Int))=>Option.bind ((bif decide (UC<=(av ((av (2*s2.2))+1))) then
  some true
 else
  some (decide ((av ((av (2*s2.2))+1))<0)))) λo6=>
  (bif o6 then
  some (.inr (s2.1,s2.2))
 else
  Option.bind ((bif decide ((av ((av ((av (2*s2.2))+1))+1))<UC) then
  (M.dA s2.1 (av ((av ((av (2*s2.2))+1))+1)) (av ((av (2*s2.2))+1))).bind λlg=>
  some lg
 else
  some false)) λnM=>
  Option.bind ((bif nM then
  some (av ((av ((av (2*s2.2))+1))+1))
 else
  some (av ((av (2*s2.2))+1)))) λGS=>
  (M.dA s2.1 GS s2.2).bind λtW=>
  (bif !tW then
  some (.inr (s2.1,s2.2))
 else
  (M.ew s2.1 s2.2 GS).bind λvC=>
  some (.inl (vC,GS))))) (sO,abU)) λo1=>
  some (decide (abU<o1.2),o1.1)
noncomputable def M.jw(sO:List (Int×Int)):Option (((Int)×(Int))×(List (Int×Int))):=
 (bF sO (av ((sO.length:Int) - 1))).bind λx3=>
 (fN sO 0 (av ((sO.length:Int) - 1))).bind λKe=>
 some ((x3.1,x3.2),Ke)
noncomputable def M.cQ(sO:List (Int×Int)):Option (((Int)×(Int))×(List (Int×Int))):=
 (M.fM sO).bind λr1=>
 (M.ew sO 0 (av (r1 - 1))).bind λr5=>
 (M.cI r5 0 (av (r1 - 1))).bind λqO=>
 (M.jw qO.2).bind λmP=>
 some ((mP.1.1,mP.1.2),mP.2)
noncomputable def M.dq(NN:Int×(List (Int×Int)))(h_1:Int×Int):Option ((Int×(List (Int×Int)))):=
  (M.bN NN.2 (h_1.1,h_1.2)).bind λr5=>
  (bif decide (NN.1<(r5.length:Int)) then
  (M.cQ r5).bind λr15=>
  some (NN.1,r15.2)
 else
  some (NN.1,r5))
noncomputable def M.fQ(wN:List (Int×Int))(xl:List (Int×Int)):Option Bool:=
  (bif (wN.length:Int) != (xl.length:Int) then
  some false
 else
  Option.bind (cA (fun (s3:(Int))=>(bif decide (s3<(wN.length:Int)) then
  (bF wN s3).bind λx6=>
  (bF xl s3).bind λpI=>
  (bif !(([x6.1,x6.2]:List Int)==([pI.1,pI.2]:List Int)) then
  some (.inr (.inr false))
 else
  some (.inl (av (s3+1))))
 else
  some (.inr (.inl ())))) 0) (bz (λt22=>some true)
   (λt24=>some t24)))
noncomputable def M.ir(aT:List (Int×(List Int)×Int))(ou:Int)(AJ:List Int):Option Bool:=
  (M.eH aT).bind λr1=>
  (bif r1 then
  (M.iV ou).bind λr6=>
  (bif r6 then
  (M.iC AJ).bind λnK=>
  some nK
 else
  some false)
 else
  some false)
noncomputable def M.gT(wN:Int×Int)(xl:Int×Int):Option Bool:=
  (bif decide (wN.2<xl.2) then
  some true
 else
  (bif wN.2==xl.2 then
  some (decide (wN.1<xl.1))
 else
  some false))
noncomputable def M.iZ(aT:List (Int×Int))(h_1:Int×Int)(Xy:Int):Option ((List (Int×Int))):=
  (mA ([]:List (Int×Int)) aT).bind λD9=>
  (mA D9 ([(h_1.1,h_1.2)]:List (Int×Int))).bind λAK=>
  Option.bind (cA (fun (fh:(List (Int×Int))×(Int))=>Option.bind ((bif decide (0<fh.2) then
  (bF fh.1 fh.2).bind λvD=>
  (bF fh.1 (av (fh.2 - 1))).bind λtX=>
  (M.gT (vD.1,vD.2) (tX.1,tX.2)).bind λPu=>
  some Pu
 else
  some false)) λlO=>
  (bif lO then
  (bF fh.1 fh.2).bind λZa=>
  (bF fh.1 (av (fh.2 - 1))).bind λMv=>
  (bF fh.1 fh.2).bind λXz=>
  (bF (fh.1.set fh.2.toNat (Mv.1,Mv.2)) (av (fh.2 - 1))).bind λx68=>
  some (.inl (((fh.1.set fh.2.toNat (Mv.1,Mv.2)).set (av (fh.2 - 1)).toNat (Za.1,Za.2)),av (fh.2 - 1)))
 else
  some (.inr fh.1))) (AK,av ((AK.length:Int) - 1))) λmC=>
  (fN mC 0 (min Xy (mC.length:Int))).bind λafM=>
  some afM
noncomputable def M.jy(aT:List (Int×(List Int)×Int))(ou:Int)(AJ:List Int)(Xv:Int):Option ((List (Int×Int))):=
  Option.bind (cA (fun (s4:(List (Int×Int))×(Int))=>(bif decide (s4.2<(aT.length:Int)) then
  (bF aT s4.2).bind λx9=>
  (bF aT s4.2).bind λKd=>
  (M.mQ ou Kd.2.1 AJ).bind λvC=>
  (M.iZ s4.1 (x9.1,vC) Xv).bind λxo=>
  some (.inl (xo,av (s4.2+1)))
 else
  some (.inr s4.1))) (([]:List (Int×Int)),0)) λo3=>
  some o3
end Go.Vs
namespace Go.Vs
end Go.Vs
namespace Go.Vs
end Go.Vs
namespace Go.Vs
noncomputable def M.da(Mt:List (Int×Int)):Option Unit:=
 some ()
noncomputable def M.bD(UF:List (Int×Int)):Option (List (Int×Int)):=
 M.vE UF
noncomputable def M.bu(EA:List (Int×Int)):Option ((List (Int×Int))):=
 (M.bD EA).bind λr1=>
 some r1
noncomputable def M.bo(vr:List (Int×Int)):Option (List (Int×Int)):=
 M.Hx (λx y=>M.cX (x.1,x.2) (y.1,y.2)) vr
noncomputable def M.aW(EA:List (Int×Int)):Option ((List (Int×Int))):=
 (M.bu EA).bind λr1=>
 (M.bo r1).bind λr7=>
 some r7
noncomputable def M.dT(NN:Int×(List (Int×Int))):Option ((List (Int×Int))):=
 (M.da NN.2).bind λr2=>
 (M.aW NN.2).bind λr7=>
 some r7
noncomputable def M.du(vr:Int×(List Int)×Int)(p_1:Int)(p_2:List Int):Option Int:=
 (M.iD p_1 vr.2.1 p_2).bind λr6=>
 some r6
noncomputable def M.db(aT:List (Int×(List Int)×Int))(k_1:Int)(Qv:Int)(Qw:List Int):Option ((List (Int×Int))):=
  Option.bind (cA (fun (s5:((Int)×(List (Int×Int)))×(Int))=>(bif decide (s5.2<(aT.length:Int)) then
  (bF aT s5.2).bind λjP=>
  (M.du (jP.1,jP.2.1,jP.2.2) Qv Qw).bind λvC=>
  (M.dq (s5.1.1,s5.1.2) (jP.1,vC)).bind λJy=>
  some (.inl ((Jy.1,Jy.2),av (s5.2+1)))
 else
  some (.inr (s5.1.1,s5.1.2)))) ((k_1,[]),0)) λo4=>
  (M.dT (o4.1,o4.2)).bind λr40=>
  some r40
noncomputable def M.gm(aT:List (Int×(List Int)×Int))(ou:Int)(AJ:List Int)(Xv:Int):Option ((List (Int×Int))):=
 (M.db aT Xv ou AJ).bind λr5=>
 some r5
noncomputable def M.fC(aT:List (Int×(List Int)×Int))(ou:Int)(AJ:List Int)(Xv:Int):Option ((List (Int×Int))):=
  (M.fe aT ou AJ Xv).bind λr1=>
  (bif !r1 then
  some []
 else
  (M.gm aT ou AJ Xv).bind λr6=>
  some r6)
end Go.Vs
namespace Go.Vs
end Go.Vs
namespace Go.Vs
end Go.Vs
namespace Go.Vs
end Go.Vs
namespace Go.Vs
end Go.Vs
namespace Go.Vs
end Go.Vs
namespace Go.Vs
end Go.Vs
namespace Go.Vs
end Go.Vs
namespace Go.Vs
end Go.Vs
namespace Go.Vs
end Go.Vs
namespace Go.Vs
end Go.Vs
namespace Go.Vs
end Go.Vs
namespace Go.Vs
end Go.Vs
namespace Go.Vs
end Go.Vs
namespace Go.Vs
end Go.Vs
namespace Go.Vs
noncomputable def M.gM(aT:List (Int×Int)):Option Bool:=
  Option.bind (cA (fun (s2:(Int))=>(bif decide (s2<(aT.length:Int)) then
  Option.bind ((bF aT s2).bind λx6=>
  (M.dp x6.1 1 99).bind λlg=>
  (bif !lg then
  some true
 else
  (bF aT s2).bind λQx=>
  (M.dp Qx.2 0 1000000).bind λqG=>
  (bif !qG then
  some true
 else
  (bif decide (0<s2) then
  (bF aT (av (s2 - 1))).bind λtX=>
  (bF aT s2).bind λUG=>
  (M.gT (tX.1,tX.2) (UG.1,UG.2)).bind λB3=>
  some (!B3)
 else
  some false)))) λo5=>
  (bif o5 then
  some (.inr (.inr false))
 else
  Option.bind (cA (fun (HA:(Int))=>(bif decide (HA<s2) then
  (bF aT HA).bind λZb=>
  (bF aT s2).bind λXz=>
  (bif Zb.1==Xz.1 then
  some (.inr (.inr false))
 else
  some (.inl (av (HA+1))))
 else
  some (.inr (.inl ())))) 0) (bz (λt70=>some (.inl (av (s2+1))))
   (λt72=>some (.inr (.inr t72)))))
 else
  some (.inr (.inl ())))) 0) (bz (λt74=>some (decide ((aT.length:Int)<=16)))
   (λt76=>some t76))
noncomputable def M.lu(aT:List (Int×Int))(Qy:Int):Option Int:=
  Option.bind (cA (fun (s2:(Int))=>(bif decide (s2<(aT.length:Int)) then
  (bF aT s2).bind λx5=>
  (bif x5.1==Qy then
  some (.inr (.inr s2))
 else
  some (.inl (av (s2+1))))
 else
  some (.inr (.inl ())))) 0) (bz (λt12=>some (-1))
   (λt14=>some t14))
noncomputable def M.ja(wN:List (Int×Int))(xl:List (Int×Int))(Xy:Int):Option ((List (Int×Int))):=
  Option.bind ((M.gM wN).bind λr4=>
  (bif !r4 then
  some true
 else
  (M.gM xl).bind λr9=>
  (bif !r9 then
  some true
 else
  (M.dp Xy 1 16).bind λqQ=>
  some (!qQ)))) λo3=>
  (bif o3 then
  some []
 else
  Option.bind (cA (fun (mD:(List (Int×Int))×(Int))=>(bif decide (mD.2<(wN.length:Int)) then
  Option.bind ((bF wN mD.2).bind λx27=>
  (M.lu xl x27.1).bind λxm=>
  Option.bind ((bif decide (xm<0) then
  some true
 else
  (bF wN mD.2).bind λQz=>
  (bF xl xm).bind λY4=>
  some (decide (Qz.2<=Y4.2)))) λZc=>
  (bif Zc then
  (bF wN mD.2).bind λx57=>
  (M.iZ mD.1 (x57.1,x57.2) Xy).bind λr66=>
  some r66
 else
  some mD.1)) λD8=>
  some (.inl (D8,av (mD.2+1)))
 else
  some (.inr mD.1))) (([]:List (Int×Int)),0)) λlO=>
  Option.bind (cA (fun (ug:(List (Int×Int))×(Int))=>(bif decide (ug.2<(xl.length:Int)) then
  Option.bind ((bF xl ug.2).bind λx85=>
  (M.lu wN x85.1).bind λUH=>
  Option.bind ((bif decide (UH<0) then
  some true
 else
  (bF xl ug.2).bind λx99=>
  (bF wN UH).bind λQA=>
  some (decide (x99.2<QA.2)))) λo95=>
  (bif o95 then
  (bF xl ug.2).bind λQB=>
  (M.iZ ug.1 (QB.1,QB.2) Xy).bind λZd=>
  some Zd
 else
  some ug.1)) λXA=>
  some (.inl (XA,av (ug.2+1)))
 else
  some (.inr ug.1))) (lO,0)) λUI=>
  some UI)
end Go.Vs
namespace Go.Vs
noncomputable def M.jz(yt:Int)(dh:Int):Option Int:=
 some (av ((av (((av (389*yt)).tmod 1009)*dh)).tdiv 1009))
noncomputable def M.iu(lj:(List UInt8)×Int):Option (Int×((List UInt8)×Int)):=
 (M.cO (lj.1,lj.2) ([1,2,3,4,8,0,9,5]:List Int)).bind λr5=>
 some (r5.1,(r5.2.1,r5.2.2))
noncomputable def M.iw(aT:List (Int×(List Int)×Int))(dh:Int)(UC:Int):Option ((List (Int×(List Int)×Int))):=
  Option.bind (cA (fun (s4:(List (Int×(List Int)×Int))×(Int))=>(bif decide (s4.2<(aT.length:Int)) then
  Option.bind ((bF aT s4.2).bind λjP=>
  (M.jz jP.1 dh).bind λkF=>
  (bif kF==UC then
  (bF aT s4.2).bind λMs=>
  (M.fG (Ms.1,Ms.2.1,Ms.2.2)).bind λxo=>
  (mA s4.1 ([(xo.1,xo.2.1,xo.2.2)]:List (Int×(List Int)×Int))).bind λQr=>
  some Qr
 else
  some s4.1)) λo9=>
  some (.inl (o9,av (s4.2+1)))
 else
  some (.inr s4.1))) (([]:List (Int×(List Int)×Int)),0)) λo3=>
  some o3
noncomputable def M.dQ(qP:List UInt8):Option ((List (Int×(List Int)×Int))×Int×Int×(List Int)×Int):=
 (M.iU qP).bind λr1=>
 (M.jO (r1.1,r1.2)).bind λr8=>
 (M.iu (r8.2.1,r8.2.2)).bind λkF=>
 (M.kK (kF.2.1,kF.2.2)).bind λxP=>
 (M.fO (xP.2.1,xP.2.2)).bind λHB=>
 (M.nf (HB.2.1,HB.2.2)).bind λZe=>
 some (r8.1,kF.1,xP.1,HB.1,Ze.1)
noncomputable def M.fi(aT:List (Int×(List Int)×Int))(dh:Int)(gW:Int)(nh:List Int)(AL:Int):Option ((List (Int×Int))):=
  Option.bind ((M.ir aT gW nh).bind λr4=>
  (bif !r4 then
  some true
 else
  (M.dp dh 1 8).bind λr9=>
  (bif !r9 then
  some true
 else
  (M.dp AL 1 16).bind λqQ=>
  some (!qQ)))) λo3=>
  (bif o3 then
  some []
 else
  Option.bind (cA (fun (mD:(List (Int×Int))×(Int))=>(bif decide (mD.2<dh) then
  (M.iw aT dh mD.2).bind λD7=>
  (M.jy D7 gW nh AL).bind λJz=>
  (M.ja mD.1 Jz AL).bind λB3=>
  some (.inl (B3,av (mD.2+1)))
 else
  some (.inr mD.1))) (([]:List (Int×Int)),0)) λlO=>
  some lO)
end Go.Vs
namespace Go.Vs
end Go.Vs
namespace Go.Vs
end Go.Vs
namespace Go.Vs
end Go.Vs
namespace Go.Vs
noncomputable def M.jQ(sO:Int×Int):Option Bool:=
  (M.fH sO.1).bind λr4=>
  (bif r4 then
  (bif decide (0<=sO.2) then
  some (decide (sO.2<=1000000))
 else
  some false)
 else
  some false)
noncomputable def M.gY(sO:Int×Int)(p_1:Int):Option Bool:=
 some (sO.1==p_1)
noncomputable def M.bO(Mt:List (Int×Int))(abV:Int):Option Int:=
  Option.bind (cA (fun (s2:(Int))=>(bif decide (s2<(Mt.length:Int)) then
  (bF Mt s2).bind λx5=>
  (M.gY (x5.1,x5.2) abV).bind λlg=>
  (bif lg then
  some (.inr (.inr s2))
 else
  some (.inl (av (s2+1))))
 else
  some (.inr (.inl ())))) 0) (bz (λt17=>some (-1))
   (λt19=>some t19))
noncomputable def M.jA(aT:List (Int×Int))(Qy:Int):Option Int:=
 (M.bO aT Qy).bind λr3=>
 some r3
noncomputable def M.gN(aT:List (Int×Int)):Option Bool:=
  (bif decide (16<(aT.length:Int)) then
  some false
 else
  Option.bind (cA (fun (s3:(Int))=>(bif decide (s3<(aT.length:Int)) then
  (bF aT s3).bind λx6=>
  Option.bind ((M.jQ (x6.1,x6.2)).bind λmP=>
  (bif !mP then
  some true
 else
  (bif decide (0<s3) then
  (bF aT (av (s3 - 1))).bind λsN=>
  (M.cX (sN.1,sN.2) (x6.1,x6.2)).bind λxm=>
  some (decide (0<=xm))
 else
  some false))) λmC=>
  (bif mC then
  some (.inr (.inr false))
 else
  (fN aT 0 s3).bind λQC=>
  (M.jA QC x6.1).bind λr49=>
  (bif decide (0<=r49) then
  some (.inr (.inr false))
 else
  some (.inl (av (s3+1)))))
 else
  some (.inr (.inl ())))) 0) (bz (λt54=>some true)
   (λt56=>some t56)))
noncomputable def M.di(Mt:List (Int×Int))(Y2:Int):Option ((List (Int×Int))):=
  (bif decide (Y2<0) then
  none
 else
  Option.bind ((bif decide (0<(av (Y2 - (av ((Mt.length:Int) - (Mt.length:Int)))))) then
  (fN Mt 0 (Mt.length:Int)).bind λD9=>
  (BZ D9 (av (Y2 - (av ((Mt.length:Int) - (Mt.length:Int))))) ((0,0):Int×Int)).bind λabW=>
  (fN abW 0 (Mt.length:Int)).bind λJ9=>
  some J9
 else
  some Mt)) λo2=>
  some o2)
noncomputable def M.cT(uh:List (List (Int×Int))):Option ((List (Int×Int))):=
  Option.bind (cA (fun (s2:(Int)×(Int))=>(bif decide (s2.2<(uh.length:Int)) then
  (bF uh s2.2).bind λx5=>
  (bif decide ((av (s2.1+(x5.length:Int)))<0) then
  none
 else
  some (.inl (av (s2.1+(x5.length:Int)),av (s2.2+1))))
 else
  some (.inr s2.1))) (0,0)) λo1=>
  (M.di ([]:List (Int×Int)) o1).bind λiP=>
  Option.bind (cA (fun (JA:(List (Int×Int))×(Int))=>(bif decide (JA.2<(uh.length:Int)) then
  (bF uh JA.2).bind λtX=>
  (mA JA.1 tX).bind λZf=>
  some (.inl (Zf,av (JA.2+1)))
 else
  some (.inr JA.1))) (iP,0)) λHC=>
  some HC
noncomputable def M.iy(wN:List (Int×Int))(xl:List (Int×Int)):Option ((List (Int×Int))):=
  (M.cT ([wN,xl]:List (List (Int×Int)))).bind λr5=>
  (M.bo r5).bind λnK=>
  Option.bind (cA (fun (fh:(List (Int×Int))×(Int))=>(bif decide (fh.2<(nK.length:Int)) then
  Option.bind ((bF nK fh.2).bind λvF=>
  (M.jA fh.1 vF.1).bind λJz=>
  (bif decide (Jz<0) then
  (mA fh.1 ([(vF.1,vF.2)]:List (Int×Int))).bind λQD=>
  some QD
 else
  some fh.1)) λo22=>
  some (.inl (o22,av (fh.2+1)))
 else
  some (.inr fh.1))) ([],0)) λmC=>
  some mC
noncomputable def M.gO(wN:List (Int×Int))(xl:List (Int×Int))(Xy:Int):Option ((List (Int×Int))):=
  Option.bind ((M.gN wN).bind λr2=>
  (bif !r2 then
  some true
 else
  (M.gN xl).bind λr7=>
  (bif !r7 then
  some true
 else
  (M.gh Xy).bind λlg=>
  some (!lg)))) λo1=>
  (bif o1 then
  some []
 else
  (M.iy wN xl).bind λmP=>
  (fN mP 0 (min Xy (mP.length:Int))).bind λxp=>
  some xp)
end Go.Vs
namespace Go.Vs
end Go.Vs
namespace Go.Vs
end Go.Vs
namespace Go.Vs
end Go.Vs
namespace Go.Vs
end Go.Vs
namespace Go.Vs
noncomputable def M.dK(HD:Int):Option Bool:=
  (bif decide (1<=HD) then
  some (decide (HD<=8))
 else
  some false)
noncomputable def M.kN(yt:Int)(dh:Int):Option Int:=
  Option.bind ((M.fH yt).bind λr2=>
  (bif !r2 then
  some true
 else
  (M.dK dh).bind λr7=>
  some (!r7))) λo1=>
  (bif o1 then
  some (-1)
 else
  some (av ((av (((av (389*yt)).tmod 1009)*dh)).tdiv 1009)))
noncomputable def M.eN(vr:Int×(List Int)×Int)(p_1:Int)(p_2:Int):Option Bool:=
 (M.kN vr.1 p_1).bind λr5=>
 some (r5==p_2)
noncomputable def M.cJ(aT:List (Int×(List Int)×Int))(Kf:Int)(Kg:Int):Option ((List (Int×(List Int)×Int))):=
  Option.bind (cA (fun (s2:(List (Int×(List Int)×Int))×(Int))=>(bif decide (s2.2<(aT.length:Int)) then
  Option.bind ((bF aT s2.2).bind λx8=>
  (M.eN (x8.1,x8.2.1,x8.2.2) Kf Kg).bind λxP=>
  (bif xP then
  (mA s2.1 ([(x8.1,x8.2.1,x8.2.2)]:List (Int×(List Int)×Int))).bind λZg=>
  some Zg
 else
  some s2.1)) λo7=>
  some (.inl (o7,av (s2.2+1)))
 else
  some (.inr s2.1))) ([],0)) λo1=>
  some o1
noncomputable def M.eI(aT:List (Int×(List Int)×Int))(dh:Int)(UC:Int):Option ((List (Int×(List Int)×Int))):=
  Option.bind ((M.fo aT).bind λr6=>
  (bif !r6 then
  some true
 else
  (M.dK dh).bind λlg=>
  some (!lg))) λo5=>
  (bif o5 then
  some []
 else
  (M.cJ aT dh UC).bind λtW=>
  (M.iX tW).bind λHB=>
  some HB)
end Go.Vs
namespace Go.Vs
end Go.Vs
namespace Go.Vs
open Go
end Go.Vs
namespace Go.Vs
end Go.Vs
namespace Go.Vs
noncomputable def M.fj(aT:List (Int×(List Int)×Int))(dh:Int)(gW:Int)(nh:List Int)(AL:Int):Option (List (List (Int×Int))):=
 (B5 (λi=>(M.eI aT dh (i:Int)).bind λt=>M.fC t gW nh AL) dh.toNat).bind λl=>some (l++List.replicate (8 - l.length) [])
noncomputable def M.gn(aT:List (Int×(List Int)×Int))(dh:Int)(gW:Int)(nh:List Int)(AL:Int):Option ((List (Int×Int))):=
  Option.bind ((M.dK dh).bind λr2=>
  (bif !r2 then
  some true
 else
  (M.fe aT gW nh AL).bind λr7=>
  some (!r7))) λo1=>
  (bif o1 then
  some []
 else
  (M.fj aT dh gW nh AL).bind λPw=>
  Option.bind (cA (fun (xQ:(List (Int×Int))×(Int))=>(bif decide (xQ.2<8) then
  (bF Pw xQ.2).bind λUJ=>
  (M.gO xQ.1 UJ AL).bind λxm=>
  some (.inl (xm,av (xQ.2+1)))
 else
  some (.inr xQ.1))) ([],0)) λzZ=>
  some zZ)
noncomputable def M.gG(qP:List UInt8):Option Bool:=
  (bif decide (1048576<(qP.length:Int)) then
  some true
 else
  (M.dQ qP).bind λr2=>
  (M.gn r2.1 r2.2.1 r2.2.2.1 r2.2.2.2.1 r2.2.2.2.2).bind λqO=>
  Option.bind ((M.fi r2.1 r2.2.1 r2.2.2.1 r2.2.2.2.1 r2.2.2.2.2).bind λiP=>
  (M.fQ qO iP).bind λvC=>
  (bif !vC then
  some true
 else
  (bif decide (r2.2.1<1) then
  some true
 else
  some (decide (8<r2.2.1))))) λmC=>
  (bif mC then
  (M.fi r2.1 r2.2.1 r2.2.2.1 r2.2.2.2.1 r2.2.2.2.2).bind λPu=>
  (M.fQ qO Pu).bind λr47=>
  some r47
 else
  (M.fC r2.1 r2.2.2.1 r2.2.2.2.1 r2.2.2.2.2).bind λXu=>
  (M.fQ Xu qO).bind λr65=>
  some r65))
end Go.Vs
