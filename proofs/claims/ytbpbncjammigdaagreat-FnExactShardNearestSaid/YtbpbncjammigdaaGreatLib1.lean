/- What the functions compute. -/
import Derived.Test.YtbpbncjammigdaaGreatAl
import Derived.Test.YtbpbncjammigdaaGreatEng1
import Derived.Test.YtbpbncjammigdaaGreatEng2
import Derived.Lib.Split
import Derived.Lib.Atoi
import Derived.Lib.Join
import Derived.Lib.ItoaNum
set_option linter.unusedVariables false
set_option linter.unusedSimpArgs false
namespace Go.Vs
noncomputable def M.kR(ae:List Int):Option ((List Int)):=
 (tO ([]:List Int) ae).bind λxs6=>
 some xs6
noncomputable def M.ir(fo:List Int):Option Bool:=
  Option.bind (bT (fun (s2:(Int))=>(bif decide (s2<(fo.length:Int)) then
  (aZ fo s2).bind λx5=>
  Option.bind ((bif decide (x5<(-100)) then
  some true
 else
  some (decide (100<x5)))) λo11=>
  (bif o11 then
  some (.inr (.inr false))
 else
  some (.inl (av (s2+1))))
 else
  some (.inr (.inl ())))) 0) (bb (λt15=>some true)
   (λt17=>some t17))
noncomputable def M.en(zi:List Int):Option Bool:=
  (bif (zi.length:Int)==4 then
  (M.ir zi).bind λr2=>
  some r2
 else
  some false)
noncomputable def M.de(lK:Int)(pZ:Int)(lj:Int):Option Bool:=
  (bif decide (pZ<=lK) then
  some (decide (lK<=lj))
 else
  some false)
noncomputable def M.oL(ae:List Int)(pZ:Int)(lj:Int):Option Bool:=
  Option.bind (bT (fun (s2:(Int))=>(bif decide (s2<(ae.length:Int)) then
  (aZ ae s2).bind λx7=>
  (M.de x7 pZ lj).bind λuO=>
  (bif !uO then
  some (.inr (.inr false))
 else
  some (.inl (av (s2+1))))
 else
  some (.inr (.inl ())))) 0) (bb (λt17=>some true)
   (λt19=>some t19))
noncomputable def M.jf(zi:List Int):Option Bool:=
  (bif (zi.length:Int)==4 then
  (M.oL zi (-100) 100).bind λr2=>
  some r2
 else
  some false)
noncomputable def M.iY(bB:Int)(qn:List Int):Option Int:=
  Option.bind (bT (fun (s8:(Int)×(Int))=>(bif decide (s8.2<4) then
  Option.bind ((aZ qn s8.2).bind λlL=>
  (bif bB==1 then
  some (.inl (av (s8.1+lL)))
 else
  (bif bB==2 then
  some (.inl (max s8.1 lL))
 else
  (bif bB==3 then
  some (.inl (av (s8.1+(av (lL*lL)))))
 else
  (bif bB==4 then
  some (.inl (av (s8.1+(min lL 1))))
 else
  some (.inr (-1))))))) (bb (λt19=>some (.inl (t19,av (s8.2+1))))
   (λt21=>some (.inr (.inr t21))))
 else
  some (.inr (.inl s8.1)))) (0,0)) (bb (λt23=>some t23)
   (λt25=>some t25))
noncomputable def M.mY(aN:List Int)(cq:List Int):Option ((List Int)):=
  Option.bind (bT (fun (PW:(List Int)×(Int))=>(bif decide (PW.2<4) then
  (aZ aN PW.2).bind λX0=>
  (aZ cq PW.2).bind λx50=>
  (aZ cq PW.2).bind λx53=>
  (aZ aN PW.2).bind λF2=>
  (aZ PW.1 PW.2).bind λx60=>
  some (.inl ((PW.1.set PW.2.toNat (max (av (X0 - x50)) (av (x53 - F2)))),av (PW.2+1)))
 else
  some (.inr PW.1))) ((List.replicate 4 0),0)) λo31=>
  some o31
noncomputable def M.jg(bB:Int)(sH:List Int)(uz:List Int):Option Int:=
  Option.bind ((M.en sH).bind λr2=>
  (bif !r2 then
  some true
 else
  (M.en uz).bind λr7=>
  some (!r7))) λo1=>
  (bif o1 then
  some (-1)
 else
  (Mp 4 sH).bind λJz=>
  (Mp 4 uz).bind λah1=>
  (M.mY (List.take 4 sH) (List.take 4 uz)).bind λNI=>
  (M.iY bB NI).bind λBZ=>
  some BZ)
noncomputable def M.jN(bB:Int):Option Bool:=
 (M.de bB 1 4).bind λr1=>
 some r1
noncomputable def M.qO(lK:Int):Option Int:=
 some (max lK (av (0 - lK)))
noncomputable def M.oM(b_0:Bool):Option Int:=
  (bif b_0 then
  some 1
 else
  some 0)
noncomputable def M.oq(bB:Int)(sH:List Int)(uz:List Int):Option Int:=
  Option.bind (bT (fun (s2:(Int)×(Int))=>(bif decide (s2.2<(sH.length:Int)) then
  Option.bind ((aZ sH s2.2).bind λx9=>
  (aZ uz s2.2).bind λPX=>
  (M.qO (av (x9 - PX))).bind λwN=>
  (bif bB==1 then
  some (av (s2.1+wN))
 else
  (bif bB==2 then
  some (max s2.1 wN)
 else
  (bif bB==3 then
  some (av (s2.1+(av (wN*wN))))
 else
  (M.oM (decide (0<wN))).bind λuP=>
  some (av (s2.1+uP)))))) λo8=>
  some (.inl (o8,av (s2.2+1)))
 else
  some (.inr s2.1))) (0,0)) λo1=>
  some o1
noncomputable def M.tU(aN:List Int)(cq:List Int):Option Bool:=
  (bif (aN.length:Int) != (cq.length:Int) then
  some false
 else
  Option.bind (bT (fun (s3:(Int))=>(bif decide (s3<(aN.length:Int)) then
  (aZ aN s3).bind λx9=>
  (aZ cq s3).bind λPX=>
  (bif x9 != PX then
  some (.inr (.inr false))
 else
  some (.inl (av (s3+1))))
 else
  some (.inr (.inl ())))) 0) (bb (λt21=>some true)
   (λt23=>some t23)))
noncomputable def M.iu(ck:Int×(List Int)×Int):Option Bool:=
  (M.de ck.1 1 99).bind λr7=>
  (bif r7 then
  (M.jf ck.2.1).bind λNJ=>
  (bif NJ then
  (M.de ck.2.2 0 15).bind λPY=>
  some PY
 else
  some false)
 else
  some false)
noncomputable def M.gE(ae:List (Int×(List Int)×Int)):Option Bool:=
  Option.bind (bT (fun (s2:(Int))=>(bif decide (s2<(ae.length:Int)) then
  Option.bind ((aZ ae s2).bind λx8=>
  (M.iu (x8.1,x8.2.1,x8.2.2)).bind λPY=>
  (bif !PY then
  some true
 else
  (bif decide (0<s2) then
  (aZ ae s2).bind λME=>
  (aZ ae (av (s2 - 1))).bind λvX=>
  some (decide (ME.1<=vX.1))
 else
  some false))) λo7=>
  (bif o7 then
  some (.inr (.inr false))
 else
  some (.inl (av (s2+1))))
 else
  some (.inr (.inl ())))) 0) (bb (λt39=>some (decide ((ae.length:Int)<=16)))
   (λt42=>some t42))
noncomputable def M.kS(ck:Int×(List Int)×Int):Option ((Int×(List Int)×Int)):=
 (M.kR ck.2.1).bind λJA=>
 some (ck.1,JA,ck.2.2)
noncomputable def M.gk(fu:Int):Option Bool:=
  (bif decide (1<=fu) then
  some (decide (fu<=99))
 else
  some false)
noncomputable def M.lW(nv:Int):Option Bool:=
  (bif decide (0<=nv) then
  some (decide (nv<=15))
 else
  some false)
noncomputable def M.iw(ck:Int×(List Int)×Int):Option Bool:=
  (M.gk ck.1).bind λr4=>
  (bif r4 then
  (M.en ck.2.1).bind λAH=>
  (bif AH then
  (M.lW ck.2.2).bind λtV=>
  some tV
 else
  some false)
 else
  some false)
noncomputable def M.fR(ae:List (Int×(List Int)×Int)):Option Bool:=
  (bif decide (16<(ae.length:Int)) then
  some false
 else
  Option.bind (bT (fun (s3:(Int)×(Int))=>(bif decide (s3.2<(ae.length:Int)) then
  (aZ ae s3.2).bind λx8=>
  Option.bind ((M.iw (x8.1,x8.2.1,x8.2.2)).bind λNK=>
  (bif !NK then
  some true
 else
  some (decide (x8.1<=s3.1)))) λo29=>
  (bif o29 then
  some (.inr (.inr false))
 else
  some (.inl (x8.1,av (s3.2+1))))
 else
  some (.inr (.inl ())))) (0,0)) (bb (λt41=>some true)
   (λt43=>some t43)))
noncomputable def M.cmp_isNaN_int(ck:Int):Option Bool:=
 some (ck != ck)
noncomputable def M.gF(ck:Int)(PZ:Int):Option Int:=
  (M.cmp_isNaN_int ck).bind λr1=>
  (M.cmp_isNaN_int PZ).bind λr5=>
  (bif r1 then
  (bif r5 then
  some 0
 else
  some (-1))
 else
  (bif r5 then
  some 1
 else
  (bif decide (ck<PZ) then
  some (-1)
 else
  (bif decide (PZ<ck) then
  some 1
 else
  some 0))))
end Go.Vs
namespace Go.Vs
end Go.Vs
namespace Go.Vs
noncomputable def M.fK(aN:List Int):Option ((List Int)):=
  (tP (aN.length:Int) (0:Int)).bind λP0=>
  Option.bind (bT (fun (nz:(List Int)×(Int))=>(bif decide (nz.2<(aN.length:Int)) then
  (aZ aN nz.2).bind λTH=>
  (aZ nz.1 nz.2).bind λwO=>
  some (.inl ((nz.1.set nz.2.toNat TH),av (nz.2+1)))
 else
  some (.inr nz.1))) (P0,0)) λo9=>
  some o9
noncomputable def M.mZ(aN:List Int)(cq:List Int):Option Bool:=
  (bif (aN.length:Int) != (cq.length:Int) then
  some false
 else
  Option.bind (bT (fun (s3:(Int))=>(bif decide (s3<(aN.length:Int)) then
  (aZ aN s3).bind λx9=>
  (aZ cq s3).bind λPX=>
  (bif x9 != PX then
  some (.inr (.inr false))
 else
  some (.inl (av (s3+1))))
 else
  some (.inr (.inl ())))) 0) (bb (λt21=>some true)
   (λt23=>some t23)))
noncomputable def M.na(aN:List Int)(eH:Int):Option Int:=
  (bif decide ((av (eH - (aN.length:Int)))<0) then
  some (-1)
 else
  some (av (eH - (aN.length:Int))))
noncomputable def M.jO(aN:Int×(List Int)×Int)(eH:Int):Option Int:=
  (M.na aN.2.1 eH).bind λr7=>
  (bif decide (r7<0) then
  some (-1)
 else
  some r7)
noncomputable def M.kg(aN:List (Int×(List Int)×Int))(eH:Int):Option Int:=
  (bif decide ((av (eH - (aN.length:Int)))<0) then
  some (-1)
 else
  Option.bind (bT (fun (s3:(Int)×(Int))=>(bif decide (s3.2<(aN.length:Int)) then
  (aZ aN s3.2).bind λx8=>
  (M.jO (x8.1,x8.2.1,x8.2.2) s3.1).bind λPY=>
  (bif decide (PY<0) then
  some (.inr (.inr (-1)))
 else
  some (.inl (PY,av (s3.2+1))))
 else
  some (.inr (.inl s3.1)))) (av (eH - (aN.length:Int)),0)) (bb (λt24=>some t24)
   (λt26=>some t26)))
noncomputable def M.qa(aN:Int×(List Int)×Int):Option ((Int×(List Int)×Int)):=
 (M.fK aN.2.1).bind λr26=>
 some (aN.1,r26,aN.2.2)
noncomputable def M.nb(aN:Int×(List Int)×Int)(cq:Int×(List Int)×Int):Option Bool:=
  (bif aN.1 != cq.1 then
  some false
 else
  (M.mZ aN.2.1 cq.2.1).bind λNL=>
  (bif !NL then
  some false
 else
  (bif aN.2.2 != cq.2.2 then
  some false
 else
  some true)))
noncomputable def M.lX(aN:List (Int×(List Int)×Int))(cq:List (Int×(List Int)×Int)):Option Bool:=
  (bif (aN.length:Int) != (cq.length:Int) then
  some false
 else
  Option.bind (bT (fun (s3:(Int))=>(bif decide (s3<(aN.length:Int)) then
  (aZ aN s3).bind λx9=>
  (aZ cq s3).bind λx20=>
  (M.nb (x9.1,x9.2.1,x9.2.2) (x20.1,x20.2.1,x20.2.2)).bind λr32=>
  (bif !r32 then
  some (.inr (.inr false))
 else
  some (.inl (av (s3+1))))
 else
  some (.inr (.inl ())))) 0) (bb (λt37=>some true)
   (λt39=>some t39)))
end Go.Vs
namespace Go.Vs
end Go.Vs
namespace Go.Vs
end Go.Vs
namespace Go.Vs
noncomputable def M.fL(kv:List Int):Option ((List Int)):=
 (tO ([]:List Int) kv).bind λIt=>
 some It
noncomputable def M.jh(ck:Int×(List Int)×Int):Option ((Int×(List Int)×Int)):=
 (M.fL ck.2.1).bind λr7=>
 some (ck.1,r7,ck.2.2)
noncomputable def M.jP(ae:List (Int×(List Int)×Int)):Option ((List (Int×(List Int)×Int))):=
  (tP (ae.length:Int) ((0,[],0):Int×(List Int)×Int)).bind λP0=>
  Option.bind (bT (fun (s8:(List (Int×(List Int)×Int))×(Int))=>(bif decide (s8.2<(ae.length:Int)) then
  (aZ ae s8.2).bind λlL=>
  (M.jh (lL.1,lL.2.1,lL.2.2)).bind λuP=>
  (aZ s8.1 s8.2).bind λx33=>
  some (.inl ((s8.1.set s8.2.toNat (uP.1,uP.2.1,uP.2.2)),av (s8.2+1)))
 else
  some (.inr s8.1))) (P0,0)) λo7=>
  some o7
noncomputable def M.jQ(bB:Int):Option Bool:=
  (bif decide (1<=bB) then
  some (decide (bB<=4))
 else
  some false)
noncomputable def M.gG(NM:Int):Option Bool:=
  (bif decide (1<=NM) then
  some (decide (NM<=16))
 else
  some false)
noncomputable def M.fB(ae:List (Int×(List Int)×Int))(dN:Int)(gp:List Int)(xD:Int):Option Bool:=
  (M.fR ae).bind λr1=>
  (bif r1 then
  (M.jQ dN).bind λr6=>
  (bif r6 then
  (M.en gp).bind λvg=>
  (bif vg then
  (M.gG xD).bind λtV=>
  some tV
 else
  some false)
 else
  some false)
 else
  some false)
noncomputable def M.eo(dB:List (Int×Int))(qP:Int×Int):Option ((List (Int×Int))):=
 (tO dB ([(qP.1,qP.2)]:List (Int×Int))).bind λG4=>
 some G4
noncomputable def M.gq(dB:List (Int×Int)):Option Int:=
 some (dB.length:Int)
noncomputable def M.oN(lY:List Int):Option Int:=
  Option.bind (bT (fun (s2:(Int))=>(bif decide (s2<(lY.length:Int)) then
  (aZ lY s2).bind λx5=>
  (bif x5 != 0 then
  some (.inr (.inr x5))
 else
  some (.inl (av (s2+1))))
 else
  some (.inr (.inl ())))) 0) (bb (λt12=>some 0)
   (λt14=>some t14))
noncomputable def M.cS(aN:Int×Int)(cq:Int×Int):Option Int:=
 (M.gF aN.2 cq.2).bind λr7=>
 (M.gF aN.1 cq.1).bind λNJ=>
 (M.oN ([r7,NJ]:List Int)).bind λV6=>
 some V6
noncomputable def M.dE(dB:List (Int×Int))(EU:Int)(Iu:Int):Option Bool:=
 (aZ dB EU).bind λx1=>
 (aZ dB Iu).bind λx8=>
 (M.cS (x1.1,x1.2) (x8.1,x8.2)).bind λtV=>
 some (decide (0<tV))
noncomputable def M.eI(dB:List (Int×Int))(EU:Int)(Iu:Int):Option ((List (Int×Int))):=
 (aZ dB Iu).bind λx1=>
 (aZ dB EU).bind λx8=>
 (aZ dB EU).bind λR4=>
 (aZ (dB.set EU.toNat (x1.1,x1.2)) Iu).bind λP1=>
 some ((dB.set EU.toNat (x1.1,x1.2)).set Iu.toNat (x8.1,x8.2))
noncomputable def M.bh(dB:List (Int×Int))(j_1:Int):Option ((List (Int×Int))):=
  Option.bind (bT (fun (s2:(List (Int×Int))×(Int))=>Option.bind ((bif (av ((av (s2.2 - 1)).tdiv 2))==s2.2 then
  some true
 else
  (M.dE s2.1 s2.2 (av ((av (s2.2 - 1)).tdiv 2))).bind λr8=>
  some (!r8))) λo6=>
  (bif o6 then
  some (.inr s2.1)
 else
  (M.eI s2.1 (av ((av (s2.2 - 1)).tdiv 2)) s2.2).bind λJA=>
  some (.inl (JA,av ((av (s2.2 - 1)).tdiv 2))))) (dB,j_1)) λo1=>
  some o1
noncomputable def M.bC(dB:List (Int×Int))(qP:Int×Int):Option ((List (Int×Int))):=
 (M.eo dB (qP.1,qP.2)).bind λr1=>
 (M.gq r1).bind λr7=>
 (M.bh r1 (av (r7 - 1))).bind λvg=>
 some vg
noncomputable def M.cC(dB:List (Int×Int))(vE:Int)(vF:Int):Option (Bool×(List (Int×Int))):=
  Option.bind (bT (fun (s2:(List (Int×Int))×(Int))=>Option.bind ((bif decide (vF<=(av ((av (2*s2.2))+1))) then
  some true
 else
  some (decide ((av ((av (2*s2.2))+1))<0)))) λo6=>
  (bif o6 then
  some (.inr (s2.1,s2.2))
 else
  Option.bind ((bif decide ((av ((av ((av (2*s2.2))+1))+1))<vF) then
  (M.dE s2.1 (av ((av ((av (2*s2.2))+1))+1)) (av ((av (2*s2.2))+1))).bind λuO=>
  some uO
 else
  some false)) λns=>
  Option.bind ((bif ns then
  some (av ((av ((av (2*s2.2))+1))+1))
 else
  some (av ((av (2*s2.2))+1)))) λG5=>
  (M.dE s2.1 G5 s2.2).bind λwN=>
  (bif !wN then
  some (.inr (s2.1,s2.2))
 else
  (M.eI s2.1 s2.2 G5).bind λCf=>
  some (.inl (Cf,G5))))) (dB,vE)) λo1=>
  some (decide (vE<o1.2),o1.1)
noncomputable def M.kh(dB:List (Int×Int)):Option (((Int)×(Int))×(List (Int×Int))):=
 (aZ dB (av ((dB.length:Int) - 1))).bind λx3=>
 (iM dB 0 (av ((dB.length:Int) - 1))).bind λJB=>
 some ((x3.1,x3.2),JB)
noncomputable def M.cK(dB:List (Int×Int)):Option (((Int)×(Int))×(List (Int×Int))):=
 (M.gq dB).bind λr1=>
 (M.eI dB 0 (av (r1 - 1))).bind λr5=>
 (M.cC r5 0 (av (r1 - 1))).bind λAH=>
 (M.kh AH.2).bind λzj=>
 some ((zj.1.1,zj.1.2),zj.2)
noncomputable def M.dh(lK:Int×(List (Int×Int)))(gi:Int×Int):Option ((Int×(List (Int×Int)))):=
  (M.bC lK.2 (gi.1,gi.2)).bind λr5=>
  (bif decide (lK.1<(r5.length:Int)) then
  (M.cK r5).bind λNL=>
  some (lK.1,NL.2)
 else
  some (lK.1,r5))
noncomputable def M.iZ(ae:List (Int×(List Int)×Int))(dN:Int)(gp:List Int):Option Bool:=
  (M.gE ae).bind λr1=>
  (bif r1 then
  (M.jN dN).bind λr6=>
  (bif r6 then
  (M.jf gp).bind λvg=>
  some vg
 else
  some false)
 else
  some false)
noncomputable def M.iG(aN:Int×Int)(cq:Int×Int):Option Bool:=
  (bif decide (aN.2<cq.2) then
  some true
 else
  (bif aN.2==cq.2 then
  some (decide (aN.1<cq.1))
 else
  some false))
noncomputable def M.jR(ae:List (Int×Int))(gi:Int×Int)(sI:Int):Option ((List (Int×Int))):=
  (tO ([]:List (Int×Int)) ae).bind λIt=>
  (tO It ([(gi.1,gi.2)]:List (Int×Int))).bind λCg=>
  Option.bind (bT (fun (fV:(List (Int×Int))×(Int))=>Option.bind ((bif decide (0<fV.2) then
  (aZ fV.1 fV.2).bind λCi=>
  (aZ fV.1 (av (fV.2 - 1))).bind λvX=>
  (M.iG (Ci.1,Ci.2) (vX.1,vX.2)).bind λr37=>
  some r37
 else
  some false)) λCj=>
  (bif Cj then
  (aZ fV.1 fV.2).bind λX2=>
  (aZ fV.1 (av (fV.2 - 1))).bind λK1=>
  (aZ fV.1 fV.2).bind λX3=>
  (aZ (fV.1.set fV.2.toNat (K1.1,K1.2)) (av (fV.2 - 1))).bind λx68=>
  some (.inl (((fV.1.set fV.2.toNat (K1.1,K1.2)).set (av (fV.2 - 1)).toNat (X2.1,X2.2)),av (fV.2 - 1)))
 else
  some (.inr fV.1))) (Cg,av ((Cg.length:Int) - 1))) λsJ=>
  (iM sJ 0 (min sI (sJ.length:Int))).bind λaeb=>
  some aeb
noncomputable def M.ki(ae:List (Int×(List Int)×Int))(dN:Int)(gp:List Int)(xD:Int):Option ((List (Int×Int))):=
  Option.bind (bT (fun (s4:(List (Int×Int))×(Int))=>(bif decide (s4.2<(ae.length:Int)) then
  (aZ ae s4.2).bind λx9=>
  (aZ ae s4.2).bind λR4=>
  (M.oq dN R4.2.1 gp).bind λCf=>
  (M.jR s4.1 (x9.1,Cf) xD).bind λzk=>
  some (.inl (zk,av (s4.2+1)))
 else
  some (.inr s4.1))) (([]:List (Int×Int)),0)) λo3=>
  some o3
end Go.Vs
namespace Go.Vs
end Go.Vs
namespace Go.Vs
noncomputable def M.ie(aN:List Int)(xE:Int):Option (Int×(List Int)):=
  Option.bind (bT (fun (s2:(List Int)×(Int)×(Int))=>(bif decide (s2.2.2<(s2.1.length:Int)) then
  (aZ s2.1 s2.2.2).bind λx6=>
  some (.inl ((s2.1.set s2.2.2.toNat s2.2.1),av (s2.2.1+1),av (s2.2.2+1)))
 else
  some (.inr (s2.1,s2.2.1)))) (aN,xE,0)) λo1=>
  some (o1.2,o1.1)
end Go.Vs
namespace Go.Vs
noncomputable def M.cW(kv:List (Int×Int)):Option Unit:=
 some ()
noncomputable def M.bm(qb:List (Int×Int)):Option (List (Int×Int)):=
 M.xQ qb
noncomputable def M.bg(iN:List (Int×Int)):Option ((List (Int×Int))):=
 (M.bm iN).bind λr1=>
 some r1
noncomputable def M.aU(ck:List (Int×Int)):Option (List (Int×Int)):=
 M.GW (λx y=>M.cS (x.1,x.2) (y.1,y.2)) ck
noncomputable def M.aL(iN:List (Int×Int)):Option ((List (Int×Int))):=
 (M.bg iN).bind λr1=>
 (M.aU r1).bind λr7=>
 some r7
noncomputable def M.dS(lK:Int×(List (Int×Int))):Option ((List (Int×Int))):=
 (M.cW lK.2).bind λr2=>
 (M.aL lK.2).bind λr7=>
 some r7
noncomputable def M.dp(ck:Int×(List Int)×Int)(yQ:Int)(B1:List Int):Option Int:=
 (M.jg yQ ck.2.1 B1).bind λr6=>
 some r6
noncomputable def M.cX(ae:List (Int×(List Int)×Int))(xE:Int)(jS:Int)(dt:List Int):Option ((List (Int×Int))):=
  Option.bind (bT (fun (s5:((Int)×(List (Int×Int)))×(Int))=>(bif decide (s5.2<(ae.length:Int)) then
  (aZ ae s5.2).bind λnc=>
  (M.dp (nc.1,nc.2.1,nc.2.2) jS dt).bind λCf=>
  (M.dh (s5.1.1,s5.1.2) (nc.1,Cf)).bind λNI=>
  some (.inl ((NI.1,NI.2),av (s5.2+1)))
 else
  some (.inr (s5.1.1,s5.1.2)))) ((xE,[]),0)) λo4=>
  (M.dS (o4.1,o4.2)).bind λr40=>
  some r40
noncomputable def M.gM(ae:List (Int×(List Int)×Int))(dN:Int)(gp:List Int)(xD:Int):Option ((List (Int×Int))):=
 (M.cX ae xD dN gp).bind λr5=>
 some r5
noncomputable def M.gN(ae:List (Int×(List Int)×Int))(dN:Int)(gp:List Int)(xD:Int):Option ((List (Int×Int))):=
  (M.fB ae dN gp xD).bind λr1=>
  (bif !r1 then
  some []
 else
  (M.gM ae dN gp xD).bind λr6=>
  some r6)
end Go.Vs
namespace Go.Vs
end Go.Vs
namespace Go.Vs
noncomputable def M.rT(aN:Int×Int)(cq:Int×Int):Option Bool:=
  (bif aN.1 != cq.1 then
  some false
 else
  (bif aN.2 != cq.2 then
  some false
 else
  some true))
noncomputable def M.jT(aN:List (Int×Int))(cq:List (Int×Int)):Option Bool:=
  (bif (aN.length:Int) != (cq.length:Int) then
  some false
 else
  Option.bind (bT (fun (s3:(Int))=>(bif decide (s3<(aN.length:Int)) then
  (aZ aN s3).bind λx6=>
  (aZ cq s3).bind λlL=>
  (M.rT (x6.1,x6.2) (lL.1,lL.2)).bind λV6=>
  (bif !V6 then
  some (.inr (.inr false))
 else
  some (.inl (av (s3+1))))
 else
  some (.inr (.inl ())))) 0) (bb (λt26=>some true)
   (λt28=>some t28)))
noncomputable def M.kT(aN:List (Int×Int))(xE:Int):Option (Int×(List (Int×Int))):=
  Option.bind (bT (fun (s2:(List (Int×Int))×(Int)×(Int))=>(bif decide (s2.2.2<(s2.1.length:Int)) then
  (aZ s2.1 s2.2.2).bind λx6=>
  (aZ (s2.1.set s2.2.2.toNat (s2.2.1,x6.2)) s2.2.2).bind λzP=>
  some (.inl (((s2.1.set s2.2.2.toNat (s2.2.1,x6.2)).set s2.2.2.toNat (zP.1,av (s2.2.1+1))),av ((av (s2.2.1+1))+1),av (s2.2.2+1)))
 else
  some (.inr (s2.1,s2.2.1)))) (aN,xE,0)) λo1=>
  some (o1.2,o1.1)
noncomputable def M.ji(aN:List (Int×Int))(xE:Int):Option Int:=
  Option.bind (bT (fun (s2:(Int)×(Int))=>(bif decide (s2.2<(aN.length:Int)) then
  (aZ aN s2.2).bind λx5=>
  (bif x5.1 != s2.1 then
  some (.inr (.inr (-1)))
 else
  (aZ aN s2.2).bind λzP=>
  (bif zP.2 != (av (s2.1+1)) then
  some (.inr (.inr (-1)))
 else
  some (.inl (av ((av (s2.1+1))+1),av (s2.2+1)))))
 else
  some (.inr (.inl s2.1)))) (xE,0)) (bb (λt19=>some t19)
   (λt21=>some t21))
end Go.Vs
namespace Go.Vs
open Classical in
noncomputable def M.qo(a:List (Int×(List Int)×Int)):Option (List (Int×(List Int)×Int)):=
 if a.length<=2147483648/\ ∀x∈a,M.fK x.2.1=some x.2.1 then some a else none
noncomputable def M.lk:List (Int×(List Int)×Int)->Int->Option Int
 | [],k=>some k
 | x::xs,k=>(M.ie x.2.1 (av (k+1))).bind λq=>M.lk xs (av (q.1+1))
noncomputable def M.ot(a:List (Int×(List Int)×Int))(k:Int):Option Int:=if a.length<=2147483648 then M.lk a k else none
theorem AI{a:List (Int×(List Int)×Int)}{k r:Int}(h:M.ot a k=some r):a.length<=2147483648/\M.lk a k=some r:=by
 unfold M.ot at h;split at h
 ·exact ⟨by assumption,h⟩
 ·cases h
theorem G6{a r:List (Int×(List Int)×Int)}(h:M.qo a=some r):a.length<=2147483648/\(∀x∈a,M.qa x=some x)/\r=a:=by
 unfold M.qo at h;split at h
 ·rename_i hc;refine ⟨hc.1,λx hx=> ?_,(qaf h).symm⟩;unfold M.qa;rw [hc.2 x hx];rfl
 ·cases h
theorem MF{α:Type}(n:Nat)(z:α)(h:n<=2147483648):tP (n:Int) z=some (List.replicate n z):=by
 unfold tP;rw [if_pos (by omega)];simp
end Go.Vs
namespace Go.Vs
end Go.Vs
namespace Go.Vs
end Go.Vs
namespace Go.Vs
end Go.Vs
namespace Go.Vs
end Go.Vs
namespace Go.Vs
end Go.Vs
namespace Go.Vs
end Go.Vs
namespace Go.Vs
end Go.Vs
namespace Go.Vs
end Go.Vs
namespace Go.Vs
end Go.Vs
namespace Go.Vs
end Go.Vs
namespace Go.Vs
end Go.Vs
namespace Go.Vs
noncomputable def M.iy(ae:List (Int×Int)):Option Bool:=
  Option.bind (bT (fun (s2:(Int))=>(bif decide (s2<(ae.length:Int)) then
  Option.bind ((aZ ae s2).bind λx6=>
  (M.de x6.1 1 99).bind λuO=>
  (bif !uO then
  some true
 else
  (aZ ae s2).bind λP2=>
  (M.de P2.2 0 1000000).bind λP3=>
  (bif !P3 then
  some true
 else
  (bif decide (0<s2) then
  (aZ ae (av (s2 - 1))).bind λvX=>
  (aZ ae s2).bind λTJ=>
  (M.iG (vX.1,vX.2) (TJ.1,TJ.2)).bind λP4=>
  some (!P4)
 else
  some false)))) λo5=>
  (bif o5 then
  some (.inr (.inr false))
 else
  Option.bind (bT (fun (Iw:(Int))=>(bif decide (Iw<s2) then
  (aZ ae Iw).bind λx55=>
  (aZ ae s2).bind λX3=>
  (bif x55.1==X3.1 then
  some (.inr (.inr false))
 else
  some (.inl (av (Iw+1))))
 else
  some (.inr (.inl ())))) 0) (bb (λt70=>some (.inl (av (s2+1))))
   (λt72=>some (.inr (.inr t72)))))
 else
  some (.inr (.inl ())))) 0) (bb (λt74=>some (decide ((ae.length:Int)<=16)))
   (λt76=>some t76))
noncomputable def M.mE(ae:List (Int×Int))(qQ:Int):Option Int:=
  Option.bind (bT (fun (s2:(Int))=>(bif decide (s2<(ae.length:Int)) then
  (aZ ae s2).bind λx5=>
  (bif x5.1==qQ then
  some (.inr (.inr s2))
 else
  some (.inl (av (s2+1))))
 else
  some (.inr (.inl ())))) 0) (bb (λt12=>some (-1))
   (λt14=>some t14))
noncomputable def M.jU(aN:List (Int×Int))(cq:List (Int×Int))(sI:Int):Option ((List (Int×Int))):=
  Option.bind ((M.iy aN).bind λr4=>
  (bif !r4 then
  some true
 else
  (M.iy cq).bind λr9=>
  (bif !r9 then
  some true
 else
  (M.de sI 1 16).bind λJA=>
  some (!JA)))) λo3=>
  (bif o3 then
  some []
 else
  Option.bind (bT (fun (oO:(List (Int×Int))×(Int))=>(bif decide (oO.2<(aN.length:Int)) then
  Option.bind ((aZ aN oO.2).bind λx27=>
  (M.mE cq x27.1).bind λBZ=>
  Option.bind ((bif decide (BZ<0) then
  some true
 else
  (aZ aN oO.2).bind λP5=>
  (aZ cq BZ).bind λX0=>
  some (decide (P5.2<=X0.2)))) λo37=>
  (bif o37 then
  (aZ aN oO.2).bind λx57=>
  (M.jR oO.1 (x57.1,x57.2) sI).bind λr66=>
  some r66
 else
  some oO.1)) λR5=>
  some (.inl (R5,av (oO.2+1)))
 else
  some (.inr oO.1))) (([]:List (Int×Int)),0)) λCj=>
  Option.bind (bT (fun (xF:(List (Int×Int))×(Int))=>(bif decide (xF.2<(cq.length:Int)) then
  Option.bind ((aZ cq xF.2).bind λx85=>
  (M.mE aN x85.1).bind λV7=>
  Option.bind ((bif decide (V7<0) then
  some true
 else
  (aZ cq xF.2).bind λx99=>
  (aZ aN V7).bind λP6=>
  some (decide (x99.2<P6.2)))) λo95=>
  (bif o95 then
  (aZ cq xF.2).bind λP7=>
  (M.jR xF.1 (P7.1,P7.2) sI).bind λX4=>
  some X4
 else
  some xF.1)) λX5=>
  some (.inl (X5,av (xF.2+1)))
 else
  some (.inr xF.1))) (Cj,0)) λX7=>
  some X7)
end Go.Vs
namespace Go.Vs
noncomputable def M.kj(fu:Int)(aD:Int):Option Int:=
 some (av ((av (((av (389*fu)).tmod 1009)*aD)).tdiv 1009))
noncomputable def M.ja(ae:List (Int×(List Int)×Int))(aD:Int)(vF:Int):Option ((List (Int×(List Int)×Int))):=
  Option.bind (bT (fun (s4:(List (Int×(List Int)×Int))×(Int))=>(bif decide (s4.2<(ae.length:Int)) then
  Option.bind ((aZ ae s4.2).bind λnc=>
  (M.kj nc.1 aD).bind λtV=>
  (bif tV==vF then
  (aZ ae s4.2).bind λP1=>
  (M.kS (P1.1,P1.2.1,P1.2.2)).bind λzk=>
  (tO s4.1 ([(zk.1,zk.2.1,zk.2.2)]:List (Int×(List Int)×Int))).bind λYa=>
  some Ya
 else
  some s4.1)) λo9=>
  some (.inl (o9,av (s4.2+1)))
 else
  some (.inr s4.1))) (([]:List (Int×(List Int)×Int)),0)) λo3=>
  some o3
noncomputable def M.gO(ae:List (Int×(List Int)×Int))(aD:Int)(dF:Int)(fv:List Int)(qR:Int):Option ((List (Int×Int))):=
  Option.bind ((M.iZ ae dF fv).bind λr4=>
  (bif !r4 then
  some true
 else
  (M.de aD 1 8).bind λr9=>
  (bif !r9 then
  some true
 else
  (M.de qR 1 16).bind λJA=>
  some (!JA)))) λo3=>
  (bif o3 then
  some []
 else
  Option.bind (bT (fun (oO:(List (Int×Int))×(Int))=>(bif decide (oO.2<aD) then
  (M.ja ae aD oO.2).bind λr26=>
  (M.ki r26 dF fv qR).bind λr34=>
  (M.jU oO.1 r34 qR).bind λP4=>
  some (.inl (P4,av (oO.2+1)))
 else
  some (.inr oO.1))) (([]:List (Int×Int)),0)) λCj=>
  some Cj)
end Go.Vs
namespace Go.Vs
end Go.Vs
namespace Go.Vs
end Go.Vs
namespace Go.Vs
end Go.Vs
namespace Go.Vs
noncomputable def M.kU(dB:Int×Int):Option Bool:=
  (M.gk dB.1).bind λr4=>
  (bif r4 then
  (bif decide (0<=dB.2) then
  some (decide (dB.2<=1000000))
 else
  some false)
 else
  some false)
noncomputable def M.iO(dB:Int×Int)(yQ:Int):Option Bool:=
 some (dB.1==yQ)
noncomputable def M.bF(kv:List (Int×Int))(yR:Int):Option Int:=
  Option.bind (bT (fun (s2:(Int))=>(bif decide (s2<(kv.length:Int)) then
  (aZ kv s2).bind λx5=>
  (M.iO (x5.1,x5.2) yR).bind λuO=>
  (bif uO then
  some (.inr (.inr s2))
 else
  some (.inl (av (s2+1))))
 else
  some (.inr (.inl ())))) 0) (bb (λt17=>some (-1))
   (λt19=>some t19))
noncomputable def M.kl(ae:List (Int×Int))(qQ:Int):Option Int:=
 (M.bF ae qQ).bind λr3=>
 some r3
noncomputable def M.iz(ae:List (Int×Int)):Option Bool:=
  (bif decide (16<(ae.length:Int)) then
  some false
 else
  Option.bind (bT (fun (s3:(Int))=>(bif decide (s3<(ae.length:Int)) then
  (aZ ae s3).bind λx6=>
  Option.bind ((M.kU (x6.1,x6.2)).bind λzj=>
  (bif !zj then
  some true
 else
  (bif decide (0<s3) then
  (aZ ae (av (s3 - 1))).bind λME=>
  (M.cS (ME.1,ME.2) (x6.1,x6.2)).bind λBZ=>
  some (decide (0<=BZ))
 else
  some false))) λsJ=>
  (bif sJ then
  some (.inr (.inr false))
 else
  (iM ae 0 s3).bind λP8=>
  (M.kl P8 x6.1).bind λr49=>
  (bif decide (0<=r49) then
  some (.inr (.inr false))
 else
  some (.inl (av (s3+1)))))
 else
  some (.inr (.inl ())))) 0) (bb (λt54=>some true)
   (λt56=>some t56)))
noncomputable def M.da(kv:List (Int×Int))(K2:Int):Option ((List (Int×Int))):=
  (bif decide (K2<0) then
  none
 else
  Option.bind ((bif decide (0<(av (K2 - (av ((kv.length:Int) - (kv.length:Int)))))) then
  (iM kv 0 (kv.length:Int)).bind λIt=>
  (Ds It (av (K2 - (av ((kv.length:Int) - (kv.length:Int))))) ((0,0):Int×Int)).bind λaaX=>
  (iM aaX 0 (kv.length:Int)).bind λJz=>
  some Jz
 else
  some kv)) λo2=>
  some o2)
noncomputable def M.cN(cT:List (List (Int×Int))):Option ((List (Int×Int))):=
  Option.bind (bT (fun (s2:(Int)×(Int))=>(bif decide (s2.2<(cT.length:Int)) then
  (aZ cT s2.2).bind λx5=>
  (bif decide ((av (s2.1+(x5.length:Int)))<0) then
  none
 else
  some (.inl (av (s2.1+(x5.length:Int)),av (s2.2+1))))
 else
  some (.inr s2.1))) (0,0)) λo1=>
  (M.da ([]:List (Int×Int)) o1).bind λP9=>
  Option.bind (bT (fun (JC:(List (Int×Int))×(Int))=>(bif decide (JC.2<(cT.length:Int)) then
  (aZ cT JC.2).bind λvX=>
  (tO JC.1 vX).bind λYb=>
  some (.inl (Yb,av (JC.2+1)))
 else
  some (.inr JC.1))) (P9,0)) λK3=>
  some K3
noncomputable def M.jb(aN:List (Int×Int))(cq:List (Int×Int)):Option ((List (Int×Int))):=
  (M.cN ([aN,cq]:List (List (Int×Int)))).bind λr5=>
  (M.aU r5).bind λvg=>
  Option.bind (bT (fun (fV:(List (Int×Int))×(Int))=>(bif decide (fV.2<(vg.length:Int)) then
  Option.bind ((aZ vg fV.2).bind λwO=>
  (M.kl fV.1 wO.1).bind λr34=>
  (bif decide (r34<0) then
  (tO fV.1 ([(wO.1,wO.2)]:List (Int×Int))).bind λYc=>
  some Yc
 else
  some fV.1)) λo22=>
  some (.inl (o22,av (fV.2+1)))
 else
  some (.inr fV.1))) ([],0)) λsJ=>
  some sJ
noncomputable def M.iA(aN:List (Int×Int))(cq:List (Int×Int))(sI:Int):Option ((List (Int×Int))):=
  Option.bind ((M.iz aN).bind λr2=>
  (bif !r2 then
  some true
 else
  (M.iz cq).bind λr7=>
  (bif !r7 then
  some true
 else
  (M.gG sI).bind λuO=>
  some (!uO)))) λo1=>
  (bif o1 then
  some []
 else
  (M.jb aN cq).bind λzj=>
  (iM zj 0 (min sI (zj.length:Int))).bind λMG=>
  some MG)
end Go.Vs
namespace Go.Vs
end Go.Vs
namespace Go.Vs
end Go.Vs
namespace Go.Vs
end Go.Vs
namespace Go.Vs
end Go.Vs
namespace Go.Vs
noncomputable def M.dO(jc:Int):Option Bool:=
  (bif decide (1<=jc) then
  some (decide (jc<=8))
 else
  some false)
noncomputable def M.lZ(fu:Int)(aD:Int):Option Int:=
  Option.bind ((M.gk fu).bind λr2=>
  (bif !r2 then
  some true
 else
  (M.dO aD).bind λr7=>
  some (!r7))) λo1=>
  (bif o1 then
  some (-1)
 else
  some (av ((av (((av (389*fu)).tmod 1009)*aD)).tdiv 1009)))
noncomputable def M.fh(ck:Int×(List Int)×Int)(yQ:Int)(B1:Int):Option Bool:=
 (M.lZ ck.1 yQ).bind λr5=>
 some (r5==B1)
noncomputable def M.cD(ae:List (Int×(List Int)×Int))(jV:Int)(jW:Int):Option ((List (Int×(List Int)×Int))):=
  Option.bind (bT (fun (s2:(List (Int×(List Int)×Int))×(Int))=>(bif decide (s2.2<(ae.length:Int)) then
  Option.bind ((aZ ae s2.2).bind λx8=>
  (M.fh (x8.1,x8.2.1,x8.2.2) jV jW).bind λr22=>
  (bif r22 then
  (tO s2.1 ([(x8.1,x8.2.1,x8.2.2)]:List (Int×(List Int)×Int))).bind λYd=>
  some Yd
 else
  some s2.1)) λo7=>
  some (.inl (o7,av (s2.2+1)))
 else
  some (.inr s2.1))) ([],0)) λo1=>
  some o1
noncomputable def M.eZ(ae:List (Int×(List Int)×Int))(aD:Int)(vF:Int):Option ((List (Int×(List Int)×Int))):=
  Option.bind ((M.fR ae).bind λr6=>
  (bif !r6 then
  some true
 else
  (M.dO aD).bind λuO=>
  some (!uO))) λo5=>
  (bif o5 then
  some []
 else
  (M.cD ae aD vF).bind λwN=>
  (M.jP wN).bind λr28=>
  some r28)
end Go.Vs
namespace Go.Vs
end Go.Vs
namespace Go.Vs
open Go
end Go.Vs
namespace Go.Vs
end Go.Vs
namespace Go.Vs
noncomputable def M.fP(ae:List (Int×(List Int)×Int))(aD:Int)(dF:Int)(fv:List Int)(qR:Int):Option (List (List (Int×Int))):=
 (Dy (λi=>(M.eZ ae aD (i:Int)).bind λt=>M.gN t dF fv qR) aD.toNat).bind λl=>some (l++List.replicate (8 - l.length) [])
noncomputable def M.fQ(ae:List (Int×(List Int)×Int))(aD:Int)(dF:Int)(fv:List Int)(qR:Int):Option ((List (Int×Int))):=
  Option.bind ((M.dO aD).bind λr2=>
  (bif !r2 then
  some true
 else
  (M.fB ae dF fv qR).bind λr7=>
  some (!r7))) λo1=>
  (bif o1 then
  some []
 else
  (M.fP ae aD dF fv qR).bind λNJ=>
  Option.bind (bT (fun (Ck:(List (Int×Int))×(Int))=>(bif decide (Ck.2<8) then
  (aZ NJ Ck.2).bind λTK=>
  (M.iA Ck.1 TK qR).bind λBZ=>
  some (.inl (BZ,av (Ck.2+1)))
 else
  some (.inr Ck.1))) ([],0)) λK4=>
  some K4)
noncomputable def M.fG(bX:List (Int×(List Int)×Int))(jj:Int)(mR:Int)(dX:List Int)(Cl:Int):Option Bool:=
  (bif decide (1048576<(dX.length:Int)) then
  some true
 else
  (M.kg bX 1048576).bind λr2=>
  (bif decide (r2<0) then
  some true
 else
  (M.qo bX).bind λr7=>
  (M.fK dX).bind λNL=>
  (M.gO r7 jj mR NL Cl).bind λuQ=>
  (M.qo bX).bind λNK=>
  (M.fK dX).bind λzl=>
  (M.fQ NK jj mR zl Cl).bind λzQ=>
  (M.jT zQ uQ).bind λr51=>
  (bif !r51 then
  some false
 else
  (M.qo bX).bind λr56=>
  (M.lX NK r56).bind λr64=>
  (bif !r64 then
  some false
 else
  (M.fK dX).bind λR6=>
  (M.mZ zl R6).bind λr78=>
  (bif !r78 then
  some false
 else
  (M.ot NK 1).bind λr83=>
  (M.ie zl r83).bind λK5=>
  Option.bind ((bif decide (K5.1<0) then
  some true
 else
  (M.jT zQ uQ).bind λr94=>
  some (!r94))) λo92=>
  (bif o92 then
  some false
 else
  (M.kT zQ 1).bind λrU=>
  (M.ji rU.2 1).bind λG7=>
  (bif decide (G7<0) then
  some false
 else
  (bif G7 != rU.1 then
  some false
 else
  (M.qo bX).bind λaaY=>
  (M.fK dX).bind λG8=>
  (M.fQ aaY jj mR G8 Cl).bind λMH=>
  (M.jT MH uQ).bind λYe=>
  (bif !Ye then
  some false
 else
  (M.ji rU.2 1).bind λG9=>
  (bif decide (G9<0) then
  some false
 else
  (bif G9 != rU.1 then
  some false
 else
  some true)))))))))))
end Go.Vs
