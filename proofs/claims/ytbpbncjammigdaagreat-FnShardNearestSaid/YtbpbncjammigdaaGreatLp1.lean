/- The program in which nobody comes back out of the search. -/
import Derived.Test.YtbpbncjammigdaaGreatAl
import Derived.Test.YtbpbncjammigdaaGreatProg
import Derived.Test.YtbpbncjammigdaaGreatCx2
import Derived.Test.YtbpbncjammigdaaGreatSrt1
import Derived.KernelRfl
set_option linter.unusedVariables false
set_option linter.unusedSimpArgs false
set_option maxHeartbeats 2000000
set_option maxRecDepth 100000
namespace Go.Proofs.Lz
open Go Go.Cx Go.Proofs
def acy:List Nat:=[3,4,5,6,7,8,9,10,11,12,13,14,15,16,17,18,19,20,21,22,23,24,25,26,27,28,29,30,31,33,34,35,36,37,38,39,40,41,42,43,44,45,46,47,48,49,50,51,52,53,54,55,56,59,61,62,63,64,65,66,67,68,69,70,71,72,73,74,75,76,77,78,79,80,81,82,83,84,85,90,91,92,103,104,105,106,107,108,109,110,111,112,113,114,115,116,117,118,119,120,121,132,133,134,135,136,137,138,139,140,141,145,146,147,148,149,150,151,152,153,154,155,156,157,158,159,160,161,162,163,164,165,182,183,184,188,189]
def keep(f:FuncId):Bool:=acy.contains f
noncomputable def fX:Func:={ (Tryz.prog.funcs[32]?).getD Go.Cx.blank with body:=some (.exit 999) }
noncomputable def prog:Program:=Pt Tryz.prog 32 fX keep
theorem aA{f:FuncId}{fn:Func}(h:Tryz.prog.funcs[f]? =some fn)(hk:keep f=true)(hX:(f==32)=false):prog.funcs[f]? =some fn:=by
 rw [prog,rm,h,qae,if_neg (by simpa using hX),if_pos hk]
theorem N3:prog.funcs[3]? =some Tryz.f3:=aA Tryz.func3 (by decide) (by decide)
theorem N6:prog.funcs[6]? =some Tryz.f6:=aA Tryz.func6 (by decide) (by decide)
theorem N7:prog.funcs[7]? =some Tryz.f7:=aA Tryz.func7 (by decide) (by decide)
theorem N8:prog.funcs[8]? =some Tryz.f8:=aA Tryz.func8 (by decide) (by decide)
theorem N9:prog.funcs[9]? =some Tryz.f9:=aA Tryz.func9 (by decide) (by decide)
theorem N10:prog.funcs[10]? =some Tryz.f10:=aA Tryz.func10 (by decide) (by decide)
theorem N24:prog.funcs[24]? =some Tryz.f24:=aA Tryz.func24 (by decide) (by decide)
theorem N25:prog.funcs[25]? =some Tryz.f25:=aA Tryz.func25 (by decide) (by decide)
theorem N26:prog.funcs[26]? =some Tryz.f26:=aA Tryz.func26 (by decide) (by decide)
theorem N27:prog.funcs[27]? =some Tryz.f27:=aA Tryz.func27 (by decide) (by decide)
theorem N28:prog.funcs[28]? =some Tryz.f28:=aA Tryz.func28 (by decide) (by decide)
theorem N29:prog.funcs[29]? =some Tryz.f29:=aA Tryz.func29 (by decide) (by decide)
theorem N30:prog.funcs[30]? =some Tryz.f30:=aA Tryz.func30 (by decide) (by decide)
theorem N31:prog.funcs[31]? =some Tryz.f31:=aA Tryz.func31 (by decide) (by decide)
theorem N33:prog.funcs[33]? =some Tryz.f33:=aA Tryz.func33 (by decide) (by decide)
theorem N34:prog.funcs[34]? =some Tryz.f34:=aA Tryz.func34 (by decide) (by decide)
theorem N35:prog.funcs[35]? =some Tryz.f35:=aA Tryz.func35 (by decide) (by decide)
theorem N36:prog.funcs[36]? =some Tryz.f36:=aA Tryz.func36 (by decide) (by decide)
theorem N37:prog.funcs[37]? =some Tryz.f37:=aA Tryz.func37 (by decide) (by decide)
theorem N38:prog.funcs[38]? =some Tryz.f38:=aA Tryz.func38 (by decide) (by decide)
theorem N39:prog.funcs[39]? =some Tryz.f39:=aA Tryz.func39 (by decide) (by decide)
theorem N40:prog.funcs[40]? =some Tryz.f40:=aA Tryz.func40 (by decide) (by decide)
theorem N43:prog.funcs[43]? =some Tryz.f43:=aA Tryz.func43 (by decide) (by decide)
theorem N48:prog.funcs[48]? =some Tryz.f48:=aA Tryz.func48 (by decide) (by decide)
theorem N49:prog.funcs[49]? =some Tryz.f49:=aA Tryz.func49 (by decide) (by decide)
theorem N50:prog.funcs[50]? =some Tryz.f50:=aA Tryz.func50 (by decide) (by decide)
theorem N51:prog.funcs[51]? =some Tryz.f51:=aA Tryz.func51 (by decide) (by decide)
theorem N52:prog.funcs[52]? =some Tryz.f52:=aA Tryz.func52 (by decide) (by decide)
theorem N53:prog.funcs[53]? =some Tryz.f53:=aA Tryz.func53 (by decide) (by decide)
theorem N54:prog.funcs[54]? =some Tryz.f54:=aA Tryz.func54 (by decide) (by decide)
theorem N55:prog.funcs[55]? =some Tryz.f55:=aA Tryz.func55 (by decide) (by decide)
theorem N56:prog.funcs[56]? =some Tryz.f56:=aA Tryz.func56 (by decide) (by decide)
theorem N59:prog.funcs[59]? =some Tryz.f59:=aA Tryz.func59 (by decide) (by decide)
theorem N61:prog.funcs[61]? =some Tryz.f61:=aA Tryz.func61 (by decide) (by decide)
theorem N62:prog.funcs[62]? =some Tryz.f62:=aA Tryz.func62 (by decide) (by decide)
theorem N63:prog.funcs[63]? =some Tryz.f63:=aA Tryz.func63 (by decide) (by decide)
theorem N64:prog.funcs[64]? =some Tryz.f64:=aA Tryz.func64 (by decide) (by decide)
theorem N65:prog.funcs[65]? =some Tryz.f65:=aA Tryz.func65 (by decide) (by decide)
theorem N66:prog.funcs[66]? =some Tryz.f66:=aA Tryz.func66 (by decide) (by decide)
theorem N67:prog.funcs[67]? =some Tryz.f67:=aA Tryz.func67 (by decide) (by decide)
theorem N68:prog.funcs[68]? =some Tryz.f68:=aA Tryz.func68 (by decide) (by decide)
theorem N69:prog.funcs[69]? =some Tryz.f69:=aA Tryz.func69 (by decide) (by decide)
theorem N70:prog.funcs[70]? =some Tryz.f70:=aA Tryz.func70 (by decide) (by decide)
theorem N71:prog.funcs[71]? =some Tryz.f71:=aA Tryz.func71 (by decide) (by decide)
theorem N72:prog.funcs[72]? =some Tryz.f72:=aA Tryz.func72 (by decide) (by decide)
theorem N73:prog.funcs[73]? =some Tryz.f73:=aA Tryz.func73 (by decide) (by decide)
theorem N74:prog.funcs[74]? =some Tryz.f74:=aA Tryz.func74 (by decide) (by decide)
theorem N75:prog.funcs[75]? =some Tryz.f75:=aA Tryz.func75 (by decide) (by decide)
theorem N78:prog.funcs[78]? =some Tryz.f78:=aA Tryz.func78 (by decide) (by decide)
theorem N79:prog.funcs[79]? =some Tryz.f79:=aA Tryz.func79 (by decide) (by decide)
theorem N81:prog.funcs[81]? =some Tryz.f81:=aA Tryz.func81 (by decide) (by decide)
theorem N82:prog.funcs[82]? =some Tryz.f82:=aA Tryz.func82 (by decide) (by decide)
theorem N83:prog.funcs[83]? =some Tryz.f83:=aA Tryz.func83 (by decide) (by decide)
theorem N84:prog.funcs[84]? =some Tryz.f84:=aA Tryz.func84 (by decide) (by decide)
theorem N85:prog.funcs[85]? =some Tryz.f85:=aA Tryz.func85 (by decide) (by decide)
theorem N90:prog.funcs[90]? =some Tryz.f90:=aA Tryz.func90 (by decide) (by decide)
theorem N91:prog.funcs[91]? =some Tryz.f91:=aA Tryz.func91 (by decide) (by decide)
theorem N92:prog.funcs[92]? =some Tryz.f92:=aA Tryz.func92 (by decide) (by decide)
theorem af4:prog.funcs[103]? =some Tryz.f103:=aA Tryz.func103 (by decide) (by decide)
theorem acz:prog.funcs[104]? =some Tryz.f104:=aA Tryz.func104 (by decide) (by decide)
theorem af5:prog.funcs[105]? =some Tryz.f105:=aA Tryz.func105 (by decide) (by decide)
theorem af6:prog.funcs[106]? =some Tryz.f106:=aA Tryz.func106 (by decide) (by decide)
theorem af7:prog.funcs[107]? =some Tryz.f107:=aA Tryz.func107 (by decide) (by decide)
theorem af8:prog.funcs[108]? =some Tryz.f108:=aA Tryz.func108 (by decide) (by decide)
theorem af9:prog.funcs[109]? =some Tryz.f109:=aA Tryz.func109 (by decide) (by decide)
theorem aga:prog.funcs[110]? =some Tryz.f110:=aA Tryz.func110 (by decide) (by decide)
theorem agb:prog.funcs[111]? =some Tryz.f111:=aA Tryz.func111 (by decide) (by decide)
theorem agc:prog.funcs[112]? =some Tryz.f112:=aA Tryz.func112 (by decide) (by decide)
theorem agd:prog.funcs[113]? =some Tryz.f113:=aA Tryz.func113 (by decide) (by decide)
theorem age:prog.funcs[114]? =some Tryz.f114:=aA Tryz.func114 (by decide) (by decide)
theorem agf:prog.funcs[115]? =some Tryz.f115:=aA Tryz.func115 (by decide) (by decide)
theorem agh:prog.funcs[116]? =some Tryz.f116:=aA Tryz.func116 (by decide) (by decide)
theorem agi:prog.funcs[117]? =some Tryz.f117:=aA Tryz.func117 (by decide) (by decide)
theorem agj:prog.funcs[118]? =some Tryz.f118:=aA Tryz.func118 (by decide) (by decide)
theorem agk:prog.funcs[119]? =some Tryz.f119:=aA Tryz.func119 (by decide) (by decide)
theorem agl:prog.funcs[120]? =some Tryz.f120:=aA Tryz.func120 (by decide) (by decide)
theorem agm:prog.funcs[121]? =some Tryz.f121:=aA Tryz.func121 (by decide) (by decide)
theorem agn:prog.funcs[132]? =some Tryz.f132:=aA Tryz.func132 (by decide) (by decide)
theorem ago:prog.funcs[133]? =some Tryz.f133:=aA Tryz.func133 (by decide) (by decide)
theorem agp:prog.funcs[134]? =some Tryz.f134:=aA Tryz.func134 (by decide) (by decide)
theorem agq:prog.funcs[135]? =some Tryz.f135:=aA Tryz.func135 (by decide) (by decide)
theorem agr:prog.funcs[136]? =some Tryz.f136:=aA Tryz.func136 (by decide) (by decide)
theorem ags:prog.funcs[137]? =some Tryz.f137:=aA Tryz.func137 (by decide) (by decide)
theorem agt:prog.funcs[138]? =some Tryz.f138:=aA Tryz.func138 (by decide) (by decide)
theorem agu:prog.funcs[139]? =some Tryz.f139:=aA Tryz.func139 (by decide) (by decide)
theorem agv:prog.funcs[140]? =some Tryz.f140:=aA Tryz.func140 (by decide) (by decide)
theorem agw:prog.funcs[141]? =some Tryz.f141:=aA Tryz.func141 (by decide) (by decide)
theorem agx:prog.funcs[145]? =some Tryz.f145:=aA Tryz.func145 (by decide) (by decide)
theorem agy:prog.funcs[146]? =some Tryz.f146:=aA Tryz.func146 (by decide) (by decide)
theorem agz:prog.funcs[147]? =some Tryz.f147:=aA Tryz.func147 (by decide) (by decide)
theorem agA:prog.funcs[148]? =some Tryz.f148:=aA Tryz.func148 (by decide) (by decide)
theorem agB:prog.funcs[149]? =some Tryz.f149:=aA Tryz.func149 (by decide) (by decide)
theorem agC:prog.funcs[150]? =some Tryz.f150:=aA Tryz.func150 (by decide) (by decide)
theorem agD:prog.funcs[151]? =some Tryz.f151:=aA Tryz.func151 (by decide) (by decide)
theorem agE:prog.funcs[152]? =some Tryz.f152:=aA Tryz.func152 (by decide) (by decide)
theorem agF:prog.funcs[153]? =some Tryz.f153:=aA Tryz.func153 (by decide) (by decide)
theorem agG:prog.funcs[154]? =some Tryz.f154:=aA Tryz.func154 (by decide) (by decide)
theorem agH:prog.funcs[155]? =some Tryz.f155:=aA Tryz.func155 (by decide) (by decide)
theorem agI:prog.funcs[156]? =some Tryz.f156:=aA Tryz.func156 (by decide) (by decide)
theorem agJ:prog.funcs[157]? =some Tryz.f157:=aA Tryz.func157 (by decide) (by decide)
theorem acA:prog.funcs[158]? =some Tryz.f158:=aA Tryz.func158 (by decide) (by decide)
theorem agK:prog.funcs[159]? =some Tryz.f159:=aA Tryz.func159 (by decide) (by decide)
theorem agL:prog.funcs[160]? =some Tryz.f160:=aA Tryz.func160 (by decide) (by decide)
theorem agM:prog.funcs[161]? =some Tryz.f161:=aA Tryz.func161 (by decide) (by decide)
theorem agN:prog.funcs[162]? =some Tryz.f162:=aA Tryz.func162 (by decide) (by decide)
theorem agO:prog.funcs[163]? =some Tryz.f163:=aA Tryz.func163 (by decide) (by decide)
theorem acB:prog.funcs[164]? =some Tryz.f164:=aA Tryz.func164 (by decide) (by decide)
theorem agP:prog.funcs[165]? =some Tryz.f165:=aA Tryz.func165 (by decide) (by decide)
theorem agQ:prog.funcs[182]? =some Tryz.f182:=aA Tryz.func182 (by decide) (by decide)
theorem agR:prog.funcs[183]? =some Tryz.f183:=aA Tryz.func183 (by decide) (by decide)
theorem agS:prog.funcs[184]? =some Tryz.f184:=aA Tryz.func184 (by decide) (by decide)
theorem agT:prog.funcs[188]? =some Tryz.f188:=aA Tryz.func188 (by decide) (by decide)
theorem agU:prog.funcs[189]? =some Tryz.f189:=aA Tryz.func189 (by decide) (by decide)
theorem u_{t:TypeId}{x:Option TypeDesc}(h:Tryz.prog.underlying t=x):prog.underlying t=x:=h
theorem t_{α:Type}{s:Sem α}{w:World}{x:Result α}(h:Sem.run Tryz.prog s w=x)(e:Sem.run prog s w=Sem.run Tryz.prog s w):Sem.run prog s w=x:=e.trans h
theorem U0:type_of% (u_ Tryz.underlying0):=u_ Tryz.underlying0
theorem U3:type_of% (u_ Tryz.underlying3):=u_ Tryz.underlying3
theorem U4:type_of% (u_ Tryz.underlying4):=u_ Tryz.underlying4
theorem U5:type_of% (u_ Tryz.underlying5):=u_ Tryz.underlying5
theorem U9:type_of% (u_ Tryz.underlying9):=u_ Tryz.underlying9
theorem E3:type_of% (u_ Tryz.underlying22):=u_ Tryz.underlying22
theorem ly:type_of% (u_ Tryz.underlying23):=u_ Tryz.underlying23
theorem mU:type_of% (u_ Tryz.underlying24):=u_ Tryz.underlying24
theorem gB:type_of% (u_ Tryz.underlying27):=u_ Tryz.underlying27
theorem iM:type_of% (u_ Tryz.underlying35):=u_ Tryz.underlying35
theorem U55:type_of% (u_ Tryz.underlying55):=u_ Tryz.underlying55
theorem U62:type_of% (u_ Tryz.underlying62):=u_ Tryz.underlying62
theorem kI:type_of% (u_ Tryz.underlying65):=u_ Tryz.underlying65
theorem MW:type_of% (u_ Tryz.underlying73):=u_ Tryz.underlying73
theorem U84:type_of% (u_ Tryz.underlying84):=u_ Tryz.underlying84
theorem U87:type_of% (u_ Tryz.underlying87):=u_ Tryz.underlying87
theorem agV:type_of% (u_ Tryz.underlying109):=u_ Tryz.underlying109
theorem agW:type_of% (u_ Tryz.underlying119):=u_ Tryz.underlying119
theorem jV:type_of% (u_ Tryz.underlying124):=u_ Tryz.underlying124
theorem Il:type_of% (u_ Tryz.underlying126):=u_ Tryz.underlying126
theorem vU:type_of% (u_ Tryz.underlying131):=u_ Tryz.underlying131
theorem RO:type_of% (u_ Tryz.underlying146):=u_ Tryz.underlying146
theorem xv:type_of% (u_ Tryz.underlying152):=u_ Tryz.underlying152
theorem agX:type_of% (u_ Tryz.underlying161):=u_ Tryz.underlying161
theorem agY:type_of% (u_ Tryz.underlying162):=u_ Tryz.underlying162
theorem agZ:type_of% (u_ Tryz.underlying178):=u_ Tryz.underlying178
theorem ag0:type_of% (u_ Tryz.underlying181):=u_ Tryz.underlying181
theorem ag1:type_of% (u_ Tryz.underlying185):=u_ Tryz.underlying185
theorem ag2:type_of% (u_ Tryz.underlying186):=u_ Tryz.underlying186
theorem A0:type_of% (λw=>t_ (Tryz.isAgg0 w) rfl):=λw=>t_ (Tryz.isAgg0 w) rfl
theorem A3:type_of% (λw=>t_ (Tryz.isAgg3 w) rfl):=λw=>t_ (Tryz.isAgg3 w) rfl
theorem A4:type_of% (λw=>t_ (Tryz.isAgg4 w) rfl):=λw=>t_ (Tryz.isAgg4 w) rfl
theorem A5:type_of% (λw=>t_ (Tryz.isAgg5 w) rfl):=λw=>t_ (Tryz.isAgg5 w) rfl
theorem A9:type_of% (λw=>t_ (Tryz.isAgg9 w) rfl):=λw=>t_ (Tryz.isAgg9 w) rfl
theorem A27:type_of% (λw=>t_ (Tryz.isAgg27 w) rfl):=λw=>t_ (Tryz.isAgg27 w) rfl
theorem A35:type_of% (λw=>t_ (Tryz.isAgg35 w) rfl):=λw=>t_ (Tryz.isAgg35 w) rfl
theorem A62:type_of% (λw=>t_ (Tryz.isAgg62 w) rfl):=λw=>t_ (Tryz.isAgg62 w) rfl
theorem A84:type_of% (λw=>t_ (Tryz.isAgg84 w) rfl):=λw=>t_ (Tryz.isAgg84 w) rfl
theorem A87:type_of% (λw=>t_ (Tryz.isAgg87 w) rfl):=λw=>t_ (Tryz.isAgg87 w) rfl
theorem ag3:type_of% (λw=>t_ (Tryz.isAgg109 w) rfl):=λw=>t_ (Tryz.isAgg109 w) rfl
theorem ag4:type_of% (λw=>t_ (Tryz.isAgg119 w) rfl):=λw=>t_ (Tryz.isAgg119 w) rfl
theorem ag5:type_of% (λw=>t_ (Tryz.isAgg161 w) rfl):=λw=>t_ (Tryz.isAgg161 w) rfl
theorem ag6:type_of% (λw=>t_ (Tryz.isAgg162 w) rfl):=λw=>t_ (Tryz.isAgg162 w) rfl
theorem ag7:type_of% (λw=>t_ (Tryz.isAgg178 w) rfl):=λw=>t_ (Tryz.isAgg178 w) rfl
theorem ag8:type_of% (λw=>t_ (Tryz.isAgg181 w) rfl):=λw=>t_ (Tryz.isAgg181 w) rfl
theorem ag9:type_of% (λw=>t_ (Tryz.isAgg185 w) rfl):=λw=>t_ (Tryz.isAgg185 w) rfl
theorem aha:type_of% (λw=>t_ (Tryz.isAgg186 w) rfl):=λw=>t_ (Tryz.isAgg186 w) rfl
theorem S0:type_of% (λw=>t_ (Tryz.sizeOf0 w) rfl):=λw=>t_ (Tryz.sizeOf0 w) rfl
theorem S3:type_of% (λw=>t_ (Tryz.sizeOf3 w) rfl):=λw=>t_ (Tryz.sizeOf3 w) rfl
theorem S4:type_of% (λw=>t_ (Tryz.sizeOf4 w) rfl):=λw=>t_ (Tryz.sizeOf4 w) rfl
theorem S5:type_of% (λw=>t_ (Tryz.sizeOf5 w) rfl):=λw=>t_ (Tryz.sizeOf5 w) rfl
theorem S9:type_of% (λw=>t_ (Tryz.sizeOf9 w) rfl):=λw=>t_ (Tryz.sizeOf9 w) rfl
theorem S27:type_of% (λw=>t_ (Tryz.sizeOf27 w) rfl):=λw=>t_ (Tryz.sizeOf27 w) rfl
theorem S35:type_of% (λw=>t_ (Tryz.sizeOf35 w) rfl):=λw=>t_ (Tryz.sizeOf35 w) rfl
theorem S62:type_of% (λw=>t_ (Tryz.sizeOf62 w) rfl):=λw=>t_ (Tryz.sizeOf62 w) rfl
theorem S84:type_of% (λw=>t_ (Tryz.sizeOf84 w) rfl):=λw=>t_ (Tryz.sizeOf84 w) rfl
theorem S87:type_of% (λw=>t_ (Tryz.sizeOf87 w) rfl):=λw=>t_ (Tryz.sizeOf87 w) rfl
theorem ahb:type_of% (λw=>t_ (Tryz.sizeOf109 w) rfl):=λw=>t_ (Tryz.sizeOf109 w) rfl
theorem ahc:type_of% (λw=>t_ (Tryz.sizeOf119 w) rfl):=λw=>t_ (Tryz.sizeOf119 w) rfl
theorem ahd:type_of% (λw=>t_ (Tryz.sizeOf161 w) rfl):=λw=>t_ (Tryz.sizeOf161 w) rfl
theorem ahe:type_of% (λw=>t_ (Tryz.sizeOf162 w) rfl):=λw=>t_ (Tryz.sizeOf162 w) rfl
theorem ahf:type_of% (λw=>t_ (Tryz.sizeOf178 w) rfl):=λw=>t_ (Tryz.sizeOf178 w) rfl
theorem ahg:type_of% (λw=>t_ (Tryz.sizeOf181 w) rfl):=λw=>t_ (Tryz.sizeOf181 w) rfl
theorem ahh:type_of% (λw=>t_ (Tryz.sizeOf185 w) rfl):=λw=>t_ (Tryz.sizeOf185 w) rfl
theorem ahi:type_of% (λw=>t_ (Tryz.sizeOf186 w) rfl):=λw=>t_ (Tryz.sizeOf186 w) rfl
theorem Z0:type_of% (λw=>t_ (Tryz.zeroValue0 w) rfl):=λw=>t_ (Tryz.zeroValue0 w) rfl
theorem Z3:type_of% (λw=>t_ (Tryz.zeroValue3 w) rfl):=λw=>t_ (Tryz.zeroValue3 w) rfl
theorem Z4:type_of% (λw=>t_ (Tryz.zeroValue4 w) rfl):=λw=>t_ (Tryz.zeroValue4 w) rfl
theorem Z5:type_of% (λw=>t_ (Tryz.zeroValue5 w) rfl):=λw=>t_ (Tryz.zeroValue5 w) rfl
theorem Z9:type_of% (λw=>t_ (Tryz.zeroValue9 w) rfl):=λw=>t_ (Tryz.zeroValue9 w) rfl
theorem Z27:type_of% (λw=>t_ (Tryz.zeroValue27 w) rfl):=λw=>t_ (Tryz.zeroValue27 w) rfl
theorem Z62:type_of% (λw=>t_ (Tryz.zeroValue62 w) rfl):=λw=>t_ (Tryz.zeroValue62 w) rfl
theorem Z84:type_of% (λw=>t_ (Tryz.zeroValue84 w) rfl):=λw=>t_ (Tryz.zeroValue84 w) rfl
theorem Z87:type_of% (λw=>t_ (Tryz.zeroValue87 w) rfl):=λw=>t_ (Tryz.zeroValue87 w) rfl
theorem ahj:type_of% (λw=>t_ (Tryz.zeroValue109 w) rfl):=λw=>t_ (Tryz.zeroValue109 w) rfl
theorem ahk:type_of% (λw=>t_ (Tryz.zeroValue119 w) rfl):=λw=>t_ (Tryz.zeroValue119 w) rfl
theorem ahl:type_of% (λw=>t_ (Tryz.zeroValue161 w) rfl):=λw=>t_ (Tryz.zeroValue161 w) rfl
theorem ahm:type_of% (λw=>t_ (Tryz.zeroValue162 w) rfl):=λw=>t_ (Tryz.zeroValue162 w) rfl
theorem ahn:type_of% (λw=>t_ (Tryz.zeroValue178 w) rfl):=λw=>t_ (Tryz.zeroValue178 w) rfl
theorem aho:type_of% (λw=>t_ (Tryz.zeroValue181 w) rfl):=λw=>t_ (Tryz.zeroValue181 w) rfl
theorem ahp:type_of% (λw=>t_ (Tryz.zeroValue185 w) rfl):=λw=>t_ (Tryz.zeroValue185 w) rfl
theorem ahq:type_of% (λw=>t_ (Tryz.zeroValue186 w) rfl):=λw=>t_ (Tryz.zeroValue186 w) rfl
end Go.Proofs.Lz
namespace Go.Proofs.Lz
open Go Go.Cx Go.Proofs
def ok(_:FuncId):Bool:=true
instance fs:bq:=fE ok (mb 32 keep Tryz.prog.funcs.size)
noncomputable instance cs:aR:=tx ok (mb 32 keep Tryz.prog.funcs.size) prog Tryz.prog
theorem gl:Tryz.prog.globals.size=0:=by kernel_rfl
theorem tys:Tryz.prog.types.toList.all (tyB ok)=true:=by kernel_rfl
theorem b1:(Extern.findNext Go.Cx.blank).isNone=true:=by kernel_rfl
theorem b2:(Extern.find Go.Cx.blank).isNone=true:=by kernel_rfl
theorem u1:(List.range Tryz.prog.funcs.size).all (λf=> !(keep f) || f==32 || match Tryz.prog.funcs[f]? with | some fn=>jU ok (Pt Tryz.prog 32 fX keep) Tryz.prog fn | none=>true)=true:=by kernel_rfl
theorem u2:(List.range Tryz.prog.funcs.size).all (λf=> !(keep f) || f==32 || match Tryz.prog.funcs[f]? with | some fn=>jU ok (Pt Tryz.prog 32 fX keep) (Pt Tryz.prog 32 fX keep) fn | none=>true)=true:=by kernel_rfl
theorem u3:jU ok (Pt Tryz.prog 32 fX keep) (Pt Tryz.prog 32 fX keep) fX=true:=by kernel_rfl
theorem u4:Nat.ble 33 Tryz.prog.funcs.size=true:=by kernel_rfl
theorem ahr:32<Tryz.prog.funcs.size:=qa6 u4
theorem x1:(match Tryz.prog.funcs[32]? with | some fn=> !fn.body.isNone&&fn.name != "runtime.NumGoroutine" | none=>false)=true:=by kernel_rfl
theorem gX: ∃g:Func,Tryz.prog.funcs[32]? =some g/\g.body.isNone=false/\(g.name== "runtime.NumGoroutine")=false:=by
 have h:=x1;split at h
 ·rename_i fn e;simp only [qa5,qbh,bne_iff_ne] at h;exact ⟨fn,e,h.1,by simpa using h.2⟩
 ·cases h
theorem acC{p q:Program}(hT:p.toTables=q.toTables): ∀(d:Nat) (t:TypeId),p.eqGuardType d t=q.eqGuardType d t:=by
 intro d
 induction d with
 | zero=>intro t;rfl
 | succ d ih=>intro t;unfold Program.eqGuardType;simp only [yR hT,ih]
theorem eqg(t:TypeId):Tryz.prog.eqGuardType Tryz.prog.depth t=prog.eqGuardType prog.depth t:=by
 have hT:Tryz.prog.toTables=prog.toTables:=rfl;rw [uF hT];exact acC hT _ t
section
variable[bs]
omit [bs] in
theorem rel: @fx fs prog Tryz.prog/\ @PF fs cs prog Tryz.prog (λf=>f=32):=by
 obtain ⟨g,h1,h2⟩:=gX;exact ZC gl tys b1 b2 u3 h1 h2 u1
omit [bs] in
theorem self: @fx fs prog prog/\ @PF fs (tx ok (mb 32 keep Tryz.prog.funcs.size) prog prog) prog prog (λ_=>False):=Vi gl tys b1 b2 u3 ahr u2
omit [bs] in
theorem acD: @PF fs cs prog prog (λ_=>False):=
 have h:=self.2
 @PF.mk fs cs prog prog (λ_=>False) (@PF.same fs (tx ok (mb 32 keep Tryz.prog.funcs.size) prog prog) prog prog (λ_=>False) h) rfl
  λc=>⟨fun (k: @cG fs prog Tryz.prog c)=> @cG.imp fs _ _ _ (λt q=>(eqg t)▸q) _ k,λk=> @cG.imp fs _ _ _ (λt q=>(eqg t).symm▸q) _ k⟩
end
theorem yU:prog.funcs[32]? =some fX:=by
 obtain ⟨g,h1,_⟩:=gX;rw [prog,rm,h1,qae,if_pos rfl]
theorem stuck{x:Array Value}{k:List Frame}{w:World}: ∃o,stepG prog true (fD (Frame.enter prog 32 x .normal) k) w= .ended o w #[]:=by
 rw [show Frame.enter prog 32 x .normal=_ from Go.Conc.enter_at x yU rfl];exact ⟨_,by simp [stepG,stepG.exec,Frame.at,exitTo];rfl⟩
theorem acE(Q:Frame->World->Prop)(f:FuncId)(x:Array Value)(k:List Frame)(w:World)(h:f=32): ¬vu prog Q (Frame.enter prog f x .normal) k w:=by
 subst h;generalize hE:Frame.enter prog 32 x .normal=e;intro hw;cases hw with
 | done h1 h2 h3=>
  rw [←hE,show Frame.enter prog 32 x .normal=_ from Go.Conc.enter_at x yU rfl] at h1;cases h1
 | step h1 h2=>
  obtain ⟨a1,k1,w1,es,h3,_⟩:=h1 w.tape (λ_ _ _=>rfl);obtain ⟨o,h4⟩:=stuck (x:=x) (k:=k++[cP]) (w:=TW w w.tape);rw [←hE] at h3;rw [h4] at h3;cases h3
theorem Vy(f:FuncId)(x:Array Value)(w:World)(R:Value->World->Prop)(h:f=32): ¬Calls prog f x w fun | .returned v,w'=>R v w' | _,_=>False:=by
 subst h;intro hc;obtain ⟨e,w',fr,h1,h2,h3,h4⟩:=hc [cP];cases e with
 | returned v=>
  obtain ⟨n,hn⟩:=(show Steps prog _ _ from h2);obtain ⟨o,h5⟩:=stuck (x:=x) (k:=[cP]) (w:=w);have h6:step prog (lone (Frame.enter prog 32 x .normal) [cP] w)= .ended o w:=step_lone_ended (by rw [show ({ frame:=Frame.enter prog 32 x .normal,callers:=[cP],status:= .running,dying:=none }:Goroutine)=fD _ _ from rfl,h5];rfl);have:n=0:=by
   cases n with
   | zero=>rfl
   | succ n=>rw [runN,h6] at hn;cases hn
  subst this;have h7:lone (Frame.enter prog 32 x .normal) [cP] w=lone fr [cP] w':=by simpa [runN] using hn
  have h8:Frame.enter prog 32 x .normal=fr:=by
   have:=congrArg (λm:Machine=>m.gs[0]?.map (·.frame)) h7;simpa [lone] using this
  have:=h4.1;rw [←h8,show Frame.enter prog 32 x .normal=_ from Go.Conc.enter_at x yU rfl] at this;cases this
 | panicked c=>exact h1
 | outgrown=>exact h1
noncomputable abbrev K(W0:World)(Φ:Machine->Trace->Prop): @Go.Vc.AR fs cs hU:=
 letI:=fs;letI:=cs;letI:=hU
 {L:=prog,C:=Tryz.prog,Xs:=λf=>f=32,W0:=W0,Φ:=Φ,HP:=rel.1,HF:=rel.2,HPs:=self.1,HFs:=acD,
  he:=λt q=>(eqg t)▸q,hX:=acE,hC:=Vy }
end Go.Proofs.Lz
