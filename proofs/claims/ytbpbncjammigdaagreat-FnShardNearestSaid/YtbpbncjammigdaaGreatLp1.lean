/- The program in which nobody comes back out of the search. -/
import Derived.Test.YtbpbncjammigdaaGreatAl
import Derived.Test.YtbpbncjammigdaaGreatProg
import Derived.Test.YtbpbncjammigdaaGreatCx2
import Derived.Test.YtbpbncjammigdaaGreatSrt1
import Derived.KernelRfl
set_option linter.unusedVariables false
set_option linter.unusedSimpArgs false
set_option maxHeartbeats 2000000
set_option maxRecDepth 100000
namespace Go.Proofs.Lz
open Go Go.Cx Go.Proofs
def abF:List Nat:=[3,4,5,6,7,8,9,10,11,12,13,14,15,16,17,18,19,20,21,22,23,24,25,26,27,28,29,30,31,33,34,35,36,37,38,39,40,41,42,43,44,45,46,47,48,49,50,51,52,53,54,55,56,59,61,62,63,64,65,66,67,68,69,70,71,72,73,74,75,76,77,78,79,80,81,82,83,84,85,90,91,92,103,104,105,106,107,108,109,110,111,112,113,114,115,116,117,118,119,120,121,132,133,134,135,136,137,138,139,140,141,145,146,147,148,149,150,151,152,153,154,155,156,157,158,159,160,161,162,163,164,165,182,183,184,188,189]
def keep(f:FuncId):Bool:=abF.contains f
noncomputable def fX:Func:={ (Tryz.prog.funcs[32]?).getD Go.Cx.blank with body:=some (.exit 999) }
noncomputable def prog:Program:=Pt Tryz.prog 32 fX keep
theorem au{f:FuncId}{fn:Func}(h:Tryz.prog.funcs[f]? =some fn)(hk:keep f=true)(hX:(f==32)=false):prog.funcs[f]? =some fn:=by
 rw [prog,ub,h,qac,if_neg (by simpa using hX),if_pos hk]
theorem N3:prog.funcs[3]? =some Tryz.f3:=au Tryz.func3 (by decide) (by decide)
theorem N6:prog.funcs[6]? =some Tryz.f6:=au Tryz.func6 (by decide) (by decide)
theorem N7:prog.funcs[7]? =some Tryz.f7:=au Tryz.func7 (by decide) (by decide)
theorem N8:prog.funcs[8]? =some Tryz.f8:=au Tryz.func8 (by decide) (by decide)
theorem N9:prog.funcs[9]? =some Tryz.f9:=au Tryz.func9 (by decide) (by decide)
theorem N10:prog.funcs[10]? =some Tryz.f10:=au Tryz.func10 (by decide) (by decide)
theorem N24:prog.funcs[24]? =some Tryz.f24:=au Tryz.func24 (by decide) (by decide)
theorem N25:prog.funcs[25]? =some Tryz.f25:=au Tryz.func25 (by decide) (by decide)
theorem N26:prog.funcs[26]? =some Tryz.f26:=au Tryz.func26 (by decide) (by decide)
theorem N27:prog.funcs[27]? =some Tryz.f27:=au Tryz.func27 (by decide) (by decide)
theorem N28:prog.funcs[28]? =some Tryz.f28:=au Tryz.func28 (by decide) (by decide)
theorem N29:prog.funcs[29]? =some Tryz.f29:=au Tryz.func29 (by decide) (by decide)
theorem N30:prog.funcs[30]? =some Tryz.f30:=au Tryz.func30 (by decide) (by decide)
theorem N31:prog.funcs[31]? =some Tryz.f31:=au Tryz.func31 (by decide) (by decide)
theorem N33:prog.funcs[33]? =some Tryz.f33:=au Tryz.func33 (by decide) (by decide)
theorem N34:prog.funcs[34]? =some Tryz.f34:=au Tryz.func34 (by decide) (by decide)
theorem N35:prog.funcs[35]? =some Tryz.f35:=au Tryz.func35 (by decide) (by decide)
theorem N36:prog.funcs[36]? =some Tryz.f36:=au Tryz.func36 (by decide) (by decide)
theorem N37:prog.funcs[37]? =some Tryz.f37:=au Tryz.func37 (by decide) (by decide)
theorem N38:prog.funcs[38]? =some Tryz.f38:=au Tryz.func38 (by decide) (by decide)
theorem N39:prog.funcs[39]? =some Tryz.f39:=au Tryz.func39 (by decide) (by decide)
theorem N40:prog.funcs[40]? =some Tryz.f40:=au Tryz.func40 (by decide) (by decide)
theorem N43:prog.funcs[43]? =some Tryz.f43:=au Tryz.func43 (by decide) (by decide)
theorem N48:prog.funcs[48]? =some Tryz.f48:=au Tryz.func48 (by decide) (by decide)
theorem N49:prog.funcs[49]? =some Tryz.f49:=au Tryz.func49 (by decide) (by decide)
theorem N50:prog.funcs[50]? =some Tryz.f50:=au Tryz.func50 (by decide) (by decide)
theorem N51:prog.funcs[51]? =some Tryz.f51:=au Tryz.func51 (by decide) (by decide)
theorem N52:prog.funcs[52]? =some Tryz.f52:=au Tryz.func52 (by decide) (by decide)
theorem N53:prog.funcs[53]? =some Tryz.f53:=au Tryz.func53 (by decide) (by decide)
theorem N54:prog.funcs[54]? =some Tryz.f54:=au Tryz.func54 (by decide) (by decide)
theorem N55:prog.funcs[55]? =some Tryz.f55:=au Tryz.func55 (by decide) (by decide)
theorem N56:prog.funcs[56]? =some Tryz.f56:=au Tryz.func56 (by decide) (by decide)
theorem N59:prog.funcs[59]? =some Tryz.f59:=au Tryz.func59 (by decide) (by decide)
theorem N61:prog.funcs[61]? =some Tryz.f61:=au Tryz.func61 (by decide) (by decide)
theorem N62:prog.funcs[62]? =some Tryz.f62:=au Tryz.func62 (by decide) (by decide)
theorem N63:prog.funcs[63]? =some Tryz.f63:=au Tryz.func63 (by decide) (by decide)
theorem N64:prog.funcs[64]? =some Tryz.f64:=au Tryz.func64 (by decide) (by decide)
theorem N65:prog.funcs[65]? =some Tryz.f65:=au Tryz.func65 (by decide) (by decide)
theorem N66:prog.funcs[66]? =some Tryz.f66:=au Tryz.func66 (by decide) (by decide)
theorem N67:prog.funcs[67]? =some Tryz.f67:=au Tryz.func67 (by decide) (by decide)
theorem N68:prog.funcs[68]? =some Tryz.f68:=au Tryz.func68 (by decide) (by decide)
theorem N69:prog.funcs[69]? =some Tryz.f69:=au Tryz.func69 (by decide) (by decide)
theorem N70:prog.funcs[70]? =some Tryz.f70:=au Tryz.func70 (by decide) (by decide)
theorem N71:prog.funcs[71]? =some Tryz.f71:=au Tryz.func71 (by decide) (by decide)
theorem N72:prog.funcs[72]? =some Tryz.f72:=au Tryz.func72 (by decide) (by decide)
theorem N73:prog.funcs[73]? =some Tryz.f73:=au Tryz.func73 (by decide) (by decide)
theorem N74:prog.funcs[74]? =some Tryz.f74:=au Tryz.func74 (by decide) (by decide)
theorem N75:prog.funcs[75]? =some Tryz.f75:=au Tryz.func75 (by decide) (by decide)
theorem N78:prog.funcs[78]? =some Tryz.f78:=au Tryz.func78 (by decide) (by decide)
theorem N79:prog.funcs[79]? =some Tryz.f79:=au Tryz.func79 (by decide) (by decide)
theorem N81:prog.funcs[81]? =some Tryz.f81:=au Tryz.func81 (by decide) (by decide)
theorem N82:prog.funcs[82]? =some Tryz.f82:=au Tryz.func82 (by decide) (by decide)
theorem N83:prog.funcs[83]? =some Tryz.f83:=au Tryz.func83 (by decide) (by decide)
theorem N84:prog.funcs[84]? =some Tryz.f84:=au Tryz.func84 (by decide) (by decide)
theorem N85:prog.funcs[85]? =some Tryz.f85:=au Tryz.func85 (by decide) (by decide)
theorem N90:prog.funcs[90]? =some Tryz.f90:=au Tryz.func90 (by decide) (by decide)
theorem N91:prog.funcs[91]? =some Tryz.f91:=au Tryz.func91 (by decide) (by decide)
theorem N92:prog.funcs[92]? =some Tryz.f92:=au Tryz.func92 (by decide) (by decide)
theorem afa:prog.funcs[103]? =some Tryz.f103:=au Tryz.func103 (by decide) (by decide)
theorem abG:prog.funcs[104]? =some Tryz.f104:=au Tryz.func104 (by decide) (by decide)
theorem afb:prog.funcs[105]? =some Tryz.f105:=au Tryz.func105 (by decide) (by decide)
theorem afc:prog.funcs[106]? =some Tryz.f106:=au Tryz.func106 (by decide) (by decide)
theorem afd:prog.funcs[107]? =some Tryz.f107:=au Tryz.func107 (by decide) (by decide)
theorem afe:prog.funcs[108]? =some Tryz.f108:=au Tryz.func108 (by decide) (by decide)
theorem aff:prog.funcs[109]? =some Tryz.f109:=au Tryz.func109 (by decide) (by decide)
theorem afg:prog.funcs[110]? =some Tryz.f110:=au Tryz.func110 (by decide) (by decide)
theorem afh:prog.funcs[111]? =some Tryz.f111:=au Tryz.func111 (by decide) (by decide)
theorem afi:prog.funcs[112]? =some Tryz.f112:=au Tryz.func112 (by decide) (by decide)
theorem afj:prog.funcs[113]? =some Tryz.f113:=au Tryz.func113 (by decide) (by decide)
theorem afk:prog.funcs[114]? =some Tryz.f114:=au Tryz.func114 (by decide) (by decide)
theorem afl:prog.funcs[115]? =some Tryz.f115:=au Tryz.func115 (by decide) (by decide)
theorem afm:prog.funcs[116]? =some Tryz.f116:=au Tryz.func116 (by decide) (by decide)
theorem afn:prog.funcs[117]? =some Tryz.f117:=au Tryz.func117 (by decide) (by decide)
theorem afo:prog.funcs[118]? =some Tryz.f118:=au Tryz.func118 (by decide) (by decide)
theorem afp:prog.funcs[119]? =some Tryz.f119:=au Tryz.func119 (by decide) (by decide)
theorem afq:prog.funcs[120]? =some Tryz.f120:=au Tryz.func120 (by decide) (by decide)
theorem afr:prog.funcs[121]? =some Tryz.f121:=au Tryz.func121 (by decide) (by decide)
theorem afs:prog.funcs[132]? =some Tryz.f132:=au Tryz.func132 (by decide) (by decide)
theorem aft:prog.funcs[133]? =some Tryz.f133:=au Tryz.func133 (by decide) (by decide)
theorem afu:prog.funcs[134]? =some Tryz.f134:=au Tryz.func134 (by decide) (by decide)
theorem afv:prog.funcs[135]? =some Tryz.f135:=au Tryz.func135 (by decide) (by decide)
theorem afw:prog.funcs[136]? =some Tryz.f136:=au Tryz.func136 (by decide) (by decide)
theorem afx:prog.funcs[137]? =some Tryz.f137:=au Tryz.func137 (by decide) (by decide)
theorem afy:prog.funcs[138]? =some Tryz.f138:=au Tryz.func138 (by decide) (by decide)
theorem afz:prog.funcs[139]? =some Tryz.f139:=au Tryz.func139 (by decide) (by decide)
theorem afA:prog.funcs[140]? =some Tryz.f140:=au Tryz.func140 (by decide) (by decide)
theorem afB:prog.funcs[141]? =some Tryz.f141:=au Tryz.func141 (by decide) (by decide)
theorem afC:prog.funcs[145]? =some Tryz.f145:=au Tryz.func145 (by decide) (by decide)
theorem afD:prog.funcs[146]? =some Tryz.f146:=au Tryz.func146 (by decide) (by decide)
theorem afE:prog.funcs[147]? =some Tryz.f147:=au Tryz.func147 (by decide) (by decide)
theorem afF:prog.funcs[148]? =some Tryz.f148:=au Tryz.func148 (by decide) (by decide)
theorem afG:prog.funcs[149]? =some Tryz.f149:=au Tryz.func149 (by decide) (by decide)
theorem afH:prog.funcs[150]? =some Tryz.f150:=au Tryz.func150 (by decide) (by decide)
theorem afI:prog.funcs[151]? =some Tryz.f151:=au Tryz.func151 (by decide) (by decide)
theorem afJ:prog.funcs[152]? =some Tryz.f152:=au Tryz.func152 (by decide) (by decide)
theorem afK:prog.funcs[153]? =some Tryz.f153:=au Tryz.func153 (by decide) (by decide)
theorem afL:prog.funcs[154]? =some Tryz.f154:=au Tryz.func154 (by decide) (by decide)
theorem afM:prog.funcs[155]? =some Tryz.f155:=au Tryz.func155 (by decide) (by decide)
theorem afN:prog.funcs[156]? =some Tryz.f156:=au Tryz.func156 (by decide) (by decide)
theorem afO:prog.funcs[157]? =some Tryz.f157:=au Tryz.func157 (by decide) (by decide)
theorem abH:prog.funcs[158]? =some Tryz.f158:=au Tryz.func158 (by decide) (by decide)
theorem afP:prog.funcs[159]? =some Tryz.f159:=au Tryz.func159 (by decide) (by decide)
theorem afQ:prog.funcs[160]? =some Tryz.f160:=au Tryz.func160 (by decide) (by decide)
theorem afR:prog.funcs[161]? =some Tryz.f161:=au Tryz.func161 (by decide) (by decide)
theorem afS:prog.funcs[162]? =some Tryz.f162:=au Tryz.func162 (by decide) (by decide)
theorem afT:prog.funcs[163]? =some Tryz.f163:=au Tryz.func163 (by decide) (by decide)
theorem abI:prog.funcs[164]? =some Tryz.f164:=au Tryz.func164 (by decide) (by decide)
theorem afU:prog.funcs[165]? =some Tryz.f165:=au Tryz.func165 (by decide) (by decide)
theorem afV:prog.funcs[182]? =some Tryz.f182:=au Tryz.func182 (by decide) (by decide)
theorem afW:prog.funcs[183]? =some Tryz.f183:=au Tryz.func183 (by decide) (by decide)
theorem afX:prog.funcs[184]? =some Tryz.f184:=au Tryz.func184 (by decide) (by decide)
theorem afY:prog.funcs[188]? =some Tryz.f188:=au Tryz.func188 (by decide) (by decide)
theorem afZ:prog.funcs[189]? =some Tryz.f189:=au Tryz.func189 (by decide) (by decide)
theorem u_{t:TypeId}{x:Option TypeDesc}(h:Tryz.prog.underlying t=x):prog.underlying t=x:=h
theorem t_{α:Type}{s:Sem α}{w:World}{x:Result α}(h:Sem.run Tryz.prog s w=x)(e:Sem.run prog s w=Sem.run Tryz.prog s w):Sem.run prog s w=x:=e.trans h
theorem U0:type_of% (u_ Tryz.underlying0):=u_ Tryz.underlying0
theorem U3:type_of% (u_ Tryz.underlying3):=u_ Tryz.underlying3
theorem U4:type_of% (u_ Tryz.underlying4):=u_ Tryz.underlying4
theorem U5:type_of% (u_ Tryz.underlying5):=u_ Tryz.underlying5
theorem U9:type_of% (u_ Tryz.underlying9):=u_ Tryz.underlying9
theorem E7:type_of% (u_ Tryz.underlying22):=u_ Tryz.underlying22
theorem ns:type_of% (u_ Tryz.underlying23):=u_ Tryz.underlying23
theorem oZ:type_of% (u_ Tryz.underlying24):=u_ Tryz.underlying24
theorem iR:type_of% (u_ Tryz.underlying27):=u_ Tryz.underlying27
theorem j8:type_of% (u_ Tryz.underlying35):=u_ Tryz.underlying35
theorem U55:type_of% (u_ Tryz.underlying55):=u_ Tryz.underlying55
theorem U62:type_of% (u_ Tryz.underlying62):=u_ Tryz.underlying62
theorem mz:type_of% (u_ Tryz.underlying65):=u_ Tryz.underlying65
theorem LN:type_of% (u_ Tryz.underlying73):=u_ Tryz.underlying73
theorem U84:type_of% (u_ Tryz.underlying84):=u_ Tryz.underlying84
theorem U87:type_of% (u_ Tryz.underlying87):=u_ Tryz.underlying87
theorem af0:type_of% (u_ Tryz.underlying109):=u_ Tryz.underlying109
theorem af1:type_of% (u_ Tryz.underlying119):=u_ Tryz.underlying119
theorem lH:type_of% (u_ Tryz.underlying124):=u_ Tryz.underlying124
theorem Hn:type_of% (u_ Tryz.underlying126):=u_ Tryz.underlying126
theorem yE:type_of% (u_ Tryz.underlying131):=u_ Tryz.underlying131
theorem QM:type_of% (u_ Tryz.underlying146):=u_ Tryz.underlying146
theorem zQ:type_of% (u_ Tryz.underlying152):=u_ Tryz.underlying152
theorem af2:type_of% (u_ Tryz.underlying161):=u_ Tryz.underlying161
theorem af3:type_of% (u_ Tryz.underlying162):=u_ Tryz.underlying162
theorem af4:type_of% (u_ Tryz.underlying178):=u_ Tryz.underlying178
theorem af5:type_of% (u_ Tryz.underlying181):=u_ Tryz.underlying181
theorem af6:type_of% (u_ Tryz.underlying185):=u_ Tryz.underlying185
theorem af7:type_of% (u_ Tryz.underlying186):=u_ Tryz.underlying186
theorem A0:type_of% (λw=>t_ (Tryz.isAgg0 w) rfl):=λw=>t_ (Tryz.isAgg0 w) rfl
theorem A3:type_of% (λw=>t_ (Tryz.isAgg3 w) rfl):=λw=>t_ (Tryz.isAgg3 w) rfl
theorem A4:type_of% (λw=>t_ (Tryz.isAgg4 w) rfl):=λw=>t_ (Tryz.isAgg4 w) rfl
theorem A5:type_of% (λw=>t_ (Tryz.isAgg5 w) rfl):=λw=>t_ (Tryz.isAgg5 w) rfl
theorem A9:type_of% (λw=>t_ (Tryz.isAgg9 w) rfl):=λw=>t_ (Tryz.isAgg9 w) rfl
theorem A27:type_of% (λw=>t_ (Tryz.isAgg27 w) rfl):=λw=>t_ (Tryz.isAgg27 w) rfl
theorem A35:type_of% (λw=>t_ (Tryz.isAgg35 w) rfl):=λw=>t_ (Tryz.isAgg35 w) rfl
theorem A62:type_of% (λw=>t_ (Tryz.isAgg62 w) rfl):=λw=>t_ (Tryz.isAgg62 w) rfl
theorem A84:type_of% (λw=>t_ (Tryz.isAgg84 w) rfl):=λw=>t_ (Tryz.isAgg84 w) rfl
theorem A87:type_of% (λw=>t_ (Tryz.isAgg87 w) rfl):=λw=>t_ (Tryz.isAgg87 w) rfl
theorem af8:type_of% (λw=>t_ (Tryz.isAgg109 w) rfl):=λw=>t_ (Tryz.isAgg109 w) rfl
theorem af9:type_of% (λw=>t_ (Tryz.isAgg119 w) rfl):=λw=>t_ (Tryz.isAgg119 w) rfl
theorem aga:type_of% (λw=>t_ (Tryz.isAgg161 w) rfl):=λw=>t_ (Tryz.isAgg161 w) rfl
theorem agb:type_of% (λw=>t_ (Tryz.isAgg162 w) rfl):=λw=>t_ (Tryz.isAgg162 w) rfl
theorem agc:type_of% (λw=>t_ (Tryz.isAgg178 w) rfl):=λw=>t_ (Tryz.isAgg178 w) rfl
theorem agd:type_of% (λw=>t_ (Tryz.isAgg181 w) rfl):=λw=>t_ (Tryz.isAgg181 w) rfl
theorem age:type_of% (λw=>t_ (Tryz.isAgg185 w) rfl):=λw=>t_ (Tryz.isAgg185 w) rfl
theorem agf:type_of% (λw=>t_ (Tryz.isAgg186 w) rfl):=λw=>t_ (Tryz.isAgg186 w) rfl
theorem S0:type_of% (λw=>t_ (Tryz.sizeOf0 w) rfl):=λw=>t_ (Tryz.sizeOf0 w) rfl
theorem S3:type_of% (λw=>t_ (Tryz.sizeOf3 w) rfl):=λw=>t_ (Tryz.sizeOf3 w) rfl
theorem S4:type_of% (λw=>t_ (Tryz.sizeOf4 w) rfl):=λw=>t_ (Tryz.sizeOf4 w) rfl
theorem S5:type_of% (λw=>t_ (Tryz.sizeOf5 w) rfl):=λw=>t_ (Tryz.sizeOf5 w) rfl
theorem S9:type_of% (λw=>t_ (Tryz.sizeOf9 w) rfl):=λw=>t_ (Tryz.sizeOf9 w) rfl
theorem S27:type_of% (λw=>t_ (Tryz.sizeOf27 w) rfl):=λw=>t_ (Tryz.sizeOf27 w) rfl
theorem S35:type_of% (λw=>t_ (Tryz.sizeOf35 w) rfl):=λw=>t_ (Tryz.sizeOf35 w) rfl
theorem S62:type_of% (λw=>t_ (Tryz.sizeOf62 w) rfl):=λw=>t_ (Tryz.sizeOf62 w) rfl
theorem S84:type_of% (λw=>t_ (Tryz.sizeOf84 w) rfl):=λw=>t_ (Tryz.sizeOf84 w) rfl
theorem S87:type_of% (λw=>t_ (Tryz.sizeOf87 w) rfl):=λw=>t_ (Tryz.sizeOf87 w) rfl
theorem agh:type_of% (λw=>t_ (Tryz.sizeOf109 w) rfl):=λw=>t_ (Tryz.sizeOf109 w) rfl
theorem agi:type_of% (λw=>t_ (Tryz.sizeOf119 w) rfl):=λw=>t_ (Tryz.sizeOf119 w) rfl
theorem agj:type_of% (λw=>t_ (Tryz.sizeOf161 w) rfl):=λw=>t_ (Tryz.sizeOf161 w) rfl
theorem agk:type_of% (λw=>t_ (Tryz.sizeOf162 w) rfl):=λw=>t_ (Tryz.sizeOf162 w) rfl
theorem agl:type_of% (λw=>t_ (Tryz.sizeOf178 w) rfl):=λw=>t_ (Tryz.sizeOf178 w) rfl
theorem agm:type_of% (λw=>t_ (Tryz.sizeOf181 w) rfl):=λw=>t_ (Tryz.sizeOf181 w) rfl
theorem agn:type_of% (λw=>t_ (Tryz.sizeOf185 w) rfl):=λw=>t_ (Tryz.sizeOf185 w) rfl
theorem ago:type_of% (λw=>t_ (Tryz.sizeOf186 w) rfl):=λw=>t_ (Tryz.sizeOf186 w) rfl
theorem Z0:type_of% (λw=>t_ (Tryz.zeroValue0 w) rfl):=λw=>t_ (Tryz.zeroValue0 w) rfl
theorem Z3:type_of% (λw=>t_ (Tryz.zeroValue3 w) rfl):=λw=>t_ (Tryz.zeroValue3 w) rfl
theorem Z4:type_of% (λw=>t_ (Tryz.zeroValue4 w) rfl):=λw=>t_ (Tryz.zeroValue4 w) rfl
theorem Z5:type_of% (λw=>t_ (Tryz.zeroValue5 w) rfl):=λw=>t_ (Tryz.zeroValue5 w) rfl
theorem Z9:type_of% (λw=>t_ (Tryz.zeroValue9 w) rfl):=λw=>t_ (Tryz.zeroValue9 w) rfl
theorem Z27:type_of% (λw=>t_ (Tryz.zeroValue27 w) rfl):=λw=>t_ (Tryz.zeroValue27 w) rfl
theorem Z62:type_of% (λw=>t_ (Tryz.zeroValue62 w) rfl):=λw=>t_ (Tryz.zeroValue62 w) rfl
theorem Z84:type_of% (λw=>t_ (Tryz.zeroValue84 w) rfl):=λw=>t_ (Tryz.zeroValue84 w) rfl
theorem Z87:type_of% (λw=>t_ (Tryz.zeroValue87 w) rfl):=λw=>t_ (Tryz.zeroValue87 w) rfl
theorem agp:type_of% (λw=>t_ (Tryz.zeroValue109 w) rfl):=λw=>t_ (Tryz.zeroValue109 w) rfl
theorem agq:type_of% (λw=>t_ (Tryz.zeroValue119 w) rfl):=λw=>t_ (Tryz.zeroValue119 w) rfl
theorem agr:type_of% (λw=>t_ (Tryz.zeroValue161 w) rfl):=λw=>t_ (Tryz.zeroValue161 w) rfl
theorem ags:type_of% (λw=>t_ (Tryz.zeroValue162 w) rfl):=λw=>t_ (Tryz.zeroValue162 w) rfl
theorem agt:type_of% (λw=>t_ (Tryz.zeroValue178 w) rfl):=λw=>t_ (Tryz.zeroValue178 w) rfl
theorem agu:type_of% (λw=>t_ (Tryz.zeroValue181 w) rfl):=λw=>t_ (Tryz.zeroValue181 w) rfl
theorem agv:type_of% (λw=>t_ (Tryz.zeroValue185 w) rfl):=λw=>t_ (Tryz.zeroValue185 w) rfl
theorem agw:type_of% (λw=>t_ (Tryz.zeroValue186 w) rfl):=λw=>t_ (Tryz.zeroValue186 w) rfl
end Go.Proofs.Lz
namespace Go.Proofs.Lz
open Go Go.Cx Go.Proofs
def ok(_:FuncId):Bool:=true
instance fs:ba:=gK ok (oc 32 keep Tryz.prog.funcs.size)
noncomputable instance cs:aH:=vP ok (oc 32 keep Tryz.prog.funcs.size) prog Tryz.prog
theorem gl:Tryz.prog.globals.size=0:=by kernel_rfl
theorem tys:Tryz.prog.types.toList.all (tyB ok)=true:=by kernel_rfl
theorem b1:(Extern.findNext Go.Cx.blank).isNone=true:=by kernel_rfl
theorem b2:(Extern.find Go.Cx.blank).isNone=true:=by kernel_rfl
theorem u1:(List.range Tryz.prog.funcs.size).all (λf=> !(keep f) || f==32 || match Tryz.prog.funcs[f]? with | some fn=>lC ok (Pt Tryz.prog 32 fX keep) Tryz.prog fn | none=>true)=true:=by kernel_rfl
theorem u2:(List.range Tryz.prog.funcs.size).all (λf=> !(keep f) || f==32 || match Tryz.prog.funcs[f]? with | some fn=>lC ok (Pt Tryz.prog 32 fX keep) (Pt Tryz.prog 32 fX keep) fn | none=>true)=true:=by kernel_rfl
theorem u3:lC ok (Pt Tryz.prog 32 fX keep) (Pt Tryz.prog 32 fX keep) fX=true:=by kernel_rfl
theorem u4:Nat.ble 33 Tryz.prog.funcs.size=true:=by kernel_rfl
theorem agx:32<Tryz.prog.funcs.size:=qa5 u4
theorem x1:(match Tryz.prog.funcs[32]? with | some fn=> !fn.body.isNone&&fn.name != "runtime.NumGoroutine" | none=>false)=true:=by kernel_rfl
theorem gX: ∃g:Func,Tryz.prog.funcs[32]? =some g/\g.body.isNone=false/\(g.name== "runtime.NumGoroutine")=false:=by
 have h:=x1;split at h
 ·rename_i fn e;simp only [qa4,qbe,bne_iff_ne] at h;exact ⟨fn,e,h.1,by simpa using h.2⟩
 ·cases h
theorem abJ{p q:Program}(hT:p.toTables=q.toTables): ∀(d:Nat) (t:TypeId),p.eqGuardType d t=q.eqGuardType d t:=by
 intro d
 induction d with
 | zero=>intro t;rfl
 | succ d ih=>intro t;unfold Program.eqGuardType;simp only [AX hT,ih]
theorem eqg(t:TypeId):Tryz.prog.eqGuardType Tryz.prog.depth t=prog.eqGuardType prog.depth t:=by
 have hT:Tryz.prog.toTables=prog.toTables:=rfl;rw [wT hT];exact abJ hT _ t
section
variable[bg]
omit [bg] in
theorem rel: @gC fs prog Tryz.prog/\ @PF fs cs prog Tryz.prog (λf=>f=32):=by
 obtain ⟨g,h1,h2⟩:=gX;exact X3 gl tys b1 b2 u3 h1 h2 u1
omit [bg] in
theorem self: @gC fs prog prog/\ @PF fs (vP ok (oc 32 keep Tryz.prog.funcs.size) prog prog) prog prog (λ_=>False):=TL gl tys b1 b2 u3 agx u2
omit [bg] in
theorem abK: @PF fs cs prog prog (λ_=>False):=
 have h:=self.2
 @PF.mk fs cs prog prog (λ_=>False) (@PF.same fs (vP ok (oc 32 keep Tryz.prog.funcs.size) prog prog) prog prog (λ_=>False) h) rfl
  λc=>⟨fun (k: @cG fs prog Tryz.prog c)=> @cG.imp fs _ _ _ (λt q=>(eqg t)▸q) _ k,λk=> @cG.imp fs _ _ _ (λt q=>(eqg t).symm▸q) _ k⟩
end
theorem Bo:prog.funcs[32]? =some fX:=by
 obtain ⟨g,h1,_⟩:=gX;rw [prog,ub,h1,qac,if_pos rfl]
theorem stuck{x:Array Value}{k:List Frame}{w:World}: ∃o,stepG prog true (gJ (Frame.enter prog 32 x .normal) k) w= .ended o w #[]:=by
 rw [show Frame.enter prog 32 x .normal=_ from Go.Conc.enter_at x Bo rfl];exact ⟨_,by simp [stepG,stepG.exec,Frame.at,exitTo];rfl⟩
theorem abL(Q:Frame->World->Prop)(f:FuncId)(x:Array Value)(k:List Frame)(w:World)(h:f=32): ¬yd prog Q (Frame.enter prog f x .normal) k w:=by
 subst h;generalize hE:Frame.enter prog 32 x .normal=e;intro hw;cases hw with
 | done h1 h2 h3=>
  rw [←hE,show Frame.enter prog 32 x .normal=_ from Go.Conc.enter_at x Bo rfl] at h1;cases h1
 | step h1 h2=>
  obtain ⟨a1,k1,w1,es,h3,_⟩:=h1 w.tape (λ_ _ _=>rfl);obtain ⟨o,h4⟩:=stuck (x:=x) (k:=k++[cN]) (w:=TW w w.tape);rw [←hE] at h3;rw [h4] at h3;cases h3
theorem Uz(f:FuncId)(x:Array Value)(w:World)(R:Value->World->Prop)(h:f=32): ¬Calls prog f x w fun | .returned v,w'=>R v w' | _,_=>False:=by
 subst h;intro hc;obtain ⟨e,w',fr,h1,h2,h3,h4⟩:=hc [cN];cases e with
 | returned v=>
  obtain ⟨n,hn⟩:=(show Steps prog _ _ from h2);obtain ⟨o,h5⟩:=stuck (x:=x) (k:=[cN]) (w:=w);have h6:step prog (lone (Frame.enter prog 32 x .normal) [cN] w)= .ended o w:=step_lone_ended (by rw [show ({ frame:=Frame.enter prog 32 x .normal,callers:=[cN],status:= .running,dying:=none }:Goroutine)=gJ _ _ from rfl,h5];rfl);have:n=0:=by
   cases n with
   | zero=>rfl
   | succ n=>rw [runN,h6] at hn;cases hn
  subst this;have h7:lone (Frame.enter prog 32 x .normal) [cN] w=lone fr [cN] w':=by simpa [runN] using hn
  have h8:Frame.enter prog 32 x .normal=fr:=by
   have:=congrArg (λm:Machine=>m.gs[0]?.map (·.frame)) h7;simpa [lone] using this
  have:=h4.1;rw [←h8,show Frame.enter prog 32 x .normal=_ from Go.Conc.enter_at x Bo rfl] at this;cases this
 | panicked c=>exact h1
 | outgrown=>exact h1
noncomputable abbrev K(W0:World)(Φ:Machine->Trace->Prop): @Go.Vc.Cq fs cs hU:=
 letI:=fs;letI:=cs;letI:=hU
 {L:=prog,C:=Tryz.prog,Xs:=λf=>f=32,W0:=W0,Φ:=Φ,HP:=rel.1,HF:=rel.2,HPs:=self.1,HFs:=abK,
  he:=λt q=>(eqg t)▸q,hX:=abL,hC:=Uz }
end Go.Proofs.Lz
