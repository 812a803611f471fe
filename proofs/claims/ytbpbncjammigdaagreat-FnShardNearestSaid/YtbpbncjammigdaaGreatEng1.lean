/- What a function of the program does to its memory, step by step. -/
import Derived.Test.YtbpbncjammigdaaGreatAl
import Derived.Tactics
import Derived.Deep.LoopGhost
import Derived.Deep.Quiet
import Derived.StillTail
import Derived.KernelRfl
import Derived.Laws.World
import Derived.Orders
import Derived.Laws.StructEq
set_option linter.unusedVariables false
set_option linter.unusedSimpArgs false
namespace Go.Vs
open Go
def upd(ρ:Nat->Value)(d:Nat)(v:Value):Nat->Value:=λt=>bif Nat.beq t d then v else ρ t
def fr(n:Nat)(ρ:Nat->Value):Act:=⟨Array.ofFn (n:=n) (λi=>ρ i.1),[]⟩
def look(n:Nat)(ρ:Nat->Value)(t:Nat):Value:=bif Nat.blt t n then ρ t else undef
def ev(n:Nat)(ρ:Nat->Value):Operand->Value
 | .tmp t=>look n ρ t
 | .const v=>v
 | .global g=> .pointer (some ⟨g,0,none⟩)
 | .func f=> .func (.func f) #[] #[]
def eN(l:List Value):Nat->Value:=λt=>l.getD t undef
theorem Dq{t n:Nat}(h:t<n):Nat.blt t n=true:=by simp [Nat.blt,Nat.ble_eq];omega
theorem vw{t n:Nat}(h: ¬t<n):Nat.blt t n=false:=by
 cases hb:Nat.blt t n with
 | false=>rfl
 | true=>simp only [Nat.blt,Nat.ble_eq] at hb;omega
theorem sV{t n:Nat}(h:t≠n):Nat.beq t n=false:=by
 cases hb:Nat.beq t n with
 | false=>rfl
 | true=>exact absurd (Nat.eq_of_beq_eq_true hb) h
theorem Lm(n:Nat):Nat.beq n n=true:=Nat.beq_refl n
theorem uN{n t:Nat}(ρ:Nat->Value)(h:t<n):look n ρ t=ρ t:=by unfold look;rw [Dq h];rfl
theorem Lp{n t:Nat}(ρ:Nat->Value)(h: ¬t<n):look n ρ t=undef:=by unfold look;rw [vw h];rfl
theorem look_eq(n:Nat)(ρ:Nat->Value)(t:Nat):(fr n ρ).tmps.getD t undef=look n ρ t:=by
 by_cases h:t<n
 ·rw [uN ρ h];simp [fr,Array.getD,h]
 ·rw [Lp ρ h];simp [fr,Array.getD,h]
theorem aO(n:Nat)(ρ:Nat->Value):(fr n ρ).eval=ev n ρ:=by
 funext x;cases x with
 | tmp t=>exact look_eq n ρ t
 | const v=>rfl
 | global g=>rfl
 | func f=>rfl
theorem cV(n:Nat)(ρ:Nat->Value)(d:Nat)(v:Value):(fr n ρ).put (some d) v=fr n (upd ρ d v):=by
 unfold fr Act.put;simp only [Act.mk.injEq,and_true];apply Array.ext
 ·simp
 ·intro i h1 h2;simp only [Array.size_setIfInBounds,Array.size_ofFn] at h1;by_cases hd:d=i
  ·subst hd;simp [upd]
  ·simp [upd,sV (qbo hd),hd,h1]
theorem kq(n:Nat)(ρ:Nat->Value)(v:Value):(fr n ρ).put none v=fr n ρ:=rfl
theorem oN(l:List Value)(n:Nat)(h:l.length<=n):
  (⟨l.toArray++Array.replicate (n - l.length) undef,[]⟩:Act)=fr n (eN l):=by
 unfold fr;simp only [Act.mk.injEq,and_true];apply Array.ext
 ·simp;omega
 ·intro i h1 h2;simp only [Array.size_ofFn] at h2;by_cases hi:i<l.length
  ·simp [hi,eN]
  ·simp [Array.getElem_append,hi,eN]
def yv(ops:Array Oper)(n:Nat)(ρ:Nat->Value)(j:Nat):Option Bool:=
 match (ops[j]?).bind (·.dst) with
 | some d=>match look n ρ d with
  | .bool b=>some b
  | _=>none
 | none=>none
theorem eM(ops:Array Oper)(n:Nat)(ρ:Nat->Value):yielded ops (fr n ρ).tmps=yv ops n ρ:=by
 funext j;unfold yielded yv;cases h:(ops[j]?).bind (·.dst) with
 | none=>simp
 | some d=>
  simp only [qa0];by_cases hd:d<n
  ·have e1:(fr n ρ).tmps[d]? =some (ρ d):=by simp [fr,hd]
   rw [e1,uN ρ hd];cases ρ d <;> rfl
  ·have e1:(fr n ρ).tmps[d]? =none:=by simp [fr,hd]
   rw [e1,Lp ρ hd];rfl
theorem PT{n:Nat}{ρ qU:Nat->Value}(h: ∀t,t<n->ρ t=qU t):fr n ρ=fr n qU:=by
 unfold fr;congr 1;exact congrArg _ (funext λi=>h i.1 i.2)
structure St where
 w:World
 fV:Nat->Nat
 ok: ∀b,w.heap.size<=b->fV b=0
 dR:Prop -- of the answers aiX are drawn nothing is said any more
abbrev St.size(σ:St):Nat:=σ.w.heap.size
def St.cell(σ:St)(b o:Nat):Option Value:=σ.w.cell? ⟨b,o,none⟩
structure Ext(σ σ':St):Prop where
 size:σ.size<=σ'.size
 block: ∀b,0<σ.fV b->σ'.w.heap[b]? =σ.w.heap[b]?
 fV: ∀b,σ.fV b<=σ'.fV b
structure PU(B:Nat)(σ σ':St):Prop where
 os:σ'.w.os=σ.w.os
 tape:σ'.w.tape=σ.w.tape
 output:σ'.w.output=σ.w.output
 dr:σ.w.drawn<=σ'.w.drawn
 size:σ.size<=σ'.size
 block: ∀b,b<B->σ'.w.heap[b]? =σ.w.heap[b]?
 fV: ∀b,b<B->σ'.fV b=σ.fV b
 dR:σ'.dR=σ.dR
def St.mute(σ:St):St:=⟨σ.w,σ.fV,σ.ok,False⟩
theorem Ext.mute(σ:St):Ext σ σ.mute:=⟨qa3 _,λ_ _=>rfl,λ_=>qa3 _⟩
theorem Ext.refl(σ:St):Ext σ σ:=⟨qa3 _,λ_ _=>rfl,λ_=>qa3 _⟩
theorem Ext.trans{a b c:St}(h:Ext a b)(k:Ext b c):Ext a c:=
 ⟨qaa h.size k.size,λx ho=>(k.block x (qa2 ho (h.fV x))).trans (h.block x ho),λx=>qaa (h.fV x) (k.fV x)⟩
theorem cell_of_block{w w':World}{b:Nat}(h:w'.heap[b]? =w.heap[b]?)(o:Nat):w'.cell? ⟨b,o,none⟩=w.cell? ⟨b,o,none⟩:=by
 simp only [World.cell?, h]
theorem Ext.cell{σ σ':St}(h:Ext σ σ')(b o:Nat)(ho:o<σ.fV b):σ'.cell b o=σ.cell b o:=cell_of_block (h.block b (Nat.lt_of_le_of_lt (qa8 _) ho)) o
theorem PU.ext{σ σ':St}(h:PU σ.size σ σ'):Ext σ σ':=by
 refine ⟨h.size,λb ho=> ?_,λb=> ?_⟩
 ·by_cases hb:b<σ.size
  ·exact h.block b hb
  ·rw [σ.ok b (Nat.le_of_not_lt hb)] at ho;exact absurd ho (qap _)
 ·by_cases hb:b<σ.size
  ·exact qav (h.fV b hb).symm
  ·rw [σ.ok b (Nat.le_of_not_lt hb)];exact qa8 _
def dX(P:Program)(H:Array Obj)(n:Nat)(ρ:Nat->Value)(o:Oper)(v:Value):Prop:=
 ∀w:World,w.heap=H->(execOp (ev n ρ) o).run P w= .ok (.value v) w
section steps
variable{P:Program}{ops:Array Oper}{Q:Exit->Act->World->Prop}{n d:Nat}{ρ:Nat->Value}{w:World}{v:Value}{rest:List Oper}
variable{op:Op}{ty:TypeId}{pos:String}{af:Array Edge}{gd:Option (Nat×Bool)}{H:Array Obj}
theorem aQ(o:Oper)(h:o.guard=none)(y:Nat->Option Bool):Region.wanted o y=true:=by simp [Region.wanted,h]
theorem aU{o:Oper}{j:Nat}{b:Bool}{y:Nat->Option Bool}(h:o.guard=some (j,b))(hy:y j=some b):Region.wanted o y=true:=by
 simp [Region.wanted,h,hy]
theorem uL{o:Oper}{j:Nat}{b:Bool}{y:Nat->Option Bool}(h:o.guard=some (j,b))(hy:y j=some (!b)):Region.wanted o y=false:=by
 cases b <;> simp [Region.wanted,h,hy]
theorem GZ{o:Oper}{j:Nat}{b:Bool}{y:Nat->Option Bool}(h:o.guard=some (j,b))(hy:y j=none):Region.wanted o y=false:=by
 simp [Region.wanted,h,hy]
theorem A2(hw:Region.wanted ⟨some d,op,ty,pos,af,gd⟩ (yv ops n ρ)=true)
  (hr:dX P w.heap n ρ ⟨some d,op,ty,pos,af,gd⟩ v)
  (k:wpList P ops Q rest (fr n (upd ρ d v)) w):
  wpList P ops Q (⟨some d,op,ty,pos,af,gd⟩::rest) (fr n ρ) w:=by
 unfold wpList;rw [eM,if_pos hw];refine .inl ?_;unfold Oper.wp;rw [aO,hr w rfl];simp only [Oper.upon_value,cV];exact k
theorem st(hr:dX P w.heap n ρ ⟨some d,op,ty,pos,af,none⟩ v)
 (k:wpList P ops Q rest (fr n (upd ρ d v)) w):
 wpList P ops Q (⟨some d,op,ty,pos,af,none⟩::rest) (fr n ρ) w:=A2 rfl hr k
theorem bT{j:Nat}{b:Bool}(hy:yv ops n ρ j=some b)(hr:dX P w.heap n ρ ⟨some d,op,ty,pos,af,some (j,b)⟩ v)
 (k:wpList P ops Q rest (fr n (upd ρ d v)) w):
 wpList P ops Q (⟨some d,op,ty,pos,af,some (j,b)⟩::rest) (fr n ρ) w:=A2 (aU rfl hy) hr k
theorem aj{j:Nat}{b:Bool}(hy:yv ops n ρ j=some (!b))
  (k:wpList P ops Q rest (fr n (upd ρ d undef)) w):
  wpList P ops Q (⟨some d,op,ty,pos,af,some (j,b)⟩::rest) (fr n ρ) w:=by
 unfold wpList;rw [eM,uL rfl hy,if_neg (by simp),cV];exact k
theorem ir{j:Nat}{b:Bool}(hy:yv ops n ρ j=none)
  (k:wpList P ops Q rest (fr n (upd ρ d undef)) w):
  wpList P ops Q (⟨some d,op,ty,pos,af,some (j,b)⟩::rest) (fr n ρ) w:=by
 unfold wpList;rw [eM,GZ rfl hy,if_neg (by simp),cV];exact k
end steps
section abe
variable{P:Program}{Q:Exit->Act->World->Prop}{n:Nat}{ρ:Nat->Value}{w:World}
theorem Am{c:Operand}{x y:Code}(b:Bool)(hc:ev n ρ c= .bool b)(ht:b=true->x.wp P Q (fr n ρ) w)(hf:b=false->y.wp P Q (fr n ρ) w):
 (Code.cond c x y).wp P Q (fr n ρ) w:=wp_cond_split (by rw [aO];exact hc) ht hf
theorem enter{f:FuncId}{fn:Func}{c:Code}{l:List Value}{R:Ending->World->Prop}(hf:P.funcs[f]? =some fn)(hb:fn.body=some c)(hn:fn.ntmps=n)(hl:Nat.ble l.length n=true)
  (h:c.wp P (bodyPost P fn R) (fr n (eN l)) w):Calls P f l.toArray w R:=by
 refine calls_of_wp hf hb ?_;have:=oN l n (by simpa using hl);simp only [qbk,hn,this];exact h
end abe
end Go.Vs
namespace Go.Vs
open Go
abbrev I(n:Int):Value:= .int .i64 n
abbrev B(b:Bool):Value:= .bool b
def an(n:Int):Int:=IntKind.i64.wrap n
theorem aT{n:Int}(h1: -9223372036854775808<=n)(h2:n<=9223372036854775807):an n=n:=by
 simp only [an,IntKind.wrap,IntKind.bits,IntKind.signed,qbl,decide_eq_true_eq,ge_iff_le];have e1:((2:Int)^(64:Nat))=18446744073709551616:=by decide
 have e2:((2:Int)^(64 - 1:Nat))=9223372036854775808:=by decide
 rw [e1,e2];split <;> omega
def EF(a b:Int):Int:=IntKind.i64.wrap ((BitVec.ofInt 64 a ^^^ BitVec.ofInt 64 b).toNat)
structure TI(P:Program)(t:TypeId)(z:Value)(s b:Nat):Prop where
 it: ∃i,P.info? t=some i/\i.zero=some z/\i.size=s/\i.bytes=b
theorem TI.mk'{P:Program}{t:TypeId}{z:Value}{s b:Nat}(h:(P.info? t).map (λi=>(i.zero,i.size,i.bytes))=some (some z,s,b)):TI P t z s b:=by
 cases e:P.info? t with
 | none=>rw [e] at h;simp at h
 | some i=>
  rw [e] at h;simp only [qac,qae,Prod.mk.injEq] at h;exact ⟨i,e,h.1,h.2.1,h.2.2⟩
section
variable{P:Program}{H:Array Obj}{n:Nat}{ρ:Nat->Value}{d:Option Nat}{ty T T':TypeId}{pos:String}{af:Array Edge}{gd:Option (Nat×Bool)}{x y c:Operand}{v u:Value}{a b:Int}{p q r:Bool}
theorem ai(h:ev n ρ x=v):dX P H n ρ ⟨d, .move x,ty,pos,af,gd⟩ v:=λw _=>by simp [execOp,h]
theorem uM(h:ev n ρ x=v):dX P H n ρ ⟨d, .assign x,ty,pos,af,gd⟩ v:=λw _=>by simp [execOp,h]
theorem aM(hc:ev n ρ c=B true)(h:ev n ρ x=v):dX P H n ρ ⟨d, .pick c x y,ty,pos,af,gd⟩ v:=λw _=>by simp [execOp,h,hc,asBool]
theorem aA(hc:ev n ρ c=B false)(h:ev n ρ y=v):dX P H n ρ ⟨d, .pick c x y,ty,pos,af,gd⟩ v:=λw _=>by simp [execOp,h,hc,asBool]
theorem cH(hx:ev n ρ x=I a)(hy:ev n ρ y=I b):dX P H n ρ ⟨d, .binOp .add T x y T',ty,pos,af,gd⟩ (I (an (a+b))):=λw _=>by
 simp [execOp,hx,hy,eqGuard,binOp,Op.intArith,an]
theorem iN(hx:ev n ρ x=I a)(hy:ev n ρ y=I b):dX P H n ρ ⟨d, .binOp .sub T x y T',ty,pos,af,gd⟩ (I (an (a - b))):=λw _=>by
 simp [execOp,hx,hy,eqGuard,binOp,Op.intArith,an]
theorem oh(hx:ev n ρ x=I a)(hy:ev n ρ y=I b):dX P H n ρ ⟨d, .binOp .mul T x y T',ty,pos,af,gd⟩ (I (an (a*b))):=λw _=>by
 simp [execOp,hx,hy,eqGuard,binOp,Op.intArith,an]
theorem Ba(hx:ev n ρ x=I a)(hy:ev n ρ y=I b)(h0:b≠0):dX P H n ρ ⟨d, .binOp .quo T x y T',ty,pos,af,gd⟩ (I (an (a.tdiv b))):=λw _=>by
 simp [execOp,hx,hy,eqGuard,binOp,Op.intDiv,an,h0]
theorem JA(hx:ev n ρ x=I a)(hy:ev n ρ y=I b)(h0:b≠0):dX P H n ρ ⟨d, .binOp .rem T x y T',ty,pos,af,gd⟩ (I (a.tmod b)):=λw _=>by
 simp [execOp,hx,hy,eqGuard,binOp,Op.intDiv,h0]
theorem Yj(hx:ev n ρ x=I a)(hy:ev n ρ y=I b):dX P H n ρ ⟨d, .binOp .xor T x y T',ty,pos,af,gd⟩ (I (EF a b)):=λw _=>by
 simp only [execOp,hx,hy,eqGuard,binOp];rfl
theorem gh(hx:ev n ρ x=I a)(hy:ev n ρ y=I b):dX P H n ρ ⟨d, .binOp .eql T x y T',ty,pos,af,gd⟩ (B (a==b)):=λw _=>by
 simp [execOp,hx,hy,eqGuard,binOp,Op.intCmp]
theorem JB(hx:ev n ρ x=I a)(hy:ev n ρ y=I b):dX P H n ρ ⟨d, .binOp .neq T x y T',ty,pos,af,gd⟩ (B (a != b)):=λw _=>by
 simp [execOp,hx,hy,eqGuard,binOp,Op.intCmp]
theorem cB(hx:ev n ρ x=I a)(hy:ev n ρ y=I b):dX P H n ρ ⟨d, .binOp .lss T x y T',ty,pos,af,gd⟩ (B (decide (a<b))):=λw _=>by
 simp [execOp,hx,hy,eqGuard,binOp,Op.intCmp]
theorem np(hx:ev n ρ x=I a)(hy:ev n ρ y=I b):dX P H n ρ ⟨d, .binOp .leq T x y T',ty,pos,af,gd⟩ (B (decide (a<=b))):=λw _=>by
 simp [execOp,hx,hy,eqGuard,binOp,Op.intCmp]
theorem gM(hx:ev n ρ x=I a)(hy:ev n ρ y=I b):dX P H n ρ ⟨d, .binOp .gtr T x y T',ty,pos,af,gd⟩ (B (decide (b<a))):=λw _=>by
 simp [execOp,hx,hy,eqGuard,binOp,Op.intCmp]
theorem sf(hx:ev n ρ x=I a)(hy:ev n ρ y=I b):dX P H n ρ ⟨d, .binOp .geq T x y T',ty,pos,af,gd⟩ (B (decide (b<=a))):=λw _=>by
 simp [execOp,hx,hy,eqGuard,binOp,Op.intCmp]
theorem Yk(hx:ev n ρ x=I a):dX P H n ρ ⟨d, .unOp .neg T x,ty,pos,af,gd⟩ (I (an (0 - a))):=λw _=>by
 simp [execOp,hx,Op.unary,Op.intArith,an]
theorem cY(hx:ev n ρ x=B p):dX P H n ρ ⟨d, .unOp .not T x,ty,pos,af,gd⟩ (B (!p)):=λw _=>by
 simp [execOp,hx,Op.unary]
theorem EG{k:IntKind}(hT:P.underlying T=some (.int k))(qv:P.underlying T'=some (.int .i64))(hx:ev n ρ x= .int k a):dX P H n ρ ⟨d, .convert T T' x,ty,pos,af,gd⟩ (I (an a)):=λw _=>by
 simp [execOp,hx,convert,underlying,hT,qv,Conv.intToInt,an]
theorem iO{vs:Array Value}{k:Nat}(hx:ev n ρ x= .tuple vs)(hv:vs[k]? =some v):dX P H n ρ ⟨d, .extract x k,ty,pos,af,gd⟩ v:=λw _=>by
 simp [execOp,hx,Instr.extract,hv]
theorem cm{ad:Addr}(hx:ev n ρ x= .pointer (some ad)):dX P H n ρ ⟨d, .nilCheck x,ty,pos,af,gd⟩ (.pointer (some ad)):=λw _=>by
 simp [execOp,hx]
theorem bQ{m:Nat}{E:TypeId}{ad:Option Addr}{cp:Nat}(hT:P.underlying T=some (.slice E))(hx:ev n ρ x= .slice ad m cp):
  dX P H n ρ ⟨d, .call ⟨.builtin .len, #[x], #[T]⟩,ty,pos,af,gd⟩ (I m):=λw _=>by
 simp [execOp,resolve,invoke,builtin,Builtin.len_,hx,underlying,hT,goInt]
theorem EH(hx:ev n ρ x=I a)(hy:ev n ρ y=I b):dX P H n ρ ⟨d, .call ⟨.builtin .max, #[x,y], #[T,T']⟩,ty,pos,af,gd⟩ (I (max a b)):=λw _=>by
 simp [execOp,resolve,invoke,builtin,Builtin.max_,Builtin.max2,hx,hy];split <;> omega
theorem JC(hx:ev n ρ x=I a)(hy:ev n ρ y=I b):dX P H n ρ ⟨d, .call ⟨.builtin .min, #[x,y], #[T,T']⟩,ty,pos,af,gd⟩ (I (min a b)):=λw _=>by
 simp [execOp,resolve,invoke,builtin,Builtin.min_,Builtin.min2,hx,hy];split <;> omega
abbrev pt(bl o:Nat):Value:= .pointer (some ⟨bl,o,none⟩)
theorem add_plain(bl o k:Nat):(⟨bl,o,none⟩:Addr).add k=⟨bl,o+k,none⟩:=by
 unfold Addr.add;split <;> simp_all
theorem run_typeInfo{t:TypeId}{z:Value}{s bt:Nat}(h:TI P t z s bt)(w:World):(sizeOf t).run P w= .ok s w:=by
 obtain ⟨i,h1,h2,h3,h4⟩:=h.it;simp [sizeOf,typeInfo,h1,h3]
theorem pv{t:TypeId}{z:Value}{s bt:Nat}(h:TI P t z s bt)(w:World):(zeroValue t).run P w= .ok z w:=by
 obtain ⟨i,h1,h2,h3,h4⟩:=h.it;simp [zeroValue,typeInfo,h1,h2]
theorem ak{fs:Array Field}{k bl o off ft:Nat}{z:Value}{s bt:Nat}(hT:P.underlying T=some (.struct fs))(hf:(fs[k]?).map (λf=>(f.offset,f.type))=some (off,ft))
  (hi:TI P ft z s bt) (hs:Nat.beq s 0=false) (hx:ev n ρ x=pt bl o):dX P H n ρ ⟨d, .fieldAddr T x k,ty,pos,af,gd⟩ (pt bl (o+off)):=λw _=>by
 cases hfk:fs[k]? with
 | none=>rw [hfk] at hf;cases hf
 | some f=>
  rw [hfk] at hf;simp only [qac,qae,Prod.mk.injEq] at hf;obtain ⟨rfl,rfl⟩:=hf;have Eh:s≠0:=by rintro rfl;cases hs
  simp [execOp,hx,Instr.fieldAt,underlying,hT,hfk,Instr.sureAddr,fieldPlace,run_typeInfo hi,Eh,add_plain]
theorem EI{E m:Nat}{xs:List Int}{e:Int}{z:Value}{bt:Nat}(hT:P.underlying T=some (.array m E))(hi:TI P E z 1 bt)(hE:P.underlying E=some (.int .i64))
  (hx:ev n ρ x= .agg (xs.map I).toArray) (hy:ev n ρ y=I a) (h0:0<=a) (h1:a.toNat<m) (he:xs[a.toNat]? =some e):dX P H n ρ ⟨d, .index T x y,ty,pos,af,gd⟩ (I e):=λw _=>by
 have h2:a<(m:Int):=by omega
 have wE:(isAgg E).run P w= .ok false w:=by
  simp only [isAgg,underlying,Sem.run_bind,run_program,Result.andThen_ok,hE,Sem.run_pure]
 simp [execOp,hx,hy,Instr.index,asIntOf,underlying,hT,h0,h2,run_typeInfo hi,part,wE,he]
theorem vS{E:TypeId}{bl o m cp:Nat}{z:Value}{s bt:Nat}(hT:P.underlying T=some (.slice E))(hi:TI P E z s bt)
  (hx:ev n ρ x= .slice (some ⟨bl,o,none⟩) m cp) (hy:ev n ρ y=I a) (h0:0<=a) (h1:a.toNat<m):
  dX P H n ρ ⟨d, .indexAddr T x y,ty,pos,af,gd⟩ (pt bl (o+a.toNat*s)):=λw _=>by
 have h2:a<(m:Int):=by omega
 simp [execOp,hx,hy,Instr.indexAt,asIntOf,underlying,hT,h0,h2,run_typeInfo hi,add_plain]
theorem fW{E:TypeId}{bl o m:Nat}{z:Value}{s bt:Nat}(hT:P.underlying T=some (.array m E))(hi:TI P E z s bt)
  (hx:ev n ρ x=pt bl o) (hy:ev n ρ y=I a) (h0:0<=a) (h1:a.toNat<m):
  dX P H n ρ ⟨d, .indexAddr T x y,ty,pos,af,gd⟩ (pt bl (o+a.toNat*s)):=λw _=>by
 have h2:a<(m:Int):=by omega
 simp [execOp,hx,hy,Instr.indexAt,asIntOf,underlying,hT,h0,h2,run_typeInfo hi,add_plain,Instr.sureAddr]
def jl(H:Array Obj)(b o:Nat):Option Value:=match H[b]? with
 | some (.cells c _ _)=>c[o]?
 | _=>none
theorem iA(w:World)(b o:Nat):jl w.heap b o=w.cell? ⟨b,o,none⟩:=by
 unfold jl World.cell?;cases h:w.heap[b]? with
 | none=>rfl
 | some ob=>cases ob <;> rfl
theorem aq{bl o:Nat}{D:TypeDesc}(hT:P.underlying T=some D)(hD:(match D with | .struct _=>false | .array _ _=>false | _=>true)=true)
  (hx:ev n ρ x=pt bl o) (hc:jl H bl o=some v):dX P H n ρ ⟨d, .load T x,ty,pos,af,gd⟩ v:=λw hw=>by
 subst hw;rw [iA] at hc;have:(isAgg T).run P w= .ok false w:=by
  simp only [isAgg,underlying,Sem.run_bind,run_program,Result.andThen_ok,hT,Sem.run_pure];cases D <;> simp_all
 simp [execOp,hx,Instr.loadAt,Instr.sureAddr,loadVar,this,load,Sem.run,hc]
theorem run_loadCellsFrom(w:World)(bl o:Nat): ∀(k i:Nat) (cs acc:List Value),cs.length=k->(∀j,(h:j<cs.length)->w.cell? ⟨bl,o+(i+j),none⟩=some cs[j])->
  (loadCellsFrom ⟨bl,o,none⟩ i k acc.toArray).run P w= .ok (acc++cs).toArray w
 | 0,i,cs,acc,hk,_=>by
  have:cs=[]:=qb6 hk;subst this;simp [loadCellsFrom]
 | k+1,i,[],acc,hk,_=>by simp at hk
 | k+1,i,c::cs,acc,hk,hc=>by
  have h0:=hc 0 (by simp);simp only [qcc,List.getElem_cons_zero] at h0;have ih:=run_loadCellsFrom w bl o k (i+1) cs (acc++[c]) (by simpa using hk) (λj hj=>by
   have:=hc (j+1) (by simpa using hj);simpa [Nat.add_assoc,Nat.add_comm 1 j] using this)
  simp only [loadCellsFrom,Sem.run_bind,load,add_plain,Sem.run,h0,Result.andThen_ok];have e:acc.toArray.push c=(acc++[c]).toArray:=by simp
  rw [e,ih];simp
theorem bq{bl o:Nat}{D:TypeDesc}{cs:List Value}{z:Value}{s bt:Nat}(hT:P.underlying T=some D)(hD:(match D with | .struct _=>false | .array _ _=>false | _=>true)=false)
  (hi:TI P T z s bt) (hx:ev n ρ x=pt bl o) (hl:cs.length=s) (hc: ∀j,(h:j<cs.length)->jl H bl (o+j)=some cs[j]):dX P H n ρ ⟨d, .load T x,ty,pos,af,gd⟩ (.agg cs.toArray):=λw hw=>by
 subst hw;have:(isAgg T).run P w= .ok true w:=by
  simp only [isAgg,underlying,Sem.run_bind,run_program,Result.andThen_ok,hT,Sem.run_pure];cases D <;> simp_all
 have:=run_loadCellsFrom (P:=P) w bl o s 0 cs [] hl (λj hj=>by rw [←iA];simpa using hc j hj);simp [execOp,Instr.loadAt,Instr.sureAddr,loadVar, *, loadCells,run_typeInfo hi]
end
end Go.Vs
namespace Go.Vs
open Go
def plain:Value->Bool
 | .agg _ | .tuple _=>false
 | _=>true
structure M4(lo:Nat)(σ σ':St):Prop where
 block: ∀b,lo<=b->0<σ.fV b->σ'.w.heap[b]? =σ.w.heap[b]?
 fV: ∀b,lo<=b->σ.fV b<=σ'.fV b
theorem Ext.vd{σ σ':St}(h:Ext σ σ')(lo:Nat):M4 lo σ σ':=⟨λb _ ho=>h.block b ho,λb _=>h.fV b⟩
theorem M4.cell{lo:Nat}{σ σ':St}(h:M4 lo σ σ')(b o:Nat)(hb:lo<=b)(ho:o<σ.fV b):σ'.cell b o=σ.cell b o:=cell_of_block (h.block b hb (Nat.lt_of_le_of_lt (qa8 _) ho)) o
class Rp(α:Type) where
 sz:Nat
 rp:Nat->St->List Value->α->Prop
 pos:0<sz
 len: ∀{lo:Nat} {σ:St} {cs:List Value} {x:α},rp lo σ cs x->cs.length=sz
 vd: ∀{lo:Nat} {σ σ':St} {cs:List Value} {x:α},M4 lo σ σ'->rp lo σ cs x->rp lo σ' cs x
 low: ∀{lo pk:Nat} {σ:St} {cs:List Value} {x:α},pk<=lo->rp lo σ cs x->rp pk σ cs x
 one: ∀{lo:Nat} {σ:St} {cs:List Value} {x:α},rp lo σ cs x-> ∀c∈cs,plain c=true
theorem Rp.ext{α:Type}[Rp α]{lo:Nat}{σ σ':St}{cs:List Value}{x:α}(hE:Ext σ σ')(h:Rp.rp lo σ cs x):Rp.rp lo σ' cs x:=Rp.vd (hE.vd lo) h
instance:Rp Int where
 sz:=1
 rp _ _ cs x:=cs=[I x]
 pos:=by decide
 len:=by rintro _ _ _ _ rfl;rfl
 vd:=λ_ h=>h
 low:=λ_ h=>h
 one:=by rintro _ _ _ _ rfl;simp [plain]
instance:Rp UInt8 where
 sz:=1
 rp _ _ cs x:=cs=[.int .u8 x.toNat]
 pos:=by decide
 len:=by rintro _ _ _ _ rfl;rfl
 vd:=λ_ h=>h
 low:=λ_ h=>h
 one:=by rintro _ _ _ _ rfl;simp [plain]
instance{α β:Type}[Rp α][Rp β]:Rp (α×β) where
 sz:=Rp.sz α+Rp.sz β
 rp lo σ cs x:= ∃c1 c2,cs=c1++c2/\Rp.rp lo σ c1 x.1/\Rp.rp lo σ c2 x.2
 pos:=Nat.add_pos_left Rp.pos _
 len:=by rintro _ _ _ _ ⟨c1,c2,rfl,h1,h2⟩;rw [qat,Rp.len h1,Rp.len h2]
 vd:=by rintro _ _ _ _ _ hE ⟨c1,c2,rfl,h1,h2⟩;exact ⟨c1,c2,rfl,Rp.vd hE h1,Rp.vd hE h2⟩
 low:=by rintro _ _ _ _ _ hl ⟨c1,c2,rfl,h1,h2⟩;exact ⟨c1,c2,rfl,Rp.low hl h1,Rp.low hl h2⟩
 one:=by
  rintro _ _ _ _ ⟨c1,c2,rfl,h1,h2⟩ c hc;rcases qag.1 hc with h | h
  ·exact Rp.one h1 c h
  ·exact Rp.one h2 c h
section
variable{α β:Type}[Rp α][Rp β]
def At(el:Nat)(σ:St)(b o:Nat)(x:α):Prop:= ∃cs,Rp.rp el σ cs x/\ ∀j,(h:j<cs.length)->σ.cell b (o+j)=some cs[j]
theorem At.ext{el:Nat}{σ σ':St}{b o:Nat}{x:α}(h:At el σ b o x)(hs:o+Rp.sz α<=σ.fV b)(hE:Ext σ σ'):At el σ' b o x:=by
 obtain ⟨cs,h1,h2⟩:=h;refine ⟨cs,Rp.ext hE h1,λj hj=> ?_⟩;have:=Rp.len h1;rw [hE.cell b (o+j) (by omega)];exact h2 j hj
theorem At.fst{el:Nat}{σ:St}{b o:Nat}{x:α×β}(h:At el σ b o x):At el σ b o x.1:=by
 obtain ⟨cs,⟨c1,c2,rfl,h1,h2⟩,h3⟩:=h;refine ⟨c1,h1,λj hj=> ?_⟩;rw [h3 j (by rw [qat];omega),qb4 hj]
theorem At.snd{el:Nat}{σ:St}{b o:Nat}{x:α×β}(h:At el σ b o x):At el σ b (o+Rp.sz α) x.2:=by
 obtain ⟨cs,⟨c1,c2,rfl,h1,h2⟩,h3⟩:=h;refine ⟨c2,h2,λj hj=> ?_⟩;have hl:=Rp.len h1;have:=h3 (c1.length+j) (by rw [qat];omega);rw [Nat.add_assoc, ←hl,this,qbh (by omega)];simp
def RS(el:Nat)(σ:St)(v:Value)(xs:List α):Prop:=
 ((∃ad c,v= .slice ad 0 c)/\xs=[])\/ ∃b o c,v= .slice (some ⟨b,o,none⟩) xs.length c/\el<=b/\xs.length<=c/\o+xs.length*Rp.sz α<=σ.fV b/\
  ∀i,(h:i<xs.length)->At el σ b (o+i*Rp.sz α) xs[i]
def Rd(el:Nat)(σ:St)(v:Value)(xs:List α):Prop:=
 ((∃ad c,v= .slice ad 0 c)/\xs=[])\/ ∃b o c,v= .slice (some ⟨b,o,none⟩) xs.length c/\ ∀i,(h:i<xs.length)->At el σ b (o+i*Rp.sz α) xs[i]
def Ow(σ:St)(lo el:Nat)(v:Value)(xs:List α):Prop:=
 (v= .slice none 0 0/\xs=[])\/ ∃b o c C T,v= .slice (some ⟨b,o,none⟩) xs.length c/\lo<=b/\σ.w.heap[b]? =some (.cells C T (0,0))/\xs.length<=c/\
  o+c*Rp.sz α<=C.size/\σ.fV b=0/\ ∀i,(h:i<xs.length)->At el σ b (o+i*Rp.sz α) xs[i]
def blk:Value->Option Nat
 | .slice (some a) _ _=>some a.block
 | _=>none
theorem RS.nil{el:Nat}{σ:St}:RS el σ (.slice none 0 0) ([]:List α):= .inl ⟨⟨_,_,rfl⟩,rfl⟩
theorem Ow.nil{el:Nat}{σ:St}{lo:Nat}:Ow σ lo el (.slice none 0 0) ([]:List α):= .inl ⟨rfl,rfl⟩
theorem RS.rd{el:Nat}{σ:St}{v:Value}{xs:List α}(h:RS el σ v xs):Rd el σ v xs:=by
 rcases h with h | ⟨b,o,c,h1,_,_,h2,h3⟩
 ·exact .inl h
 ·exact .inr ⟨b,o,c,h1,h3⟩
theorem Ow.rd{el:Nat}{σ:St}{lo:Nat}{v:Value}{xs:List α}(h:Ow σ lo el v xs):Rd el σ v xs:=by
 rcases h with h | ⟨b,o,c,C,T,h1,h2,h3,h4,h5,h6,h7⟩
 ·exact .inl ⟨⟨_,_,h.1⟩,h.2⟩
 ·exact .inr ⟨b,o,c,h1,h7⟩
theorem RS.ext{el:Nat}{σ σ':St}{v:Value}{xs:List α}(h:RS el σ v xs)(hE:Ext σ σ'):RS el σ' v xs:=by
 rcases h with h | ⟨b,o,c,h1,hb,hc,h2,h3⟩
 ·exact .inl h
 ·refine .inr ⟨b,o,c,h1,hb,hc,qaa h2 (hE.fV b),λi hi=>(h3 i hi).ext ?_ hE⟩;have:(i+1)*Rp.sz α<=xs.length*Rp.sz α:=qak _ hi;rw [Nat.add_mul] at this;omega
def Yl(v:Value)(m:Nat):Prop:= ∃ad c,v= .slice ad m c
theorem Rd.sg{el:Nat}{σ:St}{v:Value}{xs:List α}(h:Rd el σ v xs):Yl v xs.length:=by
 rcases h with ⟨⟨ad,c,rfl⟩,rfl⟩ | ⟨b,o,c,h1,_⟩
 ·exact ⟨ad,c,rfl⟩
 ·exact ⟨_,_,h1⟩
theorem RS.sg{el:Nat}{σ:St}{v:Value}{xs:List α}(h:RS el σ v xs):Yl v xs.length:=h.rd.sg
theorem Ow.sg{el:Nat}{σ:St}{lo:Nat}{v:Value}{xs:List α}(h:Ow σ lo el v xs):Yl v xs.length:=h.rd.sg
theorem RS.vd{el:Nat}{σ σ':St}{v:Value}{xs:List α}(h:RS el σ v xs)(hE:M4 el σ σ'):RS el σ' v xs:=by
 rcases h with h | ⟨b,o,c,h1,hb,hc,h2,h3⟩
 ·exact .inl h
 ·refine .inr ⟨b,o,c,h1,hb,hc,qaa h2 (hE.fV b hb),λi hi=> ?_⟩;obtain ⟨cs,h4,h5⟩:=h3 i hi;refine ⟨cs,Rp.vd hE h4,λj hj=> ?_⟩;have:(i+1)*Rp.sz α<=xs.length*Rp.sz α:=qak _ hi;rw [Nat.add_mul] at this;have hl:=Rp.len h4;rw [hE.cell b _ hb (by omega)];exact h5 j hj
theorem At.low{lo pk:Nat}{σ:St}{b o:Nat}{x:α}(hl:pk<=lo)(h:At lo σ b o x):At pk σ b o x:=by
 obtain ⟨cs,h1,h2⟩:=h;exact ⟨cs,Rp.low hl h1,h2⟩
theorem RS.low{lo pk:Nat}{σ:St}{v:Value}{xs:List α}(h:RS lo σ v xs)(hl:pk<=lo):RS pk σ v xs:=by
 rcases h with h | ⟨b,o,c,h1,hb,hc,h2,h3⟩
 ·exact .inl h
 ·exact .inr ⟨b,o,c,h1,qaa hl hb,hc,h2,λi hi=>(h3 i hi).low hl⟩
instance:Rp (List α) where
 sz:=1
 rp lo σ cs x:= ∃v,cs=[v]/\RS lo σ v x
 pos:=by decide
 len:=by rintro _ _ _ _ ⟨v,rfl,_⟩;rfl
 vd:=by rintro _ _ _ _ _ hE ⟨v,rfl,h⟩;exact ⟨v,rfl,h.vd hE⟩
 low:=by rintro _ _ _ _ _ hl ⟨v,rfl,h⟩;exact ⟨v,rfl,h.low hl⟩
 one:=by
  rintro _ _ _ _ ⟨v,rfl,h⟩ c hc;obtain ⟨ad,cp,hv⟩:=h.sg;simp only [qbc] at hc;rw [hc,hv];rfl
omit [Rp α] in
theorem List.EJ{xs:List α}{i:Nat}{e:α}(h:xs[i]? =some e):i<xs.length:=(qbf.1 h).1
def bz{α:Type}(xs:List α)(a:Int):Option α:=if 0<=a then xs[a.toNat]? else none
omit [Rp α] in
theorem kT{xs:List α}{a:Int}{e:α}(h:bz xs a=some e):0<=a/\ ∃h:a.toNat<xs.length,xs[a.toNat]=e:=by
 unfold bz at h;split at h
 ·rename_i h0;obtain ⟨h1,h2⟩:=qbf.1 h;exact ⟨h0,h1,h2⟩
 ·cases h
structure Ix(v:Value)(a:Int)(s b o:Nat):Prop where
 it: ∃ob m c,v= .slice (some ⟨b,ob,none⟩) m c/\0<=a/\a.toNat<m/\o=ob+a.toNat*s
theorem Rd.ix{el:Nat}{σ:St}{v:Value}{xs:List α}{a:Int}{e:α}(h:Rd el σ v xs)(hg:bz xs a=some e): ∃b o,Ix v a (Rp.sz α) b o/\At el σ b o e:=by
 obtain ⟨h0,h1,h2⟩:=kT hg;rcases h with ⟨_,rfl⟩ | ⟨b,o,c,hv,hc⟩
 ·simp at h1
 ·exact ⟨b,o+a.toNat*Rp.sz α,⟨o,_,c,hv,h0,h1,rfl⟩,h2▸hc _ h1⟩
theorem RS.ix{el:Nat}{σ:St}{v:Value}{xs:List α}{a:Int}{e:α}(h:RS el σ v xs)(hg:bz xs a=some e): ∃b o,Ix v a (Rp.sz α) b o/\At el σ b o e:=h.rd.ix hg
theorem Ow.ix{el:Nat}{σ:St}{lo:Nat}{v:Value}{xs:List α}{a:Int}{e:α}(h:Ow σ lo el v xs)(hg:bz xs a=some e): ∃b o,Ix v a (Rp.sz α) b o/\At el σ b o e:=h.rd.ix hg
theorem At.int{el:Nat}{σ:St}{b o:Nat}{x:Int}(h:At el σ b o x):jl σ.w.heap b o=some (I x):=by
 obtain ⟨cs,rfl,h2⟩:=h;rw [iA];exact h2 0 (by simp)
theorem At.byte{el:Nat}{σ:St}{b o:Nat}{x:UInt8}(h:At el σ b o x):jl σ.w.heap b o=some (.int .u8 x.toNat):=by
 obtain ⟨cs,rfl,h2⟩:=h;rw [iA];exact h2 0 (by simp)
theorem At.slice{el:Nat}{σ:St}{b o:Nat}{xs:List α}(h:At el σ b o xs): ∃v,jl σ.w.heap b o=some v/\RS el σ v xs:=by
 obtain ⟨cs,⟨v,rfl,hR⟩,h2⟩:=h;exact ⟨v,by rw [iA];exact h2 0 (by simp),hR⟩
theorem At.cells{el:Nat}{σ:St}{b o:Nat}{x:α}(h:At el σ b o x): ∃cs,Rp.rp el σ cs x/\cs.length=Rp.sz α/\ ∀j,(hj:j<cs.length)->jl σ.w.heap b (o+j)=some cs[j]:=by
 obtain ⟨cs,h1,h2⟩:=h;exact ⟨cs,h1,Rp.len h1,λj hj=>by rw [iA];exact h2 j hj⟩
end
section
variable{P:Program}{H:Array Obj}{n:Nat}{ρ:Nat->Value}{d:Option Nat}{ty T T' E:TypeId}{pos:String}{af:Array Edge}{gd:Option (Nat×Bool)}{x y:Operand}{v:Value}{a:Int}{m b o s bt:Nat}{z:Value}
theorem bX(hT:P.underlying T=some (.slice E))(hi:TI P E z s bt)(hx:ev n ρ x=v)(hy:ev n ρ y=I a)(h:Ix v a s b o):
  dX P H n ρ ⟨d, .indexAddr T x y,ty,pos,af,gd⟩ (pt b o):=by
 obtain ⟨ob,m,c,rfl,h0,h1,rfl⟩:=h.it;exact vS hT hi hx hy h0 h1
end
end Go.Vs
namespace Go.Vs
open Go
structure Oth(S:Option Nat)(σ σ':St):Prop where
 block: ∀b,b<σ.size->S≠some b->σ'.w.heap[b]? =σ.w.heap[b]?
 fV: ∀b,b<σ.size->S≠some b->σ'.fV b=σ.fV b
structure Mod(S:Option Nat)(σ σ':St):Prop where
 os:σ'.w.os=σ.w.os
 tape:σ'.w.tape=σ.w.tape
 output:σ'.w.output=σ.w.output
 dr:σ.w.drawn<=σ'.w.drawn
 dR:σ'.dR=σ.dR
 ext:Ext σ σ'
 WM:Oth S σ σ'
theorem Mod.refl(S:Option Nat)(σ:St):Mod S σ σ:=⟨rfl,rfl,rfl,qa3 _,rfl,Ext.refl _,⟨λ_ _ _=>rfl,λ_ _ _=>rfl⟩⟩
theorem Mod.size{S:Option Nat}{σ σ':St}(h:Mod S σ σ'):σ.size<=σ'.size:=h.ext.size
theorem Mod.step{S S':Option Nat}{a b c:St}(h:Mod S a b)(k:Mod S' b c)(hs:S'=none\/S'=S\/ ∀i,S'=some i->a.size<=i):Mod S a c:=by
 have key: ∀i,i<a.size->S≠some i->S'≠some i:=by
  intro i hi j0;rcases hs with rfl | rfl | hs
  ·simp
  ·exact j0
  ·intro e;have:=hs i e;omega
 exact ⟨k.os.trans h.os,k.tape.trans h.tape,k.output.trans h.output,qaa h.dr k.dr,k.dR.trans h.dR,h.ext.trans k.ext,
  λi hi j0=>(k.WM.block i (qa2 hi h.size) (key i hi j0)).trans (h.WM.block i hi j0),
  λi hi j0=>(k.WM.fV i (qa2 hi h.size) (key i hi j0)).trans (h.WM.fV i hi j0)⟩
theorem PU.mod{σ σ':St}(h:PU σ.size σ σ')(S:Option Nat):Mod S σ σ':=⟨h.os,h.tape,h.output,h.dr,h.dR,h.ext,λb hb _=>h.block b hb,λb hb _=>h.fV b hb⟩
theorem At.same{el:Nat}{α:Type}[Rp α]{σ σ':St}{b o:Nat}{x:α}(h:At el σ b o x)(hE:Ext σ σ')(hb:σ'.w.heap[b]? =σ.w.heap[b]?):At el σ' b o x:=by
 obtain ⟨cs,h1,h2⟩:=h;exact ⟨cs,Rp.ext hE h1,λj hj=>by rw [show σ'.cell b (o+j)=σ.cell b (o+j) from cell_of_block hb _];exact h2 j hj⟩
theorem lt_of_block{w:World}{b:Nat}{o:Obj}(h:w.heap[b]? =some o):b<w.heap.size:=(qa1.1 h).1
def Bx(σ:St)(b:Nat)(cs:List Value):Prop:= ∃T,σ.w.heap[b]? =some (.cells cs.toArray T (0,0))/\σ.fV b=0
theorem Bx.lt{σ:St}{b:Nat}{cs:List Value}(h:Bx σ b cs):b<σ.size:=lt_of_block h.choose_spec.1
theorem Ow.lt{el:Nat}{α:Type}[Rp α]{σ:St}{lo:Nat}{v:Value}{xs:List α}(h:Ow σ lo el v xs): ∀b,blk v=some b->b<σ.size:=by
 rcases h with ⟨rfl,_⟩ | ⟨b,o,c,C,T,rfl,h2,h3,_⟩
 ·intro b h;cases h
 ·intro b' h;cases h;exact lt_of_block h3
theorem Ow.ge{el:Nat}{α:Type}[Rp α]{σ:St}{lo:Nat}{v:Value}{xs:List α}(h:Ow σ lo el v xs): ∀b,blk v=some b->lo<=b:=by
 rcases h with ⟨rfl,_⟩ | ⟨b,o,c,C,T,rfl,h2,h3,_⟩
 ·intro b h;cases h
 ·intro b' h;cases h;exact h2
theorem Ow.lo{el:Nat}{α:Type}[Rp α]{σ:St}{lo pk:Nat}{v:Value}{xs:List α}(h:Ow σ lo el v xs)(hl:pk<=lo):Ow σ pk el v xs:=by
 rcases h with h | ⟨b,o,c,C,T,h1,h2,h3⟩
 ·exact .inl h
 ·exact .inr ⟨b,o,c,C,T,h1,qaa hl h2,h3⟩
def World.mk'(w:World)(o:Obj)(k:Nat):World:={ w with heap:=w.heap.push o,drawn:=w.drawn+k }
def St.new(σ:St)(o:Obj)(k:Nat):St:=⟨World.mk' σ.w o k,σ.fV,λb hb=>σ.ok b (by
 have:(σ.w.heap.push o).size<=b:=hb;rw [Array.size_push] at this;omega),σ.dR⟩
theorem St.G0(σ:St)(o:Obj)(k:Nat):(σ.new o k).size=σ.size+1:=by show (σ.w.heap.push o).size=_;simp
theorem St.T3(σ:St)(o:Obj)(k b:Nat)(h:b<σ.size):(σ.new o k).w.heap[b]? =σ.w.heap[b]? :=by
 show (σ.w.heap.push o)[b]? =_;rw [qbq,if_neg (by have:b<σ.w.heap.size:=h;omega)]
theorem St.sh(σ:St)(o:Obj)(k:Nat):(σ.new o k).w.heap[σ.size]? =some o:=by
 show (σ.w.heap.push o)[σ.w.heap.size]? =_;simp
theorem St.PV(σ:St)(o:Obj)(k:Nat):PU σ.size σ (σ.new o k):=
 ⟨rfl,rfl,rfl,Nat.le_add_right _ _,by rw [St.G0];omega,λb hb=>σ.T3 o k b hb,λ_ _=>rfl,rfl⟩
theorem St.lQ(σ:St)(o:Obj)(k:Nat):Mod none σ (σ.new o k):=(St.PV σ o k).mod none
theorem St.si(σ:St)(o:Obj)(k:Nat):(σ.new o k).fV σ.size=0:=σ.ok _ (qa3 _)
def wr(C:Array Value)(k:Nat):List Value->Array Value
 | []=>C
 | v::r=>wr (C.setIfInBounds k v) (k+1) r
theorem Lq(vs:List Value): ∀(C:Array Value) (k:Nat),(wr C k vs).size=C.size:=by
 induction vs with
 | nil=>intro C k;rfl
 | cons v r ih=>intro C k;rw [wr,ih];simp
theorem G1(vs:List Value): ∀(C:Array Value) (k j:Nat),j<k->(wr C k vs)[j]? =C[j]? :=by
 induction vs with
 | nil=>intro C k j _;rfl
 | cons v r ih=>
  intro C k j h;rw [wr,ih _ _ _ (by omega),qad,if_neg (by omega)]
theorem PW(vs:List Value): ∀(C:Array Value) (k j:Nat),k+vs.length<=j->(wr C k vs)[j]? =C[j]? :=by
 induction vs with
 | nil=>intro C k j _;rfl
 | cons v r ih=>
  intro C k j h;simp only [qb5] at h;rw [wr,ih _ _ _ (by omega),qad,if_neg (by omega)]
theorem PX(vs:List Value): ∀(C:Array Value) (k j:Nat),k+vs.length<=C.size->(h:j<vs.length)->(wr C k vs)[k+j]? =some vs[j]:=by
 induction vs with
 | nil=>intro C k j _ h;simp at h
 | cons v r ih=>
  intro C k j hs h;simp only [qb5] at hs h;cases j with
  | zero=>
   rw [wr,G1 _ _ _ _ (by omega),qad,if_pos (by omega),if_pos (by omega)]
   rfl
  | succ j=>
   have:=ih (C.setIfInBounds k v) (k+1) j (by simp;omega) (by omega);rw [wr,show k+(j+1)=k+1+j by omega,this]
   rfl
def World.put(w:World)(b:Nat)(o:Obj):World:={ w with heap:=w.heap.setIfInBounds b o }
theorem World.PY{w:World}{b:Nat}{o:Obj}(h:w.heap[b]? =some o):World.put w b o=w:=by
 obtain ⟨hb,e⟩:=qa1.1 h;unfold World.put;have:w.heap.setIfInBounds b o=w.heap:=by
  apply Array.ext_getElem?;intro i;rw [qad];split
  ·rename_i hi;subst hi;rw [h]
  ·rfl
 rw [this]
theorem World.ue{w:World}{b:Nat}(o:Obj)(h:b<w.heap.size):(World.put w b o).heap[b]? =some o:=by
 show (w.heap.setIfInBounds b o)[b]? =_;rw [qad,if_pos rfl,if_pos h]
theorem World.PZ{w:World}{b c:Nat}(o:Obj)(h:b≠c):(World.put w b o).heap[c]? =w.heap[c]? :=by
 show (w.heap.setIfInBounds b o)[c]? =_;rw [qad,if_neg h]
theorem World.T4(w:World)(b:Nat)(o o':Obj):World.put (World.put w b o) b o'=World.put w b o':=by
 unfold World.put;have:(w.heap.setIfInBounds b o).setIfInBounds b o'=w.heap.setIfInBounds b o':=by
  apply Array.ext_getElem?;intro i;simp only [qad,Array.size_setIfInBounds];split
  ·rfl
  ·rfl
 rw [this]
theorem World.G2(w:World)(b:Nat)(o:Obj):(World.put w b o).heap.size=w.heap.size:=by
 show (w.heap.setIfInBounds b o).size=_;simp
theorem G3{w:World}{b k:Nat}{C:Array Value}{T:TypeId}(h:w.heap[b]? =some (.cells C T (0,0)))(v:Value):
  w.setCell ⟨b,k,none⟩ v=World.put w b (.cells (C.setIfInBounds k v) T (0,0)):=by
 obtain ⟨hb,e⟩:=qa1.1 h;unfold World.setCell World.put;simp only [qbn,qa6,if_false];congr 1;apply Array.ext_getElem?;intro i;rw [qby,qad];split
 ·rename_i hi;subst hi;rw [h];simp
 ·rfl
theorem iX{P:Program}(b o:Nat)(T:TypeId): ∀(vs:List Value) (i:Nat) (w:World) (C:Array Value),w.heap[b]? =some (.cells C T (0,0))->
  o+i+vs.length<=C.size->(∀v∈vs,plain v=true)->
  (storeCells ⟨b,o,none⟩ vs i).run P w= .ok () (World.put w b (.cells (wr C (o+i) vs) T (0,0)))
 | [],i,w,C,h,_,_=>by
  simp only [storeCells,wr,World.PY h];rfl
 | v::r,i,w,C,h,hs,hp=>by
  simp only [qb5] at hs;have hv:=hp v (by simp);have hb:=lt_of_block h;have hc:w.cell? ⟨b,o+i,none⟩=C[o+i]? :=by simp [World.cell?, h]
  have Pa:C[o+i]? =some C[o+i]:=by rw [qa1];exact ⟨by omega,rfl⟩
  have hf:w.frozen? ⟨b,o+i,none⟩=false:=by simp [World.frozen?, h]
  have ih:=iX (P:=P) b o T r (i+1) (World.put w b (.cells (C.setIfInBounds (o+i) v) T (0,0))) (C.setIfInBounds (o+i) v)
   (World.ue _ hb) (by simp;omega) (λu hu=>hp u (by simp [hu]))
  have bM:(store ((⟨b,o,none⟩:Addr).add i) v).run P w= .ok () (World.put w b (.cells (C.setIfInBounds (o+i) v) T (0,0))):=by
   rw [add_plain];cases v <;> first | (simp [plain] at hv;done) | (simp only [store,Sem.run,hc,Pa,hf,G3 h];rfl)
  simp only [storeCells,Sem.run_bind,bM,Result.andThen_ok,ih,World.T4];rw [wr];rfl
def St.put(σ:St)(b:Nat)(o:Obj):St:=⟨World.put σ.w b o,σ.fV,λc hc=>σ.ok c (by rw [World.G2] at hc;exact hc),σ.dR⟩
theorem St.EK{σ:St}{b:Nat}{o:Obj}(h:σ.fV b=0):Ext σ (σ.put b o):=by
 refine ⟨qav (World.G2 _ _ _).symm,λc hk=> ?_,λ_=>qa3 _⟩;by_cases hc:b=c
 ·subst hc;rw [h] at hk;exact absurd hk (qap _)
 ·exact World.PZ o hc
theorem St.T5{σ:St}{b:Nat}{o:Obj}:Oth (some b) σ (σ.put b o):=
 ⟨λc _ j0=>World.PZ o (λe=>j0 (by rw [e])),λ_ _ _=>rfl⟩
theorem St.wZ{σ:St}{b:Nat}{o:Obj}(h:σ.fV b=0):Mod (some b) σ (σ.put b o):=⟨rfl,rfl,rfl,qa3 _,rfl,St.EK h,St.T5⟩
def St.PG(σ:St)(b e:Nat)(hb:b<σ.size):St:=⟨σ.w,λc=>if c=b then max (σ.fV b) e else σ.fV c,λc hc=>by
 rw [if_neg (by have:σ.size<=c:=hc;omega)];exact σ.ok c hc,σ.dR⟩
theorem St.EL{σ:St}{b e:Nat}(hb:b<σ.size):Ext σ (σ.PG b e hb):=by
 refine ⟨qa3 _,λ_ _=>rfl,λc=> ?_⟩;show _<=(if c=b then max (σ.fV b) e else σ.fV c);split
 ·rename_i h;subst h;omega
 ·exact qa3 _
end Go.Vs
namespace Go.Vs
open Go
section
variable{P:Program}{ops:Array Oper}{Q:Exit->Act->World->Prop}{n d:Nat}{ρ:Nat->Value}{σ:St}{v:Value}{rest:List Oper}
variable{ty T T' E:TypeId}{pos:String}{af:Array Edge}{x y:Operand}{a:Int}
def CB(P:Program)(w:World)(n:Nat)(ρ:Nat->Value)(o:Oper)(v:Value)(w':World):Prop:=(execOp (ev n ρ) o).run P w= .ok (.value v) w'
def P0(P:Program)(w:World)(n:Nat)(ρ:Nat->Value)(o:Oper)(w':World):Prop:=(execOp (ev n ρ) o).run P w= .ok .skip w'
theorem aeK{op:Op}{gd:Option (Nat×Bool)}{w w':World}(hw:Region.wanted ⟨some d,op,ty,pos,af,gd⟩ (yv ops n ρ)=true)(hr:CB P w n ρ ⟨some d,op,ty,pos,af,gd⟩ v w')
  (k:wpList P ops Q rest (fr n (upd ρ d v)) w'):wpList P ops Q (⟨some d,op,ty,pos,af,gd⟩::rest) (fr n ρ) w:=by
 unfold wpList;rw [eM,if_pos hw];refine .inl ?_;unfold Oper.wp;rw [aO,hr];simp only [Oper.upon_value,cV];exact k
theorem aeL{op:Op}{gd:Option (Nat×Bool)}{w w':World}(hw:Region.wanted ⟨none,op,ty,pos,af,gd⟩ (yv ops n ρ)=true)(hr:P0 P w n ρ ⟨none,op,ty,pos,af,gd⟩ w')
  (k:wpList P ops Q rest (fr n ρ) w'):wpList P ops Q (⟨none,op,ty,pos,af,gd⟩::rest) (fr n ρ) w:=by
 unfold wpList;rw [eM,if_pos hw];refine .inl ?_;unfold Oper.wp;rw [aO,hr];simp only [Oper.upon_skip,kq];exact k
def EM(cs:List Value)(k:Nat):List Value->List Value
 | []=>cs
 | v::r=>EM (cs.set k v) (k+1) r
theorem Lr(vs:List Value): ∀(cs:List Value) (k:Nat),wr cs.toArray k vs=(EM cs k vs).toArray:=by
 induction vs with
 | nil=>intro cs k;rfl
 | cons v r ih=>intro cs k;rw [wr,EM, ←ih];simp
theorem P1{f:FuncId}{args:List Value}{xs:Array Operand}{Ts:Array TypeId}{dst:Option Nat}{gd:Option (Nat×Bool)}{w:World}
  (hf: ∃fn c,P.funcs[f]? =some fn/\(fn.name== "runtime.NumGoroutine")=false/\fn.body=some c) (hx:xs.toList.map (ev n ρ)=args):
  (execOp (ev n ρ) ⟨dst, .call ⟨.value (.func f),xs,Ts⟩,ty,pos,af,gd⟩).run P w= .ok (.enter f args.toArray) w:=by
 obtain ⟨fn,c,h1,h2,h3⟩:=hf;replace hx:xs.map (ev n ρ)=args.toArray:=by rw [←hx, ←Array.toList_map]
 simp only [execOp,resolve,ev,Deferred.ofValue,Sem.run_bind,Sem.run_pure,Result.andThen_ok,invoke,callFunc,run_program,hx,h1,h2,h3];simp
end
section
variable{P:Program}{Q:Exit->Act->World->Prop}{n:Nat}{ρ:Nat->Value}{σ:St}{w:World}
theorem rg{id:Nat}{l:List Oper}(h:wpList P l.toArray Q l (fr n ρ) w):(Code.region id l.toArray false).wp P Q (fr n ρ) w:=wp_region_lit h
end
end Go.Vs
namespace Go.Vs
open Go
abbrev Sl{α:Type}(a:Option Addr)(xs:List α)(c:Nat):Value:= .slice a xs.length c
section
variable{α:Type}[Rp α]
theorem Rd.row{el:Nat}{σ:St}{v:Value}{xs:List α}(h:Rd el σ v xs): ∃L:List Value,L.length=xs.length*Rp.sz α/\
  (∀i,(hi:i<xs.length)-> ∃cs,Rp.rp el σ cs xs[i]/\ ∀j,(hj:j<cs.length)->L[i*Rp.sz α+j]? =some cs[j])/\
  (((∃ad c,v= .slice ad 0 c)/\xs=[])\/ ∃b o c,v= .slice (some ⟨b,o,none⟩) xs.length c/\ ∀j,(hj:j<L.length)->σ.w.cell? ⟨b,o+j,none⟩=some L[j]):=by
 rcases h with ⟨hv,rfl⟩ | ⟨b,o,c,rfl,h⟩
 ·exact ⟨[],by simp,λi hi=>by simp at hi, .inl ⟨hv,rfl⟩⟩
 ·have key: ∀k,k<xs.length*Rp.sz α-> ∃u,σ.w.cell? ⟨b,o+k,none⟩=some u:=by
   intro k hk;have hp:0<Rp.sz α:=Rp.pos;have hq:k / Rp.sz α<xs.length:=(Nat.div_lt_iff_lt_mul hp).2 hk;obtain ⟨cs,h1,h2⟩:=h _ hq;have hm:=Nat.mod_lt k hp;have:=h2 (k % Rp.sz α) (by rw [Rp.len h1];exact hm);have e:o+k / Rp.sz α*Rp.sz α+k % Rp.sz α=o+k:=by
    have:=Nat.div_add_mod k (Rp.sz α);rw [Nat.mul_comm] at this;omega
   rw [e] at this;exact ⟨_,this⟩
  refine ⟨(List.range (xs.length*Rp.sz α)).map λk=>(σ.w.cell? ⟨b,o+k,none⟩).getD undef,by simp,λi hi=> ?_, .inr ⟨b,o,c,rfl,λj hj=> ?_⟩⟩
  ·obtain ⟨cs,h1,h2⟩:=h i hi;refine ⟨cs,h1,λj hj=> ?_⟩;have hl:=Rp.len h1;have:(i+1)*Rp.sz α<=xs.length*Rp.sz α:=qak _ hi;rw [Nat.add_mul] at this;have e:=h2 j hj;rw [Nat.add_assoc] at e;simp only [List.getElem?_map];rw [List.getElem?_range (by omega)];simp only [qac];rw [show σ.w.cell? ⟨b,o+(i*Rp.sz α+j),none⟩=some cs[j] from e]
   rfl
  ·simp only [qbr,List.length_range] at hj;obtain ⟨u,hu⟩:=key j hj;simp [hu]
theorem Rd.plain{el:Nat}{σ:St}{xs:List α}{L:List Value}(h1:L.length=xs.length*Rp.sz α)
  (h2: ∀i,(hi:i<xs.length)-> ∃cs,Rp.rp el σ cs xs[i]/\ ∀j,(hj:j<cs.length)->L[i*Rp.sz α+j]? =some cs[j]): ∀u∈L,plain u=true:=by
 intro u hu;obtain ⟨k,hk,rfl⟩:=qal.1 hu;have hp:0<Rp.sz α:=Rp.pos;have hq:k / Rp.sz α<xs.length:=(Nat.div_lt_iff_lt_mul hp).2 (by omega);obtain ⟨cs,h3,h4⟩:=h2 _ hq;have hm:=Nat.mod_lt k hp;have:=h4 (k % Rp.sz α) (by rw [Rp.len h3];exact hm);have e:k / Rp.sz α*Rp.sz α+k % Rp.sz α=k:=by
  have:=Nat.div_add_mod k (Rp.sz α);rw [Nat.mul_comm] at this;omega
 rw [e,qb3 hk] at this;rw [qaf this];exact Rp.one h3 _ (qai _)
theorem kr{P:Program}{σ:St}{v:Value}{xs:List α}{L:List Value}(h1:L.length=xs.length*Rp.sz α)
  (h:((∃ad c,v= .slice ad 0 c)/\xs=[])\/ ∃b o c,v= .slice (some ⟨b,o,none⟩) xs.length c/\ ∀j,(hj:j<L.length)->σ.w.cell? ⟨b,o+j,none⟩=some L[j]) (w:World) (hw:w.heap=σ.w.heap):
  (Builtin.firstCells (Rp.sz α) xs.length v).run P w= .ok L.toArray w:=by
 rcases h with ⟨⟨ad,c,rfl⟩,rfl⟩ | ⟨b,o,c,rfl,h⟩
 ·have:L=[]:=qb6 (by simpa using h1);subst this;cases ad with
  | none=>rfl
  | some a=>simp only [List.length_nil,Builtin.firstCells,loadCells,Nat.zero_mul];rfl
 ·have:=run_loadCellsFrom (P:=P) w b o (xs.length*Rp.sz α) 0 L [] h1 (λj hj=>by
   have:=h j hj;simp only [qc0];rw [←this];simp only [World.cell?, hw])
  simpa [Builtin.firstCells,loadCells] using this
theorem Dr(need:Nat): ∀(r c:Nat),c<=2*need+300->Builtin.growBy need r c<=2*need+300
 | 0,c,h=>by simpa [Builtin.growBy] using h
 | r+1,c,h=>by
  unfold Builtin.growBy;split
  ·exact h
  ·exact Dr need r _ (by omega)
theorem nextslicecap_le{need c:Nat}(h:c<need):Builtin.nextslicecap need c<=2*need+300:=by
 unfold Builtin.nextslicecap;split
 ·omega
 ·split
  ·omega
  ·exact Dr _ _ _ (by omega)
theorem At.put{el:Nat}{σ:St}{b o:Nat}{C C':Array Value}{T:TypeId}{x:α}(h:At el σ b o x)(hb:σ.w.heap[b]? =some (.cells C T (0,0)))(hv:σ.fV b=0)
  (hC: ∀j,j<Rp.sz α->C'[o+j]? =C[o+j]?):At el (σ.put b (.cells C' T (0,0))) b o x:=by
 obtain ⟨cs,h1,h2⟩:=h;refine ⟨cs,Rp.ext (St.EK hv) h1,λj hj=> ?_⟩;have e:=h2 j hj;have e1:(σ.put b (.cells C' T (0,0))).cell b (o+j)=C'[o+j]? :=by
  show (World.put σ.w b _).cell? _=_;simp only [World.cell?, World.ue _ (lt_of_block hb),qbn,qa6,if_false]
 have e2:σ.cell b (o+j)=C[o+j]? :=by
  show σ.w.cell? _=_;simp only [World.cell?, hb,qbn,qa6,if_false]
 rw [e1,hC j (by rw [←Rp.len h1];exact hj), ←e2,e]
theorem At.sn{el:Nat}{σ:St}{b o:Nat}{C:Array Value}{T:TypeId}{f:Nat×Nat}{x:α}{cs:List Value}(hb:σ.w.heap[b]? =some (.cells C T f))(hr:Rp.rp el σ cs x)
  (hC: ∀j,(hj:j<cs.length)->C[o+j]? =some cs[j]):At el σ b o x:=by
 refine ⟨cs,hr,λj hj=> ?_⟩;show σ.w.cell? _=_;simp only [World.cell?, hb,qbn,qa6,if_false];exact hC j hj
end
section
variable{P:Program}{ops:Array Oper}{Q:Exit->Act->World->Prop}{n d:Nat}{ρ:Nat->Value}{σ:St}{u v:Value}{rest:List Oper}
variable{ty T T' E E':TypeId}{pos:String}{af:Array Edge}{x y:Operand}{a:Int}{α:Type}[Rp α]{xs ys:List α}{z:Value}{s bt lo:Nat}
theorem JD{el:Nat}(hT:P.underlying T=some (.slice E))(qv:P.underlying T'=some (.slice E'))(hi:TI P E z s bt)(hs:s=Rp.sz α)(Da:z.cells.size=s)(T6:bt<=1024)
  (hO:Ow σ lo el v xs) (hS:Rd el σ u ys) (hlen:xs.length+ys.length<=2147483648) (qJ:lo<=σ.size):
  ∃a' c' σ',(Builtin.append_ #[T,T'] ty #[v,u]).run P σ.w= .ok (Sl a' (xs++ys) c') σ'.w/\Mod (blk v) σ σ'/\Ow σ' lo el (Sl a' (xs++ys) c') (xs++ys)/\
   (blk (Sl a' (xs++ys) c')=blk v\/ ∀b,blk (Sl a' (xs++ys) c')=some b->σ.size<=b)/\ ∀ad0 m0 cp0,v= .slice ad0 m0 cp0->xs.length+ys.length<=cp0->c'=cp0:=by
 obtain ⟨i0,uO,Ap,Oz,hi4⟩:=hi.it;have Ym:=hi;obtain ⟨L,hL1,hL2,hL3⟩:=hS.row;obtain ⟨K,uf,P2,hK3⟩:=hO.rd.row;have T7:=Rd.plain hL1 hL2;subst hs;have JE: ∀w,(Builtin.lenOf u).run P w= .ok ys.length w:=by
  intro w;obtain ⟨ad,c,rfl⟩:=hS.sg
  rfl
 obtain ⟨ad,cp,TE⟩:=hO.sg;by_cases ve:xs.length+ys.length<=cp
 ·
  rcases hO with ⟨rfl,rfl⟩ | ⟨b,o,c,C,T0,rfl,h2,h3,h4,h5,h6,h7⟩
  ·cases TE;have hy:ys=[]:=qb6 (by simpa using ve);subst hy;refine ⟨none,0,σ, ?_,Mod.refl _ _,Ow.nil, .inl rfl,by rintro _ _ _ ⟨⟩ _;rfl⟩;have hf:=kr (P:=P) hL1 hL3 σ.w rfl;simp only [List.length_nil] at hf;simp only [Builtin.append_,qau,qbm,List.getElem?_cons_succ,underlying,hT,qv,Sem.run_bind,run_program,Result.andThen_ok,Sem.run_pure,run_typeInfo Ym,JE,
    if_true,qa6,if_false,Bool.not_false,List.length_nil,qcc,qa3,hf]
   rfl
  ·cases TE;have MX:o+xs.length*Rp.sz α+L.length<=C.size:=by
    have:(xs.length+ys.length)*Rp.sz α<=cp*Rp.sz α:=qak _ ve;rw [Nat.add_mul] at this;omega
   have fb:=iX (P:=P) b (o+xs.length*Rp.sz α) T0 L 0 σ.w C h3 (by simpa using MX) T7;simp only [qcc] at fb;refine ⟨some ⟨b,o,none⟩,cp,σ.put b (.cells (wr C (o+xs.length*Rp.sz α) L) T0 (0,0)), ?_, ?_, ?_, .inl rfl,by rintro _ _ _ ⟨⟩ _;rfl⟩
   ·simp only [Builtin.append_,qau,qbm,List.getElem?_cons_succ,underlying,hT,qv,Sem.run_bind,run_program,Result.andThen_ok,Sem.run_pure,run_typeInfo Ym,JE,
     ve,if_true,qa6,if_false,Bool.not_false,kr hL1 hL3 σ.w rfl,add_plain,fb,Sl,qat]
    rfl
   ·exact St.wZ h6
   ·refine .inr ⟨b,o,cp,_,T0,rfl,h2,World.ue _ (lt_of_block h3),by rw [qat];exact ve,by rw [Lq];exact h5,h6,λi hi=> ?_⟩;by_cases M5:i<xs.length
    ·rw [qb4 M5];have:(i+1)*Rp.sz α<=xs.length*Rp.sz α:=qak _ M5;rw [Nat.add_mul] at this;exact (h7 i M5).put h3 h6 (λj hj=>G1 _ _ _ _ (by omega))
    ·rw [qbh (by omega)];rw [qat] at hi;obtain ⟨cs,EN,SQ⟩:=hL2 (i - xs.length) (by omega);refine At.sn (World.ue _ (lt_of_block h3)) (Rp.ext (St.EK h6) EN) (λj hj=> ?_);have hl:=Rp.len EN;have bG:(i - xs.length)*Rp.sz α+j<L.length:=by
      have:(i - xs.length+1)*Rp.sz α<=ys.length*Rp.sz α:=qak _ (by omega);rw [Nat.add_mul] at this;omega
     have e:=PX L C (o+xs.length*Rp.sz α) ((i - xs.length)*Rp.sz α+j) MX bG;have e2:=SQ j hj;rw [qb3 bG] at e2;have e3:o+i*Rp.sz α+j=o+xs.length*Rp.sz α+((i - xs.length)*Rp.sz α+j):=by
      have:i*Rp.sz α=xs.length*Rp.sz α+(i - xs.length)*Rp.sz α:=by rw [←Nat.add_mul];congr 1;omega
      omega
     rw [e3,e,e2]
 ·
  have hn:=nextslicecap_le (need:=xs.length+ys.length) (c:=cp) (by omega);have JF: ¬Builtin.nextslicecap (xs.length+ys.length) cp*bt>2^48:=by
   have h1:Builtin.nextslicecap (xs.length+ys.length) cp*bt<=(2*(xs.length+ys.length)+300)*1024:=Nat.mul_le_mul hn T6;have h2:(2:Nat)^48=281474976710656:=by decide
   omega
  have abf: ¬(((xs.length+ys.length:Nat):Int)>IntKind.i64.max/\(false=true\/bt=0)):=by
   have:IntKind.i64.max=9223372036854775807:=by decide
   omega
  have abg: ¬(((xs.length+ys.length:Nat):Int)>IntKind.i64.max):=by
   have:IntKind.i64.max=9223372036854775807:=by decide
   omega
  let q:Question:= .appendCap (xs.length+ys.length) cp E
  let px:=q.cut (σ.w.tape σ.w.drawn q)
  have WN:xs.length+ys.length<=px:=by
   show _<=Question.cut (.appendCap (xs.length+ys.length) cp E) _;simp only [Question.cut];omega
  let Z:=Builtin.zeroCells z.cells (px - (xs.length+ys.length))
  have hZ:Z.size=(px - (xs.length+ys.length))*z.cells.size:=by show (Builtin.zeroCells _ _).size=_;simp [Builtin.zeroCells]
  let R:List Value:=K++L++Z.toList
  let w1:World:={ σ.w with drawn:=σ.w.drawn+1 }
  have hR:(K.toArray++L.toArray++Z)=R.toArray:=by
   apply qcf;simp [R]
  have hf1:=kr (P:=P) (σ:=σ) (v:=v) uf hK3 w1 rfl;have hf2:=kr (P:=P) (σ:=σ) (v:=u) hL1 hL3 w1 rfl;have zp:(askRoom (px*bt)).run P w1= .ok () w1:=by
   unfold askRoom;split <;> rfl
  have Et:(choose (.appendCap (xs.length+ys.length) cp E)).run P σ.w= .ok px w1:=by
   simp [choose,Sem.run,Question.forced,px,q,w1]
  have OA:(typeInfo E).run P=λw=> .ok i0 w:=by
   funext w;simp [typeInfo,uO]
  have bM:(Builtin.append_ #[T,T'] ty #[v,u]).run P σ.w= .ok (Sl (some ⟨σ.size,0,none⟩) (xs++ys) px) (σ.new (.cells R.toArray E (0,0)) 1).w:=by
   subst TE;simp only [Builtin.append_,qau,qbm,List.getElem?_cons_succ,underlying,hT,qv,Sem.run_bind,run_program,Result.andThen_ok,Sem.run_pure,run_typeInfo Ym,JE,
    ve,if_true,qa6,if_false,Bool.not_false,abg,false_and,OA,hi4,JF,Et,zp,hf1,hf2,pv Ym,Sl,qat]
   rw [show (K.toArray++L.toArray++Builtin.zeroCells z.cells (px - (xs.length+ys.length)))=R.toArray from hR]
   rfl
  have zK:=σ.sh (.cells R.toArray E (0,0)) 1;refine ⟨_,px,_,bM,(σ.lQ _ 1).step (Mod.refl _ _) (.inl rfl) |> λh=>⟨h.os,h.tape,h.output,h.dr,h.dR,h.ext,⟨λb hb _=>h.WM.block b hb (by simp),λb hb _=>h.WM.fV b hb (by simp)⟩⟩,
   .inr ⟨σ.size,0,px,R.toArray,E,rfl,qJ,zK,by rw [qat];exact WN, ?_,σ.si _ 1,λi hi=> ?_⟩, .inr (by rintro b ⟨⟩;exact qa3 _),λad0 m0 cp0 e h=>absurd h (by rw [TE] at e;cases e;exact ve)⟩
  ·simp only [R,qbk,qat,uf,hL1,Array.length_toList,hZ,Da,qc0];rw [←Nat.add_mul, ←Nat.add_mul];exact qak _ (by omega)
  ·have hE:=(σ.lQ (.cells R.toArray E (0,0)) 1).ext;by_cases M5:i<xs.length
   ·rw [qb4 M5];obtain ⟨cs,EN,SQ⟩:=P2 i M5;refine At.sn zK (Rp.ext hE EN) (λj hj=> ?_);have e2:=SQ j hj;have bG:=List.EJ e2;simp only [R,qc0,qau,List.append_assoc];rw [qbg bG,e2]
   ·rw [qbh (by omega)];rw [qat] at hi;obtain ⟨cs,EN,SQ⟩:=hL2 (i - xs.length) (by omega);refine At.sn zK (Rp.ext hE EN) (λj hj=> ?_);have e2:=SQ j hj;have bG:=List.EJ e2;have e3:i*Rp.sz α+j=K.length+((i - xs.length)*Rp.sz α+j):=by
     have:i*Rp.sz α=xs.length*Rp.sz α+(i - xs.length)*Rp.sz α:=by rw [←Nat.add_mul];congr 1;omega
     omega
    simp only [R,qc0,qau,List.append_assoc];rw [e3,qbt (by omega),Nat.add_sub_cancel_left,qbg bG,e2]
end
end Go.Vs
namespace Go.Vs
open Go
section
variable{P:Program}{ops:Array Oper}{Q:Exit->Act->World->Prop}{n d:Nat}{ρ:Nat->Value}{σ:St}{u v:Value}{rest:List Oper}
variable{ty T T' E E':TypeId}{pos:String}{af:Array Edge}{x y:Operand}{a b:Int}{α:Type}[Rp α]{xs ys:List α}{z:Value}{s bt lo:Nat}{gd:Option (Nat×Bool)}{H:Array Obj}{dst:Option Nat}
def oO{α:Type}(xs ys:List α):Option (List α):=if xs.length+ys.length<=2147483648 then some (xs++ys) else none
theorem M6{α:Type}{xs ys r:List α}(h:oO xs ys=some r):xs.length+ys.length<=2147483648/\r=xs++ys:=by
 unfold oO at h;split at h
 ·exact ⟨by assumption,(qaf h).symm⟩
 ·cases h
inductive Flat(el:Nat)(σ:St):List Value->List α->Prop
 | nil:Flat el σ [] []
 | cons {c cs:List Value} {x:α} {xs:List α}:Rp.rp el σ c x->Flat el σ cs xs->Flat el σ (c++cs) (x::xs)
theorem Flat.length{el:Nat}{cs:List Value}{xs:List α}(h:Flat el σ cs xs):cs.length=xs.length*Rp.sz α:=by
 induction h with
 | nil=>simp
 | cons h1 h2 ih=>rw [qat,ih,Rp.len h1,qb5,Nat.add_mul];omega
theorem Flat.get{el:Nat}{cs:List Value}{xs:List α}(h:Flat el σ cs xs): ∀i,(hi:i<xs.length)-> ∃c,Rp.rp el σ c xs[i]/\ ∀j,(hj:j<c.length)->cs[i*Rp.sz α+j]? =some c[j]:=by
 induction h with
 | nil=>intro i hi;simp at hi
 | @cons c cs x xs h1 h2 ih=>
  intro i hi;cases i with
  | zero=>
   refine ⟨c,h1,λj hj=> ?_⟩;rw [Nat.zero_mul,qc0,qbg hj];simp [hj]
  | succ i=>
   obtain ⟨c',h3,h4⟩:=ih i (by simpa using hi);refine ⟨c',h3,λj hj=> ?_⟩;have:=Rp.len h1;rw [qbt (by rw [Nat.add_mul];omega),show (i+1)*Rp.sz α+j - c.length=i*Rp.sz α+j by rw [Nat.add_mul];omega];exact h4 j hj
theorem Flat.ext{el:Nat}{σ':St}{cs:List Value}{xs:List α}(h:Flat el σ cs xs)(hE:Ext σ σ'):Flat el σ' cs xs:=by
 induction h with
 | nil=>exact .nil
 | cons h1 h2 ih=>exact .cons (Rp.ext hE h1) ih
theorem Bx.ow{el:Nat}{bl:Nat}{cs:List Value}(h:Bx σ bl cs)(hf:Flat el σ cs xs)(qJ:lo<=bl):Ow σ lo el (Sl (some ⟨bl,0,none⟩) xs xs.length) xs:=by
 obtain ⟨T,h1,h2⟩:=h;refine .inr ⟨bl,0,xs.length,cs.toArray,T,rfl,qJ,h1,qa3 _, ?_,h2,λi hi=> ?_⟩
 ·simp [hf.length]
 ·obtain ⟨c,h3,h4⟩:=hf.get i hi;exact At.sn h1 h3 (λj hj=>by simpa using h4 j hj)
theorem Bb{el:Nat}{len:Nat}{parts:Array (Nat×Operand)}{ps:List (Nat×Value)}{cs:List Value}(hT:P.underlying T=some (.slice E))(hi:TI P E z s bt)
  (JF:Nat.ble (len*s) 16777216=true) (hp:parts.toList.map (λp=>(p.1,ev n ρ p.2))=ps)
  (zq:Instr.fill (λi=>some (i*s,s)) ((Array.range (len*s)).map (λk=>(if len*s=0 then #[] else z.cells)[k % (if len*s=0 then #[] else z.cells).size]!)) ps=some cs.toArray)
  (hf:Flat el σ cs xs) (hl:xs.length=len) (qJ:lo<=σ.size):
  ∃(b:Nat) (σ':St),σ.size=b/\CB P σ.w n ρ ⟨dst, .buildSlice T len parts,ty,pos,af,gd⟩ (Sl (some ⟨b,0,none⟩) xs len) σ'.w/\Mod none σ σ'/\Ow σ' lo el (Sl (some ⟨b,0,none⟩) xs len) xs:=by
 have T8:Bx (σ.new (.cells cs.toArray E (0,0)) 0) σ.size cs:=⟨E,St.sh _ _ _,St.si _ _ _⟩;have hm:=σ.lQ (.cells cs.toArray E (0,0)) 0;refine ⟨σ.size,σ.new (.cells cs.toArray E (0,0)) 0,rfl, ?_,hm,by
  have:=T8.ow (hf.ext hm.ext) qJ;rw [hl] at this;exact this⟩
 have hb: ¬len*s>2^24:=by
  have:=qa5 JF;have e:(2:Nat)^24=16777216:=by decide
  omega
 have key:(Instr.buildSlice T len ps.toArray).run P σ.w= .ok (.slice (some ⟨σ.size,0,none⟩) len len) (σ.new (.cells cs.toArray E (0,0)) 0).w:=by
  by_cases h0:len*s=0
  ·simp only [h0,if_true] at zq;have hb0: ¬(0>2^24):=by omega
   simp only [Instr.buildSlice,underlying,hT,Sem.run_bind,run_program,Result.andThen_ok,Sem.run_pure,run_typeInfo hi,hb0,if_false,h0,if_true,zq,newRow,newObj,Sem.run]
   rfl
  ·simp only [h0,if_false] at zq;simp only [Instr.buildSlice,underlying,hT,Sem.run_bind,run_program,Result.andThen_ok,Sem.run_pure,run_typeInfo hi,hb,if_false,h0,pv hi,zq,newRow,newObj,Sem.run]
   rfl
 have Yn:(parts.map fun (i,x)=>(i,ev n ρ x))=ps.toArray:=by rw [←hp, ←Array.toList_map]
 simp only [CB,execOp,Yn,Sem.run_bind,key,Result.andThen_ok,Sem.run_pure,Sl,hl]
def zr{α:Type}(k:Int)(z0:α):Option (List α):=if 0<=k/\k<=2147483648 then some (List.replicate k.toNat z0) else none
theorem Ds{zc:Array Value}{m i j:Nat}(hi:i<m)(hj:j<zc.size):
  ((Array.range (m*zc.size)).map (λk=>zc[k % zc.size]!))[i*zc.size+j]? =zc[j]? :=by
 have h:(i+1)*zc.size<=m*zc.size:=qak _ hi;rw [Nat.add_mul] at h;rw [qc3,Array.getElem?_range,if_pos (by omega)];simp only [qac];have:(i*zc.size+j) % zc.size=j:=by rw [Nat.mul_comm,Nat.mul_add_mod,Nat.mod_eq_of_lt hj]
 rw [this,getElem!_pos zc j hj,Array.getElem?_eq_getElem hj]
theorem run_make{el:Nat}{z0:α}{zs:List Value}(hT:P.underlying T=some (.slice E))(hi:TI P E z s bt)(hs:s=Rp.sz α)(Yo:z.cells=zs.toArray)(hz:Rp.rp el σ zs z0)(T6:bt<=1024)
  (hr:zr a z0=some xs) (hx:ev n ρ x=I a) (hy:ev n ρ y=I a) (qJ:lo<=σ.size)
  : ∃(b:Nat) (σ':St) (c':Nat),c'=a.toNat/\CB P σ.w n ρ ⟨dst, .makeSlice T x y,ty,pos,af,gd⟩ (Sl (some ⟨b,0,none⟩) xs c') σ'.w/\Mod none σ σ'/\Ow σ' lo el (Sl (some ⟨b,0,none⟩) xs c') xs:=by
 unfold zr at hr;split at hr
 case isFalse=>cases hr
 rename_i h01;obtain ⟨h0,h1⟩:=h01;cases hr;obtain ⟨i0,uO,Ap,Oz,P3⟩:=hi.it;have OA: ∀w,(typeInfo E).run P w= .ok i0 w:=by
  intro w;simp only [typeInfo,Sem.run_bind,run_program,Result.andThen_ok,uO];rfl
 have mo:zs.length=Rp.sz α:=Rp.len hz;have Cz:0<Rp.sz α:=Rp.pos
 let C:Array Value:=(Array.range (a.toNat*s)).map (λk=>(if a.toNat*s=0 then #[] else z.cells)[k % (if a.toNat*s=0 then #[] else z.cells).size]!)
 have zp:(askRoom (a.toNat*bt)).run P σ.w= .ok () σ.w:=by unfold askRoom;split <;> rfl
 have Wu:IntKind.i64.wrap a=a:=aT (by omega) (by omega);have htl:decide ((bt:Int)*a>2^48)=false:=by
  have h2:(2:Int)^48=281474976710656:=by decide
  have:(bt:Int)*a<=1024*2147483648:=Int.mul_le_mul (by omega) h1 h0 (by omega);simp only [decide_eq_false_iff_not];omega
 have bM:(Instr.makeSlice T (I a) (I a)).run P σ.w= .ok (.slice (some ⟨σ.size,0,none⟩) a.toNat a.toNat) (σ.new (.cells C E (0,0)) 0).w:=by
  have bG:(decide (a<0))=false:=by simp;omega
  have hgt:(decide (a>a))=false:=by simp
  by_cases h00:a.toNat*s=0
  ·simp only [Instr.makeSlice,underlying,hT,Sem.run_bind,run_program,Result.andThen_ok,Sem.run_pure,asInt,asIntOf,OA,P3,Wu,htl,bG,hgt,Bool.or_self,qa6,if_false,zp,run_typeInfo hi,h00,if_true,newRow,newObj,Sem.run,C]
   rfl
  ·simp only [Instr.makeSlice,underlying,hT,Sem.run_bind,run_program,Result.andThen_ok,Sem.run_pure,asInt,asIntOf,OA,P3,Wu,htl,bG,hgt,Bool.or_self,qa6,if_false,zp,run_typeInfo hi,h00,pv hi,newRow,newObj,Sem.run,C]
   rfl
 have zK:=σ.sh (.cells C E (0,0)) 0;have hm:=σ.lQ (.cells C E (0,0)) 0;have hlen:(List.replicate a.toNat z0).length=a.toNat:=List.length_replicate;refine ⟨σ.size,σ.new (.cells C E (0,0)) 0,a.toNat,rfl, ?_,hm, .inr ⟨σ.size,0,a.toNat,C,E,rfl,qJ,zK,by rw [hlen];exact qa3 _, ?_,St.si _ _ _,λi fU=> ?_⟩⟩
 ·simp only [CB,execOp,hx,hy,Sem.run_bind,bM,Result.andThen_ok,Sem.run_pure,Sl,hlen]
 ·simp [C,hs]
 ·rw [hlen] at fU;rw [List.getElem_replicate];refine At.sn zK (Rp.ext hm.ext hz) (λj hj=> ?_);have j0: ¬a.toNat*s=0:=by
   have:0<a.toNat*s:=Nat.mul_pos (by omega) (by omega);omega
  have Yp:z.cells.size=s:=by rw [Yo,hs];simpa using mo
  have hg:=Ds (zc:=z.cells) (m:=a.toNat) (i:=i) (j:=j) fU (by rw [Yp,hs, ←mo];exact hj);simp only [C,j0,if_false,qc0];rw [Yp] at hg;rw [hs] at hg ⊢;simp only [Yp,hs] at hg ⊢;rw [hg,Yo];simp [hj]
end
end Go.Vs
namespace Go.Vs
open Go
def gV{α:Type}(xs:List α)(l h:Int):Option (List α):=if 0<=l/\l<=h/\h<=(xs.length:Int) then some ((xs.take h.toNat).drop l.toNat) else none
structure WO(a:Option Addr)(m c s:Nat)(l h:Int)(a':Option Addr)(m' c':Nat):Prop where
 h0:0<=l
 h1:l<=h
 h2:h<=(m:Int)
 h3:m<=c
 ea:a'=if c=l.toNat then a else a.map (·.add (l.toNat*s))
 em:m'=h.toNat - l.toNat
 ec:c'=c - l.toNat
section
variable{P:Program}{ops:Array Oper}{Q:Exit->Act->World->Prop}{n d:Nat}{ρ:Nat->Value}{σ:St}{u v:Value}{rest:List Oper}
variable{ty T T' E E':TypeId}{pos:String}{af:Array Edge}{x y p q:Operand}{a b l h:Int}{α:Type}[Rp α]{xs ys r:List α}{z:Value}{s bt lo:Nat}{gd:Option (Nat×Bool)}{H:Array Obj}{dst:Option Nat}{ad oa:Option Addr}{m c m' c':Nat}
omit [Rp α] in
theorem me(hg:gV xs l h=some r):0<=l/\l<=h/\h<=(xs.length:Int)/\r=(xs.take h.toNat).drop l.toNat/\r.length=h.toNat - l.toNat:=by
 unfold gV at hg;split at hg
 ·rename_i hc;cases hg;refine ⟨hc.1,hc.2.1,hc.2.2,rfl, ?_⟩;rw [List.length_drop,qaq];omega
 ·cases hg
omit [Rp α] in
theorem P4(hg:gV xs l h=some r)(i:Nat)(hi:i<r.length): ∃hj:l.toNat+i<xs.length,r[i]=xs[l.toNat+i]:=by
 obtain ⟨h0,h1,h2,rfl,h4⟩:=me hg;refine ⟨by omega, ?_⟩;rw [List.getElem_drop,qc9]
theorem Rd.P5{el:Nat}(hR:Rd el σ (Sl ad xs c) xs)(ve:xs.length<=c)(hg:gV xs l h=some r):
  ∃oa c',WO ad xs.length c (Rp.sz α) l h oa r.length c'/\((oa=ad/\c'=c/\xs=[]/\r=[])\/ ∃bl o cp o',ad=some ⟨bl,o,none⟩/\Sl oa r c'= .slice (some ⟨bl,o',none⟩) r.length cp/\cp=c - l.toNat/\
   (o'=o+l.toNat*Rp.sz α\/(o'=o/\r=[]/\cp=0))/\ ∀i,(hi:i<r.length)->At el σ bl (o'+i*Rp.sz α) r[i]):=by
 obtain ⟨h0,h1,h2,h3,h4⟩:=me hg;refine ⟨if c=l.toNat then ad else ad.map (·.add (l.toNat*Rp.sz α)),c - l.toNat,⟨h0,h1,h2,ve,rfl,h4,rfl⟩, ?_⟩;rcases hR with ⟨hv,rfl⟩ | ⟨bl,o,cp,hv,hA⟩
 ·simp only [List.length_nil] at h2;have:l=0:=by omega
  subst this;have hr:r=[]:=qb6 (by omega);subst hr;refine .inl ⟨?_,by simp,rfl,rfl⟩;split
  ·rfl
  ·cases ad with
   | none=>rfl
   | some a=>simp [Addr.add]
 ·cases hv;right;by_cases hc:c=l.toNat
  ·have hr:r=[]:=qb6 (by omega);subst hr;exact ⟨bl,o,c - l.toNat,o,rfl,by simp [hc],rfl, .inr ⟨rfl,rfl,by omega⟩,λi hi=>by simp at hi⟩
  ·refine ⟨bl,o,c - l.toNat,o+l.toNat*Rp.sz α,rfl,by simp [hc,add_plain],rfl, .inl rfl,λi hi=> ?_⟩;obtain ⟨hj,e⟩:=P4 hg i hi;rw [e,Nat.add_assoc, ←Nat.add_mul];exact hA _ hj
theorem RS.cap{el:Nat}(hR:RS el σ (Sl ad xs c) xs):xs.length<=c:=by
 rcases hR with ⟨hv,rfl⟩ | ⟨b2,o2,c2,hv,_,h4,_⟩
 ·simp
 ·cases hv;exact h4
theorem RS.slice{el:Nat}(hR:RS el σ (Sl ad xs c) xs)(hg:gV xs l h=some r): ∃oa c',WO ad xs.length c (Rp.sz α) l h oa r.length c'/\RS el σ (Sl oa r c') r:=by
 obtain ⟨h0,h1,h2,h3,h4⟩:=me hg;have ve:=hR.cap;obtain ⟨oa,c',hs,hx⟩:=hR.rd.P5 ve hg;refine ⟨oa,c',hs, ?_⟩;by_cases hr:r=[]
 ·subst hr;exact .inl ⟨⟨_,_,rfl⟩,rfl⟩
 rcases hx with ⟨_,_,_,hx⟩ | ⟨bl,o,cp,o',rfl,e1,e2,e3,e4⟩
 ·exact absurd hx hr
 ·rcases hR with ⟨_,rfl⟩ | ⟨b2,o2,c2,hv,Yq,_,Yr,_⟩
  ·exact absurd (qb6 (by simp at h2;omega)) hr
  ·cases hv;refine .inr ⟨bl,o',cp,e1,Yq,by omega, ?_,e4⟩;rcases e3 with rfl | ⟨rfl,rfl,_⟩
   ·have:(l.toNat+r.length)*Rp.sz α<=xs.length*Rp.sz α:=qak _ (by omega);rw [Nat.add_mul] at this;omega
   ·exact absurd rfl hr
theorem Ow.cap{el:Nat}(hO:Ow σ lo el (Sl ad xs c) xs):xs.length<=c:=by
 rcases hO with ⟨hv,rfl⟩ | ⟨b2,o2,c2,C,T,hv,_,_,h4,_⟩
 ·simp
 ·cases hv;exact h4
theorem Ow.slice{el:Nat}(hO:Ow σ lo el (Sl ad xs c) xs)(hg:gV xs l h=some r): ∃oa c',WO ad xs.length c (Rp.sz α) l h oa r.length c'/\Ow σ lo el (Sl oa r c') r/\(∀b,blk (Sl oa r c')=some b->blk (Sl ad xs c)=some b):=by
 obtain ⟨h0,h1,h2,h3,h4⟩:=me hg;have ve:=hO.cap;obtain ⟨oa,c',hs,hx⟩:=hO.rd.P5 ve hg;refine ⟨oa,c',hs, ?_, ?_⟩
 ·rcases hx with ⟨rfl,rfl,rfl,rfl⟩ | ⟨bl,o,cp,o',rfl,e1,e2,e3,e4⟩
  ·exact hO
  ·rcases hO with ⟨hv,_⟩ | ⟨b2,o2,c2,C,T0,hv,g2,g3,g4,g5,g6,_⟩
   ·cases hv
   ·cases hv;refine .inr ⟨bl,o',cp,C,T0,e1,g2,g3,by omega, ?_,g6,e4⟩;rcases e3 with rfl | ⟨rfl,rfl,h9⟩
    ·have:(l.toNat+cp)*Rp.sz α<=c*Rp.sz α:=qak _ (by omega);rw [Nat.add_mul] at this;omega
    ·subst h9;simp only [Nat.zero_mul];omega
 ·intro b hb;rcases hx with ⟨rfl,rfl,rfl,rfl⟩ | ⟨bl,o,cp,o',rfl,e1,e2,e3,e4⟩
  ·exact hb
  ·rw [e1] at hb;cases hb;rfl
theorem Dt{pk fU:Option Value}(hT:P.underlying T=some (.slice E))(hi:TI P E z s bt)(hs:WO ad m c s l h oa m' c')
  (hl:pk=some (I l)\/(pk=none/\l=0)) (hh:fU=some (I h)\/(fU=none/\h=m)) (w:World):
  (Instr.sliceAt T (.slice ad m c) pk fU none).run P w= .ok (.slice oa m' c') w:=by
 obtain ⟨h0,h1,h2,h3,rfl,rfl,rfl⟩:=hs;have hh':h<=(c:Int):=by omega
 have Gg:0<=h:=by omega
 have e1:(h.toNat:Int)=h:=Int.toNat_of_nonneg Gg;rcases hl with rfl | ⟨rfl,rfl⟩ <;> rcases hh with rfl | ⟨rfl,rfl⟩ <;>
  simp [Instr.sliceAt,Instr.slice,underlying,hT,Instr.sliceBounds,Instr.sliceBound,asIntOf,h0,Gg,hh',h1,e1,run_typeInfo hi]
theorem JG(hT:P.underlying T=some (.slice E))(hi:TI P E z s bt)(hs:WO ad m c s l m oa m' c')(hx:ev n ρ x= .slice ad m c)(hp:ev n ρ p=I l):
  dX P H n ρ ⟨dst, .slice T x (some p) none none,ty,pos,af,gd⟩ (.slice oa m' c'):=λw _=>by
 simp [execOp,hx,hp,Dt hT hi hs (.inl rfl) (.inr ⟨rfl,rfl⟩)]
theorem lT(hT:P.underlying T=some (.slice E))(hi:TI P E z s bt)(hs:WO ad m c s 0 h oa m' c')(hx:ev n ρ x= .slice ad m c)(hq:ev n ρ q=I h):
  dX P H n ρ ⟨dst, .slice T x none (some q) none,ty,pos,af,gd⟩ (.slice oa m' c'):=λw _=>by
 simp [execOp,hx,hq,Dt hT hi hs (.inr ⟨rfl,rfl⟩) (.inl rfl)]
theorem CC{el:Nat}{e e':α}{bl o o' k:Nat}{vs:List Value}(hi:TI P T z s bt)(hO:Ow σ lo el v xs)(hg:bz xs a=some e)(M5:Ix v a (Rp.sz α) bl o)(hx:ev n ρ x=pt bl o')(ho:o'=o+k)(hy:ev n ρ y=u)
  (hu:u.cells=vs.toArray) (hs:vs.length=s) (hk:k+vs.length<=Rp.sz α) (hp: ∀t∈vs,plain t=true) (hrp: ∀cs,Rp.rp el σ cs e->Rp.rp el σ (EM cs k vs) e')
  : ∃σ':St,P0 P σ.w n ρ ⟨dst, .store T x y,ty,pos,af,gd⟩ σ'.w/\Mod (blk v) σ σ'/\Ow σ' lo el v (xs.set a.toNat e'):=by
 subst ho;obtain ⟨ob,m,c,rfl,h0,h1,rfl⟩:=M5.it;obtain ⟨_,bG,he⟩:=kT hg;rcases hO with ⟨hv,_⟩ | ⟨b2,o2,c2,C,T0,hv,g2,g3,g4,g5,g6,g7⟩
 ·cases hv
 cases hv;have hb:=lt_of_block g3;have Jy:(a.toNat+1)*Rp.sz α<=c*Rp.sz α:=qak _ (by omega);rw [Nat.add_mul] at Jy;have fb:=iX (P:=P) bl (ob+a.toNat*Rp.sz α+k) T0 vs 0 σ.w C g3 (by omega) hp;simp only [qcc] at fb;have hm:=St.wZ (σ:=σ) (o:= .cells (wr C (ob+a.toNat*Rp.sz α+k) vs) T0 (0,0)) g6;refine ⟨σ.put bl (.cells (wr C (ob+a.toNat*Rp.sz α+k) vs) T0 (0,0)), ?_,hm, .inr ⟨bl,ob,c,_,T0,by rw [qaz],g2,World.ue _ hb,by rw [qaz];exact g4,by rw [Lq];exact g5,g6,λi fU=> ?_⟩⟩
 ·simp [P0,execOp,hx,hy,Instr.storeAt,Instr.sureAddr,storeVar,run_typeInfo hi,hu,hs,fb,St.put]
 ·rw [qaz] at fU;by_cases hia:i=a.toNat
  ·subst hia;simp only [List.getElem_set_self];obtain ⟨cs,h3,h4⟩:=he▸g7 _ fU;have hl:=Rp.len h3;have qI:=Rp.len (hrp cs h3);refine ⟨EM cs k vs,Rp.ext hm.ext (hrp cs h3),λj hj=> ?_⟩;have e0:(σ.put bl (.cells (wr C (ob+a.toNat*Rp.sz α+k) vs) T0 (0,0))).cell bl (ob+a.toNat*Rp.sz α+j)=(wr C (ob+a.toNat*Rp.sz α+k) vs)[ob+a.toNat*Rp.sz α+j]? :=by
    show (World.put σ.w bl _).cell? _=_;simp only [World.cell?, World.ue _ hb,qbn,qa6,if_false]
   have e1:(wr cs.toArray k vs)[j]? =some (EM cs k vs)[j]:=by rw [Lr];simp
   rw [e0, ←e1];by_cases hj1:j<k
   ·rw [G1 _ _ _ _ (by omega),G1 _ _ _ _ hj1];have:=h4 j (by omega);have e3:σ.cell bl (ob+a.toNat*Rp.sz α+j)=C[ob+a.toNat*Rp.sz α+j]? :=by
     show σ.w.cell? _=_;simp only [World.cell?, g3,qbn,qa6,if_false]
    rw [←e3,this];simp
   ·by_cases Yc:j<k+vs.length
    ·have e4:=PX vs C (ob+a.toNat*Rp.sz α+k) (j - k) (by omega) (by omega);have e5:=PX vs cs.toArray k (j - k) (by simp;omega) (by omega);rw [show ob+a.toNat*Rp.sz α+j=ob+a.toNat*Rp.sz α+k+(j - k) by omega,e4, ←e5];congr 1;omega
    ·rw [PW _ _ _ _ (by omega),PW _ _ _ _ (by omega)];have:=h4 j (by omega);have e3:σ.cell bl (ob+a.toNat*Rp.sz α+j)=C[ob+a.toNat*Rp.sz α+j]? :=by
      show σ.w.cell? _=_;simp only [World.cell?, g3,qbn,qa6,if_false]
     rw [←e3,this];simp
  ·rw [List.getElem_set_ne (by omega)];have j0: ∀j,j<Rp.sz α->(wr C (ob+a.toNat*Rp.sz α+k) vs)[ob+i*Rp.sz α+j]? =C[ob+i*Rp.sz α+j]? :=by
    intro j hj;by_cases XN:i<a.toNat
    ·have:(i+1)*Rp.sz α<=a.toNat*Rp.sz α:=qak _ XN;rw [Nat.add_mul] at this;exact G1 _ _ _ _ (by omega)
    ·have:(a.toNat+1)*Rp.sz α<=i*Rp.sz α:=qak _ (by omega);rw [Nat.add_mul] at this;exact PW _ _ _ _ (by omega)
   exact (g7 i fU).put g3 g6 j0
theorem Du{k:Nat}{a0:Addr}(hT:P.underlying T=some (.array k E))(hx:ev n ρ x= .slice (some a0) m c)(hm:k<=m):
  dX P H n ρ ⟨dst, .sliceToArrayPointer T x,ty,pos,af,gd⟩ (.pointer (some a0)):=λw _=>by
 have: ¬m<k:=by omega
 simp [execOp,hx,Instr.arrayAt,underlying,hT,this]
theorem RS.arr{el:Nat}{zs:List Int}(hR:RS el σ (Sl ad zs c) zs)(hp:0<zs.length): ∃bl o,ad=some ⟨bl,o,none⟩/\ ∀j,(hj:j<zs.length)->jl σ.w.heap bl (o+j)=some (I zs[j]):=by
 rcases hR with ⟨_,rfl⟩ | ⟨bl,o,c2,hv,_,_,_,hA⟩
 ·simp at hp
 ·cases hv;refine ⟨bl,o,rfl,λj hj=> ?_⟩;have:=(hA j hj).int;simpa [Rp.sz] using this
end
end Go.Vs
namespace Go.Vs
open Go
theorem bind_some{α β:Type}{o:Option α}{f:α->Option β}{r:β}(h:o.bind f=some r): ∃x,o=some x/\f x=some r:=qam.1 h
theorem WH{α:Type}{b:Bool}{x y z:α}(hb:b=true)(h:(bif b then x else y)=z):x=z:=by subst hb;exact h
theorem WI{α:Type}{b:Bool}{x y z:α}(hb:b=false)(h:(bif b then x else y)=z):y=z:=by subst hb;exact h
def bk{α β γ:Type}(f:α->γ)(g:β->γ):α⊕β->γ
 | .inl a=>f a
 | .inr b=>g b
theorem kU{α β γ:Type}{f:α->γ}{g:β->γ}{a:α}{z:γ}(h:bk f g (.inl a)=z):f a=z:=h
theorem kV{α β γ:Type}{f:α->γ}{g:β->γ}{a:β}{z:γ}(h:bk f g (.inr a)=z):g a=z:=h
def M7(a b:Int):Option Int:=if b=0 then none else some (an (a.tdiv b))
def EO(a b:Int):Option Int:=if b=0 then none else some (a.tmod b)
theorem M8{a b r:Int}(h:M7 a b=some r):b≠0/\r=an (a.tdiv b):=by
 unfold M7 at h;split at h
 ·cases h
 ·exact ⟨by assumption,(qaf h).symm⟩
theorem M9{a b r:Int}(h:EO a b=some r):b≠0/\r=a.tmod b:=by
 unfold EO at h;split at h
 ·cases h
 ·exact ⟨by assumption,(qaf h).symm⟩
section
variable{P:Program}{H:Array Obj}{n:Nat}{ρ:Nat->Value}{d:Option Nat}{ty T T':TypeId}{pos:String}{af:Array Edge}{gd:Option (Nat×Bool)}{x y:Operand}{a b r:Int}
theorem T9(h:M7 a b=some r)(hx:ev n ρ x=I a)(hy:ev n ρ y=I b):dX P H n ρ ⟨d, .binOp .quo T x y T',ty,pos,af,gd⟩ (I r):=by
 obtain ⟨h0,rfl⟩:=M8 h;exact Ba hx hy h0
theorem Aq(h:EO a b=some r)(hx:ev n ρ x=I a)(hy:ev n ρ y=I b):dX P H n ρ ⟨d, .binOp .rem T x y T',ty,pos,af,gd⟩ (I r):=by
 obtain ⟨h0,rfl⟩:=M9 h;exact JA hx hy h0
end
def Na{α:Type}(k:Nat)(xs:List α):Option (List α):=if k<=xs.length then some (xs.take k) else none
theorem Dv{α:Type}{k:Nat}{xs r:List α}(h:Na k xs=some r):k<=xs.length/\r=xs.take k:=by
 unfold Na at h;split at h
 ·exact ⟨by assumption,(qaf h).symm⟩
 ·cases h
theorem G4{H:Array Obj}{b o:Nat}{xs:List Int}{k:Nat}(h: ∀j,(hj:j<xs.length)->jl H b (o+j)=some (I xs[j])): ∀j,(hj:j<(List.map I (xs.take k)).length)->jl H b (o+j)=some (List.map I (xs.take k))[j]:=by
 intro j hj;rw [qbr,qaq] at hj;rw [h j (by omega)];simp
theorem P6{xs ys:List Int}{k:Nat}(h1:xs.length=k)(h2:ys.length=k):0+(List.map I xs).length<=(List.map I ys).length:=by simp;omega
def ri{S R:Type}(f:S->Option (S⊕R)):Nat->S->Option R
 | 0,_=>none
 | n+1,s=>(f s).bind (bk (λs'=>ri f n s') (λr=>some r))
theorem vT{S R:Type}(f:S->Option (S⊕R)): ∀(n m:Nat) (s:S) (r:R),n<=m->ri f n s=some r->ri f m s=some r
 | 0,_,_,_,_,h=>by cases h
 | n+1,0,_,_,hm,_=>by omega
 | n+1,m+1,s,r,hm,h=>by
  obtain ⟨o,ho,h⟩:=bind_some h;rw [ri,ho];cases o with
  | inl s'=>exact vT f n m s' r (by omega) h
  | inr t=>exact h
open Classical in
noncomputable def cr{S R:Type}(f:S->Option (S⊕R))(s:S):Option R:=if h: ∃r n,ri f n s=some r then some h.choose else none
theorem Bc{S R:Type}{f:S->Option (S⊕R)}{n:Nat}{s:S}{r:R}(h:ri f n s=some r):cr f s=some r:=by
 have hx: ∃r n,ri f n s=some r:=⟨r,n,h⟩;unfold cr;rw [dif_pos hx];obtain ⟨m,hm⟩:=hx.choose_spec;have h1:=vT f n (max n m) s r (by omega) h;have h2:=vT f m (max n m) s _ (by omega) hm;rw [h1] at h2;exact h2.symm
theorem pq{S R:Type}{f:S->Option (S⊕R)}{s:S}{r:R}(h:cr f s=some r): ∃n,ri f n s=some r:=by
 unfold cr at h;split at h
 ·rename_i hx;obtain ⟨n,hn⟩:=hx.choose_spec;exact ⟨n,(qaf h)▸hn⟩
 ·cases h
theorem bm{S R:Type}(f:S->Option (S⊕R))(s:S):cr f s=(f s).bind (bk (λs'=>cr f s') (λr=>some r)):=by
 cases hf:f s with
 | none=>
  cases h:cr f s with
  | none=>rfl
  | some r=>
   obtain ⟨n,hn⟩:=pq h;cases n with
   | zero=>cases hn
   | succ n=>rw [ri,hf] at hn;cases hn
 | some o=>
  cases o with
  | inr r=>exact Bc (n:=1) (by rw [ri,hf];rfl)
  | inl s'=>
   show _=cr f s';cases h:cr f s' with
   | some r=>
    obtain ⟨n,hn⟩:=pq h;exact Bc (n:=n+1) (by rw [ri,hf];exact hn)
   | none=>
    cases h':cr f s with
    | none=>rfl
    | some r=>
     obtain ⟨n,hn⟩:=pq h';cases n with
     | zero=>cases hn
     | succ n=>
      rw [ri,hf] at hn;have:=Bc (f:=f) (n:=n) (s:=s') (r:=r) hn;rw [h] at this;cases this
theorem Nb{S R:Type}{f:S->Option (S⊕R)}(J:S->Prop)(μ:S->Nat)(Z:R->Prop)(step: ∀s,J s->(∃s',f s=some (.inl s')/\J s'/\μ s'<μ s)\/ ∃r,f s=some (.inr r)/\Z r):
  ∀(s:S),J s-> ∃r,cr f s=some r/\Z r:=by
 have key: ∀k s,μ s=k->J s-> ∃r,cr f s=some r/\Z r:=by
  intro k
  induction k using Nat.strongRecOn with
  | _ k ih=>
   intro s hk hJ;rcases step s hJ with ⟨s',h1,h2,h3⟩ | ⟨r,h1,h2⟩
   ·obtain ⟨r,h4,h5⟩:=ih _ (hk▸h3) s' rfl h2;exact ⟨r,by rw [bm,h1];exact h4,h5⟩
   ·exact ⟨r,by rw [bm,h1];rfl,h2⟩
 exact λs hJ=>key _ s rfl hJ
section
variable{P:Program}{Q:Exit->Act->World->Prop}{a:Act}{w:World}
theorem cj{S R:Type}{c:Code}(f:S->Option (S⊕R)){s0:S}{r:R}(hr:cr f s0=some r)(J:S->Act->World->Prop)(h0:J s0 a w)
  (round: ∀s a w o,J s a w->f s=some o->(∀t,o= .inr t->t=r)->c.wp P (Exit.then (λa' w'=> ∃s',o= .inl s'/\J s' a' w') Q) a w):(Code.loop c).wp P Q a w:=by
 obtain ⟨n,hn⟩:=pq hr;refine wp_loop_ghost (λk a w=> ∃s,ri f k s=some r/\J s a w) n ⟨s0,hn,h0⟩ ?_;rintro k a w ⟨s,hk,hJ⟩;cases k with
 | zero=>cases hk
 | succ k=>
  obtain ⟨o,ho,hk⟩:=bind_some hk;refine wp_mono (round s a w o hJ ho (by rintro t rfl;exact qaf hk)) ?_;intro e a' w' hq;cases e with
  | normal=>
   obtain ⟨s',rfl,M0⟩:=hq;exact ⟨k,Nat.lt_succ_self k,s',hk,M0⟩
  | exit id=>exact hq
  | goto l=>exact hq
  | ret=>exact hq
  | panic ch=>exact hq
  | outgrown=>exact hq
theorem aD{K:Act->World->Prop}(h:K a w):Exit.then K Q .normal a w:=h
theorem aG{K:Act->World->Prop}{i:Nat}(h:Q (.exit i) a w):Exit.then K Q (.exit i) a w:=h
theorem aI{K:Act->World->Prop}(h:Q .ret a w):Exit.then K Q .ret a w:=h
theorem bV{id:Nat}(h:Q .normal a w):Exit.inBlock id Q .normal a w:=h
theorem bH{id:Nat}(h:Q .normal a w):Exit.inBlock id Q (.exit id) a w:=by simp only [Exit.inBlock,if_true];exact h
theorem EP{id i:Nat}(hi:i≠id)(h:Q (.exit i) a w):Exit.inBlock id Q (.exit i) a w:=by simp only [Exit.inBlock,hi,if_false];exact h
theorem dK{id:Nat}(h:Q .ret a w):Exit.inBlock id Q .ret a w:=h
theorem bU{id:Nat}{c:Code}(h:c.wp P (Exit.inBlock id Q) a w):(Code.block id c).wp P Q a w:=wp_block h
theorem dC{x y:Code}(h:x.wp P (Exit.then (y.wp P Q) Q) a w):(Code.seq x y).wp P Q a w:=wp_seq h
theorem eG(h:Q .normal a w):Code.skip.wp P Q a w:=wp_skip h
theorem PC(h:Q .ret a w):Code.ret.wp P Q a w:=wp_ret h
theorem dQ{i:Nat}(h:Q (.exit i) a w):(Code.exit i).wp P Q a w:=wp_exit h
theorem bW{c:Code}(J:Exit->Act->World->Prop)(h:c.wp P J a w)(k: ∀e a w,J e a w->Q e a w):c.wp P Q a w:=wp_mono h k
theorem bo{ops:Array Oper}(h:Q .normal a w):wpList P ops Q [] a w:=h
end
end Go.Vs
namespace Go.Vs
open Go
def cu(ρ:Nat->Value):List (Nat×Value)->Nat->Value
 | [],t=>ρ t
 | (d,v)::r,t=>bif Nat.beq t d then v else cu ρ r t
def agree(ρ:Nat->Value):List (Nat×Value)->Prop
 | []=>True
 | (d,v)::r=>ρ d=v/\agree ρ r
theorem Dx{ρ:Nat->Value}: ∀{l:List (Nat×Value)},agree ρ l->cu ρ l=ρ
 | [],_=>rfl
 | (d,v)::r,⟨h1,h2⟩=>by
  funext t;rw [cu,Dx h2];by_cases h:t=d
  ·subst h;rw [Lm];exact h1.symm
  ·rw [sV h];rfl
theorem sr{n:Nat}{ρ:Nat->Value}{l:List (Nat×Value)}(h:agree ρ l):fr n ρ=fr n (cu ρ l):=by rw [Dx h]
theorem Ow.aeM{el:Nat}{α:Type}[Rp α]{σ:St}{lo:Nat}{v:Value}{xs:List α}(h:Ow σ lo el v xs)(Yq:el<=lo): ∃σ':St,σ'.w=σ.w/\Mod (blk v) σ σ'/\RS el σ' v xs:=by
 have hl:=h.lt;rcases h with ⟨rfl,rfl⟩ | ⟨b,o,c,C,T,rfl,h2,h3,h4,h5,h6,h7⟩
 ·exact ⟨σ,rfl,Mod.refl _ _,RS.nil⟩
 ·have hb:=hl b rfl;refine ⟨σ.PG b (o+xs.length*Rp.sz α) hb,rfl,⟨rfl,rfl,rfl,qa3 _,rfl,St.EL hb,⟨λ_ _ _=>rfl,λi _ j0=> ?_⟩⟩, .inr ⟨b,o,c,rfl,qaa Yq h2,h4, ?_,λi hi=>(h7 i hi).same (St.EL hb) rfl⟩⟩
  ·show (if i=b then _ else _)=_;rw [if_neg (by intro e;subst e;exact j0 rfl)]
  ·show _<=(if b=b then _ else _);rw [if_pos rfl];omega
theorem Ow.aeN{el CE:Nat}{α:Type}[Rp α]{σ:St}{lo:Nat}{v:Value}{xs:List α}(h:Ow σ lo el v xs)(hl:CE<=el):Ow σ lo CE v xs:=by
 rcases h with h | ⟨b,o,c,C,T,h1,h2,h3,h4,h5,h6,h7⟩
 ·exact .inl h
 ·exact .inr ⟨b,o,c,C,T,h1,h2,h3,h4,h5,h6,λi hi=>(h7 i hi).low hl⟩
class Sc(α:Type)[Rp α]:Prop where
 sc: ∀{lo pk:Nat} {σ:St} {cs:List Value} {x:α},Rp.rp lo σ cs x->Rp.rp pk σ cs x
instance:Sc Int:=⟨λh=>h⟩
instance{α β:Type}[Rp α][Rp β][Sc α][Sc β]:Sc (α×β):=⟨by rintro _ _ _ _ _ ⟨c1,c2,rfl,h1,h2⟩;exact ⟨c1,c2,rfl,Sc.sc h1,Sc.sc h2⟩⟩
theorem At.sc{α:Type}[Rp α][Sc α]{lo pk:Nat}{σ:St}{b o:Nat}{x:α}(h:At lo σ b o x):At pk σ b o x:=by
 obtain ⟨cs,h1,h2⟩:=h;exact ⟨cs,Sc.sc h1,h2⟩
theorem Ow.sc{α:Type}[Rp α][Sc α]{el CE:Nat}{σ:St}{lo:Nat}{v:Value}{xs:List α}(h:Ow σ lo el v xs):Ow σ lo CE v xs:=by
 rcases h with h | ⟨b,o,c,C,T,h1,h2,h3,h4,h5,h6,h7⟩
 ·exact .inl h
 ·exact .inr ⟨b,o,c,C,T,h1,h2,h3,h4,h5,h6,λi hi=>(h7 i hi).sc⟩
theorem Rd.sc{α:Type}[Rp α][Sc α]{el CE:Nat}{σ:St}{v:Value}{xs:List α}(h:Rd el σ v xs):Rd CE σ v xs:=by
 rcases h with h | ⟨b,o,c,h1,h7⟩
 ·exact .inl h
 ·exact .inr ⟨b,o,c,h1,λi hi=>(h7 i hi).sc⟩
theorem Rd.at{el:Nat}{α:Type}[Rp α]{σ:St}{v:Value}{xs:List α}{a:Int}{e:α}{b o:Nat}(h:Rd el σ v xs)(hg:bz xs a=some e)(hi:Ix v a (Rp.sz α) b o):At el σ b o e:=by
 obtain ⟨h0,h1,h2⟩:=kT hg;obtain ⟨ob,m,c,rfl,g0,g1,rfl⟩:=hi.it;rcases h with ⟨_,rfl⟩ | ⟨b,o,c,hv,hc⟩
 ·simp at h1
 ·cases hv;exact h2▸hc _ h1
theorem RS.at{el:Nat}{α:Type}[Rp α]{σ:St}{v:Value}{xs:List α}{a:Int}{e:α}{b o:Nat}(h:RS el σ v xs)(hg:bz xs a=some e)(hi:Ix v a (Rp.sz α) b o):At el σ b o e:=h.rd.at hg hi
theorem Ow.at{el:Nat}{α:Type}[Rp α]{σ:St}{lo:Nat}{v:Value}{xs:List α}{a:Int}{e:α}{b o:Nat}(h:Ow σ lo el v xs)(hg:bz xs a=some e)(hi:Ix v a (Rp.sz α) b o):At el σ b o e:=h.rd.at hg hi
theorem uP{α:Type}{xs:List α}{a:Int}{e:α}{m:Nat}(h:bz xs a=some e)(hm:xs.length=m):0<=a/\a.toNat<m:=by
 obtain ⟨h0,h1,_⟩:=kT h;exact ⟨h0,hm▸h1⟩
theorem Ua(xs:List Int)(k:Nat)(v:Int):EM (xs.map I) (0+k*1) [I v]=(xs.set k v).map I:=by
 simp [EM,List.map_set]
theorem Ub(vs:List Value): ∀(cs pre:List Value),cs.length=vs.length->EM (pre++cs) pre.length vs=pre++vs:=by
 induction vs with
 | nil=>intro cs pre h;have:cs=[]:=qb6 h;subst this;rfl
 | cons v r ih=>
  intro cs pre h;cases cs with
  | nil=>simp at h
  | cons c cs=>
   rw [EM];have e:(pre++c::cs).set pre.length v=(pre++[v])++cs:=by simp
   have:=ih cs (pre++[v]) (by simpa using h);rw [e,show pre.length+1=(pre++[v]).length by simp,this];simp
theorem Uc{xs ys:List Int}{k:Nat}(h1:xs.length=k)(h2:ys.length=k):EM (List.map I ys) 0 (List.map I xs)=List.map I xs:=by
 have:=Ub (List.map I xs) (List.map I ys) [] (by simp;omega);simpa using this
theorem Ud{xs:List Int}{k m:Nat}{v:Int}(h:xs.length=m):(xs.set k v).length=m:=by rw [qaz];exact h
end Go.Vs
namespace Go.Vs
open Go
abbrev BS:=Nat->Prop
structure Md(S:BS)(σ σ':St):Prop where
 os:σ'.w.os=σ.w.os
 tape:σ.dR\/σ'.w.tape=σ.w.tape
 output:σ'.w.output=σ.w.output
 dr:σ.dR\/σ.w.drawn<=σ'.w.drawn
 dR:σ'.dR=σ.dR
 ext:Ext σ σ'
 block: ∀b,b<σ.size-> ¬S b->σ'.w.heap[b]? =σ.w.heap[b]?
 fV: ∀b,b<σ.size-> ¬S b->σ'.fV b=σ.fV b
theorem Mod.md{S:Option Nat}{σ σ':St}(m:Mod S σ σ'):Md (λb=>S=Option.some b) σ σ':=
 ⟨m.os, .inr m.tape,m.output, .inr m.dr,m.dR,m.ext,λb h hn=>m.WM.block b h hn,λb h hn=>m.WM.fV b h hn⟩
theorem Md.refl(S:BS)(σ:St):Md S σ σ:=⟨rfl, .inr rfl,rfl, .inr (qa3 _),rfl,Ext.refl _,λ_ _ _=>rfl,λ_ _ _=>rfl⟩
theorem Md.size{S:BS}{σ σ':St}(h:Md S σ σ'):σ.size<=σ'.size:=h.ext.size
theorem Md.step{S S':BS}{a b c:St}(h:Md S a b)(k:Md S' b c)(hs: ∀i,i<a.size->S' i->S i):Md S a c:=
 ⟨k.os.trans h.os,(h.tape.elim .inl λh1=>k.tape.elim (λh2=> .inl (h.dR▸h2)) λh2=> .inr (h2.trans h1)),k.output.trans h.output,(h.dr.elim .inl λh1=>k.dr.elim (λh2=> .inl (h.dR▸h2)) λh2=> .inr (qaa h1 h2)),k.dR.trans h.dR,h.ext.trans k.ext,
  λi hi hn=>(k.block i (qa2 hi h.size) (λe=>hn (hs i hi e))).trans (h.block i hi hn),
  λi hi hn=>(k.fV i (qa2 hi h.size) (λe=>hn (hs i hi e))).trans (h.fV i hi hn)⟩
theorem Md.mono{S S':BS}{a b:St}(h:Md S a b)(hs: ∀i,S i->S' i):Md S' a b:=
 ⟨h.os,h.tape,h.output,h.dr,h.dR,h.ext,λi hi hn=>h.block i hi (λe=>hn (hs i e)),λi hi hn=>h.fV i hi (λe=>hn (hs i e))⟩
structure Ch where
 dup:Bool
 fp:BS
 as:St->Prop
 G5:dup=true-> ∀b, ¬fp b
 bG: ∀{σ:St},as σ-> ∀b,fp b->b<σ.size
 fb: ∀{S:BS} {σ σ':St},Md S σ σ'->(∀b,fp b-> ¬S b)->as σ->as σ'
section
variable{α:Type}[Rp α]
def Ch.ro(el:Nat)(v:Value)(xs:List α):Ch where
 dup:=true
 fp _:=False
 as σ:=RS el σ v xs
 G5 _ _:=id
 bG _ _ h:=h.elim
 fb m _ h:=h.ext m.ext
theorem Ow.md{el:Nat}{σ σ':St}{lo:Nat}{v:Value}{xs:List α}{S:BS}(h:Ow σ lo el v xs)(m:Md S σ σ')(hd: ∀b,blk v=some b-> ¬S b):Ow σ' lo el v xs:=by
 rcases h with h | ⟨b,o,c,C,T,rfl,h2,h3,h4,h5,h6,h7⟩
 ·exact .inl h
 ·have hb:b<σ.size:=lt_of_block h3;have hS:=hd b rfl;have e1:=m.block b hb hS;exact .inr ⟨b,o,c,C,T,rfl,h2,e1.trans h3,h4,h5,(m.fV b hb hS).trans h6,λi hi=>(h7 i hi).same m.ext e1⟩
def Ch.own(lo el:Nat)(v:Value)(xs:List α):Ch where
 dup:=false
 fp b:=blk v=some b
 as σ:=Ow σ lo el v xs
 G5 h:=by cases h
 bG h b e:=h.lt b e
 fb m hd h:=h.md m hd
end
def Ch.bx(lo b o:Nat)(cs pre ug:List Value):Ch where
 dup:=false
 fp i:=i=b
 as σ:=Bx σ b (pre++(cs++ug))/\pre.length=o/\lo<=b
 G5 h:=by cases h
 bG h i e:=by subst e;exact h.1.lt
 fb m hd h:=by
  obtain ⟨⟨T,h1,h2⟩,h3⟩:=h;have hb:=lt_of_block h1;have hS:=hd b rfl;exact ⟨⟨T,(m.block b hb hS).trans h1,(m.fV b hb hS).trans h2⟩,h3⟩
def dD:List Ch->BS
 | [],_=>False
 | c::l,b=>c.fp b\/dD l b
def iQ(σ:St):List Ch->Prop
 | []=>True
 | c::l=>c.as σ/\iQ σ l
def apart:List Ch->Prop
 | []=>True
 | c::l=>(∀b,c.fp b-> ¬dD l b)/\apart l
theorem bI{A R:List Ch}{b:Nat}:dD (A++R) b↔dD A b\/dD R b:=by
 induction A with
 | nil=>simp [dD]
 | cons c l ih=>simp only [qbp,dD,ih,or_assoc]
theorem dY{σ:St}{A R:List Ch}:iQ σ (A++R)↔iQ σ A/\iQ σ R:=by
 induction A with
 | nil=>simp [iQ]
 | cons c l ih=>simp only [qbp,iQ,ih,and_assoc]
theorem eL{A R:List Ch}:apart (A++R)↔apart A/\apart R/\ ∀b,dD A b-> ¬dD R b:=by
 induction A with
 | nil=>simp [apart,dD]
 | cons c l ih=>
  simp only [qbp,apart,dD,ih,bI]
  constructor
  ·rintro ⟨h1,h2,h3,h4⟩;exact ⟨⟨λb hb h=>h1 b hb (.inl h),h2⟩,h3,λb hb h=>hb.elim (λhb=>h1 b hb (.inr h)) (λhb=>h4 b hb h)⟩
  ·rintro ⟨⟨h1,h2⟩,h3,h4⟩;exact ⟨λb hb h=>h.elim (h1 b hb) (h4 b (.inl hb)),h2,h3,λb hb=>h4 b (.inr hb)⟩
theorem lD{σ:St}{L:List Ch}(h:iQ σ L): ∀b,dD L b->b<σ.size:=by
 induction L with
 | nil=>intro b hb;exact hb.elim
 | cons c l ih=>intro b hb;exact hb.elim (c.bG h.1 b) (ih h.2 b)
theorem iz{σ σ':St}{S:BS}{L:List Ch}(h:iQ σ L)(m:Md S σ σ')(hd: ∀b,dD L b-> ¬S b):iQ σ' L:=by
 induction L with
 | nil=>trivial
 | cons c l ih=>exact ⟨c.fb m (λb hb=>hd b (.inl hb)) h.1,ih h.2 (λb hb=>hd b (.inr hb))⟩
structure Hp(S0:BS)(ar σ:St)(L:List Ch):Prop where
 md:Md S0 ar σ
 all:iQ σ L
 ap:apart L
 Cr: ∀b,dD L b->b<ar.size->S0 b
section
variable{S0:BS}{ar σ σ':St}{L A A' R:List Ch}{c d:Ch}
theorem Hp.size(H:Hp S0 ar σ L):ar.size<=σ.size:=H.md.size
theorem Hp.frame(H:Hp S0 ar σ (A++R))(H':Hp (dD A) σ σ' A'):Hp S0 ar σ' (A'++R):=by
 obtain ⟨ha,hr⟩:=dY.1 H.all;obtain ⟨h1,h2,h3⟩:=eL.1 H.ap;refine ⟨H.md.step H'.md (λi hi h=>H.Cr i (bI.2 (.inl h)) hi),dY.2 ⟨H'.all,iz hr H'.md (λb hb h=>h3 b h hb)⟩,eL.2 ⟨H'.ap,h2,λb hb fT=> ?_⟩,λb hb bG=> ?_⟩
 ·have bG:=lD hr b fT;exact h3 b (H'.Cr b hb bG) fT
 ·rcases bI.1 hb with hb | hb
  ·have hs:b<σ.size:=qa2 bG H.md.size;exact H.Cr b (bI.2 (.inl (H'.Cr b hb hs))) bG
  ·exact H.Cr b (bI.2 (.inr hb)) bG
theorem Hp.Bd(H:Hp S0 ar σ (c::R))(H':Hp (dD [c]) σ σ' A'):Hp S0 ar σ' (A'++R):=Hp.frame (A:=[c]) H H'
theorem Hp.ER(H:Hp S0 ar σ R)(H':Hp (dD []) σ σ' A'):Hp S0 ar σ' (A'++R):=Hp.frame (A:=[]) H H'
theorem Hp.begin{σ:St}(ha:iQ σ L)(hp:apart L):Hp (dD L) σ σ L:=⟨Md.refl _ _,ha,hp,λ_ h _=>h⟩
theorem Hp.one(m:Md S0 σ σ')(h:c.as σ')(hf: ∀b,c.fp b->b<σ.size->S0 b):Hp S0 σ σ' [c]:=
 ⟨m,⟨h,trivial⟩,⟨λ_ _ h=>h,trivial⟩,λb hb=>hb.elim (hf b) (λh=>h.elim)⟩
theorem Hp.tail(H:Hp S0 ar σ (c::R)):Hp S0 ar σ R:=⟨H.md,H.all.2,H.ap.2,λb hb=>H.Cr b (.inr hb)⟩
theorem Hp.head(H:Hp S0 ar σ (c::R)):c.as σ:=H.all.1
theorem Hp.nb(H:Hp S0 ar σ (c::R))(h:c.as σ->d.as σ)(hf: ∀b,d.fp b->c.fp b):Hp S0 ar σ (d::R):=
 ⟨H.md,⟨h H.all.1,H.all.2⟩,⟨λb hb=>H.ap.1 b (hf b hb),H.ap.2⟩,λb hb=>H.Cr b (hb.imp (hf b) id)⟩
theorem Hp.add(H:Hp S0 ar σ R)(h:d.as σ)(hf: ∀b, ¬d.fp b):Hp S0 ar σ (d::R):=
 ⟨H.md,⟨h,H.all⟩,⟨λb hb=>(hf b hb).elim,H.ap⟩,λb hb=>hb.elim (λhb=>(hf b hb).elim) (H.Cr b)⟩
theorem Hp.grow(H:Hp S0 ar σ L)(m:Md (λ_=>False) σ σ'):Hp S0 ar σ' L:=
 ⟨H.md.step m (λ_ _ h=>h.elim),iz H.all m (λ_ _ h=>h),H.ap,H.Cr⟩
def nth:List Ch->Nat->Option Ch
 | [],_=>none
 | c::_,0=>some c
 | _::l,n+1=>nth l n
def pick:List Ch->Nat->Option (Ch×List Ch)
 | [],_=>none
 | c::l,0=>some (c,l)
 | c::l,n+1=>match pick l n with
  | some (d,r)=>some (d,c::r)
  | none=>none
theorem Be: ∀{L:List Ch} {i:Nat} {c:Ch} {R:List Ch},pick L i=some (c,R)-> ∀b,dD L b↔c.fp b\/dD R b
 | [],_,_,_,h=>by cases h
 | c::l,0,_,_,h=>by cases h;intro b;rfl
 | c::l,n+1,d,R,h=>by
  intro b;simp only [pick] at h;split at h
  ·rename_i d' r hp;cases h;have:=Be hp b;simp only [dD,this]
   constructor
   ·rintro (h | h | h)
    ·exact .inr (.inl h)
    ·exact .inl h
    ·exact .inr (.inr h)
   ·rintro (h | h | h)
    ·exact .inr (.inl h)
    ·exact .inl h
    ·exact .inr (.inr h)
  ·cases h
theorem G6{σ:St}: ∀{L:List Ch} {i:Nat} {c:Ch} {R:List Ch},pick L i=some (c,R)->iQ σ L->c.as σ/\iQ σ R
 | [],_,_,_,h=>by cases h
 | c::l,0,_,_,h=>by cases h;exact id
 | c::l,n+1,d,R,h=>by
  simp only [pick] at h;split at h
  ·rename_i d' r hp;cases h;rintro ⟨h1,h2⟩;have:=G6 hp h2;exact ⟨this.1,h1,this.2⟩
  ·cases h
theorem Bf: ∀{L:List Ch} {i:Nat} {c:Ch} {R:List Ch},pick L i=some (c,R)->apart L->apart (c::R)
 | [],_,_,_,h=>by cases h
 | c::l,0,_,_,h=>by cases h;exact id
 | c::l,n+1,d,R,h=>by
  simp only [pick] at h;split at h
  ·rename_i d' r hp;cases h;rintro ⟨h1,h2⟩;have h3:=Bf hp h2;have h4:=Be hp;refine ⟨λb hb=> ?_,λb hb=> ?_,h3.2⟩
   ·rintro (h | h)
    ·exact h1 b h ((h4 b).2 (.inl hb))
    ·exact h3.1 b hb h
   ·exact λh=>h1 b hb ((h4 b).2 (.inr h))
  ·cases h
theorem Hp.front(H:Hp S0 ar σ L){i:Nat}(h:pick L i=some (c,R)):Hp S0 ar σ (c::R):=
 ⟨H.md,G6 h H.all,Bf h H.ap,λb hb=>H.Cr b ((Be h b).2 hb)⟩
theorem ES{σ:St}: ∀{L:List Ch} {i:Nat} {c:Ch},nth L i=some c->iQ σ L->c.as σ
 | [],_,_,h,_=>by cases h
 | _::_,0,_,h,ha=>by cases h;exact ha.1
 | _::l,n+1,_,h,ha=>ES (L:=l) (i:=n) h ha.2
theorem Hp.get(H:Hp S0 ar σ L){i:Nat}(h:nth L i=some c):c.as σ:=ES h H.all
def Bg(L:List Ch):List Nat->List Ch
 | []=>[]
 | k::ks=>match nth L k with
  | some c=>c::Bg L ks
  | none=>Bg L ks
def Nc(L:List Ch):List Nat->Bool
 | []=>true
 | k::ks=>(match nth L k with
  | some c=>c.dup || ks.all (λj=> !Nat.beq j k)
  | none=>false)&&Nc L ks
theorem As{L:List Ch}: ∀{ks:List Nat} {b:Nat},dD (Bg L ks) b-> ∃k∈ks, ∃c,nth L k=some c/\c.fp b
 | [],b,h=>h.elim
 | k::ks,b,h=>by
  simp only [Bg] at h;split at h
  ·rename_i c hc;rcases h with h | h
   ·exact ⟨k,by simp,c,hc,h⟩
   ·obtain ⟨j,hj,d,hd,h⟩:=As h;exact ⟨j,by simp [hj],d,hd,h⟩
  ·obtain ⟨j,hj,d,hd,h⟩:=As h;exact ⟨j,by simp [hj],d,hd,h⟩
theorem Au: ∀{L:List Ch} {k:Nat} {c:Ch} {b:Nat},nth L k=some c->c.fp b->dD L b
 | [],_,_,_,h,_=>by cases h
 | _::_,0,_,_,h,hb=>by cases h;exact .inl hb
 | _::l,n+1,_,_,h,hb=> .inr (Au (L:=l) (k:=n) h hb)
theorem Dy: ∀{L:List Ch} {i j:Nat} {c d:Ch} {b:Nat},apart L->i≠j->nth L i=some c->nth L j=some d->c.fp b-> ¬d.fp b
 | [],_,_,_,_,_,_,_,h,_,_=>by cases h
 | _::_,0,0,_,_,_,_,j0,_,_,_=>absurd rfl j0
 | e::l,0,j+1,_,_,b,ha,_,h1,h2,hb=>by cases h1;exact λh=>ha.1 b hb (Au (L:=l) (k:=j) h2 h)
 | e::l,i+1,0,_,_,b,ha,_,h1,h2,hb=>by cases h2;exact λh=>ha.1 b h (Au (L:=l) (k:=i) h1 hb)
 | e::l,i+1,j+1,c,d,b,ha,j0,h1,h2,hb=>Dy (L:=l) (i:=i) (j:=j) ha.2 (λe=>j0 (by rw [e])) h1 h2 hb
theorem ET{σ:St}{L:List Ch}(H: ∀k c,nth L k=some c->c.as σ): ∀ks:List Nat,iQ σ (Bg L ks)
 | []=>trivial
 | k::ks=>by
  simp only [Bg];split
  ·rename_i c hc;exact ⟨H k c hc,ET H ks⟩
  ·exact ET H ks
theorem yy{L:List Ch}(ha:apart L): ∀{ks:List Nat},Nc L ks=true->apart (Bg L ks)
 | [],_=>trivial
 | k::ks,h=>by
  simp only [Nc,qa4] at h;obtain ⟨h1,h2⟩:=h;simp only [Bg];split
  ·rename_i c hc;rw [hc] at h1;refine ⟨λb hb hcv=> ?_,yy ha h2⟩;simp only [qbz] at h1;rcases h1 with h1 | h1
   ·exact c.G5 h1 b hb
   ·obtain ⟨j,hj,d,hd,hdb⟩:=As hcv;have:=qab.1 h1 j hj;have j0:j≠k:=by rintro rfl;simp [Nat.beq_refl] at this
    exact Dy ha (qbo j0) hc hd hb hdb
  ·exact yy ha h2
theorem Hp.sel(H:Hp S0 ar σ L)(ks:List Nat)(h:Nc L ks=true):Hp S0 ar σ (Bg L ks):=
 ⟨H.md,ET (λ_ _ hk=>H.get hk) ks,yy H.ap h,λb hb=>by
  obtain ⟨k,_,c,hc,hb⟩:=As hb;exact H.Cr b (Au hc hb)⟩
theorem Hp.Ys(H:Hp S0 ar σ L)(ks:List Nat){L':List Ch}(h:Nc L ks=true)(e:Bg L ks=L'):Hp S0 ar σ L':=e▸H.sel ks h
end
section
variable{S0:BS}{ar σ σ':St}{L R:List Ch}{α:Type}[Rp α]{el lo:Nat}{v:Value}{xs:List α}{i b o:Nat}{cs pre ug:List Value}
theorem Hp.ro(H:Hp S0 ar σ L)(i:Nat)(h:nth L i=some (Ch.ro el v xs)):RS el σ v xs:=H.get h
theorem Hp.bx(H:Hp S0 ar σ L)(i:Nat)(h:nth L i=some (Ch.bx lo b o cs pre ug)):Bx σ b (pre++(cs++ug))/\pre.length=o/\lo<=b:=H.get h
theorem P7{k:Nat}{u:Value}(h:Bx σ b (pre++(cs++ug))/\pre.length=o/\lo<=b)(hu:cs[k]? =some u):jl σ.w.heap b (o+k)=some u:=by
 obtain ⟨⟨T,h1,_⟩,h2,_⟩:=h;have hk:=(qbf.1 hu).1;unfold jl;rw [h1];simp only [qau];rw [qbt (by omega),qbg (by omega), ←hu];congr 1;omega
theorem Hp.cell(H:Hp S0 ar σ L)(i k:Nat){u:Value}{o':Nat}(h:nth L i=some (Ch.bx lo b o cs pre ug))(hu:cs[k]? =some u)(ho:o'=o+k):jl σ.w.heap b o'=some u:=by
 subst ho;exact P7 (H.bx i h) hu
theorem Hp.cells(H:Hp S0 ar σ L)(i:Nat)(h:nth L i=some (Ch.bx lo b o cs pre ug)): ∀j,(hj:j<cs.length)->jl σ.w.heap b (o+j)=some cs[j]:=
 λj hj=>P7 (H.bx i h) (qb3 hj)
theorem Hp.PG(H:Hp S0 ar σ L)(i:Nat)(h:pick L i=some (Ch.own lo el v xs,R))(Yq:el<=lo): ∃σ':St,σ'.w=σ.w/\Hp S0 ar σ' (Ch.ro el v xs::R)/\Md (λb=>blk v=Option.some b) σ σ':=by
 have H1:=H.front h;obtain ⟨σ',hw,m,hR⟩:=Ow.aeM (H1.head:Ow σ lo el v xs) Yq;refine ⟨σ',hw,Hp.Bd (A':=[Ch.ro el v xs]) H1 (Hp.one (m.md.mono λb hb=> .inl hb) hR (λb hb=>hb.elim)),m.md⟩
theorem Hp.iY(H:Hp S0 ar σ L)(i CE:Nat)(h:nth L i=some (Ch.ro el v xs))(hl:CE<=el):Hp S0 ar σ (Ch.ro CE v xs::L):=
 H.add (d:=Ch.ro CE v xs) ((H.ro i h).low hl) (λ_ h=>h)
theorem Hp.yz(H:Hp S0 ar σ L)(i pk CE:Nat)(h:pick L i=some (Ch.own lo el v xs,R))(h1:pk<=lo)(h2:CE<=el):Hp S0 ar σ (Ch.own pk CE v xs::R):=
 (H.front h).nb (d:=Ch.own pk CE v xs) (λh:Ow σ lo el v xs=>(h.lo h1).aeN h2) (λ_ h=>h)
theorem Hp.Dz [Sc α](H:Hp S0 ar σ L)(i pk CE:Nat)(h:pick L i=some (Ch.own lo el v xs,R))(h1:pk<=lo):Hp S0 ar σ (Ch.own pk CE v xs::R):=
 (H.front h).nb (d:=Ch.own pk CE v xs) (λh:Ow σ lo el v xs=>(h.lo h1).sc) (λ_ h=>h)
theorem Hp.lU(H:Hp S0 ar σ L)(α:Type)[Rp α](lo el:Nat):Hp S0 ar σ (Ch.own lo el (.slice none 0 0) ([]:List α)::L):=H.add (d:=Ch.own lo el _ _) Ow.nil (λ_ h=>by cases h)
theorem Hp.fresh(m:Mod none σ σ')(c:Ch)(h:c.as σ')(hf: ∀b,c.fp b->σ.size<=b):Hp (dD []) σ σ' [c]:=
 Hp.one (m.md.mono λb hb=>by cases hb) h (λb hb bG=>absurd bG (qce.2 (hf b hb)))
theorem Hp.focus{c1 c2 c3:List Value}(H:Hp S0 ar σ L)(i:Nat)(h:pick L i=some (Ch.bx lo b o (c1++(c2++c3)) pre ug,R)){o':Nat}(ho:o'=o+c1.length):
  Hp S0 ar σ (Ch.bx lo b o' c2 (pre++c1) (c3++ug)::R):=
 (H.front h).nb (d:=Ch.bx lo b o' c2 (pre++c1) (c3++ug)) (λ⟨h1,h2,h3⟩=>⟨by simpa [List.append_assoc] using h1,by subst ho;simp [h2],h3⟩) (λ_ h=>h)
theorem Hp.Ls{c1 c2 c3:List Value}{o':Nat}(H:Hp S0 ar σ L)(i:Nat)(h:pick L i=some (Ch.bx lo b o' c2 (pre++c1) (c3++ug),R))(ho:o'=o+c1.length):
  Hp S0 ar σ (Ch.bx lo b o (c1++(c2++c3)) pre ug::R):=
 (H.front h).nb (d:=Ch.bx lo b o (c1++(c2++c3)) pre ug) (λ⟨h1,h2,h3⟩=>⟨by simpa [List.append_assoc] using h1,by subst ho;simp at h2;omega,h3⟩) (λ_ h=>h)
end
end Go.Vs
namespace Go.Vs
open Go
section
variable{P:Program}{ops:Array Oper}{Q:Exit->Act->World->Prop}{n d:Nat}{ρ:Nat->Value}{ar σ:St}{S0:BS}{L R:List Ch}{u v:Value}{rest:List Oper}{dst:Option Nat}
variable{ty T T' E E':TypeId}{pos:String}{af:Array Edge}{x y:Operand}{a:Int}{α:Type}[Rp α]{xs ys:List α}{z:Value}{s bt lo el:Nat}{gd:Option (Nat×Bool)}{op:Op}{Rz:Value->St->Prop}{Rs:St->Prop}
abbrev Ex(P:Program)(σ:St)(n:Nat)(ρ:Nat->Value)(o:Oper)(Rz:Value->St->Prop):Prop:= ∃v σ',CB P σ.w n ρ o v σ'.w/\Rz v σ'
abbrev ExS(P:Program)(σ:St)(n:Nat)(ρ:Nat->Value)(o:Oper)(Rs:St->Prop):Prop:= ∃σ',P0 P σ.w n ρ o σ'.w/\Rs σ'
theorem bF(he:Ex P σ n ρ ⟨some d,op,ty,pos,af,gd⟩ Rz)(hw:Region.wanted ⟨some d,op,ty,pos,af,gd⟩ (yv ops n ρ)=true)
  (k: ∀v (σ':St),Rz v σ'->wpList P ops Q rest (fr n (upd ρ d v)) σ'.w):wpList P ops Q (⟨some d,op,ty,pos,af,gd⟩::rest) (fr n ρ) σ.w:=by
 obtain ⟨v,σ',hr,h⟩:=he;exact aeK hw hr (k v σ' h)
theorem fI(he:ExS P σ n ρ ⟨none,op,ty,pos,af,gd⟩ Rs)(hw:Region.wanted ⟨none,op,ty,pos,af,gd⟩ (yv ops n ρ)=true)
  (k: ∀(σ':St),Rs σ'->wpList P ops Q rest (fr n ρ) σ'.w):wpList P ops Q (⟨none,op,ty,pos,af,gd⟩::rest) (fr n ρ) σ.w:=by
 obtain ⟨σ',hr,h⟩:=he;exact aeL hw hr (k σ' h)
theorem Mod.md0{σ σ':St}(m:Mod Option.none σ σ'):Md (dD []) σ σ':=m.md.mono λb hb=>by cases hb
theorem Lt(H:Hp S0 ar σ L)(qJ:lo<=ar.size)(T:TypeId)(cs:List Value):Hp S0 ar (σ.new (.cells cs.toArray T (0,0)) 0) (Ch.bx lo σ.size 0 cs [] []::L):=
 Hp.ER (A':=[Ch.bx lo σ.size 0 cs [] []]) H (Hp.fresh (St.lQ _ _ _) _ ⟨⟨T,by simpa using St.sh _ _ _,St.si _ _ _⟩,rfl,qaa qJ H.size⟩ (λb hb=>qav (Eq.symm hb)))
theorem fY{cs:List Value}(H:Hp S0 ar σ L)(qJ:lo<=ar.size)(hx:ev n ρ x=v)(hv:v.cells=cs.toArray):
  Ex P σ n ρ ⟨dst, .box T x,ty,pos,af,gd⟩ λv σ'=> ∃b,v=pt b 0/\Hp S0 ar σ' (Ch.bx lo b 0 cs [] []::L)/\Md (dD []) σ σ':=by
 refine ⟨_,σ.new (.cells cs.toArray T (0,0)) 0, ?_,σ.size,rfl,Lt H qJ T cs,(St.lQ _ _ _).md0⟩;simp [CB,execOp,hx,Instr.box,newVar,newRow,newObj,Sem.run,hv,St.new,World.mk']
theorem fN{cs:List Value}(H:Hp S0 ar σ L)(qJ:lo<=ar.size)(hi:TI P T z s bt)(hv:z.cells=cs.toArray):
  Ex P σ n ρ ⟨dst, .alloc T,ty,pos,af,gd⟩ λv σ'=> ∃b,v=pt b 0/\Hp S0 ar σ' (Ch.bx lo b 0 cs [] []::L)/\Md (dD []) σ σ':=by
 refine ⟨_,σ.new (.cells cs.toArray T (0,0)) 0, ?_,σ.size,rfl,Lt H qJ T cs,(St.lQ _ _ _).md0⟩;simp [CB,execOp,Instr.alloc,pv hi,newVar,newRow,newObj,Sem.run,hv,St.new,World.mk']
theorem Ue(vs:List Value): ∀(pre cs ug:List Value) (k:Nat),k+vs.length<=cs.length->EM (pre++(cs++ug)) (pre.length+k) vs=pre++(EM cs k vs++ug):=by
 induction vs with
 | nil=>intro pre cs ug k _;rfl
 | cons v r ih=>
  intro pre cs ug k hk;simp only [qb5] at hk;rw [EM,EM, ←ih pre (cs.set k v) ug (k+1) (by rw [qaz];omega)];congr 1;rw [List.set_append_right _ _ (by omega),List.set_append_left _ _ (by omega)];congr 3;omega
theorem bE{cs vs cs' pre ug:List Value}{b o o' k i:Nat}(H:Hp S0 ar σ L)(hp:pick L i=some (Ch.bx lo b o cs pre ug,R))(hi:TI P T z s bt)(hx:ev n ρ x=pt b o')(GQ:o'=o+k)(hy:ev n ρ y=v)(hv:v.cells=vs.toArray)(hs:vs.length=s)
  (hk:k+vs.length<=cs.length) (T7: ∀u∈vs,plain u=true) (Yt:EM cs k vs=cs'):
  ExS P σ n ρ ⟨dst, .store T x y,ty,pos,af,gd⟩ λσ'=>Hp S0 ar σ' (Ch.bx lo b o cs' pre ug::R)/\Md (λi=>i=b) σ σ':=by
 subst GQ Yt;have H1:=H.front hp;obtain ⟨⟨T0,h1,h2⟩,h3,h4⟩:Bx σ b (pre++(cs++ug))/\pre.length=o/\lo<=b:=H1.head;have hb:=lt_of_block h1;have fb:=iX (P:=P) b (o+k) T0 vs 0 σ.w (pre++(cs++ug)).toArray h1 (by simp;omega) T7;simp only [qcc] at fb;have m:Md (λi=>i=b) σ (σ.put b (.cells (wr (pre++(cs++ug)).toArray (o+k) vs) T0 (0,0))):=(St.wZ h2).md.mono λi hi=>by cases hi;rfl
 refine ⟨σ.put b (.cells (wr (pre++(cs++ug)).toArray (o+k) vs) T0 (0,0)), ?_, ?_,m⟩
 ·simp [P0,execOp,hx,hy,Instr.storeAt,Instr.sureAddr,storeVar,run_typeInfo hi,hv,hs,fb,St.put]
 refine Hp.Bd (A':=[Ch.bx lo b o (EM cs k vs) pre ug]) H1 (Hp.one (m.mono λi hi=> .inl hi) ⟨⟨T0, ?_,h2⟩,h3,h4⟩ (λi hi _=> .inl hi));rw [Lr, ←h3,Ue vs pre cs ug k hk];exact World.ue _ hb
theorem DC{α β:Type}[Rp α][Rp β]{CE pk:Nat}{v':Value}{xs:List α}{ys:List β}{σ':St}{i:Nat}(H:Hp S0 ar σ L)(hp:pick L i=some (Ch.own lo el v xs,R))(m:Mod (blk v) σ σ')(h:Ow σ' pk CE v' ys)(hf:blk v'=blk v\/ ∀b,blk v'=some b->σ.size<=b):
  Hp S0 ar σ' (Ch.own pk CE v' ys::R):=
 Hp.Bd (A':=[Ch.own pk CE v' ys]) (H.front hp) (Hp.one (m.md.mono λb hb=> .inl hb) h (λb hb bG=>by
  rcases hf with hf | hf
  ·exact .inl (hf.symm.trans hb)
  ·exact absurd bG (qce.2 (hf b hb))))
theorem EU{v':Value}{σ':St}(H:Hp S0 ar σ L)(qJ:lo<=ar.size)(m:Mod none σ σ')(h:Ow σ' σ.size el v' xs):Hp S0 ar σ' (Ch.own lo el v' xs::L):=
 Hp.ER (A':=[Ch.own lo el v' xs]) H (Hp.fresh m _ (h.lo (qaa qJ H.size)) (λb hb=>h.ge b hb))
theorem jv{e e':α}{bl o o' k i:Nat}{vs:List Value}(H:Hp S0 ar σ L)(Yu:pick L i=some (Ch.own lo el v xs,R))(hi:TI P T z s bt)(hg:bz xs a=some e)(M5:Ix v a (Rp.sz α) bl o)(hx:ev n ρ x=pt bl o')(ho:o'=o+k)(hy:ev n ρ y=u)
  (hu:u.cells=vs.toArray) (hs:vs.length=s) (hk:k+vs.length<=Rp.sz α) (hp: ∀t∈vs,plain t=true) (hrp: ∀cs,Rp.rp el σ cs e->Rp.rp el σ (EM cs k vs) e'):
  ExS P σ n ρ ⟨dst, .store T x y,ty,pos,af,gd⟩ λσ'=>Hp S0 ar σ' (Ch.own lo el v (xs.set a.toNat e')::R)/\Md (λb=>blk v=some b) σ σ':=by
 obtain ⟨σ',hr,m,h⟩:=CC (ty:=ty) (pos:=pos) (af:=af) (gd:=gd) (dst:=dst) hi ((H.front Yu).head:Ow σ lo el v xs) hg M5 hx ho hy hu hs hk hp hrp;exact ⟨σ',hr,DC H Yu m h (.inl rfl),m.md⟩
theorem eR{r:List α}{i:Nat}(H:Hp S0 ar σ L)(Yu:pick L i=some (Ch.own lo el v xs,R))(hT:P.underlying T=some (.slice E))(qv:P.underlying T'=some (.slice E'))(hi:TI P E z s bt)(hs:s=Rp.sz α)(Da:z.cells.size=s)(T6:bt<=1024)
  (hS:Rd el σ u ys) (hr:oO xs ys=some r) (qJ:lo<=ar.size) (hx:ev n ρ x=v) (hy:ev n ρ y=u):
  Ex P σ n ρ ⟨dst, .call ⟨.builtin .append, #[x,y], #[T,T']⟩,ty,pos,af,gd⟩ λv' σ'=> ∃a' c',v'=Sl a' r c'/\Hp S0 ar σ' (Ch.own lo el (Sl a' r c') r::R)/\Md (λb=>blk v=some b) σ σ':=by
 obtain ⟨hlen,rfl⟩:=M6 hr;obtain ⟨a',c',σ',h1,h2,h3,h4, -⟩:=JD (ty:=ty) hT qv hi hs Da T6 ((H.front Yu).head:Ow σ lo el v xs) hS hlen (qaa qJ H.size);refine ⟨_,σ', ?_,a',c',rfl,DC H Yu h2 h3 h4,h2.md⟩;simp only [CB,execOp,resolve,qbj,qb2,qbs,hx,hy,Sem.run_bind,Sem.run_pure,Result.andThen_ok,invoke,builtin,h1]
theorem aL{len:Nat}{parts:Array (Nat×Operand)}{ps:List (Nat×Value)}{cs:List Value}(H:Hp S0 ar σ L)(qJ:lo<=ar.size)(hT:P.underlying T=some (.slice E))(hi:TI P E z s bt)
  (JF:Nat.ble (len*s) 16777216=true) (hp:parts.toList.map (λp=>(p.1,ev n ρ p.2))=ps)
  (zq:Instr.fill (λi=>some (i*s,s)) ((Array.range (len*s)).map (λk=>(if len*s=0 then #[] else z.cells)[k % (if len*s=0 then #[] else z.cells).size]!)) ps=some cs.toArray)
  (hf:Flat el σ cs xs) (hl:xs.length=len):
  Ex P σ n ρ ⟨dst, .buildSlice T len parts,ty,pos,af,gd⟩ λv σ'=> ∃b,v=Sl (some ⟨b,0,none⟩) xs len/\Hp S0 ar σ' (Ch.own lo el (Sl (some ⟨b,0,none⟩) xs len) xs::L)/\Md (dD []) σ σ':=by
 obtain ⟨b,σ',hb,hr,hm,hO⟩:=Bb (lo:=σ.size) (dst:=dst) (ty:=ty) (pos:=pos) (af:=af) (gd:=gd) hT hi JF hp zq hf hl (qa3 _);exact ⟨_,σ',hr,b,rfl,EU H qJ hm hO,hm.md0⟩
theorem Uf{z0:α}{zs:List Value}(H:Hp S0 ar σ L)(qJ:lo<=ar.size)(hT:P.underlying T=some (.slice E))(hi:TI P E z s bt)(hs:s=Rp.sz α)(Yo:z.cells=zs.toArray)(hz:Rp.rp el σ zs z0)(T6:bt<=1024)
  (hr:zr a z0=some xs) (hx:ev n ρ x=I a) (hy:ev n ρ y=I a):
  Ex P σ n ρ ⟨dst, .makeSlice T x y,ty,pos,af,gd⟩ λv σ'=> ∃b c',v=Sl (some ⟨b,0,none⟩) xs c'/\c'=a.toNat/\Hp S0 ar σ' (Ch.own lo el (Sl (some ⟨b,0,none⟩) xs c') xs::L)/\Md (dD []) σ σ':=by
 obtain ⟨b,σ',c',Pa,bM,m,h⟩:=run_make (lo:=σ.size) (ty:=ty) (pos:=pos) (af:=af) (gd:=gd) (dst:=dst) hT hi hs Yo hz T6 hr hx hy (qa3 _);exact ⟨_,σ',bM,b,c',rfl,Pa,EU H qJ m h,m.md0⟩
structure bN(P:Program)(f:FuncId)(args:List Value)(pre:List Ch)(post:Nat->Value->List Ch->Prop):Prop where
 fn: ∃fn c,P.funcs[f]? =some fn/\(fn.name== "runtime.NumGoroutine")=false/\fn.body=some c
 runs: ∀(σ:St) (m:Nat),m<=σ.size->Hp (dD pre) σ σ pre->Calls P f args.toArray σ.w λe w'=> ∃v σ' L',e= .returned v/\w'=σ'.w/\post m v L'/\Hp (dD pre) σ σ' L'
def DD(post:Value->List Ch->Prop)(ar:St)(S0:BS)(e:Ending)(w':World):Prop:= ∃v σ' L',e= .returned v/\w'=σ'.w/\post v L'/\Hp S0 ar σ' L'
theorem aeO{f:FuncId}{fn:Func}{c:Code}{l:List Value}{pre:List Ch}{post:Nat->Value->List Ch->Prop}(hf:P.funcs[f]? =some fn)(Pm:(fn.name== "runtime.NumGoroutine")=false)(hb:fn.body=some c)(hn:fn.ntmps=n)(hl:Nat.ble l.length n=true)
  (h: ∀(S0:BS) (ar:St) (n0:Nat),n0<=ar.size->Hp S0 ar ar pre->c.wp P (bodyPost P fn (DD (post n0) ar S0)) (fr n (eN l)) ar.w):bN P f l pre post:=
 ⟨⟨fn,c,hf,Pm,hb⟩,λσ m hm H=>enter hf hb hn hl (h _ σ m hm H)⟩
theorem lP{fn:Func}{post:Value->List Ch->Prop}{L':List Ch}(hr:(results fn (fr n ρ).tmps).run P σ.w= .ok v σ.w)(hp:post v L')(H:Hp S0 ar σ L'):bodyPost P fn (DD post ar S0) .ret (fr n ρ) σ.w:=
 bodyPost_ret (v:=v) hr rfl ⟨v,σ,L',rfl,rfl,hp,H⟩
theorem uQ{fn:Func}{post:Value->List Ch->Prop}{L':List Ch}(hr:(results fn (fr n ρ).tmps).run P σ.w= .ok v σ.w)(hp:post v L')(H:Hp S0 ar σ L'):bodyPost P fn (DD post ar S0) .normal (fr n ρ) σ.w:=
 bodyPost_end (v:=v) hr rfl ⟨v,σ,L',rfl,rfl,hp,H⟩
theorem bN.frame{f:FuncId}{args:List Value}{A:List Ch}{post:Nat->Value->List Ch->Prop}(hc:bN P f args A post)(H:Hp S0 ar σ (A++R)){m:Nat}(hm:m<=σ.size):
  Calls P f args.toArray σ.w λe w'=> ∃v σ' L',e= .returned v/\w'=σ'.w/\post m v L'/\Hp S0 ar σ' (L'++R)/\Md (dD A) σ σ':=by
 refine (hc.runs σ m hm (Hp.begin (dY.1 H.all).1 (eL.1 H.ap).1)).mono ?_;rintro e w' ⟨v,σ',L',rfl,rfl,hp,H'⟩;exact ⟨v,σ',L',rfl,rfl,hp,H.frame H',H'.md⟩
def Enters(P:Program)(n:Nat)(ρ:Nat->Value)(o:Oper)(f:FuncId)(args:List Value)(w:World):Prop:=(execOp (ev n ρ) o).run P w= .ok (.enter f args.toArray) w
def Cx(P:Program)(σ:St)(n:Nat)(ρ:Nat->Value)(o:Oper)(Rz:Value->St->Prop):Prop:=
 ∃f args,Enters P n ρ o f args σ.w/\Calls P f args.toArray σ.w λe w'=> ∃v σ',e= .returned v/\w'=σ'.w/\Rz v σ'
theorem bu{f:FuncId}{args:List Value}{A:List Ch}{post:Nat->Value->List Ch->Prop}{o:Oper}(hc:bN P f args A post)(he:Enters P n ρ o f args σ.w){m:Nat}(hm:m<=ar.size)(H:Hp S0 ar σ (A++R)):
  Cx P σ n ρ o λv σ'=> ∃L',post m v L'/\Hp S0 ar σ' (L'++R)/\Md (dD A) σ σ':=
 ⟨f,args,he,(hc.frame H (qaa hm H.size)).mono (by rintro e w' ⟨v,σ',L',rfl,rfl,hp,H',m⟩;exact ⟨v,σ',rfl,rfl,L',hp,H',m⟩)⟩
theorem abh{o:Oper}(hd:o.dst=dst)(hc:Cx P σ n ρ o Rz)(hw:Region.wanted o (yv ops n ρ)=true)
  (k: ∀v (σ':St),Rz v σ'->wpList P ops Q rest ((fr n ρ).put dst v) σ'.w):wpList P ops Q (o::rest) (fr n ρ) σ.w:=by
 subst hd;obtain ⟨f,args,he,hc⟩:=hc;unfold wpList;rw [eM,if_pos hw];refine .inl ?_;unfold Oper.wp;rw [aO,show (execOp (ev n ρ) o).run P σ.w=_ from he,Oper.upon_enter];refine hc.mono ?_;rintro e w' ⟨v,σ',rfl,rfl,h⟩;exact k v σ' h
theorem bZ(hc:Cx P σ n ρ ⟨some d,op,ty,pos,af,gd⟩ Rz)(hw:Region.wanted ⟨some d,op,ty,pos,af,gd⟩ (yv ops n ρ)=true)
  (k: ∀v (σ':St),Rz v σ'->wpList P ops Q rest (fr n (upd ρ d v)) σ'.w):wpList P ops Q (⟨some d,op,ty,pos,af,gd⟩::rest) (fr n ρ) σ.w:=
 abh rfl hc hw (λv σ' h=>by rw [cV];exact k v σ' h)
theorem dE{f:FuncId}{args:List Value}{xs:Array Operand}{Ts:Array TypeId}{w:World}(hf: ∃fn c,P.funcs[f]? =some fn/\(fn.name== "runtime.NumGoroutine")=false/\fn.body=some c)(hx:xs.toList.map (ev n ρ)=args):
 Enters P n ρ ⟨dst, .call ⟨.value (.func f),xs,Ts⟩,ty,pos,af,gd⟩ f args w:=P1 hf hx
theorem P8{f:FuncId}{args:List Value}{xs:Array Operand}{Ts:Array TypeId}{w:World}{c:Operand}{cap:List Value}(hf: ∃fn c,P.funcs[f]? =some fn/\(fn.name== "runtime.NumGoroutine")=false/\fn.body=some c)
  (hc:ev n ρ c= .func (.func f) #[] cap.toArray) (hx:xs.toList.map (ev n ρ)++cap=args):
  Enters P n ρ ⟨dst, .call ⟨.value c,xs,Ts⟩,ty,pos,af,gd⟩ f args w:=by
 obtain ⟨fn,c,h1,h2,h3⟩:=hf;replace hx:xs.map (ev n ρ)++cap.toArray=args.toArray:=by
  rw [←hx];apply qcf;simp
 simp only [Enters,execOp,resolve,hc,Deferred.ofValue,Sem.run_bind,Sem.run_pure,Result.andThen_ok,invoke,callFunc,run_program,Array.empty_append,hx,h1,h2,h3];simp
end
end Go.Vs
namespace Go.Vs
open Go
def dx(ops:Array Oper)(j:Nat):Option Nat:=(ops[j]?).bind (·.dst)
def waits(o:Oper)(j:Nat):Bool:=o.after.toList.any λe=>Nat.beq e.on j&&Region.binds .any e
def reach(ops:Array Oper):Nat->Nat->Nat->Bool
 | 0,_,_=>false
 | f+1,j,i=>match ops[j]? with
  | none=>false
  | some o=>waits o i || o.after.toList.any λe=>Region.binds .any e&&reach ops f e.on i
def ph(E:List Nat)(listed:Array Bool):List Bool:=E.map λe=>listed.getD e false
def JH(E:List Nat)(i:Nat)(p:List Bool):List Bool:=List.zipWith (λe b=>b || Nat.beq e i) E p
def Yv(ops:Array Oper)(E:List Nat)(i:Nat)(p:List Bool):Bool:=
 (List.zip E p).all fun (e,b)=>(!reach ops ops.size i e || b)&&(!reach ops ops.size e i || !b)&&(!Nat.beq e i || !b)
def xa(ops:Array Oper)(n i j:Nat):Bool:=Nat.blt j n&& !Nat.beq j i&& !reach ops ops.size j i
def Yw(N:Nat)(ops:Array Oper)(n:Nat)(E:List Nat)(Ps:List (List Bool))(Al:List (List (Nat×Nat)))(zM:Nat):Bool:=
 Nat.ble n ops.size&&((List.range n).all λi=>(match dx ops i with | some d=>Nat.blt d N | none=>true)&&(match ops[i]? with | some o=>o.after.toList.all (λe=> !Region.binds .any e || Nat.blt e.on i) | none=>false)&&
  (List.range n).all λj=>Nat.beq i j || (match dx ops i with | some _=> !(dx ops i==dx ops j) | none=>true))&&
 ((List.range ops.size).all λj=>Nat.blt j n || (List.range n).all λi=>reach ops ops.size j i)&&
 Region.seqB .any ops (ops.size - n) n ((List.range ops.size).map (λi=>Nat.blt i n)).toArray&&
 (Ps.getD 0 [true]==E.map λ_=>false)&&(Ps.getD zM []==E.map λe=>Nat.blt e n)&&((List.range Ps.length).all λk=> !(Ps.getD k []==E.map λe=>Nat.blt e n) || Nat.beq k zM)&&
 ((List.range n).all λi=>(List.range Ps.length).all λk=> !Yv ops E i (Ps.getD k []) || (Al.getD i []).any fun (a,b)=>Nat.beq a k&&(Ps[b]? ==some (JH E i (Ps.getD k []))))
section
variable{P:Program}{ops:Array Oper}{Q:Exit->Act->World->Prop}{N n:Nat}{j4:Nat->Value}{Nm:Type}{J:Nat->Nm->St->Prop}{V:Nat->Nm->Value}
def vx(P:Program)(ops:Array Oper)(N n:Nat)(J:Nat->Nm->St->Prop)(V:Nat->Nm->Value)(ρ:Nat->Value)(σ:St)(nm:Nm)(i:Nat)(o:Oper)(k':Nat):Prop:=
 (Region.wanted o (yv ops N ρ)=true/\((∃v σ' qj,(execOp (ev N ρ) o).run P σ.w= .ok (.value v) σ'.w/\V i qj=v/\J k' qj σ'/\ ∀j,xa ops n i j=true->V j qj=V j nm)\/
  (∃σ' qj,o.dst=none/\(execOp (ev N ρ) o).run P σ.w= .ok .skip σ'.w/\J k' qj σ'/\ ∀j,xa ops n i j=true->V j qj=V j nm)\/
  ∃f args,(execOp (ev N ρ) o).run P σ.w= .ok (.enter f (List.toArray args)) σ.w/\Calls P f args.toArray σ.w λe w'=> ∃v σ' qj,e= .returned v/\w'=σ'.w/\V i qj=v/\J k' qj σ'/\ ∀j,xa ops n i j=true->V j qj=V j nm))\/
 (Region.wanted o (yv ops N ρ)=false/\V i nm=undef/\J k' nm σ)
structure RInv(ops:Array Oper)(N n:Nat)(E:List Nat)(Ps:List (List Bool))(j4:Nat->Value)(J:Nat->Nm->St->Prop)(V:Nat->Nm->Value)(listed:Array Bool)(ρ:Nat->Value)(σ:St):Prop where
 size:listed.size=ops.size
 off: ∀t,(∀i,i<n->dx ops i≠some t)->ρ t=j4 t
 st: ∃nm k,Ps[k]? =some (ph E listed)/\J k nm σ/\ ∀i,i<n->listed.getD i false=true-> ∀d,dx ops i=some d->look N ρ d=V i nm
 low: ∀i,n<=i->listed.getD i false=false
 closed: ∀i o,listed.getD i false=true->ops[i]? =some o-> ∀j,waits o j=true->listed.getD j false=true
theorem oP{listed:Array Bool}(hcl: ∀i o,listed.getD i false=true->ops[i]? =some o-> ∀j,waits o j=true->listed.getD j false=true){i:Nat}:
  ∀(f j:Nat) (o:Oper),ops[j]? =some o->(∀k,waits o k=true->listed.getD k false=true)->reach ops f j i=true->listed.getD i false=true:=by
 intro f
 induction f with
 | zero=>intro j o _ _ h;cases h
 | succ f ih=>
  intro j o ho hw h;rw [reach,ho] at h;simp only [qbz] at h;rcases h with h | h
  ·exact hw i h
  ·obtain ⟨e,he,h⟩:=List.any_eq_true.1 h;simp only [qa4] at h;have h1:waits o e.on=true:=List.any_eq_true.2 ⟨e,he,by simp only [qa4];exact ⟨Nat.beq_refl _,h.1⟩⟩;have h2:=hw _ h1;cases f with
   | zero=>cases h.2
   | succ f'=>
    cases GQ:ops[e.on]? with
    | none=>have:=h.2;rw [reach,GQ] at this;cases this
    | some o'=>exact ih e.on o' GQ (λk hk=>hcl _ _ h2 GQ k hk) h.2
theorem G7{listed:Array Bool}(hs:listed.size=ops.size)(aeP: ∀i,n<=i->listed.getD i false=false)(lS: ∀i,i<n->listed.getD i false=true):
  listed=((List.range ops.size).map (λi=>Nat.blt i n)).toArray:=by
 apply Array.ext_getElem?;intro i;by_cases hi:i<ops.size
 ·have h1:listed[i]? =some (listed.getD i false):=by simp [Array.getD,hs,hi]
  rw [h1];simp only [qau,List.getElem?_map];rw [List.getElem?_range hi];simp only [qac,qae];by_cases hn:i<n
  ·rw [lS i hn,Dq hn]
  ·rw [aeP i (by omega),vw hn]
 ·rw [qbb (by omega)];simp [hi]
theorem countP_set{listed:Array Bool}{i n:Nat}(hi:i<n)(h0:listed.getD i false=false)(hs:i<listed.size):
  (List.range n).countP (λj=> !listed.getD j false)=(List.range n).countP (λj=> !(listed.setIfInBounds i true).getD j false)+1:=by
 induction n with
 | zero=>omega
 | succ n ih=>
  rw [List.range_succ,List.countP_append,List.countP_append];by_cases h:i=n
  ·subst h;have e1:(List.range i).countP (λj=> !listed.getD j false)=(List.range i).countP (λj=> !(listed.setIfInBounds i true).getD j false):=by
    refine List.countP_congr λj hj=> ?_;rw [getD_set_ne false (by have:=qas.1 hj;omega)]
   have e2:(listed.setIfInBounds i true).getD i false=true:=by simp [Array.getD,hs]
   rw [e1];simp only [List.countP_cons,List.countP_nil,h0,e2]
   rfl
  ·have:=ih (by omega);have e:(listed.setIfInBounds i true).getD n false=listed.getD n false:=getD_set_ne false h;rw [this];simp only [List.countP_cons,List.countP_nil,e];omega
theorem Yx{E:List Nat}{listed:Array Bool}{i:Nat}(hs:i<listed.size):ph E (listed.setIfInBounds i true)=JH E i (ph E listed):=by
 induction E with
 | nil=>rfl
 | cons e E ih=>
  simp only [ph,JH,qb2,List.zipWith_cons_cons] at ih ⊢;rw [ih];congr 1;by_cases h:e=i
  ·subst h;simp [Array.getD,hs]
  ·rw [getD_set_ne false (qbo h),sV h,Bool.or_false]
theorem P9{listed:Array Bool}{e:Nat}{b:Bool}: ∀{E:List Nat},(e,b)∈List.zip E (ph E listed)->b=listed.getD e false
 | [],h=>by cases h
 | a::E,h=>by
  simp only [ph,qb2,List.zip_cons_cons,qa9,Prod.mk.injEq] at h;rcases h with ⟨rfl,rfl⟩ | h
  ·rfl
  ·exact P9 (E:=E) h
theorem Qa{E:List Nat}{m:Nat}:ph E (Array.replicate m false)=E.map λ_=>false:=by
 unfold ph;exact qca λe _=>getD_replicate_false _ _
theorem Ug{E:List Nat}{m:Nat}(hE: ∀e∈E,e<n->e<m):ph E ((List.range m).map (λi=>Nat.blt i n)).toArray=E.map λe=>Nat.blt e n:=by
 unfold ph;refine qca λe he=> ?_;by_cases hm:e<m
 ·simp [Array.getD,hm]
 ·have: ¬e<n:=λh=>hm (hE e he h);rw [vw this];simp [Array.getD,hm]
theorem Qb{E:List Nat}{Ps:List (List Bool)}{Al:List (List (Nat×Nat))}{zM:Nat}(hB:Yw N ops n E Ps Al zM=true)
  (cM: ∀i o k k',i<n->ops[i]? =some o->(k,k')∈Al.getD i []-> ∀nm ρ σ,J k nm σ->(∀t,(∀i,i<n->dx ops i≠some t)->ρ t=j4 t)->
   (∀j,waits o j=true->j<n-> ∀d,dx ops j=some d->look N ρ d=V j nm)->vx P ops N n J V ρ σ nm i o k')
  (hk: ∀nm ρ σ,J zM nm σ->(∀t,(∀i,i<n->dx ops i≠some t)->ρ t=j4 t)->(∀i,i<n-> ∀d,dx ops i=some d->look N ρ d=V i nm)->
   wpList P ops Q (ops.toList.drop n) (fr N ρ) σ.w):
  ∀(fuel:Nat) (listed:Array Bool) (ρ:Nat->Value) (σ:St),RInv ops N n E Ps j4 J V listed ρ σ->(List.range n).countP (λi=> !listed.getD i false)+(ops.size - n)=fuel->
   wpAny P .any ops Q fuel listed (fr N ρ) σ.w:=by
 simp only [Yw,qa4] at hB;obtain ⟨⟨⟨⟨⟨⟨⟨hn,hd⟩,hw⟩,JI⟩,_⟩,MX⟩,abi⟩,hal⟩:=hB;have hn:=qa5 hn;have Nd: ∀i d,i<n->dx ops i=some d->d<N:=by
  intro i d hi h;have:=qab.1 hd i (qas.2 hi);simp only [qa4] at this;have h1:=this.1.1;rw [h] at h1;refine qa7 λhc=> ?_;simp only [vw hc] at h1;cases h1
 have abj: ∀i o,i<n->ops[i]? =some o-> ∀e∈o.after.toList,Region.binds .any e=true->e.on<i:=by
  intro i o hi ho e he hb;have:=qab.1 hd i (qas.2 hi);simp only [qa4] at this;have h1:=this.1.2;rw [ho] at h1;have:=qab.1 h1 e he;simp only [hb,qah,Bool.false_or] at this;refine qa7 λhc=> ?_;rw [vw hc] at this;cases this
 have j0: ∀i j d,i<n->j<n->i≠j->dx ops i=some d->dx ops j≠some d:=by
  intro i j d hi hj qx Qc hdj;have:=qab.1 hd i (qas.2 hi);simp only [qa4] at this;have:=qab.1 this.2 j (qas.2 hj);rw [Qc,hdj] at this;simp [sV qx] at this
 have abk: ∀j i o,n<=j->i<n->ops[j]? =some o->reach ops ops.size j i=true:=by
  intro j i o hj hi ho;have bG:=(qa1.1 ho).1;have:=qab.1 hw j (qas.2 bG);rw [vw (by omega),Bool.false_or] at this;exact qab.1 this i (qas.2 hi)
 have fin: ∀(listed:Array Bool) (ρ:Nat->Value) (σ:St),RInv ops N n E Ps j4 J V listed ρ σ->(∀i,i<n->listed.getD i false=true)->
   listed=((List.range ops.size).map (λi=>Nat.blt i n)).toArray/\wpList P ops Q (ops.toList.drop n) (fr N ρ) σ.w:=by
  intro listed ρ σ inv lS;have DF:=G7 inv.size inv.low lS;refine ⟨DF, ?_⟩;obtain ⟨nm,k,hp,hJ,fg⟩:=inv.st;rw [DF,Ug (λe _ h=>by omega)] at hp;have JJ:=(qbf.1 hp).1;have:=qab.1 abi k (qas.2 JJ);have e1:Ps.getD k []=E.map λe=>Nat.blt e n:=by simp [List.getD,hp]
  rw [e1] at this;simp only [beq_self_eq_true,qah,Bool.false_or] at this;have:=Nat.eq_of_beq_eq_true this;subst this;exact hk nm ρ σ hJ inv.off (λi hi d hd=>fg i hi (lS i hi) d hd)
 intro fuel
 induction fuel with
 | zero=>
  intro listed ρ σ inv hf;have lS: ∀i,i<n->listed.getD i false=true:=by
   intro i hi;have h0:(List.range n).countP (λi=> !listed.getD i false)=0:=by omega
   have:=List.countP_eq_zero.1 h0 i (qas.2 hi);simpa using this
  obtain ⟨DF,hh⟩:=fin listed ρ σ inv lS;have hdr:ops.toList.drop n=[]:=by rw [List.drop_eq_nil_iff];simp;omega
  rw [hdr] at hh;refine ⟨?_,hh⟩;have:Region.seqB .any ops 0 n listed=true:=by
   rw [DF];have e:ops.size - n=0:=by omega
   rw [e] at JI;exact JI
  simpa [Region.seqB] using this
 | succ fuel ih=>
  intro listed ρ σ inv hf;by_cases lS: ∀i,i<n->listed.getD i false=true
  ·
   obtain ⟨DF,hh⟩:=fin listed ρ σ inv lS;have h0:(List.range n).countP (λi=> !listed.getD i false)=0:=by
    rw [List.countP_eq_zero];intro i hi;simp [lS i (qas.1 hi)]
   have:=wpAny_of_seq (md:= .any) (Q':=Q) (P:=P) (ops.toList.drop n) n listed (fr N ρ) σ.w (λj=>by simp [List.getElem?_drop]) (by
    rw [DF,List.length_drop,Array.length_toList];exact JI) hh
   rw [List.length_drop,Array.length_toList] at this;rw [show fuel+1=ops.size - n by omega];exact this
  ·
   have Lu: ∃i,i<n/\listed.getD i false=false:=by
    refine qa7 λhc=>lS λi hi=> ?_;cases h:listed.getD i false with
    | true=>rfl
    | false=>exact absurd ⟨i,hi,h⟩ hc
   have step: ∀i∈Region.ready .any ops listed,wpOp P ops Q i (wpAny P .any ops Q fuel (listed.setIfInBounds i true)) (fr N ρ) σ.w:=by
    intro i hi;obtain ⟨h1,o,ho,h2⟩:=mem_ready.1 hi;have bG:=(qa1.1 ho).1;have hls:i<listed.size:=by rw [inv.size];exact bG
    have hwj: ∀j,waits o j=true->listed.getD j false=true:=by
     intro j hj;obtain ⟨e,he,hb⟩:=List.any_eq_true.1 hj;simp only [qa4] at hb;have:=Nat.eq_of_beq_eq_true hb.1;subst this;exact h2 e (by simpa using he) hb.2
    have hin:i<n:=by
     refine qa7 λhc=> ?_;obtain ⟨k,GD,yn⟩:=Lu;have:=oP inv.closed _ i o ho hwj (abk i k o (by omega) GD ho);rw [yn] at this;cases this
    have hi0:listed.getD i false=false:=by
     simp only [Array.getD,hls,dif_pos] at h1 ⊢;exact h1
    have abl: ∀j,j<n->i≠j->listed.getD j false=true->xa ops n i j=true:=by
     intro j hj qx hl;have:reach ops ops.size j i=false:=by
      cases hr:reach ops ops.size j i with
      | false=>rfl
      | true=>
       obtain ⟨oj,hoj⟩: ∃oj,ops[j]? =some oj:=by rw [Array.getElem?_eq_getElem (by omega)];exact ⟨_,rfl⟩
       have:=oP inv.closed _ j oj hoj (λk hk=>inv.closed j oj hl hoj k hk) hr;rw [hi0] at this;cases this
     simp only [xa,Dq hj,sV (qbo qx),this,Bool.not_false,Bool.and_self]
    obtain ⟨nm,k,hp,hJ,fg⟩:=inv.st;have JJ:=(qbf.1 hp).1;have ek:Ps.getD k []=ph E listed:=by simp [List.getD,hp]
    have aeQ:Yv ops E i (ph E listed)=true:=by
     unfold Yv;refine qab.2 λ⟨e,b⟩ heb=> ?_;have hb:b=listed.getD e false:=P9 heb;subst hb;simp only [qa4,qbz,qbe];refine ⟨⟨?_, ?_⟩, ?_⟩
     ·cases hr:reach ops ops.size i e with
      | false=>exact .inl rfl
      | true=>exact .inr (oP inv.closed _ i o ho hwj hr)
     ·cases hr:reach ops ops.size e i with
      | false=>exact .inl rfl
      | true=>
       right;cases hl:listed.getD e false with
       | false=>rfl
       | true=>
        cases hoe:ops[e]? with
        | none=>
         cases mo:ops.size with
         | zero=>omega
         | succ q=>rw [mo,reach,hoe] at hr;cases hr
        | some oe=>
         have:=oP inv.closed _ e oe hoe (λk hk=>inv.closed e oe hl hoe k hk) hr;rw [hi0] at this;cases this
     ·by_cases hei:e=i
      ·subst hei;exact .inr hi0
      ·exact .inl (sV hei)
    have h3:=qab.1 (qab.1 hal i (qas.2 hin)) k (qas.2 JJ);rw [ek,aeQ] at h3;simp only [qah,Bool.false_or] at h3;obtain ⟨⟨ka,k'⟩,Nf,h4⟩:=List.any_eq_true.1 h3;simp only [qa4,beq_iff_eq] at h4;have:=Nat.eq_of_beq_eq_true h4.1;subst this;have Qd:Ps[k']? =some (ph E (listed.setIfInBounds i true)):=by rw [Yx hls];exact h4.2
    have hdo:=cM i o ka k' hin ho Nf nm ρ σ hJ inv.off (λj hj Uh d hd=>fg j Uh (hwj j hj) d hd);have next: ∀v (σ':St) qj,V i qj=v->J k' qj σ'->(∀j,xa ops n i j=true->V j qj=V j nm)-> ∀a',a'=(fr N ρ).put o.dst v->wpAny P .any ops Q fuel (listed.setIfInBounds i true) a' σ'.w:=by
     rintro v σ' qj hV M0 fb a' rfl;have key: ∀qU,(fr N ρ).put o.dst v=fr N qU->(∀t,(∀i,i<n->dx ops i≠some t)->qU t=j4 t)->(∀j,j<n->(listed.setIfInBounds i true).getD j false=true-> ∀d,dx ops j=some d->look N qU d=V j qj)->
       wpAny P .any ops Q fuel (listed.setIfInBounds i true) ((fr N ρ).put o.dst v) σ'.w:=by
      intro qU e bh abm;rw [e];refine ih _ _ _ ⟨by simp [inv.size],bh,⟨qj,k',Qd,M0,abm⟩, ?_, ?_⟩ ?_
      ·intro j hj;rw [getD_set_ne false (by omega)];exact inv.low j hj
      ·intro j oj hj hoj q hq;by_cases qx:i=j
       ·subst qx;rw [ho] at hoj;cases hoj;exact getD_set_true (hwj q hq)
       ·rw [getD_set_ne false qx] at hj;exact getD_set_true (inv.closed j oj hj hoj q hq)
      ·have:=countP_set (listed:=listed) (i:=i) (n:=n) hin hi0 hls;omega
     cases WQ:o.dst with
     | none=>
      have hdn:dx ops i=none:=by simp [dx,ho,WQ]
      refine WQ▸key ρ (by rw [WQ,kq]) inv.off ?_;intro j hj hl d' IJ;by_cases qx:i=j
      ·subst qx;rw [hdn] at IJ;cases IJ
      ·rw [getD_set_ne false qx] at hl;rw [fb j (abl j hj qx hl)];exact fg j hj hl d' IJ
     | some d=>
      have Qc:dx ops i=some d:=by simp [dx,ho,WQ]
      have hdN:=Nd i d hin Qc;refine WQ▸key (upd ρ d v) (by rw [WQ,cV]) ?_ ?_
      ·intro t ht;have:t≠d:=λe=>ht i hin (e▸Qc);show (bif Nat.beq t d then v else ρ t)=_;rw [sV this];exact inv.off t ht
      ·intro j hj hl d' IJ;by_cases qx:i=j
       ·subst qx;rw [Qc] at IJ;cases IJ;have:look N (upd ρ d v) d=v:=by
         rw [uN _ hdN];show (bif Nat.beq d d then v else _)=v;rw [Lm];rfl
        rw [this,hV]
       ·rw [getD_set_ne false qx] at hl;have aeR:d'≠d:=λe=>j0 i j d hin hj qx Qc (e▸IJ);have:look N (upd ρ d v) d'=look N ρ d':=by
         unfold look;have:upd ρ d v d'=ρ d':=by show (bif Nat.beq d' d then v else ρ d')=_;rw [sV aeR];rfl
         rw [this]
        rw [this,fb j (abl j hj qx hl)];exact fg j hj hl d' IJ
    unfold wpOp;rw [ho];simp only [eM];rcases hdo with ⟨Qe,bM⟩ | ⟨Qe,hV,M0⟩
    ·rw [if_pos Qe];refine .inl ?_;unfold Oper.wp;rw [aO];rcases bM with ⟨v,σ',qj,hr,hV,M0,fb⟩ | ⟨σ',qj,IM,hr,M0,fb⟩ | ⟨f,args,hr,hc⟩
     ·rw [hr,Oper.upon_value];exact next v σ' qj hV M0 fb _ rfl
     ·rw [hr,Oper.upon_skip];exact next _ σ' qj rfl M0 fb _ (by rw [IM];rfl)
     ·rw [hr,Oper.upon_enter];refine hc.mono ?_;rintro e w' ⟨v,σ',qj,rfl,rfl,hV,M0,fb⟩;exact next v σ' qj hV M0 fb _ rfl
    ·rw [Qe,if_neg (by simp)];exact next undef σ nm hV M0 (λ_ _=>rfl) _ rfl
   refine ⟨λaeS=> ?_,step⟩;exfalso;obtain ⟨m,⟨Tt,OW⟩,aeT⟩:=exists_least (p:=λi=>i<n/\listed.getD i false=false) Lu;obtain ⟨o,ho⟩: ∃o,ops[m]? =some o:=by
    rw [Array.getElem?_eq_getElem (by omega)];exact ⟨_,rfl⟩
   have xb:m<listed.size:=by rw [inv.size];omega
   have:m∈Region.ready .any ops listed:=by
    refine mem_ready.2 ⟨?_,o,ho,λe he hb=> ?_⟩
    ·simp only [Array.getD,xb,dif_pos] at OW ⊢;exact OW
    ·have bG:=abj m o Tt ho e (by simpa using he) hb;cases hx:listed.getD e.on false with
     | true=>rfl
     | false=>
      have:=aeT e.on ⟨by omega,hx⟩;omega
   rw [aeS] at this;cases this
def py(F:Nat->Oper->Prop):Nat->Nat->List Oper->Prop
 | 0,_,_=>True
 | _+1,_,[]=>True
 | n+1,k,o::r=>F k o/\py F n (k+1) r
theorem all_nil{F:Nat->Oper->Prop}{k:Nat}{l:List Oper}:py F 0 k l:=trivial
theorem all_cons{F:Nat->Oper->Prop}{n k:Nat}{o:Oper}{r:List Oper}(h:F k o)(t:py F n (k+1) r):py F (n+1) k (o::r):=⟨h,t⟩
theorem Lw{F:Nat->Oper->Prop}: ∀(n k:Nat) (l:List Oper),py F n k l-> ∀i o,i<n->l[i]? =some o->F (k+i) o
 | 0,_,_,_,_,_,hi,_=>by omega
 | _+1,_,[],_,_,_,_,ho=>by simp at ho
 | n+1,k,o::r,⟨h,t⟩,i,o',hi,ho=>by
  cases i with
  | zero=>simp at ho;subst ho;exact h
  | succ i=>
   have:=Lw n (k+1) r t i o' (by omega) (by simpa using ho);rw [show k+(i+1)=k+1+i by omega];exact this
def EV(F:Nat->Nat->Prop):List (Nat×Nat)->Prop
 | []=>True
 | (k,k')::r=>F k k'/\EV F r
theorem abn{F:Nat->Nat->Prop}: ∀{l:List (Nat×Nat)},EV F l-> ∀k k',(k,k')∈l->F k k'
 | [],_,_,_,h=>by cases h
 | (a,b)::r,⟨h,t⟩,k,k',hm=>by
  rcases qa9.1 hm with e | hm
  ·cases e;exact h
  ·exact abn t k k' hm
def SU(l:List (List (Nat×Nat)))(i:Nat):List (Nat×Nat):=l.getD i []
def Jl(l:List (Nm->St->Prop))(k:Nat)(nm:Nm)(σ:St):Prop:=(l.getD k (λ_ _=>False)) nm σ
def Vl(l:List (Nm->Value))(i:Nat)(nm:Nm):Value:=(l.getD i (λ_=>undef)) nm
def xd(ops:Array Oper)(n t:Nat):Bool:=(List.range n).all λi=> !(dx ops i==some t)
theorem EW{t:Nat}(h:xd ops n t=true): ∀i,i<n->dx ops i≠some t:=by
 intro i hi;have:=qab.1 h i (qas.2 hi);simpa using this
def Ob(P:Program)(ops:Array Oper)(N n:Nat)(j4:Nat->Value)(J:Nat->Nm->St->Prop)(V:Nat->Nm->Value)(i:Nat)(o:Oper)(k k':Nat):Prop:=
 ∀nm ρ σ,J k nm σ->(∀t,xd ops n t=true->ρ t=j4 t)->(∀j,waits o j=true->Nat.blt j n=true-> ∀d,dx ops j=some d->look N ρ d=V j nm)->vx P ops N n J V ρ σ nm i o k'
theorem abo{id:Nat}{l:List Oper}{σ:St}(n:Nat)(E:List Nat)(Ps:List (List Bool))(Al:List (List (Nat×Nat)))(zM:Nat)(Js:List (Nm->St->Prop))(Vs:List (Nm->Value))(nm0:Nm)
  (hm:P.follows .mixedOrders=true) (hB:Yw N l.toArray n E Ps Al zM=true) (h0: ∀pB,pB.w.heap=σ.w.heap->Md (dD []) σ pB->Jl Js 0 nm0 pB)
  (cM:py (λi o=>EV (Ob P l.toArray N n j4 (Jl Js) (Vl Vs) i o) (SU Al i)) n 0 l)
  (hk: ∀nm ρ σ',Jl Js zM nm σ'->(∀t,xd l.toArray n t=true->ρ t=j4 t)->(∀i,Nat.blt i n=true-> ∀d,dx l.toArray i=some d->look N ρ d=Vl Vs i nm)->
   wpList P l.toArray Q (l.drop n) (fr N ρ) σ'.w):(Code.region id l.toArray true).wp P Q (fr N j4) σ.w:=by
 refine wp_region_any hm ?_
 let pB:St:=⟨{ σ.w with drawn:=σ.w.drawn+1 },σ.fV,σ.ok,σ.dR⟩
 have m1:Md (dD []) σ pB:=⟨rfl, .inr rfl,rfl, .inr (Nat.le_succ _),rfl,⟨qa3 _,λ_ _=>rfl,λ_=>qa3 _⟩,λ_ _ _=>rfl,λ_ _ _=>rfl⟩;have hB':=hB;simp only [Yw,qa4] at hB';obtain ⟨⟨⟨⟨⟨⟨⟨hn,_⟩,_⟩,_⟩,fb⟩,_⟩,_⟩,_⟩:=hB';have XM:n<=l.length:=by simpa using qa5 hn
 have hb: ∀j,Nat.blt j n=true->j<n:=λj h=>qa7 λhc=>by rw [vw hc] at h;cases h
 refine Qb (j4:=j4) (J:=Jl Js) (V:=Vl Vs) hB ?_ ?_ _ _ j4 pB ⟨by simp,λ_ _=>rfl,⟨nm0,0, ?_,h0 pB rfl m1,λi _ h=>(by rw [getD_replicate_false] at h;exact absurd h (by decide))⟩,λi _=>getD_replicate_false _ _,λi _ h=>(by rw [getD_replicate_false] at h;exact absurd h (by decide))⟩ ?_
 ·intro i o k k' hi ho Nf nm ρ σ' hJ bh aP;have:=abn (Lw n 0 l cM i o hi (by simpa using ho)) k k' (by rw [qc0];exact Nf);rw [qc0] at this;exact this nm ρ σ' hJ (λt ht=>bh t (EW ht)) (λj hj Uh d hd=>aP j hj (hb j Uh) d hd)
 ·intro nm ρ σ' hJ bh fg;simpa using hk nm ρ σ' hJ (λt ht=>bh t (EW ht)) (λi hi d hd=>fg i (hb i hi) d hd)
 ·rw [Qa];have:Ps.getD 0 [true]=E.map λ_=>false:=by simpa using fb
  cases Ps with
  | nil=>
   cases E with
   | nil=>simp at this
   | cons e E=>simp at this
  | cons p Ps=>simpa using this
 ·have:(List.range n).countP (λi=> !(Array.replicate l.toArray.size false).getD i false)=n:=by
   rw [List.countP_eq_length.2]
   ·simp
   ·intro i _;rw [getD_replicate_false];rfl
  rw [this];simp;omega
theorem DG{id:Nat}{l:List Oper}{σ:St}(n:Nat)(E:List Nat)(Ps:List (List Bool))(Al:List (List (Nat×Nat)))(zM:Nat)(Js:List (Nm->St->Prop))(Vs:List (Nm->Value))(nm0:Nm)
 (hm:P.follows .mixedOrders=true) (hB:Yw N l.toArray n E Ps Al zM=true) (h0: ∀pB,Md (dD []) σ pB->Jl Js 0 nm0 pB)
 (cM:py (λi o=>EV (Ob P l.toArray N n j4 (Jl Js) (Vl Vs) i o) (SU Al i)) n 0 l)
 (hk: ∀nm ρ σ',Jl Js zM nm σ'->(∀t,xd l.toArray n t=true->ρ t=j4 t)->(∀i,Nat.blt i n=true-> ∀d,dx l.toArray i=some d->look N ρ d=Vl Vs i nm)->
  wpList P l.toArray Q (l.drop n) (fr N ρ) σ'.w):(Code.region id l.toArray true).wp P Q (fr N j4) σ.w:=abo n E Ps Al zM Js Vs nm0 hm hB (λpB _ m=>h0 pB m) cM hk
variable{ρ:Nat->Value}{σ:St}{nm qj:Nm}{i k k':Nat}{o:Oper}{v:Value}{d:Nat}{op:Op}{ty:TypeId}{pos:String}{af:Array Edge}{gd:Option (Nat×Bool)}
theorem G8{t:Nat}(h:ρ t=j4 t)(hv:look N j4 t=v):look N ρ t=v:=by
 rw [←hv];unfold look;rw [h]
theorem Qf{j d:Nat}(hd:dx ops j=some d)(h:look N ρ d=undef):yv ops N ρ j=none:=by
 unfold yv;rw [show (ops[j]?).bind (·.dst)=some d from hd];simp only [h];rfl
theorem qy{j d:Nat}{b:Bool}(hd:dx ops j=some d)(h:look N ρ d=B b):yv ops N ρ j=some b:=by
 unfold yv;rw [show (ops[j]?).bind (·.dst)=some d from hd];simp only [h]
theorem yA(hw:Region.wanted o (yv ops N ρ)=true)(hr:dX P σ.w.heap N ρ o v)(hV:V i nm=v)(hJ:J k nm σ):vx P ops N n J V ρ σ nm i o k:=
 .inl ⟨hw, .inl ⟨v,σ,nm,hr σ.w rfl,hV,hJ,λ_ _=>rfl⟩⟩
theorem EX(hw:Region.wanted o (yv ops N ρ)=false)(hV:V i nm=undef)(hJ:J k nm σ):vx P ops N n J V ρ σ nm i o k:= .inr ⟨hw,hV,hJ⟩
theorem xe{Rz:Value->St->Prop}(hw:Region.wanted o (yv ops N ρ)=true)(he:Ex P σ N ρ o Rz)(h: ∀v σ',Rz v σ'-> ∃km qj,km.w=σ'.w/\V i qj=v/\J k' qj km/\ ∀j,xa ops n i j=true->V j qj=V j nm):vx P ops N n J V ρ σ nm i o k':=by
 obtain ⟨v,σ',hr,hz⟩:=he;obtain ⟨km,qj,tK,h1,h2,h3⟩:=h v σ' hz;refine .inl ⟨hw, .inl ⟨v,km,qj, ?_,h1,h2,h3⟩⟩;rw [tK];exact hr
theorem Yy{Rs:St->Prop}(hw:Region.wanted o (yv ops N ρ)=true)(hd:o.dst=none)(he:ExS P σ N ρ o Rs)(h: ∀σ',Rs σ'-> ∃km qj,km.w=σ'.w/\J k' qj km/\ ∀j,xa ops n i j=true->V j qj=V j nm):vx P ops N n J V ρ σ nm i o k':=by
 obtain ⟨σ',hr,hz⟩:=he;obtain ⟨km,qj,tK,h2,h3⟩:=h σ' hz;refine .inl ⟨hw, .inr (.inl ⟨km,qj,hd, ?_,h2,h3⟩)⟩;rw [tK];exact hr
theorem mf{Rz:Value->St->Prop}(hw:Region.wanted o (yv ops N ρ)=true)(he:Cx P σ N ρ o Rz)(h: ∀v σ',Rz v σ'-> ∃km qj,km.w=σ'.w/\V i qj=v/\J k' qj km/\ ∀j,xa ops n i j=true->V j qj=V j nm):vx P ops N n J V ρ σ nm i o k':=by
 obtain ⟨f,args,hr,hc⟩:=he;refine .inl ⟨hw, .inr (.inr ⟨f,args,hr,hc.mono ?_⟩)⟩;rintro e w' ⟨v,σ',rfl,rfl,hz⟩;obtain ⟨km,qj,tK,h1,h2,h3⟩:=h v σ' hz;exact ⟨v,km,qj,rfl,tK.symm,h1,h2,h3⟩
theorem abp{i:Nat}{o:Oper}{l:List (Nat×Nat)}(hl:(l.all λp=>Nat.beq p.1 p.2)=true)
  (h: ∀k nm ρ σ,J k nm σ->(∀t,xd ops n t=true->ρ t=j4 t)->(∀j,waits o j=true->Nat.blt j n=true-> ∀d,dx ops j=some d->look N ρ d=V j nm)->vx P ops N n J V ρ σ nm i o k):
  EV (Ob P ops N n j4 J V i o) l:=by
 induction l with
 | nil=>trivial
 | cons p r ih=>
  obtain ⟨a,b⟩:=p;simp only [List.all_cons,qa4] at hl;have:=Nat.eq_of_beq_eq_true hl.1;subst this;exact ⟨λnm ρ σ hJ bh aP=>h a nm ρ σ hJ bh aP,ih hl.2⟩
theorem ac{m k:Nat}{o:Oper}{r:List Oper}{Al:List (List (Nat×Nat))}(hl:((SU Al k).all λp=>Nat.beq p.1 p.2)=true)
 (h: ∀k' nm ρ σ,J k' nm σ->(∀t,xd ops n t=true->ρ t=j4 t)->(∀j,waits o j=true->Nat.blt j n=true-> ∀d,dx ops j=some d->look N ρ d=V j nm)->vx P ops N n J V ρ σ nm k o k')
 (t:py (λi o=>EV (Ob P ops N n j4 J V i o) (SU Al i)) m (k+1) r):py (λi o=>EV (Ob P ops N n j4 J V i o) (SU Al i)) (m+1) k (o::r):=all_cons (abp hl h) t
theorem wn{d:Option Nat}{op:Op}{ty:TypeId}{pos:String}{af:Array Edge}{y:Nat->Option Bool}:Region.wanted ⟨d,op,ty,pos,af,none⟩ y=true:=aQ _ rfl _
def Yz(F:Nat->Prop):List Nat->Prop
 | []=>True
 | j::r=>F j/\Yz F r
theorem abq{F:Nat->Prop}: ∀{l:List Nat},Yz F l-> ∀j∈l,F j
 | [],_,_,h=>by cases h
 | a::r,⟨h,t⟩,j,hm=>by
  rcases qa9.1 hm with e | hm
  ·cases e;exact h
  ·exact abq t j hm
theorem aeU(l:List Nat)(hb:((List.range n).all λj=> !xa ops n i j || l.contains j)=true)(h:Yz (λj=>V j qj=V j nm) l): ∀j,xa ops n i j=true->V j qj=V j nm:=by
 intro j hj;have Uh:j<n:=by
  simp only [xa,qa4] at hj;exact qa7 λhc=>by rw [vw hc] at hj;cases hj.1.1
 have:=qab.1 hb j (qas.2 Uh);rw [hj] at this;simp only [qah,Bool.false_or,List.contains_iff_mem] at this;exact abq h j this
end
theorem Ui{N:Nat}{ρ:Nat->Value}{L:List (Nat×Value)}(h: ∀p∈L,look N ρ p.1=p.2):fr N ρ=fr N (cu ρ L):=by
 refine PT λt ht=> ?_
 induction L with
 | nil=>rfl
 | cons p r ih=>
  have h1:=h p (by simp);rw [cu];by_cases e:t=p.1
  ·subst e;rw [Lm, ←h1,uN _ ht];rfl
  ·rw [sV e];exact ih (λq hq=>h q (by simp [hq]))
theorem Md.jG{S:BS}{a b c:St}(h:Md S a b)(k:Md (dD []) b c):Md S a c:=h.step k (λ_ _ h=>h.elim)
theorem Md.comp{S S':BS}{a b c:St}(h:Md S a b)(k:Md S' b c):Md (λi=>S i\/S' i) a c:=(h.mono λ_ h=> .inl h).step k (λ_ _ h=> .inr h)
theorem RS.CF{el:Nat}{α:Type}[Rp α]{σ σ':St}{S:BS}{v u:Value}{xs:List α}{a:Int}{e:α}{b o:Nat}(h:RS el σ v xs)(hg:bz xs a=some e)(hi:Ix v a (Rp.sz α) b o){k:Nat}(hk:k<Rp.sz α)
  (hc:jl σ.w.heap b (o+k)=some u) (m:Md S σ σ'):jl σ'.w.heap b (o+k)=some u:=by
 obtain ⟨h0,h1,h2⟩:=kT hg;obtain ⟨ob,mm,c,rfl,g0,g1,rfl⟩:=hi.it;rcases h with ⟨_,rfl⟩ | ⟨b,o,c,hv,_,ve,Yr,hA⟩
 ·simp at h1
 ·cases hv;have:(a.toNat+1)*Rp.sz α<=xs.length*Rp.sz α:=qak _ h1;rw [Nat.add_mul] at this;rw [iA] at hc ⊢;rw [←hc];exact m.ext.cell b _ (by omega)
theorem RS.Qg{el:Nat}{σ σ':St}{S:BS}{b o c:Nat}{zs:List Int}(h:RS el σ (Sl (some ⟨b,o,none⟩) zs c) zs)(hc: ∀j,(hj:j<zs.length)->jl σ.w.heap b (o+j)=some (I zs[j]))(m:Md S σ σ'):
  ∀j,(hj:j<zs.length)->jl σ'.w.heap b (o+j)=some (I zs[j]):=by
 intro j hj;rcases h with ⟨_,rfl⟩ | ⟨b,o,c,hv,_,ve,Yr,hA⟩
 ·simp at hj
 ·cases hv;rw [←hc j hj,iA,iA];exact m.ext.cell b _ (by have:Rp.sz Int=1:=rfl;rw [this] at Yr;omega)
end Go.Vs
namespace Go.Vs
open Go
section
variable{P:Program}{H:Array Obj}{n:Nat}{ρ:Nat->Value}{d:Option Nat}{ty T:TypeId}{pos:String}{af:Array Edge}{gd:Option (Nat×Bool)}
theorem nN{fs:Array Field}{parts:Array (Nat×Operand)}{ps:List (Nat×Value)}{cs:Array Value}{z:Value}{s bt:Nat}{places:Array (Nat×Nat)}(hT:P.underlying T=some (.struct fs))(hi:TI P T z s bt)
  (T7: ∀w,(fs.mapM (λf=>do pure (f.offset, ←sizeOf f.type)):Sem (Array (Nat×Nat))).run P w= .ok places w) (hp:parts.toList.map (λp=>(p.1,ev n ρ p.2))=ps)
  (zq:Instr.fill (places[·]?) z.cells ps=some cs):dX P H n ρ ⟨d, .build T parts,ty,pos,af,gd⟩ (.agg cs):=λw _=>by
 have Yn:(parts.map fun (i,x)=>(i,ev n ρ x))=ps.toArray:=by rw [←hp, ←Array.toList_map]
 simp only [execOp,Yn,Instr.build,underlying,hT,pv hi,Sem.run_bind,run_program,Result.andThen_ok,Sem.run_pure,T7,zq]
theorem YA{E m:Nat}{xs:List Int}{x y:Operand}{a e:Int}{z:Value}{bt:Nat}(hT:P.underlying T=some (.array m E))(hi:TI P E z 1 bt)(hE:P.underlying E=some (.int .i64))
  (hx:ev n ρ x= .agg (xs.map I).toArray) (hy:ev n ρ y=I a) (hg:bz xs a=some e) (hl:xs.length=m):dX P H n ρ ⟨d, .index T x y,ty,pos,af,gd⟩ (I e):=by
 obtain ⟨h0,h1,h2⟩:=kT hg;exact EI hT hi hE hx hy h0 (by omega) (by rw [qb3 h1,h2])
end
theorem oi{α β:Type}{a:Option Addr}{xs:List α}{ys:List β}{c:Nat}(h:xs.length=ys.length):Sl a xs c=Sl a ys c:=by unfold Sl;rw [h]
section
variable{P:Program}{n:Nat}{ρ:Nat->Value}{σ:St}
theorem nO{T:TypeId}{D:TypeDesc}{cs:List Value}{z:Value}{s bt b:Nat}(hT:P.underlying T=some D)(hD:(match D with | .struct _=>false | .array _ _=>false | _=>true)=false)
  (hi:TI P T z s bt) (hlen:cs.length=s) (hB: ∀j,(hj:j<cs.length)->jl σ.w.heap b (0+j)=some cs[j]):(loadVar T ⟨b,0,none⟩).run P σ.w= .ok (.agg cs.toArray) σ.w:=by
 have wE:(isAgg T).run P σ.w= .ok true σ.w:=by
  simp only [isAgg,underlying,Sem.run_bind,run_program,Result.andThen_ok,hT,Sem.run_pure];cases D <;> simp_all
 have hld:=run_loadCellsFrom (P:=P) σ.w b 0 s 0 cs [] hlen (λj hj=>by rw [←iA];simpa using hB j hj);simp [loadVar,wE,run_typeInfo hi,loadCells,hld]
def lE(P:Program)(n:Nat)(ρ:Nat->Value)(w:World):List ResultVar->List Value->Prop
 | [],[]=>True
 | .tmp t::r,v::vs=>look n ρ t=v/\lE P n ρ w r vs
 | .cell t T::r,v::vs=>(∃a,look n ρ t= .pointer (some a)/\(loadVar T a).run P w= .ok v w)/\lE P n ρ w r vs
 | _,_=>False
theorem gL{w:World}:lE P n ρ w [] []:=trivial
theorem j6{w:World}{t:Nat}{r:List ResultVar}{v:Value}{vs:List Value}(h:look n ρ t=v)(k:lE P n ρ w r vs):lE P n ρ w (.tmp t::r) (v::vs):=⟨h,k⟩
theorem uh{w:World}{t T b:Nat}{r:List ResultVar}{v:Value}{vs:List Value}(h:look n ρ t=pt b 0)(hl:(loadVar T ⟨b,0,none⟩).run P w= .ok v w)(k:lE P n ρ w r vs):lE P n ρ w (.cell t T::r) (v::vs):=⟨⟨_,h,hl⟩,k⟩
def G9(D:Array Value):ResultVar->Sem Value
 | .tmp t=>pure (D.getD t undef)
 | .cell a t=>do loadVar t (←asAddr (D.getD a undef))
theorem Uj{w:World}: ∀(rs:List ResultVar) (vs:List Value),lE P n ρ w rs vs->(rs.mapM (G9 (fr n ρ).tmps)).run P w= .ok vs w:=by
 intro rs
 induction rs with
 | nil=>intro vs h;cases vs with
  | nil=>rfl
  | cons=>exact h.elim
 | cons r rs ih=>
  intro vs h;cases vs with
  | nil=>cases r <;> exact h.elim
  | cons v vs=>
   cases r with
   | tmp t=>
    obtain ⟨h1,h2⟩:=h;have e:(G9 (fr n ρ).tmps (.tmp t)).run P w= .ok v w:=by
     simp only [G9,look_eq,h1,Sem.run_pure]
    simp only [List.mapM_cons,Sem.run_bind,e,Result.andThen_ok,ih vs h2,Sem.run_pure]
   | cell t T=>
    obtain ⟨⟨a,h1,hl⟩,h2⟩:=h;have e:(G9 (fr n ρ).tmps (.cell t T)).run P w= .ok v w:=by
     simp only [G9,look_eq,h1,asAddr,Sem.run_bind,Sem.run_pure,Result.andThen_ok,hl]
    simp only [List.mapM_cons,Sem.run_bind,e,Result.andThen_ok,ih vs h2,Sem.run_pure]
def abr:List Value->Value
 | [v]=>v
 | vs=> .tuple vs.toArray
theorem dp{fn:Func}{w:World}{rs:List ResultVar}{vs:List Value}{v:Value}(h:fn.results=rs.toArray)(hk:lE P n ρ w rs vs)(hv:abr vs=v):(results fn (fr n ρ).tmps).run P w= .ok v w:=by
 have hr:=Uj rs vs hk;have hm:(fn.results.mapM (G9 (fr n ρ).tmps)).run P w= .ok vs.toArray w:=by
  rw [h,List.mapM_toArray];show ((List.mapM (G9 (fr n ρ).tmps) rs) >>= λa=>pure (List.toArray a):Sem (Array Value)).run P w=_;rw [Sem.run_bind,hr];rfl
 have cC:results fn (fr n ρ).tmps=(do let vs←fn.results.mapM (G9 (fr n ρ).tmps);pure (if h:vs.size=1 then vs[0] else .tuple vs)):=by
  unfold results;congr 1
 rw [cC,Sem.run_bind,hm];simp only [Result.andThen_ok,Sem.run_pure];rw [←hv]
 match vs with
 | []=>rfl
 | [v]=>rfl
 | v::u::r=>simp [abr]
end
end Go.Vs
namespace Go.Vs
open Go
structure Pb(S:BS)(σ σ':St):Prop where
 w:σ'.w=σ.w
 dR:σ'.dR=σ.dR
 fV: ∀b, ¬S b->σ'.fV b=σ.fV b
 le: ∀b,σ.fV b<=σ'.fV b
theorem Pb.md{S:BS}{σ σ':St}(h:Pb S σ σ'):Md S σ σ':=
 ⟨by rw [h.w], .inr (by rw [h.w]),by rw [h.w],by rw [h.w];exact .inr (qa3 _),h.dR,⟨by unfold St.size;rw [h.w];exact qa3 _,λb _=>by rw [h.w],h.le⟩,λb _ _=>by rw [h.w],λb _ hn=>h.fV b hn⟩
theorem Pb.trans{S S':BS}{a b c:St}(h:Pb S a b)(k:Pb S' b c):Pb (λi=>S i\/S' i) a c:=
 ⟨k.w.trans h.w,k.dR.trans h.dR,λb hb=>(k.fV b (λe=>hb (.inr e))).trans (h.fV b (λe=>hb (.inl e))),λb=>qaa (h.le b) (k.le b)⟩
theorem Pb.mono{S S':BS}{a b:St}(h:Pb S a b)(hs: ∀i,S i->S' i):Pb S' a b:=⟨h.w,h.dR,λb hb=>h.fV b (λe=>hb (hs b e)),h.le⟩
def Ch.big(K:List Ch):Ch where
 dup:=false
 fp:=dD K
 as σ:=iQ σ K/\apart K
 G5 h:=by cases h
 bG h:=lD h.1
 fb m hd h:=⟨iz h.1 m hd,h.2⟩
def abt{α:Type}[Rp α](K:List Ch)(v:Value)(xs:List α):Prop:= ∀σ,iQ σ K->apart K-> ∃σ',Pb (dD K) σ σ'/\RS 0 σ' v xs
inductive gD:List Ch->List Ch->List Ch->Prop
 | nil:gD [] [] []
 | sb {α:Type} [Rp α] {lo el:Nat} {v:Value} {xs:List α} {Ln A B:List Ch}:gD Ln A B->gD (Ch.own lo el v xs::Ln) A (Ch.ro 0 v xs::B)
 | Qh {α:Type} [Rp α] {lo el:Nat} {v v':Value} {xs ys:List α} {Ln A B:List Ch}:(∀σ,Ow σ lo el v xs->Ow σ lo el v' ys/\ ∀b,blk v'=some b->blk v=some b)->gD Ln A B->gD (Ch.own lo el v xs::Ln) A (Ch.ro 0 v' ys::B)
 | Qi {α:Type} [Rp α] {v:Value} {xs:List α} {K Ln A B:List Ch}:abt K v xs->gD Ln A B->gD (Ch.big K::Ln) A (Ch.ro 0 v xs::B)
 | same {c:Ch} {Ln A B:List Ch}:gD Ln A B->gD Ln (c::A) (c::B)
 | again {α:Type} [Rp α] {v:Value} {xs:List α} {k:Nat} {Ln A B:List Ch}:gD Ln A B->nth B k=some (Ch.ro 0 v xs)->gD Ln A (Ch.ro 0 v xs::B)
section
variable{P:Program}{n:Nat}{ρ:Nat->Value}{ar σ:St}{S0:BS}{Ln A B R:List Ch}
theorem gD.dD(h:gD Ln A B): ∀b,Go.Vs.dD B b↔Go.Vs.dD A b:=by
 induction h with
 | nil=>intro b;exact Iff.rfl
 | sb _ ih=>intro b;exact ⟨λh=>h.elim (λh=>h.elim) (ih b).1,λh=> .inr ((ih b).2 h)⟩
 | Qh _ _ ih=>intro b;exact ⟨λh=>h.elim (λh=>h.elim) (ih b).1,λh=> .inr ((ih b).2 h)⟩
 | Qi _ _ ih=>intro b;exact ⟨λh=>h.elim (λh=>h.elim) (ih b).1,λh=> .inr ((ih b).2 h)⟩
 | same _ ih=>intro b;exact or_congr Iff.rfl (ih b)
 | again _ _ ih=>intro b;exact ⟨λh=>h.elim (λh=>h.elim) (ih b).1,λh=> .inr ((ih b).2 h)⟩
theorem gD.apart(h:gD Ln A B):Go.Vs.apart A->Go.Vs.apart B:=by
 induction h with
 | nil=>exact id
 | sb _ ih=>exact λh=>⟨λ_ h=>h.elim,ih h⟩
 | Qh _ _ ih=>exact λh=>⟨λ_ h=>h.elim,ih h⟩
 | Qi _ _ ih=>exact λh=>⟨λ_ h=>h.elim,ih h⟩
 | same h0 ih=>exact λh=>⟨λb hb fT=>h.1 b hb ((h0.dD b).1 fT),ih h.2⟩
 | again _ _ ih=>exact λh=>⟨λ_ h=>h.elim,ih h⟩
theorem Ow.pb{α:Type}[Rp α]{el lo:Nat}{v:Value}{xs:List α}(h:Ow σ lo el v xs): ∃σ',Pb (λb=>blk v=some b) σ σ'/\RS 0 σ' v xs:=by
 have hl:=h.lt;rcases h with ⟨rfl,rfl⟩ | ⟨b,o,c,C,T,rfl,h2,h3,h4,h5,h6,h7⟩
 ·exact ⟨σ,⟨rfl,rfl,λ_ _=>rfl,λ_=>qa3 _⟩,RS.nil⟩
 ·have hb:=hl b rfl;have hE:=St.EL (σ:=σ) (e:=o+xs.length*Rp.sz α) hb;refine ⟨σ.PG b (o+xs.length*Rp.sz α) hb,⟨rfl,rfl,λi j0=> ?_,hE.fV⟩, .inr ⟨b,o,c,rfl,qa8 _,h4, ?_,λi hi=>((h7 i hi).low (qa8 _)).same hE rfl⟩⟩
  ·show (if i=b then _ else _)=_;rw [if_neg (by intro e;subst e;exact j0 rfl)]
  ·show _<=(if b=b then _ else _);rw [if_pos rfl];omega
theorem gD.PG(h:gD Ln A B): ∀{σ:St},iQ σ Ln->Go.Vs.apart Ln->iQ σ A->(∀b,Go.Vs.dD A b-> ¬Go.Vs.dD Ln b)-> ∃rU,Pb (Go.Vs.dD Ln) σ rU/\iQ rU B:=by
 induction h with
 | nil=>intro σ _ _ _ _;exact ⟨σ,⟨rfl,rfl,λ_ _=>rfl,λ_=>qa3 _⟩,trivial⟩
 | @sb α _ lo el v xs Ln A B hl ih=>
  rintro σ ⟨h1,h2⟩ ⟨h3,h4⟩ hA hd;obtain ⟨pB,p1,hR⟩:=Ow.pb (h1:Ow σ lo el v xs);obtain ⟨il,p2,h5⟩:=ih (iz h2 p1.md (λb hb fT=>h3 b fT hb)) h4 (iz hA p1.md (λb hb fT=>hd b hb (.inl fT))) (λb hb fT=>hd b hb (.inr fT));exact ⟨il,(p1.trans p2).mono (λb hb=>hb),hR.ext p2.md.ext,h5⟩
 | @Qh α _ lo el v v' xs ys Ln A B hV hl ih=>
  rintro σ ⟨h1,h2⟩ ⟨h3,h4⟩ hA hd;obtain ⟨hO,fT⟩:=hV σ h1;obtain ⟨pB,p0,hR⟩:=Ow.pb hO;have p1:=p0.mono (S':=λb=>blk v=some b) fT;obtain ⟨il,p2,h5⟩:=ih (iz h2 p1.md (λb hb fT=>h3 b fT hb)) h4 (iz hA p1.md (λb hb fT=>hd b hb (.inl fT))) (λb hb fT=>hd b hb (.inr fT));exact ⟨il,(p1.trans p2).mono (λb hb=>hb),hR.ext p2.md.ext,h5⟩
 | @Qi α _ v xs K Ln A B hK hl ih=>
  rintro σ ⟨h1,h2⟩ ⟨h3,h4⟩ hA hd;obtain ⟨pB,p1,hR⟩:=hK σ h1.1 h1.2;obtain ⟨il,p2,h5⟩:=ih (iz h2 p1.md (λb hb fT=>h3 b fT hb)) h4 (iz hA p1.md (λb hb fT=>hd b hb (.inl fT))) (λb hb fT=>hd b hb (.inr fT));exact ⟨il,(p1.trans p2).mono (λb hb=>hb),hR.ext p2.md.ext,h5⟩
 | @same c Ln A B hl ih=>
  rintro σ h1 h2 ⟨h3,h4⟩ hd;obtain ⟨rU,p,h5⟩:=ih h1 h2 h4 (λb hb=>hd b (.inr hb));exact ⟨rU,p,c.fb p.md (λb hb=>hd b (.inl hb)) h3,h5⟩
 | again hl hk ih=>
  intro σ h1 h2 hA hd;obtain ⟨rU,p,h5⟩:=ih h1 h2 hA hd;exact ⟨rU,p,ES hk h5,h5⟩
def Ab(m:Nat)(c:Ch):Prop:= ∀σ σ':St,σ'.w=σ.w->(∀b,m<=b\/c.fp b->σ'.fV b=σ.fV b)->c.as σ->c.as σ'
def wX(m:Nat):List Ch->Prop
 | []=>True
 | c::l=>Ab m c/\wX m l
theorem Uk{m el:Nat}{σ σ':St}(hw:σ'.w=σ.w)(hv: ∀b,m<=b->σ'.fV b=σ.fV b)(h:m<=el):M4 el σ σ':=
 ⟨λb _ _=>by rw [hw],λb hb=>qav (hv b (qaa h hb)).symm⟩
theorem Ab.own{α:Type}[Rp α]{m lo el:Nat}{v:Value}{xs:List α}(h:m<=el):Ab m (Ch.own lo el v xs):=by
 intro σ σ' hw hv hO;rcases (hO:Ow σ lo el v xs) with hO | ⟨b,o,c,C,T,rfl,h2,h3,h4,h5,h6,h7⟩
 ·exact .inl hO
 ·refine .inr ⟨b,o,c,C,T,rfl,h2,by rw [hw];exact h3,h4,h5,(hv b (.inr rfl)).trans h6,λi hi=> ?_⟩;obtain ⟨cs,h8,h9⟩:=h7 i hi;exact ⟨cs,Rp.vd (Uk hw (λb hb=>hv b (.inl hb)) h) h8,λj hj=>by rw [←h9 j hj];unfold St.cell;rw [hw]⟩
theorem Ab.Dz{α:Type}[Rp α][Sc α]{m lo el:Nat}{v:Value}{xs:List α}:Ab m (Ch.own lo el v xs):=by
 intro σ σ' hw hv hO;exact (Ab.own (m:=m) (el:=m) (lo:=lo) (v:=v) (xs:=xs) (qa3 m) σ σ' hw hv (Ow.sc (hO:Ow σ lo el v xs)):Ow σ' lo m v xs).sc
theorem A6{m:Nat}{σ σ':St}(hw:σ'.w=σ.w): ∀{L:List Ch},wX m L->(∀b,m<=b\/Go.Vs.dD L b->σ'.fV b=σ.fV b)->iQ σ L->iQ σ' L
 | [],_,_,_=>trivial
 | c::l,⟨h1,h2⟩,hv,⟨h3,h4⟩=>⟨h1 σ σ' hw (λb hb=>hv b (hb.imp id .inl)) h3,A6 hw h2 (λb hb=>hv b (hb.imp id .inr)) h4⟩
open Classical in
theorem bN.sb{f:FuncId}{args:List Value}{post:Nat->Value->List Ch->Prop}(hl:gD Ln A B)(hc:bN P f args B post)(H:Hp S0 ar σ (Ln++(A++R)))(nj: ∀m v L',post m v L'->wX m L'):
  Calls P f args.toArray σ.w λe w'=> ∃v σ' L',e= .returned v/\w'=σ'.w/\post σ.size v L'/\Hp S0 ar σ' (L'++(Ln++R))/\Md (dD A) σ σ':=by
 obtain ⟨a1,a23⟩:=dY.1 H.all;obtain ⟨a2,a3⟩:=dY.1 a23;obtain ⟨p1,p23,p4⟩:=eL.1 H.ap;obtain ⟨p2,p3,p5⟩:=eL.1 p23;have pA: ∀b,dD A b-> ¬dD Ln b:=λb hb h=>p4 b h (bI.2 (.inl hb));have pR: ∀b,dD R b-> ¬dD Ln b:=λb hb h=>p4 b h (bI.2 (.inr hb));obtain ⟨rU,pp,aB⟩:=hl.PG a1 p1 a2 pA;have mo:rU.size=σ.size:=by unfold St.size;rw [pp.w]
 have Hb:Hp (dD B) rU rU B:=Hp.begin aB (hl.apart p2);have hr:=hc.runs rU σ.size (qav mo.symm) Hb;rw [pp.w] at hr;refine hr.mono ?_;rintro e w' ⟨v,il,L',rfl,rfl,hp,H'⟩;have TX:=hl.dD;have hle:σ.size<=il.size:=mo▸H'.md.size
 let jk:St:=⟨il.w,λc=>if dD Ln c then σ.fV c else il.fV c,λb hb=>by
  have: ¬dD Ln b:=λh=>absurd (qa2 (lD a1 b h) hle) (qce.2 hb);rw [if_neg this];exact il.ok b hb,il.dR⟩
 have O5: ∀b,dD Ln b->jk.fV b=σ.fV b:=λb h=>if_pos h;have vI: ∀b, ¬dD Ln b->jk.fV b=il.fV b:=λb h=>if_neg h;have m3:Md (dD A) σ jk:=by
  refine ⟨?_, ?_, ?_, ?_,H'.md.dR.trans pp.dR,⟨hle,λb ho=> ?_,λb=> ?_⟩,λb hb hn=> ?_,λb hb hn=> ?_⟩
  ·exact H'.md.os.trans (by rw [pp.w])
  ·have:=H'.md.tape;rw [pp.w,pp.dR] at this;exact this
  ·exact H'.md.output.trans (by rw [pp.w])
  ·have:=H'.md.dr;rw [pp.w,pp.dR] at this;exact this
  ·have h1:il.w.heap[b]? =rU.w.heap[b]? :=H'.md.ext.block b (qa2 ho (pp.le b));show il.w.heap[b]? =_;rw [h1,pp.w]
  ·by_cases h:dD Ln b
   ·exact qav (O5 b h).symm
   ·rw [vI b h];exact qaa (pp.le b) (H'.md.ext.fV b)
  ·have:=H'.md.block b (by rw [mo];exact hb) (λh=>hn ((TX b).1 h));rw [pp.w] at this;exact this
  ·by_cases h:dD Ln b
   ·exact O5 b h
   ·rw [vI b h,H'.md.fV b (by rw [mo];exact hb) (λh=>hn ((TX b).1 h)),pp.fV b h]
 have EB: ∀b,dD L' b->b<σ.size->dD A b:=λb hb bG=>(TX b).1 (H'.Cr b hb (by rw [mo];exact bG));have aL':iQ jk L':=A6 (σ:=il) (σ':=jk) rfl (nj _ _ _ hp) (λb hb=>by
  refine vI b λh=> ?_;have bG:=lD a1 b h;rcases hb with hb | hb
  ·omega
  ·exact pA b (EB b hb bG) h) H'.all
 refine ⟨v,jk,L',rfl,rfl,hp,⟨H.md.step m3 (λi hi h=>H.Cr i (bI.2 (.inr (bI.2 (.inl h)))) hi),dY.2 ⟨aL',dY.2 ⟨iz a1 m3 (λb hb h=>pA b h hb),iz a3 m3 (λb hb h=>p5 b h hb)⟩⟩,
  eL.2 ⟨H'.ap,eL.2 ⟨p1,p3,λb hb h=>pR b h hb⟩,λb hb fT=> ?_⟩,λb hb bG=> ?_⟩,m3⟩
 ·rcases bI.1 fT with h | h
  ·exact pA b (EB b hb (lD a1 b h)) h
  ·exact p5 b (EB b hb (lD a3 b h)) h
 ·rcases bI.1 hb with hb | hb
  ·exact H.Cr b (bI.2 (.inr (bI.2 (.inl (EB b hb (qa2 bG H.md.size)))))) bG
  ·rcases bI.1 hb with hb | hb
   ·exact H.Cr b (bI.2 (.inl hb)) bG
   ·exact H.Cr b (bI.2 (.inr (bI.2 (.inr hb)))) bG
theorem qu{f:FuncId}{args:List Value}{post:Nat->Value->List Ch->Prop}{o:Oper}(hl:gD Ln A B)(hc:bN P f args B post)(he:Enters P n ρ o f args σ.w)(H:Hp S0 ar σ (Ln++(A++R)))(nj: ∀m v L',post m v L'->wX m L'):
  Cx P σ n ρ o λv σ'=> ∃L',post σ.size v L'/\Hp S0 ar σ' (L'++(Ln++R))/\Md (dD A) σ σ'/\ar.size<=σ.size:=
 ⟨f,args,he,(hc.sb hl H nj).mono (by rintro e w' ⟨v,σ',L',rfl,rfl,hp,H',m⟩;exact ⟨v,σ',rfl,rfl,L',hp,H',m,H.size⟩)⟩
end
end Go.Vs
namespace Go.Vs
structure Lc{α:Type}(cmp:α->α->Int)(xs:List α):Prop where
 irrefl: ∀x∈xs, ¬cmp x x<0
 trans: ∀x∈xs, ∀y∈xs, ∀z∈xs,cmp x y<0->cmp y z<0->cmp x z<0
 Qj: ∀x∈xs, ∀y∈xs, ¬cmp x y<0-> ¬cmp y x<0->x=y
def leC{α:Type}(cmp:α->α->Int)(x y:α):Bool:= !decide (cmp y x<0)
def nP{α:Type}(cmp:α->α->Int)(xs:List α):List α:=xs.mergeSort (leC cmp)
theorem DI{α:Type}{cmp:α->α->Int}{xs:List α}:(nP cmp xs).length=xs.length:=List.length_mergeSort _
theorem Lc.asymm{α:Type}{cmp:α->α->Int}{xs:List α}(h:Lc cmp xs){x y:α}(hx:x∈xs)(hy:y∈xs)(h1:cmp x y<0): ¬cmp y x<0:=
 λh2=>h.irrefl x hx (h.trans x hx y hy x hx h1 h2)
theorem Lc.Lx{α:Type}{cmp:α->α->Int}{xs:List α}(h:Lc cmp xs){x y z:α}(hx:x∈xs)(hy:y∈xs)(hz:z∈xs)(h1: ¬cmp y x<0)(h2: ¬cmp z y<0): ¬cmp z x<0:=by
 intro h3;by_cases a:cmp x y<0
 ·by_cases b:cmp y z<0
  ·exact h.asymm hx hz (h.trans x hx y hy z hz a b) h3
  ·have:=h.Qj y hy z hz b h2;subst this;exact h1 h3
 ·have:=h.Qj x hx y hy a h1;subst this;exact h2 h3
theorem Ly{α:Type}{cmp:α->α->Int}: ∀{l r:List α},Lc cmp l->r.Perm l->r.Pairwise (λx y=> ¬cmp y x<0)->l.Pairwise (λx y=> ¬cmp y x<0)->r=l
 | [],r,_,hp,_,_=>List.Perm.eq_nil hp
 | x::l,r,h,hp,hr,hl=>by
  cases r with
  | nil=>exact absurd hp.length_eq (by simp)
  | cons y r=>
   obtain ⟨hr1,hr2⟩:=qc5.1 hr;obtain ⟨vJ,cU⟩:=qc5.1 hl;have hy:y∈x::l:=hp.mem_iff.1 (by simp);have hx:x∈y::r:=hp.mem_iff.2 (by simp);have e:y=x:=by
    rcases qa9.1 hx with e | wV
    ·exact e.symm
    rcases qa9.1 hy with e | Yb
    ·exact e
    exact h.Qj y hy x (by simp) (vJ y Yb) (hr1 x wV)
   subst e;have Qd:=(List.perm_cons y).1 hp;rw [Ly (l:=l) (r:=r) ⟨λa ha=>h.irrefl a (by simp [ha]),λa ha b hb c hc=>h.trans a (by simp [ha]) b (by simp [hb]) c (by simp [hc]),λa ha b hb=>h.Qj a (by simp [ha]) b (by simp [hb])⟩ Qd hr2 cU]
theorem DJ{α:Type}{cmp:α->α->Int}{xs:List α}(h:Lc cmp xs):(nP cmp xs).Pairwise (λx y=> ¬cmp y x<0):=by
 let e:{x // x∈xs}->{x // x∈xs}->Bool:=λa b=>leC cmp a.1 b.1
 have hs:=List.pairwise_mergeSort (le:=e) (λa b c h1 h2=>by
  simp only [e,leC,qbe,decide_eq_false_iff_not] at h1 h2 ⊢;exact h.Lx a.2 b.2 c.2 h1 h2) (λa b=>by
  simp only [e,leC,qbz,qbe,decide_eq_false_iff_not];by_cases hb:cmp b.1 a.1<0
  ·exact .inr (h.asymm b.2 a.2 hb)
  ·exact .inl hb) xs.attach
 have hm:nP cmp xs=(xs.attach.mergeSort e).map (·.1):=by
  unfold nP;have:=List.map_mergeSort (f:=λa:{x // x∈xs}=>a.1) (r:=e) (s:=leC cmp) (l:=xs.attach) (λa _ b _=>rfl);rw [this,List.attach_map_subtype_val]
 rw [hm,List.pairwise_map];refine hs.imp fun {a b} nj=> ?_;simpa [e,leC] using nj
theorem JK{α:Type}{cmp:α->α->Int}{xs r:List α}(h:Lc cmp xs)(hp:r.Perm xs)(hr:r.Pairwise (λx y=> ¬cmp y x<0)):r=nP cmp xs:=by
 have hps:(nP cmp xs).Perm xs:=List.mergeSort_perm _ _;have hm: ∀x,x∈nP cmp xs->x∈xs:=λx hx=>hps.mem_iff.1 hx;exact Ly ⟨λa ha=>h.irrefl a (hm a ha),λa ha b hb c hc=>h.trans a (hm a ha) b (hm b hb) c (hm c hc),λa ha b hb=>h.Qj a (hm a ha) b (hm b hb)⟩ (hp.trans hps.symm) hr (DJ h)
open Classical in
noncomputable def M.Ha{α:Type}(cmp:α->α->Option Int)(xs:List α):Option (List α):=
 if xs.length<=1000000/\(∀x∈xs, ∀y∈xs, ∃r,cmp x y=some r)/\Lc (λx y=>(cmp x y).getD 0) xs then some (nP (λx y=>(cmp x y).getD 0) xs) else none
theorem JL{α:Type}{cmp:α->α->Option Int}{xs r:List α}(h:M.Ha cmp xs=some r):xs.length<=1000000/\(∀x∈xs, ∀y∈xs, ∃r,cmp x y=some r)/\Lc (λx y=>(cmp x y).getD 0) xs/\r=nP (λx y=>(cmp x y).getD 0) xs:=by
 unfold M.Ha at h;split at h
 ·rename_i hc;exact ⟨hc.1,hc.2.1,hc.2.2,(qaf h).symm⟩
 ·cases h
theorem Hc{α:Type}{cmp:α->α->Option Int}{lt:α->α->Bool}{xs:List α}(hn:xs.length<=1000000)(hc: ∀x∈xs, ∀y∈xs, ∃r,cmp x y=some r/\decide (r<0)=lt x y)
  (hi: ∀x∈xs,lt x x=false) (ht: ∀x∈xs, ∀y∈xs, ∀z∈xs,lt x y=true->lt y z=true->lt x z=true) (ha: ∀x∈xs, ∀y∈xs,x≠y->lt x y=true\/lt y x=true):
  ∃r,M.Ha cmp xs=some r/\r.Perm xs/\r.Pairwise (λx y=>lt y x=false):=by
 have hv: ∀x∈xs, ∀y∈xs,(cmp x y).getD 0<0↔lt x y=true:=by
  intro x hx y hy;obtain ⟨r,h1,h2⟩:=hc x hx y hy;rw [h1, ←h2];simp
 have hL:Lc (λx y=>(cmp x y).getD 0) xs:=by
  refine ⟨λx hx h=> ?_,λx hx y hy z hz h1 h2=> ?_,λx hx y hy h1 h2=> ?_⟩
  ·rw [hv x hx x hx,hi x hx] at h;cases h
  ·exact (hv x hx z hz).2 (ht x hx y hy z hz ((hv x hx y hy).1 h1) ((hv y hy z hz).1 h2))
  ·refine qa7 λj0=> ?_;rcases ha x hx y hy j0 with h | h
   ·exact h1 ((hv x hx y hy).2 h)
   ·exact h2 ((hv y hy x hx).2 h)
 have hp:(nP (λx y=>(cmp x y).getD 0) xs).Perm xs:=List.mergeSort_perm _ _;have LC: ∀x∈xs, ∀y∈xs, ∃r,cmp x y=some r:=λx hx y hy=>by
  obtain ⟨r,h1,_⟩:=hc x hx y hy;exact ⟨r,h1⟩
 refine ⟨_,by unfold M.Ha;rw [if_pos ⟨hn,LC,hL⟩],hp, ?_⟩
 ·have hs:=DJ hL;rw [qaw] at hs ⊢;intro i j h1 h2 qx;have hx:=hp.mem_iff.1 (qai h1);have hy:=hp.mem_iff.1 (qai h2);have:=hs i j h1 h2 qx;rw [hv _ hy _ hx] at this;simpa using this
end Go.Vs
namespace Go.Vs
open Go
section
variable{P:Program}{H:Array Obj}{n:Nat}{ρ:Nat->Value}{dst:Option Nat}{ty T T' E:TypeId}{pos:String}{af:Array Edge}{gd:Option (Nat×Bool)}{x c:Operand}{v u:Value}{D:TypeDesc}{f:FuncId}{w:World}{xs:Array Operand}{Ts:Array TypeId}{args:List Value}{name:String}{b o:Nat}
theorem gS(hT:P.underlying T=some D)(hD:(match D with | .interface _=>false | _=>true)=true)(hx:ev n ρ x=v):dX P H n ρ ⟨dst, .makeInterface T x,ty,pos,af,gd⟩ (.iface T v):=λw _=>by
 cases D <;> simp_all [execOp,Instr.makeInterface,underlying]
theorem CG(hT:P.underlying T'=some D)(hD:(match D with | .interface _=>false | _=>true)=true)(hx:ev n ρ x= .iface T' v):dX P H n ρ ⟨dst, .typeAssert x T T' false,ty,pos,af,gd⟩ v:=λw _=>by
 cases D <;> simp_all [execOp,Instr.typeAssert,underlying]
theorem qz{cs:Array Operand}{vs:List Value}(hx:cs.toList.map (ev n ρ)=vs):dX P H n ρ ⟨dst, .makeFunc (.func f) #[] cs,ty,pos,af,gd⟩ (.func (.func f) #[] vs.toArray):=λw _=>by
 have:cs.map (ev n ρ)=vs.toArray:=by rw [←hx, ←Array.toList_map]
 simp [execOp,Instr.makeFunc,this]
def Qk(P:Program)(T:TypeId)(name:String):Option (Array FieldStep×Option (FuncId×Bool)):=(P.info? T).bind λi=>(i.methods.find? (·.name==name)).map λm=>(m.path,m.func)
theorem JM{fuel:Nat}{pr:Bool}{r:Value}(hm:Qk P T name=some (#[],some (f,pr)))(hr:(receiverAt T (.val v) pr (some ((name.splitOn ".").getLastD name))).run P w= .ok r w):(method (fuel+1) T v name).run P w= .ok (f,r) w:=by
 unfold Qk at hm;cases hi:P.info? T with
 | none=>rw [hi] at hm;cases hm
 | some i=>
  rw [hi] at hm;simp only [qa0] at hm;cases hf:i.methods.find? (·.name==name) with
  | none=>rw [hf] at hm;cases hm
  | some m=>
   rw [hf] at hm;simp only [qac,qae,Prod.mk.injEq] at hm;obtain ⟨h1,h2⟩:=hm;have e1:(typeInfo T).run P w= .ok i w:=by simp [typeInfo,hi]
   have e2:m.path.toList=[]:=by rw [h1]
   have e3:m.path.isEmpty=true:=by rw [h1];rfl
   simp only [method,Sem.run_bind,e1,Result.andThen_ok,hf,e2,follow,Sem.run_pure,h2,e3,if_true,hr]
theorem Hd{r:Value}{pr:Bool}(hf: ∃fn c,P.funcs[f]? =some fn/\(fn.name== "runtime.NumGoroutine")=false/\fn.body=some c)(hm:Qk P T name=some (#[],some (f,pr)))(hc:ev n ρ c= .iface T v)(hr:(receiverAt T (.val v) pr (some ((name.splitOn ".").getLastD name))).run P w= .ok r w)
  (hx:r::xs.toList.map (ev n ρ)=args):Enters P n ρ ⟨dst, .call ⟨.invoke c name,xs,Ts⟩,ty,pos,af,gd⟩ f args w:=by
 obtain ⟨fn,cd,h1,h2,h3⟩:=hf;have wV: #[r]++xs.map (ev n ρ)=args.toArray:=by
  rw [←hx];apply qcf;simp
 have hdp:Made.depth=100:=rfl;have hd: ∃k,P.types.size+Made.depth=k+1:=⟨P.types.size+99,by omega⟩;obtain ⟨k,hk⟩:=hd;have hmm:=JM (P:=P) (w:=w) (fuel:=k) hm hr;have e0:(#[Value.iface T v]++xs.map (ev n ρ))[0]? =some (.iface T v):=by
  rw [qbu (by simp)];rfl
 have e1:(#[Value.iface T v]++xs.map (ev n ρ)).extract 1 (#[Value.iface T v]++xs.map (ev n ρ)).size=xs.map (ev n ρ):=by
  apply qcf;rw [Array.toList_extract,List.extract_eq_drop_take'];simp only [Array.size_append,Array.size_map,Array.toList_append,Array.toList_map,qbk,qb5,List.length_nil,qbp,qb7,List.drop_one];rw [qbv (by simp;omega)];rfl
 simp only [Enters,execOp,resolve,hc,Sem.run_bind,Sem.run_pure,Result.andThen_ok,invoke,e0,e1,callMethod,run_program,hk,hmm,callFunc,wV,h1,h2,h3];simp
theorem Ql(hf: ∃fn c,P.funcs[f]? =some fn/\(fn.name== "runtime.NumGoroutine")=false/\fn.body=some c)(hm:Qk P T name=some (#[],some (f,true)))(hT:P.underlying T=some (.pointer E))(hc:ev n ρ c= .iface T v)
  (hx:v::xs.toList.map (ev n ρ)=args):Enters P n ρ ⟨dst, .call ⟨.invoke c name,xs,Ts⟩,ty,pos,af,gd⟩ f args w:=
 Hd hf hm hc (by simp only [receiverAt,underlying,Sem.run_bind,run_program,Result.andThen_ok,hT,Sem.run_pure,Place.get]) hx
theorem ui(hf: ∃fn c,P.funcs[f]? =some fn/\(fn.name== "runtime.NumGoroutine")=false/\fn.body=some c)(hm:Qk P T name=some (#[],some (f,false)))(hT:P.underlying T=some (.pointer E))(hE:P.underlying E=some D)(hD:(match D with | .struct _=>false | .array _ _=>false | _=>true)=true)
  (hc:ev n ρ c= .iface T (pt b o)) (hl:jl w.heap b o=some u) (hx:u::xs.toList.map (ev n ρ)=args):Enters P n ρ ⟨dst, .call ⟨.invoke c name,xs,Ts⟩,ty,pos,af,gd⟩ f args w:=by
 have wE:(isAgg E).run P w= .ok false w:=by
  simp only [isAgg,underlying,Sem.run_bind,run_program,Result.andThen_ok,hE,Sem.run_pure];cases D <;> simp_all
 rw [iA] at hl;have aeV: ∀s,(Builtin.ssaWrapNilChk_ #[T] T #[pt b o,strVal "",strVal s]).run P w= .ok (pt b o) w:=λ_=>rfl;refine Hd hf hm hc ?_ hx;simp [receiverAt,underlying,hT,Place.get,aeV,asAddr,loadVar,wE,load,Sem.run,hl]
end
end Go.Vs
namespace Go.Vs
open Go
section
variable{P:Program}{H:Array Obj}{n:Nat}{ρ:Nat->Value}{dst:Option Nat}{ty T T':TypeId}{pos:String}{af:Array Edge}{gd:Option (Nat×Bool)}{x y:Operand}{a b q:Int}{k k':IntKind}
theorem Ng{α:Type}{k:Int}{z0:α}{xs:List α}(h:zr k z0=some xs):xs.length=k.toNat:=by
 unfold zr at h;split at h
 ·cases h;exact List.length_replicate
 ·cases h
theorem Qm{E:TypeId}{m c c':Nat}{ad:Option Addr}(hT:P.underlying T=some (.slice E))(hx:ev n ρ x= .slice ad m c)(hc:c=c'):dX P H n ρ ⟨dst, .call ⟨.builtin .cap, #[x], #[T]⟩,ty,pos,af,gd⟩ (I c'):=λw _=>by
 subst hc;simp [execOp,resolve,invoke,builtin,Builtin.cap_,hx,underlying,hT,goInt]
theorem Ul{E:TypeId}{m:Nat}{ad:Option Addr}{c:Nat}(hT:P.underlying T=some (.slice E))(hx:ev n ρ x= .slice ad m c)(hy:ev n ρ y= .slice none 0 0):dX P H n ρ ⟨dst, .binOp .eql T x y T',ty,pos,af,gd⟩ (B ad.isNone):=λw _=>by
 have h: ∀a:Option Addr,(Op.equal T (.slice a m c) (.slice none 0 0)).run P w= .ok a.isNone w:=by
  intro a;show (Op.equalIn (9999+1) T _ _).run P w=_;rw [Op.equalIn];cases a <;> simp only [underlying,Sem.run_bind,run_program,Result.andThen_ok,hT,Sem.run_pure,Option.isNone]
 simp [execOp,hx,hy,eqGuard,binOp,h]
theorem He{t j:Nat}{xs:Array Value}{u:Value}(ht:P.underlying t=some (.int .i64))(w:World)(h:xs[j]? =some u):(part t xs j).run P w= .ok u w:=by
 have wE:(isAgg t).run P w= .ok false w:=by
  simp only [isAgg,underlying,Sem.run_bind,run_program,Result.andThen_ok,ht,Sem.run_pure]
 simp [part,wE,h]
def Hf(P:Program):Nat->List Field->Prop
 | _,[]=>True
 | j,f::fs=>f.offset=j/\(f.name≠ "_")/\P.underlying f.type=some (.int .i64)/\Hf P (j+1) fs
theorem vU{d:Nat}(w:World): ∀(fs:List Field) (j:Nat) (xs ys:List Int),xs.length=ys.length->j+fs.length=xs.length->Hf P j fs->
  (Op.eqFields (d+1) (xs.map I).toArray (ys.map I).toArray fs).run P w= .ok (xs.drop j==ys.drop j) w
 | [],j,xs,ys,hl,hj,_=>by
  have e1:xs.drop j=[]:=List.drop_eq_nil_of_le (by simp at hj;omega);have e2:ys.drop j=[]:=List.drop_eq_nil_of_le (by simp at hj;omega);rw [e1,e2];rfl
 | f::fs,j,xs,ys,hl,hj,⟨h1,h2,h3,h5⟩=>by
  simp only [qb5] at hj;have ih:=vU (d:=d) w fs (j+1) xs ys hl (by omega) h5;have hjx:j<xs.length:=by omega
  have hjy:j<ys.length:=by omega
  have p1:=He (P:=P) h3 (xs:=(xs.map I).toArray) (u:=I xs[j]) (j:=f.offset) w (by simp [h1,hjx]);have p2:=He (P:=P) h3 (xs:=(ys.map I).toArray) (u:=I ys[j]) (j:=f.offset) w (by simp [h1,hjy]);have p3:(Op.equalIn (d+1) f.type (I xs[j]) (I ys[j])).run P w= .ok (xs[j]==ys[j]) w:=by
   rw [Op.equalIn];simp only [underlying,Sem.run_bind,run_program,Result.andThen_ok,h3,Sem.run_pure,if_true]
  rw [qb9 hjx,qb9 hjy,List.cons_beq_cons];simp only [Op.eqFields,ne_eq,h2,not_false_eq_true,if_true,Sem.run_bind,p1,p2,p3,Result.andThen_ok];cases hb:xs[j]==ys[j] with
  | true=>simp only [qah,qa6,if_false,ih,qbl]
  | false=>simp only [Bool.not_false,if_true,Bool.false_and];rfl
theorem aeA{xs ys:List Int}(hT:P.underlying T=some (.struct (P.fieldsOf T)))(hg:P.eqGuardType P.depth T=false)(hp:P.stoodInHeld T=false)(hl:xs.length=ys.length)(hj:(P.fieldsOf T).toList.length=xs.length)(hf:Hf P 0 (P.fieldsOf T).toList)
  (hx:ev n ρ x= .agg (xs.map I).toArray) (hy:ev n ρ y= .agg (ys.map I).toArray):dX P H n ρ ⟨dst, .binOp .eql T x y T',ty,pos,af,gd⟩ (B (xs==ys)):=λw _=>by
 have e:=vU (P:=P) (d:=9998) w (P.fieldsOf T).toList 0 xs ys hl (by omega) hf;simp only [execOp,hx,hy,Sem.run_bind,run_eqGuard_agg w _ _ _ _ _ _ hg,Result.andThen_ok,run_eql_struct,show (10000:Nat)=9999+1 from rfl,run_equalIn_agg w 9999 T _ _ hT hp,show (9999:Nat)=9998+1 from rfl,e,List.drop_zero,Sem.run_pure]
theorem Um{xs ys:List Int}(hT:P.underlying T=some (.struct (P.fieldsOf T)))(hg:P.eqGuardType P.depth T=false)(hp:P.stoodInHeld T=false)(hl:xs.length=ys.length)(hj:(P.fieldsOf T).toList.length=xs.length)(hf:Hf P 0 (P.fieldsOf T).toList)
  (hx:ev n ρ x= .agg (xs.map I).toArray) (hy:ev n ρ y= .agg (ys.map I).toArray):dX P H n ρ ⟨dst, .binOp .neq T x y T',ty,pos,af,gd⟩ (B (!(xs==ys))):=λw _=>by
 have e:=vU (P:=P) (d:=9998) w (P.fieldsOf T).toList 0 xs ys hl (by omega) hf;simp only [execOp,hx,hy,Sem.run_bind,run_eqGuard_agg w _ _ _ _ _ _ hg,Result.andThen_ok,run_neq_struct,show (10000:Nat)=9999+1 from rfl,run_equalIn_agg w 9999 T _ _ hT hp,show (9999:Nat)=9998+1 from rfl,e,List.drop_zero,Sem.run_pure]
end
section
variable{S0:BS}{ar σ:St}{L:List Ch}{lo b o i:Nat}{pre ug:List Value}
theorem RS.abu{α:Type}[Rp α]{el:Nat}{ad:Option Addr}{c:Nat}{xs:List α}(hn:ad.isNone=true)(h:RS el σ (Sl ad xs c) xs):xs=[]:=by
 rcases h with ⟨_,h⟩ | ⟨b,o,c,hv,_⟩
 ·exact h
 ·cases hv;cases hn
theorem JN(xs:List Int): ∀u∈List.map I xs,plain u=true:=by
 intro u hu;obtain ⟨x,_,rfl⟩:=qcd.1 hu
 rfl
theorem Qn(xs:List Int)(k:Nat)(v:Int):EM (xs.map I) (k*1) [I v]=(xs.set k v).map I:=by
 have:=Ua xs k v;rw [qc0] at this;exact this
theorem Hp.Av{xs:List Int}{a x:Int}(H:Hp S0 ar σ L)(i:Nat)(h:nth L i=some (Ch.bx lo b o (xs.map I) pre ug))(hx:bz xs a=some x):jl σ.w.heap b (o+a.toNat*1)=some (I x):=by
 obtain ⟨h0,h1,h2⟩:=kT hx;rw [Nat.mul_one];exact P7 (H.bx i h) (by simp [h1,h2])
end
end Go.Vs
namespace Go.Vs
open Go
def DK{α:Type}(xs:List α)(k:Int)(z:α):Option (List α):=if 0<=k/\xs.length+k.toNat<=2147483648 then some (xs++List.replicate k.toNat z) else none
theorem JO{α:Type}{xs r:List α}{k:Int}{z:α}(h:DK xs k z=some r):0<=k/\xs.length+k.toNat<=2147483648/\r=xs++List.replicate k.toNat z:=by
 unfold DK at h;split at h
 ·rename_i hc;exact ⟨hc.1,hc.2,(qaf h).symm⟩
 ·cases h
section
variable{P:Program}{n:Nat}{ρ:Nat->Value}{ar σ:St}{S0:BS}{L R:List Ch}{u v:Value}{T T' E E' ty:TypeId}{pos:String}{af:Array Edge}{gd:Option (Nat×Bool)}{dst:Option Nat}{x y q:Operand}{a l h k m:Int}{lo el bt s c c':Nat}{z:Value}
variable{α:Type}[Rp α]{xs ys p r:List α}{ad oa:Option Addr}{H:Array Obj}
theorem Ow.view(hO:Ow σ lo el (Sl ad xs c) xs)(hg:gV xs l h=some p)(hs:WO ad xs.length c (Rp.sz α) l h oa p.length c'):Ow σ lo el (Sl oa p c') p/\ ∀b,blk (Sl oa p c')=some b->blk (Sl ad xs c)=some b:=by
 obtain ⟨ad2,c2,hs2,h1,h2⟩:=hO.slice hg;have e1:oa=ad2:=hs.ea.trans hs2.ea.symm;have e2:c'=c2:=hs.ec.trans hs2.ec.symm;subst e1 e2;exact ⟨h1,h2⟩
theorem Un{i:Nat}{z0:α}{zs:List Value}(H:Hp S0 ar σ L)(Yu:nth L i=some (Ch.own lo el (Sl ad xs c) xs))(hT:P.underlying T=some (.slice E))(qv:P.underlying T'=some (.int .i64))(hi:TI P E z s bt)(hs:s=Rp.sz α)(Yo:z.cells=zs.toArray)(hz:Rp.rp el σ zs z0)(T6:bt<=1024)
  (ht:c=xs.length) (hg:gV xs 0 h=some p) (hv:WO ad xs.length c (Rp.sz α) 0 h oa p.length c') (hr:DK p k z0=some r) (zK:(xs.length:Int)<p.length+k) {pk:Nat} (qJ:pk<=ar.size) (hx:ev n ρ x=Sl oa p c') (hy:ev n ρ y=I k):
  Ex P σ n ρ ⟨dst, .call ⟨.builtin .append, #[x,y], #[T,T']⟩,ty,pos,af,gd⟩ λv' σ'=> ∃b c2,v'=Sl (some ⟨b,0,none⟩) r c2/\Hp S0 ar σ' (Ch.own pk el (Sl (some ⟨b,0,none⟩) r c2) r::L)/\Md (dD []) σ σ':=by
 obtain ⟨LD,hlen,rfl⟩:=JO hr;obtain ⟨kn,rfl⟩:=qax LD;simp only [qay] at hlen ⊢;obtain ⟨hO,_⟩:=(H.get Yu:Ow σ lo el (Sl ad xs c) xs).view hg hv;obtain ⟨i0,uO,Ap,Oz,hi4⟩:=hi.it;have Ym:=hi;subst hs;obtain ⟨K,uf,P2,hK3⟩:=hO.rd.row;have hcp:c'=xs.length:=by rw [hv.ec,ht];simp
 have ve: ¬p.length+kn<=c':=by omega
 have hzl:zs.length=Rp.sz α:=Rp.len hz;have hn:=nextslicecap_le (need:=p.length+kn) (c:=c') (by omega);have JF: ¬Builtin.nextslicecap (p.length+kn) c'*bt>2^48:=by
  have h1:Builtin.nextslicecap (p.length+kn) c'*bt<=(2*(p.length+kn)+300)*1024:=Nat.mul_le_mul hn T6;have h2:(2:Nat)^48=281474976710656:=by decide
  omega
 have hsm: ¬(kn:Int)*(bt:Int)>2^48:=by
  have h1:kn*bt<=2147483648*1024:=Nat.mul_le_mul (by omega) T6;have h2:(2:Int)^48=281474976710656:=by decide
  rw [h2, ←Int.natCast_mul];omega
 have abf: ¬(((p.length+kn:Nat):Int)>IntKind.i64.max):=by
  have:IntKind.i64.max=9223372036854775807:=by decide
  omega
 have Wu:IntKind.i64.wrap (kn:Int)=kn:=aT (by omega) (by omega)
 let q:Question:= .appendCap (p.length+kn) c' E
 let px:=q.cut (σ.w.tape σ.w.drawn q)
 have WN:p.length+kn<=px:=by
  show _<=Question.cut (.appendCap (p.length+kn) c' E) _;simp only [Question.cut];omega
 let Z:=Builtin.zeroCells z.cells (px - (p.length+kn))
 let W:=Builtin.zeroCells z.cells kn
 have hZ:Z.size=(px - (p.length+kn))*z.cells.size:=by show (Builtin.zeroCells _ _).size=_;simp [Builtin.zeroCells]
 have hW:W.size=kn*z.cells.size:=by show (Builtin.zeroCells _ _).size=_;simp [Builtin.zeroCells]
 have Da:z.cells.size=Rp.sz α:=by rw [Yo];simpa using hzl
 let Rl:List Value:=K++W.toList++Z.toList
 let w1:World:={ σ.w with drawn:=σ.w.drawn+1 }
 have hR:(K.toArray++W++Z)=Rl.toArray:=by
  apply qcf;simp [Rl]
 have hf1:=kr (P:=P) (σ:=σ) (v:=Sl oa p c') uf hK3 w1 rfl;have zp:(askRoom (px*bt)).run P w1= .ok () w1:=by
  unfold askRoom;split <;> rfl
 have Et:(choose (.appendCap (p.length+kn) c' E)).run P σ.w= .ok px w1:=by
  simp [choose,Sem.run,Question.forced,px,q,w1]
 have OA:(typeInfo E).run P=λw=> .ok i0 w:=by
  funext w;simp [typeInfo,uO]
 obtain ⟨_,g1,g2,_,g3⟩:=me hg;have Cz:0<kn:=by omega
 have hnz: ¬kn*Rp.sz α=0:=by
  have:=Rp.pos (α:=α);have:0<kn*Rp.sz α:=Nat.mul_pos Cz this;omega
 have bM:(Builtin.append_ #[T,T'] ty #[Sl oa p c',I (kn:Int)]).run P σ.w= .ok (Sl (some ⟨σ.size,0,none⟩) (p++List.replicate kn z0) px) (σ.new (.cells Rl.toArray E (0,0)) 1).w:=by
  simp only [Builtin.append_,qau,qbm,List.getElem?_cons_succ,underlying,hT,qv,Sem.run_bind,run_program,Result.andThen_ok,Sem.run_pure,run_typeInfo Ym,asInt,asIntOf,Wu,OA,hi4,
   ve,if_true,qah,qa6,if_false,show¬((kn:Int)<0) by omega,hsm,qay,abf,false_and,JF,Et,zp,hf1,hnz,pv Ym,Sl,qat,List.length_replicate]
  rw [show (K.toArray++Builtin.zeroCells z.cells kn++Builtin.zeroCells z.cells (px - (p.length+kn)))=Rl.toArray from hR]
  rfl
 have WR:=σ.sh (.cells Rl.toArray E (0,0)) 1;have hE:=(σ.lQ (.cells Rl.toArray E (0,0)) 1).ext;have hOw:Ow (σ.new (.cells Rl.toArray E (0,0)) 1) σ.size el (Sl (some ⟨σ.size,0,none⟩) (p++List.replicate kn z0) px) (p++List.replicate kn z0):=by
  refine .inr ⟨σ.size,0,px,Rl.toArray,E,rfl,qa3 _,WR,by simp;omega, ?_,σ.si _ 1,λi hi=> ?_⟩
  ·simp only [Rl,qbk,qat,uf,Array.length_toList,hZ,hW,Da,qc0];rw [←Nat.add_mul, ←Nat.add_mul];exact qak _ (by omega)
  ·by_cases M5:i<p.length
   ·rw [qb4 M5];obtain ⟨cs,EN,SQ⟩:=P2 i M5;refine At.sn WR (Rp.ext hE EN) (λj hj=> ?_);have e2:=SQ j hj;have bG:=List.EJ e2;simp only [Rl,qc0,qau,List.append_assoc];rw [qbg bG,e2]
   ·rw [qbh (by omega),List.getElem_replicate];simp only [qat,List.length_replicate] at hi;refine At.sn WR (Rp.ext hE hz) (λj hj=> ?_);have e3:i*Rp.sz α+j=K.length+((i - p.length)*Rp.sz α+j):=by
     have:i*Rp.sz α=p.length*Rp.sz α+(i - p.length)*Rp.sz α:=by rw [←Nat.add_mul];congr 1;omega
     omega
    have bG:(i - p.length)*Rp.sz α+j<W.toList.length:=by
     have hWl:W.toList.length=kn*Rp.sz α:=by rw [Array.length_toList,hW,Da]
     rw [hWl];have:(i - p.length+1)*Rp.sz α<=kn*Rp.sz α:=qak _ (by omega);rw [Nat.add_mul] at this;omega
    simp only [Rl,qc0,qau,List.append_assoc];rw [e3,qbt (by omega),Nat.add_sub_cancel_left,qbg bG,Array.getElem?_toList];have:=Ds (zc:=z.cells) (m:=kn) (i:=i - p.length) (j:=j) (by omega) (by rw [Da];omega);rw [Da] at this;show (Builtin.zeroCells z.cells kn)[_]? =_;rw [Builtin.zeroCells,Da,this,Yo];simp
 refine ⟨_,σ.new (.cells Rl.toArray E (0,0)) 1, ?_,σ.size,px,rfl,EU H qJ (σ.lQ _ 1) hOw,(σ.lQ _ 1).md0⟩;simp only [CB,execOp,resolve,qbj,qb2,qbs,hx,hy,Sem.run_bind,Sem.run_pure,Result.andThen_ok,invoke,builtin,bM]
theorem Qo{n pl:Nat}{k:Int}(hp:(pl:Int)=n)(hb:decide (0<k)=true):(n:Int)<pl+k:=by
 have h2:0<k:=of_decide_eq_true hb;omega
end
end Go.Vs
namespace Go.Vs
open Go
end Go.Vs
