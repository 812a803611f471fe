/- What a function of the program does to its memory, step by step. -/
import Derived.Test.YtbpbncjammigdaaGreatAl
import Derived.Tactics
import Derived.Deep.LoopGhost
import Derived.Deep.Quiet
import Derived.StillTail
import Derived.KernelRfl
import Derived.Laws.World
import Derived.Orders
import Derived.Laws.StructEq
set_option linter.unusedVariables false
set_option linter.unusedSimpArgs false
namespace Go.Vs
open Go
def upd(ρ:Nat->Value)(d:Nat)(v:Value):Nat->Value:=λt=>bif Nat.beq t d then v else ρ t
def fr(n:Nat)(ρ:Nat->Value):Act:=⟨Array.ofFn (n:=n) (λi=>ρ i.1),[]⟩
def look(n:Nat)(ρ:Nat->Value)(t:Nat):Value:=bif Nat.blt t n then ρ t else undef
def ev(n:Nat)(ρ:Nat->Value):Operand->Value
 | .tmp t=>look n ρ t
 | .const v=>v
 | .global g=> .pointer (some ⟨g,0,none⟩)
 | .func f=> .func (.func f) #[] #[]
def fo(l:List Value):Nat->Value:=λt=>l.getD t undef
theorem EK{t n:Nat}(h:t<n):Nat.blt t n=true:=by simp [Nat.blt,Nat.ble_eq];omega
theorem wI{t n:Nat}(h: ¬t<n):Nat.blt t n=false:=by
 cases hb:Nat.blt t n with
 | false=>rfl
 | true=>simp only [Nat.blt,Nat.ble_eq] at hb;omega
theorem uc{t n:Nat}(h:t≠n):Nat.beq t n=false:=by
 cases hb:Nat.beq t n with
 | false=>rfl
 | true=>exact absurd (Nat.eq_of_beq_eq_true hb) h
theorem MP(n:Nat):Nat.beq n n=true:=Nat.beq_refl n
theorem vP{n t:Nat}(ρ:Nat->Value)(h:t<n):look n ρ t=ρ t:=by unfold look;rw [EK h];rfl
theorem MQ{n t:Nat}(ρ:Nat->Value)(h: ¬t<n):look n ρ t=undef:=by unfold look;rw [wI h];rfl
theorem look_eq(n:Nat)(ρ:Nat->Value)(t:Nat):(fr n ρ).tmps.getD t undef=look n ρ t:=by
 by_cases h:t<n
 ·rw [vP ρ h];simp [fr,Array.getD,h]
 ·rw [MQ ρ h];simp [fr,Array.getD,h]
theorem aR(n:Nat)(ρ:Nat->Value):(fr n ρ).eval=ev n ρ:=by
 funext x;cases x with
 | tmp t=>exact look_eq n ρ t
 | const v=>rfl
 | global g=>rfl
 | func f=>rfl
theorem de(n:Nat)(ρ:Nat->Value)(d:Nat)(v:Value):(fr n ρ).put (some d) v=fr n (upd ρ d v):=by
 unfold fr Act.put;simp only [Act.mk.injEq,and_true];apply Array.ext
 ·simp
 ·intro i h1 h2;simp only [Array.size_setIfInBounds,Array.size_ofFn] at h1;by_cases hd:d=i
  ·subst hd;simp [upd]
  ·simp [upd,uc (qbq hd),hd,h1]
theorem jH(n:Nat)(ρ:Nat->Value)(v:Value):(fr n ρ).put none v=fr n ρ:=rfl
theorem pH(l:List Value)(n:Nat)(h:l.length<=n):
  (⟨l.toArray++Array.replicate (n - l.length) undef,[]⟩:Act)=fr n (fo l):=by
 unfold fr;simp only [Act.mk.injEq,and_true];apply Array.ext
 ·simp;omega
 ·intro i h1 h2;simp only [Array.size_ofFn] at h2;by_cases hi:i<l.length
  ·simp [hi,fo]
  ·simp [Array.getElem_append,hi,fo]
def yv(ops:Array Oper)(n:Nat)(ρ:Nat->Value)(j:Nat):Option Bool:=
 match (ops[j]?).bind (·.dst) with
 | some d=>match look n ρ d with
  | .bool b=>some b
  | _=>none
 | none=>none
theorem eR(ops:Array Oper)(n:Nat)(ρ:Nat->Value):yielded ops (fr n ρ).tmps=yv ops n ρ:=by
 funext j;unfold yielded yv;cases h:(ops[j]?).bind (·.dst) with
 | none=>simp
 | some d=>
  simp only [qa0];by_cases hd:d<n
  ·have e1:(fr n ρ).tmps[d]? =some (ρ d):=by simp [fr,hd]
   rw [e1,vP ρ hd];cases ρ d <;> rfl
  ·have e1:(fr n ρ).tmps[d]? =none:=by simp [fr,hd]
   rw [e1,MQ ρ hd];rfl
theorem Rg{n:Nat}{ρ rU:Nat->Value}(h: ∀t,t<n->ρ t=rU t):fr n ρ=fr n rU:=by
 unfold fr;congr 1;exact congrArg _ (funext λi=>h i.1 i.2)
structure St where
 w:World
 gB:Nat->Nat
 ok: ∀b,w.heap.size<=b->gB b=0
 ef:Prop -- of the answers akx are drawn nothing is said any more
abbrev St.size(σ:St):Nat:=σ.w.heap.size
def St.cell(σ:St)(b o:Nat):Option Value:=σ.w.cell? ⟨b,o,none⟩
structure Ext(σ σ':St):Prop where
 size:σ.size<=σ'.size
 block: ∀b,0<σ.gB b->σ'.w.heap[b]? =σ.w.heap[b]?
 gB: ∀b,σ.gB b<=σ'.gB b
structure Rh(B:Nat)(σ σ':St):Prop where
 os:σ'.w.os=σ.w.os
 tape:σ'.w.tape=σ.w.tape
 output:σ'.w.output=σ.w.output
 dr:σ.w.drawn<=σ'.w.drawn
 size:σ.size<=σ'.size
 block: ∀b,b<B->σ'.w.heap[b]? =σ.w.heap[b]?
 gB: ∀b,b<B->σ'.gB b=σ.gB b
 ef:σ'.ef=σ.ef
def St.mute(σ:St):St:=⟨σ.w,σ.gB,σ.ok,False⟩
theorem Ext.mute(σ:St):Ext σ σ.mute:=⟨qa2 _,λ_ _=>rfl,λ_=>qa2 _⟩
theorem Ext.refl(σ:St):Ext σ σ:=⟨qa2 _,λ_ _=>rfl,λ_=>qa2 _⟩
theorem Ext.trans{a b c:St}(h:Ext a b)(k:Ext b c):Ext a c:=
 ⟨qaa h.size k.size,λx ho=>(k.block x (qa3 ho (h.gB x))).trans (h.block x ho),λx=>qaa (h.gB x) (k.gB x)⟩
theorem cell_of_block{w w':World}{b:Nat}(h:w'.heap[b]? =w.heap[b]?)(o:Nat):w'.cell? ⟨b,o,none⟩=w.cell? ⟨b,o,none⟩:=by
 simp only [World.cell?, h]
theorem Ext.cell{σ σ':St}(h:Ext σ σ')(b o:Nat)(ho:o<σ.gB b):σ'.cell b o=σ.cell b o:=cell_of_block (h.block b (Nat.lt_of_le_of_lt (qa7 _) ho)) o
theorem Rh.ext{σ σ':St}(h:Rh σ.size σ σ'):Ext σ σ':=by
 refine ⟨h.size,λb ho=> ?_,λb=> ?_⟩
 ·by_cases hb:b<σ.size
  ·exact h.block b hb
  ·rw [σ.ok b (Nat.le_of_not_lt hb)] at ho;exact absurd ho (qar _)
 ·by_cases hb:b<σ.size
  ·exact qay (h.gB b hb).symm
  ·rw [σ.ok b (Nat.le_of_not_lt hb)];exact qa7 _
def dX(P:Program)(H:Array Obj)(n:Nat)(ρ:Nat->Value)(o:Oper)(v:Value):Prop:=
 ∀w:World,w.heap=H->(execOp (ev n ρ) o).run P w= .ok (.value v) w
section steps
variable{P:Program}{ops:Array Oper}{Q:Exit->Act->World->Prop}{n d:Nat}{ρ:Nat->Value}{w:World}{v:Value}{rest:List Oper}
variable{op:Op}{ty:TypeId}{pos:String}{af:Array Edge}{gd:Option (Nat×Bool)}{H:Array Obj}
theorem aS(o:Oper)(h:o.guard=none)(y:Nat->Option Bool):Region.wanted o y=true:=by simp [Region.wanted,h]
theorem aA{o:Oper}{j:Nat}{b:Bool}{y:Nat->Option Bool}(h:o.guard=some (j,b))(hy:y j=some b):Region.wanted o y=true:=by
 simp [Region.wanted,h,hy]
theorem vN{o:Oper}{j:Nat}{b:Bool}{y:Nat->Option Bool}(h:o.guard=some (j,b))(hy:y j=some (!b)):Region.wanted o y=false:=by
 cases b <;> simp [Region.wanted,h,hy]
theorem Ir{o:Oper}{j:Nat}{b:Bool}{y:Nat->Option Bool}(h:o.guard=some (j,b))(hy:y j=none):Region.wanted o y=false:=by
 simp [Region.wanted,h,hy]
theorem Cg(hw:Region.wanted ⟨some d,op,ty,pos,af,gd⟩ (yv ops n ρ)=true)
  (hr:dX P w.heap n ρ ⟨some d,op,ty,pos,af,gd⟩ v)
  (k:wpList P ops Q rest (fr n (upd ρ d v)) w):
  wpList P ops Q (⟨some d,op,ty,pos,af,gd⟩::rest) (fr n ρ) w:=by
 unfold wpList;rw [eR,if_pos hw];refine .inl ?_;unfold Oper.wp;rw [aR,hr w rfl];simp only [Oper.upon_value,de];exact k
theorem st(hr:dX P w.heap n ρ ⟨some d,op,ty,pos,af,none⟩ v)
 (k:wpList P ops Q rest (fr n (upd ρ d v)) w):
 wpList P ops Q (⟨some d,op,ty,pos,af,none⟩::rest) (fr n ρ) w:=Cg rfl hr k
theorem bW{j:Nat}{b:Bool}(hy:yv ops n ρ j=some b)(hr:dX P w.heap n ρ ⟨some d,op,ty,pos,af,some (j,b)⟩ v)
 (k:wpList P ops Q rest (fr n (upd ρ d v)) w):
 wpList P ops Q (⟨some d,op,ty,pos,af,some (j,b)⟩::rest) (fr n ρ) w:=Cg (aA rfl hy) hr k
theorem ak{j:Nat}{b:Bool}(hy:yv ops n ρ j=some (!b))
  (k:wpList P ops Q rest (fr n (upd ρ d undef)) w):
  wpList P ops Q (⟨some d,op,ty,pos,af,some (j,b)⟩::rest) (fr n ρ) w:=by
 unfold wpList;rw [eR,vN rfl hy,if_neg (by simp),de];exact k
theorem iQ{j:Nat}{b:Bool}(hy:yv ops n ρ j=none)
  (k:wpList P ops Q rest (fr n (upd ρ d undef)) w):
  wpList P ops Q (⟨some d,op,ty,pos,af,some (j,b)⟩::rest) (fr n ρ) w:=by
 unfold wpList;rw [eR,Ir rfl hy,if_neg (by simp),de];exact k
end steps
section acL
variable{P:Program}{Q:Exit->Act->World->Prop}{n:Nat}{ρ:Nat->Value}{w:World}
theorem BA{c:Operand}{x y:Code}(b:Bool)(hc:ev n ρ c= .bool b)(ht:b=true->x.wp P Q (fr n ρ) w)(hf:b=false->y.wp P Q (fr n ρ) w):
 (Code.cond c x y).wp P Q (fr n ρ) w:=wp_cond_split (by rw [aR];exact hc) ht hf
theorem enter{f:FuncId}{fn:Func}{c:Code}{l:List Value}{R:Ending->World->Prop}(hf:P.funcs[f]? =some fn)(hb:fn.body=some c)(hn:fn.ntmps=n)(hl:Nat.ble l.length n=true)
  (h:c.wp P (bodyPost P fn R) (fr n (fo l)) w):Calls P f l.toArray w R:=by
 refine calls_of_wp hf hb ?_;have:=pH l n (by simpa using hl);simp only [qbn,hn,this];exact h
end acL
end Go.Vs
namespace Go.Vs
open Go
abbrev I(n:Int):Value:= .int .i64 n
abbrev B(b:Bool):Value:= .bool b
def ao(n:Int):Int:=IntKind.i64.wrap n
theorem aV{n:Int}(h1: -9223372036854775808<=n)(h2:n<=9223372036854775807):ao n=n:=by
 simp only [ao,IntKind.wrap,IntKind.bits,IntKind.signed,qbo,decide_eq_true_eq,ge_iff_le];have e1:((2:Int)^(64:Nat))=18446744073709551616:=by decide
 have e2:((2:Int)^(64 - 1:Nat))=9223372036854775808:=by decide
 rw [e1,e2];split <;> omega
def F1(a b:Int):Int:=IntKind.i64.wrap ((BitVec.ofInt 64 a ^^^ BitVec.ofInt 64 b).toNat)
structure TI(P:Program)(t:TypeId)(z:Value)(s b:Nat):Prop where
 it: ∃i,P.info? t=some i/\i.zero=some z/\i.size=s/\i.bytes=b
theorem TI.mk'{P:Program}{t:TypeId}{z:Value}{s b:Nat}(h:(P.info? t).map (λi=>(i.zero,i.size,i.bytes))=some (some z,s,b)):TI P t z s b:=by
 cases e:P.info? t with
 | none=>rw [e] at h;simp at h
 | some i=>
  rw [e] at h;simp only [qac,qah,Prod.mk.injEq] at h;exact ⟨i,e,h.1,h.2.1,h.2.2⟩
section
variable{P:Program}{H:Array Obj}{n:Nat}{ρ:Nat->Value}{d:Option Nat}{ty T T':TypeId}{pos:String}{af:Array Edge}{gd:Option (Nat×Bool)}{x y c:Operand}{v u:Value}{a b:Int}{p q r:Bool}
theorem ai(h:ev n ρ x=v):dX P H n ρ ⟨d, .move x,ty,pos,af,gd⟩ v:=λw _=>by simp [execOp,h]
theorem vO(h:ev n ρ x=v):dX P H n ρ ⟨d, .assign x,ty,pos,af,gd⟩ v:=λw _=>by simp [execOp,h]
theorem aK(hc:ev n ρ c=B true)(h:ev n ρ x=v):dX P H n ρ ⟨d, .pick c x y,ty,pos,af,gd⟩ v:=λw _=>by simp [execOp,h,hc,asBool]
theorem ax(hc:ev n ρ c=B false)(h:ev n ρ y=v):dX P H n ρ ⟨d, .pick c x y,ty,pos,af,gd⟩ v:=λw _=>by simp [execOp,h,hc,asBool]
theorem cF(hx:ev n ρ x=I a)(hy:ev n ρ y=I b):dX P H n ρ ⟨d, .binOp .add T x y T',ty,pos,af,gd⟩ (I (ao (a+b))):=λw _=>by
 simp [execOp,hx,hy,eqGuard,binOp,Op.intArith,ao]
theorem ik(hx:ev n ρ x=I a)(hy:ev n ρ y=I b):dX P H n ρ ⟨d, .binOp .sub T x y T',ty,pos,af,gd⟩ (I (ao (a - b))):=λw _=>by
 simp [execOp,hx,hy,eqGuard,binOp,Op.intArith,ao]
theorem oV(hx:ev n ρ x=I a)(hy:ev n ρ y=I b):dX P H n ρ ⟨d, .binOp .mul T x y T',ty,pos,af,gd⟩ (I (ao (a*b))):=λw _=>by
 simp [execOp,hx,hy,eqGuard,binOp,Op.intArith,ao]
theorem Cn(hx:ev n ρ x=I a)(hy:ev n ρ y=I b)(h0:b≠0):dX P H n ρ ⟨d, .binOp .quo T x y T',ty,pos,af,gd⟩ (I (ao (a.tdiv b))):=λw _=>by
 simp [execOp,hx,hy,eqGuard,binOp,Op.intDiv,ao,h0]
theorem KX(hx:ev n ρ x=I a)(hy:ev n ρ y=I b)(h0:b≠0):dX P H n ρ ⟨d, .binOp .rem T x y T',ty,pos,af,gd⟩ (I (a.tmod b)):=λw _=>by
 simp [execOp,hx,hy,eqGuard,binOp,Op.intDiv,h0]
theorem aac(hx:ev n ρ x=I a)(hy:ev n ρ y=I b):dX P H n ρ ⟨d, .binOp .xor T x y T',ty,pos,af,gd⟩ (I (F1 a b)):=λw _=>by
 simp only [execOp,hx,hy,eqGuard,binOp];rfl
theorem fA(hx:ev n ρ x=I a)(hy:ev n ρ y=I b):dX P H n ρ ⟨d, .binOp .eql T x y T',ty,pos,af,gd⟩ (B (a==b)):=λw _=>by
 simp [execOp,hx,hy,eqGuard,binOp,Op.intCmp]
theorem KY(hx:ev n ρ x=I a)(hy:ev n ρ y=I b):dX P H n ρ ⟨d, .binOp .neq T x y T',ty,pos,af,gd⟩ (B (a != b)):=λw _=>by
 simp [execOp,hx,hy,eqGuard,binOp,Op.intCmp]
theorem cD(hx:ev n ρ x=I a)(hy:ev n ρ y=I b):dX P H n ρ ⟨d, .binOp .lss T x y T',ty,pos,af,gd⟩ (B (decide (a<b))):=λw _=>by
 simp [execOp,hx,hy,eqGuard,binOp,Op.intCmp]
theorem nY(hx:ev n ρ x=I a)(hy:ev n ρ y=I b):dX P H n ρ ⟨d, .binOp .leq T x y T',ty,pos,af,gd⟩ (B (decide (a<=b))):=λw _=>by
 simp [execOp,hx,hy,eqGuard,binOp,Op.intCmp]
theorem iC(hx:ev n ρ x=I a)(hy:ev n ρ y=I b):dX P H n ρ ⟨d, .binOp .gtr T x y T',ty,pos,af,gd⟩ (B (decide (b<a))):=λw _=>by
 simp [execOp,hx,hy,eqGuard,binOp,Op.intCmp]
theorem qi(hx:ev n ρ x=I a)(hy:ev n ρ y=I b):dX P H n ρ ⟨d, .binOp .geq T x y T',ty,pos,af,gd⟩ (B (decide (b<=a))):=λw _=>by
 simp [execOp,hx,hy,eqGuard,binOp,Op.intCmp]
theorem aad(hx:ev n ρ x=I a):dX P H n ρ ⟨d, .unOp .neg T x,ty,pos,af,gd⟩ (I (ao (0 - a))):=λw _=>by
 simp [execOp,hx,Op.unary,Op.intArith,ao]
theorem cO(hx:ev n ρ x=B p):dX P H n ρ ⟨d, .unOp .not T x,ty,pos,af,gd⟩ (B (!p)):=λw _=>by
 simp [execOp,hx,Op.unary]
theorem F2{k:IntKind}(hT:P.underlying T=some (.int k))(pW:P.underlying T'=some (.int .i64))(hx:ev n ρ x= .int k a):dX P H n ρ ⟨d, .convert T T' x,ty,pos,af,gd⟩ (I (ao a)):=λw _=>by
 simp [execOp,hx,convert,underlying,hT,pW,Conv.intToInt,ao]
theorem eT{vs:Array Value}{k:Nat}(hx:ev n ρ x= .tuple vs)(hv:vs[k]? =some v):dX P H n ρ ⟨d, .extract x k,ty,pos,af,gd⟩ v:=λw _=>by
 simp [execOp,hx,Instr.extract,hv]
theorem cG{ad:Addr}(hx:ev n ρ x= .pointer (some ad)):dX P H n ρ ⟨d, .nilCheck x,ty,pos,af,gd⟩ (.pointer (some ad)):=λw _=>by
 simp [execOp,hx]
theorem bF{m:Nat}{E:TypeId}{ad:Option Addr}{cp:Nat}(hT:P.underlying T=some (.slice E))(hx:ev n ρ x= .slice ad m cp):
  dX P H n ρ ⟨d, .call ⟨.builtin .len, #[x], #[T]⟩,ty,pos,af,gd⟩ (I m):=λw _=>by
 simp [execOp,resolve,invoke,builtin,Builtin.len_,hx,underlying,hT,goInt]
theorem F3(hx:ev n ρ x=I a)(hy:ev n ρ y=I b):dX P H n ρ ⟨d, .call ⟨.builtin .max, #[x,y], #[T,T']⟩,ty,pos,af,gd⟩ (I (max a b)):=λw _=>by
 simp [execOp,resolve,invoke,builtin,Builtin.max_,Builtin.max2,hx,hy];split <;> omega
theorem KZ(hx:ev n ρ x=I a)(hy:ev n ρ y=I b):dX P H n ρ ⟨d, .call ⟨.builtin .min, #[x,y], #[T,T']⟩,ty,pos,af,gd⟩ (I (min a b)):=λw _=>by
 simp [execOp,resolve,invoke,builtin,Builtin.min_,Builtin.min2,hx,hy];split <;> omega
abbrev pt(bl o:Nat):Value:= .pointer (some ⟨bl,o,none⟩)
theorem add_plain(bl o k:Nat):(⟨bl,o,none⟩:Addr).add k=⟨bl,o+k,none⟩:=by
 unfold Addr.add;split <;> simp_all
theorem run_typeInfo{t:TypeId}{z:Value}{s bt:Nat}(h:TI P t z s bt)(w:World):(sizeOf t).run P w= .ok s w:=by
 obtain ⟨i,h1,h2,h3,h4⟩:=h.it;simp [sizeOf,typeInfo,h1,h3]
theorem oE{t:TypeId}{z:Value}{s bt:Nat}(h:TI P t z s bt)(w:World):(zeroValue t).run P w= .ok z w:=by
 obtain ⟨i,h1,h2,h3,h4⟩:=h.it;simp [zeroValue,typeInfo,h1,h2]
theorem aj{fs:Array Field}{k bl o off ft:Nat}{z:Value}{s bt:Nat}(hT:P.underlying T=some (.struct fs))(hf:(fs[k]?).map (λf=>(f.offset,f.type))=some (off,ft))
  (hi:TI P ft z s bt) (hs:Nat.beq s 0=false) (hx:ev n ρ x=pt bl o):dX P H n ρ ⟨d, .fieldAddr T x k,ty,pos,af,gd⟩ (pt bl (o+off)):=λw _=>by
 cases hfk:fs[k]? with
 | none=>rw [hfk] at hf;cases hf
 | some f=>
  rw [hfk] at hf;simp only [qac,qah,Prod.mk.injEq] at hf;obtain ⟨rfl,rfl⟩:=hf;have FB:s≠0:=by rintro rfl;cases hs
  simp [execOp,hx,Instr.fieldAt,underlying,hT,hfk,Instr.sureAddr,fieldPlace,run_typeInfo hi,FB,add_plain]
theorem F4{E m:Nat}{xs:List Int}{e:Int}{z:Value}{bt:Nat}(hT:P.underlying T=some (.array m E))(hi:TI P E z 1 bt)(hE:P.underlying E=some (.int .i64))
  (hx:ev n ρ x= .agg (xs.map I).toArray) (hy:ev n ρ y=I a) (h0:0<=a) (h1:a.toNat<m) (he:xs[a.toNat]? =some e):dX P H n ρ ⟨d, .index T x y,ty,pos,af,gd⟩ (I e):=λw _=>by
 have h2:a<(m:Int):=by omega
 have xJ:(isAgg E).run P w= .ok false w:=by
  simp only [isAgg,underlying,Sem.run_bind,run_program,Result.andThen_ok,hE,Sem.run_pure]
 simp [execOp,hx,hy,Instr.index,asIntOf,underlying,hT,h0,h2,run_typeInfo hi,part,xJ,he]
theorem xe{E:TypeId}{bl o m cp:Nat}{z:Value}{s bt:Nat}(hT:P.underlying T=some (.slice E))(hi:TI P E z s bt)
  (hx:ev n ρ x= .slice (some ⟨bl,o,none⟩) m cp) (hy:ev n ρ y=I a) (h0:0<=a) (h1:a.toNat<m):
  dX P H n ρ ⟨d, .indexAddr T x y,ty,pos,af,gd⟩ (pt bl (o+a.toNat*s)):=λw _=>by
 have h2:a<(m:Int):=by omega
 simp [execOp,hx,hy,Instr.indexAt,asIntOf,underlying,hT,h0,h2,run_typeInfo hi,add_plain]
theorem gD{E:TypeId}{bl o m:Nat}{z:Value}{s bt:Nat}(hT:P.underlying T=some (.array m E))(hi:TI P E z s bt)
  (hx:ev n ρ x=pt bl o) (hy:ev n ρ y=I a) (h0:0<=a) (h1:a.toNat<m):
  dX P H n ρ ⟨d, .indexAddr T x y,ty,pos,af,gd⟩ (pt bl (o+a.toNat*s)):=λw _=>by
 have h2:a<(m:Int):=by omega
 simp [execOp,hx,hy,Instr.indexAt,asIntOf,underlying,hT,h0,h2,run_typeInfo hi,add_plain,Instr.sureAddr]
def jI(H:Array Obj)(b o:Nat):Option Value:=match H[b]? with
 | some (.cells c _ _)=>c[o]?
 | _=>none
theorem iU(w:World)(b o:Nat):jI w.heap b o=w.cell? ⟨b,o,none⟩:=by
 unfold jI World.cell?;cases h:w.heap[b]? with
 | none=>rfl
 | some ob=>cases ob <;> rfl
theorem an{bl o:Nat}{D:TypeDesc}(hT:P.underlying T=some D)(hD:(match D with | .struct _=>false | .array _ _=>false | _=>true)=true)
  (hx:ev n ρ x=pt bl o) (hc:jI H bl o=some v):dX P H n ρ ⟨d, .load T x,ty,pos,af,gd⟩ v:=λw hw=>by
 subst hw;rw [iU] at hc;have:(isAgg T).run P w= .ok false w:=by
  simp only [isAgg,underlying,Sem.run_bind,run_program,Result.andThen_ok,hT,Sem.run_pure];cases D <;> simp_all
 simp [execOp,hx,Instr.loadAt,Instr.sureAddr,loadVar,this,load,Sem.run,hc]
theorem run_loadCellsFrom(w:World)(bl o:Nat): ∀(k i:Nat) (cs acc:List Value),cs.length=k->(∀j,(h:j<cs.length)->w.cell? ⟨bl,o+(i+j),none⟩=some cs[j])->
  (loadCellsFrom ⟨bl,o,none⟩ i k acc.toArray).run P w= .ok (acc++cs).toArray w
 | 0,i,cs,acc,hk,_=>by
  have:cs=[]:=qb9 hk;subst this;simp [loadCellsFrom]
 | k+1,i,[],acc,hk,_=>by simp at hk
 | k+1,i,c::cs,acc,hk,hc=>by
  have h0:=hc 0 (by simp);simp only [qcj,List.getElem_cons_zero] at h0;have ih:=run_loadCellsFrom w bl o k (i+1) cs (acc++[c]) (by simpa using hk) (λj hj=>by
   have:=hc (j+1) (by simpa using hj);simpa [Nat.add_assoc,Nat.add_comm 1 j] using this)
  simp only [loadCellsFrom,Sem.run_bind,load,add_plain,Sem.run,h0,Result.andThen_ok];have e:acc.toArray.push c=(acc++[c]).toArray:=by simp
  rw [e,ih];simp
theorem bq{bl o:Nat}{D:TypeDesc}{cs:List Value}{z:Value}{s bt:Nat}(hT:P.underlying T=some D)(hD:(match D with | .struct _=>false | .array _ _=>false | _=>true)=false)
  (hi:TI P T z s bt) (hx:ev n ρ x=pt bl o) (hl:cs.length=s) (hc: ∀j,(h:j<cs.length)->jI H bl (o+j)=some cs[j]):dX P H n ρ ⟨d, .load T x,ty,pos,af,gd⟩ (.agg cs.toArray):=λw hw=>by
 subst hw;have:(isAgg T).run P w= .ok true w:=by
  simp only [isAgg,underlying,Sem.run_bind,run_program,Result.andThen_ok,hT,Sem.run_pure];cases D <;> simp_all
 have:=run_loadCellsFrom (P:=P) w bl o s 0 cs [] hl (λj hj=>by rw [←iU];simpa using hc j hj);simp [execOp,Instr.loadAt,Instr.sureAddr,loadVar, *, loadCells,run_typeInfo hi]
end
end Go.Vs
namespace Go.Vs
open Go
def plain:Value->Bool
 | .agg _ | .tuple _=>false
 | _=>true
structure Oy(lo:Nat)(σ σ':St):Prop where
 block: ∀b,lo<=b->0<σ.gB b->σ'.w.heap[b]? =σ.w.heap[b]?
 gB: ∀b,lo<=b->σ.gB b<=σ'.gB b
theorem Ext.wo{σ σ':St}(h:Ext σ σ')(lo:Nat):Oy lo σ σ':=⟨λb _ ho=>h.block b ho,λb _=>h.gB b⟩
theorem Oy.cell{lo:Nat}{σ σ':St}(h:Oy lo σ σ')(b o:Nat)(hb:lo<=b)(ho:o<σ.gB b):σ'.cell b o=σ.cell b o:=cell_of_block (h.block b hb (Nat.lt_of_le_of_lt (qa7 _) ho)) o
class Rp(α:Type) where
 sz:Nat
 rp:Nat->St->List Value->α->Prop
 pos:0<sz
 len: ∀{lo:Nat} {σ:St} {cs:List Value} {x:α},rp lo σ cs x->cs.length=sz
 wo: ∀{lo:Nat} {σ σ':St} {cs:List Value} {x:α},Oy lo σ σ'->rp lo σ cs x->rp lo σ' cs x
 low: ∀{lo qd:Nat} {σ:St} {cs:List Value} {x:α},qd<=lo->rp lo σ cs x->rp qd σ cs x
 one: ∀{lo:Nat} {σ:St} {cs:List Value} {x:α},rp lo σ cs x-> ∀c∈cs,plain c=true
theorem Rp.ext{α:Type}[Rp α]{lo:Nat}{σ σ':St}{cs:List Value}{x:α}(hE:Ext σ σ')(h:Rp.rp lo σ cs x):Rp.rp lo σ' cs x:=Rp.wo (hE.wo lo) h
instance:Rp Int where
 sz:=1
 rp _ _ cs x:=cs=[I x]
 pos:=by decide
 len:=by rintro _ _ _ _ rfl;rfl
 wo:=λ_ h=>h
 low:=λ_ h=>h
 one:=by rintro _ _ _ _ rfl;simp [plain]
instance:Rp UInt8 where
 sz:=1
 rp _ _ cs x:=cs=[.int .u8 x.toNat]
 pos:=by decide
 len:=by rintro _ _ _ _ rfl;rfl
 wo:=λ_ h=>h
 low:=λ_ h=>h
 one:=by rintro _ _ _ _ rfl;simp [plain]
instance{α β:Type}[Rp α][Rp β]:Rp (α×β) where
 sz:=Rp.sz α+Rp.sz β
 rp lo σ cs x:= ∃c1 c2,cs=c1++c2/\Rp.rp lo σ c1 x.1/\Rp.rp lo σ c2 x.2
 pos:=Nat.add_pos_left Rp.pos _
 len:=by rintro _ _ _ _ ⟨c1,c2,rfl,h1,h2⟩;rw [qat,Rp.len h1,Rp.len h2]
 wo:=by rintro _ _ _ _ _ hE ⟨c1,c2,rfl,h1,h2⟩;exact ⟨c1,c2,rfl,Rp.wo hE h1,Rp.wo hE h2⟩
 low:=by rintro _ _ _ _ _ hl ⟨c1,c2,rfl,h1,h2⟩;exact ⟨c1,c2,rfl,Rp.low hl h1,Rp.low hl h2⟩
 one:=by
  rintro _ _ _ _ ⟨c1,c2,rfl,h1,h2⟩ c hc;rcases qaf.1 hc with h | h
  ·exact Rp.one h1 c h
  ·exact Rp.one h2 c h
section
variable{α β:Type}[Rp α][Rp β]
def At(el:Nat)(σ:St)(b o:Nat)(x:α):Prop:= ∃cs,Rp.rp el σ cs x/\ ∀j,(h:j<cs.length)->σ.cell b (o+j)=some cs[j]
theorem At.ext{el:Nat}{σ σ':St}{b o:Nat}{x:α}(h:At el σ b o x)(hs:o+Rp.sz α<=σ.gB b)(hE:Ext σ σ'):At el σ' b o x:=by
 obtain ⟨cs,h1,h2⟩:=h;refine ⟨cs,Rp.ext hE h1,λj hj=> ?_⟩;have:=Rp.len h1;rw [hE.cell b (o+j) (by omega)];exact h2 j hj
theorem At.fst{el:Nat}{σ:St}{b o:Nat}{x:α×β}(h:At el σ b o x):At el σ b o x.1:=by
 obtain ⟨cs,⟨c1,c2,rfl,h1,h2⟩,h3⟩:=h;refine ⟨c1,h1,λj hj=> ?_⟩;rw [h3 j (by rw [qat];omega),qb7 hj]
theorem At.snd{el:Nat}{σ:St}{b o:Nat}{x:α×β}(h:At el σ b o x):At el σ b (o+Rp.sz α) x.2:=by
 obtain ⟨cs,⟨c1,c2,rfl,h1,h2⟩,h3⟩:=h;refine ⟨c2,h2,λj hj=> ?_⟩;have hl:=Rp.len h1;have:=h3 (c1.length+j) (by rw [qat];omega);rw [Nat.add_assoc, ←hl,this,qbk (by omega)];simp
def RS(el:Nat)(σ:St)(v:Value)(xs:List α):Prop:=
 ((∃ad c,v= .slice ad 0 c)/\xs=[])\/ ∃b o c,v= .slice (some ⟨b,o,none⟩) xs.length c/\el<=b/\xs.length<=c/\o+xs.length*Rp.sz α<=σ.gB b/\
  ∀i,(h:i<xs.length)->At el σ b (o+i*Rp.sz α) xs[i]
def Rd(el:Nat)(σ:St)(v:Value)(xs:List α):Prop:=
 ((∃ad c,v= .slice ad 0 c)/\xs=[])\/ ∃b o c,v= .slice (some ⟨b,o,none⟩) xs.length c/\ ∀i,(h:i<xs.length)->At el σ b (o+i*Rp.sz α) xs[i]
def Ow(σ:St)(lo el:Nat)(v:Value)(xs:List α):Prop:=
 (v= .slice none 0 0/\xs=[])\/ ∃b o c C T,v= .slice (some ⟨b,o,none⟩) xs.length c/\lo<=b/\σ.w.heap[b]? =some (.cells C T (0,0))/\xs.length<=c/\
  o+c*Rp.sz α<=C.size/\σ.gB b=0/\ ∀i,(h:i<xs.length)->At el σ b (o+i*Rp.sz α) xs[i]
def blk:Value->Option Nat
 | .slice (some a) _ _=>some a.block
 | _=>none
theorem RS.nil{el:Nat}{σ:St}:RS el σ (.slice none 0 0) ([]:List α):= .inl ⟨⟨_,_,rfl⟩,rfl⟩
theorem Ow.nil{el:Nat}{σ:St}{lo:Nat}:Ow σ lo el (.slice none 0 0) ([]:List α):= .inl ⟨rfl,rfl⟩
theorem RS.rd{el:Nat}{σ:St}{v:Value}{xs:List α}(h:RS el σ v xs):Rd el σ v xs:=by
 rcases h with h | ⟨b,o,c,h1,_,_,h2,h3⟩
 ·exact .inl h
 ·exact .inr ⟨b,o,c,h1,h3⟩
theorem Ow.rd{el:Nat}{σ:St}{lo:Nat}{v:Value}{xs:List α}(h:Ow σ lo el v xs):Rd el σ v xs:=by
 rcases h with h | ⟨b,o,c,C,T,h1,h2,h3,h4,h5,h6,h7⟩
 ·exact .inl ⟨⟨_,_,h.1⟩,h.2⟩
 ·exact .inr ⟨b,o,c,h1,h7⟩
theorem RS.ext{el:Nat}{σ σ':St}{v:Value}{xs:List α}(h:RS el σ v xs)(hE:Ext σ σ'):RS el σ' v xs:=by
 rcases h with h | ⟨b,o,c,h1,hb,hc,h2,h3⟩
 ·exact .inl h
 ·refine .inr ⟨b,o,c,h1,hb,hc,qaa h2 (hE.gB b),λi hi=>(h3 i hi).ext ?_ hE⟩;have:(i+1)*Rp.sz α<=xs.length*Rp.sz α:=qaj _ hi;rw [Nat.add_mul] at this;omega
def aae(v:Value)(m:Nat):Prop:= ∃ad c,v= .slice ad m c
theorem Rd.rI{el:Nat}{σ:St}{v:Value}{xs:List α}(h:Rd el σ v xs):aae v xs.length:=by
 rcases h with ⟨⟨ad,c,rfl⟩,rfl⟩ | ⟨b,o,c,h1,_⟩
 ·exact ⟨ad,c,rfl⟩
 ·exact ⟨_,_,h1⟩
theorem RS.rI{el:Nat}{σ:St}{v:Value}{xs:List α}(h:RS el σ v xs):aae v xs.length:=h.rd.rI
theorem Ow.rI{el:Nat}{σ:St}{lo:Nat}{v:Value}{xs:List α}(h:Ow σ lo el v xs):aae v xs.length:=h.rd.rI
theorem RS.wo{el:Nat}{σ σ':St}{v:Value}{xs:List α}(h:RS el σ v xs)(hE:Oy el σ σ'):RS el σ' v xs:=by
 rcases h with h | ⟨b,o,c,h1,hb,hc,h2,h3⟩
 ·exact .inl h
 ·refine .inr ⟨b,o,c,h1,hb,hc,qaa h2 (hE.gB b hb),λi hi=> ?_⟩;obtain ⟨cs,h4,h5⟩:=h3 i hi;refine ⟨cs,Rp.wo hE h4,λj hj=> ?_⟩;have:(i+1)*Rp.sz α<=xs.length*Rp.sz α:=qaj _ hi;rw [Nat.add_mul] at this;have hl:=Rp.len h4;rw [hE.cell b _ hb (by omega)];exact h5 j hj
theorem At.low{lo qd:Nat}{σ:St}{b o:Nat}{x:α}(hl:qd<=lo)(h:At lo σ b o x):At qd σ b o x:=by
 obtain ⟨cs,h1,h2⟩:=h;exact ⟨cs,Rp.low hl h1,h2⟩
theorem RS.low{lo qd:Nat}{σ:St}{v:Value}{xs:List α}(h:RS lo σ v xs)(hl:qd<=lo):RS qd σ v xs:=by
 rcases h with h | ⟨b,o,c,h1,hb,hc,h2,h3⟩
 ·exact .inl h
 ·exact .inr ⟨b,o,c,h1,qaa hl hb,hc,h2,λi hi=>(h3 i hi).low hl⟩
instance:Rp (List α) where
 sz:=1
 rp lo σ cs x:= ∃v,cs=[v]/\RS lo σ v x
 pos:=by decide
 len:=by rintro _ _ _ _ ⟨v,rfl,_⟩;rfl
 wo:=by rintro _ _ _ _ _ hE ⟨v,rfl,h⟩;exact ⟨v,rfl,h.wo hE⟩
 low:=by rintro _ _ _ _ _ hl ⟨v,rfl,h⟩;exact ⟨v,rfl,h.low hl⟩
 one:=by
  rintro _ _ _ _ ⟨v,rfl,h⟩ c hc;obtain ⟨ad,cp,hv⟩:=h.rI;simp only [qbe] at hc;rw [hc,hv];rfl
omit [Rp α] in
theorem List.F5{xs:List α}{i:Nat}{e:α}(h:xs[i]? =some e):i<xs.length:=(qbi.1 h).1
def bu{α:Type}(xs:List α)(a:Int):Option α:=if 0<=a then xs[a.toNat]? else none
omit [Rp α] in
theorem lH{xs:List α}{a:Int}{e:α}(h:bu xs a=some e):0<=a/\ ∃h:a.toNat<xs.length,xs[a.toNat]=e:=by
 unfold bu at h;split at h
 ·rename_i h0;obtain ⟨h1,h2⟩:=qbi.1 h;exact ⟨h0,h1,h2⟩
 ·cases h
structure Ix(v:Value)(a:Int)(s b o:Nat):Prop where
 it: ∃ob m c,v= .slice (some ⟨b,ob,none⟩) m c/\0<=a/\a.toNat<m/\o=ob+a.toNat*s
theorem Rd.ix{el:Nat}{σ:St}{v:Value}{xs:List α}{a:Int}{e:α}(h:Rd el σ v xs)(hg:bu xs a=some e): ∃b o,Ix v a (Rp.sz α) b o/\At el σ b o e:=by
 obtain ⟨h0,h1,h2⟩:=lH hg;rcases h with ⟨_,rfl⟩ | ⟨b,o,c,hv,hc⟩
 ·simp at h1
 ·exact ⟨b,o+a.toNat*Rp.sz α,⟨o,_,c,hv,h0,h1,rfl⟩,h2▸hc _ h1⟩
theorem RS.ix{el:Nat}{σ:St}{v:Value}{xs:List α}{a:Int}{e:α}(h:RS el σ v xs)(hg:bu xs a=some e): ∃b o,Ix v a (Rp.sz α) b o/\At el σ b o e:=h.rd.ix hg
theorem Ow.ix{el:Nat}{σ:St}{lo:Nat}{v:Value}{xs:List α}{a:Int}{e:α}(h:Ow σ lo el v xs)(hg:bu xs a=some e): ∃b o,Ix v a (Rp.sz α) b o/\At el σ b o e:=h.rd.ix hg
theorem At.int{el:Nat}{σ:St}{b o:Nat}{x:Int}(h:At el σ b o x):jI σ.w.heap b o=some (I x):=by
 obtain ⟨cs,rfl,h2⟩:=h;rw [iU];exact h2 0 (by simp)
theorem At.byte{el:Nat}{σ:St}{b o:Nat}{x:UInt8}(h:At el σ b o x):jI σ.w.heap b o=some (.int .u8 x.toNat):=by
 obtain ⟨cs,rfl,h2⟩:=h;rw [iU];exact h2 0 (by simp)
theorem At.slice{el:Nat}{σ:St}{b o:Nat}{xs:List α}(h:At el σ b o xs): ∃v,jI σ.w.heap b o=some v/\RS el σ v xs:=by
 obtain ⟨cs,⟨v,rfl,hR⟩,h2⟩:=h;exact ⟨v,by rw [iU];exact h2 0 (by simp),hR⟩
theorem At.cells{el:Nat}{σ:St}{b o:Nat}{x:α}(h:At el σ b o x): ∃cs,Rp.rp el σ cs x/\cs.length=Rp.sz α/\ ∀j,(hj:j<cs.length)->jI σ.w.heap b (o+j)=some cs[j]:=by
 obtain ⟨cs,h1,h2⟩:=h;exact ⟨cs,h1,Rp.len h1,λj hj=>by rw [iU];exact h2 j hj⟩
end
section
variable{P:Program}{H:Array Obj}{n:Nat}{ρ:Nat->Value}{d:Option Nat}{ty T T' E:TypeId}{pos:String}{af:Array Edge}{gd:Option (Nat×Bool)}{x y:Operand}{v:Value}{a:Int}{m b o s bt:Nat}{z:Value}
theorem bR(hT:P.underlying T=some (.slice E))(hi:TI P E z s bt)(hx:ev n ρ x=v)(hy:ev n ρ y=I a)(h:Ix v a s b o):
  dX P H n ρ ⟨d, .indexAddr T x y,ty,pos,af,gd⟩ (pt b o):=by
 obtain ⟨ob,m,c,rfl,h0,h1,rfl⟩:=h.it;exact xe hT hi hx hy h0 h1
end
end Go.Vs
namespace Go.Vs
open Go
structure Oth(S:Option Nat)(σ σ':St):Prop where
 block: ∀b,b<σ.size->S≠some b->σ'.w.heap[b]? =σ.w.heap[b]?
 gB: ∀b,b<σ.size->S≠some b->σ'.gB b=σ.gB b
structure Mod(S:Option Nat)(σ σ':St):Prop where
 os:σ'.w.os=σ.w.os
 tape:σ'.w.tape=σ.w.tape
 output:σ'.w.output=σ.w.output
 dr:σ.w.drawn<=σ'.w.drawn
 ef:σ'.ef=σ.ef
 ext:Ext σ σ'
 YL:Oth S σ σ'
theorem Mod.refl(S:Option Nat)(σ:St):Mod S σ σ:=⟨rfl,rfl,rfl,qa2 _,rfl,Ext.refl _,⟨λ_ _ _=>rfl,λ_ _ _=>rfl⟩⟩
theorem Mod.size{S:Option Nat}{σ σ':St}(h:Mod S σ σ'):σ.size<=σ'.size:=h.ext.size
theorem Mod.step{S S':Option Nat}{a b c:St}(h:Mod S a b)(k:Mod S' b c)(hs:S'=none\/S'=S\/ ∀i,S'=some i->a.size<=i):Mod S a c:=by
 have key: ∀i,i<a.size->S≠some i->S'≠some i:=by
  intro i hi jF;rcases hs with rfl | rfl | hs
  ·simp
  ·exact jF
  ·intro e;have:=hs i e;omega
 exact ⟨k.os.trans h.os,k.tape.trans h.tape,k.output.trans h.output,qaa h.dr k.dr,k.ef.trans h.ef,h.ext.trans k.ext,
  λi hi jF=>(k.YL.block i (qa3 hi h.size) (key i hi jF)).trans (h.YL.block i hi jF),
  λi hi jF=>(k.YL.gB i (qa3 hi h.size) (key i hi jF)).trans (h.YL.gB i hi jF)⟩
theorem Rh.mod{σ σ':St}(h:Rh σ.size σ σ')(S:Option Nat):Mod S σ σ':=⟨h.os,h.tape,h.output,h.dr,h.ef,h.ext,λb hb _=>h.block b hb,λb hb _=>h.gB b hb⟩
theorem At.same{el:Nat}{α:Type}[Rp α]{σ σ':St}{b o:Nat}{x:α}(h:At el σ b o x)(hE:Ext σ σ')(hb:σ'.w.heap[b]? =σ.w.heap[b]?):At el σ' b o x:=by
 obtain ⟨cs,h1,h2⟩:=h;exact ⟨cs,Rp.ext hE h1,λj hj=>by rw [show σ'.cell b (o+j)=σ.cell b (o+j) from cell_of_block hb _];exact h2 j hj⟩
theorem lt_of_block{w:World}{b:Nat}{o:Obj}(h:w.heap[b]? =some o):b<w.heap.size:=(qa1.1 h).1
def Bx(σ:St)(b:Nat)(cs:List Value):Prop:= ∃T,σ.w.heap[b]? =some (.cells cs.toArray T (0,0))/\σ.gB b=0
theorem Bx.lt{σ:St}{b:Nat}{cs:List Value}(h:Bx σ b cs):b<σ.size:=lt_of_block h.choose_spec.1
theorem Ow.lt{el:Nat}{α:Type}[Rp α]{σ:St}{lo:Nat}{v:Value}{xs:List α}(h:Ow σ lo el v xs): ∀b,blk v=some b->b<σ.size:=by
 rcases h with ⟨rfl,_⟩ | ⟨b,o,c,C,T,rfl,h2,h3,_⟩
 ·intro b h;cases h
 ·intro b' h;cases h;exact lt_of_block h3
theorem Ow.ge{el:Nat}{α:Type}[Rp α]{σ:St}{lo:Nat}{v:Value}{xs:List α}(h:Ow σ lo el v xs): ∀b,blk v=some b->lo<=b:=by
 rcases h with ⟨rfl,_⟩ | ⟨b,o,c,C,T,rfl,h2,h3,_⟩
 ·intro b h;cases h
 ·intro b' h;cases h;exact h2
theorem Ow.lo{el:Nat}{α:Type}[Rp α]{σ:St}{lo qd:Nat}{v:Value}{xs:List α}(h:Ow σ lo el v xs)(hl:qd<=lo):Ow σ qd el v xs:=by
 rcases h with h | ⟨b,o,c,C,T,h1,h2,h3⟩
 ·exact .inl h
 ·exact .inr ⟨b,o,c,C,T,h1,qaa hl h2,h3⟩
def World.mk'(w:World)(o:Obj)(k:Nat):World:={ w with heap:=w.heap.push o,drawn:=w.drawn+k }
def St.new(σ:St)(o:Obj)(k:Nat):St:=⟨World.mk' σ.w o k,σ.gB,λb hb=>σ.ok b (by
 have:(σ.w.heap.push o).size<=b:=hb;rw [Array.size_push] at this;omega),σ.ef⟩
theorem St.Is(σ:St)(o:Obj)(k:Nat):(σ.new o k).size=σ.size+1:=by show (σ.w.heap.push o).size=_;simp
theorem St.VZ(σ:St)(o:Obj)(k b:Nat)(h:b<σ.size):(σ.new o k).w.heap[b]? =σ.w.heap[b]? :=by
 show (σ.w.heap.push o)[b]? =_;rw [qbt,if_neg (by have:b<σ.w.heap.size:=h;omega)]
theorem St.tE(σ:St)(o:Obj)(k:Nat):(σ.new o k).w.heap[σ.size]? =some o:=by
 show (σ.w.heap.push o)[σ.w.heap.size]? =_;simp
theorem St.Ri(σ:St)(o:Obj)(k:Nat):Rh σ.size σ (σ.new o k):=
 ⟨rfl,rfl,rfl,Nat.le_add_right _ _,by rw [St.Is];omega,λb hb=>σ.VZ o k b hb,λ_ _=>rfl,rfl⟩
theorem St.mD(σ:St)(o:Obj)(k:Nat):Mod none σ (σ.new o k):=(St.Ri σ o k).mod none
theorem St.tF(σ:St)(o:Obj)(k:Nat):(σ.new o k).gB σ.size=0:=σ.ok _ (qa2 _)
def wr(C:Array Value)(k:Nat):List Value->Array Value
 | []=>C
 | v::r=>wr (C.setIfInBounds k v) (k+1) r
theorem F6(vs:List Value): ∀(C:Array Value) (k:Nat),(wr C k vs).size=C.size:=by
 induction vs with
 | nil=>intro C k;rfl
 | cons v r ih=>intro C k;rw [wr,ih];simp
theorem EL(vs:List Value): ∀(C:Array Value) (k j:Nat),j<k->(wr C k vs)[j]? =C[j]? :=by
 induction vs with
 | nil=>intro C k j _;rfl
 | cons v r ih=>
  intro C k j h;rw [wr,ih _ _ _ (by omega),qag,if_neg (by omega)]
theorem Rj(vs:List Value): ∀(C:Array Value) (k j:Nat),k+vs.length<=j->(wr C k vs)[j]? =C[j]? :=by
 induction vs with
 | nil=>intro C k j _;rfl
 | cons v r ih=>
  intro C k j h;simp only [qb2] at h;rw [wr,ih _ _ _ (by omega),qag,if_neg (by omega)]
theorem Rm(vs:List Value): ∀(C:Array Value) (k j:Nat),k+vs.length<=C.size->(h:j<vs.length)->(wr C k vs)[k+j]? =some vs[j]:=by
 induction vs with
 | nil=>intro C k j _ h;simp at h
 | cons v r ih=>
  intro C k j hs h;simp only [qb2] at hs h;cases j with
  | zero=>
   rw [wr,EL _ _ _ _ (by omega),qag,if_pos (by omega),if_pos (by omega)]
   rfl
  | succ j=>
   have:=ih (C.setIfInBounds k v) (k+1) j (by simp;omega) (by omega);rw [wr,show k+(j+1)=k+1+j by omega,this]
   rfl
def World.put(w:World)(b:Nat)(o:Obj):World:={ w with heap:=w.heap.setIfInBounds b o }
theorem World.Rn{w:World}{b:Nat}{o:Obj}(h:w.heap[b]? =some o):World.put w b o=w:=by
 obtain ⟨hb,e⟩:=qa1.1 h;unfold World.put;have:w.heap.setIfInBounds b o=w.heap:=by
  apply Array.ext_getElem?;intro i;rw [qag];split
  ·rename_i hi;subst hi;rw [h]
  ·rfl
 rw [this]
theorem World.tG{w:World}{b:Nat}(o:Obj)(h:b<w.heap.size):(World.put w b o).heap[b]? =some o:=by
 show (w.heap.setIfInBounds b o)[b]? =_;rw [qag,if_pos rfl,if_pos h]
theorem World.Rq{w:World}{b c:Nat}(o:Obj)(h:b≠c):(World.put w b o).heap[c]? =w.heap[c]? :=by
 show (w.heap.setIfInBounds b o)[c]? =_;rw [qag,if_neg h]
theorem World.V0(w:World)(b:Nat)(o o':Obj):World.put (World.put w b o) b o'=World.put w b o':=by
 unfold World.put;have:(w.heap.setIfInBounds b o).setIfInBounds b o'=w.heap.setIfInBounds b o':=by
  apply Array.ext_getElem?;intro i;simp only [qag,Array.size_setIfInBounds];split
  ·rfl
  ·rfl
 rw [this]
theorem World.It(w:World)(b:Nat)(o:Obj):(World.put w b o).heap.size=w.heap.size:=by
 show (w.heap.setIfInBounds b o).size=_;simp
theorem Iu{w:World}{b k:Nat}{C:Array Value}{T:TypeId}(h:w.heap[b]? =some (.cells C T (0,0)))(v:Value):
  w.setCell ⟨b,k,none⟩ v=World.put w b (.cells (C.setIfInBounds k v) T (0,0)):=by
 obtain ⟨hb,e⟩:=qa1.1 h;unfold World.setCell World.put;simp only [qbp,qa6,if_false];congr 1;apply Array.ext_getElem?;intro i;rw [qc2,qag];split
 ·rename_i hi;subst hi;rw [h];simp
 ·rfl
theorem iD{P:Program}(b o:Nat)(T:TypeId): ∀(vs:List Value) (i:Nat) (w:World) (C:Array Value),w.heap[b]? =some (.cells C T (0,0))->
  o+i+vs.length<=C.size->(∀v∈vs,plain v=true)->
  (storeCells ⟨b,o,none⟩ vs i).run P w= .ok () (World.put w b (.cells (wr C (o+i) vs) T (0,0)))
 | [],i,w,C,h,_,_=>by
  simp only [storeCells,wr,World.Rn h];rfl
 | v::r,i,w,C,h,hs,hp=>by
  simp only [qb2] at hs;have hv:=hp v (by simp);have hb:=lt_of_block h;have hc:w.cell? ⟨b,o+i,none⟩=C[o+i]? :=by simp [World.cell?, h]
  have QG:C[o+i]? =some C[o+i]:=by rw [qa1];exact ⟨by omega,rfl⟩
  have hf:w.frozen? ⟨b,o+i,none⟩=false:=by simp [World.frozen?, h]
  have ih:=iD (P:=P) b o T r (i+1) (World.put w b (.cells (C.setIfInBounds (o+i) v) T (0,0))) (C.setIfInBounds (o+i) v)
   (World.tG _ hb) (by simp;omega) (λu hu=>hp u (by simp [hu]))
  have bU:(store ((⟨b,o,none⟩:Addr).add i) v).run P w= .ok () (World.put w b (.cells (C.setIfInBounds (o+i) v) T (0,0))):=by
   rw [add_plain];cases v <;> first | (simp [plain] at hv;done) | (simp only [store,Sem.run,hc,QG,hf,Iu h];rfl)
  simp only [storeCells,Sem.run_bind,bU,Result.andThen_ok,ih,World.V0];rw [wr];rfl
def St.put(σ:St)(b:Nat)(o:Obj):St:=⟨World.put σ.w b o,σ.gB,λc hc=>σ.ok c (by rw [World.It] at hc;exact hc),σ.ef⟩
theorem St.F7{σ:St}{b:Nat}{o:Obj}(h:σ.gB b=0):Ext σ (σ.put b o):=by
 refine ⟨qay (World.It _ _ _).symm,λc hk=> ?_,λ_=>qa2 _⟩;by_cases hc:b=c
 ·subst hc;rw [h] at hk;exact absurd hk (qar _)
 ·exact World.Rq o hc
theorem St.V1{σ:St}{b:Nat}{o:Obj}:Oth (some b) σ (σ.put b o):=
 ⟨λc _ jF=>World.Rq o (λe=>jF (by rw [e])),λ_ _ _=>rfl⟩
theorem St.vQ{σ:St}{b:Nat}{o:Obj}(h:σ.gB b=0):Mod (some b) σ (σ.put b o):=⟨rfl,rfl,rfl,qa2 _,rfl,St.F7 h,St.V1⟩
def St.P3(σ:St)(b e:Nat)(hb:b<σ.size):St:=⟨σ.w,λc=>if c=b then max (σ.gB b) e else σ.gB c,λc hc=>by
 rw [if_neg (by have:σ.size<=c:=hc;omega)];exact σ.ok c hc,σ.ef⟩
theorem St.F8{σ:St}{b e:Nat}(hb:b<σ.size):Ext σ (σ.P3 b e hb):=by
 refine ⟨qa2 _,λ_ _=>rfl,λc=> ?_⟩;show _<=(if c=b then max (σ.gB b) e else σ.gB c);split
 ·rename_i h;subst h;omega
 ·exact qa2 _
end Go.Vs
namespace Go.Vs
open Go
section
variable{P:Program}{ops:Array Oper}{Q:Exit->Act->World->Prop}{n d:Nat}{ρ:Nat->Value}{σ:St}{v:Value}{rest:List Oper}
variable{ty T T' E:TypeId}{pos:String}{af:Array Edge}{x y:Operand}{a:Int}
def zx(P:Program)(w:World)(n:Nat)(ρ:Nat->Value)(o:Oper)(v:Value)(w':World):Prop:=(execOp (ev n ρ) o).run P w= .ok (.value v) w'
def Rr(P:Program)(w:World)(n:Nat)(ρ:Nat->Value)(o:Oper)(w':World):Prop:=(execOp (ev n ρ) o).run P w= .ok .skip w'
theorem agb{op:Op}{gd:Option (Nat×Bool)}{w w':World}(hw:Region.wanted ⟨some d,op,ty,pos,af,gd⟩ (yv ops n ρ)=true)(hr:zx P w n ρ ⟨some d,op,ty,pos,af,gd⟩ v w')
  (k:wpList P ops Q rest (fr n (upd ρ d v)) w'):wpList P ops Q (⟨some d,op,ty,pos,af,gd⟩::rest) (fr n ρ) w:=by
 unfold wpList;rw [eR,if_pos hw];refine .inl ?_;unfold Oper.wp;rw [aR,hr];simp only [Oper.upon_value,de];exact k
theorem agc{op:Op}{gd:Option (Nat×Bool)}{w w':World}(hw:Region.wanted ⟨none,op,ty,pos,af,gd⟩ (yv ops n ρ)=true)(hr:Rr P w n ρ ⟨none,op,ty,pos,af,gd⟩ w')
  (k:wpList P ops Q rest (fr n ρ) w'):wpList P ops Q (⟨none,op,ty,pos,af,gd⟩::rest) (fr n ρ) w:=by
 unfold wpList;rw [eR,if_pos hw];refine .inl ?_;unfold Oper.wp;rw [aR,hr];simp only [Oper.upon_skip,jH];exact k
def F9(cs:List Value)(k:Nat):List Value->List Value
 | []=>cs
 | v::r=>F9 (cs.set k v) (k+1) r
theorem MR(vs:List Value): ∀(cs:List Value) (k:Nat),wr cs.toArray k vs=(F9 cs k vs).toArray:=by
 induction vs with
 | nil=>intro cs k;rfl
 | cons v r ih=>intro cs k;rw [wr,F9, ←ih];simp
theorem Rt{f:FuncId}{args:List Value}{xs:Array Operand}{Ts:Array TypeId}{dst:Option Nat}{gd:Option (Nat×Bool)}{w:World}
  (hf: ∃fn c,P.funcs[f]? =some fn/\(fn.name== "runtime.NumGoroutine")=false/\fn.body=some c) (hx:xs.toList.map (ev n ρ)=args):
  (execOp (ev n ρ) ⟨dst, .call ⟨.value (.func f),xs,Ts⟩,ty,pos,af,gd⟩).run P w= .ok (.enter f args.toArray) w:=by
 obtain ⟨fn,c,h1,h2,h3⟩:=hf;replace hx:xs.map (ev n ρ)=args.toArray:=by rw [←hx, ←Array.toList_map]
 simp only [execOp,resolve,ev,Deferred.ofValue,Sem.run_bind,Sem.run_pure,Result.andThen_ok,invoke,callFunc,run_program,hx,h1,h2,h3];simp
end
section
variable{P:Program}{Q:Exit->Act->World->Prop}{n:Nat}{ρ:Nat->Value}{σ:St}{w:World}
theorem rg{id:Nat}{l:List Oper}(h:wpList P l.toArray Q l (fr n ρ) w):(Code.region id l.toArray false).wp P Q (fr n ρ) w:=wp_region_lit h
end
end Go.Vs
namespace Go.Vs
open Go
abbrev Sl{α:Type}(a:Option Addr)(xs:List α)(c:Nat):Value:= .slice a xs.length c
section
variable{α:Type}[Rp α]
theorem Rd.row{el:Nat}{σ:St}{v:Value}{xs:List α}(h:Rd el σ v xs): ∃L:List Value,L.length=xs.length*Rp.sz α/\
  (∀i,(hi:i<xs.length)-> ∃cs,Rp.rp el σ cs xs[i]/\ ∀j,(hj:j<cs.length)->L[i*Rp.sz α+j]? =some cs[j])/\
  (((∃ad c,v= .slice ad 0 c)/\xs=[])\/ ∃b o c,v= .slice (some ⟨b,o,none⟩) xs.length c/\ ∀j,(hj:j<L.length)->σ.w.cell? ⟨b,o+j,none⟩=some L[j]):=by
 rcases h with ⟨hv,rfl⟩ | ⟨b,o,c,rfl,h⟩
 ·exact ⟨[],by simp,λi hi=>by simp at hi, .inl ⟨hv,rfl⟩⟩
 ·have key: ∀k,k<xs.length*Rp.sz α-> ∃u,σ.w.cell? ⟨b,o+k,none⟩=some u:=by
   intro k hk;have hp:0<Rp.sz α:=Rp.pos;have hq:k / Rp.sz α<xs.length:=(Nat.div_lt_iff_lt_mul hp).2 hk;obtain ⟨cs,h1,h2⟩:=h _ hq;have hm:=Nat.mod_lt k hp;have:=h2 (k % Rp.sz α) (by rw [Rp.len h1];exact hm);have e:o+k / Rp.sz α*Rp.sz α+k % Rp.sz α=o+k:=by
    have:=Nat.div_add_mod k (Rp.sz α);rw [Nat.mul_comm] at this;omega
   rw [e] at this;exact ⟨_,this⟩
  refine ⟨(List.range (xs.length*Rp.sz α)).map λk=>(σ.w.cell? ⟨b,o+k,none⟩).getD undef,by simp,λi hi=> ?_, .inr ⟨b,o,c,rfl,λj hj=> ?_⟩⟩
  ·obtain ⟨cs,h1,h2⟩:=h i hi;refine ⟨cs,h1,λj hj=> ?_⟩;have hl:=Rp.len h1;have:(i+1)*Rp.sz α<=xs.length*Rp.sz α:=qaj _ hi;rw [Nat.add_mul] at this;have e:=h2 j hj;rw [Nat.add_assoc] at e;simp only [List.getElem?_map];rw [List.getElem?_range (by omega)];simp only [qac];rw [show σ.w.cell? ⟨b,o+(i*Rp.sz α+j),none⟩=some cs[j] from e]
   rfl
  ·simp only [qbu,List.length_range] at hj;obtain ⟨u,hu⟩:=key j hj;simp [hu]
theorem Rd.plain{el:Nat}{σ:St}{xs:List α}{L:List Value}(h1:L.length=xs.length*Rp.sz α)
  (h2: ∀i,(hi:i<xs.length)-> ∃cs,Rp.rp el σ cs xs[i]/\ ∀j,(hj:j<cs.length)->L[i*Rp.sz α+j]? =some cs[j]): ∀u∈L,plain u=true:=by
 intro u hu;obtain ⟨k,hk,rfl⟩:=qal.1 hu;have hp:0<Rp.sz α:=Rp.pos;have hq:k / Rp.sz α<xs.length:=(Nat.div_lt_iff_lt_mul hp).2 (by omega);obtain ⟨cs,h3,h4⟩:=h2 _ hq;have hm:=Nat.mod_lt k hp;have:=h4 (k % Rp.sz α) (by rw [Rp.len h3];exact hm);have e:k / Rp.sz α*Rp.sz α+k % Rp.sz α=k:=by
  have:=Nat.div_add_mod k (Rp.sz α);rw [Nat.mul_comm] at this;omega
 rw [e,qb6 hk] at this;rw [qai this];exact Rp.one h3 _ (qad _)
theorem k8{P:Program}{σ:St}{v:Value}{xs:List α}{L:List Value}(h1:L.length=xs.length*Rp.sz α)
  (h:((∃ad c,v= .slice ad 0 c)/\xs=[])\/ ∃b o c,v= .slice (some ⟨b,o,none⟩) xs.length c/\ ∀j,(hj:j<L.length)->σ.w.cell? ⟨b,o+j,none⟩=some L[j]) (w:World) (hw:w.heap=σ.w.heap):
  (Builtin.firstCells (Rp.sz α) xs.length v).run P w= .ok L.toArray w:=by
 rcases h with ⟨⟨ad,c,rfl⟩,rfl⟩ | ⟨b,o,c,rfl,h⟩
 ·have:L=[]:=qb9 (by simpa using h1);subst this;cases ad with
  | none=>rfl
  | some a=>simp only [List.length_nil,Builtin.firstCells,loadCells,Nat.zero_mul];rfl
 ·have:=run_loadCellsFrom (P:=P) w b o (xs.length*Rp.sz α) 0 L [] h1 (λj hj=>by
   have:=h j hj;simp only [qc4];rw [←this];simp only [World.cell?, hw])
  simpa [Builtin.firstCells,loadCells] using this
theorem EM(need:Nat): ∀(r c:Nat),c<=2*need+300->Builtin.growBy need r c<=2*need+300
 | 0,c,h=>by simpa [Builtin.growBy] using h
 | r+1,c,h=>by
  unfold Builtin.growBy;split
  ·exact h
  ·exact EM need r _ (by omega)
theorem nextslicecap_le{need c:Nat}(h:c<need):Builtin.nextslicecap need c<=2*need+300:=by
 unfold Builtin.nextslicecap;split
 ·omega
 ·split
  ·omega
  ·exact EM _ _ _ (by omega)
theorem At.put{el:Nat}{σ:St}{b o:Nat}{C C':Array Value}{T:TypeId}{x:α}(h:At el σ b o x)(hb:σ.w.heap[b]? =some (.cells C T (0,0)))(hv:σ.gB b=0)
  (hC: ∀j,j<Rp.sz α->C'[o+j]? =C[o+j]?):At el (σ.put b (.cells C' T (0,0))) b o x:=by
 obtain ⟨cs,h1,h2⟩:=h;refine ⟨cs,Rp.ext (St.F7 hv) h1,λj hj=> ?_⟩;have e:=h2 j hj;have e1:(σ.put b (.cells C' T (0,0))).cell b (o+j)=C'[o+j]? :=by
  show (World.put σ.w b _).cell? _=_;simp only [World.cell?, World.tG _ (lt_of_block hb),qbp,qa6,if_false]
 have e2:σ.cell b (o+j)=C[o+j]? :=by
  show σ.w.cell? _=_;simp only [World.cell?, hb,qbp,qa6,if_false]
 rw [e1,hC j (by rw [←Rp.len h1];exact hj), ←e2,e]
theorem At.tH{el:Nat}{σ:St}{b o:Nat}{C:Array Value}{T:TypeId}{f:Nat×Nat}{x:α}{cs:List Value}(hb:σ.w.heap[b]? =some (.cells C T f))(hr:Rp.rp el σ cs x)
  (hC: ∀j,(hj:j<cs.length)->C[o+j]? =some cs[j]):At el σ b o x:=by
 refine ⟨cs,hr,λj hj=> ?_⟩;show σ.w.cell? _=_;simp only [World.cell?, hb,qbp,qa6,if_false];exact hC j hj
end
section
variable{P:Program}{ops:Array Oper}{Q:Exit->Act->World->Prop}{n d:Nat}{ρ:Nat->Value}{σ:St}{u v:Value}{rest:List Oper}
variable{ty T T' E E':TypeId}{pos:String}{af:Array Edge}{x y:Operand}{a:Int}{α:Type}[Rp α]{xs ys:List α}{z:Value}{s bt lo:Nat}
theorem Cp{el:Nat}(hT:P.underlying T=some (.slice E))(pW:P.underlying T'=some (.slice E'))(hi:TI P E z s bt)(hs:s=Rp.sz α)(AU:z.cells.size=s)(Ru:bt<=1024)
  (hO:Ow σ lo el v xs) (hS:Rd el σ u ys) (hlen:xs.length+ys.length<=2147483648) (qW:lo<=σ.size):
  ∃a' c' σ',(Builtin.append_ #[T,T'] ty #[v,u]).run P σ.w= .ok (Sl a' (xs++ys) c') σ'.w/\Mod (blk v) σ σ'/\Ow σ' lo el (Sl a' (xs++ys) c') (xs++ys)/\
   (blk (Sl a' (xs++ys) c')=blk v\/ ∀b,blk (Sl a' (xs++ys) c')=some b->σ.size<=b)/\ ∀ad0 m0 cp0,v= .slice ad0 m0 cp0->xs.length+ys.length<=cp0->c'=cp0:=by
 obtain ⟨i0,vR,BD,P4,hi4⟩:=hi.it;have hTI:=hi;obtain ⟨L,hL1,hL2,hL3⟩:=hS.row;obtain ⟨K,u6,Rv,hK3⟩:=hO.rd.row;have MT:=Rd.plain hL1 hL2;subst hs;have K1: ∀w,(Builtin.lenOf u).run P w= .ok ys.length w:=by
  intro w;obtain ⟨ad,c,rfl⟩:=hS.rI
  rfl
 obtain ⟨ad,cp,VE⟩:=hO.rI;by_cases wu:xs.length+ys.length<=cp
 ·
  rcases hO with ⟨rfl,rfl⟩ | ⟨b,o,c,C,T0,rfl,h2,h3,h4,h5,h6,h7⟩
  ·cases VE;have hy:ys=[]:=qb9 (by simpa using wu);subst hy;refine ⟨none,0,σ, ?_,Mod.refl _ _,Ow.nil, .inl rfl,by rintro _ _ _ ⟨⟩ _;rfl⟩;have hf:=k8 (P:=P) hL1 hL3 σ.w rfl;simp only [List.length_nil] at hf;simp only [Builtin.append_,qaq,qbb,List.getElem?_cons_succ,underlying,hT,pW,Sem.run_bind,run_program,Result.andThen_ok,Sem.run_pure,run_typeInfo hTI,K1,
    if_true,qa6,if_false,qcl,List.length_nil,qcj,qa2,hf]
   rfl
  ·cases VE;have Im:o+xs.length*Rp.sz α+L.length<=C.size:=by
    have:(xs.length+ys.length)*Rp.sz α<=cp*Rp.sz α:=qaj _ wu;rw [Nat.add_mul] at this;omega
   have fu:=iD (P:=P) b (o+xs.length*Rp.sz α) T0 L 0 σ.w C h3 (by simpa using Im) MT;simp only [qcj] at fu;refine ⟨some ⟨b,o,none⟩,cp,σ.put b (.cells (wr C (o+xs.length*Rp.sz α) L) T0 (0,0)), ?_, ?_, ?_, .inl rfl,by rintro _ _ _ ⟨⟩ _;rfl⟩
   ·simp only [Builtin.append_,qaq,qbb,List.getElem?_cons_succ,underlying,hT,pW,Sem.run_bind,run_program,Result.andThen_ok,Sem.run_pure,run_typeInfo hTI,K1,
     wu,if_true,qa6,if_false,qcl,k8 hL1 hL3 σ.w rfl,add_plain,fu,Sl,qat]
    rfl
   ·exact St.vQ h6
   ·refine .inr ⟨b,o,cp,_,T0,rfl,h2,World.tG _ (lt_of_block h3),by rw [qat];exact wu,by rw [F6];exact h5,h6,λi hi=> ?_⟩;by_cases Oz:i<xs.length
    ·rw [qb7 Oz];have:(i+1)*Rp.sz α<=xs.length*Rp.sz α:=qaj _ Oz;rw [Nat.add_mul] at this;exact (h7 i Oz).put h3 h6 (λj hj=>EL _ _ _ _ (by omega))
    ·rw [qbk (by omega)];rw [qat] at hi;obtain ⟨cs,Gc,UR⟩:=hL2 (i - xs.length) (by omega);refine At.tH (World.tG _ (lt_of_block h3)) (Rp.ext (St.F7 h6) Gc) (λj hj=> ?_);have hl:=Rp.len Gc;have bG:(i - xs.length)*Rp.sz α+j<L.length:=by
      have:(i - xs.length+1)*Rp.sz α<=ys.length*Rp.sz α:=qaj _ (by omega);rw [Nat.add_mul] at this;omega
     have e:=Rm L C (o+xs.length*Rp.sz α) ((i - xs.length)*Rp.sz α+j) Im bG;have e2:=UR j hj;rw [qb6 bG] at e2;have e3:o+i*Rp.sz α+j=o+xs.length*Rp.sz α+((i - xs.length)*Rp.sz α+j):=by
      have:i*Rp.sz α=xs.length*Rp.sz α+(i - xs.length)*Rp.sz α:=by rw [←Nat.add_mul];congr 1;omega
      omega
     rw [e3,e,e2]
 ·
  have hn:=nextslicecap_le (need:=xs.length+ys.length) (c:=cp) (by omega);have K2: ¬Builtin.nextslicecap (xs.length+ys.length) cp*bt>2^48:=by
   have h1:Builtin.nextslicecap (xs.length+ys.length) cp*bt<=(2*(xs.length+ys.length)+300)*1024:=Nat.mul_le_mul hn Ru;have h2:(2:Nat)^48=281474976710656:=by decide
   omega
  have acM: ¬(((xs.length+ys.length:Nat):Int)>IntKind.i64.max/\(false=true\/bt=0)):=by
   have:IntKind.i64.max=9223372036854775807:=by decide
   omega
  have acN: ¬(((xs.length+ys.length:Nat):Int)>IntKind.i64.max):=by
   have:IntKind.i64.max=9223372036854775807:=by decide
   omega
  let q:Question:= .appendCap (xs.length+ys.length) cp E
  let qj:=q.cut (σ.w.tape σ.w.drawn q)
  have YM:xs.length+ys.length<=qj:=by
   show _<=Question.cut (.appendCap (xs.length+ys.length) cp E) _;simp only [Question.cut];omega
  let Z:=Builtin.zeroCells z.cells (qj - (xs.length+ys.length))
  have hZ:Z.size=(qj - (xs.length+ys.length))*z.cells.size:=by show (Builtin.zeroCells _ _).size=_;simp [Builtin.zeroCells]
  let R:List Value:=K++L++Z.toList
  let w1:World:={ σ.w with drawn:=σ.w.drawn+1 }
  have hR:(K.toArray++L.toArray++Z)=R.toArray:=by
   apply qcn;simp [R]
  have hf1:=k8 (P:=P) (σ:=σ) (v:=v) u6 hK3 w1 rfl;have hf2:=k8 (P:=P) (σ:=σ) (v:=u) hL1 hL3 w1 rfl;have AB:(askRoom (qj*bt)).run P w1= .ok () w1:=by
   unfold askRoom;split <;> rfl
  have FM:(choose (.appendCap (xs.length+ys.length) cp E)).run P σ.w= .ok qj w1:=by
   simp [choose,Sem.run,Question.forced,qj,q,w1]
  have P5:(typeInfo E).run P=λw=> .ok i0 w:=by
   funext w;simp [typeInfo,vR]
  have bU:(Builtin.append_ #[T,T'] ty #[v,u]).run P σ.w= .ok (Sl (some ⟨σ.size,0,none⟩) (xs++ys) qj) (σ.new (.cells R.toArray E (0,0)) 1).w:=by
   subst VE;simp only [Builtin.append_,qaq,qbb,List.getElem?_cons_succ,underlying,hT,pW,Sem.run_bind,run_program,Result.andThen_ok,Sem.run_pure,run_typeInfo hTI,K1,
    wu,if_true,qa6,if_false,qcl,acN,false_and,P5,hi4,K2,FM,AB,hf1,hf2,oE hTI,Sl,qat]
   rw [show (K.toArray++L.toArray++Builtin.zeroCells z.cells (qj - (xs.length+ys.length)))=R.toArray from hR]
   rfl
  have AV:=σ.tE (.cells R.toArray E (0,0)) 1;refine ⟨_,qj,_,bU,(σ.mD _ 1).step (Mod.refl _ _) (.inl rfl) |> λh=>⟨h.os,h.tape,h.output,h.dr,h.ef,h.ext,⟨λb hb _=>h.YL.block b hb (by simp),λb hb _=>h.YL.gB b hb (by simp)⟩⟩,
   .inr ⟨σ.size,0,qj,R.toArray,E,rfl,qW,AV,by rw [qat];exact YM, ?_,σ.tF _ 1,λi hi=> ?_⟩, .inr (by rintro b ⟨⟩;exact qa2 _),λad0 m0 cp0 e h=>absurd h (by rw [VE] at e;cases e;exact wu)⟩
  ·simp only [R,qbn,qat,u6,hL1,qce,hZ,AU,qc4];rw [←Nat.add_mul, ←Nat.add_mul];exact qaj _ (by omega)
  ·have hE:=(σ.mD (.cells R.toArray E (0,0)) 1).ext;by_cases Oz:i<xs.length
   ·rw [qb7 Oz];obtain ⟨cs,Gc,UR⟩:=Rv i Oz;refine At.tH AV (Rp.ext hE Gc) (λj hj=> ?_);have e2:=UR j hj;have bG:=List.F5 e2;simp only [R,qc4,qaq,List.append_assoc];rw [qbj bG,e2]
   ·rw [qbk (by omega)];rw [qat] at hi;obtain ⟨cs,Gc,UR⟩:=hL2 (i - xs.length) (by omega);refine At.tH AV (Rp.ext hE Gc) (λj hj=> ?_);have e2:=UR j hj;have bG:=List.F5 e2;have e3:i*Rp.sz α+j=K.length+((i - xs.length)*Rp.sz α+j):=by
     have:i*Rp.sz α=xs.length*Rp.sz α+(i - xs.length)*Rp.sz α:=by rw [←Nat.add_mul];congr 1;omega
     omega
    simp only [R,qc4,qaq,List.append_assoc];rw [e3,qbw (by omega),Nat.add_sub_cancel_left,qbj bG,e2]
end
end Go.Vs
namespace Go.Vs
open Go
section
variable{P:Program}{ops:Array Oper}{Q:Exit->Act->World->Prop}{n d:Nat}{ρ:Nat->Value}{σ:St}{u v:Value}{rest:List Oper}
variable{ty T T' E E':TypeId}{pos:String}{af:Array Edge}{x y:Operand}{a b:Int}{α:Type}[Rp α]{xs ys:List α}{z:Value}{s bt lo:Nat}{gd:Option (Nat×Bool)}{H:Array Obj}{dst:Option Nat}
def nP{α:Type}(xs ys:List α):Option (List α):=if xs.length+ys.length<=2147483648 then some (xs++ys) else none
theorem zy{α:Type}{xs ys r:List α}(h:nP xs ys=some r):xs.length+ys.length<=2147483648/\r=xs++ys:=by
 unfold nP at h;split at h
 ·exact ⟨by assumption,(qai h).symm⟩
 ·cases h
inductive Flat(el:Nat)(σ:St):List Value->List α->Prop
 | nil:Flat el σ [] []
 | cons {c cs:List Value} {x:α} {xs:List α}:Rp.rp el σ c x->Flat el σ cs xs->Flat el σ (c++cs) (x::xs)
theorem Flat.length{el:Nat}{cs:List Value}{xs:List α}(h:Flat el σ cs xs):cs.length=xs.length*Rp.sz α:=by
 induction h with
 | nil=>simp
 | cons h1 h2 ih=>rw [qat,ih,Rp.len h1,qb2,Nat.add_mul];omega
theorem Flat.get{el:Nat}{cs:List Value}{xs:List α}(h:Flat el σ cs xs): ∀i,(hi:i<xs.length)-> ∃c,Rp.rp el σ c xs[i]/\ ∀j,(hj:j<c.length)->cs[i*Rp.sz α+j]? =some c[j]:=by
 induction h with
 | nil=>intro i hi;simp at hi
 | @cons c cs x xs h1 h2 ih=>
  intro i hi;cases i with
  | zero=>
   refine ⟨c,h1,λj hj=> ?_⟩;rw [Nat.zero_mul,qc4,qbj hj];simp [hj]
  | succ i=>
   obtain ⟨c',h3,h4⟩:=ih i (by simpa using hi);refine ⟨c',h3,λj hj=> ?_⟩;have:=Rp.len h1;rw [qbw (by rw [Nat.add_mul];omega),show (i+1)*Rp.sz α+j - c.length=i*Rp.sz α+j by rw [Nat.add_mul];omega];exact h4 j hj
theorem Flat.ext{el:Nat}{σ':St}{cs:List Value}{xs:List α}(h:Flat el σ cs xs)(hE:Ext σ σ'):Flat el σ' cs xs:=by
 induction h with
 | nil=>exact .nil
 | cons h1 h2 ih=>exact .cons (Rp.ext hE h1) ih
theorem Bx.ow{el:Nat}{bl:Nat}{cs:List Value}(h:Bx σ bl cs)(hf:Flat el σ cs xs)(qW:lo<=bl):Ow σ lo el (Sl (some ⟨bl,0,none⟩) xs xs.length) xs:=by
 obtain ⟨T,h1,h2⟩:=h;refine .inr ⟨bl,0,xs.length,cs.toArray,T,rfl,qW,h1,qa2 _, ?_,h2,λi hi=> ?_⟩
 ·simp [hf.length]
 ·obtain ⟨c,h3,h4⟩:=hf.get i hi;exact At.tH h1 h3 (λj hj=>by simpa using h4 j hj)
theorem Cq{el:Nat}{len:Nat}{parts:Array (Nat×Operand)}{ps:List (Nat×Value)}{cs:List Value}(hT:P.underlying T=some (.slice E))(hi:TI P E z s bt)
  (K2:Nat.ble (len*s) 16777216=true) (hp:parts.toList.map (λp=>(p.1,ev n ρ p.2))=ps)
  (AD:Instr.fill (λi=>some (i*s,s)) ((Array.range (len*s)).map (λk=>(if len*s=0 then #[] else z.cells)[k % (if len*s=0 then #[] else z.cells).size]!)) ps=some cs.toArray)
  (hf:Flat el σ cs xs) (hl:xs.length=len) (qW:lo<=σ.size):
  ∃(b:Nat) (σ':St),σ.size=b/\zx P σ.w n ρ ⟨dst, .buildSlice T len parts,ty,pos,af,gd⟩ (Sl (some ⟨b,0,none⟩) xs len) σ'.w/\Mod none σ σ'/\Ow σ' lo el (Sl (some ⟨b,0,none⟩) xs len) xs:=by
 have V2:Bx (σ.new (.cells cs.toArray E (0,0)) 0) σ.size cs:=⟨E,St.tE _ _ _,St.tF _ _ _⟩;have hm:=σ.mD (.cells cs.toArray E (0,0)) 0;refine ⟨σ.size,σ.new (.cells cs.toArray E (0,0)) 0,rfl, ?_,hm,by
  have:=V2.ow (hf.ext hm.ext) qW;rw [hl] at this;exact this⟩
 have hb: ¬len*s>2^24:=by
  have:=qa5 K2;have e:(2:Nat)^24=16777216:=by decide
  omega
 have key:(Instr.buildSlice T len ps.toArray).run P σ.w= .ok (.slice (some ⟨σ.size,0,none⟩) len len) (σ.new (.cells cs.toArray E (0,0)) 0).w:=by
  by_cases h0:len*s=0
  ·simp only [h0,if_true] at AD;have hb0: ¬(0>2^24):=by omega
   simp only [Instr.buildSlice,underlying,hT,Sem.run_bind,run_program,Result.andThen_ok,Sem.run_pure,run_typeInfo hi,hb0,if_false,h0,if_true,AD,newRow,newObj,Sem.run]
   rfl
  ·simp only [h0,if_false] at AD;simp only [Instr.buildSlice,underlying,hT,Sem.run_bind,run_program,Result.andThen_ok,Sem.run_pure,run_typeInfo hi,hb,if_false,h0,oE hi,AD,newRow,newObj,Sem.run]
   rfl
 have hpp:(parts.map fun (i,x)=>(i,ev n ρ x))=ps.toArray:=by rw [←hp, ←Array.toList_map]
 simp only [zx,execOp,hpp,Sem.run_bind,key,Result.andThen_ok,Sem.run_pure,Sl,hl]
def AE{α:Type}(k:Int)(z0:α):Option (List α):=if 0<=k/\k<=2147483648 then some (List.replicate k.toNat z0) else none
theorem EN{zc:Array Value}{m i j:Nat}(hi:i<m)(hj:j<zc.size):
  ((Array.range (m*zc.size)).map (λk=>zc[k % zc.size]!))[i*zc.size+j]? =zc[j]? :=by
 have h:(i+1)*zc.size<=m*zc.size:=qaj _ hi;rw [Nat.add_mul] at h;rw [qc8,Array.getElem?_range,if_pos (by omega)];simp only [qac];have:(i*zc.size+j) % zc.size=j:=by rw [Nat.mul_comm,Nat.mul_add_mod,Nat.mod_eq_of_lt hj]
 rw [this,getElem!_pos zc j hj,Array.getElem?_eq_getElem hj]
theorem run_make{el:Nat}{z0:α}{zs:List Value}(hT:P.underlying T=some (.slice E))(hi:TI P E z s bt)(hs:s=Rp.sz α)(hzc:z.cells=zs.toArray)(hz:Rp.rp el σ zs z0)(Ru:bt<=1024)
  (hr:AE a z0=some xs) (hx:ev n ρ x=I a) (hy:ev n ρ y=I a) (qW:lo<=σ.size)
  : ∃(b:Nat) (σ':St) (c':Nat),c'=a.toNat/\zx P σ.w n ρ ⟨dst, .makeSlice T x y,ty,pos,af,gd⟩ (Sl (some ⟨b,0,none⟩) xs c') σ'.w/\Mod none σ σ'/\Ow σ' lo el (Sl (some ⟨b,0,none⟩) xs c') xs:=by
 unfold AE at hr;split at hr
 case isFalse=>cases hr
 rename_i h01;obtain ⟨h0,h1⟩:=h01;cases hr;obtain ⟨i0,vR,BD,P4,Rw⟩:=hi.it;have P5: ∀w,(typeInfo E).run P w= .ok i0 w:=by
  intro w;simp only [typeInfo,Sem.run_bind,run_program,Result.andThen_ok,vR];rfl
 have mS:zs.length=Rp.sz α:=Rp.len hz;have u0:0<Rp.sz α:=Rp.pos
 let C:Array Value:=(Array.range (a.toNat*s)).map (λk=>(if a.toNat*s=0 then #[] else z.cells)[k % (if a.toNat*s=0 then #[] else z.cells).size]!)
 have AB:(askRoom (a.toNat*bt)).run P σ.w= .ok () σ.w:=by unfold askRoom;split <;> rfl
 have Yy:IntKind.i64.wrap a=a:=aV (by omega) (by omega);have htl:decide ((bt:Int)*a>2^48)=false:=by
  have h2:(2:Int)^48=281474976710656:=by decide
  have:(bt:Int)*a<=1024*2147483648:=Int.mul_le_mul (by omega) h1 h0 (by omega);simp only [decide_eq_false_iff_not];omega
 have bU:(Instr.makeSlice T (I a) (I a)).run P σ.w= .ok (.slice (some ⟨σ.size,0,none⟩) a.toNat a.toNat) (σ.new (.cells C E (0,0)) 0).w:=by
  have bG:(decide (a<0))=false:=by simp;omega
  have hgt:(decide (a>a))=false:=by simp
  by_cases h00:a.toNat*s=0
  ·simp only [Instr.makeSlice,underlying,hT,Sem.run_bind,run_program,Result.andThen_ok,Sem.run_pure,asInt,asIntOf,P5,Rw,Yy,htl,bG,hgt,Bool.or_self,qa6,if_false,AB,run_typeInfo hi,h00,if_true,newRow,newObj,Sem.run,C]
   rfl
  ·simp only [Instr.makeSlice,underlying,hT,Sem.run_bind,run_program,Result.andThen_ok,Sem.run_pure,asInt,asIntOf,P5,Rw,Yy,htl,bG,hgt,Bool.or_self,qa6,if_false,AB,run_typeInfo hi,h00,oE hi,newRow,newObj,Sem.run,C]
   rfl
 have AV:=σ.tE (.cells C E (0,0)) 0;have hm:=σ.mD (.cells C E (0,0)) 0;have hlen:(List.replicate a.toNat z0).length=a.toNat:=List.length_replicate;refine ⟨σ.size,σ.new (.cells C E (0,0)) 0,a.toNat,rfl, ?_,hm, .inr ⟨σ.size,0,a.toNat,C,E,rfl,qW,AV,by rw [hlen];exact qa2 _, ?_,St.tF _ _ _,λi gA=> ?_⟩⟩
 ·simp only [zx,execOp,hx,hy,Sem.run_bind,bU,Result.andThen_ok,Sem.run_pure,Sl,hlen]
 ·simp [C,hs]
 ·rw [hlen] at gA;rw [List.getElem_replicate];refine At.tH AV (Rp.ext hm.ext hz) (λj hj=> ?_);have jF: ¬a.toNat*s=0:=by
   have:0<a.toNat*s:=Nat.mul_pos (by omega) (by omega);omega
  have aaf:z.cells.size=s:=by rw [hzc,hs];simpa using mS
  have hg:=EN (zc:=z.cells) (m:=a.toNat) (i:=i) (j:=j) gA (by rw [aaf,hs, ←mS];exact hj);simp only [C,jF,if_false,qc4];rw [aaf] at hg;rw [hs] at hg ⊢;simp only [aaf,hs] at hg ⊢;rw [hg,hzc];simp [hj]
end
end Go.Vs
namespace Go.Vs
open Go
def eI{α:Type}(xs:List α)(l h:Int):Option (List α):=if 0<=l/\l<=h/\h<=(xs.length:Int) then some ((xs.take h.toNat).drop l.toNat) else none
structure UU(a:Option Addr)(m c s:Nat)(l h:Int)(a':Option Addr)(m' c':Nat):Prop where
 h0:0<=l
 h1:l<=h
 h2:h<=(m:Int)
 h3:m<=c
 ea:a'=if c=l.toNat then a else a.map (·.add (l.toNat*s))
 em:m'=h.toNat - l.toNat
 ec:c'=c - l.toNat
section
variable{P:Program}{ops:Array Oper}{Q:Exit->Act->World->Prop}{n d:Nat}{ρ:Nat->Value}{σ:St}{u v:Value}{rest:List Oper}
variable{ty T T' E E':TypeId}{pos:String}{af:Array Edge}{x y p q:Operand}{a b l h:Int}{α:Type}[Rp α]{xs ys r:List α}{z:Value}{s bt lo:Nat}{gd:Option (Nat×Bool)}{H:Array Obj}{dst:Option Nat}{ad oC:Option Addr}{m c m' c':Nat}
omit [Rp α] in
theorem jJ(hg:eI xs l h=some r):0<=l/\l<=h/\h<=(xs.length:Int)/\r=(xs.take h.toNat).drop l.toNat/\r.length=h.toNat - l.toNat:=by
 unfold eI at hg;split at hg
 ·rename_i hc;cases hg;refine ⟨hc.1,hc.2.1,hc.2.2,rfl, ?_⟩;rw [List.length_drop,qan];omega
 ·cases hg
omit [Rp α] in
theorem Rx(hg:eI xs l h=some r)(i:Nat)(hi:i<r.length): ∃hj:l.toNat+i<xs.length,r[i]=xs[l.toNat+i]:=by
 obtain ⟨h0,h1,h2,rfl,h4⟩:=jJ hg;refine ⟨by omega, ?_⟩;rw [List.getElem_drop,qcd]
theorem Rd.RD{el:Nat}(hR:Rd el σ (Sl ad xs c) xs)(wu:xs.length<=c)(hg:eI xs l h=some r):
  ∃oC c',UU ad xs.length c (Rp.sz α) l h oC r.length c'/\((oC=ad/\c'=c/\xs=[]/\r=[])\/ ∃bl o cp o',ad=some ⟨bl,o,none⟩/\Sl oC r c'= .slice (some ⟨bl,o',none⟩) r.length cp/\cp=c - l.toNat/\
   (o'=o+l.toNat*Rp.sz α\/(o'=o/\r=[]/\cp=0))/\ ∀i,(hi:i<r.length)->At el σ bl (o'+i*Rp.sz α) r[i]):=by
 obtain ⟨h0,h1,h2,h3,h4⟩:=jJ hg;refine ⟨if c=l.toNat then ad else ad.map (·.add (l.toNat*Rp.sz α)),c - l.toNat,⟨h0,h1,h2,wu,rfl,h4,rfl⟩, ?_⟩;rcases hR with ⟨hv,rfl⟩ | ⟨bl,o,cp,hv,hA⟩
 ·simp only [List.length_nil] at h2;have:l=0:=by omega
  subst this;have hr:r=[]:=qb9 (by omega);subst hr;refine .inl ⟨?_,by simp,rfl,rfl⟩;split
  ·rfl
  ·cases ad with
   | none=>rfl
   | some a=>simp [Addr.add]
 ·cases hv;right;by_cases hc:c=l.toNat
  ·have hr:r=[]:=qb9 (by omega);subst hr;exact ⟨bl,o,c - l.toNat,o,rfl,by simp [hc],rfl, .inr ⟨rfl,rfl,by omega⟩,λi hi=>by simp at hi⟩
  ·refine ⟨bl,o,c - l.toNat,o+l.toNat*Rp.sz α,rfl,by simp [hc,add_plain],rfl, .inl rfl,λi hi=> ?_⟩;obtain ⟨hj,e⟩:=Rx hg i hi;rw [e,Nat.add_assoc, ←Nat.add_mul];exact hA _ hj
theorem RS.cap{el:Nat}(hR:RS el σ (Sl ad xs c) xs):xs.length<=c:=by
 rcases hR with ⟨hv,rfl⟩ | ⟨b2,o2,c2,hv,_,h4,_⟩
 ·simp
 ·cases hv;exact h4
theorem RS.slice{el:Nat}(hR:RS el σ (Sl ad xs c) xs)(hg:eI xs l h=some r): ∃oC c',UU ad xs.length c (Rp.sz α) l h oC r.length c'/\RS el σ (Sl oC r c') r:=by
 obtain ⟨h0,h1,h2,h3,h4⟩:=jJ hg;have wu:=hR.cap;obtain ⟨oC,c',hs,hx⟩:=hR.rd.RD wu hg;refine ⟨oC,c',hs, ?_⟩;by_cases hr:r=[]
 ·subst hr;exact .inl ⟨⟨_,_,rfl⟩,rfl⟩
 rcases hx with ⟨_,_,_,hx⟩ | ⟨bl,o,cp,o',rfl,e1,e2,e3,e4⟩
 ·exact absurd hx hr
 ·rcases hR with ⟨_,rfl⟩ | ⟨b2,o2,c2,hv,hel,_,aag,_⟩
  ·exact absurd (qb9 (by simp at h2;omega)) hr
  ·cases hv;refine .inr ⟨bl,o',cp,e1,hel,by omega, ?_,e4⟩;rcases e3 with rfl | ⟨rfl,rfl,_⟩
   ·have:(l.toNat+r.length)*Rp.sz α<=xs.length*Rp.sz α:=qaj _ (by omega);rw [Nat.add_mul] at this;omega
   ·exact absurd rfl hr
theorem Ow.cap{el:Nat}(hO:Ow σ lo el (Sl ad xs c) xs):xs.length<=c:=by
 rcases hO with ⟨hv,rfl⟩ | ⟨b2,o2,c2,C,T,hv,_,_,h4,_⟩
 ·simp
 ·cases hv;exact h4
theorem Ow.slice{el:Nat}(hO:Ow σ lo el (Sl ad xs c) xs)(hg:eI xs l h=some r): ∃oC c',UU ad xs.length c (Rp.sz α) l h oC r.length c'/\Ow σ lo el (Sl oC r c') r/\(∀b,blk (Sl oC r c')=some b->blk (Sl ad xs c)=some b):=by
 obtain ⟨h0,h1,h2,h3,h4⟩:=jJ hg;have wu:=hO.cap;obtain ⟨oC,c',hs,hx⟩:=hO.rd.RD wu hg;refine ⟨oC,c',hs, ?_, ?_⟩
 ·rcases hx with ⟨rfl,rfl,rfl,rfl⟩ | ⟨bl,o,cp,o',rfl,e1,e2,e3,e4⟩
  ·exact hO
  ·rcases hO with ⟨hv,_⟩ | ⟨b2,o2,c2,C,T0,hv,g2,g3,g4,g5,g6,_⟩
   ·cases hv
   ·cases hv;refine .inr ⟨bl,o',cp,C,T0,e1,g2,g3,by omega, ?_,g6,e4⟩;rcases e3 with rfl | ⟨rfl,rfl,h9⟩
    ·have:(l.toNat+cp)*Rp.sz α<=c*Rp.sz α:=qaj _ (by omega);rw [Nat.add_mul] at this;omega
    ·subst h9;simp only [Nat.zero_mul];omega
 ·intro b hb;rcases hx with ⟨rfl,rfl,rfl,rfl⟩ | ⟨bl,o,cp,o',rfl,e1,e2,e3,e4⟩
  ·exact hb
  ·rw [e1] at hb;cases hb;rfl
theorem EO{qd gA:Option Value}(hT:P.underlying T=some (.slice E))(hi:TI P E z s bt)(hs:UU ad m c s l h oC m' c')
  (hl:qd=some (I l)\/(qd=none/\l=0)) (hh:gA=some (I h)\/(gA=none/\h=m)) (w:World):
  (Instr.sliceAt T (.slice ad m c) qd gA none).run P w= .ok (.slice oC m' c') w:=by
 obtain ⟨h0,h1,h2,h3,rfl,rfl,rfl⟩:=hs;have hh':h<=(c:Int):=by omega
 have HA:0<=h:=by omega
 have e1:(h.toNat:Int)=h:=Int.toNat_of_nonneg HA;rcases hl with rfl | ⟨rfl,rfl⟩ <;> rcases hh with rfl | ⟨rfl,rfl⟩ <;>
  simp [Instr.sliceAt,Instr.slice,underlying,hT,Instr.sliceBounds,Instr.sliceBound,asIntOf,h0,HA,hh',h1,e1,run_typeInfo hi]
theorem xf(hT:P.underlying T=some (.slice E))(hi:TI P E z s bt)(hs:UU ad m c s l m oC m' c')(hx:ev n ρ x= .slice ad m c)(hp:ev n ρ p=I l):
  dX P H n ρ ⟨dst, .slice T x (some p) none none,ty,pos,af,gd⟩ (.slice oC m' c'):=λw _=>by
 simp [execOp,hx,hp,EO hT hi hs (.inl rfl) (.inr ⟨rfl,rfl⟩)]
theorem jQ(hT:P.underlying T=some (.slice E))(hi:TI P E z s bt)(hs:UU ad m c s 0 h oC m' c')(hx:ev n ρ x= .slice ad m c)(hq:ev n ρ q=I h):
  dX P H n ρ ⟨dst, .slice T x none (some q) none,ty,pos,af,gd⟩ (.slice oC m' c'):=λw _=>by
 simp [execOp,hx,hq,EO hT hi hs (.inr ⟨rfl,rfl⟩) (.inl rfl)]
theorem DY{el:Nat}{e e':α}{bl o o' k:Nat}{vs:List Value}(hi:TI P T z s bt)(hO:Ow σ lo el v xs)(hg:bu xs a=some e)(Oz:Ix v a (Rp.sz α) bl o)(hx:ev n ρ x=pt bl o')(ho:o'=o+k)(hy:ev n ρ y=u)
  (hu:u.cells=vs.toArray) (hs:vs.length=s) (hk:k+vs.length<=Rp.sz α) (hp: ∀t∈vs,plain t=true) (hrp: ∀cs,Rp.rp el σ cs e->Rp.rp el σ (F9 cs k vs) e')
  : ∃σ':St,Rr P σ.w n ρ ⟨dst, .store T x y,ty,pos,af,gd⟩ σ'.w/\Mod (blk v) σ σ'/\Ow σ' lo el v (xs.set a.toNat e'):=by
 subst ho;obtain ⟨ob,m,c,rfl,h0,h1,rfl⟩:=Oz.it;obtain ⟨_,bG,he⟩:=lH hg;rcases hO with ⟨hv,_⟩ | ⟨b2,o2,c2,C,T0,hv,g2,g3,g4,g5,g6,g7⟩
 ·cases hv
 cases hv;have hb:=lt_of_block g3;have KV:(a.toNat+1)*Rp.sz α<=c*Rp.sz α:=qaj _ (by omega);rw [Nat.add_mul] at KV;have fu:=iD (P:=P) bl (ob+a.toNat*Rp.sz α+k) T0 vs 0 σ.w C g3 (by omega) hp;simp only [qcj] at fu;have hm:=St.vQ (σ:=σ) (o:= .cells (wr C (ob+a.toNat*Rp.sz α+k) vs) T0 (0,0)) g6;refine ⟨σ.put bl (.cells (wr C (ob+a.toNat*Rp.sz α+k) vs) T0 (0,0)), ?_,hm, .inr ⟨bl,ob,c,_,T0,by rw [qb3],g2,World.tG _ hb,by rw [qb3];exact g4,by rw [F6];exact g5,g6,λi gA=> ?_⟩⟩
 ·simp [Rr,execOp,hx,hy,Instr.storeAt,Instr.sureAddr,storeVar,run_typeInfo hi,hu,hs,fu,St.put]
 ·rw [qb3] at gA;by_cases hia:i=a.toNat
  ·subst hia;simp only [List.getElem_set_self];obtain ⟨cs,h3,h4⟩:=he▸g7 _ gA;have hl:=Rp.len h3;have rD:=Rp.len (hrp cs h3);refine ⟨F9 cs k vs,Rp.ext hm.ext (hrp cs h3),λj hj=> ?_⟩;have e0:(σ.put bl (.cells (wr C (ob+a.toNat*Rp.sz α+k) vs) T0 (0,0))).cell bl (ob+a.toNat*Rp.sz α+j)=(wr C (ob+a.toNat*Rp.sz α+k) vs)[ob+a.toNat*Rp.sz α+j]? :=by
    show (World.put σ.w bl _).cell? _=_;simp only [World.cell?, World.tG _ hb,qbp,qa6,if_false]
   have e1:(wr cs.toArray k vs)[j]? =some (F9 cs k vs)[j]:=by rw [MR];simp
   rw [e0, ←e1];by_cases hj1:j<k
   ·rw [EL _ _ _ _ (by omega),EL _ _ _ _ hj1];have:=h4 j (by omega);have e3:σ.cell bl (ob+a.toNat*Rp.sz α+j)=C[ob+a.toNat*Rp.sz α+j]? :=by
     show σ.w.cell? _=_;simp only [World.cell?, g3,qbp,qa6,if_false]
    rw [←e3,this];simp
   ·by_cases Z2:j<k+vs.length
    ·have e4:=Rm vs C (ob+a.toNat*Rp.sz α+k) (j - k) (by omega) (by omega);have e5:=Rm vs cs.toArray k (j - k) (by simp;omega) (by omega);rw [show ob+a.toNat*Rp.sz α+j=ob+a.toNat*Rp.sz α+k+(j - k) by omega,e4, ←e5];congr 1;omega
    ·rw [Rj _ _ _ _ (by omega),Rj _ _ _ _ (by omega)];have:=h4 j (by omega);have e3:σ.cell bl (ob+a.toNat*Rp.sz α+j)=C[ob+a.toNat*Rp.sz α+j]? :=by
      show σ.w.cell? _=_;simp only [World.cell?, g3,qbp,qa6,if_false]
     rw [←e3,this];simp
  ·rw [List.getElem_set_ne (by omega)];have jF: ∀j,j<Rp.sz α->(wr C (ob+a.toNat*Rp.sz α+k) vs)[ob+i*Rp.sz α+j]? =C[ob+i*Rp.sz α+j]? :=by
    intro j hj;by_cases ZD:i<a.toNat
    ·have:(i+1)*Rp.sz α<=a.toNat*Rp.sz α:=qaj _ ZD;rw [Nat.add_mul] at this;exact EL _ _ _ _ (by omega)
    ·have:(a.toNat+1)*Rp.sz α<=i*Rp.sz α:=qaj _ (by omega);rw [Nat.add_mul] at this;exact Rj _ _ _ _ (by omega)
   exact (g7 i gA).put g3 g6 jF
theorem EP{k:Nat}{a0:Addr}(hT:P.underlying T=some (.array k E))(hx:ev n ρ x= .slice (some a0) m c)(hm:k<=m):
  dX P H n ρ ⟨dst, .sliceToArrayPointer T x,ty,pos,af,gd⟩ (.pointer (some a0)):=λw _=>by
 have: ¬m<k:=by omega
 simp [execOp,hx,Instr.arrayAt,underlying,hT,this]
theorem RS.arr{el:Nat}{zs:List Int}(hR:RS el σ (Sl ad zs c) zs)(hp:0<zs.length): ∃bl o,ad=some ⟨bl,o,none⟩/\ ∀j,(hj:j<zs.length)->jI σ.w.heap bl (o+j)=some (I zs[j]):=by
 rcases hR with ⟨_,rfl⟩ | ⟨bl,o,c2,hv,_,_,_,hA⟩
 ·simp at hp
 ·cases hv;refine ⟨bl,o,rfl,λj hj=> ?_⟩;have:=(hA j hj).int;simpa [Rp.sz] using this
end
end Go.Vs
namespace Go.Vs
open Go
theorem bind_some{α β:Type}{o:Option α}{f:α->Option β}{r:β}(h:o.bind f=some r): ∃x,o=some x/\f x=some r:=qam.1 h
theorem YG{α:Type}{b:Bool}{x y z:α}(hb:b=true)(h:(bif b then x else y)=z):x=z:=by subst hb;exact h
theorem YH{α:Type}{b:Bool}{x y z:α}(hb:b=false)(h:(bif b then x else y)=z):y=z:=by subst hb;exact h
def bm{α β γ:Type}(f:α->γ)(g:β->γ):α⊕β->γ
 | .inl a=>f a
 | .inr b=>g b
theorem kP{α β γ:Type}{f:α->γ}{g:β->γ}{a:α}{z:γ}(h:bm f g (.inl a)=z):f a=z:=h
theorem kQ{α β γ:Type}{f:α->γ}{g:β->γ}{a:β}{z:γ}(h:bm f g (.inr a)=z):g a=z:=h
def OA(a b:Int):Option Int:=if b=0 then none else some (ao (a.tdiv b))
def Gd(a b:Int):Option Int:=if b=0 then none else some (a.tmod b)
theorem OB{a b r:Int}(h:OA a b=some r):b≠0/\r=ao (a.tdiv b):=by
 unfold OA at h;split at h
 ·cases h
 ·exact ⟨by assumption,(qai h).symm⟩
theorem OC{a b r:Int}(h:Gd a b=some r):b≠0/\r=a.tmod b:=by
 unfold Gd at h;split at h
 ·cases h
 ·exact ⟨by assumption,(qai h).symm⟩
section
variable{P:Program}{H:Array Obj}{n:Nat}{ρ:Nat->Value}{d:Option Nat}{ty T T':TypeId}{pos:String}{af:Array Edge}{gd:Option (Nat×Bool)}{x y:Operand}{a b r:Int}
theorem V3(h:OA a b=some r)(hx:ev n ρ x=I a)(hy:ev n ρ y=I b):dX P H n ρ ⟨d, .binOp .quo T x y T',ty,pos,af,gd⟩ (I r):=by
 obtain ⟨h0,rfl⟩:=OB h;exact Cn hx hy h0
theorem BE(h:Gd a b=some r)(hx:ev n ρ x=I a)(hy:ev n ρ y=I b):dX P H n ρ ⟨d, .binOp .rem T x y T',ty,pos,af,gd⟩ (I r):=by
 obtain ⟨h0,rfl⟩:=OC h;exact KX hx hy h0
end
def OD{α:Type}(k:Nat)(xs:List α):Option (List α):=if k<=xs.length then some (xs.take k) else none
theorem ER{α:Type}{k:Nat}{xs r:List α}(h:OD k xs=some r):k<=xs.length/\r=xs.take k:=by
 unfold OD at h;split at h
 ·exact ⟨by assumption,(qai h).symm⟩
 ·cases h
theorem Iw{H:Array Obj}{b o:Nat}{xs:List Int}{k:Nat}(h: ∀j,(hj:j<xs.length)->jI H b (o+j)=some (I xs[j])): ∀j,(hj:j<(List.map I (xs.take k)).length)->jI H b (o+j)=some (List.map I (xs.take k))[j]:=by
 intro j hj;rw [qbu,qan] at hj;rw [h j (by omega)];simp
theorem RE{xs ys:List Int}{k:Nat}(h1:xs.length=k)(h2:ys.length=k):0+(List.map I xs).length<=(List.map I ys).length:=by simp;omega
def sh{S R:Type}(f:S->Option (S⊕R)):Nat->S->Option R
 | 0,_=>none
 | n+1,s=>(f s).bind (bm (λs'=>sh f n s') (λr=>some r))
theorem xg{S R:Type}(f:S->Option (S⊕R)): ∀(n m:Nat) (s:S) (r:R),n<=m->sh f n s=some r->sh f m s=some r
 | 0,_,_,_,_,h=>by cases h
 | n+1,0,_,_,hm,_=>by omega
 | n+1,m+1,s,r,hm,h=>by
  obtain ⟨o,ho,h⟩:=bind_some h;rw [sh,ho];cases o with
  | inl s'=>exact xg f n m s' r (by omega) h
  | inr t=>exact h
open Classical in
noncomputable def cu{S R:Type}(f:S->Option (S⊕R))(s:S):Option R:=if h: ∃r n,sh f n s=some r then some h.choose else none
theorem Cr{S R:Type}{f:S->Option (S⊕R)}{n:Nat}{s:S}{r:R}(h:sh f n s=some r):cu f s=some r:=by
 have hx: ∃r n,sh f n s=some r:=⟨r,n,h⟩;unfold cu;rw [dif_pos hx];obtain ⟨m,hm⟩:=hx.choose_spec;have h1:=xg f n (max n m) s r (by omega) h;have h2:=xg f m (max n m) s _ (by omega) hm;rw [h1] at h2;exact h2.symm
theorem qh{S R:Type}{f:S->Option (S⊕R)}{s:S}{r:R}(h:cu f s=some r): ∃n,sh f n s=some r:=by
 unfold cu at h;split at h
 ·rename_i hx;obtain ⟨n,hn⟩:=hx.choose_spec;exact ⟨n,(qai h)▸hn⟩
 ·cases h
theorem bs{S R:Type}(f:S->Option (S⊕R))(s:S):cu f s=(f s).bind (bm (λs'=>cu f s') (λr=>some r)):=by
 cases hf:f s with
 | none=>
  cases h:cu f s with
  | none=>rfl
  | some r=>
   obtain ⟨n,hn⟩:=qh h;cases n with
   | zero=>cases hn
   | succ n=>rw [sh,hf] at hn;cases hn
 | some o=>
  cases o with
  | inr r=>exact Cr (n:=1) (by rw [sh,hf];rfl)
  | inl s'=>
   show _=cu f s';cases h:cu f s' with
   | some r=>
    obtain ⟨n,hn⟩:=qh h;exact Cr (n:=n+1) (by rw [sh,hf];exact hn)
   | none=>
    cases h':cu f s with
    | none=>rfl
    | some r=>
     obtain ⟨n,hn⟩:=qh h';cases n with
     | zero=>cases hn
     | succ n=>
      rw [sh,hf] at hn;have:=Cr (f:=f) (n:=n) (s:=s') (r:=r) hn;rw [h] at this;cases this
theorem ES{S R:Type}{f:S->Option (S⊕R)}(J:S->Prop)(μ:S->Nat)(Z:R->Prop)(step: ∀s,J s->(∃s',f s=some (.inl s')/\J s'/\μ s'<μ s)\/ ∃r,f s=some (.inr r)/\Z r):
  ∀(s:S),J s-> ∃r,cu f s=some r/\Z r:=by
 have key: ∀k s,μ s=k->J s-> ∃r,cu f s=some r/\Z r:=by
  intro k
  induction k using Nat.strongRecOn with
  | _ k ih=>
   intro s hk hJ;rcases step s hJ with ⟨s',h1,h2,h3⟩ | ⟨r,h1,h2⟩
   ·obtain ⟨r,h4,h5⟩:=ih _ (hk▸h3) s' rfl h2;exact ⟨r,by rw [bs,h1];exact h4,h5⟩
   ·exact ⟨r,by rw [bs,h1];rfl,h2⟩
 exact λs hJ=>key _ s rfl hJ
section
variable{P:Program}{Q:Exit->Act->World->Prop}{a:Act}{w:World}
theorem bZ{S R:Type}{c:Code}(f:S->Option (S⊕R)){s0:S}{r:R}(hr:cu f s0=some r)(J:S->Act->World->Prop)(h0:J s0 a w)
  (round: ∀s a w o,J s a w->f s=some o->(∀t,o= .inr t->t=r)->c.wp P (Exit.then (λa' w'=> ∃s',o= .inl s'/\J s' a' w') Q) a w):(Code.loop c).wp P Q a w:=by
 obtain ⟨n,hn⟩:=qh hr;refine wp_loop_ghost (λk a w=> ∃s,sh f k s=some r/\J s a w) n ⟨s0,hn,h0⟩ ?_;rintro k a w ⟨s,hk,hJ⟩;cases k with
 | zero=>cases hk
 | succ k=>
  obtain ⟨o,ho,hk⟩:=bind_some hk;refine wp_mono (round s a w o hJ ho (by rintro t rfl;exact qai hk)) ?_;intro e a' w' hq;cases e with
  | normal=>
   obtain ⟨s',rfl,Ov⟩:=hq;exact ⟨k,Nat.lt_succ_self k,s',hk,Ov⟩
  | exit id=>exact hq
  | goto l=>exact hq
  | ret=>exact hq
  | panic ch=>exact hq
  | outgrown=>exact hq
theorem az{K:Act->World->Prop}(h:K a w):Exit.then K Q .normal a w:=h
theorem aC{K:Act->World->Prop}{i:Nat}(h:Q (.exit i) a w):Exit.then K Q (.exit i) a w:=h
theorem aG{K:Act->World->Prop}(h:Q .ret a w):Exit.then K Q .ret a w:=h
theorem bX{id:Nat}(h:Q .normal a w):Exit.inBlock id Q .normal a w:=h
theorem bD{id:Nat}(h:Q .normal a w):Exit.inBlock id Q (.exit id) a w:=by simp only [Exit.inBlock,if_true];exact h
theorem Ge{id i:Nat}(hi:i≠id)(h:Q (.exit i) a w):Exit.inBlock id Q (.exit i) a w:=by simp only [Exit.inBlock,hi,if_false];exact h
theorem dD{id:Nat}(h:Q .ret a w):Exit.inBlock id Q .ret a w:=h
theorem bV{id:Nat}{c:Code}(h:c.wp P (Exit.inBlock id Q) a w):(Code.block id c).wp P Q a w:=wp_block h
theorem dz{x y:Code}(h:x.wp P (Exit.then (y.wp P Q) Q) a w):(Code.seq x y).wp P Q a w:=wp_seq h
theorem eF(h:Q .normal a w):Code.skip.wp P Q a w:=wp_skip h
theorem Q0(h:Q .ret a w):Code.ret.wp P Q a w:=wp_ret h
theorem dH{i:Nat}(h:Q (.exit i) a w):(Code.exit i).wp P Q a w:=wp_exit h
theorem cj{c:Code}(J:Exit->Act->World->Prop)(h:c.wp P J a w)(k: ∀e a w,J e a w->Q e a w):c.wp P Q a w:=wp_mono h k
theorem bp{ops:Array Oper}(h:Q .normal a w):wpList P ops Q [] a w:=h
end
end Go.Vs
namespace Go.Vs
open Go
def cz(ρ:Nat->Value):List (Nat×Value)->Nat->Value
 | [],t=>ρ t
 | (d,v)::r,t=>bif Nat.beq t d then v else cz ρ r t
def agree(ρ:Nat->Value):List (Nat×Value)->Prop
 | []=>True
 | (d,v)::r=>ρ d=v/\agree ρ r
theorem ET{ρ:Nat->Value}: ∀{l:List (Nat×Value)},agree ρ l->cz ρ l=ρ
 | [],_=>rfl
 | (d,v)::r,⟨h1,h2⟩=>by
  funext t;rw [cz,ET h2];by_cases h:t=d
  ·subst h;rw [MP];exact h1.symm
  ·rw [uc h];rfl
theorem rn{n:Nat}{ρ:Nat->Value}{l:List (Nat×Value)}(h:agree ρ l):fr n ρ=fr n (cz ρ l):=by rw [ET h]
theorem Ow.agd{el:Nat}{α:Type}[Rp α]{σ:St}{lo:Nat}{v:Value}{xs:List α}(h:Ow σ lo el v xs)(hel:el<=lo): ∃σ':St,σ'.w=σ.w/\Mod (blk v) σ σ'/\RS el σ' v xs:=by
 have hl:=h.lt;rcases h with ⟨rfl,rfl⟩ | ⟨b,o,c,C,T,rfl,h2,h3,h4,h5,h6,h7⟩
 ·exact ⟨σ,rfl,Mod.refl _ _,RS.nil⟩
 ·have hb:=hl b rfl;refine ⟨σ.P3 b (o+xs.length*Rp.sz α) hb,rfl,⟨rfl,rfl,rfl,qa2 _,rfl,St.F8 hb,⟨λ_ _ _=>rfl,λi _ jF=> ?_⟩⟩, .inr ⟨b,o,c,rfl,qaa hel h2,h4, ?_,λi hi=>(h7 i hi).same (St.F8 hb) rfl⟩⟩
  ·show (if i=b then _ else _)=_;rw [if_neg (by intro e;subst e;exact jF rfl)]
  ·show _<=(if b=b then _ else _);rw [if_pos rfl];omega
theorem Ow.age{el DZ:Nat}{α:Type}[Rp α]{σ:St}{lo:Nat}{v:Value}{xs:List α}(h:Ow σ lo el v xs)(hl:DZ<=el):Ow σ lo DZ v xs:=by
 rcases h with h | ⟨b,o,c,C,T,h1,h2,h3,h4,h5,h6,h7⟩
 ·exact .inl h
 ·exact .inr ⟨b,o,c,C,T,h1,h2,h3,h4,h5,h6,λi hi=>(h7 i hi).low hl⟩
class Sc(α:Type)[Rp α]:Prop where
 sc: ∀{lo qd:Nat} {σ:St} {cs:List Value} {x:α},Rp.rp lo σ cs x->Rp.rp qd σ cs x
instance:Sc Int:=⟨λh=>h⟩
instance{α β:Type}[Rp α][Rp β][Sc α][Sc β]:Sc (α×β):=⟨by rintro _ _ _ _ _ ⟨c1,c2,rfl,h1,h2⟩;exact ⟨c1,c2,rfl,Sc.sc h1,Sc.sc h2⟩⟩
theorem At.sc{α:Type}[Rp α][Sc α]{lo qd:Nat}{σ:St}{b o:Nat}{x:α}(h:At lo σ b o x):At qd σ b o x:=by
 obtain ⟨cs,h1,h2⟩:=h;exact ⟨cs,Sc.sc h1,h2⟩
theorem Ow.sc{α:Type}[Rp α][Sc α]{el DZ:Nat}{σ:St}{lo:Nat}{v:Value}{xs:List α}(h:Ow σ lo el v xs):Ow σ lo DZ v xs:=by
 rcases h with h | ⟨b,o,c,C,T,h1,h2,h3,h4,h5,h6,h7⟩
 ·exact .inl h
 ·exact .inr ⟨b,o,c,C,T,h1,h2,h3,h4,h5,h6,λi hi=>(h7 i hi).sc⟩
theorem Rd.sc{α:Type}[Rp α][Sc α]{el DZ:Nat}{σ:St}{v:Value}{xs:List α}(h:Rd el σ v xs):Rd DZ σ v xs:=by
 rcases h with h | ⟨b,o,c,h1,h7⟩
 ·exact .inl h
 ·exact .inr ⟨b,o,c,h1,λi hi=>(h7 i hi).sc⟩
theorem Rd.at{el:Nat}{α:Type}[Rp α]{σ:St}{v:Value}{xs:List α}{a:Int}{e:α}{b o:Nat}(h:Rd el σ v xs)(hg:bu xs a=some e)(hi:Ix v a (Rp.sz α) b o):At el σ b o e:=by
 obtain ⟨h0,h1,h2⟩:=lH hg;obtain ⟨ob,m,c,rfl,g0,g1,rfl⟩:=hi.it;rcases h with ⟨_,rfl⟩ | ⟨b,o,c,hv,hc⟩
 ·simp at h1
 ·cases hv;exact h2▸hc _ h1
theorem RS.at{el:Nat}{α:Type}[Rp α]{σ:St}{v:Value}{xs:List α}{a:Int}{e:α}{b o:Nat}(h:RS el σ v xs)(hg:bu xs a=some e)(hi:Ix v a (Rp.sz α) b o):At el σ b o e:=h.rd.at hg hi
theorem Ow.at{el:Nat}{α:Type}[Rp α]{σ:St}{lo:Nat}{v:Value}{xs:List α}{a:Int}{e:α}{b o:Nat}(h:Ow σ lo el v xs)(hg:bu xs a=some e)(hi:Ix v a (Rp.sz α) b o):At el σ b o e:=h.rd.at hg hi
theorem vS{α:Type}{xs:List α}{a:Int}{e:α}{m:Nat}(h:bu xs a=some e)(hm:xs.length=m):0<=a/\a.toNat<m:=by
 obtain ⟨h0,h1,_⟩:=lH h;exact ⟨h0,hm▸h1⟩
theorem V4(xs:List Int)(k:Nat)(v:Int):F9 (xs.map I) (0+k*1) [I v]=(xs.set k v).map I:=by
 simp [F9,List.map_set]
theorem V5(vs:List Value): ∀(cs pre:List Value),cs.length=vs.length->F9 (pre++cs) pre.length vs=pre++vs:=by
 induction vs with
 | nil=>intro cs pre h;have:cs=[]:=qb9 h;subst this;rfl
 | cons v r ih=>
  intro cs pre h;cases cs with
  | nil=>simp at h
  | cons c cs=>
   rw [F9];have e:(pre++c::cs).set pre.length v=(pre++[v])++cs:=by simp
   have:=ih cs (pre++[v]) (by simpa using h);rw [e,show pre.length+1=(pre++[v]).length by simp,this];simp
theorem V6{xs ys:List Int}{k:Nat}(h1:xs.length=k)(h2:ys.length=k):F9 (List.map I ys) 0 (List.map I xs)=List.map I xs:=by
 have:=V5 (List.map I xs) (List.map I ys) [] (by simp;omega);simpa using this
theorem V7{xs:List Int}{k m:Nat}{v:Int}(h:xs.length=m):(xs.set k v).length=m:=by rw [qb3];exact h
end Go.Vs
namespace Go.Vs
open Go
abbrev BS:=Nat->Prop
structure Md(S:BS)(σ σ':St):Prop where
 os:σ'.w.os=σ.w.os
 tape:σ.ef\/σ'.w.tape=σ.w.tape
 output:σ'.w.output=σ.w.output
 dr:σ.ef\/σ.w.drawn<=σ'.w.drawn
 ef:σ'.ef=σ.ef
 ext:Ext σ σ'
 block: ∀b,b<σ.size-> ¬S b->σ'.w.heap[b]? =σ.w.heap[b]?
 gB: ∀b,b<σ.size-> ¬S b->σ'.gB b=σ.gB b
theorem Mod.md{S:Option Nat}{σ σ':St}(m:Mod S σ σ'):Md (λb=>S=Option.some b) σ σ':=
 ⟨m.os, .inr m.tape,m.output, .inr m.dr,m.ef,m.ext,λb h hn=>m.YL.block b h hn,λb h hn=>m.YL.gB b h hn⟩
theorem Md.refl(S:BS)(σ:St):Md S σ σ:=⟨rfl, .inr rfl,rfl, .inr (qa2 _),rfl,Ext.refl _,λ_ _ _=>rfl,λ_ _ _=>rfl⟩
theorem Md.size{S:BS}{σ σ':St}(h:Md S σ σ'):σ.size<=σ'.size:=h.ext.size
theorem Md.step{S S':BS}{a b c:St}(h:Md S a b)(k:Md S' b c)(hs: ∀i,i<a.size->S' i->S i):Md S a c:=
 ⟨k.os.trans h.os,(h.tape.elim .inl λh1=>k.tape.elim (λh2=> .inl (h.ef▸h2)) λh2=> .inr (h2.trans h1)),k.output.trans h.output,(h.dr.elim .inl λh1=>k.dr.elim (λh2=> .inl (h.ef▸h2)) λh2=> .inr (qaa h1 h2)),k.ef.trans h.ef,h.ext.trans k.ext,
  λi hi hn=>(k.block i (qa3 hi h.size) (λe=>hn (hs i hi e))).trans (h.block i hi hn),
  λi hi hn=>(k.gB i (qa3 hi h.size) (λe=>hn (hs i hi e))).trans (h.gB i hi hn)⟩
theorem Md.mono{S S':BS}{a b:St}(h:Md S a b)(hs: ∀i,S i->S' i):Md S' a b:=
 ⟨h.os,h.tape,h.output,h.dr,h.ef,h.ext,λi hi hn=>h.block i hi (λe=>hn (hs i e)),λi hi hn=>h.gB i hi (λe=>hn (hs i e))⟩
structure Ch where
 dup:Bool
 fp:BS
 as:St->Prop
 Iy:dup=true-> ∀b, ¬fp b
 bG: ∀{σ:St},as σ-> ∀b,fp b->b<σ.size
 fu: ∀{S:BS} {σ σ':St},Md S σ σ'->(∀b,fp b-> ¬S b)->as σ->as σ'
section
variable{α:Type}[Rp α]
def Ch.ro(el:Nat)(v:Value)(xs:List α):Ch where
 dup:=true
 fp _:=False
 as σ:=RS el σ v xs
 Iy _ _:=id
 bG _ _ h:=h.elim
 fu m _ h:=h.ext m.ext
theorem Ow.md{el:Nat}{σ σ':St}{lo:Nat}{v:Value}{xs:List α}{S:BS}(h:Ow σ lo el v xs)(m:Md S σ σ')(hd: ∀b,blk v=some b-> ¬S b):Ow σ' lo el v xs:=by
 rcases h with h | ⟨b,o,c,C,T,rfl,h2,h3,h4,h5,h6,h7⟩
 ·exact .inl h
 ·have hb:b<σ.size:=lt_of_block h3;have hS:=hd b rfl;have e1:=m.block b hb hS;exact .inr ⟨b,o,c,C,T,rfl,h2,e1.trans h3,h4,h5,(m.gB b hb hS).trans h6,λi hi=>(h7 i hi).same m.ext e1⟩
def Ch.own(lo el:Nat)(v:Value)(xs:List α):Ch where
 dup:=false
 fp b:=blk v=some b
 as σ:=Ow σ lo el v xs
 Iy h:=by cases h
 bG h b e:=h.lt b e
 fu m hd h:=h.md m hd
end
def Ch.bx(lo b o:Nat)(cs pre u7:List Value):Ch where
 dup:=false
 fp i:=i=b
 as σ:=Bx σ b (pre++(cs++u7))/\pre.length=o/\lo<=b
 Iy h:=by cases h
 bG h i e:=by subst e;exact h.1.lt
 fu m hd h:=by
  obtain ⟨⟨T,h1,h2⟩,h3⟩:=h;have hb:=lt_of_block h1;have hS:=hd b rfl;exact ⟨⟨T,(m.block b hb hS).trans h1,(m.gB b hb hS).trans h2⟩,h3⟩
def dx:List Ch->BS
 | [],_=>False
 | c::l,b=>c.fp b\/dx l b
def jj(σ:St):List Ch->Prop
 | []=>True
 | c::l=>c.as σ/\jj σ l
def apart:List Ch->Prop
 | []=>True
 | c::l=>(∀b,c.fp b-> ¬dx l b)/\apart l
theorem bM{A R:List Ch}{b:Nat}:dx (A++R) b↔dx A b\/dx R b:=by
 induction A with
 | nil=>simp [dx]
 | cons c l ih=>simp only [qbr,dx,ih,or_assoc]
theorem eG{σ:St}{A R:List Ch}:jj σ (A++R)↔jj σ A/\jj σ R:=by
 induction A with
 | nil=>simp [jj]
 | cons c l ih=>simp only [qbr,jj,ih,and_assoc]
theorem fi{A R:List Ch}:apart (A++R)↔apart A/\apart R/\ ∀b,dx A b-> ¬dx R b:=by
 induction A with
 | nil=>simp [apart,dx]
 | cons c l ih=>
  simp only [qbr,apart,dx,ih,bM]
  constructor
  ·rintro ⟨h1,h2,h3,h4⟩;exact ⟨⟨λb hb h=>h1 b hb (.inl h),h2⟩,h3,λb hb h=>hb.elim (λhb=>h1 b hb (.inr h)) (λhb=>h4 b hb h)⟩
  ·rintro ⟨⟨h1,h2⟩,h3,h4⟩;exact ⟨λb hb h=>h.elim (h1 b hb) (h4 b (.inl hb)),h2,h3,λb hb=>h4 b (.inr hb)⟩
theorem mi{σ:St}{L:List Ch}(h:jj σ L): ∀b,dx L b->b<σ.size:=by
 induction L with
 | nil=>intro b hb;exact hb.elim
 | cons c l ih=>intro b hb;exact hb.elim (c.bG h.1 b) (ih h.2 b)
theorem iT{σ σ':St}{S:BS}{L:List Ch}(h:jj σ L)(m:Md S σ σ')(hd: ∀b,dx L b-> ¬S b):jj σ' L:=by
 induction L with
 | nil=>trivial
 | cons c l ih=>exact ⟨c.fu m (λb hb=>hd b (.inl hb)) h.1,ih h.2 (λb hb=>hd b (.inr hb))⟩
structure Hp(S0:BS)(aq σ:St)(L:List Ch):Prop where
 md:Md S0 aq σ
 all:jj σ L
 ap:apart L
 DL: ∀b,dx L b->b<aq.size->S0 b
section
variable{S0:BS}{aq σ σ':St}{L A A' R:List Ch}{c d:Ch}
theorem Hp.size(H:Hp S0 aq σ L):aq.size<=σ.size:=H.md.size
theorem Hp.frame(H:Hp S0 aq σ (A++R))(H':Hp (dx A) σ σ' A'):Hp S0 aq σ' (A'++R):=by
 obtain ⟨ha,hr⟩:=eG.1 H.all;obtain ⟨h1,h2,h3⟩:=fi.1 H.ap;refine ⟨H.md.step H'.md (λi hi h=>H.DL i (bM.2 (.inl h)) hi),eG.2 ⟨H'.all,iT hr H'.md (λb hb h=>h3 b h hb)⟩,fi.2 ⟨H'.ap,h2,λb hb fS=> ?_⟩,λb hb bG=> ?_⟩
 ·have bG:=mi hr b fS;exact h3 b (H'.DL b hb bG) fS
 ·rcases bM.1 hb with hb | hb
  ·have hs:b<σ.size:=qa3 bG H.md.size;exact H.DL b (bM.2 (.inl (H'.DL b hb hs))) bG
  ·exact H.DL b (bM.2 (.inr hb)) bG
theorem Hp.zz(H:Hp S0 aq σ (c::R))(H':Hp (dx [c]) σ σ' A'):Hp S0 aq σ' (A'++R):=Hp.frame (A:=[c]) H H'
theorem Hp.Gf(H:Hp S0 aq σ R)(H':Hp (dx []) σ σ' A'):Hp S0 aq σ' (A'++R):=Hp.frame (A:=[]) H H'
theorem Hp.begin{σ:St}(ha:jj σ L)(hp:apart L):Hp (dx L) σ σ L:=⟨Md.refl _ _,ha,hp,λ_ h _=>h⟩
theorem Hp.one(m:Md S0 σ σ')(h:c.as σ')(hf: ∀b,c.fp b->b<σ.size->S0 b):Hp S0 σ σ' [c]:=
 ⟨m,⟨h,trivial⟩,⟨λ_ _ h=>h,trivial⟩,λb hb=>hb.elim (hf b) (λh=>h.elim)⟩
theorem Hp.tail(H:Hp S0 aq σ (c::R)):Hp S0 aq σ R:=⟨H.md,H.all.2,H.ap.2,λb hb=>H.DL b (.inr hb)⟩
theorem Hp.head(H:Hp S0 aq σ (c::R)):c.as σ:=H.all.1
theorem Hp.nN(H:Hp S0 aq σ (c::R))(h:c.as σ->d.as σ)(hf: ∀b,d.fp b->c.fp b):Hp S0 aq σ (d::R):=
 ⟨H.md,⟨h H.all.1,H.all.2⟩,⟨λb hb=>H.ap.1 b (hf b hb),H.ap.2⟩,λb hb=>H.DL b (hb.imp (hf b) id)⟩
theorem Hp.add(H:Hp S0 aq σ R)(h:d.as σ)(hf: ∀b, ¬d.fp b):Hp S0 aq σ (d::R):=
 ⟨H.md,⟨h,H.all⟩,⟨λb hb=>(hf b hb).elim,H.ap⟩,λb hb=>hb.elim (λhb=>(hf b hb).elim) (H.DL b)⟩
theorem Hp.grow(H:Hp S0 aq σ L)(m:Md (λ_=>False) σ σ'):Hp S0 aq σ' L:=
 ⟨H.md.step m (λ_ _ h=>h.elim),iT H.all m (λ_ _ h=>h),H.ap,H.DL⟩
def nth:List Ch->Nat->Option Ch
 | [],_=>none
 | c::_,0=>some c
 | _::l,n+1=>nth l n
def pick:List Ch->Nat->Option (Ch×List Ch)
 | [],_=>none
 | c::l,0=>some (c,l)
 | c::l,n+1=>match pick l n with
  | some (d,r)=>some (d,c::r)
  | none=>none
theorem Cs: ∀{L:List Ch} {i:Nat} {c:Ch} {R:List Ch},pick L i=some (c,R)-> ∀b,dx L b↔c.fp b\/dx R b
 | [],_,_,_,h=>by cases h
 | c::l,0,_,_,h=>by cases h;intro b;rfl
 | c::l,n+1,d,R,h=>by
  intro b;simp only [pick] at h;split at h
  ·rename_i d' r hp;cases h;have:=Cs hp b;simp only [dx,this]
   constructor
   ·rintro (h | h | h)
    ·exact .inr (.inl h)
    ·exact .inl h
    ·exact .inr (.inr h)
   ·rintro (h | h | h)
    ·exact .inr (.inl h)
    ·exact .inl h
    ·exact .inr (.inr h)
  ·cases h
theorem Iz{σ:St}: ∀{L:List Ch} {i:Nat} {c:Ch} {R:List Ch},pick L i=some (c,R)->jj σ L->c.as σ/\jj σ R
 | [],_,_,_,h=>by cases h
 | c::l,0,_,_,h=>by cases h;exact id
 | c::l,n+1,d,R,h=>by
  simp only [pick] at h;split at h
  ·rename_i d' r hp;cases h;rintro ⟨h1,h2⟩;have:=Iz hp h2;exact ⟨this.1,h1,this.2⟩
  ·cases h
theorem Ct: ∀{L:List Ch} {i:Nat} {c:Ch} {R:List Ch},pick L i=some (c,R)->apart L->apart (c::R)
 | [],_,_,_,h=>by cases h
 | c::l,0,_,_,h=>by cases h;exact id
 | c::l,n+1,d,R,h=>by
  simp only [pick] at h;split at h
  ·rename_i d' r hp;cases h;rintro ⟨h1,h2⟩;have h3:=Ct hp h2;have h4:=Cs hp;refine ⟨λb hb=> ?_,λb hb=> ?_,h3.2⟩
   ·rintro (h | h)
    ·exact h1 b h ((h4 b).2 (.inl hb))
    ·exact h3.1 b hb h
   ·exact λh=>h1 b hb ((h4 b).2 (.inr h))
  ·cases h
theorem Hp.front(H:Hp S0 aq σ L){i:Nat}(h:pick L i=some (c,R)):Hp S0 aq σ (c::R):=
 ⟨H.md,Iz h H.all,Ct h H.ap,λb hb=>H.DL b ((Cs h b).2 hb)⟩
theorem Gg{σ:St}: ∀{L:List Ch} {i:Nat} {c:Ch},nth L i=some c->jj σ L->c.as σ
 | [],_,_,h,_=>by cases h
 | _::_,0,_,h,ha=>by cases h;exact ha.1
 | _::l,n+1,_,h,ha=>Gg (L:=l) (i:=n) h ha.2
theorem Hp.get(H:Hp S0 aq σ L){i:Nat}(h:nth L i=some c):c.as σ:=Gg h H.all
def Cu(L:List Ch):List Nat->List Ch
 | []=>[]
 | k::ks=>match nth L k with
  | some c=>c::Cu L ks
  | none=>Cu L ks
def OE(L:List Ch):List Nat->Bool
 | []=>true
 | k::ks=>(match nth L k with
  | some c=>c.dup || ks.all (λj=> !Nat.beq j k)
  | none=>false)&&OE L ks
theorem BF{L:List Ch}: ∀{ks:List Nat} {b:Nat},dx (Cu L ks) b-> ∃k∈ks, ∃c,nth L k=some c/\c.fp b
 | [],b,h=>h.elim
 | k::ks,b,h=>by
  simp only [Cu] at h;split at h
  ·rename_i c hc;rcases h with h | h
   ·exact ⟨k,by simp,c,hc,h⟩
   ·obtain ⟨j,hj,d,hd,h⟩:=BF h;exact ⟨j,by simp [hj],d,hd,h⟩
  ·obtain ⟨j,hj,d,hd,h⟩:=BF h;exact ⟨j,by simp [hj],d,hd,h⟩
theorem BG: ∀{L:List Ch} {k:Nat} {c:Ch} {b:Nat},nth L k=some c->c.fp b->dx L b
 | [],_,_,_,h,_=>by cases h
 | _::_,0,_,_,h,hb=>by cases h;exact .inl hb
 | _::l,n+1,_,_,h,hb=> .inr (BG (L:=l) (k:=n) h hb)
theorem EU: ∀{L:List Ch} {i j:Nat} {c d:Ch} {b:Nat},apart L->i≠j->nth L i=some c->nth L j=some d->c.fp b-> ¬d.fp b
 | [],_,_,_,_,_,_,_,h,_,_=>by cases h
 | _::_,0,0,_,_,_,_,jF,_,_,_=>absurd rfl jF
 | e::l,0,j+1,_,_,b,ha,_,h1,h2,hb=>by cases h1;exact λh=>ha.1 b hb (BG (L:=l) (k:=j) h2 h)
 | e::l,i+1,0,_,_,b,ha,_,h1,h2,hb=>by cases h2;exact λh=>ha.1 b h (BG (L:=l) (k:=i) h1 hb)
 | e::l,i+1,j+1,c,d,b,ha,jF,h1,h2,hb=>EU (L:=l) (i:=i) (j:=j) ha.2 (λe=>jF (by rw [e])) h1 h2 hb
theorem Gh{σ:St}{L:List Ch}(H: ∀k c,nth L k=some c->c.as σ): ∀ks:List Nat,jj σ (Cu L ks)
 | []=>trivial
 | k::ks=>by
  simp only [Cu];split
  ·rename_i c hc;exact ⟨H k c hc,Gh H ks⟩
  ·exact Gh H ks
theorem zA{L:List Ch}(ha:apart L): ∀{ks:List Nat},OE L ks=true->apart (Cu L ks)
 | [],_=>trivial
 | k::ks,h=>by
  simp only [OE,qa4] at h;obtain ⟨h1,h2⟩:=h;simp only [Cu];split
  ·rename_i c hc;rw [hc] at h1;refine ⟨λb hb hcv=> ?_,zA ha h2⟩;simp only [qc3] at h1;rcases h1 with h1 | h1
   ·exact c.Iy h1 b hb
   ·obtain ⟨j,hj,d,hd,hdb⟩:=BF hcv;have:=qab.1 h1 j hj;have jF:j≠k:=by rintro rfl;simp [Nat.beq_refl] at this
    exact EU ha (qbq jF) hc hd hb hdb
  ·exact zA ha h2
theorem Hp.sel(H:Hp S0 aq σ L)(ks:List Nat)(h:OE L ks=true):Hp S0 aq σ (Cu L ks):=
 ⟨H.md,Gh (λ_ _ hk=>H.get hk) ks,zA H.ap h,λb hb=>by
  obtain ⟨k,_,c,hc,hb⟩:=BF hb;exact H.DL b (BG hc hb)⟩
theorem Hp.aah(H:Hp S0 aq σ L)(ks:List Nat){L':List Ch}(h:OE L ks=true)(e:Cu L ks=L'):Hp S0 aq σ L':=e▸H.sel ks h
end
section
variable{S0:BS}{aq σ σ':St}{L R:List Ch}{α:Type}[Rp α]{el lo:Nat}{v:Value}{xs:List α}{i b o:Nat}{cs pre u7:List Value}
theorem Hp.ro(H:Hp S0 aq σ L)(i:Nat)(h:nth L i=some (Ch.ro el v xs)):RS el σ v xs:=H.get h
theorem Hp.bx(H:Hp S0 aq σ L)(i:Nat)(h:nth L i=some (Ch.bx lo b o cs pre u7)):Bx σ b (pre++(cs++u7))/\pre.length=o/\lo<=b:=H.get h
theorem RF{k:Nat}{u:Value}(h:Bx σ b (pre++(cs++u7))/\pre.length=o/\lo<=b)(hu:cs[k]? =some u):jI σ.w.heap b (o+k)=some u:=by
 obtain ⟨⟨T,h1,_⟩,h2,_⟩:=h;have hk:=(qbi.1 hu).1;unfold jI;rw [h1];simp only [qaq];rw [qbw (by omega),qbj (by omega), ←hu];congr 1;omega
theorem Hp.cell(H:Hp S0 aq σ L)(i k:Nat){u:Value}{o':Nat}(h:nth L i=some (Ch.bx lo b o cs pre u7))(hu:cs[k]? =some u)(ho:o'=o+k):jI σ.w.heap b o'=some u:=by
 subst ho;exact RF (H.bx i h) hu
theorem Hp.cells(H:Hp S0 aq σ L)(i:Nat)(h:nth L i=some (Ch.bx lo b o cs pre u7)): ∀j,(hj:j<cs.length)->jI σ.w.heap b (o+j)=some cs[j]:=
 λj hj=>RF (H.bx i h) (qb6 hj)
theorem Hp.P3(H:Hp S0 aq σ L)(i:Nat)(h:pick L i=some (Ch.own lo el v xs,R))(hel:el<=lo): ∃σ':St,σ'.w=σ.w/\Hp S0 aq σ' (Ch.ro el v xs::R)/\Md (λb=>blk v=Option.some b) σ σ':=by
 have H1:=H.front h;obtain ⟨σ',hw,m,hR⟩:=Ow.agd (H1.head:Ow σ lo el v xs) hel;refine ⟨σ',hw,Hp.zz (A':=[Ch.ro el v xs]) H1 (Hp.one (m.md.mono λb hb=> .inl hb) hR (λb hb=>hb.elim)),m.md⟩
theorem Hp.iV(H:Hp S0 aq σ L)(i DZ:Nat)(h:nth L i=some (Ch.ro el v xs))(hl:DZ<=el):Hp S0 aq σ (Ch.ro DZ v xs::L):=
 H.add (d:=Ch.ro DZ v xs) ((H.ro i h).low hl) (λ_ h=>h)
theorem Hp.zC(H:Hp S0 aq σ L)(i qd DZ:Nat)(h:pick L i=some (Ch.own lo el v xs,R))(h1:qd<=lo)(h2:DZ<=el):Hp S0 aq σ (Ch.own qd DZ v xs::R):=
 (H.front h).nN (d:=Ch.own qd DZ v xs) (λh:Ow σ lo el v xs=>(h.lo h1).age h2) (λ_ h=>h)
theorem Hp.Cv [Sc α](H:Hp S0 aq σ L)(i qd DZ:Nat)(h:pick L i=some (Ch.own lo el v xs,R))(h1:qd<=lo):Hp S0 aq σ (Ch.own qd DZ v xs::R):=
 (H.front h).nN (d:=Ch.own qd DZ v xs) (λh:Ow σ lo el v xs=>(h.lo h1).sc) (λ_ h=>h)
theorem Hp.k9(H:Hp S0 aq σ L)(α:Type)[Rp α](lo el:Nat):Hp S0 aq σ (Ch.own lo el (.slice none 0 0) ([]:List α)::L):=H.add (d:=Ch.own lo el _ _) Ow.nil (λ_ h=>by cases h)
theorem Hp.fresh(m:Mod none σ σ')(c:Ch)(h:c.as σ')(hf: ∀b,c.fp b->σ.size<=b):Hp (dx []) σ σ' [c]:=
 Hp.one (m.md.mono λb hb=>by cases hb) h (λb hb bG=>absurd bG (qcm.2 (hf b hb)))
theorem Hp.focus{c1 c2 c3:List Value}(H:Hp S0 aq σ L)(i:Nat)(h:pick L i=some (Ch.bx lo b o (c1++(c2++c3)) pre u7,R)){o':Nat}(ho:o'=o+c1.length):
  Hp S0 aq σ (Ch.bx lo b o' c2 (pre++c1) (c3++u7)::R):=
 (H.front h).nN (d:=Ch.bx lo b o' c2 (pre++c1) (c3++u7)) (λ⟨h1,h2,h3⟩=>⟨by simpa [List.append_assoc] using h1,by subst ho;simp [h2],h3⟩) (λ_ h=>h)
theorem Hp.MU{c1 c2 c3:List Value}{o':Nat}(H:Hp S0 aq σ L)(i:Nat)(h:pick L i=some (Ch.bx lo b o' c2 (pre++c1) (c3++u7),R))(ho:o'=o+c1.length):
  Hp S0 aq σ (Ch.bx lo b o (c1++(c2++c3)) pre u7::R):=
 (H.front h).nN (d:=Ch.bx lo b o (c1++(c2++c3)) pre u7) (λ⟨h1,h2,h3⟩=>⟨by simpa [List.append_assoc] using h1,by subst ho;simp at h2;omega,h3⟩) (λ_ h=>h)
end
end Go.Vs
namespace Go.Vs
open Go
section
variable{P:Program}{ops:Array Oper}{Q:Exit->Act->World->Prop}{n d:Nat}{ρ:Nat->Value}{aq σ:St}{S0:BS}{L R:List Ch}{u v:Value}{rest:List Oper}{dst:Option Nat}
variable{ty T T' E E':TypeId}{pos:String}{af:Array Edge}{x y:Operand}{a:Int}{α:Type}[Rp α]{xs ys:List α}{z:Value}{s bt lo el:Nat}{gd:Option (Nat×Bool)}{op:Op}{Rz:Value->St->Prop}{Rs:St->Prop}
abbrev Ex(P:Program)(σ:St)(n:Nat)(ρ:Nat->Value)(o:Oper)(Rz:Value->St->Prop):Prop:= ∃v σ',zx P σ.w n ρ o v σ'.w/\Rz v σ'
abbrev ExS(P:Program)(σ:St)(n:Nat)(ρ:Nat->Value)(o:Oper)(Rs:St->Prop):Prop:= ∃σ',Rr P σ.w n ρ o σ'.w/\Rs σ'
theorem bE(he:Ex P σ n ρ ⟨some d,op,ty,pos,af,gd⟩ Rz)(hw:Region.wanted ⟨some d,op,ty,pos,af,gd⟩ (yv ops n ρ)=true)
  (k: ∀v (σ':St),Rz v σ'->wpList P ops Q rest (fr n (upd ρ d v)) σ'.w):wpList P ops Q (⟨some d,op,ty,pos,af,gd⟩::rest) (fr n ρ) σ.w:=by
 obtain ⟨v,σ',hr,h⟩:=he;exact agb hw hr (k v σ' h)
theorem gk(he:ExS P σ n ρ ⟨none,op,ty,pos,af,gd⟩ Rs)(hw:Region.wanted ⟨none,op,ty,pos,af,gd⟩ (yv ops n ρ)=true)
  (k: ∀(σ':St),Rs σ'->wpList P ops Q rest (fr n ρ) σ'.w):wpList P ops Q (⟨none,op,ty,pos,af,gd⟩::rest) (fr n ρ) σ.w:=by
 obtain ⟨σ',hr,h⟩:=he;exact agc hw hr (k σ' h)
theorem aai(he:Ex P σ n ρ ⟨none,op,ty,pos,af,gd⟩ Rz)(hw:Region.wanted ⟨none,op,ty,pos,af,gd⟩ (yv ops n ρ)=true)
  (k: ∀v (σ':St),Rz v σ'->wpList P ops Q rest (fr n ρ) σ'.w):wpList P ops Q (⟨none,op,ty,pos,af,gd⟩::rest) (fr n ρ) σ.w:=by
 obtain ⟨v,σ',hr,h⟩:=he;unfold wpList;rw [eR,if_pos hw];refine .inl ?_;unfold Oper.wp;rw [aR,hr];simp only [Oper.upon_value,jH];exact k v σ' h
theorem Mod.md0{σ σ':St}(m:Mod Option.none σ σ'):Md (dx []) σ σ':=m.md.mono λb hb=>by cases hb
theorem MV(H:Hp S0 aq σ L)(qW:lo<=aq.size)(T:TypeId)(cs:List Value):Hp S0 aq (σ.new (.cells cs.toArray T (0,0)) 0) (Ch.bx lo σ.size 0 cs [] []::L):=
 Hp.Gf (A':=[Ch.bx lo σ.size 0 cs [] []]) H (Hp.fresh (St.mD _ _ _) _ ⟨⟨T,by simpa using St.tE _ _ _,St.tF _ _ _⟩,rfl,qaa qW H.size⟩ (λb hb=>qay (Eq.symm hb)))
theorem gm{cs:List Value}(H:Hp S0 aq σ L)(qW:lo<=aq.size)(hx:ev n ρ x=v)(hv:v.cells=cs.toArray):
  Ex P σ n ρ ⟨dst, .box T x,ty,pos,af,gd⟩ λv σ'=> ∃b,v=pt b 0/\Hp S0 aq σ' (Ch.bx lo b 0 cs [] []::L)/\Md (dx []) σ σ':=by
 refine ⟨_,σ.new (.cells cs.toArray T (0,0)) 0, ?_,σ.size,rfl,MV H qW T cs,(St.mD _ _ _).md0⟩;simp [zx,execOp,hx,Instr.box,newVar,newRow,newObj,Sem.run,hv,St.new,World.mk']
theorem gu{cs:List Value}(H:Hp S0 aq σ L)(qW:lo<=aq.size)(hi:TI P T z s bt)(hv:z.cells=cs.toArray):
  Ex P σ n ρ ⟨dst, .alloc T,ty,pos,af,gd⟩ λv σ'=> ∃b,v=pt b 0/\Hp S0 aq σ' (Ch.bx lo b 0 cs [] []::L)/\Md (dx []) σ σ':=by
 refine ⟨_,σ.new (.cells cs.toArray T (0,0)) 0, ?_,σ.size,rfl,MV H qW T cs,(St.mD _ _ _).md0⟩;simp [zx,execOp,Instr.alloc,oE hi,newVar,newRow,newObj,Sem.run,hv,St.new,World.mk']
theorem V8(vs:List Value): ∀(pre cs u7:List Value) (k:Nat),k+vs.length<=cs.length->F9 (pre++(cs++u7)) (pre.length+k) vs=pre++(F9 cs k vs++u7):=by
 induction vs with
 | nil=>intro pre cs u7 k _;rfl
 | cons v r ih=>
  intro pre cs u7 k hk;simp only [qb2] at hk;rw [F9,F9, ←ih pre (cs.set k v) u7 (k+1) (by rw [qb3];omega)];congr 1;rw [List.set_append_right _ _ (by omega),List.set_append_left _ _ (by omega)];congr 3;omega
theorem bK{cs vs cs' pre u7:List Value}{b o o' k i:Nat}(H:Hp S0 aq σ L)(hp:pick L i=some (Ch.bx lo b o cs pre u7,R))(hi:TI P T z s bt)(hx:ev n ρ x=pt b o')(Ih:o'=o+k)(hy:ev n ρ y=v)(hv:v.cells=vs.toArray)(hs:vs.length=s)
  (hk:k+vs.length<=cs.length) (MT: ∀u∈vs,plain u=true) (hcs:F9 cs k vs=cs'):
  ExS P σ n ρ ⟨dst, .store T x y,ty,pos,af,gd⟩ λσ'=>Hp S0 aq σ' (Ch.bx lo b o cs' pre u7::R)/\Md (λi=>i=b) σ σ':=by
 subst Ih hcs;have H1:=H.front hp;obtain ⟨⟨T0,h1,h2⟩,h3,h4⟩:Bx σ b (pre++(cs++u7))/\pre.length=o/\lo<=b:=H1.head;have hb:=lt_of_block h1;have fu:=iD (P:=P) b (o+k) T0 vs 0 σ.w (pre++(cs++u7)).toArray h1 (by simp;omega) MT;simp only [qcj] at fu;have m:Md (λi=>i=b) σ (σ.put b (.cells (wr (pre++(cs++u7)).toArray (o+k) vs) T0 (0,0))):=(St.vQ h2).md.mono λi hi=>by cases hi;rfl
 refine ⟨σ.put b (.cells (wr (pre++(cs++u7)).toArray (o+k) vs) T0 (0,0)), ?_, ?_,m⟩
 ·simp [Rr,execOp,hx,hy,Instr.storeAt,Instr.sureAddr,storeVar,run_typeInfo hi,hv,hs,fu,St.put]
 refine Hp.zz (A':=[Ch.bx lo b o (F9 cs k vs) pre u7]) H1 (Hp.one (m.mono λi hi=> .inl hi) ⟨⟨T0, ?_,h2⟩,h3,h4⟩ (λi hi _=> .inl hi));rw [MR, ←h3,V8 vs pre cs u7 k hk];exact World.tG _ hb
theorem zD{α β:Type}[Rp α][Rp β]{DZ qd:Nat}{v':Value}{xs:List α}{ys:List β}{σ':St}{i:Nat}(H:Hp S0 aq σ L)(hp:pick L i=some (Ch.own lo el v xs,R))(m:Mod (blk v) σ σ')(h:Ow σ' qd DZ v' ys)(hf:blk v'=blk v\/ ∀b,blk v'=some b->σ.size<=b):
  Hp S0 aq σ' (Ch.own qd DZ v' ys::R):=
 Hp.zz (A':=[Ch.own qd DZ v' ys]) (H.front hp) (Hp.one (m.md.mono λb hb=> .inl hb) h (λb hb bG=>by
  rcases hf with hf | hf
  ·exact .inl (hf.symm.trans hb)
  ·exact absurd bG (qcm.2 (hf b hb))))
theorem Gi{v':Value}{σ':St}(H:Hp S0 aq σ L)(qW:lo<=aq.size)(m:Mod none σ σ')(h:Ow σ' σ.size el v' xs):Hp S0 aq σ' (Ch.own lo el v' xs::L):=
 Hp.Gf (A':=[Ch.own lo el v' xs]) H (Hp.fresh m _ (h.lo (qaa qW H.size)) (λb hb=>h.ge b hb))
theorem jR{e e':α}{bl o o' k i:Nat}{vs:List Value}(H:Hp S0 aq σ L)(MW:pick L i=some (Ch.own lo el v xs,R))(hi:TI P T z s bt)(hg:bu xs a=some e)(Oz:Ix v a (Rp.sz α) bl o)(hx:ev n ρ x=pt bl o')(ho:o'=o+k)(hy:ev n ρ y=u)
  (hu:u.cells=vs.toArray) (hs:vs.length=s) (hk:k+vs.length<=Rp.sz α) (hp: ∀t∈vs,plain t=true) (hrp: ∀cs,Rp.rp el σ cs e->Rp.rp el σ (F9 cs k vs) e'):
  ExS P σ n ρ ⟨dst, .store T x y,ty,pos,af,gd⟩ λσ'=>Hp S0 aq σ' (Ch.own lo el v (xs.set a.toNat e')::R)/\Md (λb=>blk v=some b) σ σ':=by
 obtain ⟨σ',hr,m,h⟩:=DY (ty:=ty) (pos:=pos) (af:=af) (gd:=gd) (dst:=dst) hi ((H.front MW).head:Ow σ lo el v xs) hg Oz hx ho hy hu hs hk hp hrp;exact ⟨σ',hr,zD H MW m h (.inl rfl),m.md⟩
theorem fe{r:List α}{i:Nat}(H:Hp S0 aq σ L)(MW:pick L i=some (Ch.own lo el v xs,R))(hT:P.underlying T=some (.slice E))(pW:P.underlying T'=some (.slice E'))(hi:TI P E z s bt)(hs:s=Rp.sz α)(AU:z.cells.size=s)(Ru:bt<=1024)
  (hS:Rd el σ u ys) (hr:nP xs ys=some r) (qW:lo<=aq.size) (hx:ev n ρ x=v) (hy:ev n ρ y=u):
  Ex P σ n ρ ⟨dst, .call ⟨.builtin .append, #[x,y], #[T,T']⟩,ty,pos,af,gd⟩ λv' σ'=> ∃a' c',v'=Sl a' r c'/\Hp S0 aq σ' (Ch.own lo el (Sl a' r c') r::R)/\Md (λb=>blk v=some b) σ σ':=by
 obtain ⟨hlen,rfl⟩:=zy hr;obtain ⟨a',c',σ',h1,h2,h3,h4, -⟩:=Cp (ty:=ty) hT pW hi hs AU Ru ((H.front MW).head:Ow σ lo el v xs) hS hlen (qaa qW H.size);refine ⟨_,σ', ?_,a',c',rfl,zD H MW h2 h3 h4,h2.md⟩;simp only [zx,execOp,resolve,qb8,qaz,qbm,hx,hy,Sem.run_bind,Sem.run_pure,Result.andThen_ok,invoke,builtin,h1]
theorem aN{len:Nat}{parts:Array (Nat×Operand)}{ps:List (Nat×Value)}{cs:List Value}(H:Hp S0 aq σ L)(qW:lo<=aq.size)(hT:P.underlying T=some (.slice E))(hi:TI P E z s bt)
  (K2:Nat.ble (len*s) 16777216=true) (hp:parts.toList.map (λp=>(p.1,ev n ρ p.2))=ps)
  (AD:Instr.fill (λi=>some (i*s,s)) ((Array.range (len*s)).map (λk=>(if len*s=0 then #[] else z.cells)[k % (if len*s=0 then #[] else z.cells).size]!)) ps=some cs.toArray)
  (hf:Flat el σ cs xs) (hl:xs.length=len):
  Ex P σ n ρ ⟨dst, .buildSlice T len parts,ty,pos,af,gd⟩ λv σ'=> ∃b,v=Sl (some ⟨b,0,none⟩) xs len/\Hp S0 aq σ' (Ch.own lo el (Sl (some ⟨b,0,none⟩) xs len) xs::L)/\Md (dx []) σ σ':=by
 obtain ⟨b,σ',hb,hr,hm,hO⟩:=Cq (lo:=σ.size) (dst:=dst) (ty:=ty) (pos:=pos) (af:=af) (gd:=gd) hT hi K2 hp AD hf hl (qa2 _);exact ⟨_,σ',hr,b,rfl,Gi H qW hm hO,hm.md0⟩
theorem V9{z0:α}{zs:List Value}(H:Hp S0 aq σ L)(qW:lo<=aq.size)(hT:P.underlying T=some (.slice E))(hi:TI P E z s bt)(hs:s=Rp.sz α)(hzc:z.cells=zs.toArray)(hz:Rp.rp el σ zs z0)(Ru:bt<=1024)
  (hr:AE a z0=some xs) (hx:ev n ρ x=I a) (hy:ev n ρ y=I a):
  Ex P σ n ρ ⟨dst, .makeSlice T x y,ty,pos,af,gd⟩ λv σ'=> ∃b c',v=Sl (some ⟨b,0,none⟩) xs c'/\c'=a.toNat/\Hp S0 aq σ' (Ch.own lo el (Sl (some ⟨b,0,none⟩) xs c') xs::L)/\Md (dx []) σ σ':=by
 obtain ⟨b,σ',c',QG,bU,m,h⟩:=run_make (lo:=σ.size) (ty:=ty) (pos:=pos) (af:=af) (gd:=gd) (dst:=dst) hT hi hs hzc hz Ru hr hx hy (qa2 _);exact ⟨_,σ',bU,b,c',rfl,QG,Gi H qW m h,m.md0⟩
structure bL(P:Program)(f:FuncId)(args:List Value)(pre:List Ch)(post:Nat->Value->List Ch->Prop):Prop where
 fn: ∃fn c,P.funcs[f]? =some fn/\(fn.name== "runtime.NumGoroutine")=false/\fn.body=some c
 runs: ∀(σ:St) (m:Nat),m<=σ.size->Hp (dx pre) σ σ pre->Calls P f args.toArray σ.w λe w'=> ∃v σ' L',e= .returned v/\w'=σ'.w/\post m v L'/\Hp (dx pre) σ σ' L'
def EV(post:Value->List Ch->Prop)(aq:St)(S0:BS)(e:Ending)(w':World):Prop:= ∃v σ' L',e= .returned v/\w'=σ'.w/\post v L'/\Hp S0 aq σ' L'
theorem agf{f:FuncId}{fn:Func}{c:Code}{l:List Value}{pre:List Ch}{post:Nat->Value->List Ch->Prop}(hf:P.funcs[f]? =some fn)(QO:(fn.name== "runtime.NumGoroutine")=false)(hb:fn.body=some c)(hn:fn.ntmps=n)(hl:Nat.ble l.length n=true)
  (h: ∀(S0:BS) (aq:St) (n0:Nat),n0<=aq.size->Hp S0 aq aq pre->c.wp P (bodyPost P fn (EV (post n0) aq S0)) (fr n (fo l)) aq.w):bL P f l pre post:=
 ⟨⟨fn,c,hf,QO,hb⟩,λσ m hm H=>enter hf hb hn hl (h _ σ m hm H)⟩
theorem iM{fn:Func}{post:Value->List Ch->Prop}{L':List Ch}(hr:(results fn (fr n ρ).tmps).run P σ.w= .ok v σ.w)(hp:post v L')(H:Hp S0 aq σ L'):bodyPost P fn (EV post aq S0) .ret (fr n ρ) σ.w:=
 bodyPost_ret (v:=v) hr rfl ⟨v,σ,L',rfl,rfl,hp,H⟩
theorem vT{fn:Func}{post:Value->List Ch->Prop}{L':List Ch}(hr:(results fn (fr n ρ).tmps).run P σ.w= .ok v σ.w)(hp:post v L')(H:Hp S0 aq σ L'):bodyPost P fn (EV post aq S0) .normal (fr n ρ) σ.w:=
 bodyPost_end (v:=v) hr rfl ⟨v,σ,L',rfl,rfl,hp,H⟩
theorem bL.frame{f:FuncId}{args:List Value}{A:List Ch}{post:Nat->Value->List Ch->Prop}(hc:bL P f args A post)(H:Hp S0 aq σ (A++R)){m:Nat}(hm:m<=σ.size):
  Calls P f args.toArray σ.w λe w'=> ∃v σ' L',e= .returned v/\w'=σ'.w/\post m v L'/\Hp S0 aq σ' (L'++R)/\Md (dx A) σ σ':=by
 refine (hc.runs σ m hm (Hp.begin (eG.1 H.all).1 (fi.1 H.ap).1)).mono ?_;rintro e w' ⟨v,σ',L',rfl,rfl,hp,H'⟩;exact ⟨v,σ',L',rfl,rfl,hp,H.frame H',H'.md⟩
def Enters(P:Program)(n:Nat)(ρ:Nat->Value)(o:Oper)(f:FuncId)(args:List Value)(w:World):Prop:=(execOp (ev n ρ) o).run P w= .ok (.enter f args.toArray) w
def Cx(P:Program)(σ:St)(n:Nat)(ρ:Nat->Value)(o:Oper)(Rz:Value->St->Prop):Prop:=
 ∃f args,Enters P n ρ o f args σ.w/\Calls P f args.toArray σ.w λe w'=> ∃v σ',e= .returned v/\w'=σ'.w/\Rz v σ'
theorem bh{f:FuncId}{args:List Value}{A:List Ch}{post:Nat->Value->List Ch->Prop}{o:Oper}(hc:bL P f args A post)(he:Enters P n ρ o f args σ.w){m:Nat}(hm:m<=aq.size)(H:Hp S0 aq σ (A++R)):
  Cx P σ n ρ o λv σ'=> ∃L',post m v L'/\Hp S0 aq σ' (L'++R)/\Md (dx A) σ σ':=
 ⟨f,args,he,(hc.frame H (qaa hm H.size)).mono (by rintro e w' ⟨v,σ',L',rfl,rfl,hp,H',m⟩;exact ⟨v,σ',rfl,rfl,L',hp,H',m⟩)⟩
theorem acO{o:Oper}(hd:o.dst=dst)(hc:Cx P σ n ρ o Rz)(hw:Region.wanted o (yv ops n ρ)=true)
  (k: ∀v (σ':St),Rz v σ'->wpList P ops Q rest ((fr n ρ).put dst v) σ'.w):wpList P ops Q (o::rest) (fr n ρ) σ.w:=by
 subst hd;obtain ⟨f,args,he,hc⟩:=hc;unfold wpList;rw [eR,if_pos hw];refine .inl ?_;unfold Oper.wp;rw [aR,show (execOp (ev n ρ) o).run P σ.w=_ from he,Oper.upon_enter];refine hc.mono ?_;rintro e w' ⟨v,σ',rfl,rfl,h⟩;exact k v σ' h
theorem bY(hc:Cx P σ n ρ ⟨some d,op,ty,pos,af,gd⟩ Rz)(hw:Region.wanted ⟨some d,op,ty,pos,af,gd⟩ (yv ops n ρ)=true)
  (k: ∀v (σ':St),Rz v σ'->wpList P ops Q rest (fr n (upd ρ d v)) σ'.w):wpList P ops Q (⟨some d,op,ty,pos,af,gd⟩::rest) (fr n ρ) σ.w:=
 acO rfl hc hw (λv σ' h=>by rw [de];exact k v σ' h)
theorem cY{f:FuncId}{args:List Value}{xs:Array Operand}{Ts:Array TypeId}{w:World}(hf: ∃fn c,P.funcs[f]? =some fn/\(fn.name== "runtime.NumGoroutine")=false/\fn.body=some c)(hx:xs.toList.map (ev n ρ)=args):
 Enters P n ρ ⟨dst, .call ⟨.value (.func f),xs,Ts⟩,ty,pos,af,gd⟩ f args w:=Rt hf hx
theorem IA{f:FuncId}{args:List Value}{xs:Array Operand}{Ts:Array TypeId}{w:World}{c:Operand}{cap:List Value}(hf: ∃fn c,P.funcs[f]? =some fn/\(fn.name== "runtime.NumGoroutine")=false/\fn.body=some c)
  (hc:ev n ρ c= .func (.func f) #[] cap.toArray) (hx:xs.toList.map (ev n ρ)++cap=args):
  Enters P n ρ ⟨dst, .call ⟨.value c,xs,Ts⟩,ty,pos,af,gd⟩ f args w:=by
 obtain ⟨fn,c,h1,h2,h3⟩:=hf;replace hx:xs.map (ev n ρ)++cap.toArray=args.toArray:=by
  rw [←hx];apply qcn;simp
 simp only [Enters,execOp,resolve,hc,Deferred.ofValue,Sem.run_bind,Sem.run_pure,Result.andThen_ok,invoke,callFunc,run_program,Array.empty_append,hx,h1,h2,h3];simp
end
end Go.Vs
namespace Go.Vs
open Go
def dI(ops:Array Oper)(j:Nat):Option Nat:=(ops[j]?).bind (·.dst)
def waits(o:Oper)(j:Nat):Bool:=o.after.toList.any λe=>Nat.beq e.on j&&Region.binds .any e
def reach(ops:Array Oper):Nat->Nat->Nat->Bool
 | 0,_,_=>false
 | f+1,j,i=>match ops[j]? with
  | none=>false
  | some o=>waits o i || o.after.toList.any λe=>Region.binds .any e&&reach ops f e.on i
def ph(E:List Nat)(listed:Array Bool):List Bool:=E.map λe=>listed.getD e false
def K3(E:List Nat)(i:Nat)(p:List Bool):List Bool:=List.zipWith (λe b=>b || Nat.beq e i) E p
def aaj(ops:Array Oper)(E:List Nat)(i:Nat)(p:List Bool):Bool:=
 (List.zip E p).all fun (e,b)=>(!reach ops ops.size i e || b)&&(!reach ops ops.size e i || !b)&&(!Nat.beq e i || !b)
def yg(ops:Array Oper)(n i j:Nat):Bool:=Nat.blt j n&& !Nat.beq j i&& !reach ops ops.size j i
def rgB(N:Nat)(ops:Array Oper)(n:Nat)(E:List Nat)(Ps:List (List Bool))(Al:List (List (Nat×Nat)))(AX:Nat):Bool:=
 Nat.ble n ops.size&&((List.range n).all λi=>(match dI ops i with | some d=>Nat.blt d N | none=>true)&&(match ops[i]? with | some o=>o.after.toList.all (λe=> !Region.binds .any e || Nat.blt e.on i) | none=>false)&&
  (List.range n).all λj=>Nat.beq i j || (match dI ops i with | some _=> !(dI ops i==dI ops j) | none=>true))&&
 ((List.range ops.size).all λj=>Nat.blt j n || (List.range n).all λi=>reach ops ops.size j i)&&
 Region.seqB .any ops (ops.size - n) n ((List.range ops.size).map (λi=>Nat.blt i n)).toArray&&
 (Ps.getD 0 [true]==E.map λ_=>false)&&(Ps.getD AX []==E.map λe=>Nat.blt e n)&&((List.range Ps.length).all λk=> !(Ps.getD k []==E.map λe=>Nat.blt e n) || Nat.beq k AX)&&
 ((List.range n).all λi=>(List.range Ps.length).all λk=> !aaj ops E i (Ps.getD k []) || (Al.getD i []).any fun (a,b)=>Nat.beq a k&&(Ps[b]? ==some (K3 E i (Ps.getD k []))))
section
variable{P:Program}{ops:Array Oper}{Q:Exit->Act->World->Prop}{N n:Nat}{kK:Nat->Value}{Nm:Type}{J:Nat->Nm->St->Prop}{V:Nat->Nm->Value}
def wJ(P:Program)(ops:Array Oper)(N n:Nat)(J:Nat->Nm->St->Prop)(V:Nat->Nm->Value)(ρ:Nat->Value)(σ:St)(nm:Nm)(i:Nat)(o:Oper)(k':Nat):Prop:=
 (Region.wanted o (yv ops N ρ)=true/\((∃v σ' qU,(execOp (ev N ρ) o).run P σ.w= .ok (.value v) σ'.w/\V i qU=v/\J k' qU σ'/\ ∀j,yg ops n i j=true->V j qU=V j nm)\/
  (∃σ' qU,o.dst=none/\(execOp (ev N ρ) o).run P σ.w= .ok .skip σ'.w/\J k' qU σ'/\ ∀j,yg ops n i j=true->V j qU=V j nm)\/
  ∃f args,(execOp (ev N ρ) o).run P σ.w= .ok (.enter f (List.toArray args)) σ.w/\Calls P f args.toArray σ.w λe w'=> ∃v σ' qU,e= .returned v/\w'=σ'.w/\V i qU=v/\J k' qU σ'/\ ∀j,yg ops n i j=true->V j qU=V j nm))\/
 (Region.wanted o (yv ops N ρ)=false/\V i nm=undef/\J k' nm σ)
structure RInv(ops:Array Oper)(N n:Nat)(E:List Nat)(Ps:List (List Bool))(kK:Nat->Value)(J:Nat->Nm->St->Prop)(V:Nat->Nm->Value)(listed:Array Bool)(ρ:Nat->Value)(σ:St):Prop where
 size:listed.size=ops.size
 off: ∀t,(∀i,i<n->dI ops i≠some t)->ρ t=kK t
 st: ∃nm k,Ps[k]? =some (ph E listed)/\J k nm σ/\ ∀i,i<n->listed.getD i false=true-> ∀d,dI ops i=some d->look N ρ d=V i nm
 low: ∀i,n<=i->listed.getD i false=false
 closed: ∀i o,listed.getD i false=true->ops[i]? =some o-> ∀j,waits o j=true->listed.getD j false=true
theorem pI{listed:Array Bool}(hcl: ∀i o,listed.getD i false=true->ops[i]? =some o-> ∀j,waits o j=true->listed.getD j false=true){i:Nat}:
  ∀(f j:Nat) (o:Oper),ops[j]? =some o->(∀k,waits o k=true->listed.getD k false=true)->reach ops f j i=true->listed.getD i false=true:=by
 intro f
 induction f with
 | zero=>intro j o _ _ h;cases h
 | succ f ih=>
  intro j o ho hw h;rw [reach,ho] at h;simp only [qc3] at h;rcases h with h | h
  ·exact hw i h
  ·obtain ⟨e,he,h⟩:=qbs.1 h;simp only [qa4] at h;have h1:waits o e.on=true:=qbs.2 ⟨e,he,by simp only [qa4];exact ⟨Nat.beq_refl _,h.1⟩⟩;have h2:=hw _ h1;cases f with
   | zero=>cases h.2
   | succ f'=>
    cases Ih:ops[e.on]? with
    | none=>have:=h.2;rw [reach,Ih] at this;cases this
    | some o'=>exact ih e.on o' Ih (λk hk=>hcl _ _ h2 Ih k hk) h.2
theorem IB{listed:Array Bool}(hs:listed.size=ops.size)(agh: ∀i,n<=i->listed.getD i false=false)(lV: ∀i,i<n->listed.getD i false=true):
  listed=((List.range ops.size).map (λi=>Nat.blt i n)).toArray:=by
 apply Array.ext_getElem?;intro i;by_cases hi:i<ops.size
 ·have h1:listed[i]? =some (listed.getD i false):=by simp [Array.getD,hs,hi]
  rw [h1];simp only [qaq,List.getElem?_map];rw [List.getElem?_range hi];simp only [qac,qah];by_cases hn:i<n
  ·rw [lV i hn,EK hn]
  ·rw [agh i (by omega),wI hn]
 ·rw [qbd (by omega)];simp [hi]
theorem countP_set{listed:Array Bool}{i n:Nat}(hi:i<n)(h0:listed.getD i false=false)(hs:i<listed.size):
  (List.range n).countP (λj=> !listed.getD j false)=(List.range n).countP (λj=> !(listed.setIfInBounds i true).getD j false)+1:=by
 induction n with
 | zero=>omega
 | succ n ih=>
  rw [List.range_succ,List.countP_append,List.countP_append];by_cases h:i=n
  ·subst h;have e1:(List.range i).countP (λj=> !listed.getD j false)=(List.range i).countP (λj=> !(listed.setIfInBounds i true).getD j false):=by
    refine List.countP_congr λj hj=> ?_;rw [getD_set_ne false (by have:=qav.1 hj;omega)]
   have e2:(listed.setIfInBounds i true).getD i false=true:=by simp [Array.getD,hs]
   rw [e1];simp only [List.countP_cons,List.countP_nil,h0,e2]
   rfl
  ·have:=ih (by omega);have e:(listed.setIfInBounds i true).getD n false=listed.getD n false:=getD_set_ne false h;rw [this];simp only [List.countP_cons,List.countP_nil,e];omega
theorem aak{E:List Nat}{listed:Array Bool}{i:Nat}(hs:i<listed.size):ph E (listed.setIfInBounds i true)=K3 E i (ph E listed):=by
 induction E with
 | nil=>rfl
 | cons e E ih=>
  simp only [ph,K3,qaz,List.zipWith_cons_cons] at ih ⊢;rw [ih];congr 1;by_cases h:e=i
  ·subst h;simp [Array.getD,hs]
  ·rw [getD_set_ne false (qbq h),uc h,Bool.or_false]
theorem RH{listed:Array Bool}{e:Nat}{b:Bool}: ∀{E:List Nat},(e,b)∈List.zip E (ph E listed)->b=listed.getD e false
 | [],h=>by cases h
 | a::E,h=>by
  simp only [ph,qaz,List.zip_cons_cons,qa8,Prod.mk.injEq] at h;rcases h with ⟨rfl,rfl⟩ | h
  ·rfl
  ·exact RH (E:=E) h
theorem RI{E:List Nat}{m:Nat}:ph E (Array.replicate m false)=E.map λ_=>false:=by
 unfold ph;exact qcf λe _=>getD_replicate_false _ _
theorem Wa{E:List Nat}{m:Nat}(hE: ∀e∈E,e<n->e<m):ph E ((List.range m).map (λi=>Nat.blt i n)).toArray=E.map λe=>Nat.blt e n:=by
 unfold ph;refine qcf λe he=> ?_;by_cases hm:e<m
 ·simp [Array.getD,hm]
 ·have: ¬e<n:=λh=>hm (hE e he h);rw [wI this];simp [Array.getD,hm]
theorem RJ{E:List Nat}{Ps:List (List Bool)}{Al:List (List (Nat×Nat))}{AX:Nat}(hB:rgB N ops n E Ps Al AX=true)
  (cU: ∀i o k k',i<n->ops[i]? =some o->(k,k')∈Al.getD i []-> ∀nm ρ σ,J k nm σ->(∀t,(∀i,i<n->dI ops i≠some t)->ρ t=kK t)->
   (∀j,waits o j=true->j<n-> ∀d,dI ops j=some d->look N ρ d=V j nm)->wJ P ops N n J V ρ σ nm i o k')
  (hk: ∀nm ρ σ,J AX nm σ->(∀t,(∀i,i<n->dI ops i≠some t)->ρ t=kK t)->(∀i,i<n-> ∀d,dI ops i=some d->look N ρ d=V i nm)->
   wpList P ops Q (ops.toList.drop n) (fr N ρ) σ.w):
  ∀(fuel:Nat) (listed:Array Bool) (ρ:Nat->Value) (σ:St),RInv ops N n E Ps kK J V listed ρ σ->(List.range n).countP (λi=> !listed.getD i false)+(ops.size - n)=fuel->
   wpAny P .any ops Q fuel listed (fr N ρ) σ.w:=by
 simp only [rgB,qa4] at hB;obtain ⟨⟨⟨⟨⟨⟨⟨hn,hd⟩,hw⟩,K4⟩,_⟩,Im⟩,acP⟩,hal⟩:=hB;have hn:=qa5 hn;have OF: ∀i d,i<n->dI ops i=some d->d<N:=by
  intro i d hi h;have:=qab.1 hd i (qav.2 hi);simp only [qa4] at this;have h1:=this.1.1;rw [h] at h1;refine qa9 λhc=> ?_;simp only [wI hc] at h1;cases h1
 have acQ: ∀i o,i<n->ops[i]? =some o-> ∀e∈o.after.toList,Region.binds .any e=true->e.on<i:=by
  intro i o hi ho e he hb;have:=qab.1 hd i (qav.2 hi);simp only [qa4] at this;have h1:=this.1.2;rw [ho] at h1;have:=qab.1 h1 e he;simp only [hb,qae,qck] at this;refine qa9 λhc=> ?_;rw [wI hc] at this;cases this
 have jF: ∀i j d,i<n->j<n->i≠j->dI ops i=some d->dI ops j≠some d:=by
  intro i j d hi hj qk RL hdj;have:=qab.1 hd i (qav.2 hi);simp only [qa4] at this;have:=qab.1 this.2 j (qav.2 hj);rw [RL,hdj] at this;simp [uc qk] at this
 have acR: ∀j i o,n<=j->i<n->ops[j]? =some o->reach ops ops.size j i=true:=by
  intro j i o hj hi ho;have bG:=(qa1.1 ho).1;have:=qab.1 hw j (qav.2 bG);rw [wI (by omega),qck] at this;exact qab.1 this i (qav.2 hi)
 have fin: ∀(listed:Array Bool) (ρ:Nat->Value) (σ:St),RInv ops N n E Ps kK J V listed ρ σ->(∀i,i<n->listed.getD i false=true)->
   listed=((List.range ops.size).map (λi=>Nat.blt i n)).toArray/\wpList P ops Q (ops.toList.drop n) (fr N ρ) σ.w:=by
  intro listed ρ σ inv lV;have EW:=IB inv.size inv.low lV;refine ⟨EW, ?_⟩;obtain ⟨nm,k,hp,hJ,eN⟩:=inv.st;rw [EW,Wa (λe _ h=>by omega)] at hp;have K5:=(qbi.1 hp).1;have:=qab.1 acP k (qav.2 K5);have e1:Ps.getD k []=E.map λe=>Nat.blt e n:=by simp [List.getD,hp]
  rw [e1] at this;simp only [beq_self_eq_true,qae,qck] at this;have:=Nat.eq_of_beq_eq_true this;subst this;exact hk nm ρ σ hJ inv.off (λi hi d hd=>eN i hi (lV i hi) d hd)
 intro fuel
 induction fuel with
 | zero=>
  intro listed ρ σ inv hf;have lV: ∀i,i<n->listed.getD i false=true:=by
   intro i hi;have h0:(List.range n).countP (λi=> !listed.getD i false)=0:=by omega
   have:=qcg.1 h0 i (qav.2 hi);simpa using this
  obtain ⟨EW,hh⟩:=fin listed ρ σ inv lV;have hdr:ops.toList.drop n=[]:=by rw [List.drop_eq_nil_iff];simp;omega
  rw [hdr] at hh;refine ⟨?_,hh⟩;have:Region.seqB .any ops 0 n listed=true:=by
   rw [EW];have e:ops.size - n=0:=by omega
   rw [e] at K4;exact K4
  simpa [Region.seqB] using this
 | succ fuel ih=>
  intro listed ρ σ inv hf;by_cases lV: ∀i,i<n->listed.getD i false=true
  ·
   obtain ⟨EW,hh⟩:=fin listed ρ σ inv lV;have h0:(List.range n).countP (λi=> !listed.getD i false)=0:=by
    rw [qcg];intro i hi;simp [lV i (qav.1 hi)]
   have:=wpAny_of_seq (md:= .any) (Q':=Q) (P:=P) (ops.toList.drop n) n listed (fr N ρ) σ.w (λj=>by simp [List.getElem?_drop]) (by
    rw [EW,List.length_drop,qce];exact K4) hh
   rw [List.length_drop,qce] at this;rw [show fuel+1=ops.size - n by omega];exact this
  ·
   have MX: ∃i,i<n/\listed.getD i false=false:=by
    refine qa9 λhc=>lV λi hi=> ?_;cases h:listed.getD i false with
    | true=>rfl
    | false=>exact absurd ⟨i,hi,h⟩ hc
   have step: ∀i∈Region.ready .any ops listed,wpOp P ops Q i (wpAny P .any ops Q fuel (listed.setIfInBounds i true)) (fr N ρ) σ.w:=by
    intro i hi;obtain ⟨h1,o,ho,h2⟩:=mem_ready.1 hi;have bG:=(qa1.1 ho).1;have hls:i<listed.size:=by rw [inv.size];exact bG
    have hwj: ∀j,waits o j=true->listed.getD j false=true:=by
     intro j hj;obtain ⟨e,he,hb⟩:=qbs.1 hj;simp only [qa4] at hb;have:=Nat.eq_of_beq_eq_true hb.1;subst this;exact h2 e (by simpa using he) hb.2
    have hin:i<n:=by
     refine qa9 λhc=> ?_;obtain ⟨k,HY,zn⟩:=MX;have:=pI inv.closed _ i o ho hwj (acR i k o (by omega) HY ho);rw [zn] at this;cases this
    have hi0:listed.getD i false=false:=by
     simp only [Array.getD,hls,dif_pos] at h1 ⊢;exact h1
    have acS: ∀j,j<n->i≠j->listed.getD j false=true->yg ops n i j=true:=by
     intro j hj qk hl;have:reach ops ops.size j i=false:=by
      cases hr:reach ops ops.size j i with
      | false=>rfl
      | true=>
       obtain ⟨oj,hoj⟩: ∃oj,ops[j]? =some oj:=by rw [Array.getElem?_eq_getElem (by omega)];exact ⟨_,rfl⟩
       have:=pI inv.closed _ j oj hoj (λk hk=>inv.closed j oj hl hoj k hk) hr;rw [hi0] at this;cases this
     simp only [yg,EK hj,uc (qbq qk),this,qcl,Bool.and_self]
    obtain ⟨nm,k,hp,hJ,eN⟩:=inv.st;have K5:=(qbi.1 hp).1;have ek:Ps.getD k []=ph E listed:=by simp [List.getD,hp]
    have agi:aaj ops E i (ph E listed)=true:=by
     unfold aaj;refine qab.2 λ⟨e,b⟩ heb=> ?_;have hb:b=listed.getD e false:=RH heb;subst hb;simp only [qa4,qc3,qbh];refine ⟨⟨?_, ?_⟩, ?_⟩
     ·cases hr:reach ops ops.size i e with
      | false=>exact .inl rfl
      | true=>exact .inr (pI inv.closed _ i o ho hwj hr)
     ·cases hr:reach ops ops.size e i with
      | false=>exact .inl rfl
      | true=>
       right;cases hl:listed.getD e false with
       | false=>rfl
       | true=>
        cases hoe:ops[e]? with
        | none=>
         cases mS:ops.size with
         | zero=>omega
         | succ q=>rw [mS,reach,hoe] at hr;cases hr
        | some oe=>
         have:=pI inv.closed _ e oe hoe (λk hk=>inv.closed e oe hl hoe k hk) hr;rw [hi0] at this;cases this
     ·by_cases hei:e=i
      ·subst hei;exact .inr hi0
      ·exact .inl (uc hei)
    have h3:=qab.1 (qab.1 hal i (qav.2 hin)) k (qav.2 K5);rw [ek,agi] at h3;simp only [qae,qck] at h3;obtain ⟨⟨ka,k'⟩,OG,h4⟩:=qbs.1 h3;simp only [qa4,beq_iff_eq] at h4;have:=Nat.eq_of_beq_eq_true h4.1;subst this;have RM:Ps[k']? =some (ph E (listed.setIfInBounds i true)):=by rw [aak hls];exact h4.2
    have hdo:=cU i o ka k' hin ho OG nm ρ σ hJ inv.off (λj hj Wb d hd=>eN j Wb (hwj j hj) d hd);have next: ∀v (σ':St) qU,V i qU=v->J k' qU σ'->(∀j,yg ops n i j=true->V j qU=V j nm)-> ∀a',a'=(fr N ρ).put o.dst v->wpAny P .any ops Q fuel (listed.setIfInBounds i true) a' σ'.w:=by
     rintro v σ' qU hV Ov fu a' rfl;have key: ∀rU,(fr N ρ).put o.dst v=fr N rU->(∀t,(∀i,i<n->dI ops i≠some t)->rU t=kK t)->(∀j,j<n->(listed.setIfInBounds i true).getD j false=true-> ∀d,dI ops j=some d->look N rU d=V j qU)->
       wpAny P .any ops Q fuel (listed.setIfInBounds i true) ((fr N ρ).put o.dst v) σ'.w:=by
      intro rU e aY acT;rw [e];refine ih _ _ _ ⟨by simp [inv.size],aY,⟨qU,k',RM,Ov,acT⟩, ?_, ?_⟩ ?_
      ·intro j hj;rw [getD_set_ne false (by omega)];exact inv.low j hj
      ·intro j oj hj hoj q hq;by_cases qk:i=j
       ·subst qk;rw [ho] at hoj;cases hoj;exact getD_set_true (hwj q hq)
       ·rw [getD_set_ne false qk] at hj;exact getD_set_true (inv.closed j oj hj hoj q hq)
      ·have:=countP_set (listed:=listed) (i:=i) (n:=n) hin hi0 hls;omega
     cases YN:o.dst with
     | none=>
      have hdn:dI ops i=none:=by simp [dI,ho,YN]
      refine YN▸key ρ (by rw [YN,jH]) inv.off ?_;intro j hj hl d' Kd;by_cases qk:i=j
      ·subst qk;rw [hdn] at Kd;cases Kd
      ·rw [getD_set_ne false qk] at hl;rw [fu j (acS j hj qk hl)];exact eN j hj hl d' Kd
     | some d=>
      have RL:dI ops i=some d:=by simp [dI,ho,YN]
      have hdN:=OF i d hin RL;refine YN▸key (upd ρ d v) (by rw [YN,de]) ?_ ?_
      ·intro t ht;have:t≠d:=λe=>ht i hin (e▸RL);show (bif Nat.beq t d then v else ρ t)=_;rw [uc this];exact inv.off t ht
      ·intro j hj hl d' Kd;by_cases qk:i=j
       ·subst qk;rw [RL] at Kd;cases Kd;have:look N (upd ρ d v) d=v:=by
         rw [vP _ hdN];show (bif Nat.beq d d then v else _)=v;rw [MP];rfl
        rw [this,hV]
       ·rw [getD_set_ne false qk] at hl;have agj:d'≠d:=λe=>jF i j d hin hj qk RL (e▸Kd);have:look N (upd ρ d v) d'=look N ρ d':=by
         unfold look;have:upd ρ d v d'=ρ d':=by show (bif Nat.beq d' d then v else ρ d')=_;rw [uc agj];rfl
         rw [this]
        rw [this,fu j (acS j hj qk hl)];exact eN j hj hl d' Kd
    unfold wpOp;rw [ho];simp only [eR];rcases hdo with ⟨RN,bU⟩ | ⟨RN,hV,Ov⟩
    ·rw [if_pos RN];refine .inl ?_;unfold Oper.wp;rw [aR];rcases bU with ⟨v,σ',qU,hr,hV,Ov,fu⟩ | ⟨σ',qU,EX,hr,Ov,fu⟩ | ⟨f,args,hr,hc⟩
     ·rw [hr,Oper.upon_value];exact next v σ' qU hV Ov fu _ rfl
     ·rw [hr,Oper.upon_skip];exact next _ σ' qU rfl Ov fu _ (by rw [EX];rfl)
     ·rw [hr,Oper.upon_enter];refine hc.mono ?_;rintro e w' ⟨v,σ',qU,rfl,rfl,hV,Ov,fu⟩;exact next v σ' qU hV Ov fu _ rfl
    ·rw [RN,if_neg (by simp)];exact next undef σ nm hV Ov (λ_ _=>rfl) _ rfl
   refine ⟨λagk=> ?_,step⟩;exfalso;obtain ⟨m,⟨Vt,Qr⟩,agl⟩:=exists_least (p:=λi=>i<n/\listed.getD i false=false) MX;obtain ⟨o,ho⟩: ∃o,ops[m]? =some o:=by
    rw [Array.getElem?_eq_getElem (by omega)];exact ⟨_,rfl⟩
   have yh:m<listed.size:=by rw [inv.size];omega
   have:m∈Region.ready .any ops listed:=by
    refine mem_ready.2 ⟨?_,o,ho,λe he hb=> ?_⟩
    ·simp only [Array.getD,yh,dif_pos] at Qr ⊢;exact Qr
    ·have bG:=acQ m o Vt ho e (by simpa using he) hb;cases hx:listed.getD e.on false with
     | true=>rfl
     | false=>
      have:=agl e.on ⟨by omega,hx⟩;omega
   rw [agk] at this;cases this
def ql(F:Nat->Oper->Prop):Nat->Nat->List Oper->Prop
 | 0,_,_=>True
 | _+1,_,[]=>True
 | n+1,k,o::r=>F k o/\ql F n (k+1) r
theorem all_nil{F:Nat->Oper->Prop}{k:Nat}{l:List Oper}:ql F 0 k l:=trivial
theorem all_cons{F:Nat->Oper->Prop}{n k:Nat}{o:Oper}{r:List Oper}(h:F k o)(t:ql F n (k+1) r):ql F (n+1) k (o::r):=⟨h,t⟩
theorem MY{F:Nat->Oper->Prop}: ∀(n k:Nat) (l:List Oper),ql F n k l-> ∀i o,i<n->l[i]? =some o->F (k+i) o
 | 0,_,_,_,_,_,hi,_=>by omega
 | _+1,_,[],_,_,_,_,ho=>by simp at ho
 | n+1,k,o::r,⟨h,t⟩,i,o',hi,ho=>by
  cases i with
  | zero=>simp at ho;subst ho;exact h
  | succ i=>
   have:=MY n (k+1) r t i o' (by omega) (by simpa using ho);rw [show k+(i+1)=k+1+i by omega];exact this
def Gj(F:Nat->Nat->Prop):List (Nat×Nat)->Prop
 | []=>True
 | (k,k')::r=>F k k'/\Gj F r
theorem acU{F:Nat->Nat->Prop}: ∀{l:List (Nat×Nat)},Gj F l-> ∀k k',(k,k')∈l->F k k'
 | [],_,_,_,h=>by cases h
 | (a,b)::r,⟨h,t⟩,k,k',hm=>by
  rcases qa8.1 hm with e | hm
  ·cases e;exact h
  ·exact acU t k k' hm
def UW(l:List (List (Nat×Nat)))(i:Nat):List (Nat×Nat):=l.getD i []
def Jl(l:List (Nm->St->Prop))(k:Nat)(nm:Nm)(σ:St):Prop:=(l.getD k (λ_ _=>False)) nm σ
def Vl(l:List (Nm->Value))(i:Nat)(nm:Nm):Value:=(l.getD i (λ_=>undef)) nm
def yi(ops:Array Oper)(n t:Nat):Bool:=(List.range n).all λi=> !(dI ops i==some t)
theorem Gk{t:Nat}(h:yi ops n t=true): ∀i,i<n->dI ops i≠some t:=by
 intro i hi;have:=qab.1 h i (qav.2 hi);simpa using this
def Ob(P:Program)(ops:Array Oper)(N n:Nat)(kK:Nat->Value)(J:Nat->Nm->St->Prop)(V:Nat->Nm->Value)(i:Nat)(o:Oper)(k k':Nat):Prop:=
 ∀nm ρ σ,J k nm σ->(∀t,yi ops n t=true->ρ t=kK t)->(∀j,waits o j=true->Nat.blt j n=true-> ∀d,dI ops j=some d->look N ρ d=V j nm)->wJ P ops N n J V ρ σ nm i o k'
theorem acV{id:Nat}{l:List Oper}{σ:St}(n:Nat)(E:List Nat)(Ps:List (List Bool))(Al:List (List (Nat×Nat)))(AX:Nat)(Js:List (Nm->St->Prop))(Vs:List (Nm->Value))(nm0:Nm)
  (hm:P.follows .mixedOrders=true) (hB:rgB N l.toArray n E Ps Al AX=true) (h0: ∀qm,qm.w.heap=σ.w.heap->Md (dx []) σ qm->Jl Js 0 nm0 qm)
  (cU:ql (λi o=>Gj (Ob P l.toArray N n kK (Jl Js) (Vl Vs) i o) (UW Al i)) n 0 l)
  (hk: ∀nm ρ σ',Jl Js AX nm σ'->(∀t,yi l.toArray n t=true->ρ t=kK t)->(∀i,Nat.blt i n=true-> ∀d,dI l.toArray i=some d->look N ρ d=Vl Vs i nm)->
   wpList P l.toArray Q (l.drop n) (fr N ρ) σ'.w):(Code.region id l.toArray true).wp P Q (fr N kK) σ.w:=by
 refine wp_region_any hm ?_
 let qm:St:=⟨{ σ.w with drawn:=σ.w.drawn+1 },σ.gB,σ.ok,σ.ef⟩
 have m1:Md (dx []) σ qm:=⟨rfl, .inr rfl,rfl, .inr (Nat.le_succ _),rfl,⟨qa2 _,λ_ _=>rfl,λ_=>qa2 _⟩,λ_ _ _=>rfl,λ_ _ _=>rfl⟩;have hB':=hB;simp only [rgB,qa4] at hB';obtain ⟨⟨⟨⟨⟨⟨⟨hn,_⟩,_⟩,_⟩,fu⟩,_⟩,_⟩,_⟩:=hB';have Vk:n<=l.length:=by simpa using qa5 hn
 have hb: ∀j,Nat.blt j n=true->j<n:=λj h=>qa9 λhc=>by rw [wI hc] at h;cases h
 refine RJ (kK:=kK) (J:=Jl Js) (V:=Vl Vs) hB ?_ ?_ _ _ kK qm ⟨by simp,λ_ _=>rfl,⟨nm0,0, ?_,h0 qm rfl m1,λi _ h=>(by rw [getD_replicate_false] at h;exact absurd h (by decide))⟩,λi _=>getD_replicate_false _ _,λi _ h=>(by rw [getD_replicate_false] at h;exact absurd h (by decide))⟩ ?_
 ·intro i o k k' hi ho OG nm ρ σ' hJ aY aH;have:=acU (MY n 0 l cU i o hi (by simpa using ho)) k k' (by rw [qc4];exact OG);rw [qc4] at this;exact this nm ρ σ' hJ (λt ht=>aY t (Gk ht)) (λj hj Wb d hd=>aH j hj (hb j Wb) d hd)
 ·intro nm ρ σ' hJ aY eN;simpa using hk nm ρ σ' hJ (λt ht=>aY t (Gk ht)) (λi hi d hd=>eN i (hb i hi) d hd)
 ·rw [RI];have:Ps.getD 0 [true]=E.map λ_=>false:=by simpa using fu
  cases Ps with
  | nil=>
   cases E with
   | nil=>simp at this
   | cons e E=>simp at this
  | cons p Ps=>simpa using this
 ·have:(List.range n).countP (λi=> !(Array.replicate l.toArray.size false).getD i false)=n:=by
   rw [List.countP_eq_length.2]
   ·simp
   ·intro i _;rw [getD_replicate_false];rfl
  rw [this];simp;omega
theorem BH{id:Nat}{l:List Oper}{σ:St}(n:Nat)(E:List Nat)(Ps:List (List Bool))(Al:List (List (Nat×Nat)))(AX:Nat)(Js:List (Nm->St->Prop))(Vs:List (Nm->Value))(nm0:Nm)
 (hm:P.follows .mixedOrders=true) (hB:rgB N l.toArray n E Ps Al AX=true) (h0: ∀qm,Md (dx []) σ qm->Jl Js 0 nm0 qm)
 (cU:ql (λi o=>Gj (Ob P l.toArray N n kK (Jl Js) (Vl Vs) i o) (UW Al i)) n 0 l)
 (hk: ∀nm ρ σ',Jl Js AX nm σ'->(∀t,yi l.toArray n t=true->ρ t=kK t)->(∀i,Nat.blt i n=true-> ∀d,dI l.toArray i=some d->look N ρ d=Vl Vs i nm)->
  wpList P l.toArray Q (l.drop n) (fr N ρ) σ'.w):(Code.region id l.toArray true).wp P Q (fr N kK) σ.w:=acV n E Ps Al AX Js Vs nm0 hm hB (λqm _ m=>h0 qm m) cU hk
variable{ρ:Nat->Value}{σ:St}{nm qU:Nm}{i k k':Nat}{o:Oper}{v:Value}{d:Nat}{op:Op}{ty:TypeId}{pos:String}{af:Array Edge}{gd:Option (Nat×Bool)}
theorem IC{t:Nat}(h:ρ t=kK t)(hv:look N kK t=v):look N ρ t=v:=by
 rw [←hv];unfold look;rw [h]
theorem RO{j d:Nat}(hd:dI ops j=some d)(h:look N ρ d=undef):yv ops N ρ j=none:=by
 unfold yv;rw [show (ops[j]?).bind (·.dst)=some d from hd];simp only [h];rfl
theorem jK{j d:Nat}{b:Bool}(hd:dI ops j=some d)(h:look N ρ d=B b):yv ops N ρ j=some b:=by
 unfold yv;rw [show (ops[j]?).bind (·.dst)=some d from hd];simp only [h]
theorem tI(hw:Region.wanted o (yv ops N ρ)=true)(hr:dX P σ.w.heap N ρ o v)(hV:V i nm=v)(hJ:J k nm σ):wJ P ops N n J V ρ σ nm i o k:=
 .inl ⟨hw, .inl ⟨v,σ,nm,hr σ.w rfl,hV,hJ,λ_ _=>rfl⟩⟩
theorem Gl(hw:Region.wanted o (yv ops N ρ)=false)(hV:V i nm=undef)(hJ:J k nm σ):wJ P ops N n J V ρ σ nm i o k:= .inr ⟨hw,hV,hJ⟩
theorem yj{Rz:Value->St->Prop}(hw:Region.wanted o (yv ops N ρ)=true)(he:Ex P σ N ρ o Rz)(h: ∀v σ',Rz v σ'-> ∃kJ qU,kJ.w=σ'.w/\V i qU=v/\J k' qU kJ/\ ∀j,yg ops n i j=true->V j qU=V j nm):wJ P ops N n J V ρ σ nm i o k':=by
 obtain ⟨v,σ',hr,hz⟩:=he;obtain ⟨kJ,qU,uI,h1,h2,h3⟩:=h v σ' hz;refine .inl ⟨hw, .inl ⟨v,kJ,qU, ?_,h1,h2,h3⟩⟩;rw [uI];exact hr
theorem aal{Rs:St->Prop}(hw:Region.wanted o (yv ops N ρ)=true)(hd:o.dst=none)(he:ExS P σ N ρ o Rs)(h: ∀σ',Rs σ'-> ∃kJ qU,kJ.w=σ'.w/\J k' qU kJ/\ ∀j,yg ops n i j=true->V j qU=V j nm):wJ P ops N n J V ρ σ nm i o k':=by
 obtain ⟨σ',hr,hz⟩:=he;obtain ⟨kJ,qU,uI,h2,h3⟩:=h σ' hz;refine .inl ⟨hw, .inr (.inl ⟨kJ,qU,hd, ?_,h2,h3⟩)⟩;rw [uI];exact hr
theorem jL{Rz:Value->St->Prop}(hw:Region.wanted o (yv ops N ρ)=true)(he:Cx P σ N ρ o Rz)(h: ∀v σ',Rz v σ'-> ∃kJ qU,kJ.w=σ'.w/\V i qU=v/\J k' qU kJ/\ ∀j,yg ops n i j=true->V j qU=V j nm):wJ P ops N n J V ρ σ nm i o k':=by
 obtain ⟨f,args,hr,hc⟩:=he;refine .inl ⟨hw, .inr (.inr ⟨f,args,hr,hc.mono ?_⟩)⟩;rintro e w' ⟨v,σ',rfl,rfl,hz⟩;obtain ⟨kJ,qU,uI,h1,h2,h3⟩:=h v σ' hz;exact ⟨v,kJ,qU,rfl,uI.symm,h1,h2,h3⟩
theorem acW{i:Nat}{o:Oper}{l:List (Nat×Nat)}(hl:(l.all λp=>Nat.beq p.1 p.2)=true)
  (h: ∀k nm ρ σ,J k nm σ->(∀t,yi ops n t=true->ρ t=kK t)->(∀j,waits o j=true->Nat.blt j n=true-> ∀d,dI ops j=some d->look N ρ d=V j nm)->wJ P ops N n J V ρ σ nm i o k):
  Gj (Ob P ops N n kK J V i o) l:=by
 induction l with
 | nil=>trivial
 | cons p r ih=>
  obtain ⟨a,b⟩:=p;simp only [List.all_cons,qa4] at hl;have:=Nat.eq_of_beq_eq_true hl.1;subst this;exact ⟨λnm ρ σ hJ aY aH=>h a nm ρ σ hJ aY aH,ih hl.2⟩
theorem ac{m k:Nat}{o:Oper}{r:List Oper}{Al:List (List (Nat×Nat))}(hl:((UW Al k).all λp=>Nat.beq p.1 p.2)=true)
 (h: ∀k' nm ρ σ,J k' nm σ->(∀t,yi ops n t=true->ρ t=kK t)->(∀j,waits o j=true->Nat.blt j n=true-> ∀d,dI ops j=some d->look N ρ d=V j nm)->wJ P ops N n J V ρ σ nm k o k')
 (t:ql (λi o=>Gj (Ob P ops N n kK J V i o) (UW Al i)) m (k+1) r):ql (λi o=>Gj (Ob P ops N n kK J V i o) (UW Al i)) (m+1) k (o::r):=all_cons (acW hl h) t
theorem wn{d:Option Nat}{op:Op}{ty:TypeId}{pos:String}{af:Array Edge}{y:Nat->Option Bool}:Region.wanted ⟨d,op,ty,pos,af,none⟩ y=true:=aS _ rfl _
def aam(F:Nat->Prop):List Nat->Prop
 | []=>True
 | j::r=>F j/\aam F r
theorem acX{F:Nat->Prop}: ∀{l:List Nat},aam F l-> ∀j∈l,F j
 | [],_,_,h=>by cases h
 | a::r,⟨h,t⟩,j,hm=>by
  rcases qa8.1 hm with e | hm
  ·cases e;exact h
  ·exact acX t j hm
theorem agm(l:List Nat)(hb:((List.range n).all λj=> !yg ops n i j || l.contains j)=true)(h:aam (λj=>V j qU=V j nm) l): ∀j,yg ops n i j=true->V j qU=V j nm:=by
 intro j hj;have Wb:j<n:=by
  simp only [yg,qa4] at hj;exact qa9 λhc=>by rw [wI hc] at hj;cases hj.1.1
 have:=qab.1 hb j (qav.2 Wb);rw [hj] at this;simp only [qae,qck,List.contains_iff_mem] at this;exact acX h j this
end
theorem Wc{N:Nat}{ρ:Nat->Value}{L:List (Nat×Value)}(h: ∀p∈L,look N ρ p.1=p.2):fr N ρ=fr N (cz ρ L):=by
 refine Rg λt ht=> ?_
 induction L with
 | nil=>rfl
 | cons p r ih=>
  have h1:=h p (by simp);rw [cz];by_cases e:t=p.1
  ·subst e;rw [MP, ←h1,vP _ ht];rfl
  ·rw [uc e];exact ih (λq hq=>h q (by simp [hq]))
theorem Md.jk{S:BS}{a b c:St}(h:Md S a b)(k:Md (dx []) b c):Md S a c:=h.step k (λ_ _ h=>h.elim)
theorem Md.comp{S S':BS}{a b c:St}(h:Md S a b)(k:Md S' b c):Md (λi=>S i\/S' i) a c:=(h.mono λ_ h=> .inl h).step k (λ_ _ h=> .inr h)
theorem RS.zF{el:Nat}{α:Type}[Rp α]{σ σ':St}{S:BS}{v u:Value}{xs:List α}{a:Int}{e:α}{b o:Nat}(h:RS el σ v xs)(hg:bu xs a=some e)(hi:Ix v a (Rp.sz α) b o){k:Nat}(hk:k<Rp.sz α)
  (hc:jI σ.w.heap b (o+k)=some u) (m:Md S σ σ'):jI σ'.w.heap b (o+k)=some u:=by
 obtain ⟨h0,h1,h2⟩:=lH hg;obtain ⟨ob,mm,c,rfl,g0,g1,rfl⟩:=hi.it;rcases h with ⟨_,rfl⟩ | ⟨b,o,c,hv,_,wu,aag,hA⟩
 ·simp at h1
 ·cases hv;have:(a.toNat+1)*Rp.sz α<=xs.length*Rp.sz α:=qaj _ h1;rw [Nat.add_mul] at this;rw [iU] at hc ⊢;rw [←hc];exact m.ext.cell b _ (by omega)
theorem RS.RP{el:Nat}{σ σ':St}{S:BS}{b o c:Nat}{zs:List Int}(h:RS el σ (Sl (some ⟨b,o,none⟩) zs c) zs)(hc: ∀j,(hj:j<zs.length)->jI σ.w.heap b (o+j)=some (I zs[j]))(m:Md S σ σ'):
  ∀j,(hj:j<zs.length)->jI σ'.w.heap b (o+j)=some (I zs[j]):=by
 intro j hj;rcases h with ⟨_,rfl⟩ | ⟨b,o,c,hv,_,wu,aag,hA⟩
 ·simp at hj
 ·cases hv;rw [←hc j hj,iU,iU];exact m.ext.cell b _ (by have:Rp.sz Int=1:=rfl;rw [this] at aag;omega)
end Go.Vs
namespace Go.Vs
open Go
section
variable{P:Program}{H:Array Obj}{n:Nat}{ρ:Nat->Value}{d:Option Nat}{ty T:TypeId}{pos:String}{af:Array Edge}{gd:Option (Nat×Bool)}
theorem oF{fs:Array Field}{parts:Array (Nat×Operand)}{ps:List (Nat×Value)}{cs:Array Value}{z:Value}{s bt:Nat}{places:Array (Nat×Nat)}(hT:P.underlying T=some (.struct fs))(hi:TI P T z s bt)
  (MT: ∀w,(fs.mapM (λf=>do pure (f.offset, ←sizeOf f.type)):Sem (Array (Nat×Nat))).run P w= .ok places w) (hp:parts.toList.map (λp=>(p.1,ev n ρ p.2))=ps)
  (AD:Instr.fill (places[·]?) z.cells ps=some cs):dX P H n ρ ⟨d, .build T parts,ty,pos,af,gd⟩ (.agg cs):=λw _=>by
 have hpp:(parts.map fun (i,x)=>(i,ev n ρ x))=ps.toArray:=by rw [←hp, ←Array.toList_map]
 simp only [execOp,hpp,Instr.build,underlying,hT,oE hi,Sem.run_bind,run_program,Result.andThen_ok,Sem.run_pure,MT,AD]
theorem aan{E m:Nat}{xs:List Int}{x y:Operand}{a e:Int}{z:Value}{bt:Nat}(hT:P.underlying T=some (.array m E))(hi:TI P E z 1 bt)(hE:P.underlying E=some (.int .i64))
  (hx:ev n ρ x= .agg (xs.map I).toArray) (hy:ev n ρ y=I a) (hg:bu xs a=some e) (hl:xs.length=m):dX P H n ρ ⟨d, .index T x y,ty,pos,af,gd⟩ (I e):=by
 obtain ⟨h0,h1,h2⟩:=lH hg;exact F4 hT hi hE hx hy h0 (by omega) (by rw [qb6 h1,h2])
end
theorem oW{α β:Type}{a:Option Addr}{xs:List α}{ys:List β}{c:Nat}(h:xs.length=ys.length):Sl a xs c=Sl a ys c:=by unfold Sl;rw [h]
section
variable{P:Program}{n:Nat}{ρ:Nat->Value}{σ:St}
theorem oG{T:TypeId}{D:TypeDesc}{cs:List Value}{z:Value}{s bt b:Nat}(hT:P.underlying T=some D)(hD:(match D with | .struct _=>false | .array _ _=>false | _=>true)=false)
  (hi:TI P T z s bt) (hlen:cs.length=s) (hB: ∀j,(hj:j<cs.length)->jI σ.w.heap b (0+j)=some cs[j]):(loadVar T ⟨b,0,none⟩).run P σ.w= .ok (.agg cs.toArray) σ.w:=by
 have xJ:(isAgg T).run P σ.w= .ok true σ.w:=by
  simp only [isAgg,underlying,Sem.run_bind,run_program,Result.andThen_ok,hT,Sem.run_pure];cases D <;> simp_all
 have hld:=run_loadCellsFrom (P:=P) σ.w b 0 s 0 cs [] hlen (λj hj=>by rw [←iU];simpa using hB j hj);simp [loadVar,xJ,run_typeInfo hi,loadCells,hld]
def mj(P:Program)(n:Nat)(ρ:Nat->Value)(w:World):List ResultVar->List Value->Prop
 | [],[]=>True
 | .tmp t::r,v::vs=>look n ρ t=v/\mj P n ρ w r vs
 | .cell t T::r,v::vs=>(∃a,look n ρ t= .pointer (some a)/\(loadVar T a).run P w= .ok v w)/\mj P n ρ w r vs
 | _,_=>False
theorem eW{w:World}:mj P n ρ w [] []:=trivial
theorem eH{w:World}{t:Nat}{r:List ResultVar}{v:Value}{vs:List Value}(h:look n ρ t=v)(k:mj P n ρ w r vs):mj P n ρ w (.tmp t::r) (v::vs):=⟨h,k⟩
theorem u9{w:World}{t T b:Nat}{r:List ResultVar}{v:Value}{vs:List Value}(h:look n ρ t=pt b 0)(hl:(loadVar T ⟨b,0,none⟩).run P w= .ok v w)(k:mj P n ρ w r vs):mj P n ρ w (.cell t T::r) (v::vs):=⟨⟨_,h,hl⟩,k⟩
def ID(D:Array Value):ResultVar->Sem Value
 | .tmp t=>pure (D.getD t undef)
 | .cell a t=>do loadVar t (←asAddr (D.getD a undef))
theorem We{w:World}: ∀(rs:List ResultVar) (vs:List Value),mj P n ρ w rs vs->(rs.mapM (ID (fr n ρ).tmps)).run P w= .ok vs w:=by
 intro rs
 induction rs with
 | nil=>intro vs h;cases vs with
  | nil=>rfl
  | cons=>exact h.elim
 | cons r rs ih=>
  intro vs h;cases vs with
  | nil=>cases r <;> exact h.elim
  | cons v vs=>
   cases r with
   | tmp t=>
    obtain ⟨h1,h2⟩:=h;have e:(ID (fr n ρ).tmps (.tmp t)).run P w= .ok v w:=by
     simp only [ID,look_eq,h1,Sem.run_pure]
    simp only [List.mapM_cons,Sem.run_bind,e,Result.andThen_ok,ih vs h2,Sem.run_pure]
   | cell t T=>
    obtain ⟨⟨a,h1,hl⟩,h2⟩:=h;have e:(ID (fr n ρ).tmps (.cell t T)).run P w= .ok v w:=by
     simp only [ID,look_eq,h1,asAddr,Sem.run_bind,Sem.run_pure,Result.andThen_ok,hl]
    simp only [List.mapM_cons,Sem.run_bind,e,Result.andThen_ok,ih vs h2,Sem.run_pure]
def acY:List Value->Value
 | [v]=>v
 | vs=> .tuple vs.toArray
theorem cv{fn:Func}{w:World}{rs:List ResultVar}{vs:List Value}{v:Value}(h:fn.results=rs.toArray)(hk:mj P n ρ w rs vs)(hv:acY vs=v):(results fn (fr n ρ).tmps).run P w= .ok v w:=by
 have hr:=We rs vs hk;have hm:(fn.results.mapM (ID (fr n ρ).tmps)).run P w= .ok vs.toArray w:=by
  rw [h,List.mapM_toArray];show ((List.mapM (ID (fr n ρ).tmps) rs) >>= λa=>pure (List.toArray a):Sem (Array Value)).run P w=_;rw [Sem.run_bind,hr];rfl
 have cE:results fn (fr n ρ).tmps=(do let vs←fn.results.mapM (ID (fr n ρ).tmps);pure (if h:vs.size=1 then vs[0] else .tuple vs)):=by
  unfold results;congr 1
 rw [cE,Sem.run_bind,hm];simp only [Result.andThen_ok,Sem.run_pure];rw [←hv]
 match vs with
 | []=>rfl
 | [v]=>rfl
 | v::u::r=>simp [acY]
end
end Go.Vs
namespace Go.Vs
open Go
structure Pb(S:BS)(σ σ':St):Prop where
 w:σ'.w=σ.w
 ef:σ'.ef=σ.ef
 gB: ∀b, ¬S b->σ'.gB b=σ.gB b
 le: ∀b,σ.gB b<=σ'.gB b
theorem Pb.md{S:BS}{σ σ':St}(h:Pb S σ σ'):Md S σ σ':=
 ⟨by rw [h.w], .inr (by rw [h.w]),by rw [h.w],by rw [h.w];exact .inr (qa2 _),h.ef,⟨by unfold St.size;rw [h.w];exact qa2 _,λb _=>by rw [h.w],h.le⟩,λb _ _=>by rw [h.w],λb _ hn=>h.gB b hn⟩
theorem Pb.trans{S S':BS}{a b c:St}(h:Pb S a b)(k:Pb S' b c):Pb (λi=>S i\/S' i) a c:=
 ⟨k.w.trans h.w,k.ef.trans h.ef,λb hb=>(k.gB b (λe=>hb (.inr e))).trans (h.gB b (λe=>hb (.inl e))),λb=>qaa (h.le b) (k.le b)⟩
theorem Pb.mono{S S':BS}{a b:St}(h:Pb S a b)(hs: ∀i,S i->S' i):Pb S' a b:=⟨h.w,h.ef,λb hb=>h.gB b (λe=>hb (hs b e)),h.le⟩
def Ch.big(K:List Ch):Ch where
 dup:=false
 fp:=dx K
 as σ:=jj σ K/\apart K
 Iy h:=by cases h
 bG h:=mi h.1
 fu m hd h:=⟨iT h.1 m hd,h.2⟩
def acZ{α:Type}[Rp α](K:List Ch)(v:Value)(xs:List α):Prop:= ∀σ,jj σ K->apart K-> ∃σ',Pb (dx K) σ σ'/\RS 0 σ' v xs
inductive gW:List Ch->List Ch->List Ch->Prop
 | nil:gW [] [] []
 | tz {α:Type} [Rp α] {lo el:Nat} {v:Value} {xs:List α} {Ln A B:List Ch}:gW Ln A B->gW (Ch.own lo el v xs::Ln) A (Ch.ro 0 v xs::B)
 | RQ {α:Type} [Rp α] {lo el:Nat} {v v':Value} {xs ys:List α} {Ln A B:List Ch}:(∀σ,Ow σ lo el v xs->Ow σ lo el v' ys/\ ∀b,blk v'=some b->blk v=some b)->gW Ln A B->gW (Ch.own lo el v xs::Ln) A (Ch.ro 0 v' ys::B)
 | RR {α:Type} [Rp α] {v:Value} {xs:List α} {K Ln A B:List Ch}:acZ K v xs->gW Ln A B->gW (Ch.big K::Ln) A (Ch.ro 0 v xs::B)
 | same {c:Ch} {Ln A B:List Ch}:gW Ln A B->gW Ln (c::A) (c::B)
 | again {α:Type} [Rp α] {v:Value} {xs:List α} {k:Nat} {Ln A B:List Ch}:gW Ln A B->nth B k=some (Ch.ro 0 v xs)->gW Ln A (Ch.ro 0 v xs::B)
section
variable{P:Program}{n:Nat}{ρ:Nat->Value}{aq σ:St}{S0:BS}{Ln A B R:List Ch}
theorem gW.dx(h:gW Ln A B): ∀b,Go.Vs.dx B b↔Go.Vs.dx A b:=by
 induction h with
 | nil=>intro b;exact Iff.rfl
 | tz _ ih=>intro b;exact ⟨λh=>h.elim (λh=>h.elim) (ih b).1,λh=> .inr ((ih b).2 h)⟩
 | RQ _ _ ih=>intro b;exact ⟨λh=>h.elim (λh=>h.elim) (ih b).1,λh=> .inr ((ih b).2 h)⟩
 | RR _ _ ih=>intro b;exact ⟨λh=>h.elim (λh=>h.elim) (ih b).1,λh=> .inr ((ih b).2 h)⟩
 | same _ ih=>intro b;exact or_congr Iff.rfl (ih b)
 | again _ _ ih=>intro b;exact ⟨λh=>h.elim (λh=>h.elim) (ih b).1,λh=> .inr ((ih b).2 h)⟩
theorem gW.apart(h:gW Ln A B):Go.Vs.apart A->Go.Vs.apart B:=by
 induction h with
 | nil=>exact id
 | tz _ ih=>exact λh=>⟨λ_ h=>h.elim,ih h⟩
 | RQ _ _ ih=>exact λh=>⟨λ_ h=>h.elim,ih h⟩
 | RR _ _ ih=>exact λh=>⟨λ_ h=>h.elim,ih h⟩
 | same h0 ih=>exact λh=>⟨λb hb fS=>h.1 b hb ((h0.dx b).1 fS),ih h.2⟩
 | again _ _ ih=>exact λh=>⟨λ_ h=>h.elim,ih h⟩
theorem Ow.pb{α:Type}[Rp α]{el lo:Nat}{v:Value}{xs:List α}(h:Ow σ lo el v xs): ∃σ',Pb (λb=>blk v=some b) σ σ'/\RS 0 σ' v xs:=by
 have hl:=h.lt;rcases h with ⟨rfl,rfl⟩ | ⟨b,o,c,C,T,rfl,h2,h3,h4,h5,h6,h7⟩
 ·exact ⟨σ,⟨rfl,rfl,λ_ _=>rfl,λ_=>qa2 _⟩,RS.nil⟩
 ·have hb:=hl b rfl;have hE:=St.F8 (σ:=σ) (e:=o+xs.length*Rp.sz α) hb;refine ⟨σ.P3 b (o+xs.length*Rp.sz α) hb,⟨rfl,rfl,λi jF=> ?_,hE.gB⟩, .inr ⟨b,o,c,rfl,qa7 _,h4, ?_,λi hi=>((h7 i hi).low (qa7 _)).same hE rfl⟩⟩
  ·show (if i=b then _ else _)=_;rw [if_neg (by intro e;subst e;exact jF rfl)]
  ·show _<=(if b=b then _ else _);rw [if_pos rfl];omega
theorem gW.P3(h:gW Ln A B): ∀{σ:St},jj σ Ln->Go.Vs.apart Ln->jj σ A->(∀b,Go.Vs.dx A b-> ¬Go.Vs.dx Ln b)-> ∃tl,Pb (Go.Vs.dx Ln) σ tl/\jj tl B:=by
 induction h with
 | nil=>intro σ _ _ _ _;exact ⟨σ,⟨rfl,rfl,λ_ _=>rfl,λ_=>qa2 _⟩,trivial⟩
 | @tz α _ lo el v xs Ln A B hl ih=>
  rintro σ ⟨h1,h2⟩ ⟨h3,h4⟩ hA hd;obtain ⟨qm,p1,hR⟩:=Ow.pb (h1:Ow σ lo el v xs);obtain ⟨iL,p2,h5⟩:=ih (iT h2 p1.md (λb hb fS=>h3 b fS hb)) h4 (iT hA p1.md (λb hb fS=>hd b hb (.inl fS))) (λb hb fS=>hd b hb (.inr fS));exact ⟨iL,(p1.trans p2).mono (λb hb=>hb),hR.ext p2.md.ext,h5⟩
 | @RQ α _ lo el v v' xs ys Ln A B hV hl ih=>
  rintro σ ⟨h1,h2⟩ ⟨h3,h4⟩ hA hd;obtain ⟨hO,fS⟩:=hV σ h1;obtain ⟨qm,p0,hR⟩:=Ow.pb hO;have p1:=p0.mono (S':=λb=>blk v=some b) fS;obtain ⟨iL,p2,h5⟩:=ih (iT h2 p1.md (λb hb fS=>h3 b fS hb)) h4 (iT hA p1.md (λb hb fS=>hd b hb (.inl fS))) (λb hb fS=>hd b hb (.inr fS));exact ⟨iL,(p1.trans p2).mono (λb hb=>hb),hR.ext p2.md.ext,h5⟩
 | @RR α _ v xs K Ln A B hK hl ih=>
  rintro σ ⟨h1,h2⟩ ⟨h3,h4⟩ hA hd;obtain ⟨qm,p1,hR⟩:=hK σ h1.1 h1.2;obtain ⟨iL,p2,h5⟩:=ih (iT h2 p1.md (λb hb fS=>h3 b fS hb)) h4 (iT hA p1.md (λb hb fS=>hd b hb (.inl fS))) (λb hb fS=>hd b hb (.inr fS));exact ⟨iL,(p1.trans p2).mono (λb hb=>hb),hR.ext p2.md.ext,h5⟩
 | @same c Ln A B hl ih=>
  rintro σ h1 h2 ⟨h3,h4⟩ hd;obtain ⟨tl,p,h5⟩:=ih h1 h2 h4 (λb hb=>hd b (.inr hb));exact ⟨tl,p,c.fu p.md (λb hb=>hd b (.inl hb)) h3,h5⟩
 | again hl hk ih=>
  intro σ h1 h2 hA hd;obtain ⟨tl,p,h5⟩:=ih h1 h2 hA hd;exact ⟨tl,p,Gg hk h5,h5⟩
def Ab(m:Nat)(c:Ch):Prop:= ∀σ σ':St,σ'.w=σ.w->(∀b,m<=b\/c.fp b->σ'.gB b=σ.gB b)->c.as σ->c.as σ'
def ye(m:Nat):List Ch->Prop
 | []=>True
 | c::l=>Ab m c/\ye m l
theorem Wh{m el:Nat}{σ σ':St}(hw:σ'.w=σ.w)(hv: ∀b,m<=b->σ'.gB b=σ.gB b)(h:m<=el):Oy el σ σ':=
 ⟨λb _ _=>by rw [hw],λb hb=>qay (hv b (qaa h hb)).symm⟩
theorem Ab.own{α:Type}[Rp α]{m lo el:Nat}{v:Value}{xs:List α}(h:m<=el):Ab m (Ch.own lo el v xs):=by
 intro σ σ' hw hv hO;rcases (hO:Ow σ lo el v xs) with hO | ⟨b,o,c,C,T,rfl,h2,h3,h4,h5,h6,h7⟩
 ·exact .inl hO
 ·refine .inr ⟨b,o,c,C,T,rfl,h2,by rw [hw];exact h3,h4,h5,(hv b (.inr rfl)).trans h6,λi hi=> ?_⟩;obtain ⟨cs,h8,h9⟩:=h7 i hi;exact ⟨cs,Rp.wo (Wh hw (λb hb=>hv b (.inl hb)) h) h8,λj hj=>by rw [←h9 j hj];unfold St.cell;rw [hw]⟩
theorem Ab.Cv{α:Type}[Rp α][Sc α]{m lo el:Nat}{v:Value}{xs:List α}:Ab m (Ch.own lo el v xs):=by
 intro σ σ' hw hv hO;exact (Ab.own (m:=m) (el:=m) (lo:=lo) (v:=v) (xs:=xs) (qa2 m) σ σ' hw hv (Ow.sc (hO:Ow σ lo el v xs)):Ow σ' lo m v xs).sc
theorem Ck{m:Nat}{σ σ':St}(hw:σ'.w=σ.w): ∀{L:List Ch},ye m L->(∀b,m<=b\/Go.Vs.dx L b->σ'.gB b=σ.gB b)->jj σ L->jj σ' L
 | [],_,_,_=>trivial
 | c::l,⟨h1,h2⟩,hv,⟨h3,h4⟩=>⟨h1 σ σ' hw (λb hb=>hv b (hb.imp id .inl)) h3,Ck hw h2 (λb hb=>hv b (hb.imp id .inr)) h4⟩
open Classical in
theorem bL.tz{f:FuncId}{args:List Value}{post:Nat->Value->List Ch->Prop}(hl:gW Ln A B)(hc:bL P f args B post)(H:Hp S0 aq σ (Ln++(A++R)))(nW: ∀m v L',post m v L'->ye m L'):
  Calls P f args.toArray σ.w λe w'=> ∃v σ' L',e= .returned v/\w'=σ'.w/\post σ.size v L'/\Hp S0 aq σ' (L'++(Ln++R))/\Md (dx A) σ σ':=by
 obtain ⟨a1,a23⟩:=eG.1 H.all;obtain ⟨a2,a3⟩:=eG.1 a23;obtain ⟨p1,p23,p4⟩:=fi.1 H.ap;obtain ⟨p2,p3,p5⟩:=fi.1 p23;have pA: ∀b,dx A b-> ¬dx Ln b:=λb hb h=>p4 b h (bM.2 (.inl hb));have pR: ∀b,dx R b-> ¬dx Ln b:=λb hb h=>p4 b h (bM.2 (.inr hb));obtain ⟨tl,pp,aB⟩:=hl.P3 a1 p1 a2 pA;have mS:tl.size=σ.size:=by unfold St.size;rw [pp.w]
 have Hb:Hp (dx B) tl tl B:=Hp.begin aB (hl.apart p2);have hr:=hc.runs tl σ.size (qay mS.symm) Hb;rw [pp.w] at hr;refine hr.mono ?_;rintro e w' ⟨v,iL,L',rfl,rfl,hp,H'⟩;have VU:=hl.dx;have hle:σ.size<=iL.size:=mS▸H'.md.size
 let ji:St:=⟨iL.w,λc=>if dx Ln c then σ.gB c else iL.gB c,λb hb=>by
  have: ¬dx Ln b:=λh=>absurd (qa3 (mi a1 b h) hle) (qcm.2 hb);rw [if_neg this];exact iL.ok b hb,iL.ef⟩
 have QB: ∀b,dx Ln b->ji.gB b=σ.gB b:=λb h=>if_pos h;have wU: ∀b, ¬dx Ln b->ji.gB b=iL.gB b:=λb h=>if_neg h;have m3:Md (dx A) σ ji:=by
  refine ⟨?_, ?_, ?_, ?_,H'.md.ef.trans pp.ef,⟨hle,λb ho=> ?_,λb=> ?_⟩,λb hb hn=> ?_,λb hb hn=> ?_⟩
  ·exact H'.md.os.trans (by rw [pp.w])
  ·have:=H'.md.tape;rw [pp.w,pp.ef] at this;exact this
  ·exact H'.md.output.trans (by rw [pp.w])
  ·have:=H'.md.dr;rw [pp.w,pp.ef] at this;exact this
  ·have h1:iL.w.heap[b]? =tl.w.heap[b]? :=H'.md.ext.block b (qa3 ho (pp.le b));show iL.w.heap[b]? =_;rw [h1,pp.w]
  ·by_cases h:dx Ln b
   ·exact qay (QB b h).symm
   ·rw [wU b h];exact qaa (pp.le b) (H'.md.ext.gB b)
  ·have:=H'.md.block b (by rw [mS];exact hb) (λh=>hn ((VU b).1 h));rw [pp.w] at this;exact this
  ·by_cases h:dx Ln b
   ·exact QB b h
   ·rw [wU b h,H'.md.gB b (by rw [mS];exact hb) (λh=>hn ((VU b).1 h)),pp.gB b h]
 have FW: ∀b,dx L' b->b<σ.size->dx A b:=λb hb bG=>(VU b).1 (H'.DL b hb (by rw [mS];exact bG));have aL':jj ji L':=Ck (σ:=iL) (σ':=ji) rfl (nW _ _ _ hp) (λb hb=>by
  refine wU b λh=> ?_;have bG:=mi a1 b h;rcases hb with hb | hb
  ·omega
  ·exact pA b (FW b hb bG) h) H'.all
 refine ⟨v,ji,L',rfl,rfl,hp,⟨H.md.step m3 (λi hi h=>H.DL i (bM.2 (.inr (bM.2 (.inl h)))) hi),eG.2 ⟨aL',eG.2 ⟨iT a1 m3 (λb hb h=>pA b h hb),iT a3 m3 (λb hb h=>p5 b h hb)⟩⟩,
  fi.2 ⟨H'.ap,fi.2 ⟨p1,p3,λb hb h=>pR b h hb⟩,λb hb fS=> ?_⟩,λb hb bG=> ?_⟩,m3⟩
 ·rcases bM.1 fS with h | h
  ·exact pA b (FW b hb (mi a1 b h)) h
  ·exact p5 b (FW b hb (mi a3 b h)) h
 ·rcases bM.1 hb with hb | hb
  ·exact H.DL b (bM.2 (.inr (bM.2 (.inl (FW b hb (qa3 bG H.md.size)))))) bG
  ·rcases bM.1 hb with hb | hb
   ·exact H.DL b (bM.2 (.inl hb)) bG
   ·exact H.DL b (bM.2 (.inr (bM.2 (.inr hb)))) bG
theorem rm{f:FuncId}{args:List Value}{post:Nat->Value->List Ch->Prop}{o:Oper}(hl:gW Ln A B)(hc:bL P f args B post)(he:Enters P n ρ o f args σ.w)(H:Hp S0 aq σ (Ln++(A++R)))(nW: ∀m v L',post m v L'->ye m L'):
  Cx P σ n ρ o λv σ'=> ∃L',post σ.size v L'/\Hp S0 aq σ' (L'++(Ln++R))/\Md (dx A) σ σ'/\aq.size<=σ.size:=
 ⟨f,args,he,(hc.tz hl H nW).mono (by rintro e w' ⟨v,σ',L',rfl,rfl,hp,H',m⟩;exact ⟨v,σ',rfl,rfl,L',hp,H',m,H.size⟩)⟩
end
end Go.Vs
namespace Go.Vs
structure Lc{α:Type}(cmp:α->α->Int)(xs:List α):Prop where
 irrefl: ∀x∈xs, ¬cmp x x<0
 trans: ∀x∈xs, ∀y∈xs, ∀z∈xs,cmp x y<0->cmp y z<0->cmp x z<0
 RU: ∀x∈xs, ∀y∈xs, ¬cmp x y<0-> ¬cmp y x<0->x=y
def leC{α:Type}(cmp:α->α->Int)(x y:α):Bool:= !decide (cmp y x<0)
def oH{α:Type}(cmp:α->α->Int)(xs:List α):List α:=xs.mergeSort (leC cmp)
theorem EY{α:Type}{cmp:α->α->Int}{xs:List α}:(oH cmp xs).length=xs.length:=List.length_mergeSort _
theorem Lc.asymm{α:Type}{cmp:α->α->Int}{xs:List α}(h:Lc cmp xs){x y:α}(hx:x∈xs)(hy:y∈xs)(h1:cmp x y<0): ¬cmp y x<0:=
 λh2=>h.irrefl x hx (h.trans x hx y hy x hx h1 h2)
theorem Lc.MZ{α:Type}{cmp:α->α->Int}{xs:List α}(h:Lc cmp xs){x y z:α}(hx:x∈xs)(hy:y∈xs)(hz:z∈xs)(h1: ¬cmp y x<0)(h2: ¬cmp z y<0): ¬cmp z x<0:=by
 intro h3;by_cases a:cmp x y<0
 ·by_cases b:cmp y z<0
  ·exact h.asymm hx hz (h.trans x hx y hy z hz a b) h3
  ·have:=h.RU y hy z hz b h2;subst this;exact h1 h3
 ·have:=h.RU x hx y hy a h1;subst this;exact h2 h3
theorem M0{α:Type}{cmp:α->α->Int}: ∀{l r:List α},Lc cmp l->r.Perm l->r.Pairwise (λx y=> ¬cmp y x<0)->l.Pairwise (λx y=> ¬cmp y x<0)->r=l
 | [],r,_,hp,_,_=>List.Perm.eq_nil hp
 | x::l,r,h,hp,hr,hl=>by
  cases r with
  | nil=>exact absurd hp.length_eq (by simp)
  | cons y r=>
   obtain ⟨hr1,hr2⟩:=qbf.1 hr;obtain ⟨wV,db⟩:=qbf.1 hl;have hy:y∈x::l:=hp.mem_iff.1 (by simp);have hx:x∈y::r:=hp.mem_iff.2 (by simp);have e:y=x:=by
    rcases qa8.1 hx with e | yc
    ·exact e.symm
    rcases qa8.1 hy with e | Z1
    ·exact e
    exact h.RU y hy x (by simp) (wV y Z1) (hr1 x yc)
   subst e;have RM:=(List.perm_cons y).1 hp;rw [M0 (l:=l) (r:=r) ⟨λa ha=>h.irrefl a (by simp [ha]),λa ha b hb c hc=>h.trans a (by simp [ha]) b (by simp [hb]) c (by simp [hc]),λa ha b hb=>h.RU a (by simp [ha]) b (by simp [hb])⟩ RM hr2 db]
theorem EZ{α:Type}{cmp:α->α->Int}{xs:List α}(h:Lc cmp xs):(oH cmp xs).Pairwise (λx y=> ¬cmp y x<0):=by
 let e:{x // x∈xs}->{x // x∈xs}->Bool:=λa b=>leC cmp a.1 b.1
 have hs:=List.pairwise_mergeSort (le:=e) (λa b c h1 h2=>by
  simp only [e,leC,qbh,decide_eq_false_iff_not] at h1 h2 ⊢;exact h.MZ a.2 b.2 c.2 h1 h2) (λa b=>by
  simp only [e,leC,qc3,qbh,decide_eq_false_iff_not];by_cases hb:cmp b.1 a.1<0
  ·exact .inr (h.asymm b.2 a.2 hb)
  ·exact .inl hb) xs.attach
 have hm:oH cmp xs=(xs.attach.mergeSort e).map (·.1):=by
  unfold oH;have:=List.map_mergeSort (f:=λa:{x // x∈xs}=>a.1) (r:=e) (s:=leC cmp) (l:=xs.attach) (λa _ b _=>rfl);rw [this,List.attach_map_subtype_val]
 rw [hm,List.pairwise_map];refine hs.imp fun {a b} nW=> ?_;simpa [e,leC] using nW
theorem K6{α:Type}{cmp:α->α->Int}{xs r:List α}(h:Lc cmp xs)(hp:r.Perm xs)(hr:r.Pairwise (λx y=> ¬cmp y x<0)):r=oH cmp xs:=by
 have hps:(oH cmp xs).Perm xs:=List.mergeSort_perm _ _;have hm: ∀x,x∈oH cmp xs->x∈xs:=λx hx=>hps.mem_iff.1 hx;exact M0 ⟨λa ha=>h.irrefl a (hm a ha),λa ha b hb c hc=>h.trans a (hm a ha) b (hm b hb) c (hm c hc),λa ha b hb=>h.RU a (hm a ha) b (hm b hb)⟩ (hp.trans hps.symm) hr (EZ h)
open Classical in
noncomputable def M.IE{α:Type}(cmp:α->α->Option Int)(xs:List α):Option (List α):=
 if xs.length<=1000000/\(∀x∈xs, ∀y∈xs, ∃r,cmp x y=some r)/\Lc (λx y=>(cmp x y).getD 0) xs then some (oH (λx y=>(cmp x y).getD 0) xs) else none
theorem K7{α:Type}{cmp:α->α->Option Int}{xs r:List α}(h:M.IE cmp xs=some r):xs.length<=1000000/\(∀x∈xs, ∀y∈xs, ∃r,cmp x y=some r)/\Lc (λx y=>(cmp x y).getD 0) xs/\r=oH (λx y=>(cmp x y).getD 0) xs:=by
 unfold M.IE at h;split at h
 ·rename_i hc;exact ⟨hc.1,hc.2.1,hc.2.2,(qai h).symm⟩
 ·cases h
theorem IF{α:Type}{cmp:α->α->Option Int}{lt:α->α->Bool}{xs:List α}(hn:xs.length<=1000000)(hc: ∀x∈xs, ∀y∈xs, ∃r,cmp x y=some r/\decide (r<0)=lt x y)
  (hi: ∀x∈xs,lt x x=false) (ht: ∀x∈xs, ∀y∈xs, ∀z∈xs,lt x y=true->lt y z=true->lt x z=true) (ha: ∀x∈xs, ∀y∈xs,x≠y->lt x y=true\/lt y x=true):
  ∃r,M.IE cmp xs=some r/\r.Perm xs/\r.Pairwise (λx y=>lt y x=false):=by
 have hv: ∀x∈xs, ∀y∈xs,(cmp x y).getD 0<0↔lt x y=true:=by
  intro x hx y hy;obtain ⟨r,h1,h2⟩:=hc x hx y hy;rw [h1, ←h2];simp
 have hL:Lc (λx y=>(cmp x y).getD 0) xs:=by
  refine ⟨λx hx h=> ?_,λx hx y hy z hz h1 h2=> ?_,λx hx y hy h1 h2=> ?_⟩
  ·rw [hv x hx x hx,hi x hx] at h;cases h
  ·exact (hv x hx z hz).2 (ht x hx y hy z hz ((hv x hx y hy).1 h1) ((hv y hy z hz).1 h2))
  ·refine qa9 λjF=> ?_;rcases ha x hx y hy jF with h | h
   ·exact h1 ((hv x hx y hy).2 h)
   ·exact h2 ((hv y hy x hx).2 h)
 have hp:(oH (λx y=>(cmp x y).getD 0) xs).Perm xs:=List.mergeSort_perm _ _;have M3: ∀x∈xs, ∀y∈xs, ∃r,cmp x y=some r:=λx hx y hy=>by
  obtain ⟨r,h1,_⟩:=hc x hx y hy;exact ⟨r,h1⟩
 refine ⟨_,by unfold M.IE;rw [if_pos ⟨hn,M3,hL⟩],hp, ?_⟩
 ·have hs:=EZ hL;rw [qas] at hs ⊢;intro i j h1 h2 qk;have hx:=hp.mem_iff.1 (qad h1);have hy:=hp.mem_iff.1 (qad h2);have:=hs i j h1 h2 qk;rw [hv _ hy _ hx] at this;simpa using this
end Go.Vs
namespace Go.Vs
open Go
section
variable{P:Program}{H:Array Obj}{n:Nat}{ρ:Nat->Value}{dst:Option Nat}{ty T T' E:TypeId}{pos:String}{af:Array Edge}{gd:Option (Nat×Bool)}{x c:Operand}{v u:Value}{D:TypeDesc}{f:FuncId}{w:World}{xs:Array Operand}{Ts:Array TypeId}{args:List Value}{name:String}{b o:Nat}
theorem iy(hT:P.underlying T=some D)(hD:(match D with | .interface _=>false | _=>true)=true)(hx:ev n ρ x=v):dX P H n ρ ⟨dst, .makeInterface T x,ty,pos,af,gd⟩ (.iface T v):=λw _=>by
 cases D <;> simp_all [execOp,Instr.makeInterface,underlying]
theorem D1(hT:P.underlying T'=some D)(hD:(match D with | .interface _=>false | _=>true)=true)(hx:ev n ρ x= .iface T' v):dX P H n ρ ⟨dst, .typeAssert x T T' false,ty,pos,af,gd⟩ v:=λw _=>by
 cases D <;> simp_all [execOp,Instr.typeAssert,underlying]
theorem rq{cs:Array Operand}{vs:List Value}(hx:cs.toList.map (ev n ρ)=vs):dX P H n ρ ⟨dst, .makeFunc (.func f) #[] cs,ty,pos,af,gd⟩ (.func (.func f) #[] vs.toArray):=λw _=>by
 have:cs.map (ev n ρ)=vs.toArray:=by rw [←hx, ←Array.toList_map]
 simp [execOp,Instr.makeFunc,this]
def RX(P:Program)(T:TypeId)(name:String):Option (Array FieldStep×Option (FuncId×Bool)):=(P.info? T).bind λi=>(i.methods.find? (·.name==name)).map λm=>(m.path,m.func)
theorem K8{fuel:Nat}{pr:Bool}{r:Value}(hm:RX P T name=some (#[],some (f,pr)))(hr:(receiverAt T (.val v) pr (some ((name.splitOn ".").getLastD name))).run P w= .ok r w):(method (fuel+1) T v name).run P w= .ok (f,r) w:=by
 unfold RX at hm;cases hi:P.info? T with
 | none=>rw [hi] at hm;cases hm
 | some i=>
  rw [hi] at hm;simp only [qa0] at hm;cases hf:i.methods.find? (·.name==name) with
  | none=>rw [hf] at hm;cases hm
  | some m=>
   rw [hf] at hm;simp only [qac,qah,Prod.mk.injEq] at hm;obtain ⟨h1,h2⟩:=hm;have e1:(typeInfo T).run P w= .ok i w:=by simp [typeInfo,hi]
   have e2:m.path.toList=[]:=by rw [h1]
   have e3:m.path.isEmpty=true:=by rw [h1];rfl
   simp only [method,Sem.run_bind,e1,Result.andThen_ok,hf,e2,follow,Sem.run_pure,h2,e3,if_true,hr]
theorem IG{r:Value}{pr:Bool}(hf: ∃fn c,P.funcs[f]? =some fn/\(fn.name== "runtime.NumGoroutine")=false/\fn.body=some c)(hm:RX P T name=some (#[],some (f,pr)))(hc:ev n ρ c= .iface T v)(hr:(receiverAt T (.val v) pr (some ((name.splitOn ".").getLastD name))).run P w= .ok r w)
  (hx:r::xs.toList.map (ev n ρ)=args):Enters P n ρ ⟨dst, .call ⟨.invoke c name,xs,Ts⟩,ty,pos,af,gd⟩ f args w:=by
 obtain ⟨fn,cd,h1,h2,h3⟩:=hf;have yc: #[r]++xs.map (ev n ρ)=args.toArray:=by
  rw [←hx];apply qcn;simp
 have hdp:Made.depth=100:=rfl;have hd: ∃k,P.types.size+Made.depth=k+1:=⟨P.types.size+99,by omega⟩;obtain ⟨k,hk⟩:=hd;have hmm:=K8 (P:=P) (w:=w) (fuel:=k) hm hr;have e0:(#[Value.iface T v]++xs.map (ev n ρ))[0]? =some (.iface T v):=by
  rw [qbx (by simp)];rfl
 have e1:(#[Value.iface T v]++xs.map (ev n ρ)).extract 1 (#[Value.iface T v]++xs.map (ev n ρ)).size=xs.map (ev n ρ):=by
  apply qcn;rw [Array.toList_extract,List.extract_eq_drop_take'];simp only [Array.size_append,Array.size_map,Array.toList_append,Array.toList_map,qbn,qb2,List.length_nil,qbr,qba,List.drop_one];rw [qby (by simp;omega)];rfl
 simp only [Enters,execOp,resolve,hc,Sem.run_bind,Sem.run_pure,Result.andThen_ok,invoke,e0,e1,callMethod,run_program,hk,hmm,callFunc,yc,h1,h2,h3];simp
theorem RY(hf: ∃fn c,P.funcs[f]? =some fn/\(fn.name== "runtime.NumGoroutine")=false/\fn.body=some c)(hm:RX P T name=some (#[],some (f,true)))(hT:P.underlying T=some (.pointer E))(hc:ev n ρ c= .iface T v)
  (hx:v::xs.toList.map (ev n ρ)=args):Enters P n ρ ⟨dst, .call ⟨.invoke c name,xs,Ts⟩,ty,pos,af,gd⟩ f args w:=
 IG hf hm hc (by simp only [receiverAt,underlying,Sem.run_bind,run_program,Result.andThen_ok,hT,Sem.run_pure,Place.get]) hx
theorem vd(hf: ∃fn c,P.funcs[f]? =some fn/\(fn.name== "runtime.NumGoroutine")=false/\fn.body=some c)(hm:RX P T name=some (#[],some (f,false)))(hT:P.underlying T=some (.pointer E))(hE:P.underlying E=some D)(hD:(match D with | .struct _=>false | .array _ _=>false | _=>true)=true)
  (hc:ev n ρ c= .iface T (pt b o)) (hl:jI w.heap b o=some u) (hx:u::xs.toList.map (ev n ρ)=args):Enters P n ρ ⟨dst, .call ⟨.invoke c name,xs,Ts⟩,ty,pos,af,gd⟩ f args w:=by
 have xJ:(isAgg E).run P w= .ok false w:=by
  simp only [isAgg,underlying,Sem.run_bind,run_program,Result.andThen_ok,hE,Sem.run_pure];cases D <;> simp_all
 rw [iU] at hl;have agn: ∀s,(Builtin.ssaWrapNilChk_ #[T] T #[pt b o,strVal "",strVal s]).run P w= .ok (pt b o) w:=λ_=>rfl;refine IG hf hm hc ?_ hx;simp [receiverAt,underlying,hT,Place.get,agn,asAddr,loadVar,xJ,load,Sem.run,hl]
end
end Go.Vs
namespace Go.Vs
open Go
def wk(k:IntKind)(n:Int):Int:=k.wrap n
def rJ(k:IntKind)(x n:Int):Int:=x.fdiv (2^(min n.toNat k.bits))
section
variable{P:Program}{H:Array Obj}{n:Nat}{ρ:Nat->Value}{dst:Option Nat}{ty T T':TypeId}{pos:String}{af:Array Edge}{gd:Option (Nat×Bool)}{x y:Operand}{a b q:Int}{k k':IntKind}
theorem Wi(hx:ev n ρ x= .int k a)(hy:ev n ρ y= .int k' b)(hb: ¬b<0):dX P H n ρ ⟨dst, .binOp .shr T x y T',ty,pos,af,gd⟩ (.int k (rJ k a b)):=λw _=>by
 simp [execOp,hx,hy,eqGuard,binOp,Op.shift,rJ,hb]
theorem IH(hT:P.underlying T=some (.int k))(pW:P.underlying T'=some (.int k'))(hx:ev n ρ x= .int k a):dX P H n ρ ⟨dst, .convert T T' x,ty,pos,af,gd⟩ (.int k' (wk k' a)):=λw _=>by
 simp [execOp,hx,convert,underlying,hT,pW,Conv.intToInt,wk]
theorem OH{α:Type}{k:Int}{z0:α}{xs:List α}(h:AE k z0=some xs):xs.length=k.toNat:=by
 unfold AE at h;split at h
 ·cases h;exact List.length_replicate
 ·cases h
theorem RZ{E:TypeId}{m c c':Nat}{ad:Option Addr}(hT:P.underlying T=some (.slice E))(hx:ev n ρ x= .slice ad m c)(hc:c=c'):dX P H n ρ ⟨dst, .call ⟨.builtin .cap, #[x], #[T]⟩,ty,pos,af,gd⟩ (I c'):=λw _=>by
 subst hc;simp [execOp,resolve,invoke,builtin,Builtin.cap_,hx,underlying,hT,goInt]
theorem Wj{E:TypeId}{m:Nat}{ad:Option Addr}{c:Nat}(hT:P.underlying T=some (.slice E))(hx:ev n ρ x= .slice ad m c)(hy:ev n ρ y= .slice none 0 0):dX P H n ρ ⟨dst, .binOp .eql T x y T',ty,pos,af,gd⟩ (B ad.isNone):=λw _=>by
 have h: ∀a:Option Addr,(Op.equal T (.slice a m c) (.slice none 0 0)).run P w= .ok a.isNone w:=by
  intro a;show (Op.equalIn (9999+1) T _ _).run P w=_;rw [Op.equalIn];cases a <;> simp only [underlying,Sem.run_bind,run_program,Result.andThen_ok,hT,Sem.run_pure,Option.isNone]
 simp [execOp,hx,hy,eqGuard,binOp,h]
theorem II{t j:Nat}{xs:Array Value}{u:Value}(ht:P.underlying t=some (.int .i64))(w:World)(h:xs[j]? =some u):(part t xs j).run P w= .ok u w:=by
 have xJ:(isAgg t).run P w= .ok false w:=by
  simp only [isAgg,underlying,Sem.run_bind,run_program,Result.andThen_ok,ht,Sem.run_pure]
 simp [part,xJ,h]
def IJ(P:Program):Nat->List Field->Prop
 | _,[]=>True
 | j,f::fs=>f.offset=j/\(f.name≠ "_")/\P.underlying f.type=some (.int .i64)/\IJ P (j+1) fs
theorem xh{d:Nat}(w:World): ∀(fs:List Field) (j:Nat) (xs ys:List Int),xs.length=ys.length->j+fs.length=xs.length->IJ P j fs->
  (Op.eqFields (d+1) (xs.map I).toArray (ys.map I).toArray fs).run P w= .ok (xs.drop j==ys.drop j) w
 | [],j,xs,ys,hl,hj,_=>by
  have e1:xs.drop j=[]:=List.drop_eq_nil_of_le (by simp at hj;omega);have e2:ys.drop j=[]:=List.drop_eq_nil_of_le (by simp at hj;omega);rw [e1,e2];rfl
 | f::fs,j,xs,ys,hl,hj,⟨h1,h2,h3,h5⟩=>by
  simp only [qb2] at hj;have ih:=xh (d:=d) w fs (j+1) xs ys hl (by omega) h5;have hjx:j<xs.length:=by omega
  have hjy:j<ys.length:=by omega
  have p1:=II (P:=P) h3 (xs:=(xs.map I).toArray) (u:=I xs[j]) (j:=f.offset) w (by simp [h1,hjx]);have p2:=II (P:=P) h3 (xs:=(ys.map I).toArray) (u:=I ys[j]) (j:=f.offset) w (by simp [h1,hjy]);have p3:(Op.equalIn (d+1) f.type (I xs[j]) (I ys[j])).run P w= .ok (xs[j]==ys[j]) w:=by
   rw [Op.equalIn];simp only [underlying,Sem.run_bind,run_program,Result.andThen_ok,h3,Sem.run_pure,if_true]
  rw [qbc hjx,qbc hjy,List.cons_beq_cons];simp only [Op.eqFields,ne_eq,h2,not_false_eq_true,if_true,Sem.run_bind,p1,p2,p3,Result.andThen_ok];cases hb:xs[j]==ys[j] with
  | true=>simp only [qae,qa6,if_false,ih,qbo]
  | false=>simp only [qcl,if_true,Bool.false_and];rfl
theorem af2{xs ys:List Int}(hT:P.underlying T=some (.struct (P.fieldsOf T)))(hg:P.eqGuardType P.depth T=false)(hp:P.stoodInHeld T=false)(hl:xs.length=ys.length)(hj:(P.fieldsOf T).toList.length=xs.length)(hf:IJ P 0 (P.fieldsOf T).toList)
  (hx:ev n ρ x= .agg (xs.map I).toArray) (hy:ev n ρ y= .agg (ys.map I).toArray):dX P H n ρ ⟨dst, .binOp .eql T x y T',ty,pos,af,gd⟩ (B (xs==ys)):=λw _=>by
 have e:=xh (P:=P) (d:=9998) w (P.fieldsOf T).toList 0 xs ys hl (by omega) hf;simp only [execOp,hx,hy,Sem.run_bind,run_eqGuard_agg w _ _ _ _ _ _ hg,Result.andThen_ok,run_eql_struct,show (10000:Nat)=9999+1 from rfl,run_equalIn_agg w 9999 T _ _ hT hp,show (9999:Nat)=9998+1 from rfl,e,qcc,Sem.run_pure]
theorem Wl{xs ys:List Int}(hT:P.underlying T=some (.struct (P.fieldsOf T)))(hg:P.eqGuardType P.depth T=false)(hp:P.stoodInHeld T=false)(hl:xs.length=ys.length)(hj:(P.fieldsOf T).toList.length=xs.length)(hf:IJ P 0 (P.fieldsOf T).toList)
  (hx:ev n ρ x= .agg (xs.map I).toArray) (hy:ev n ρ y= .agg (ys.map I).toArray):dX P H n ρ ⟨dst, .binOp .neq T x y T',ty,pos,af,gd⟩ (B (!(xs==ys))):=λw _=>by
 have e:=xh (P:=P) (d:=9998) w (P.fieldsOf T).toList 0 xs ys hl (by omega) hf;simp only [execOp,hx,hy,Sem.run_bind,run_eqGuard_agg w _ _ _ _ _ _ hg,Result.andThen_ok,run_neq_struct,show (10000:Nat)=9999+1 from rfl,run_equalIn_agg w 9999 T _ _ hT hp,show (9999:Nat)=9998+1 from rfl,e,qcc,Sem.run_pure]
end
section
variable{S0:BS}{aq σ:St}{L:List Ch}{lo b o i:Nat}{pre u7:List Value}
theorem RS.ac0{α:Type}[Rp α]{el:Nat}{ad:Option Addr}{c:Nat}{xs:List α}(hn:ad.isNone=true)(h:RS el σ (Sl ad xs c) xs):xs=[]:=by
 rcases h with ⟨_,h⟩ | ⟨b,o,c,hv,_⟩
 ·exact h
 ·cases hv;cases hn
theorem K9(xs:List Int): ∀u∈List.map I xs,plain u=true:=by
 intro u hu;obtain ⟨x,_,rfl⟩:=qc5.1 hu
 rfl
theorem R1(xs:List Int)(k:Nat)(v:Int):F9 (xs.map I) (k*1) [I v]=(xs.set k v).map I:=by
 have:=V4 xs k v;rw [qc4] at this;exact this
theorem Hp.BI{xs:List Int}{a x:Int}(H:Hp S0 aq σ L)(i:Nat)(h:nth L i=some (Ch.bx lo b o (xs.map I) pre u7))(hx:bu xs a=some x):jI σ.w.heap b (o+a.toNat*1)=some (I x):=by
 obtain ⟨h0,h1,h2⟩:=lH hx;rw [Nat.mul_one];exact RF (H.bx i h) (by simp [h1,h2])
end
end Go.Vs
namespace Go.Vs
open Go
def E0{α:Type}(xs:List α)(k:Int)(z:α):Option (List α):=if 0<=k/\xs.length+k.toNat<=2147483648 then some (xs++List.replicate k.toNat z) else none
theorem La{α:Type}{xs r:List α}{k:Int}{z:α}(h:E0 xs k z=some r):0<=k/\xs.length+k.toNat<=2147483648/\r=xs++List.replicate k.toNat z:=by
 unfold E0 at h;split at h
 ·rename_i hc;exact ⟨hc.1,hc.2,(qai h).symm⟩
 ·cases h
def zG(l h m:Int)(n:Nat):Option Unit:=if 0<=l/\l<=h/\h<=m/\m<=(n:Int) then some () else none
theorem AF{l h m:Int}{n:Nat}{u:Unit}(hg:zG l h m n=some u):0<=l/\l<=h/\h<=m/\m<=(n:Int):=by
 unfold zG at hg;split at hg
 ·assumption
 ·cases hg
section
variable{P:Program}{n:Nat}{ρ:Nat->Value}{aq σ:St}{S0:BS}{L R:List Ch}{u v:Value}{T T' E E' ty:TypeId}{pos:String}{af:Array Edge}{gd:Option (Nat×Bool)}{dst:Option Nat}{x y q:Operand}{a l h k m:Int}{lo el bt s c c':Nat}{z:Value}
variable{α:Type}[Rp α]{xs ys p r:List α}{ad oC:Option Addr}{H:Array Obj}
theorem Ow.view(hO:Ow σ lo el (Sl ad xs c) xs)(hg:eI xs l h=some p)(hs:UU ad xs.length c (Rp.sz α) l h oC p.length c'):Ow σ lo el (Sl oC p c') p/\ ∀b,blk (Sl oC p c')=some b->blk (Sl ad xs c)=some b:=by
 obtain ⟨ad2,c2,hs2,h1,h2⟩:=hO.slice hg;have e1:oC=ad2:=hs.ea.trans hs2.ea.symm;have e2:c'=c2:=hs.ec.trans hs2.ec.symm;subst e1 e2;exact ⟨h1,h2⟩
theorem Wm{i:Nat}(H:Hp S0 aq σ L)(MW:pick L i=some (Ch.own lo el (Sl ad xs c) xs,R))(hT:P.underlying T=some (.slice E))(pW:P.underlying T'=some (.slice E'))(hi:TI P E z s bt)(hs:s=Rp.sz α)(AU:z.cells.size=s)(Ru:bt<=1024)
  (hg:eI xs l h=some p) (hv:UU ad xs.length c (Rp.sz α) l h oC p.length c') (hS:Rd el σ u ys) (hr:nP p ys=some r) (qW:lo<=aq.size) (hx:ev n ρ x=Sl oC p c') (hy:ev n ρ y=u):
  Ex P σ n ρ ⟨dst, .call ⟨.builtin .append, #[x,y], #[T,T']⟩,ty,pos,af,gd⟩ λv' σ'=> ∃a2 c2,v'=Sl a2 r c2/\Hp S0 aq σ' (Ch.own lo el (Sl a2 r c2) r::R)/\Md (λb=>blk (Sl ad xs c)=some b) σ σ'/\(p.length+ys.length<=c'->c2=c'):=by
 obtain ⟨hlen,rfl⟩:=zy hr;obtain ⟨hO,hb⟩:=((H.front MW).head:Ow σ lo el (Sl ad xs c) xs).view hg hv;obtain ⟨a2,c2,σ',h1,h2,h3,h4,h5⟩:=Cp (ty:=ty) hT pW hi hs AU Ru hO hS hlen (qaa qW H.size);have hm:Md (λb=>blk (Sl ad xs c)=some b) σ σ':=h2.md.mono (λb fS=>hb b fS);refine ⟨_,σ', ?_,a2,c2,rfl,Hp.zz (A':=[Ch.own lo el (Sl a2 (p++ys) c2) (p++ys)]) (H.front MW) (Hp.one (hm.mono λb hb=> .inl hb) h3 (λb fS bG=> ?_)),hm,λhf=>h5 _ _ _ rfl hf⟩
 ·simp only [zx,execOp,resolve,qb8,qaz,qbm,hx,hy,Sem.run_bind,Sem.run_pure,Result.andThen_ok,invoke,builtin,h1]
 ·rcases h4 with h4 | h4
  ·exact .inl (hb b (h4▸fS))
  ·exact absurd bG (qcm.2 (h4 b fS))
theorem Wn{i:Nat}{z0:α}{zs:List Value}(H:Hp S0 aq σ L)(MW:nth L i=some (Ch.own lo el (Sl ad xs c) xs))(hT:P.underlying T=some (.slice E))(pW:P.underlying T'=some (.int .i64))(hi:TI P E z s bt)(hs:s=Rp.sz α)(hzc:z.cells=zs.toArray)(hz:Rp.rp el σ zs z0)(Ru:bt<=1024)
  (ht:c=xs.length) (hg:eI xs 0 h=some p) (hv:UU ad xs.length c (Rp.sz α) 0 h oC p.length c') (hr:E0 p k z0=some r) (AV:(xs.length:Int)<p.length+k) {qd:Nat} (qW:qd<=aq.size) (hx:ev n ρ x=Sl oC p c') (hy:ev n ρ y=I k):
  Ex P σ n ρ ⟨dst, .call ⟨.builtin .append, #[x,y], #[T,T']⟩,ty,pos,af,gd⟩ λv' σ'=> ∃b c2,v'=Sl (some ⟨b,0,none⟩) r c2/\Hp S0 aq σ' (Ch.own qd el (Sl (some ⟨b,0,none⟩) r c2) r::L)/\Md (dx []) σ σ':=by
 obtain ⟨Lb,hlen,rfl⟩:=La hr;obtain ⟨kn,rfl⟩:=qb0 Lb;simp only [qb1] at hlen ⊢;obtain ⟨hO,_⟩:=(H.get MW:Ow σ lo el (Sl ad xs c) xs).view hg hv;obtain ⟨i0,vR,BD,P4,hi4⟩:=hi.it;have hTI:=hi;subst hs;obtain ⟨K,u6,Rv,hK3⟩:=hO.rd.row;have hcp:c'=xs.length:=by rw [hv.ec,ht];simp
 have wu: ¬p.length+kn<=c':=by omega
 have hzl:zs.length=Rp.sz α:=Rp.len hz;have hn:=nextslicecap_le (need:=p.length+kn) (c:=c') (by omega);have K2: ¬Builtin.nextslicecap (p.length+kn) c'*bt>2^48:=by
  have h1:Builtin.nextslicecap (p.length+kn) c'*bt<=(2*(p.length+kn)+300)*1024:=Nat.mul_le_mul hn Ru;have h2:(2:Nat)^48=281474976710656:=by decide
  omega
 have R2: ¬(kn:Int)*(bt:Int)>2^48:=by
  have h1:kn*bt<=2147483648*1024:=Nat.mul_le_mul (by omega) Ru;have h2:(2:Int)^48=281474976710656:=by decide
  rw [h2, ←Int.natCast_mul];omega
 have acM: ¬(((p.length+kn:Nat):Int)>IntKind.i64.max):=by
  have:IntKind.i64.max=9223372036854775807:=by decide
  omega
 have Yy:IntKind.i64.wrap (kn:Int)=kn:=aV (by omega) (by omega)
 let q:Question:= .appendCap (p.length+kn) c' E
 let qj:=q.cut (σ.w.tape σ.w.drawn q)
 have YM:p.length+kn<=qj:=by
  show _<=Question.cut (.appendCap (p.length+kn) c' E) _;simp only [Question.cut];omega
 let Z:=Builtin.zeroCells z.cells (qj - (p.length+kn))
 let W:=Builtin.zeroCells z.cells kn
 have hZ:Z.size=(qj - (p.length+kn))*z.cells.size:=by show (Builtin.zeroCells _ _).size=_;simp [Builtin.zeroCells]
 have hW:W.size=kn*z.cells.size:=by show (Builtin.zeroCells _ _).size=_;simp [Builtin.zeroCells]
 have AU:z.cells.size=Rp.sz α:=by rw [hzc];simpa using hzl
 let Rl:List Value:=K++W.toList++Z.toList
 let w1:World:={ σ.w with drawn:=σ.w.drawn+1 }
 have hR:(K.toArray++W++Z)=Rl.toArray:=by
  apply qcn;simp [Rl]
 have hf1:=k8 (P:=P) (σ:=σ) (v:=Sl oC p c') u6 hK3 w1 rfl;have AB:(askRoom (qj*bt)).run P w1= .ok () w1:=by
  unfold askRoom;split <;> rfl
 have FM:(choose (.appendCap (p.length+kn) c' E)).run P σ.w= .ok qj w1:=by
  simp [choose,Sem.run,Question.forced,qj,q,w1]
 have P5:(typeInfo E).run P=λw=> .ok i0 w:=by
  funext w;simp [typeInfo,vR]
 obtain ⟨_,g1,g2,_,g3⟩:=jJ hg;have u0:0<kn:=by omega
 have hnz: ¬kn*Rp.sz α=0:=by
  have:=Rp.pos (α:=α);have:0<kn*Rp.sz α:=Nat.mul_pos u0 this;omega
 have bU:(Builtin.append_ #[T,T'] ty #[Sl oC p c',I (kn:Int)]).run P σ.w= .ok (Sl (some ⟨σ.size,0,none⟩) (p++List.replicate kn z0) qj) (σ.new (.cells Rl.toArray E (0,0)) 1).w:=by
  simp only [Builtin.append_,qaq,qbb,List.getElem?_cons_succ,underlying,hT,pW,Sem.run_bind,run_program,Result.andThen_ok,Sem.run_pure,run_typeInfo hTI,asInt,asIntOf,Yy,P5,hi4,
   wu,if_true,qae,qa6,if_false,show¬((kn:Int)<0) by omega,R2,qb1,acM,false_and,K2,FM,AB,hf1,hnz,oE hTI,Sl,qat,List.length_replicate]
  rw [show (K.toArray++Builtin.zeroCells z.cells kn++Builtin.zeroCells z.cells (qj - (p.length+kn)))=Rl.toArray from hR]
  rfl
 have YO:=σ.tE (.cells Rl.toArray E (0,0)) 1;have hE:=(σ.mD (.cells Rl.toArray E (0,0)) 1).ext;have hOw:Ow (σ.new (.cells Rl.toArray E (0,0)) 1) σ.size el (Sl (some ⟨σ.size,0,none⟩) (p++List.replicate kn z0) qj) (p++List.replicate kn z0):=by
  refine .inr ⟨σ.size,0,qj,Rl.toArray,E,rfl,qa2 _,YO,by simp;omega, ?_,σ.tF _ 1,λi hi=> ?_⟩
  ·simp only [Rl,qbn,qat,u6,qce,hZ,hW,AU,qc4];rw [←Nat.add_mul, ←Nat.add_mul];exact qaj _ (by omega)
  ·by_cases Oz:i<p.length
   ·rw [qb7 Oz];obtain ⟨cs,Gc,UR⟩:=Rv i Oz;refine At.tH YO (Rp.ext hE Gc) (λj hj=> ?_);have e2:=UR j hj;have bG:=List.F5 e2;simp only [Rl,qc4,qaq,List.append_assoc];rw [qbj bG,e2]
   ·rw [qbk (by omega),List.getElem_replicate];simp only [qat,List.length_replicate] at hi;refine At.tH YO (Rp.ext hE hz) (λj hj=> ?_);have e3:i*Rp.sz α+j=K.length+((i - p.length)*Rp.sz α+j):=by
     have:i*Rp.sz α=p.length*Rp.sz α+(i - p.length)*Rp.sz α:=by rw [←Nat.add_mul];congr 1;omega
     omega
    have bG:(i - p.length)*Rp.sz α+j<W.toList.length:=by
     have hWl:W.toList.length=kn*Rp.sz α:=by rw [qce,hW,AU]
     rw [hWl];have:(i - p.length+1)*Rp.sz α<=kn*Rp.sz α:=qaj _ (by omega);rw [Nat.add_mul] at this;omega
    simp only [Rl,qc4,qaq,List.append_assoc];rw [e3,qbw (by omega),Nat.add_sub_cancel_left,qbj bG,Array.getElem?_toList];have:=EN (zc:=z.cells) (m:=kn) (i:=i - p.length) (j:=j) (by omega) (by rw [AU];omega);rw [AU] at this;show (Builtin.zeroCells z.cells kn)[_]? =_;rw [Builtin.zeroCells,AU,this,hzc];simp
 refine ⟨_,σ.new (.cells Rl.toArray E (0,0)) 1, ?_,σ.size,qj,rfl,Gi H qW (σ.mD _ 1) hOw,(σ.mD _ 1).md0⟩;simp only [zx,execOp,resolve,qb8,qaz,qbm,hx,hy,Sem.run_bind,Sem.run_pure,Result.andThen_ok,invoke,builtin,bU]
theorem R3{n pl:Nat}{k:Int}(hp:(pl:Int)=n)(hb:decide (0<k)=true):(n:Int)<pl+k:=by
 have h2:0<k:=of_decide_eq_true hb;omega
theorem OI(hT:P.underlying T=some (.slice E))(hi:TI P E z s bt){n3:Nat}{o3:Unit}(hg:zG l h m n3=some o3)(hc:n3<=c){q1 q2 q3:Operand}(hx:ev n ρ x= .slice ad n3 c)(h1:ev n ρ q1=I l)(h2:ev n ρ q2=I h)(h3:ev n ρ q3=I m):
  dX P H n ρ ⟨dst, .slice T x (some q1) (some q2) (some q3),ty,pos,af,gd⟩ (.slice (if m.toNat=l.toNat then ad else ad.map (·.add (l.toNat*s))) (h.toNat - l.toNat) (m.toNat - l.toNat)):=λw _=>by
 obtain ⟨g0,g1,g2,g3⟩:=AF hg;have g4:m<=(c:Int):=by omega
 have e1:(h.toNat:Int)=h:=Int.toNat_of_nonneg (by omega);have e2:(m.toNat:Int)=m:=Int.toNat_of_nonneg (by omega);simp [execOp,hx,h1,h2,h3,Instr.sliceAt,Instr.slice,underlying,hT,Instr.sliceBounds,Instr.sliceBound,asIntOf,g0,g1,g2,g4,show 0<=h by omega,show 0<=m by omega,e1,e2,run_typeInfo hi]
theorem OJ(hT:P.underlying T=some (.slice E))(hi:TI P E z s bt){m0 k0:Nat}(h1:m0<=k0)(h2:k0<=c){q1 q2:Operand}(hx:ev n ρ x= .slice ad m0 c)(hp:ev n ρ q1=I m0)(hq:ev n ρ q2=I k0):
  dX P H n ρ ⟨dst, .slice T x (some q1) (some q2) none,ty,pos,af,gd⟩ (.slice (if c=m0 then ad else ad.map (·.add (m0*s))) (k0 - m0) (c - m0)):=λw _=>by
 simp [execOp,hx,hp,hq,Instr.sliceAt,Instr.slice,underlying,hT,Instr.sliceBounds,Instr.sliceBound,asIntOf,h1,h2,run_typeInfo hi]
theorem OK{i k0:Nat}(H:Hp S0 aq σ L)(MW:pick L i=some (Ch.own lo el (Sl ad xs c) xs,R))(hT:P.underlying T=some (.slice E))(hi:TI P E z s bt)(hs:s=Rp.sz α)(AU:z.cells.size=s)(hzp: ∀t∈z.cells.toList,plain t=true)(h1:xs.length<=k0)(h2:k0<=c)
  (hx:ev n ρ x= .slice (if c=xs.length then ad else ad.map (·.add (xs.length*s))) (k0 - xs.length) (c - xs.length)):
  Ex P σ n ρ ⟨dst, .call ⟨.builtin .clear, #[x], #[T]⟩,ty,pos,af,gd⟩ λv' σ'=>v'= .tuple #[]/\Hp S0 aq σ' (Ch.own lo el (Sl ad xs c) xs::R)/\Md (λb=>blk (Sl ad xs c)=some b) σ σ':=by
 subst hs;have hO:Ow σ lo el (Sl ad xs c) xs:=(H.front MW).head;by_cases hz:k0=xs.length
 ·subst hz;refine ⟨_,σ, ?_,rfl,H.front MW,Md.refl _ _⟩;simp only [zx,execOp,resolve,qb8,qaz,qbm,hx,Sem.run_bind,Sem.run_pure,Result.andThen_ok,invoke,builtin,Builtin.clear_,qaq,qbb,underlying,hT,run_program,Nat.sub_self];generalize (if c=xs.length then ad else ad.map (·.add (xs.length*Rp.sz α)))=a;cases a <;> rfl
 ·rcases hO with ⟨hn,hxs⟩ | ⟨b,o,c0,C,T0,hv0,g2,g3,g4,g5,g6,g7⟩
  ·simp only [Sl,Value.slice.injEq] at hn;omega
  ·cases hv0
   let K:=(Builtin.zeroCells z.cells (k0 - xs.length)).toList
   have hK:K.length=(k0 - xs.length)*Rp.sz α:=by
    show (Builtin.zeroCells z.cells (k0 - xs.length)).toList.length=_;rw [qce];simp [Builtin.zeroCells,AU]
   have hKp: ∀t∈K,plain t=true:=by
    intro t ht;simp only [K,Builtin.zeroCells,Array.toList_map,Array.toList_range,qc5,qav] at ht;obtain ⟨j,hj,rfl⟩:=ht;have:0<z.cells.size:=by rw [AU];exact Rp.pos
    rw [getElem!_pos z.cells _ (Nat.mod_lt _ this)];exact hzp _ (by simp)
   have Im:o+xs.length*Rp.sz α+K.length<=C.size:=by
    have:k0*Rp.sz α<=c*Rp.sz α:=qaj _ h2;rw [hK];have e:xs.length*Rp.sz α+(k0 - xs.length)*Rp.sz α=k0*Rp.sz α:=by rw [←Nat.add_mul];congr 1;omega
    omega
   have fu:=iD (P:=P) b (o+xs.length*Rp.sz α) T0 K 0 σ.w C g3 (by simpa using Im) hKp;simp only [qcj] at fu;have m:Mod (blk (Sl (some ⟨b,o,none⟩) xs c)) σ (σ.put b (.cells (wr C (o+xs.length*Rp.sz α) K) T0 (0,0))):=St.vQ g6;refine ⟨_,σ.put b (.cells (wr C (o+xs.length*Rp.sz α) K) T0 (0,0)), ?_,rfl,zD H MW m (.inr ⟨b,o,c,_,T0,rfl,g2,World.tG _ (lt_of_block g3),g4,by rw [F6];exact g5,g6,λi hi=> ?_⟩) (.inl rfl),m.md⟩
   ·rw [if_neg (by omega)] at hx;obtain ⟨kk,hkk⟩: ∃kk,k0 - xs.length=kk+1:=⟨k0 - xs.length - 1,by omega⟩;simp only [qac,add_plain,hkk] at hx;simp only [zx,execOp,resolve,qb8,qaz,qbm,hx,Sem.run_bind,Sem.run_pure,Result.andThen_ok,invoke,builtin,Builtin.clear_,qaq,qbb,underlying,hT,run_program,oE hi];rw [←hkk];rw [show (storeCells ⟨b,o+xs.length*Rp.sz α,none⟩ (Builtin.zeroCells z.cells (k0 - xs.length)).toList).run P σ.w=_ from fu]
    rfl
   ·have:(i+1)*Rp.sz α<=xs.length*Rp.sz α:=qaj _ hi;rw [Nat.add_mul] at this;exact (g7 i hi).put g3 g6 (λj hj=>EL _ _ _ _ (by omega))
omit [Rp α] in
theorem R4{q0:List α}{i0 j0:Int}{ap:Option Addr}{cp c2:Nat}(hp:eI xs 0 i0=some p)(hq:eI xs j0 (xs.length:Int)=some q0)(qk:i0<=j0)(hr:nP p q0=some r)(UX:UU ad xs.length c s 0 i0 ap p.length cp)(ago:p.length+q0.length<=cp->c2=cp):r.length<=xs.length/\xs.length<=c2:=by
 obtain ⟨a0,a1,a2,_,a4⟩:=jJ hp;obtain ⟨b0,b1,b2,_,b4⟩:=jJ hq;obtain ⟨_,rfl⟩:=zy hr;have h3:=UX.h3;have hec:cp=c:=by rw [UX.ec];simp
 have:p.length+q0.length<=xs.length:=by omega
 refine ⟨by rw [qat];exact this, ?_⟩;rw [ago (by omega)];omega
end
end Go.Vs
namespace Go.Vs
open Go
end Go.Vs
