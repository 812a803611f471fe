/- What a function of the program does to its memory, step by step. -/
import Derived.Test.YtbpbncjammigdaaGreatAl
import Derived.Tactics
import Derived.Deep.LoopGhost
import Derived.Deep.Quiet
import Derived.StillTail
import Derived.KernelRfl
import Derived.Laws.World
import Derived.Orders
import Derived.Laws.StructEq
set_option linter.unusedVariables false
set_option linter.unusedSimpArgs false
namespace Go.Vs
open Go
def upd(ρ:Nat->Value)(d:Nat)(v:Value):Nat->Value:=λt=>bif Nat.beq t d then v else ρ t
def fr(n:Nat)(ρ:Nat->Value):Act:=⟨Array.ofFn (n:=n) (λi=>ρ i.1),[]⟩
def look(n:Nat)(ρ:Nat->Value)(t:Nat):Value:=bif Nat.blt t n then ρ t else undef
def ev(n:Nat)(ρ:Nat->Value):Operand->Value
 | .tmp t=>look n ρ t
 | .const v=>v
 | .global g=> .pointer (some ⟨g,0,none⟩)
 | .func f=> .func (.func f) #[] #[]
def fl(l:List Value):Nat->Value:=λt=>l.getD t undef
theorem EI{t n:Nat}(h:t<n):Nat.blt t n=true:=by simp [Nat.blt,Nat.ble_eq];omega
theorem wD{t n:Nat}(h: ¬t<n):Nat.blt t n=false:=by
 cases hb:Nat.blt t n with
 | false=>rfl
 | true=>simp only [Nat.blt,Nat.ble_eq] at hb;omega
theorem tZ{t n:Nat}(h:t≠n):Nat.beq t n=false:=by
 cases hb:Nat.beq t n with
 | false=>rfl
 | true=>exact absurd (Nat.eq_of_beq_eq_true hb) h
theorem ML(n:Nat):Nat.beq n n=true:=Nat.beq_refl n
theorem vJ{n t:Nat}(ρ:Nat->Value)(h:t<n):look n ρ t=ρ t:=by unfold look;rw [EI h];rfl
theorem MM{n t:Nat}(ρ:Nat->Value)(h: ¬t<n):look n ρ t=undef:=by unfold look;rw [wD h];rfl
theorem look_eq(n:Nat)(ρ:Nat->Value)(t:Nat):(fr n ρ).tmps.getD t undef=look n ρ t:=by
 by_cases h:t<n
 ·rw [vJ ρ h];simp [fr,Array.getD,h]
 ·rw [MM ρ h];simp [fr,Array.getD,h]
theorem aR(n:Nat)(ρ:Nat->Value):(fr n ρ).eval=ev n ρ:=by
 funext x;cases x with
 | tmp t=>exact look_eq n ρ t
 | const v=>rfl
 | global g=>rfl
 | func f=>rfl
theorem dc(n:Nat)(ρ:Nat->Value)(d:Nat)(v:Value):(fr n ρ).put (some d) v=fr n (upd ρ d v):=by
 unfold fr Act.put;simp only [Act.mk.injEq,and_true];apply Array.ext
 ·simp
 ·intro i h1 h2;simp only [Array.size_setIfInBounds,Array.size_ofFn] at h1;by_cases hd:d=i
  ·subst hd;simp [upd]
  ·simp [upd,tZ (qbq hd),hd,h1]
theorem jG(n:Nat)(ρ:Nat->Value)(v:Value):(fr n ρ).put none v=fr n ρ:=rfl
theorem pE(l:List Value)(n:Nat)(h:l.length<=n):
  (⟨l.toArray++Array.replicate (n - l.length) undef,[]⟩:Act)=fr n (fl l):=by
 unfold fr;simp only [Act.mk.injEq,and_true];apply Array.ext
 ·simp;omega
 ·intro i h1 h2;simp only [Array.size_ofFn] at h2;by_cases hi:i<l.length
  ·simp [hi,fl]
  ·simp [Array.getElem_append,hi,fl]
def yv(ops:Array Oper)(n:Nat)(ρ:Nat->Value)(j:Nat):Option Bool:=
 match (ops[j]?).bind (·.dst) with
 | some d=>match look n ρ d with
  | .bool b=>some b
  | _=>none
 | none=>none
theorem eO(ops:Array Oper)(n:Nat)(ρ:Nat->Value):yielded ops (fr n ρ).tmps=yv ops n ρ:=by
 funext j;unfold yielded yv;cases h:(ops[j]?).bind (·.dst) with
 | none=>simp
 | some d=>
  simp only [qa0];by_cases hd:d<n
  ·have e1:(fr n ρ).tmps[d]? =some (ρ d):=by simp [fr,hd]
   rw [e1,vJ ρ hd];cases ρ d <;> rfl
  ·have e1:(fr n ρ).tmps[d]? =none:=by simp [fr,hd]
   rw [e1,MM ρ hd];rfl
theorem Q7{n:Nat}{ρ rS:Nat->Value}(h: ∀t,t<n->ρ t=rS t):fr n ρ=fr n rS:=by
 unfold fr;congr 1;exact congrArg _ (funext λi=>h i.1 i.2)
structure St where
 w:World
 gA:Nat->Nat
 ok: ∀b,w.heap.size<=b->gA b=0
 ef:Prop -- of the answers aks are drawn nothing is said any more
abbrev St.size(σ:St):Nat:=σ.w.heap.size
def St.cell(σ:St)(b o:Nat):Option Value:=σ.w.cell? ⟨b,o,none⟩
structure Ext(σ σ':St):Prop where
 size:σ.size<=σ'.size
 block: ∀b,0<σ.gA b->σ'.w.heap[b]? =σ.w.heap[b]?
 gA: ∀b,σ.gA b<=σ'.gA b
structure Q8(B:Nat)(σ σ':St):Prop where
 os:σ'.w.os=σ.w.os
 tape:σ'.w.tape=σ.w.tape
 output:σ'.w.output=σ.w.output
 dr:σ.w.drawn<=σ'.w.drawn
 size:σ.size<=σ'.size
 block: ∀b,b<B->σ'.w.heap[b]? =σ.w.heap[b]?
 gA: ∀b,b<B->σ'.gA b=σ.gA b
 ef:σ'.ef=σ.ef
def St.mute(σ:St):St:=⟨σ.w,σ.gA,σ.ok,False⟩
theorem Ext.mute(σ:St):Ext σ σ.mute:=⟨qa3 _,λ_ _=>rfl,λ_=>qa3 _⟩
theorem Ext.refl(σ:St):Ext σ σ:=⟨qa3 _,λ_ _=>rfl,λ_=>qa3 _⟩
theorem Ext.trans{a b c:St}(h:Ext a b)(k:Ext b c):Ext a c:=
 ⟨qaa h.size k.size,λx ho=>(k.block x (qa2 ho (h.gA x))).trans (h.block x ho),λx=>qaa (h.gA x) (k.gA x)⟩
theorem cell_of_block{w w':World}{b:Nat}(h:w'.heap[b]? =w.heap[b]?)(o:Nat):w'.cell? ⟨b,o,none⟩=w.cell? ⟨b,o,none⟩:=by
 simp only [World.cell?, h]
theorem Ext.cell{σ σ':St}(h:Ext σ σ')(b o:Nat)(ho:o<σ.gA b):σ'.cell b o=σ.cell b o:=cell_of_block (h.block b (Nat.lt_of_le_of_lt (qa8 _) ho)) o
theorem Q8.ext{σ σ':St}(h:Q8 σ.size σ σ'):Ext σ σ':=by
 refine ⟨h.size,λb ho=> ?_,λb=> ?_⟩
 ·by_cases hb:b<σ.size
  ·exact h.block b hb
  ·rw [σ.ok b (Nat.le_of_not_lt hb)] at ho;exact absurd ho (qar _)
 ·by_cases hb:b<σ.size
  ·exact qay (h.gA b hb).symm
  ·rw [σ.ok b (Nat.le_of_not_lt hb)];exact qa8 _
def dX(P:Program)(H:Array Obj)(n:Nat)(ρ:Nat->Value)(o:Oper)(v:Value):Prop:=
 ∀w:World,w.heap=H->(execOp (ev n ρ) o).run P w= .ok (.value v) w
section steps
variable{P:Program}{ops:Array Oper}{Q:Exit->Act->World->Prop}{n d:Nat}{ρ:Nat->Value}{w:World}{v:Value}{rest:List Oper}
variable{op:Op}{ty:TypeId}{pos:String}{af:Array Edge}{gd:Option (Nat×Bool)}{H:Array Obj}
theorem aS(o:Oper)(h:o.guard=none)(y:Nat->Option Bool):Region.wanted o y=true:=by simp [Region.wanted,h]
theorem aA{o:Oper}{j:Nat}{b:Bool}{y:Nat->Option Bool}(h:o.guard=some (j,b))(hy:y j=some b):Region.wanted o y=true:=by
 simp [Region.wanted,h,hy]
theorem vH{o:Oper}{j:Nat}{b:Bool}{y:Nat->Option Bool}(h:o.guard=some (j,b))(hy:y j=some (!b)):Region.wanted o y=false:=by
 cases b <;> simp [Region.wanted,h,hy]
theorem Il{o:Oper}{j:Nat}{b:Bool}{y:Nat->Option Bool}(h:o.guard=some (j,b))(hy:y j=none):Region.wanted o y=false:=by
 simp [Region.wanted,h,hy]
theorem Cd(hw:Region.wanted ⟨some d,op,ty,pos,af,gd⟩ (yv ops n ρ)=true)
  (hr:dX P w.heap n ρ ⟨some d,op,ty,pos,af,gd⟩ v)
  (k:wpList P ops Q rest (fr n (upd ρ d v)) w):
  wpList P ops Q (⟨some d,op,ty,pos,af,gd⟩::rest) (fr n ρ) w:=by
 unfold wpList;rw [eO,if_pos hw];refine .inl ?_;unfold Oper.wp;rw [aR,hr w rfl];simp only [Oper.upon_value,dc];exact k
theorem st(hr:dX P w.heap n ρ ⟨some d,op,ty,pos,af,none⟩ v)
 (k:wpList P ops Q rest (fr n (upd ρ d v)) w):
 wpList P ops Q (⟨some d,op,ty,pos,af,none⟩::rest) (fr n ρ) w:=Cd rfl hr k
theorem bW{j:Nat}{b:Bool}(hy:yv ops n ρ j=some b)(hr:dX P w.heap n ρ ⟨some d,op,ty,pos,af,some (j,b)⟩ v)
 (k:wpList P ops Q rest (fr n (upd ρ d v)) w):
 wpList P ops Q (⟨some d,op,ty,pos,af,some (j,b)⟩::rest) (fr n ρ) w:=Cd (aA rfl hy) hr k
theorem ak{j:Nat}{b:Bool}(hy:yv ops n ρ j=some (!b))
  (k:wpList P ops Q rest (fr n (upd ρ d undef)) w):
  wpList P ops Q (⟨some d,op,ty,pos,af,some (j,b)⟩::rest) (fr n ρ) w:=by
 unfold wpList;rw [eO,vH rfl hy,if_neg (by simp),dc];exact k
theorem iP{j:Nat}{b:Bool}(hy:yv ops n ρ j=none)
  (k:wpList P ops Q rest (fr n (upd ρ d undef)) w):
  wpList P ops Q (⟨some d,op,ty,pos,af,some (j,b)⟩::rest) (fr n ρ) w:=by
 unfold wpList;rw [eO,Il rfl hy,if_neg (by simp),dc];exact k
end steps
section acG
variable{P:Program}{Q:Exit->Act->World->Prop}{n:Nat}{ρ:Nat->Value}{w:World}
theorem Bv{c:Operand}{x y:Code}(b:Bool)(hc:ev n ρ c= .bool b)(ht:b=true->x.wp P Q (fr n ρ) w)(hf:b=false->y.wp P Q (fr n ρ) w):
 (Code.cond c x y).wp P Q (fr n ρ) w:=wp_cond_split (by rw [aR];exact hc) ht hf
theorem enter{f:FuncId}{fn:Func}{c:Code}{l:List Value}{R:Ending->World->Prop}(hf:P.funcs[f]? =some fn)(hb:fn.body=some c)(hn:fn.ntmps=n)(hl:Nat.ble l.length n=true)
  (h:c.wp P (bodyPost P fn R) (fr n (fl l)) w):Calls P f l.toArray w R:=by
 refine calls_of_wp hf hb ?_;have:=pE l n (by simpa using hl);simp only [qbn,hn,this];exact h
end acG
end Go.Vs
namespace Go.Vs
open Go
abbrev I(n:Int):Value:= .int .i64 n
abbrev B(b:Bool):Value:= .bool b
def ao(n:Int):Int:=IntKind.i64.wrap n
theorem aU{n:Int}(h1: -9223372036854775808<=n)(h2:n<=9223372036854775807):ao n=n:=by
 simp only [ao,IntKind.wrap,IntKind.bits,IntKind.signed,qbo,decide_eq_true_eq,ge_iff_le];have e1:((2:Int)^(64:Nat))=18446744073709551616:=by decide
 have e2:((2:Int)^(64 - 1:Nat))=9223372036854775808:=by decide
 rw [e1,e2];split <;> omega
def FY(a b:Int):Int:=IntKind.i64.wrap ((BitVec.ofInt 64 a ^^^ BitVec.ofInt 64 b).toNat)
structure TI(P:Program)(t:TypeId)(z:Value)(s b:Nat):Prop where
 it: ∃i,P.info? t=some i/\i.zero=some z/\i.size=s/\i.bytes=b
theorem TI.mk'{P:Program}{t:TypeId}{z:Value}{s b:Nat}(h:(P.info? t).map (λi=>(i.zero,i.size,i.bytes))=some (some z,s,b)):TI P t z s b:=by
 cases e:P.info? t with
 | none=>rw [e] at h;simp at h
 | some i=>
  rw [e] at h;simp only [qac,qah,Prod.mk.injEq] at h;exact ⟨i,e,h.1,h.2.1,h.2.2⟩
section
variable{P:Program}{H:Array Obj}{n:Nat}{ρ:Nat->Value}{d:Option Nat}{ty T T':TypeId}{pos:String}{af:Array Edge}{gd:Option (Nat×Bool)}{x y c:Operand}{v u:Value}{a b:Int}{p q r:Bool}
theorem ai(h:ev n ρ x=v):dX P H n ρ ⟨d, .move x,ty,pos,af,gd⟩ v:=λw _=>by simp [execOp,h]
theorem vI(h:ev n ρ x=v):dX P H n ρ ⟨d, .assign x,ty,pos,af,gd⟩ v:=λw _=>by simp [execOp,h]
theorem aK(hc:ev n ρ c=B true)(h:ev n ρ x=v):dX P H n ρ ⟨d, .pick c x y,ty,pos,af,gd⟩ v:=λw _=>by simp [execOp,h,hc,asBool]
theorem ax(hc:ev n ρ c=B false)(h:ev n ρ y=v):dX P H n ρ ⟨d, .pick c x y,ty,pos,af,gd⟩ v:=λw _=>by simp [execOp,h,hc,asBool]
theorem cF(hx:ev n ρ x=I a)(hy:ev n ρ y=I b):dX P H n ρ ⟨d, .binOp .add T x y T',ty,pos,af,gd⟩ (I (ao (a+b))):=λw _=>by
 simp [execOp,hx,hy,eqGuard,binOp,Op.intArith,ao]
theorem ig(hx:ev n ρ x=I a)(hy:ev n ρ y=I b):dX P H n ρ ⟨d, .binOp .sub T x y T',ty,pos,af,gd⟩ (I (ao (a - b))):=λw _=>by
 simp [execOp,hx,hy,eqGuard,binOp,Op.intArith,ao]
theorem oS(hx:ev n ρ x=I a)(hy:ev n ρ y=I b):dX P H n ρ ⟨d, .binOp .mul T x y T',ty,pos,af,gd⟩ (I (ao (a*b))):=λw _=>by
 simp [execOp,hx,hy,eqGuard,binOp,Op.intArith,ao]
theorem Cj(hx:ev n ρ x=I a)(hy:ev n ρ y=I b)(h0:b≠0):dX P H n ρ ⟨d, .binOp .quo T x y T',ty,pos,af,gd⟩ (I (ao (a.tdiv b))):=λw _=>by
 simp [execOp,hx,hy,eqGuard,binOp,Op.intDiv,ao,h0]
theorem KT(hx:ev n ρ x=I a)(hy:ev n ρ y=I b)(h0:b≠0):dX P H n ρ ⟨d, .binOp .rem T x y T',ty,pos,af,gd⟩ (I (a.tmod b)):=λw _=>by
 simp [execOp,hx,hy,eqGuard,binOp,Op.intDiv,h0]
theorem Z6(hx:ev n ρ x=I a)(hy:ev n ρ y=I b):dX P H n ρ ⟨d, .binOp .xor T x y T',ty,pos,af,gd⟩ (I (FY a b)):=λw _=>by
 simp only [execOp,hx,hy,eqGuard,binOp];rfl
theorem fA(hx:ev n ρ x=I a)(hy:ev n ρ y=I b):dX P H n ρ ⟨d, .binOp .eql T x y T',ty,pos,af,gd⟩ (B (a==b)):=λw _=>by
 simp [execOp,hx,hy,eqGuard,binOp,Op.intCmp]
theorem KU(hx:ev n ρ x=I a)(hy:ev n ρ y=I b):dX P H n ρ ⟨d, .binOp .neq T x y T',ty,pos,af,gd⟩ (B (a != b)):=λw _=>by
 simp [execOp,hx,hy,eqGuard,binOp,Op.intCmp]
theorem cD(hx:ev n ρ x=I a)(hy:ev n ρ y=I b):dX P H n ρ ⟨d, .binOp .lss T x y T',ty,pos,af,gd⟩ (B (decide (a<b))):=λw _=>by
 simp [execOp,hx,hy,eqGuard,binOp,Op.intCmp]
theorem nW(hx:ev n ρ x=I a)(hy:ev n ρ y=I b):dX P H n ρ ⟨d, .binOp .leq T x y T',ty,pos,af,gd⟩ (B (decide (a<=b))):=λw _=>by
 simp [execOp,hx,hy,eqGuard,binOp,Op.intCmp]
theorem iC(hx:ev n ρ x=I a)(hy:ev n ρ y=I b):dX P H n ρ ⟨d, .binOp .gtr T x y T',ty,pos,af,gd⟩ (B (decide (b<a))):=λw _=>by
 simp [execOp,hx,hy,eqGuard,binOp,Op.intCmp]
theorem qe(hx:ev n ρ x=I a)(hy:ev n ρ y=I b):dX P H n ρ ⟨d, .binOp .geq T x y T',ty,pos,af,gd⟩ (B (decide (b<=a))):=λw _=>by
 simp [execOp,hx,hy,eqGuard,binOp,Op.intCmp]
theorem Z7(hx:ev n ρ x=I a):dX P H n ρ ⟨d, .unOp .neg T x,ty,pos,af,gd⟩ (I (ao (0 - a))):=λw _=>by
 simp [execOp,hx,Op.unary,Op.intArith,ao]
theorem cO(hx:ev n ρ x=B p):dX P H n ρ ⟨d, .unOp .not T x,ty,pos,af,gd⟩ (B (!p)):=λw _=>by
 simp [execOp,hx,Op.unary]
theorem FZ{k:IntKind}(hT:P.underlying T=some (.int k))(pT:P.underlying T'=some (.int .i64))(hx:ev n ρ x= .int k a):dX P H n ρ ⟨d, .convert T T' x,ty,pos,af,gd⟩ (I (ao a)):=λw _=>by
 simp [execOp,hx,convert,underlying,hT,pT,Conv.intToInt,ao]
theorem eR{vs:Array Value}{k:Nat}(hx:ev n ρ x= .tuple vs)(hv:vs[k]? =some v):dX P H n ρ ⟨d, .extract x k,ty,pos,af,gd⟩ v:=λw _=>by
 simp [execOp,hx,Instr.extract,hv]
theorem cG{ad:Addr}(hx:ev n ρ x= .pointer (some ad)):dX P H n ρ ⟨d, .nilCheck x,ty,pos,af,gd⟩ (.pointer (some ad)):=λw _=>by
 simp [execOp,hx]
theorem bF{m:Nat}{E:TypeId}{ad:Option Addr}{cp:Nat}(hT:P.underlying T=some (.slice E))(hx:ev n ρ x= .slice ad m cp):
  dX P H n ρ ⟨d, .call ⟨.builtin .len, #[x], #[T]⟩,ty,pos,af,gd⟩ (I m):=λw _=>by
 simp [execOp,resolve,invoke,builtin,Builtin.len_,hx,underlying,hT,goInt]
theorem F0(hx:ev n ρ x=I a)(hy:ev n ρ y=I b):dX P H n ρ ⟨d, .call ⟨.builtin .max, #[x,y], #[T,T']⟩,ty,pos,af,gd⟩ (I (max a b)):=λw _=>by
 simp [execOp,resolve,invoke,builtin,Builtin.max_,Builtin.max2,hx,hy];split <;> omega
theorem KV(hx:ev n ρ x=I a)(hy:ev n ρ y=I b):dX P H n ρ ⟨d, .call ⟨.builtin .min, #[x,y], #[T,T']⟩,ty,pos,af,gd⟩ (I (min a b)):=λw _=>by
 simp [execOp,resolve,invoke,builtin,Builtin.min_,Builtin.min2,hx,hy];split <;> omega
abbrev pt(bl o:Nat):Value:= .pointer (some ⟨bl,o,none⟩)
theorem add_plain(bl o k:Nat):(⟨bl,o,none⟩:Addr).add k=⟨bl,o+k,none⟩:=by
 unfold Addr.add;split <;> simp_all
theorem run_typeInfo{t:TypeId}{z:Value}{s bt:Nat}(h:TI P t z s bt)(w:World):(sizeOf t).run P w= .ok s w:=by
 obtain ⟨i,h1,h2,h3,h4⟩:=h.it;simp [sizeOf,typeInfo,h1,h3]
theorem oz{t:TypeId}{z:Value}{s bt:Nat}(h:TI P t z s bt)(w:World):(zeroValue t).run P w= .ok z w:=by
 obtain ⟨i,h1,h2,h3,h4⟩:=h.it;simp [zeroValue,typeInfo,h1,h2]
theorem aj{fs:Array Field}{k bl o off ft:Nat}{z:Value}{s bt:Nat}(hT:P.underlying T=some (.struct fs))(hf:(fs[k]?).map (λf=>(f.offset,f.type))=some (off,ft))
  (hi:TI P ft z s bt) (hs:Nat.beq s 0=false) (hx:ev n ρ x=pt bl o):dX P H n ρ ⟨d, .fieldAddr T x k,ty,pos,af,gd⟩ (pt bl (o+off)):=λw _=>by
 cases hfk:fs[k]? with
 | none=>rw [hfk] at hf;cases hf
 | some f=>
  rw [hfk] at hf;simp only [qac,qah,Prod.mk.injEq] at hf;obtain ⟨rfl,rfl⟩:=hf;have Fy:s≠0:=by rintro rfl;cases hs
  simp [execOp,hx,Instr.fieldAt,underlying,hT,hfk,Instr.sureAddr,fieldPlace,run_typeInfo hi,Fy,add_plain]
theorem F1{E m:Nat}{xs:List Int}{e:Int}{z:Value}{bt:Nat}(hT:P.underlying T=some (.array m E))(hi:TI P E z 1 bt)(hE:P.underlying E=some (.int .i64))
  (hx:ev n ρ x= .agg (xs.map I).toArray) (hy:ev n ρ y=I a) (h0:0<=a) (h1:a.toNat<m) (he:xs[a.toNat]? =some e):dX P H n ρ ⟨d, .index T x y,ty,pos,af,gd⟩ (I e):=λw _=>by
 have h2:a<(m:Int):=by omega
 have xF:(isAgg E).run P w= .ok false w:=by
  simp only [isAgg,underlying,Sem.run_bind,run_program,Result.andThen_ok,hE,Sem.run_pure]
 simp [execOp,hx,hy,Instr.index,asIntOf,underlying,hT,h0,h2,run_typeInfo hi,part,xF,he]
theorem wZ{E:TypeId}{bl o m cp:Nat}{z:Value}{s bt:Nat}(hT:P.underlying T=some (.slice E))(hi:TI P E z s bt)
  (hx:ev n ρ x= .slice (some ⟨bl,o,none⟩) m cp) (hy:ev n ρ y=I a) (h0:0<=a) (h1:a.toNat<m):
  dX P H n ρ ⟨d, .indexAddr T x y,ty,pos,af,gd⟩ (pt bl (o+a.toNat*s)):=λw _=>by
 have h2:a<(m:Int):=by omega
 simp [execOp,hx,hy,Instr.indexAt,asIntOf,underlying,hT,h0,h2,run_typeInfo hi,add_plain]
theorem gC{E:TypeId}{bl o m:Nat}{z:Value}{s bt:Nat}(hT:P.underlying T=some (.array m E))(hi:TI P E z s bt)
  (hx:ev n ρ x=pt bl o) (hy:ev n ρ y=I a) (h0:0<=a) (h1:a.toNat<m):
  dX P H n ρ ⟨d, .indexAddr T x y,ty,pos,af,gd⟩ (pt bl (o+a.toNat*s)):=λw _=>by
 have h2:a<(m:Int):=by omega
 simp [execOp,hx,hy,Instr.indexAt,asIntOf,underlying,hT,h0,h2,run_typeInfo hi,add_plain,Instr.sureAddr]
def jH(H:Array Obj)(b o:Nat):Option Value:=match H[b]? with
 | some (.cells c _ _)=>c[o]?
 | _=>none
theorem iT(w:World)(b o:Nat):jH w.heap b o=w.cell? ⟨b,o,none⟩:=by
 unfold jH World.cell?;cases h:w.heap[b]? with
 | none=>rfl
 | some ob=>cases ob <;> rfl
theorem an{bl o:Nat}{D:TypeDesc}(hT:P.underlying T=some D)(hD:(match D with | .struct _=>false | .array _ _=>false | _=>true)=true)
  (hx:ev n ρ x=pt bl o) (hc:jH H bl o=some v):dX P H n ρ ⟨d, .load T x,ty,pos,af,gd⟩ v:=λw hw=>by
 subst hw;rw [iT] at hc;have:(isAgg T).run P w= .ok false w:=by
  simp only [isAgg,underlying,Sem.run_bind,run_program,Result.andThen_ok,hT,Sem.run_pure];cases D <;> simp_all
 simp [execOp,hx,Instr.loadAt,Instr.sureAddr,loadVar,this,load,Sem.run,hc]
theorem run_loadCellsFrom(w:World)(bl o:Nat): ∀(k i:Nat) (cs acc:List Value),cs.length=k->(∀j,(h:j<cs.length)->w.cell? ⟨bl,o+(i+j),none⟩=some cs[j])->
  (loadCellsFrom ⟨bl,o,none⟩ i k acc.toArray).run P w= .ok (acc++cs).toArray w
 | 0,i,cs,acc,hk,_=>by
  have:cs=[]:=qb9 hk;subst this;simp [loadCellsFrom]
 | k+1,i,[],acc,hk,_=>by simp at hk
 | k+1,i,c::cs,acc,hk,hc=>by
  have h0:=hc 0 (by simp);simp only [qcj,List.getElem_cons_zero] at h0;have ih:=run_loadCellsFrom w bl o k (i+1) cs (acc++[c]) (by simpa using hk) (λj hj=>by
   have:=hc (j+1) (by simpa using hj);simpa [Nat.add_assoc,Nat.add_comm 1 j] using this)
  simp only [loadCellsFrom,Sem.run_bind,load,add_plain,Sem.run,h0,Result.andThen_ok];have e:acc.toArray.push c=(acc++[c]).toArray:=by simp
  rw [e,ih];simp
theorem bp{bl o:Nat}{D:TypeDesc}{cs:List Value}{z:Value}{s bt:Nat}(hT:P.underlying T=some D)(hD:(match D with | .struct _=>false | .array _ _=>false | _=>true)=false)
  (hi:TI P T z s bt) (hx:ev n ρ x=pt bl o) (hl:cs.length=s) (hc: ∀j,(h:j<cs.length)->jH H bl (o+j)=some cs[j]):dX P H n ρ ⟨d, .load T x,ty,pos,af,gd⟩ (.agg cs.toArray):=λw hw=>by
 subst hw;have:(isAgg T).run P w= .ok true w:=by
  simp only [isAgg,underlying,Sem.run_bind,run_program,Result.andThen_ok,hT,Sem.run_pure];cases D <;> simp_all
 have:=run_loadCellsFrom (P:=P) w bl o s 0 cs [] hl (λj hj=>by rw [←iT];simpa using hc j hj);simp [execOp,Instr.loadAt,Instr.sureAddr,loadVar, *, loadCells,run_typeInfo hi]
end
end Go.Vs
namespace Go.Vs
open Go
def plain:Value->Bool
 | .agg _ | .tuple _=>false
 | _=>true
structure Ot(lo:Nat)(σ σ':St):Prop where
 block: ∀b,lo<=b->0<σ.gA b->σ'.w.heap[b]? =σ.w.heap[b]?
 gA: ∀b,lo<=b->σ.gA b<=σ'.gA b
theorem Ext.wh{σ σ':St}(h:Ext σ σ')(lo:Nat):Ot lo σ σ':=⟨λb _ ho=>h.block b ho,λb _=>h.gA b⟩
theorem Ot.cell{lo:Nat}{σ σ':St}(h:Ot lo σ σ')(b o:Nat)(hb:lo<=b)(ho:o<σ.gA b):σ'.cell b o=σ.cell b o:=cell_of_block (h.block b hb (Nat.lt_of_le_of_lt (qa8 _) ho)) o
class Rp(α:Type) where
 sz:Nat
 rp:Nat->St->List Value->α->Prop
 pos:0<sz
 len: ∀{lo:Nat} {σ:St} {cs:List Value} {x:α},rp lo σ cs x->cs.length=sz
 wh: ∀{lo:Nat} {σ σ':St} {cs:List Value} {x:α},Ot lo σ σ'->rp lo σ cs x->rp lo σ' cs x
 low: ∀{lo pZ:Nat} {σ:St} {cs:List Value} {x:α},pZ<=lo->rp lo σ cs x->rp pZ σ cs x
 one: ∀{lo:Nat} {σ:St} {cs:List Value} {x:α},rp lo σ cs x-> ∀c∈cs,plain c=true
theorem Rp.ext{α:Type}[Rp α]{lo:Nat}{σ σ':St}{cs:List Value}{x:α}(hE:Ext σ σ')(h:Rp.rp lo σ cs x):Rp.rp lo σ' cs x:=Rp.wh (hE.wh lo) h
instance:Rp Int where
 sz:=1
 rp _ _ cs x:=cs=[I x]
 pos:=by decide
 len:=by rintro _ _ _ _ rfl;rfl
 wh:=λ_ h=>h
 low:=λ_ h=>h
 one:=by rintro _ _ _ _ rfl;simp [plain]
instance:Rp UInt8 where
 sz:=1
 rp _ _ cs x:=cs=[.int .u8 x.toNat]
 pos:=by decide
 len:=by rintro _ _ _ _ rfl;rfl
 wh:=λ_ h=>h
 low:=λ_ h=>h
 one:=by rintro _ _ _ _ rfl;simp [plain]
instance{α β:Type}[Rp α][Rp β]:Rp (α×β) where
 sz:=Rp.sz α+Rp.sz β
 rp lo σ cs x:= ∃c1 c2,cs=c1++c2/\Rp.rp lo σ c1 x.1/\Rp.rp lo σ c2 x.2
 pos:=Nat.add_pos_left Rp.pos _
 len:=by rintro _ _ _ _ ⟨c1,c2,rfl,h1,h2⟩;rw [qat,Rp.len h1,Rp.len h2]
 wh:=by rintro _ _ _ _ _ hE ⟨c1,c2,rfl,h1,h2⟩;exact ⟨c1,c2,rfl,Rp.wh hE h1,Rp.wh hE h2⟩
 low:=by rintro _ _ _ _ _ hl ⟨c1,c2,rfl,h1,h2⟩;exact ⟨c1,c2,rfl,Rp.low hl h1,Rp.low hl h2⟩
 one:=by
  rintro _ _ _ _ ⟨c1,c2,rfl,h1,h2⟩ c hc;rcases qaf.1 hc with h | h
  ·exact Rp.one h1 c h
  ·exact Rp.one h2 c h
section
variable{α β:Type}[Rp α][Rp β]
def At(el:Nat)(σ:St)(b o:Nat)(x:α):Prop:= ∃cs,Rp.rp el σ cs x/\ ∀j,(h:j<cs.length)->σ.cell b (o+j)=some cs[j]
theorem At.ext{el:Nat}{σ σ':St}{b o:Nat}{x:α}(h:At el σ b o x)(hs:o+Rp.sz α<=σ.gA b)(hE:Ext σ σ'):At el σ' b o x:=by
 obtain ⟨cs,h1,h2⟩:=h;refine ⟨cs,Rp.ext hE h1,λj hj=> ?_⟩;have:=Rp.len h1;rw [hE.cell b (o+j) (by omega)];exact h2 j hj
theorem At.fst{el:Nat}{σ:St}{b o:Nat}{x:α×β}(h:At el σ b o x):At el σ b o x.1:=by
 obtain ⟨cs,⟨c1,c2,rfl,h1,h2⟩,h3⟩:=h;refine ⟨c1,h1,λj hj=> ?_⟩;rw [h3 j (by rw [qat];omega),qb7 hj]
theorem At.snd{el:Nat}{σ:St}{b o:Nat}{x:α×β}(h:At el σ b o x):At el σ b (o+Rp.sz α) x.2:=by
 obtain ⟨cs,⟨c1,c2,rfl,h1,h2⟩,h3⟩:=h;refine ⟨c2,h2,λj hj=> ?_⟩;have hl:=Rp.len h1;have:=h3 (c1.length+j) (by rw [qat];omega);rw [Nat.add_assoc, ←hl,this,qbk (by omega)];simp
def RS(el:Nat)(σ:St)(v:Value)(xs:List α):Prop:=
 ((∃ad c,v= .slice ad 0 c)/\xs=[])\/ ∃b o c,v= .slice (some ⟨b,o,none⟩) xs.length c/\el<=b/\xs.length<=c/\o+xs.length*Rp.sz α<=σ.gA b/\
  ∀i,(h:i<xs.length)->At el σ b (o+i*Rp.sz α) xs[i]
def Rd(el:Nat)(σ:St)(v:Value)(xs:List α):Prop:=
 ((∃ad c,v= .slice ad 0 c)/\xs=[])\/ ∃b o c,v= .slice (some ⟨b,o,none⟩) xs.length c/\ ∀i,(h:i<xs.length)->At el σ b (o+i*Rp.sz α) xs[i]
def Ow(σ:St)(lo el:Nat)(v:Value)(xs:List α):Prop:=
 (v= .slice none 0 0/\xs=[])\/ ∃b o c C T,v= .slice (some ⟨b,o,none⟩) xs.length c/\lo<=b/\σ.w.heap[b]? =some (.cells C T (0,0))/\xs.length<=c/\
  o+c*Rp.sz α<=C.size/\σ.gA b=0/\ ∀i,(h:i<xs.length)->At el σ b (o+i*Rp.sz α) xs[i]
def blk:Value->Option Nat
 | .slice (some a) _ _=>some a.block
 | _=>none
theorem RS.nil{el:Nat}{σ:St}:RS el σ (.slice none 0 0) ([]:List α):= .inl ⟨⟨_,_,rfl⟩,rfl⟩
theorem Ow.nil{el:Nat}{σ:St}{lo:Nat}:Ow σ lo el (.slice none 0 0) ([]:List α):= .inl ⟨rfl,rfl⟩
theorem RS.rd{el:Nat}{σ:St}{v:Value}{xs:List α}(h:RS el σ v xs):Rd el σ v xs:=by
 rcases h with h | ⟨b,o,c,h1,_,_,h2,h3⟩
 ·exact .inl h
 ·exact .inr ⟨b,o,c,h1,h3⟩
theorem Ow.rd{el:Nat}{σ:St}{lo:Nat}{v:Value}{xs:List α}(h:Ow σ lo el v xs):Rd el σ v xs:=by
 rcases h with h | ⟨b,o,c,C,T,h1,h2,h3,h4,h5,h6,h7⟩
 ·exact .inl ⟨⟨_,_,h.1⟩,h.2⟩
 ·exact .inr ⟨b,o,c,h1,h7⟩
theorem RS.ext{el:Nat}{σ σ':St}{v:Value}{xs:List α}(h:RS el σ v xs)(hE:Ext σ σ'):RS el σ' v xs:=by
 rcases h with h | ⟨b,o,c,h1,hb,hc,h2,h3⟩
 ·exact .inl h
 ·refine .inr ⟨b,o,c,h1,hb,hc,qaa h2 (hE.gA b),λi hi=>(h3 i hi).ext ?_ hE⟩;have:(i+1)*Rp.sz α<=xs.length*Rp.sz α:=qaj _ hi;rw [Nat.add_mul] at this;omega
def Z8(v:Value)(m:Nat):Prop:= ∃ad c,v= .slice ad m c
theorem Rd.rG{el:Nat}{σ:St}{v:Value}{xs:List α}(h:Rd el σ v xs):Z8 v xs.length:=by
 rcases h with ⟨⟨ad,c,rfl⟩,rfl⟩ | ⟨b,o,c,h1,_⟩
 ·exact ⟨ad,c,rfl⟩
 ·exact ⟨_,_,h1⟩
theorem RS.rG{el:Nat}{σ:St}{v:Value}{xs:List α}(h:RS el σ v xs):Z8 v xs.length:=h.rd.rG
theorem Ow.rG{el:Nat}{σ:St}{lo:Nat}{v:Value}{xs:List α}(h:Ow σ lo el v xs):Z8 v xs.length:=h.rd.rG
theorem RS.wh{el:Nat}{σ σ':St}{v:Value}{xs:List α}(h:RS el σ v xs)(hE:Ot el σ σ'):RS el σ' v xs:=by
 rcases h with h | ⟨b,o,c,h1,hb,hc,h2,h3⟩
 ·exact .inl h
 ·refine .inr ⟨b,o,c,h1,hb,hc,qaa h2 (hE.gA b hb),λi hi=> ?_⟩;obtain ⟨cs,h4,h5⟩:=h3 i hi;refine ⟨cs,Rp.wh hE h4,λj hj=> ?_⟩;have:(i+1)*Rp.sz α<=xs.length*Rp.sz α:=qaj _ hi;rw [Nat.add_mul] at this;have hl:=Rp.len h4;rw [hE.cell b _ hb (by omega)];exact h5 j hj
theorem At.low{lo pZ:Nat}{σ:St}{b o:Nat}{x:α}(hl:pZ<=lo)(h:At lo σ b o x):At pZ σ b o x:=by
 obtain ⟨cs,h1,h2⟩:=h;exact ⟨cs,Rp.low hl h1,h2⟩
theorem RS.low{lo pZ:Nat}{σ:St}{v:Value}{xs:List α}(h:RS lo σ v xs)(hl:pZ<=lo):RS pZ σ v xs:=by
 rcases h with h | ⟨b,o,c,h1,hb,hc,h2,h3⟩
 ·exact .inl h
 ·exact .inr ⟨b,o,c,h1,qaa hl hb,hc,h2,λi hi=>(h3 i hi).low hl⟩
instance:Rp (List α) where
 sz:=1
 rp lo σ cs x:= ∃v,cs=[v]/\RS lo σ v x
 pos:=by decide
 len:=by rintro _ _ _ _ ⟨v,rfl,_⟩;rfl
 wh:=by rintro _ _ _ _ _ hE ⟨v,rfl,h⟩;exact ⟨v,rfl,h.wh hE⟩
 low:=by rintro _ _ _ _ _ hl ⟨v,rfl,h⟩;exact ⟨v,rfl,h.low hl⟩
 one:=by
  rintro _ _ _ _ ⟨v,rfl,h⟩ c hc;obtain ⟨ad,cp,hv⟩:=h.rG;simp only [qbe] at hc;rw [hc,hv];rfl
omit [Rp α] in
theorem List.F2{xs:List α}{i:Nat}{e:α}(h:xs[i]? =some e):i<xs.length:=(qbi.1 h).1
def bs{α:Type}(xs:List α)(a:Int):Option α:=if 0<=a then xs[a.toNat]? else none
omit [Rp α] in
theorem lD{xs:List α}{a:Int}{e:α}(h:bs xs a=some e):0<=a/\ ∃h:a.toNat<xs.length,xs[a.toNat]=e:=by
 unfold bs at h;split at h
 ·rename_i h0;obtain ⟨h1,h2⟩:=qbi.1 h;exact ⟨h0,h1,h2⟩
 ·cases h
structure Ix(v:Value)(a:Int)(s b o:Nat):Prop where
 it: ∃ob m c,v= .slice (some ⟨b,ob,none⟩) m c/\0<=a/\a.toNat<m/\o=ob+a.toNat*s
theorem Rd.ix{el:Nat}{σ:St}{v:Value}{xs:List α}{a:Int}{e:α}(h:Rd el σ v xs)(hg:bs xs a=some e): ∃b o,Ix v a (Rp.sz α) b o/\At el σ b o e:=by
 obtain ⟨h0,h1,h2⟩:=lD hg;rcases h with ⟨_,rfl⟩ | ⟨b,o,c,hv,hc⟩
 ·simp at h1
 ·exact ⟨b,o+a.toNat*Rp.sz α,⟨o,_,c,hv,h0,h1,rfl⟩,h2▸hc _ h1⟩
theorem RS.ix{el:Nat}{σ:St}{v:Value}{xs:List α}{a:Int}{e:α}(h:RS el σ v xs)(hg:bs xs a=some e): ∃b o,Ix v a (Rp.sz α) b o/\At el σ b o e:=h.rd.ix hg
theorem Ow.ix{el:Nat}{σ:St}{lo:Nat}{v:Value}{xs:List α}{a:Int}{e:α}(h:Ow σ lo el v xs)(hg:bs xs a=some e): ∃b o,Ix v a (Rp.sz α) b o/\At el σ b o e:=h.rd.ix hg
theorem At.int{el:Nat}{σ:St}{b o:Nat}{x:Int}(h:At el σ b o x):jH σ.w.heap b o=some (I x):=by
 obtain ⟨cs,rfl,h2⟩:=h;rw [iT];exact h2 0 (by simp)
theorem At.byte{el:Nat}{σ:St}{b o:Nat}{x:UInt8}(h:At el σ b o x):jH σ.w.heap b o=some (.int .u8 x.toNat):=by
 obtain ⟨cs,rfl,h2⟩:=h;rw [iT];exact h2 0 (by simp)
theorem At.slice{el:Nat}{σ:St}{b o:Nat}{xs:List α}(h:At el σ b o xs): ∃v,jH σ.w.heap b o=some v/\RS el σ v xs:=by
 obtain ⟨cs,⟨v,rfl,hR⟩,h2⟩:=h;exact ⟨v,by rw [iT];exact h2 0 (by simp),hR⟩
theorem At.cells{el:Nat}{σ:St}{b o:Nat}{x:α}(h:At el σ b o x): ∃cs,Rp.rp el σ cs x/\cs.length=Rp.sz α/\ ∀j,(hj:j<cs.length)->jH σ.w.heap b (o+j)=some cs[j]:=by
 obtain ⟨cs,h1,h2⟩:=h;exact ⟨cs,h1,Rp.len h1,λj hj=>by rw [iT];exact h2 j hj⟩
end
section
variable{P:Program}{H:Array Obj}{n:Nat}{ρ:Nat->Value}{d:Option Nat}{ty T T' E:TypeId}{pos:String}{af:Array Edge}{gd:Option (Nat×Bool)}{x y:Operand}{v:Value}{a:Int}{m b o s bt:Nat}{z:Value}
theorem bR(hT:P.underlying T=some (.slice E))(hi:TI P E z s bt)(hx:ev n ρ x=v)(hy:ev n ρ y=I a)(h:Ix v a s b o):
  dX P H n ρ ⟨d, .indexAddr T x y,ty,pos,af,gd⟩ (pt b o):=by
 obtain ⟨ob,m,c,rfl,h0,h1,rfl⟩:=h.it;exact wZ hT hi hx hy h0 h1
end
end Go.Vs
namespace Go.Vs
open Go
structure Oth(S:Option Nat)(σ σ':St):Prop where
 block: ∀b,b<σ.size->S≠some b->σ'.w.heap[b]? =σ.w.heap[b]?
 gA: ∀b,b<σ.size->S≠some b->σ'.gA b=σ.gA b
structure Mod(S:Option Nat)(σ σ':St):Prop where
 os:σ'.w.os=σ.w.os
 tape:σ'.w.tape=σ.w.tape
 output:σ'.w.output=σ.w.output
 dr:σ.w.drawn<=σ'.w.drawn
 ef:σ'.ef=σ.ef
 ext:Ext σ σ'
 YD:Oth S σ σ'
theorem Mod.refl(S:Option Nat)(σ:St):Mod S σ σ:=⟨rfl,rfl,rfl,qa3 _,rfl,Ext.refl _,⟨λ_ _ _=>rfl,λ_ _ _=>rfl⟩⟩
theorem Mod.size{S:Option Nat}{σ σ':St}(h:Mod S σ σ'):σ.size<=σ'.size:=h.ext.size
theorem Mod.step{S S':Option Nat}{a b c:St}(h:Mod S a b)(k:Mod S' b c)(hs:S'=none\/S'=S\/ ∀i,S'=some i->a.size<=i):Mod S a c:=by
 have key: ∀i,i<a.size->S≠some i->S'≠some i:=by
  intro i hi jE;rcases hs with rfl | rfl | hs
  ·simp
  ·exact jE
  ·intro e;have:=hs i e;omega
 exact ⟨k.os.trans h.os,k.tape.trans h.tape,k.output.trans h.output,qaa h.dr k.dr,k.ef.trans h.ef,h.ext.trans k.ext,
  λi hi jE=>(k.YD.block i (qa2 hi h.size) (key i hi jE)).trans (h.YD.block i hi jE),
  λi hi jE=>(k.YD.gA i (qa2 hi h.size) (key i hi jE)).trans (h.YD.gA i hi jE)⟩
theorem Q8.mod{σ σ':St}(h:Q8 σ.size σ σ')(S:Option Nat):Mod S σ σ':=⟨h.os,h.tape,h.output,h.dr,h.ef,h.ext,λb hb _=>h.block b hb,λb hb _=>h.gA b hb⟩
theorem At.same{el:Nat}{α:Type}[Rp α]{σ σ':St}{b o:Nat}{x:α}(h:At el σ b o x)(hE:Ext σ σ')(hb:σ'.w.heap[b]? =σ.w.heap[b]?):At el σ' b o x:=by
 obtain ⟨cs,h1,h2⟩:=h;exact ⟨cs,Rp.ext hE h1,λj hj=>by rw [show σ'.cell b (o+j)=σ.cell b (o+j) from cell_of_block hb _];exact h2 j hj⟩
theorem lt_of_block{w:World}{b:Nat}{o:Obj}(h:w.heap[b]? =some o):b<w.heap.size:=(qa1.1 h).1
def Bx(σ:St)(b:Nat)(cs:List Value):Prop:= ∃T,σ.w.heap[b]? =some (.cells cs.toArray T (0,0))/\σ.gA b=0
theorem Bx.lt{σ:St}{b:Nat}{cs:List Value}(h:Bx σ b cs):b<σ.size:=lt_of_block h.choose_spec.1
theorem Ow.lt{el:Nat}{α:Type}[Rp α]{σ:St}{lo:Nat}{v:Value}{xs:List α}(h:Ow σ lo el v xs): ∀b,blk v=some b->b<σ.size:=by
 rcases h with ⟨rfl,_⟩ | ⟨b,o,c,C,T,rfl,h2,h3,_⟩
 ·intro b h;cases h
 ·intro b' h;cases h;exact lt_of_block h3
theorem Ow.ge{el:Nat}{α:Type}[Rp α]{σ:St}{lo:Nat}{v:Value}{xs:List α}(h:Ow σ lo el v xs): ∀b,blk v=some b->lo<=b:=by
 rcases h with ⟨rfl,_⟩ | ⟨b,o,c,C,T,rfl,h2,h3,_⟩
 ·intro b h;cases h
 ·intro b' h;cases h;exact h2
theorem Ow.lo{el:Nat}{α:Type}[Rp α]{σ:St}{lo pZ:Nat}{v:Value}{xs:List α}(h:Ow σ lo el v xs)(hl:pZ<=lo):Ow σ pZ el v xs:=by
 rcases h with h | ⟨b,o,c,C,T,h1,h2,h3⟩
 ·exact .inl h
 ·exact .inr ⟨b,o,c,C,T,h1,qaa hl h2,h3⟩
def World.mk'(w:World)(o:Obj)(k:Nat):World:={ w with heap:=w.heap.push o,drawn:=w.drawn+k }
def St.new(σ:St)(o:Obj)(k:Nat):St:=⟨World.mk' σ.w o k,σ.gA,λb hb=>σ.ok b (by
 have:(σ.w.heap.push o).size<=b:=hb;rw [Array.size_push] at this;omega),σ.ef⟩
theorem St.Im(σ:St)(o:Obj)(k:Nat):(σ.new o k).size=σ.size+1:=by show (σ.w.heap.push o).size=_;simp
theorem St.VR(σ:St)(o:Obj)(k b:Nat)(h:b<σ.size):(σ.new o k).w.heap[b]? =σ.w.heap[b]? :=by
 show (σ.w.heap.push o)[b]? =_;rw [qbt,if_neg (by have:b<σ.w.heap.size:=h;omega)]
theorem St.tx(σ:St)(o:Obj)(k:Nat):(σ.new o k).w.heap[σ.size]? =some o:=by
 show (σ.w.heap.push o)[σ.w.heap.size]? =_;simp
theorem St.Q9(σ:St)(o:Obj)(k:Nat):Q8 σ.size σ (σ.new o k):=
 ⟨rfl,rfl,rfl,Nat.le_add_right _ _,by rw [St.Im];omega,λb hb=>σ.VR o k b hb,λ_ _=>rfl,rfl⟩
theorem St.mA(σ:St)(o:Obj)(k:Nat):Mod none σ (σ.new o k):=(St.Q9 σ o k).mod none
theorem St.tz(σ:St)(o:Obj)(k:Nat):(σ.new o k).gA σ.size=0:=σ.ok _ (qa3 _)
def wr(C:Array Value)(k:Nat):List Value->Array Value
 | []=>C
 | v::r=>wr (C.setIfInBounds k v) (k+1) r
theorem F3(vs:List Value): ∀(C:Array Value) (k:Nat),(wr C k vs).size=C.size:=by
 induction vs with
 | nil=>intro C k;rfl
 | cons v r ih=>intro C k;rw [wr,ih];simp
theorem EJ(vs:List Value): ∀(C:Array Value) (k j:Nat),j<k->(wr C k vs)[j]? =C[j]? :=by
 induction vs with
 | nil=>intro C k j _;rfl
 | cons v r ih=>
  intro C k j h;rw [wr,ih _ _ _ (by omega),qag,if_neg (by omega)]
theorem Ra(vs:List Value): ∀(C:Array Value) (k j:Nat),k+vs.length<=j->(wr C k vs)[j]? =C[j]? :=by
 induction vs with
 | nil=>intro C k j _;rfl
 | cons v r ih=>
  intro C k j h;simp only [qb2] at h;rw [wr,ih _ _ _ (by omega),qag,if_neg (by omega)]
theorem Rb(vs:List Value): ∀(C:Array Value) (k j:Nat),k+vs.length<=C.size->(h:j<vs.length)->(wr C k vs)[k+j]? =some vs[j]:=by
 induction vs with
 | nil=>intro C k j _ h;simp at h
 | cons v r ih=>
  intro C k j hs h;simp only [qb2] at hs h;cases j with
  | zero=>
   rw [wr,EJ _ _ _ _ (by omega),qag,if_pos (by omega),if_pos (by omega)]
   rfl
  | succ j=>
   have:=ih (C.setIfInBounds k v) (k+1) j (by simp;omega) (by omega);rw [wr,show k+(j+1)=k+1+j by omega,this]
   rfl
def World.put(w:World)(b:Nat)(o:Obj):World:={ w with heap:=w.heap.setIfInBounds b o }
theorem World.Rc{w:World}{b:Nat}{o:Obj}(h:w.heap[b]? =some o):World.put w b o=w:=by
 obtain ⟨hb,e⟩:=qa1.1 h;unfold World.put;have:w.heap.setIfInBounds b o=w.heap:=by
  apply Array.ext_getElem?;intro i;rw [qag];split
  ·rename_i hi;subst hi;rw [h]
  ·rfl
 rw [this]
theorem World.tD{w:World}{b:Nat}(o:Obj)(h:b<w.heap.size):(World.put w b o).heap[b]? =some o:=by
 show (w.heap.setIfInBounds b o)[b]? =_;rw [qag,if_pos rfl,if_pos h]
theorem World.Re{w:World}{b c:Nat}(o:Obj)(h:b≠c):(World.put w b o).heap[c]? =w.heap[c]? :=by
 show (w.heap.setIfInBounds b o)[c]? =_;rw [qag,if_neg h]
theorem World.VS(w:World)(b:Nat)(o o':Obj):World.put (World.put w b o) b o'=World.put w b o':=by
 unfold World.put;have:(w.heap.setIfInBounds b o).setIfInBounds b o'=w.heap.setIfInBounds b o':=by
  apply Array.ext_getElem?;intro i;simp only [qag,Array.size_setIfInBounds];split
  ·rfl
  ·rfl
 rw [this]
theorem World.Io(w:World)(b:Nat)(o:Obj):(World.put w b o).heap.size=w.heap.size:=by
 show (w.heap.setIfInBounds b o).size=_;simp
theorem Ip{w:World}{b k:Nat}{C:Array Value}{T:TypeId}(h:w.heap[b]? =some (.cells C T (0,0)))(v:Value):
  w.setCell ⟨b,k,none⟩ v=World.put w b (.cells (C.setIfInBounds k v) T (0,0)):=by
 obtain ⟨hb,e⟩:=qa1.1 h;unfold World.setCell World.put;simp only [qbp,qa6,if_false];congr 1;apply Array.ext_getElem?;intro i;rw [qc2,qag];split
 ·rename_i hi;subst hi;rw [h];simp
 ·rfl
theorem iD{P:Program}(b o:Nat)(T:TypeId): ∀(vs:List Value) (i:Nat) (w:World) (C:Array Value),w.heap[b]? =some (.cells C T (0,0))->
  o+i+vs.length<=C.size->(∀v∈vs,plain v=true)->
  (storeCells ⟨b,o,none⟩ vs i).run P w= .ok () (World.put w b (.cells (wr C (o+i) vs) T (0,0)))
 | [],i,w,C,h,_,_=>by
  simp only [storeCells,wr,World.Rc h];rfl
 | v::r,i,w,C,h,hs,hp=>by
  simp only [qb2] at hs;have hv:=hp v (by simp);have hb:=lt_of_block h;have hc:w.cell? ⟨b,o+i,none⟩=C[o+i]? :=by simp [World.cell?, h]
  have Qy:C[o+i]? =some C[o+i]:=by rw [qa1];exact ⟨by omega,rfl⟩
  have hf:w.frozen? ⟨b,o+i,none⟩=false:=by simp [World.frozen?, h]
  have ih:=iD (P:=P) b o T r (i+1) (World.put w b (.cells (C.setIfInBounds (o+i) v) T (0,0))) (C.setIfInBounds (o+i) v)
   (World.tD _ hb) (by simp;omega) (λu hu=>hp u (by simp [hu]))
  have bU:(store ((⟨b,o,none⟩:Addr).add i) v).run P w= .ok () (World.put w b (.cells (C.setIfInBounds (o+i) v) T (0,0))):=by
   rw [add_plain];cases v <;> first | (simp [plain] at hv;done) | (simp only [store,Sem.run,hc,Qy,hf,Ip h];rfl)
  simp only [storeCells,Sem.run_bind,bU,Result.andThen_ok,ih,World.VS];rw [wr];rfl
def St.put(σ:St)(b:Nat)(o:Obj):St:=⟨World.put σ.w b o,σ.gA,λc hc=>σ.ok c (by rw [World.Io] at hc;exact hc),σ.ef⟩
theorem St.F4{σ:St}{b:Nat}{o:Obj}(h:σ.gA b=0):Ext σ (σ.put b o):=by
 refine ⟨qay (World.Io _ _ _).symm,λc hk=> ?_,λ_=>qa3 _⟩;by_cases hc:b=c
 ·subst hc;rw [h] at hk;exact absurd hk (qar _)
 ·exact World.Re o hc
theorem St.VT{σ:St}{b:Nat}{o:Obj}:Oth (some b) σ (σ.put b o):=
 ⟨λc _ jE=>World.Re o (λe=>jE (by rw [e])),λ_ _ _=>rfl⟩
theorem St.vK{σ:St}{b:Nat}{o:Obj}(h:σ.gA b=0):Mod (some b) σ (σ.put b o):=⟨rfl,rfl,rfl,qa3 _,rfl,St.F4 h,St.VT⟩
def St.PZ(σ:St)(b e:Nat)(hb:b<σ.size):St:=⟨σ.w,λc=>if c=b then max (σ.gA b) e else σ.gA c,λc hc=>by
 rw [if_neg (by have:σ.size<=c:=hc;omega)];exact σ.ok c hc,σ.ef⟩
theorem St.F5{σ:St}{b e:Nat}(hb:b<σ.size):Ext σ (σ.PZ b e hb):=by
 refine ⟨qa3 _,λ_ _=>rfl,λc=> ?_⟩;show _<=(if c=b then max (σ.gA b) e else σ.gA c);split
 ·rename_i h;subst h;omega
 ·exact qa3 _
end Go.Vs
namespace Go.Vs
open Go
section
variable{P:Program}{ops:Array Oper}{Q:Exit->Act->World->Prop}{n d:Nat}{ρ:Nat->Value}{σ:St}{v:Value}{rest:List Oper}
variable{ty T T' E:TypeId}{pos:String}{af:Array Edge}{x y:Operand}{a:Int}
def zt(P:Program)(w:World)(n:Nat)(ρ:Nat->Value)(o:Oper)(v:Value)(w':World):Prop:=(execOp (ev n ρ) o).run P w= .ok (.value v) w'
def Rf(P:Program)(w:World)(n:Nat)(ρ:Nat->Value)(o:Oper)(w':World):Prop:=(execOp (ev n ρ) o).run P w= .ok .skip w'
theorem af7{op:Op}{gd:Option (Nat×Bool)}{w w':World}(hw:Region.wanted ⟨some d,op,ty,pos,af,gd⟩ (yv ops n ρ)=true)(hr:zt P w n ρ ⟨some d,op,ty,pos,af,gd⟩ v w')
  (k:wpList P ops Q rest (fr n (upd ρ d v)) w'):wpList P ops Q (⟨some d,op,ty,pos,af,gd⟩::rest) (fr n ρ) w:=by
 unfold wpList;rw [eO,if_pos hw];refine .inl ?_;unfold Oper.wp;rw [aR,hr];simp only [Oper.upon_value,dc];exact k
theorem af8{op:Op}{gd:Option (Nat×Bool)}{w w':World}(hw:Region.wanted ⟨none,op,ty,pos,af,gd⟩ (yv ops n ρ)=true)(hr:Rf P w n ρ ⟨none,op,ty,pos,af,gd⟩ w')
  (k:wpList P ops Q rest (fr n ρ) w'):wpList P ops Q (⟨none,op,ty,pos,af,gd⟩::rest) (fr n ρ) w:=by
 unfold wpList;rw [eO,if_pos hw];refine .inl ?_;unfold Oper.wp;rw [aR,hr];simp only [Oper.upon_skip,jG];exact k
def F6(cs:List Value)(k:Nat):List Value->List Value
 | []=>cs
 | v::r=>F6 (cs.set k v) (k+1) r
theorem MN(vs:List Value): ∀(cs:List Value) (k:Nat),wr cs.toArray k vs=(F6 cs k vs).toArray:=by
 induction vs with
 | nil=>intro cs k;rfl
 | cons v r ih=>intro cs k;rw [wr,F6, ←ih];simp
theorem Rg{f:FuncId}{args:List Value}{xs:Array Operand}{Ts:Array TypeId}{dst:Option Nat}{gd:Option (Nat×Bool)}{w:World}
  (hf: ∃fn c,P.funcs[f]? =some fn/\(fn.name== "runtime.NumGoroutine")=false/\fn.body=some c) (hx:xs.toList.map (ev n ρ)=args):
  (execOp (ev n ρ) ⟨dst, .call ⟨.value (.func f),xs,Ts⟩,ty,pos,af,gd⟩).run P w= .ok (.enter f args.toArray) w:=by
 obtain ⟨fn,c,h1,h2,h3⟩:=hf;replace hx:xs.map (ev n ρ)=args.toArray:=by rw [←hx, ←Array.toList_map]
 simp only [execOp,resolve,ev,Deferred.ofValue,Sem.run_bind,Sem.run_pure,Result.andThen_ok,invoke,callFunc,run_program,hx,h1,h2,h3];simp
end
section
variable{P:Program}{Q:Exit->Act->World->Prop}{n:Nat}{ρ:Nat->Value}{σ:St}{w:World}
theorem rg{id:Nat}{l:List Oper}(h:wpList P l.toArray Q l (fr n ρ) w):(Code.region id l.toArray false).wp P Q (fr n ρ) w:=wp_region_lit h
end
end Go.Vs
namespace Go.Vs
open Go
abbrev Sl{α:Type}(a:Option Addr)(xs:List α)(c:Nat):Value:= .slice a xs.length c
section
variable{α:Type}[Rp α]
theorem Rd.row{el:Nat}{σ:St}{v:Value}{xs:List α}(h:Rd el σ v xs): ∃L:List Value,L.length=xs.length*Rp.sz α/\
  (∀i,(hi:i<xs.length)-> ∃cs,Rp.rp el σ cs xs[i]/\ ∀j,(hj:j<cs.length)->L[i*Rp.sz α+j]? =some cs[j])/\
  (((∃ad c,v= .slice ad 0 c)/\xs=[])\/ ∃b o c,v= .slice (some ⟨b,o,none⟩) xs.length c/\ ∀j,(hj:j<L.length)->σ.w.cell? ⟨b,o+j,none⟩=some L[j]):=by
 rcases h with ⟨hv,rfl⟩ | ⟨b,o,c,rfl,h⟩
 ·exact ⟨[],by simp,λi hi=>by simp at hi, .inl ⟨hv,rfl⟩⟩
 ·have key: ∀k,k<xs.length*Rp.sz α-> ∃u,σ.w.cell? ⟨b,o+k,none⟩=some u:=by
   intro k hk;have hp:0<Rp.sz α:=Rp.pos;have hq:k / Rp.sz α<xs.length:=(Nat.div_lt_iff_lt_mul hp).2 hk;obtain ⟨cs,h1,h2⟩:=h _ hq;have hm:=Nat.mod_lt k hp;have:=h2 (k % Rp.sz α) (by rw [Rp.len h1];exact hm);have e:o+k / Rp.sz α*Rp.sz α+k % Rp.sz α=o+k:=by
    have:=Nat.div_add_mod k (Rp.sz α);rw [Nat.mul_comm] at this;omega
   rw [e] at this;exact ⟨_,this⟩
  refine ⟨(List.range (xs.length*Rp.sz α)).map λk=>(σ.w.cell? ⟨b,o+k,none⟩).getD undef,by simp,λi hi=> ?_, .inr ⟨b,o,c,rfl,λj hj=> ?_⟩⟩
  ·obtain ⟨cs,h1,h2⟩:=h i hi;refine ⟨cs,h1,λj hj=> ?_⟩;have hl:=Rp.len h1;have:(i+1)*Rp.sz α<=xs.length*Rp.sz α:=qaj _ hi;rw [Nat.add_mul] at this;have e:=h2 j hj;rw [Nat.add_assoc] at e;simp only [List.getElem?_map];rw [List.getElem?_range (by omega)];simp only [qac];rw [show σ.w.cell? ⟨b,o+(i*Rp.sz α+j),none⟩=some cs[j] from e]
   rfl
  ·simp only [qbu,List.length_range] at hj;obtain ⟨u,hu⟩:=key j hj;simp [hu]
theorem Rd.plain{el:Nat}{σ:St}{xs:List α}{L:List Value}(h1:L.length=xs.length*Rp.sz α)
  (h2: ∀i,(hi:i<xs.length)-> ∃cs,Rp.rp el σ cs xs[i]/\ ∀j,(hj:j<cs.length)->L[i*Rp.sz α+j]? =some cs[j]): ∀u∈L,plain u=true:=by
 intro u hu;obtain ⟨k,hk,rfl⟩:=qal.1 hu;have hp:0<Rp.sz α:=Rp.pos;have hq:k / Rp.sz α<xs.length:=(Nat.div_lt_iff_lt_mul hp).2 (by omega);obtain ⟨cs,h3,h4⟩:=h2 _ hq;have hm:=Nat.mod_lt k hp;have:=h4 (k % Rp.sz α) (by rw [Rp.len h3];exact hm);have e:k / Rp.sz α*Rp.sz α+k % Rp.sz α=k:=by
  have:=Nat.div_add_mod k (Rp.sz α);rw [Nat.mul_comm] at this;omega
 rw [e,qb6 hk] at this;rw [qai this];exact Rp.one h3 _ (qad _)
theorem kX{P:Program}{σ:St}{v:Value}{xs:List α}{L:List Value}(h1:L.length=xs.length*Rp.sz α)
  (h:((∃ad c,v= .slice ad 0 c)/\xs=[])\/ ∃b o c,v= .slice (some ⟨b,o,none⟩) xs.length c/\ ∀j,(hj:j<L.length)->σ.w.cell? ⟨b,o+j,none⟩=some L[j]) (w:World) (hw:w.heap=σ.w.heap):
  (Builtin.firstCells (Rp.sz α) xs.length v).run P w= .ok L.toArray w:=by
 rcases h with ⟨⟨ad,c,rfl⟩,rfl⟩ | ⟨b,o,c,rfl,h⟩
 ·have:L=[]:=qb9 (by simpa using h1);subst this;cases ad with
  | none=>rfl
  | some a=>simp only [List.length_nil,Builtin.firstCells,loadCells,Nat.zero_mul];rfl
 ·have:=run_loadCellsFrom (P:=P) w b o (xs.length*Rp.sz α) 0 L [] h1 (λj hj=>by
   have:=h j hj;simp only [qc4];rw [←this];simp only [World.cell?, hw])
  simpa [Builtin.firstCells,loadCells] using this
theorem EK(need:Nat): ∀(r c:Nat),c<=2*need+300->Builtin.growBy need r c<=2*need+300
 | 0,c,h=>by simpa [Builtin.growBy] using h
 | r+1,c,h=>by
  unfold Builtin.growBy;split
  ·exact h
  ·exact EK need r _ (by omega)
theorem nextslicecap_le{need c:Nat}(h:c<need):Builtin.nextslicecap need c<=2*need+300:=by
 unfold Builtin.nextslicecap;split
 ·omega
 ·split
  ·omega
  ·exact EK _ _ _ (by omega)
theorem At.put{el:Nat}{σ:St}{b o:Nat}{C C':Array Value}{T:TypeId}{x:α}(h:At el σ b o x)(hb:σ.w.heap[b]? =some (.cells C T (0,0)))(hv:σ.gA b=0)
  (hC: ∀j,j<Rp.sz α->C'[o+j]? =C[o+j]?):At el (σ.put b (.cells C' T (0,0))) b o x:=by
 obtain ⟨cs,h1,h2⟩:=h;refine ⟨cs,Rp.ext (St.F4 hv) h1,λj hj=> ?_⟩;have e:=h2 j hj;have e1:(σ.put b (.cells C' T (0,0))).cell b (o+j)=C'[o+j]? :=by
  show (World.put σ.w b _).cell? _=_;simp only [World.cell?, World.tD _ (lt_of_block hb),qbp,qa6,if_false]
 have e2:σ.cell b (o+j)=C[o+j]? :=by
  show σ.w.cell? _=_;simp only [World.cell?, hb,qbp,qa6,if_false]
 rw [e1,hC j (by rw [←Rp.len h1];exact hj), ←e2,e]
theorem At.tE{el:Nat}{σ:St}{b o:Nat}{C:Array Value}{T:TypeId}{f:Nat×Nat}{x:α}{cs:List Value}(hb:σ.w.heap[b]? =some (.cells C T f))(hr:Rp.rp el σ cs x)
  (hC: ∀j,(hj:j<cs.length)->C[o+j]? =some cs[j]):At el σ b o x:=by
 refine ⟨cs,hr,λj hj=> ?_⟩;show σ.w.cell? _=_;simp only [World.cell?, hb,qbp,qa6,if_false];exact hC j hj
end
section
variable{P:Program}{ops:Array Oper}{Q:Exit->Act->World->Prop}{n d:Nat}{ρ:Nat->Value}{σ:St}{u v:Value}{rest:List Oper}
variable{ty T T' E E':TypeId}{pos:String}{af:Array Edge}{x y:Operand}{a:Int}{α:Type}[Rp α]{xs ys:List α}{z:Value}{s bt lo:Nat}
theorem Ck{el:Nat}(hT:P.underlying T=some (.slice E))(pT:P.underlying T'=some (.slice E'))(hi:TI P E z s bt)(hs:s=Rp.sz α)(AP:z.cells.size=s)(Rh:bt<=1024)
  (hO:Ow σ lo el v xs) (hS:Rd el σ u ys) (hlen:xs.length+ys.length<=2147483648) (qX:lo<=σ.size):
  ∃a' c' σ',(Builtin.append_ #[T,T'] ty #[v,u]).run P σ.w= .ok (Sl a' (xs++ys) c') σ'.w/\Mod (blk v) σ σ'/\Ow σ' lo el (Sl a' (xs++ys) c') (xs++ys)/\
   (blk (Sl a' (xs++ys) c')=blk v\/ ∀b,blk (Sl a' (xs++ys) c')=some b->σ.size<=b)/\ ∀ad0 m0 cp0,v= .slice ad0 m0 cp0->xs.length+ys.length<=cp0->c'=cp0:=by
 obtain ⟨i0,vM,Bz,P0,hi4⟩:=hi.it;have hTI:=hi;obtain ⟨L,hL1,hL2,hL3⟩:=hS.row;obtain ⟨K,uY,Ri,hK3⟩:=hO.rd.row;have MO:=Rd.plain hL1 hL2;subst hs;have KW: ∀w,(Builtin.lenOf u).run P w= .ok ys.length w:=by
  intro w;obtain ⟨ad,c,rfl⟩:=hS.rG
  rfl
 obtain ⟨ad,cp,Vw⟩:=hO.rG;by_cases wi:xs.length+ys.length<=cp
 ·
  rcases hO with ⟨rfl,rfl⟩ | ⟨b,o,c,C,T0,rfl,h2,h3,h4,h5,h6,h7⟩
  ·cases Vw;have hy:ys=[]:=qb9 (by simpa using wi);subst hy;refine ⟨none,0,σ, ?_,Mod.refl _ _,Ow.nil, .inl rfl,by rintro _ _ _ ⟨⟩ _;rfl⟩;have hf:=kX (P:=P) hL1 hL3 σ.w rfl;simp only [List.length_nil] at hf;simp only [Builtin.append_,qaq,qbb,List.getElem?_cons_succ,underlying,hT,pT,Sem.run_bind,run_program,Result.andThen_ok,Sem.run_pure,run_typeInfo hTI,KW,
    if_true,qa6,if_false,qcl,List.length_nil,qcj,qa3,hf]
   rfl
  ·cases Vw;have Ih:o+xs.length*Rp.sz α+L.length<=C.size:=by
    have:(xs.length+ys.length)*Rp.sz α<=cp*Rp.sz α:=qaj _ wi;rw [Nat.add_mul] at this;omega
   have fu:=iD (P:=P) b (o+xs.length*Rp.sz α) T0 L 0 σ.w C h3 (by simpa using Ih) MO;simp only [qcj] at fu;refine ⟨some ⟨b,o,none⟩,cp,σ.put b (.cells (wr C (o+xs.length*Rp.sz α) L) T0 (0,0)), ?_, ?_, ?_, .inl rfl,by rintro _ _ _ ⟨⟩ _;rfl⟩
   ·simp only [Builtin.append_,qaq,qbb,List.getElem?_cons_succ,underlying,hT,pT,Sem.run_bind,run_program,Result.andThen_ok,Sem.run_pure,run_typeInfo hTI,KW,
     wi,if_true,qa6,if_false,qcl,kX hL1 hL3 σ.w rfl,add_plain,fu,Sl,qat]
    rfl
   ·exact St.vK h6
   ·refine .inr ⟨b,o,cp,_,T0,rfl,h2,World.tD _ (lt_of_block h3),by rw [qat];exact wi,by rw [F3];exact h5,h6,λi hi=> ?_⟩;by_cases Ou:i<xs.length
    ·rw [qb7 Ou];have:(i+1)*Rp.sz α<=xs.length*Rp.sz α:=qaj _ Ou;rw [Nat.add_mul] at this;exact (h7 i Ou).put h3 h6 (λj hj=>EJ _ _ _ _ (by omega))
    ·rw [qbk (by omega)];rw [qat] at hi;obtain ⟨cs,F7,UK⟩:=hL2 (i - xs.length) (by omega);refine At.tE (World.tD _ (lt_of_block h3)) (Rp.ext (St.F4 h6) F7) (λj hj=> ?_);have hl:=Rp.len F7;have bG:(i - xs.length)*Rp.sz α+j<L.length:=by
      have:(i - xs.length+1)*Rp.sz α<=ys.length*Rp.sz α:=qaj _ (by omega);rw [Nat.add_mul] at this;omega
     have e:=Rb L C (o+xs.length*Rp.sz α) ((i - xs.length)*Rp.sz α+j) Ih bG;have e2:=UK j hj;rw [qb6 bG] at e2;have e3:o+i*Rp.sz α+j=o+xs.length*Rp.sz α+((i - xs.length)*Rp.sz α+j):=by
      have:i*Rp.sz α=xs.length*Rp.sz α+(i - xs.length)*Rp.sz α:=by rw [←Nat.add_mul];congr 1;omega
      omega
     rw [e3,e,e2]
 ·
  have hn:=nextslicecap_le (need:=xs.length+ys.length) (c:=cp) (by omega);have KX: ¬Builtin.nextslicecap (xs.length+ys.length) cp*bt>2^48:=by
   have h1:Builtin.nextslicecap (xs.length+ys.length) cp*bt<=(2*(xs.length+ys.length)+300)*1024:=Nat.mul_le_mul hn Rh;have h2:(2:Nat)^48=281474976710656:=by decide
   omega
  have acH: ¬(((xs.length+ys.length:Nat):Int)>IntKind.i64.max/\(false=true\/bt=0)):=by
   have:IntKind.i64.max=9223372036854775807:=by decide
   omega
  have acI: ¬(((xs.length+ys.length:Nat):Int)>IntKind.i64.max):=by
   have:IntKind.i64.max=9223372036854775807:=by decide
   omega
  let q:Question:= .appendCap (xs.length+ys.length) cp E
  let qg:=q.cut (σ.w.tape σ.w.drawn q)
  have YE:xs.length+ys.length<=qg:=by
   show _<=Question.cut (.appendCap (xs.length+ys.length) cp E) _;simp only [Question.cut];omega
  let Z:=Builtin.zeroCells z.cells (qg - (xs.length+ys.length))
  have hZ:Z.size=(qg - (xs.length+ys.length))*z.cells.size:=by show (Builtin.zeroCells _ _).size=_;simp [Builtin.zeroCells]
  let R:List Value:=K++L++Z.toList
  let w1:World:={ σ.w with drawn:=σ.w.drawn+1 }
  have hR:(K.toArray++L.toArray++Z)=R.toArray:=by
   apply qcn;simp [R]
  have hf1:=kX (P:=P) (σ:=σ) (v:=v) uY hK3 w1 rfl;have hf2:=kX (P:=P) (σ:=σ) (v:=u) hL1 hL3 w1 rfl;have Ax:(askRoom (qg*bt)).run P w1= .ok () w1:=by
   unfold askRoom;split <;> rfl
  have FJ:(choose (.appendCap (xs.length+ys.length) cp E)).run P σ.w= .ok qg w1:=by
   simp [choose,Sem.run,Question.forced,qg,q,w1]
  have P1:(typeInfo E).run P=λw=> .ok i0 w:=by
   funext w;simp [typeInfo,vM]
  have bU:(Builtin.append_ #[T,T'] ty #[v,u]).run P σ.w= .ok (Sl (some ⟨σ.size,0,none⟩) (xs++ys) qg) (σ.new (.cells R.toArray E (0,0)) 1).w:=by
   subst Vw;simp only [Builtin.append_,qaq,qbb,List.getElem?_cons_succ,underlying,hT,pT,Sem.run_bind,run_program,Result.andThen_ok,Sem.run_pure,run_typeInfo hTI,KW,
    wi,if_true,qa6,if_false,qcl,acI,false_and,P1,hi4,KX,FJ,Ax,hf1,hf2,oz hTI,Sl,qat]
   rw [show (K.toArray++L.toArray++Builtin.zeroCells z.cells (qg - (xs.length+ys.length)))=R.toArray from hR]
   rfl
  have AQ:=σ.tx (.cells R.toArray E (0,0)) 1;refine ⟨_,qg,_,bU,(σ.mA _ 1).step (Mod.refl _ _) (.inl rfl) |> λh=>⟨h.os,h.tape,h.output,h.dr,h.ef,h.ext,⟨λb hb _=>h.YD.block b hb (by simp),λb hb _=>h.YD.gA b hb (by simp)⟩⟩,
   .inr ⟨σ.size,0,qg,R.toArray,E,rfl,qX,AQ,by rw [qat];exact YE, ?_,σ.tz _ 1,λi hi=> ?_⟩, .inr (by rintro b ⟨⟩;exact qa3 _),λad0 m0 cp0 e h=>absurd h (by rw [Vw] at e;cases e;exact wi)⟩
  ·simp only [R,qbn,qat,uY,hL1,qce,hZ,AP,qc4];rw [←Nat.add_mul, ←Nat.add_mul];exact qaj _ (by omega)
  ·have hE:=(σ.mA (.cells R.toArray E (0,0)) 1).ext;by_cases Ou:i<xs.length
   ·rw [qb7 Ou];obtain ⟨cs,F7,UK⟩:=Ri i Ou;refine At.tE AQ (Rp.ext hE F7) (λj hj=> ?_);have e2:=UK j hj;have bG:=List.F2 e2;simp only [R,qc4,qaq,List.append_assoc];rw [qbj bG,e2]
   ·rw [qbk (by omega)];rw [qat] at hi;obtain ⟨cs,F7,UK⟩:=hL2 (i - xs.length) (by omega);refine At.tE AQ (Rp.ext hE F7) (λj hj=> ?_);have e2:=UK j hj;have bG:=List.F2 e2;have e3:i*Rp.sz α+j=K.length+((i - xs.length)*Rp.sz α+j):=by
     have:i*Rp.sz α=xs.length*Rp.sz α+(i - xs.length)*Rp.sz α:=by rw [←Nat.add_mul];congr 1;omega
     omega
    simp only [R,qc4,qaq,List.append_assoc];rw [e3,qbw (by omega),Nat.add_sub_cancel_left,qbj bG,e2]
end
end Go.Vs
namespace Go.Vs
open Go
section
variable{P:Program}{ops:Array Oper}{Q:Exit->Act->World->Prop}{n d:Nat}{ρ:Nat->Value}{σ:St}{u v:Value}{rest:List Oper}
variable{ty T T' E E':TypeId}{pos:String}{af:Array Edge}{x y:Operand}{a b:Int}{α:Type}[Rp α]{xs ys:List α}{z:Value}{s bt lo:Nat}{gd:Option (Nat×Bool)}{H:Array Obj}{dst:Option Nat}
def nP{α:Type}(xs ys:List α):Option (List α):=if xs.length+ys.length<=2147483648 then some (xs++ys) else none
theorem zu{α:Type}{xs ys r:List α}(h:nP xs ys=some r):xs.length+ys.length<=2147483648/\r=xs++ys:=by
 unfold nP at h;split at h
 ·exact ⟨by assumption,(qai h).symm⟩
 ·cases h
inductive Flat(el:Nat)(σ:St):List Value->List α->Prop
 | nil:Flat el σ [] []
 | cons {c cs:List Value} {x:α} {xs:List α}:Rp.rp el σ c x->Flat el σ cs xs->Flat el σ (c++cs) (x::xs)
theorem Flat.length{el:Nat}{cs:List Value}{xs:List α}(h:Flat el σ cs xs):cs.length=xs.length*Rp.sz α:=by
 induction h with
 | nil=>simp
 | cons h1 h2 ih=>rw [qat,ih,Rp.len h1,qb2,Nat.add_mul];omega
theorem Flat.get{el:Nat}{cs:List Value}{xs:List α}(h:Flat el σ cs xs): ∀i,(hi:i<xs.length)-> ∃c,Rp.rp el σ c xs[i]/\ ∀j,(hj:j<c.length)->cs[i*Rp.sz α+j]? =some c[j]:=by
 induction h with
 | nil=>intro i hi;simp at hi
 | @cons c cs x xs h1 h2 ih=>
  intro i hi;cases i with
  | zero=>
   refine ⟨c,h1,λj hj=> ?_⟩;rw [Nat.zero_mul,qc4,qbj hj];simp [hj]
  | succ i=>
   obtain ⟨c',h3,h4⟩:=ih i (by simpa using hi);refine ⟨c',h3,λj hj=> ?_⟩;have:=Rp.len h1;rw [qbw (by rw [Nat.add_mul];omega),show (i+1)*Rp.sz α+j - c.length=i*Rp.sz α+j by rw [Nat.add_mul];omega];exact h4 j hj
theorem Flat.ext{el:Nat}{σ':St}{cs:List Value}{xs:List α}(h:Flat el σ cs xs)(hE:Ext σ σ'):Flat el σ' cs xs:=by
 induction h with
 | nil=>exact .nil
 | cons h1 h2 ih=>exact .cons (Rp.ext hE h1) ih
theorem Bx.ow{el:Nat}{bl:Nat}{cs:List Value}(h:Bx σ bl cs)(hf:Flat el σ cs xs)(qX:lo<=bl):Ow σ lo el (Sl (some ⟨bl,0,none⟩) xs xs.length) xs:=by
 obtain ⟨T,h1,h2⟩:=h;refine .inr ⟨bl,0,xs.length,cs.toArray,T,rfl,qX,h1,qa3 _, ?_,h2,λi hi=> ?_⟩
 ·simp [hf.length]
 ·obtain ⟨c,h3,h4⟩:=hf.get i hi;exact At.tE h1 h3 (λj hj=>by simpa using h4 j hj)
theorem Cl{el:Nat}{len:Nat}{parts:Array (Nat×Operand)}{ps:List (Nat×Value)}{cs:List Value}(hT:P.underlying T=some (.slice E))(hi:TI P E z s bt)
  (KX:Nat.ble (len*s) 16777216=true) (hp:parts.toList.map (λp=>(p.1,ev n ρ p.2))=ps)
  (Ay:Instr.fill (λi=>some (i*s,s)) ((Array.range (len*s)).map (λk=>(if len*s=0 then #[] else z.cells)[k % (if len*s=0 then #[] else z.cells).size]!)) ps=some cs.toArray)
  (hf:Flat el σ cs xs) (hl:xs.length=len) (qX:lo<=σ.size):
  ∃(b:Nat) (σ':St),σ.size=b/\zt P σ.w n ρ ⟨dst, .buildSlice T len parts,ty,pos,af,gd⟩ (Sl (some ⟨b,0,none⟩) xs len) σ'.w/\Mod none σ σ'/\Ow σ' lo el (Sl (some ⟨b,0,none⟩) xs len) xs:=by
 have VU:Bx (σ.new (.cells cs.toArray E (0,0)) 0) σ.size cs:=⟨E,St.tx _ _ _,St.tz _ _ _⟩;have hm:=σ.mA (.cells cs.toArray E (0,0)) 0;refine ⟨σ.size,σ.new (.cells cs.toArray E (0,0)) 0,rfl, ?_,hm,by
  have:=VU.ow (hf.ext hm.ext) qX;rw [hl] at this;exact this⟩
 have hb: ¬len*s>2^24:=by
  have:=qa5 KX;have e:(2:Nat)^24=16777216:=by decide
  omega
 have key:(Instr.buildSlice T len ps.toArray).run P σ.w= .ok (.slice (some ⟨σ.size,0,none⟩) len len) (σ.new (.cells cs.toArray E (0,0)) 0).w:=by
  by_cases h0:len*s=0
  ·simp only [h0,if_true] at Ay;have hb0: ¬(0>2^24):=by omega
   simp only [Instr.buildSlice,underlying,hT,Sem.run_bind,run_program,Result.andThen_ok,Sem.run_pure,run_typeInfo hi,hb0,if_false,h0,if_true,Ay,newRow,newObj,Sem.run]
   rfl
  ·simp only [h0,if_false] at Ay;simp only [Instr.buildSlice,underlying,hT,Sem.run_bind,run_program,Result.andThen_ok,Sem.run_pure,run_typeInfo hi,hb,if_false,h0,oz hi,Ay,newRow,newObj,Sem.run]
   rfl
 have hpp:(parts.map fun (i,x)=>(i,ev n ρ x))=ps.toArray:=by rw [←hp, ←Array.toList_map]
 simp only [zt,execOp,hpp,Sem.run_bind,key,Result.andThen_ok,Sem.run_pure,Sl,hl]
def Az{α:Type}(k:Int)(z0:α):Option (List α):=if 0<=k/\k<=2147483648 then some (List.replicate k.toNat z0) else none
theorem EL{zc:Array Value}{m i j:Nat}(hi:i<m)(hj:j<zc.size):
  ((Array.range (m*zc.size)).map (λk=>zc[k % zc.size]!))[i*zc.size+j]? =zc[j]? :=by
 have h:(i+1)*zc.size<=m*zc.size:=qaj _ hi;rw [Nat.add_mul] at h;rw [qc8,Array.getElem?_range,if_pos (by omega)];simp only [qac];have:(i*zc.size+j) % zc.size=j:=by rw [Nat.mul_comm,Nat.mul_add_mod,Nat.mod_eq_of_lt hj]
 rw [this,getElem!_pos zc j hj,Array.getElem?_eq_getElem hj]
theorem run_make{el:Nat}{z0:α}{zs:List Value}(hT:P.underlying T=some (.slice E))(hi:TI P E z s bt)(hs:s=Rp.sz α)(hzc:z.cells=zs.toArray)(hz:Rp.rp el σ zs z0)(Rh:bt<=1024)
  (hr:Az a z0=some xs) (hx:ev n ρ x=I a) (hy:ev n ρ y=I a) (qX:lo<=σ.size)
  : ∃(b:Nat) (σ':St) (c':Nat),c'=a.toNat/\zt P σ.w n ρ ⟨dst, .makeSlice T x y,ty,pos,af,gd⟩ (Sl (some ⟨b,0,none⟩) xs c') σ'.w/\Mod none σ σ'/\Ow σ' lo el (Sl (some ⟨b,0,none⟩) xs c') xs:=by
 unfold Az at hr;split at hr
 case isFalse=>cases hr
 rename_i h01;obtain ⟨h0,h1⟩:=h01;cases hr;obtain ⟨i0,vM,Bz,P0,Rj⟩:=hi.it;have P1: ∀w,(typeInfo E).run P w= .ok i0 w:=by
  intro w;simp only [typeInfo,Sem.run_bind,run_program,Result.andThen_ok,vM];rfl
 have mR:zs.length=Rp.sz α:=Rp.len hz;have uW:0<Rp.sz α:=Rp.pos
 let C:Array Value:=(Array.range (a.toNat*s)).map (λk=>(if a.toNat*s=0 then #[] else z.cells)[k % (if a.toNat*s=0 then #[] else z.cells).size]!)
 have Ax:(askRoom (a.toNat*bt)).run P σ.w= .ok () σ.w:=by unfold askRoom;split <;> rfl
 have Yq:IntKind.i64.wrap a=a:=aU (by omega) (by omega);have htl:decide ((bt:Int)*a>2^48)=false:=by
  have h2:(2:Int)^48=281474976710656:=by decide
  have:(bt:Int)*a<=1024*2147483648:=Int.mul_le_mul (by omega) h1 h0 (by omega);simp only [decide_eq_false_iff_not];omega
 have bU:(Instr.makeSlice T (I a) (I a)).run P σ.w= .ok (.slice (some ⟨σ.size,0,none⟩) a.toNat a.toNat) (σ.new (.cells C E (0,0)) 0).w:=by
  have bG:(decide (a<0))=false:=by simp;omega
  have hgt:(decide (a>a))=false:=by simp
  by_cases h00:a.toNat*s=0
  ·simp only [Instr.makeSlice,underlying,hT,Sem.run_bind,run_program,Result.andThen_ok,Sem.run_pure,asInt,asIntOf,P1,Rj,Yq,htl,bG,hgt,Bool.or_self,qa6,if_false,Ax,run_typeInfo hi,h00,if_true,newRow,newObj,Sem.run,C]
   rfl
  ·simp only [Instr.makeSlice,underlying,hT,Sem.run_bind,run_program,Result.andThen_ok,Sem.run_pure,asInt,asIntOf,P1,Rj,Yq,htl,bG,hgt,Bool.or_self,qa6,if_false,Ax,run_typeInfo hi,h00,oz hi,newRow,newObj,Sem.run,C]
   rfl
 have AQ:=σ.tx (.cells C E (0,0)) 0;have hm:=σ.mA (.cells C E (0,0)) 0;have hlen:(List.replicate a.toNat z0).length=a.toNat:=List.length_replicate;refine ⟨σ.size,σ.new (.cells C E (0,0)) 0,a.toNat,rfl, ?_,hm, .inr ⟨σ.size,0,a.toNat,C,E,rfl,qX,AQ,by rw [hlen];exact qa3 _, ?_,St.tz _ _ _,λi gz=> ?_⟩⟩
 ·simp only [zt,execOp,hx,hy,Sem.run_bind,bU,Result.andThen_ok,Sem.run_pure,Sl,hlen]
 ·simp [C,hs]
 ·rw [hlen] at gz;rw [List.getElem_replicate];refine At.tE AQ (Rp.ext hm.ext hz) (λj hj=> ?_);have jE: ¬a.toNat*s=0:=by
   have:0<a.toNat*s:=Nat.mul_pos (by omega) (by omega);omega
  have aaa:z.cells.size=s:=by rw [hzc,hs];simpa using mR
  have hg:=EL (zc:=z.cells) (m:=a.toNat) (i:=i) (j:=j) gz (by rw [aaa,hs, ←mR];exact hj);simp only [C,jE,if_false,qc4];rw [aaa] at hg;rw [hs] at hg ⊢;simp only [aaa,hs] at hg ⊢;rw [hg,hzc];simp [hj]
end
end Go.Vs
namespace Go.Vs
open Go
def eI{α:Type}(xs:List α)(l h:Int):Option (List α):=if 0<=l/\l<=h/\h<=(xs.length:Int) then some ((xs.take h.toNat).drop l.toNat) else none
structure UN(a:Option Addr)(m c s:Nat)(l h:Int)(a':Option Addr)(m' c':Nat):Prop where
 h0:0<=l
 h1:l<=h
 h2:h<=(m:Int)
 h3:m<=c
 ea:a'=if c=l.toNat then a else a.map (·.add (l.toNat*s))
 em:m'=h.toNat - l.toNat
 ec:c'=c - l.toNat
section
variable{P:Program}{ops:Array Oper}{Q:Exit->Act->World->Prop}{n d:Nat}{ρ:Nat->Value}{σ:St}{u v:Value}{rest:List Oper}
variable{ty T T' E E':TypeId}{pos:String}{af:Array Edge}{x y p q:Operand}{a b l h:Int}{α:Type}[Rp α]{xs ys r:List α}{z:Value}{s bt lo:Nat}{gd:Option (Nat×Bool)}{H:Array Obj}{dst:Option Nat}{ad ov:Option Addr}{m c m' c':Nat}
omit [Rp α] in
theorem jI(hg:eI xs l h=some r):0<=l/\l<=h/\h<=(xs.length:Int)/\r=(xs.take h.toNat).drop l.toNat/\r.length=h.toNat - l.toNat:=by
 unfold eI at hg;split at hg
 ·rename_i hc;cases hg;refine ⟨hc.1,hc.2.1,hc.2.2,rfl, ?_⟩;rw [List.length_drop,qan];omega
 ·cases hg
omit [Rp α] in
theorem Rm(hg:eI xs l h=some r)(i:Nat)(hi:i<r.length): ∃hj:l.toNat+i<xs.length,r[i]=xs[l.toNat+i]:=by
 obtain ⟨h0,h1,h2,rfl,h4⟩:=jI hg;refine ⟨by omega, ?_⟩;rw [List.getElem_drop,qcd]
theorem Rd.Rn{el:Nat}(hR:Rd el σ (Sl ad xs c) xs)(wi:xs.length<=c)(hg:eI xs l h=some r):
  ∃ov c',UN ad xs.length c (Rp.sz α) l h ov r.length c'/\((ov=ad/\c'=c/\xs=[]/\r=[])\/ ∃bl o cp o',ad=some ⟨bl,o,none⟩/\Sl ov r c'= .slice (some ⟨bl,o',none⟩) r.length cp/\cp=c - l.toNat/\
   (o'=o+l.toNat*Rp.sz α\/(o'=o/\r=[]/\cp=0))/\ ∀i,(hi:i<r.length)->At el σ bl (o'+i*Rp.sz α) r[i]):=by
 obtain ⟨h0,h1,h2,h3,h4⟩:=jI hg;refine ⟨if c=l.toNat then ad else ad.map (·.add (l.toNat*Rp.sz α)),c - l.toNat,⟨h0,h1,h2,wi,rfl,h4,rfl⟩, ?_⟩;rcases hR with ⟨hv,rfl⟩ | ⟨bl,o,cp,hv,hA⟩
 ·simp only [List.length_nil] at h2;have:l=0:=by omega
  subst this;have hr:r=[]:=qb9 (by omega);subst hr;refine .inl ⟨?_,by simp,rfl,rfl⟩;split
  ·rfl
  ·cases ad with
   | none=>rfl
   | some a=>simp [Addr.add]
 ·cases hv;right;by_cases hc:c=l.toNat
  ·have hr:r=[]:=qb9 (by omega);subst hr;exact ⟨bl,o,c - l.toNat,o,rfl,by simp [hc],rfl, .inr ⟨rfl,rfl,by omega⟩,λi hi=>by simp at hi⟩
  ·refine ⟨bl,o,c - l.toNat,o+l.toNat*Rp.sz α,rfl,by simp [hc,add_plain],rfl, .inl rfl,λi hi=> ?_⟩;obtain ⟨hj,e⟩:=Rm hg i hi;rw [e,Nat.add_assoc, ←Nat.add_mul];exact hA _ hj
theorem RS.cap{el:Nat}(hR:RS el σ (Sl ad xs c) xs):xs.length<=c:=by
 rcases hR with ⟨hv,rfl⟩ | ⟨b2,o2,c2,hv,_,h4,_⟩
 ·simp
 ·cases hv;exact h4
theorem RS.slice{el:Nat}(hR:RS el σ (Sl ad xs c) xs)(hg:eI xs l h=some r): ∃ov c',UN ad xs.length c (Rp.sz α) l h ov r.length c'/\RS el σ (Sl ov r c') r:=by
 obtain ⟨h0,h1,h2,h3,h4⟩:=jI hg;have wi:=hR.cap;obtain ⟨ov,c',hs,hx⟩:=hR.rd.Rn wi hg;refine ⟨ov,c',hs, ?_⟩;by_cases hr:r=[]
 ·subst hr;exact .inl ⟨⟨_,_,rfl⟩,rfl⟩
 rcases hx with ⟨_,_,_,hx⟩ | ⟨bl,o,cp,o',rfl,e1,e2,e3,e4⟩
 ·exact absurd hx hr
 ·rcases hR with ⟨_,rfl⟩ | ⟨b2,o2,c2,hv,hel,_,aab,_⟩
  ·exact absurd (qb9 (by simp at h2;omega)) hr
  ·cases hv;refine .inr ⟨bl,o',cp,e1,hel,by omega, ?_,e4⟩;rcases e3 with rfl | ⟨rfl,rfl,_⟩
   ·have:(l.toNat+r.length)*Rp.sz α<=xs.length*Rp.sz α:=qaj _ (by omega);rw [Nat.add_mul] at this;omega
   ·exact absurd rfl hr
theorem Ow.cap{el:Nat}(hO:Ow σ lo el (Sl ad xs c) xs):xs.length<=c:=by
 rcases hO with ⟨hv,rfl⟩ | ⟨b2,o2,c2,C,T,hv,_,_,h4,_⟩
 ·simp
 ·cases hv;exact h4
theorem Ow.slice{el:Nat}(hO:Ow σ lo el (Sl ad xs c) xs)(hg:eI xs l h=some r): ∃ov c',UN ad xs.length c (Rp.sz α) l h ov r.length c'/\Ow σ lo el (Sl ov r c') r/\(∀b,blk (Sl ov r c')=some b->blk (Sl ad xs c)=some b):=by
 obtain ⟨h0,h1,h2,h3,h4⟩:=jI hg;have wi:=hO.cap;obtain ⟨ov,c',hs,hx⟩:=hO.rd.Rn wi hg;refine ⟨ov,c',hs, ?_, ?_⟩
 ·rcases hx with ⟨rfl,rfl,rfl,rfl⟩ | ⟨bl,o,cp,o',rfl,e1,e2,e3,e4⟩
  ·exact hO
  ·rcases hO with ⟨hv,_⟩ | ⟨b2,o2,c2,C,T0,hv,g2,g3,g4,g5,g6,_⟩
   ·cases hv
   ·cases hv;refine .inr ⟨bl,o',cp,C,T0,e1,g2,g3,by omega, ?_,g6,e4⟩;rcases e3 with rfl | ⟨rfl,rfl,h9⟩
    ·have:(l.toNat+cp)*Rp.sz α<=c*Rp.sz α:=qaj _ (by omega);rw [Nat.add_mul] at this;omega
    ·subst h9;simp only [Nat.zero_mul];omega
 ·intro b hb;rcases hx with ⟨rfl,rfl,rfl,rfl⟩ | ⟨bl,o,cp,o',rfl,e1,e2,e3,e4⟩
  ·exact hb
  ·rw [e1] at hb;cases hb;rfl
theorem EM{pZ gz:Option Value}(hT:P.underlying T=some (.slice E))(hi:TI P E z s bt)(hs:UN ad m c s l h ov m' c')
  (hl:pZ=some (I l)\/(pZ=none/\l=0)) (hh:gz=some (I h)\/(gz=none/\h=m)) (w:World):
  (Instr.sliceAt T (.slice ad m c) pZ gz none).run P w= .ok (.slice ov m' c') w:=by
 obtain ⟨h0,h1,h2,h3,rfl,rfl,rfl⟩:=hs;have hh':h<=(c:Int):=by omega
 have Hx:0<=h:=by omega
 have e1:(h.toNat:Int)=h:=Int.toNat_of_nonneg Hx;rcases hl with rfl | ⟨rfl,rfl⟩ <;> rcases hh with rfl | ⟨rfl,rfl⟩ <;>
  simp [Instr.sliceAt,Instr.slice,underlying,hT,Instr.sliceBounds,Instr.sliceBound,asIntOf,h0,Hx,hh',h1,e1,run_typeInfo hi]
theorem xa(hT:P.underlying T=some (.slice E))(hi:TI P E z s bt)(hs:UN ad m c s l m ov m' c')(hx:ev n ρ x= .slice ad m c)(hp:ev n ρ p=I l):
  dX P H n ρ ⟨dst, .slice T x (some p) none none,ty,pos,af,gd⟩ (.slice ov m' c'):=λw _=>by
 simp [execOp,hx,hp,EM hT hi hs (.inl rfl) (.inr ⟨rfl,rfl⟩)]
theorem jQ(hT:P.underlying T=some (.slice E))(hi:TI P E z s bt)(hs:UN ad m c s 0 h ov m' c')(hx:ev n ρ x= .slice ad m c)(hq:ev n ρ q=I h):
  dX P H n ρ ⟨dst, .slice T x none (some q) none,ty,pos,af,gd⟩ (.slice ov m' c'):=λw _=>by
 simp [execOp,hx,hq,EM hT hi hs (.inr ⟨rfl,rfl⟩) (.inl rfl)]
theorem DW{el:Nat}{e e':α}{bl o o' k:Nat}{vs:List Value}(hi:TI P T z s bt)(hO:Ow σ lo el v xs)(hg:bs xs a=some e)(Ou:Ix v a (Rp.sz α) bl o)(hx:ev n ρ x=pt bl o')(ho:o'=o+k)(hy:ev n ρ y=u)
  (hu:u.cells=vs.toArray) (hs:vs.length=s) (hk:k+vs.length<=Rp.sz α) (hp: ∀t∈vs,plain t=true) (hrp: ∀cs,Rp.rp el σ cs e->Rp.rp el σ (F6 cs k vs) e')
  : ∃σ':St,Rf P σ.w n ρ ⟨dst, .store T x y,ty,pos,af,gd⟩ σ'.w/\Mod (blk v) σ σ'/\Ow σ' lo el v (xs.set a.toNat e'):=by
 subst ho;obtain ⟨ob,m,c,rfl,h0,h1,rfl⟩:=Ou.it;obtain ⟨_,bG,he⟩:=lD hg;rcases hO with ⟨hv,_⟩ | ⟨b2,o2,c2,C,T0,hv,g2,g3,g4,g5,g6,g7⟩
 ·cases hv
 cases hv;have hb:=lt_of_block g3;have KR:(a.toNat+1)*Rp.sz α<=c*Rp.sz α:=qaj _ (by omega);rw [Nat.add_mul] at KR;have fu:=iD (P:=P) bl (ob+a.toNat*Rp.sz α+k) T0 vs 0 σ.w C g3 (by omega) hp;simp only [qcj] at fu;have hm:=St.vK (σ:=σ) (o:= .cells (wr C (ob+a.toNat*Rp.sz α+k) vs) T0 (0,0)) g6;refine ⟨σ.put bl (.cells (wr C (ob+a.toNat*Rp.sz α+k) vs) T0 (0,0)), ?_,hm, .inr ⟨bl,ob,c,_,T0,by rw [qb3],g2,World.tD _ hb,by rw [qb3];exact g4,by rw [F3];exact g5,g6,λi gz=> ?_⟩⟩
 ·simp [Rf,execOp,hx,hy,Instr.storeAt,Instr.sureAddr,storeVar,run_typeInfo hi,hu,hs,fu,St.put]
 ·rw [qb3] at gz;by_cases hia:i=a.toNat
  ·subst hia;simp only [List.getElem_set_self];obtain ⟨cs,h3,h4⟩:=he▸g7 _ gz;have hl:=Rp.len h3;have rz:=Rp.len (hrp cs h3);refine ⟨F6 cs k vs,Rp.ext hm.ext (hrp cs h3),λj hj=> ?_⟩;have e0:(σ.put bl (.cells (wr C (ob+a.toNat*Rp.sz α+k) vs) T0 (0,0))).cell bl (ob+a.toNat*Rp.sz α+j)=(wr C (ob+a.toNat*Rp.sz α+k) vs)[ob+a.toNat*Rp.sz α+j]? :=by
    show (World.put σ.w bl _).cell? _=_;simp only [World.cell?, World.tD _ hb,qbp,qa6,if_false]
   have e1:(wr cs.toArray k vs)[j]? =some (F6 cs k vs)[j]:=by rw [MN];simp
   rw [e0, ←e1];by_cases hj1:j<k
   ·rw [EJ _ _ _ _ (by omega),EJ _ _ _ _ hj1];have:=h4 j (by omega);have e3:σ.cell bl (ob+a.toNat*Rp.sz α+j)=C[ob+a.toNat*Rp.sz α+j]? :=by
     show σ.w.cell? _=_;simp only [World.cell?, g3,qbp,qa6,if_false]
    rw [←e3,this];simp
   ·by_cases ZV:j<k+vs.length
    ·have e4:=Rb vs C (ob+a.toNat*Rp.sz α+k) (j - k) (by omega) (by omega);have e5:=Rb vs cs.toArray k (j - k) (by simp;omega) (by omega);rw [show ob+a.toNat*Rp.sz α+j=ob+a.toNat*Rp.sz α+k+(j - k) by omega,e4, ←e5];congr 1;omega
    ·rw [Ra _ _ _ _ (by omega),Ra _ _ _ _ (by omega)];have:=h4 j (by omega);have e3:σ.cell bl (ob+a.toNat*Rp.sz α+j)=C[ob+a.toNat*Rp.sz α+j]? :=by
      show σ.w.cell? _=_;simp only [World.cell?, g3,qbp,qa6,if_false]
     rw [←e3,this];simp
  ·rw [List.getElem_set_ne (by omega)];have jE: ∀j,j<Rp.sz α->(wr C (ob+a.toNat*Rp.sz α+k) vs)[ob+i*Rp.sz α+j]? =C[ob+i*Rp.sz α+j]? :=by
    intro j hj;by_cases Zv:i<a.toNat
    ·have:(i+1)*Rp.sz α<=a.toNat*Rp.sz α:=qaj _ Zv;rw [Nat.add_mul] at this;exact EJ _ _ _ _ (by omega)
    ·have:(a.toNat+1)*Rp.sz α<=i*Rp.sz α:=qaj _ (by omega);rw [Nat.add_mul] at this;exact Ra _ _ _ _ (by omega)
   exact (g7 i gz).put g3 g6 jE
theorem EN{k:Nat}{a0:Addr}(hT:P.underlying T=some (.array k E))(hx:ev n ρ x= .slice (some a0) m c)(hm:k<=m):
  dX P H n ρ ⟨dst, .sliceToArrayPointer T x,ty,pos,af,gd⟩ (.pointer (some a0)):=λw _=>by
 have: ¬m<k:=by omega
 simp [execOp,hx,Instr.arrayAt,underlying,hT,this]
theorem RS.arr{el:Nat}{zs:List Int}(hR:RS el σ (Sl ad zs c) zs)(hp:0<zs.length): ∃bl o,ad=some ⟨bl,o,none⟩/\ ∀j,(hj:j<zs.length)->jH σ.w.heap bl (o+j)=some (I zs[j]):=by
 rcases hR with ⟨_,rfl⟩ | ⟨bl,o,c2,hv,_,_,_,hA⟩
 ·simp at hp
 ·cases hv;refine ⟨bl,o,rfl,λj hj=> ?_⟩;have:=(hA j hj).int;simpa [Rp.sz] using this
end
end Go.Vs
namespace Go.Vs
open Go
theorem bind_some{α β:Type}{o:Option α}{f:α->Option β}{r:β}(h:o.bind f=some r): ∃x,o=some x/\f x=some r:=qam.1 h
theorem Yy{α:Type}{b:Bool}{x y z:α}(hb:b=true)(h:(bif b then x else y)=z):x=z:=by subst hb;exact h
theorem Yz{α:Type}{b:Bool}{x y z:α}(hb:b=false)(h:(bif b then x else y)=z):y=z:=by subst hb;exact h
def bk{α β γ:Type}(f:α->γ)(g:β->γ):α⊕β->γ
 | .inl a=>f a
 | .inr b=>g b
theorem kN{α β γ:Type}{f:α->γ}{g:β->γ}{a:α}{z:γ}(h:bk f g (.inl a)=z):f a=z:=h
theorem kO{α β γ:Type}{f:α->γ}{g:β->γ}{a:β}{z:γ}(h:bk f g (.inr a)=z):g a=z:=h
def Ov(a b:Int):Option Int:=if b=0 then none else some (ao (a.tdiv b))
def F8(a b:Int):Option Int:=if b=0 then none else some (a.tmod b)
theorem Ox{a b r:Int}(h:Ov a b=some r):b≠0/\r=ao (a.tdiv b):=by
 unfold Ov at h;split at h
 ·cases h
 ·exact ⟨by assumption,(qai h).symm⟩
theorem Oy{a b r:Int}(h:F8 a b=some r):b≠0/\r=a.tmod b:=by
 unfold F8 at h;split at h
 ·cases h
 ·exact ⟨by assumption,(qai h).symm⟩
section
variable{P:Program}{H:Array Obj}{n:Nat}{ρ:Nat->Value}{d:Option Nat}{ty T T':TypeId}{pos:String}{af:Array Edge}{gd:Option (Nat×Bool)}{x y:Operand}{a b r:Int}
theorem VV(h:Ov a b=some r)(hx:ev n ρ x=I a)(hy:ev n ρ y=I b):dX P H n ρ ⟨d, .binOp .quo T x y T',ty,pos,af,gd⟩ (I r):=by
 obtain ⟨h0,rfl⟩:=Ox h;exact Cj hx hy h0
theorem BA(h:F8 a b=some r)(hx:ev n ρ x=I a)(hy:ev n ρ y=I b):dX P H n ρ ⟨d, .binOp .rem T x y T',ty,pos,af,gd⟩ (I r):=by
 obtain ⟨h0,rfl⟩:=Oy h;exact KT hx hy h0
end
def Oz{α:Type}(k:Nat)(xs:List α):Option (List α):=if k<=xs.length then some (xs.take k) else none
theorem EO{α:Type}{k:Nat}{xs r:List α}(h:Oz k xs=some r):k<=xs.length/\r=xs.take k:=by
 unfold Oz at h;split at h
 ·exact ⟨by assumption,(qai h).symm⟩
 ·cases h
theorem Iq{H:Array Obj}{b o:Nat}{xs:List Int}{k:Nat}(h: ∀j,(hj:j<xs.length)->jH H b (o+j)=some (I xs[j])): ∀j,(hj:j<(List.map I (xs.take k)).length)->jH H b (o+j)=some (List.map I (xs.take k))[j]:=by
 intro j hj;rw [qbu,qan] at hj;rw [h j (by omega)];simp
theorem Rq{xs ys:List Int}{k:Nat}(h1:xs.length=k)(h2:ys.length=k):0+(List.map I xs).length<=(List.map I ys).length:=by simp;omega
def sd{S R:Type}(f:S->Option (S⊕R)):Nat->S->Option R
 | 0,_=>none
 | n+1,s=>(f s).bind (bk (λs'=>sd f n s') (λr=>some r))
theorem xb{S R:Type}(f:S->Option (S⊕R)): ∀(n m:Nat) (s:S) (r:R),n<=m->sd f n s=some r->sd f m s=some r
 | 0,_,_,_,_,h=>by cases h
 | n+1,0,_,_,hm,_=>by omega
 | n+1,m+1,s,r,hm,h=>by
  obtain ⟨o,ho,h⟩:=bind_some h;rw [sd,ho];cases o with
  | inl s'=>exact xb f n m s' r (by omega) h
  | inr t=>exact h
open Classical in
noncomputable def cu{S R:Type}(f:S->Option (S⊕R))(s:S):Option R:=if h: ∃r n,sd f n s=some r then some h.choose else none
theorem Cn{S R:Type}{f:S->Option (S⊕R)}{n:Nat}{s:S}{r:R}(h:sd f n s=some r):cu f s=some r:=by
 have hx: ∃r n,sd f n s=some r:=⟨r,n,h⟩;unfold cu;rw [dif_pos hx];obtain ⟨m,hm⟩:=hx.choose_spec;have h1:=xb f n (max n m) s r (by omega) h;have h2:=xb f m (max n m) s _ (by omega) hm;rw [h1] at h2;exact h2.symm
theorem qd{S R:Type}{f:S->Option (S⊕R)}{s:S}{r:R}(h:cu f s=some r): ∃n,sd f n s=some r:=by
 unfold cu at h;split at h
 ·rename_i hx;obtain ⟨n,hn⟩:=hx.choose_spec;exact ⟨n,(qai h)▸hn⟩
 ·cases h
theorem bq{S R:Type}(f:S->Option (S⊕R))(s:S):cu f s=(f s).bind (bk (λs'=>cu f s') (λr=>some r)):=by
 cases hf:f s with
 | none=>
  cases h:cu f s with
  | none=>rfl
  | some r=>
   obtain ⟨n,hn⟩:=qd h;cases n with
   | zero=>cases hn
   | succ n=>rw [sd,hf] at hn;cases hn
 | some o=>
  cases o with
  | inr r=>exact Cn (n:=1) (by rw [sd,hf];rfl)
  | inl s'=>
   show _=cu f s';cases h:cu f s' with
   | some r=>
    obtain ⟨n,hn⟩:=qd h;exact Cn (n:=n+1) (by rw [sd,hf];exact hn)
   | none=>
    cases h':cu f s with
    | none=>rfl
    | some r=>
     obtain ⟨n,hn⟩:=qd h';cases n with
     | zero=>cases hn
     | succ n=>
      rw [sd,hf] at hn;have:=Cn (f:=f) (n:=n) (s:=s') (r:=r) hn;rw [h] at this;cases this
theorem EP{S R:Type}{f:S->Option (S⊕R)}(J:S->Prop)(μ:S->Nat)(Z:R->Prop)(step: ∀s,J s->(∃s',f s=some (.inl s')/\J s'/\μ s'<μ s)\/ ∃r,f s=some (.inr r)/\Z r):
  ∀(s:S),J s-> ∃r,cu f s=some r/\Z r:=by
 have key: ∀k s,μ s=k->J s-> ∃r,cu f s=some r/\Z r:=by
  intro k
  induction k using Nat.strongRecOn with
  | _ k ih=>
   intro s hk hJ;rcases step s hJ with ⟨s',h1,h2,h3⟩ | ⟨r,h1,h2⟩
   ·obtain ⟨r,h4,h5⟩:=ih _ (hk▸h3) s' rfl h2;exact ⟨r,by rw [bq,h1];exact h4,h5⟩
   ·exact ⟨r,by rw [bq,h1];rfl,h2⟩
 exact λs hJ=>key _ s rfl hJ
section
variable{P:Program}{Q:Exit->Act->World->Prop}{a:Act}{w:World}
theorem bZ{S R:Type}{c:Code}(f:S->Option (S⊕R)){s0:S}{r:R}(hr:cu f s0=some r)(J:S->Act->World->Prop)(h0:J s0 a w)
  (round: ∀s a w o,J s a w->f s=some o->(∀t,o= .inr t->t=r)->c.wp P (Exit.then (λa' w'=> ∃s',o= .inl s'/\J s' a' w') Q) a w):(Code.loop c).wp P Q a w:=by
 obtain ⟨n,hn⟩:=qd hr;refine wp_loop_ghost (λk a w=> ∃s,sd f k s=some r/\J s a w) n ⟨s0,hn,h0⟩ ?_;rintro k a w ⟨s,hk,hJ⟩;cases k with
 | zero=>cases hk
 | succ k=>
  obtain ⟨o,ho,hk⟩:=bind_some hk;refine wp_mono (round s a w o hJ ho (by rintro t rfl;exact qai hk)) ?_;intro e a' w' hq;cases e with
  | normal=>
   obtain ⟨s',rfl,Om⟩:=hq;exact ⟨k,Nat.lt_succ_self k,s',hk,Om⟩
  | exit id=>exact hq
  | goto l=>exact hq
  | ret=>exact hq
  | panic ch=>exact hq
  | outgrown=>exact hq
theorem az{K:Act->World->Prop}(h:K a w):Exit.then K Q .normal a w:=h
theorem aC{K:Act->World->Prop}{i:Nat}(h:Q (.exit i) a w):Exit.then K Q (.exit i) a w:=h
theorem aF{K:Act->World->Prop}(h:Q .ret a w):Exit.then K Q .ret a w:=h
theorem bX{id:Nat}(h:Q .normal a w):Exit.inBlock id Q .normal a w:=h
theorem bD{id:Nat}(h:Q .normal a w):Exit.inBlock id Q (.exit id) a w:=by simp only [Exit.inBlock,if_true];exact h
theorem F9{id i:Nat}(hi:i≠id)(h:Q (.exit i) a w):Exit.inBlock id Q (.exit i) a w:=by simp only [Exit.inBlock,hi,if_false];exact h
theorem dD{id:Nat}(h:Q .ret a w):Exit.inBlock id Q .ret a w:=h
theorem bV{id:Nat}{c:Code}(h:c.wp P (Exit.inBlock id Q) a w):(Code.block id c).wp P Q a w:=wp_block h
theorem dy{x y:Code}(h:x.wp P (Exit.then (y.wp P Q) Q) a w):(Code.seq x y).wp P Q a w:=wp_seq h
theorem eF(h:Q .normal a w):Code.skip.wp P Q a w:=wp_skip h
theorem QS(h:Q .ret a w):Code.ret.wp P Q a w:=wp_ret h
theorem dH{i:Nat}(h:Q (.exit i) a w):(Code.exit i).wp P Q a w:=wp_exit h
theorem cj{c:Code}(J:Exit->Act->World->Prop)(h:c.wp P J a w)(k: ∀e a w,J e a w->Q e a w):c.wp P Q a w:=wp_mono h k
theorem bo{ops:Array Oper}(h:Q .normal a w):wpList P ops Q [] a w:=h
end
end Go.Vs
namespace Go.Vs
open Go
def cz(ρ:Nat->Value):List (Nat×Value)->Nat->Value
 | [],t=>ρ t
 | (d,v)::r,t=>bif Nat.beq t d then v else cz ρ r t
def agree(ρ:Nat->Value):List (Nat×Value)->Prop
 | []=>True
 | (d,v)::r=>ρ d=v/\agree ρ r
theorem ER{ρ:Nat->Value}: ∀{l:List (Nat×Value)},agree ρ l->cz ρ l=ρ
 | [],_=>rfl
 | (d,v)::r,⟨h1,h2⟩=>by
  funext t;rw [cz,ER h2];by_cases h:t=d
  ·subst h;rw [ML];exact h1.symm
  ·rw [tZ h];rfl
theorem ri{n:Nat}{ρ:Nat->Value}{l:List (Nat×Value)}(h:agree ρ l):fr n ρ=fr n (cz ρ l):=by rw [ER h]
theorem Ow.af9{el:Nat}{α:Type}[Rp α]{σ:St}{lo:Nat}{v:Value}{xs:List α}(h:Ow σ lo el v xs)(hel:el<=lo): ∃σ':St,σ'.w=σ.w/\Mod (blk v) σ σ'/\RS el σ' v xs:=by
 have hl:=h.lt;rcases h with ⟨rfl,rfl⟩ | ⟨b,o,c,C,T,rfl,h2,h3,h4,h5,h6,h7⟩
 ·exact ⟨σ,rfl,Mod.refl _ _,RS.nil⟩
 ·have hb:=hl b rfl;refine ⟨σ.PZ b (o+xs.length*Rp.sz α) hb,rfl,⟨rfl,rfl,rfl,qa3 _,rfl,St.F5 hb,⟨λ_ _ _=>rfl,λi _ jE=> ?_⟩⟩, .inr ⟨b,o,c,rfl,qaa hel h2,h4, ?_,λi hi=>(h7 i hi).same (St.F5 hb) rfl⟩⟩
  ·show (if i=b then _ else _)=_;rw [if_neg (by intro e;subst e;exact jE rfl)]
  ·show _<=(if b=b then _ else _);rw [if_pos rfl];omega
theorem Ow.aga{el DX:Nat}{α:Type}[Rp α]{σ:St}{lo:Nat}{v:Value}{xs:List α}(h:Ow σ lo el v xs)(hl:DX<=el):Ow σ lo DX v xs:=by
 rcases h with h | ⟨b,o,c,C,T,h1,h2,h3,h4,h5,h6,h7⟩
 ·exact .inl h
 ·exact .inr ⟨b,o,c,C,T,h1,h2,h3,h4,h5,h6,λi hi=>(h7 i hi).low hl⟩
class Sc(α:Type)[Rp α]:Prop where
 sc: ∀{lo pZ:Nat} {σ:St} {cs:List Value} {x:α},Rp.rp lo σ cs x->Rp.rp pZ σ cs x
instance:Sc Int:=⟨λh=>h⟩
instance{α β:Type}[Rp α][Rp β][Sc α][Sc β]:Sc (α×β):=⟨by rintro _ _ _ _ _ ⟨c1,c2,rfl,h1,h2⟩;exact ⟨c1,c2,rfl,Sc.sc h1,Sc.sc h2⟩⟩
theorem At.sc{α:Type}[Rp α][Sc α]{lo pZ:Nat}{σ:St}{b o:Nat}{x:α}(h:At lo σ b o x):At pZ σ b o x:=by
 obtain ⟨cs,h1,h2⟩:=h;exact ⟨cs,Sc.sc h1,h2⟩
theorem Ow.sc{α:Type}[Rp α][Sc α]{el DX:Nat}{σ:St}{lo:Nat}{v:Value}{xs:List α}(h:Ow σ lo el v xs):Ow σ lo DX v xs:=by
 rcases h with h | ⟨b,o,c,C,T,h1,h2,h3,h4,h5,h6,h7⟩
 ·exact .inl h
 ·exact .inr ⟨b,o,c,C,T,h1,h2,h3,h4,h5,h6,λi hi=>(h7 i hi).sc⟩
theorem Rd.sc{α:Type}[Rp α][Sc α]{el DX:Nat}{σ:St}{v:Value}{xs:List α}(h:Rd el σ v xs):Rd DX σ v xs:=by
 rcases h with h | ⟨b,o,c,h1,h7⟩
 ·exact .inl h
 ·exact .inr ⟨b,o,c,h1,λi hi=>(h7 i hi).sc⟩
theorem Rd.at{el:Nat}{α:Type}[Rp α]{σ:St}{v:Value}{xs:List α}{a:Int}{e:α}{b o:Nat}(h:Rd el σ v xs)(hg:bs xs a=some e)(hi:Ix v a (Rp.sz α) b o):At el σ b o e:=by
 obtain ⟨h0,h1,h2⟩:=lD hg;obtain ⟨ob,m,c,rfl,g0,g1,rfl⟩:=hi.it;rcases h with ⟨_,rfl⟩ | ⟨b,o,c,hv,hc⟩
 ·simp at h1
 ·cases hv;exact h2▸hc _ h1
theorem RS.at{el:Nat}{α:Type}[Rp α]{σ:St}{v:Value}{xs:List α}{a:Int}{e:α}{b o:Nat}(h:RS el σ v xs)(hg:bs xs a=some e)(hi:Ix v a (Rp.sz α) b o):At el σ b o e:=h.rd.at hg hi
theorem Ow.at{el:Nat}{α:Type}[Rp α]{σ:St}{lo:Nat}{v:Value}{xs:List α}{a:Int}{e:α}{b o:Nat}(h:Ow σ lo el v xs)(hg:bs xs a=some e)(hi:Ix v a (Rp.sz α) b o):At el σ b o e:=h.rd.at hg hi
theorem vN{α:Type}{xs:List α}{a:Int}{e:α}{m:Nat}(h:bs xs a=some e)(hm:xs.length=m):0<=a/\a.toNat<m:=by
 obtain ⟨h0,h1,_⟩:=lD h;exact ⟨h0,hm▸h1⟩
theorem VW(xs:List Int)(k:Nat)(v:Int):F6 (xs.map I) (0+k*1) [I v]=(xs.set k v).map I:=by
 simp [F6,List.map_set]
theorem VX(vs:List Value): ∀(cs pre:List Value),cs.length=vs.length->F6 (pre++cs) pre.length vs=pre++vs:=by
 induction vs with
 | nil=>intro cs pre h;have:cs=[]:=qb9 h;subst this;rfl
 | cons v r ih=>
  intro cs pre h;cases cs with
  | nil=>simp at h
  | cons c cs=>
   rw [F6];have e:(pre++c::cs).set pre.length v=(pre++[v])++cs:=by simp
   have:=ih cs (pre++[v]) (by simpa using h);rw [e,show pre.length+1=(pre++[v]).length by simp,this];simp
theorem VY{xs ys:List Int}{k:Nat}(h1:xs.length=k)(h2:ys.length=k):F6 (List.map I ys) 0 (List.map I xs)=List.map I xs:=by
 have:=VX (List.map I xs) (List.map I ys) [] (by simp;omega);simpa using this
theorem VZ{xs:List Int}{k m:Nat}{v:Int}(h:xs.length=m):(xs.set k v).length=m:=by rw [qb3];exact h
end Go.Vs
namespace Go.Vs
open Go
abbrev BS:=Nat->Prop
structure Md(S:BS)(σ σ':St):Prop where
 os:σ'.w.os=σ.w.os
 tape:σ.ef\/σ'.w.tape=σ.w.tape
 output:σ'.w.output=σ.w.output
 dr:σ.ef\/σ.w.drawn<=σ'.w.drawn
 ef:σ'.ef=σ.ef
 ext:Ext σ σ'
 block: ∀b,b<σ.size-> ¬S b->σ'.w.heap[b]? =σ.w.heap[b]?
 gA: ∀b,b<σ.size-> ¬S b->σ'.gA b=σ.gA b
theorem Mod.md{S:Option Nat}{σ σ':St}(m:Mod S σ σ'):Md (λb=>S=Option.some b) σ σ':=
 ⟨m.os, .inr m.tape,m.output, .inr m.dr,m.ef,m.ext,λb h hn=>m.YD.block b h hn,λb h hn=>m.YD.gA b h hn⟩
theorem Md.refl(S:BS)(σ:St):Md S σ σ:=⟨rfl, .inr rfl,rfl, .inr (qa3 _),rfl,Ext.refl _,λ_ _ _=>rfl,λ_ _ _=>rfl⟩
theorem Md.size{S:BS}{σ σ':St}(h:Md S σ σ'):σ.size<=σ'.size:=h.ext.size
theorem Md.step{S S':BS}{a b c:St}(h:Md S a b)(k:Md S' b c)(hs: ∀i,i<a.size->S' i->S i):Md S a c:=
 ⟨k.os.trans h.os,(h.tape.elim .inl λh1=>k.tape.elim (λh2=> .inl (h.ef▸h2)) λh2=> .inr (h2.trans h1)),k.output.trans h.output,(h.dr.elim .inl λh1=>k.dr.elim (λh2=> .inl (h.ef▸h2)) λh2=> .inr (qaa h1 h2)),k.ef.trans h.ef,h.ext.trans k.ext,
  λi hi hn=>(k.block i (qa2 hi h.size) (λe=>hn (hs i hi e))).trans (h.block i hi hn),
  λi hi hn=>(k.gA i (qa2 hi h.size) (λe=>hn (hs i hi e))).trans (h.gA i hi hn)⟩
theorem Md.mono{S S':BS}{a b:St}(h:Md S a b)(hs: ∀i,S i->S' i):Md S' a b:=
 ⟨h.os,h.tape,h.output,h.dr,h.ef,h.ext,λi hi hn=>h.block i hi (λe=>hn (hs i e)),λi hi hn=>h.gA i hi (λe=>hn (hs i e))⟩
structure Ch where
 dup:Bool
 fp:BS
 as:St->Prop
 Ir:dup=true-> ∀b, ¬fp b
 bG: ∀{σ:St},as σ-> ∀b,fp b->b<σ.size
 fu: ∀{S:BS} {σ σ':St},Md S σ σ'->(∀b,fp b-> ¬S b)->as σ->as σ'
section
variable{α:Type}[Rp α]
def Ch.ro(el:Nat)(v:Value)(xs:List α):Ch where
 dup:=true
 fp _:=False
 as σ:=RS el σ v xs
 Ir _ _:=id
 bG _ _ h:=h.elim
 fu m _ h:=h.ext m.ext
theorem Ow.md{el:Nat}{σ σ':St}{lo:Nat}{v:Value}{xs:List α}{S:BS}(h:Ow σ lo el v xs)(m:Md S σ σ')(hd: ∀b,blk v=some b-> ¬S b):Ow σ' lo el v xs:=by
 rcases h with h | ⟨b,o,c,C,T,rfl,h2,h3,h4,h5,h6,h7⟩
 ·exact .inl h
 ·have hb:b<σ.size:=lt_of_block h3;have hS:=hd b rfl;have e1:=m.block b hb hS;exact .inr ⟨b,o,c,C,T,rfl,h2,e1.trans h3,h4,h5,(m.gA b hb hS).trans h6,λi hi=>(h7 i hi).same m.ext e1⟩
def Ch.own(lo el:Nat)(v:Value)(xs:List α):Ch where
 dup:=false
 fp b:=blk v=some b
 as σ:=Ow σ lo el v xs
 Ir h:=by cases h
 bG h b e:=h.lt b e
 fu m hd h:=h.md m hd
end
def Ch.bx(lo b o:Nat)(cs pre uZ:List Value):Ch where
 dup:=false
 fp i:=i=b
 as σ:=Bx σ b (pre++(cs++uZ))/\pre.length=o/\lo<=b
 Ir h:=by cases h
 bG h i e:=by subst e;exact h.1.lt
 fu m hd h:=by
  obtain ⟨⟨T,h1,h2⟩,h3⟩:=h;have hb:=lt_of_block h1;have hS:=hd b rfl;exact ⟨⟨T,(m.block b hb hS).trans h1,(m.gA b hb hS).trans h2⟩,h3⟩
def dv:List Ch->BS
 | [],_=>False
 | c::l,b=>c.fp b\/dv l b
def ji(σ:St):List Ch->Prop
 | []=>True
 | c::l=>c.as σ/\ji σ l
def apart:List Ch->Prop
 | []=>True
 | c::l=>(∀b,c.fp b-> ¬dv l b)/\apart l
theorem bM{A R:List Ch}{b:Nat}:dv (A++R) b↔dv A b\/dv R b:=by
 induction A with
 | nil=>simp [dv]
 | cons c l ih=>simp only [qbr,dv,ih,or_assoc]
theorem eG{σ:St}{A R:List Ch}:ji σ (A++R)↔ji σ A/\ji σ R:=by
 induction A with
 | nil=>simp [ji]
 | cons c l ih=>simp only [qbr,ji,ih,and_assoc]
theorem fh{A R:List Ch}:apart (A++R)↔apart A/\apart R/\ ∀b,dv A b-> ¬dv R b:=by
 induction A with
 | nil=>simp [apart,dv]
 | cons c l ih=>
  simp only [qbr,apart,dv,ih,bM]
  constructor
  ·rintro ⟨h1,h2,h3,h4⟩;exact ⟨⟨λb hb h=>h1 b hb (.inl h),h2⟩,h3,λb hb h=>hb.elim (λhb=>h1 b hb (.inr h)) (λhb=>h4 b hb h)⟩
  ·rintro ⟨⟨h1,h2⟩,h3,h4⟩;exact ⟨λb hb h=>h.elim (h1 b hb) (h4 b (.inl hb)),h2,h3,λb hb=>h4 b (.inr hb)⟩
theorem mf{σ:St}{L:List Ch}(h:ji σ L): ∀b,dv L b->b<σ.size:=by
 induction L with
 | nil=>intro b hb;exact hb.elim
 | cons c l ih=>intro b hb;exact hb.elim (c.bG h.1 b) (ih h.2 b)
theorem iS{σ σ':St}{S:BS}{L:List Ch}(h:ji σ L)(m:Md S σ σ')(hd: ∀b,dv L b-> ¬S b):ji σ' L:=by
 induction L with
 | nil=>trivial
 | cons c l ih=>exact ⟨c.fu m (λb hb=>hd b (.inl hb)) h.1,ih h.2 (λb hb=>hd b (.inr hb))⟩
structure Hp(S0:BS)(aq σ:St)(L:List Ch):Prop where
 md:Md S0 aq σ
 all:ji σ L
 ap:apart L
 DI: ∀b,dv L b->b<aq.size->S0 b
section
variable{S0:BS}{aq σ σ':St}{L A A' R:List Ch}{c d:Ch}
theorem Hp.size(H:Hp S0 aq σ L):aq.size<=σ.size:=H.md.size
theorem Hp.frame(H:Hp S0 aq σ (A++R))(H':Hp (dv A) σ σ' A'):Hp S0 aq σ' (A'++R):=by
 obtain ⟨ha,hr⟩:=eG.1 H.all;obtain ⟨h1,h2,h3⟩:=fh.1 H.ap;refine ⟨H.md.step H'.md (λi hi h=>H.DI i (bM.2 (.inl h)) hi),eG.2 ⟨H'.all,iS hr H'.md (λb hb h=>h3 b h hb)⟩,fh.2 ⟨H'.ap,h2,λb hb fS=> ?_⟩,λb hb bG=> ?_⟩
 ·have bG:=mf hr b fS;exact h3 b (H'.DI b hb bG) fS
 ·rcases bM.1 hb with hb | hb
  ·have hs:b<σ.size:=qa2 bG H.md.size;exact H.DI b (bM.2 (.inl (H'.DI b hb hs))) bG
  ·exact H.DI b (bM.2 (.inr hb)) bG
theorem Hp.zv(H:Hp S0 aq σ (c::R))(H':Hp (dv [c]) σ σ' A'):Hp S0 aq σ' (A'++R):=Hp.frame (A:=[c]) H H'
theorem Hp.Gc(H:Hp S0 aq σ R)(H':Hp (dv []) σ σ' A'):Hp S0 aq σ' (A'++R):=Hp.frame (A:=[]) H H'
theorem Hp.begin{σ:St}(ha:ji σ L)(hp:apart L):Hp (dv L) σ σ L:=⟨Md.refl _ _,ha,hp,λ_ h _=>h⟩
theorem Hp.one(m:Md S0 σ σ')(h:c.as σ')(hf: ∀b,c.fp b->b<σ.size->S0 b):Hp S0 σ σ' [c]:=
 ⟨m,⟨h,trivial⟩,⟨λ_ _ h=>h,trivial⟩,λb hb=>hb.elim (hf b) (λh=>h.elim)⟩
theorem Hp.tail(H:Hp S0 aq σ (c::R)):Hp S0 aq σ R:=⟨H.md,H.all.2,H.ap.2,λb hb=>H.DI b (.inr hb)⟩
theorem Hp.head(H:Hp S0 aq σ (c::R)):c.as σ:=H.all.1
theorem Hp.nN(H:Hp S0 aq σ (c::R))(h:c.as σ->d.as σ)(hf: ∀b,d.fp b->c.fp b):Hp S0 aq σ (d::R):=
 ⟨H.md,⟨h H.all.1,H.all.2⟩,⟨λb hb=>H.ap.1 b (hf b hb),H.ap.2⟩,λb hb=>H.DI b (hb.imp (hf b) id)⟩
theorem Hp.add(H:Hp S0 aq σ R)(h:d.as σ)(hf: ∀b, ¬d.fp b):Hp S0 aq σ (d::R):=
 ⟨H.md,⟨h,H.all⟩,⟨λb hb=>(hf b hb).elim,H.ap⟩,λb hb=>hb.elim (λhb=>(hf b hb).elim) (H.DI b)⟩
theorem Hp.grow(H:Hp S0 aq σ L)(m:Md (λ_=>False) σ σ'):Hp S0 aq σ' L:=
 ⟨H.md.step m (λ_ _ h=>h.elim),iS H.all m (λ_ _ h=>h),H.ap,H.DI⟩
def nth:List Ch->Nat->Option Ch
 | [],_=>none
 | c::_,0=>some c
 | _::l,n+1=>nth l n
def pick:List Ch->Nat->Option (Ch×List Ch)
 | [],_=>none
 | c::l,0=>some (c,l)
 | c::l,n+1=>match pick l n with
  | some (d,r)=>some (d,c::r)
  | none=>none
theorem Cp: ∀{L:List Ch} {i:Nat} {c:Ch} {R:List Ch},pick L i=some (c,R)-> ∀b,dv L b↔c.fp b\/dv R b
 | [],_,_,_,h=>by cases h
 | c::l,0,_,_,h=>by cases h;intro b;rfl
 | c::l,n+1,d,R,h=>by
  intro b;simp only [pick] at h;split at h
  ·rename_i d' r hp;cases h;have:=Cp hp b;simp only [dv,this]
   constructor
   ·rintro (h | h | h)
    ·exact .inr (.inl h)
    ·exact .inl h
    ·exact .inr (.inr h)
   ·rintro (h | h | h)
    ·exact .inr (.inl h)
    ·exact .inl h
    ·exact .inr (.inr h)
  ·cases h
theorem Is{σ:St}: ∀{L:List Ch} {i:Nat} {c:Ch} {R:List Ch},pick L i=some (c,R)->ji σ L->c.as σ/\ji σ R
 | [],_,_,_,h=>by cases h
 | c::l,0,_,_,h=>by cases h;exact id
 | c::l,n+1,d,R,h=>by
  simp only [pick] at h;split at h
  ·rename_i d' r hp;cases h;rintro ⟨h1,h2⟩;have:=Is hp h2;exact ⟨this.1,h1,this.2⟩
  ·cases h
theorem Cq: ∀{L:List Ch} {i:Nat} {c:Ch} {R:List Ch},pick L i=some (c,R)->apart L->apart (c::R)
 | [],_,_,_,h=>by cases h
 | c::l,0,_,_,h=>by cases h;exact id
 | c::l,n+1,d,R,h=>by
  simp only [pick] at h;split at h
  ·rename_i d' r hp;cases h;rintro ⟨h1,h2⟩;have h3:=Cq hp h2;have h4:=Cp hp;refine ⟨λb hb=> ?_,λb hb=> ?_,h3.2⟩
   ·rintro (h | h)
    ·exact h1 b h ((h4 b).2 (.inl hb))
    ·exact h3.1 b hb h
   ·exact λh=>h1 b hb ((h4 b).2 (.inr h))
  ·cases h
theorem Hp.front(H:Hp S0 aq σ L){i:Nat}(h:pick L i=some (c,R)):Hp S0 aq σ (c::R):=
 ⟨H.md,Is h H.all,Cq h H.ap,λb hb=>H.DI b ((Cp h b).2 hb)⟩
theorem Gd{σ:St}: ∀{L:List Ch} {i:Nat} {c:Ch},nth L i=some c->ji σ L->c.as σ
 | [],_,_,h,_=>by cases h
 | _::_,0,_,h,ha=>by cases h;exact ha.1
 | _::l,n+1,_,h,ha=>Gd (L:=l) (i:=n) h ha.2
theorem Hp.get(H:Hp S0 aq σ L){i:Nat}(h:nth L i=some c):c.as σ:=Gd h H.all
def Cr(L:List Ch):List Nat->List Ch
 | []=>[]
 | k::ks=>match nth L k with
  | some c=>c::Cr L ks
  | none=>Cr L ks
def OA(L:List Ch):List Nat->Bool
 | []=>true
 | k::ks=>(match nth L k with
  | some c=>c.dup || ks.all (λj=> !Nat.beq j k)
  | none=>false)&&OA L ks
theorem BB{L:List Ch}: ∀{ks:List Nat} {b:Nat},dv (Cr L ks) b-> ∃k∈ks, ∃c,nth L k=some c/\c.fp b
 | [],b,h=>h.elim
 | k::ks,b,h=>by
  simp only [Cr] at h;split at h
  ·rename_i c hc;rcases h with h | h
   ·exact ⟨k,by simp,c,hc,h⟩
   ·obtain ⟨j,hj,d,hd,h⟩:=BB h;exact ⟨j,by simp [hj],d,hd,h⟩
  ·obtain ⟨j,hj,d,hd,h⟩:=BB h;exact ⟨j,by simp [hj],d,hd,h⟩
theorem BC: ∀{L:List Ch} {k:Nat} {c:Ch} {b:Nat},nth L k=some c->c.fp b->dv L b
 | [],_,_,_,h,_=>by cases h
 | _::_,0,_,_,h,hb=>by cases h;exact .inl hb
 | _::l,n+1,_,_,h,hb=> .inr (BC (L:=l) (k:=n) h hb)
theorem ES: ∀{L:List Ch} {i j:Nat} {c d:Ch} {b:Nat},apart L->i≠j->nth L i=some c->nth L j=some d->c.fp b-> ¬d.fp b
 | [],_,_,_,_,_,_,_,h,_,_=>by cases h
 | _::_,0,0,_,_,_,_,jE,_,_,_=>absurd rfl jE
 | e::l,0,j+1,_,_,b,ha,_,h1,h2,hb=>by cases h1;exact λh=>ha.1 b hb (BC (L:=l) (k:=j) h2 h)
 | e::l,i+1,0,_,_,b,ha,_,h1,h2,hb=>by cases h2;exact λh=>ha.1 b h (BC (L:=l) (k:=i) h1 hb)
 | e::l,i+1,j+1,c,d,b,ha,jE,h1,h2,hb=>ES (L:=l) (i:=i) (j:=j) ha.2 (λe=>jE (by rw [e])) h1 h2 hb
theorem Ge{σ:St}{L:List Ch}(H: ∀k c,nth L k=some c->c.as σ): ∀ks:List Nat,ji σ (Cr L ks)
 | []=>trivial
 | k::ks=>by
  simp only [Cr];split
  ·rename_i c hc;exact ⟨H k c hc,Ge H ks⟩
  ·exact Ge H ks
theorem zw{L:List Ch}(ha:apart L): ∀{ks:List Nat},OA L ks=true->apart (Cr L ks)
 | [],_=>trivial
 | k::ks,h=>by
  simp only [OA,qa4] at h;obtain ⟨h1,h2⟩:=h;simp only [Cr];split
  ·rename_i c hc;rw [hc] at h1;refine ⟨λb hb hcv=> ?_,zw ha h2⟩;simp only [qc3] at h1;rcases h1 with h1 | h1
   ·exact c.Ir h1 b hb
   ·obtain ⟨j,hj,d,hd,hdb⟩:=BB hcv;have:=qab.1 h1 j hj;have jE:j≠k:=by rintro rfl;simp [Nat.beq_refl] at this
    exact ES ha (qbq jE) hc hd hb hdb
  ·exact zw ha h2
theorem Hp.sel(H:Hp S0 aq σ L)(ks:List Nat)(h:OA L ks=true):Hp S0 aq σ (Cr L ks):=
 ⟨H.md,Ge (λ_ _ hk=>H.get hk) ks,zw H.ap h,λb hb=>by
  obtain ⟨k,_,c,hc,hb⟩:=BB hb;exact H.DI b (BC hc hb)⟩
theorem Hp.aac(H:Hp S0 aq σ L)(ks:List Nat){L':List Ch}(h:OA L ks=true)(e:Cr L ks=L'):Hp S0 aq σ L':=e▸H.sel ks h
end
section
variable{S0:BS}{aq σ σ':St}{L R:List Ch}{α:Type}[Rp α]{el lo:Nat}{v:Value}{xs:List α}{i b o:Nat}{cs pre uZ:List Value}
theorem Hp.ro(H:Hp S0 aq σ L)(i:Nat)(h:nth L i=some (Ch.ro el v xs)):RS el σ v xs:=H.get h
theorem Hp.bx(H:Hp S0 aq σ L)(i:Nat)(h:nth L i=some (Ch.bx lo b o cs pre uZ)):Bx σ b (pre++(cs++uZ))/\pre.length=o/\lo<=b:=H.get h
theorem Rr{k:Nat}{u:Value}(h:Bx σ b (pre++(cs++uZ))/\pre.length=o/\lo<=b)(hu:cs[k]? =some u):jH σ.w.heap b (o+k)=some u:=by
 obtain ⟨⟨T,h1,_⟩,h2,_⟩:=h;have hk:=(qbi.1 hu).1;unfold jH;rw [h1];simp only [qaq];rw [qbw (by omega),qbj (by omega), ←hu];congr 1;omega
theorem Hp.cell(H:Hp S0 aq σ L)(i k:Nat){u:Value}{o':Nat}(h:nth L i=some (Ch.bx lo b o cs pre uZ))(hu:cs[k]? =some u)(ho:o'=o+k):jH σ.w.heap b o'=some u:=by
 subst ho;exact Rr (H.bx i h) hu
theorem Hp.cells(H:Hp S0 aq σ L)(i:Nat)(h:nth L i=some (Ch.bx lo b o cs pre uZ)): ∀j,(hj:j<cs.length)->jH σ.w.heap b (o+j)=some cs[j]:=
 λj hj=>Rr (H.bx i h) (qb6 hj)
theorem Hp.PZ(H:Hp S0 aq σ L)(i:Nat)(h:pick L i=some (Ch.own lo el v xs,R))(hel:el<=lo): ∃σ':St,σ'.w=σ.w/\Hp S0 aq σ' (Ch.ro el v xs::R)/\Md (λb=>blk v=Option.some b) σ σ':=by
 have H1:=H.front h;obtain ⟨σ',hw,m,hR⟩:=Ow.af9 (H1.head:Ow σ lo el v xs) hel;refine ⟨σ',hw,Hp.zv (A':=[Ch.ro el v xs]) H1 (Hp.one (m.md.mono λb hb=> .inl hb) hR (λb hb=>hb.elim)),m.md⟩
theorem Hp.iU(H:Hp S0 aq σ L)(i DX:Nat)(h:nth L i=some (Ch.ro el v xs))(hl:DX<=el):Hp S0 aq σ (Ch.ro DX v xs::L):=
 H.add (d:=Ch.ro DX v xs) ((H.ro i h).low hl) (λ_ h=>h)
theorem Hp.zx(H:Hp S0 aq σ L)(i pZ DX:Nat)(h:pick L i=some (Ch.own lo el v xs,R))(h1:pZ<=lo)(h2:DX<=el):Hp S0 aq σ (Ch.own pZ DX v xs::R):=
 (H.front h).nN (d:=Ch.own pZ DX v xs) (λh:Ow σ lo el v xs=>(h.lo h1).aga h2) (λ_ h=>h)
theorem Hp.Cs [Sc α](H:Hp S0 aq σ L)(i pZ DX:Nat)(h:pick L i=some (Ch.own lo el v xs,R))(h1:pZ<=lo):Hp S0 aq σ (Ch.own pZ DX v xs::R):=
 (H.front h).nN (d:=Ch.own pZ DX v xs) (λh:Ow σ lo el v xs=>(h.lo h1).sc) (λ_ h=>h)
theorem Hp.kY(H:Hp S0 aq σ L)(α:Type)[Rp α](lo el:Nat):Hp S0 aq σ (Ch.own lo el (.slice none 0 0) ([]:List α)::L):=H.add (d:=Ch.own lo el _ _) Ow.nil (λ_ h=>by cases h)
theorem Hp.fresh(m:Mod none σ σ')(c:Ch)(h:c.as σ')(hf: ∀b,c.fp b->σ.size<=b):Hp (dv []) σ σ' [c]:=
 Hp.one (m.md.mono λb hb=>by cases hb) h (λb hb bG=>absurd bG (qcm.2 (hf b hb)))
theorem Hp.focus{c1 c2 c3:List Value}(H:Hp S0 aq σ L)(i:Nat)(h:pick L i=some (Ch.bx lo b o (c1++(c2++c3)) pre uZ,R)){o':Nat}(ho:o'=o+c1.length):
  Hp S0 aq σ (Ch.bx lo b o' c2 (pre++c1) (c3++uZ)::R):=
 (H.front h).nN (d:=Ch.bx lo b o' c2 (pre++c1) (c3++uZ)) (λ⟨h1,h2,h3⟩=>⟨by simpa [List.append_assoc] using h1,by subst ho;simp [h2],h3⟩) (λ_ h=>h)
theorem Hp.MP{c1 c2 c3:List Value}{o':Nat}(H:Hp S0 aq σ L)(i:Nat)(h:pick L i=some (Ch.bx lo b o' c2 (pre++c1) (c3++uZ),R))(ho:o'=o+c1.length):
  Hp S0 aq σ (Ch.bx lo b o (c1++(c2++c3)) pre uZ::R):=
 (H.front h).nN (d:=Ch.bx lo b o (c1++(c2++c3)) pre uZ) (λ⟨h1,h2,h3⟩=>⟨by simpa [List.append_assoc] using h1,by subst ho;simp at h2;omega,h3⟩) (λ_ h=>h)
end
end Go.Vs
namespace Go.Vs
open Go
section
variable{P:Program}{ops:Array Oper}{Q:Exit->Act->World->Prop}{n d:Nat}{ρ:Nat->Value}{aq σ:St}{S0:BS}{L R:List Ch}{u v:Value}{rest:List Oper}{dst:Option Nat}
variable{ty T T' E E':TypeId}{pos:String}{af:Array Edge}{x y:Operand}{a:Int}{α:Type}[Rp α]{xs ys:List α}{z:Value}{s bt lo el:Nat}{gd:Option (Nat×Bool)}{op:Op}{Rz:Value->St->Prop}{Rs:St->Prop}
abbrev Ex(P:Program)(σ:St)(n:Nat)(ρ:Nat->Value)(o:Oper)(Rz:Value->St->Prop):Prop:= ∃v σ',zt P σ.w n ρ o v σ'.w/\Rz v σ'
abbrev ExS(P:Program)(σ:St)(n:Nat)(ρ:Nat->Value)(o:Oper)(Rs:St->Prop):Prop:= ∃σ',Rf P σ.w n ρ o σ'.w/\Rs σ'
theorem bE(he:Ex P σ n ρ ⟨some d,op,ty,pos,af,gd⟩ Rz)(hw:Region.wanted ⟨some d,op,ty,pos,af,gd⟩ (yv ops n ρ)=true)
  (k: ∀v (σ':St),Rz v σ'->wpList P ops Q rest (fr n (upd ρ d v)) σ'.w):wpList P ops Q (⟨some d,op,ty,pos,af,gd⟩::rest) (fr n ρ) σ.w:=by
 obtain ⟨v,σ',hr,h⟩:=he;exact af7 hw hr (k v σ' h)
theorem gk(he:ExS P σ n ρ ⟨none,op,ty,pos,af,gd⟩ Rs)(hw:Region.wanted ⟨none,op,ty,pos,af,gd⟩ (yv ops n ρ)=true)
  (k: ∀(σ':St),Rs σ'->wpList P ops Q rest (fr n ρ) σ'.w):wpList P ops Q (⟨none,op,ty,pos,af,gd⟩::rest) (fr n ρ) σ.w:=by
 obtain ⟨σ',hr,h⟩:=he;exact af8 hw hr (k σ' h)
theorem aad(he:Ex P σ n ρ ⟨none,op,ty,pos,af,gd⟩ Rz)(hw:Region.wanted ⟨none,op,ty,pos,af,gd⟩ (yv ops n ρ)=true)
  (k: ∀v (σ':St),Rz v σ'->wpList P ops Q rest (fr n ρ) σ'.w):wpList P ops Q (⟨none,op,ty,pos,af,gd⟩::rest) (fr n ρ) σ.w:=by
 obtain ⟨v,σ',hr,h⟩:=he;unfold wpList;rw [eO,if_pos hw];refine .inl ?_;unfold Oper.wp;rw [aR,hr];simp only [Oper.upon_value,jG];exact k v σ' h
theorem Mod.md0{σ σ':St}(m:Mod Option.none σ σ'):Md (dv []) σ σ':=m.md.mono λb hb=>by cases hb
theorem MQ(H:Hp S0 aq σ L)(qX:lo<=aq.size)(T:TypeId)(cs:List Value):Hp S0 aq (σ.new (.cells cs.toArray T (0,0)) 0) (Ch.bx lo σ.size 0 cs [] []::L):=
 Hp.Gc (A':=[Ch.bx lo σ.size 0 cs [] []]) H (Hp.fresh (St.mA _ _ _) _ ⟨⟨T,by simpa using St.tx _ _ _,St.tz _ _ _⟩,rfl,qaa qX H.size⟩ (λb hb=>qay (Eq.symm hb)))
theorem gm{cs:List Value}(H:Hp S0 aq σ L)(qX:lo<=aq.size)(hx:ev n ρ x=v)(hv:v.cells=cs.toArray):
  Ex P σ n ρ ⟨dst, .box T x,ty,pos,af,gd⟩ λv σ'=> ∃b,v=pt b 0/\Hp S0 aq σ' (Ch.bx lo b 0 cs [] []::L)/\Md (dv []) σ σ':=by
 refine ⟨_,σ.new (.cells cs.toArray T (0,0)) 0, ?_,σ.size,rfl,MQ H qX T cs,(St.mA _ _ _).md0⟩;simp [zt,execOp,hx,Instr.box,newVar,newRow,newObj,Sem.run,hv,St.new,World.mk']
theorem gr{cs:List Value}(H:Hp S0 aq σ L)(qX:lo<=aq.size)(hi:TI P T z s bt)(hv:z.cells=cs.toArray):
  Ex P σ n ρ ⟨dst, .alloc T,ty,pos,af,gd⟩ λv σ'=> ∃b,v=pt b 0/\Hp S0 aq σ' (Ch.bx lo b 0 cs [] []::L)/\Md (dv []) σ σ':=by
 refine ⟨_,σ.new (.cells cs.toArray T (0,0)) 0, ?_,σ.size,rfl,MQ H qX T cs,(St.mA _ _ _).md0⟩;simp [zt,execOp,Instr.alloc,oz hi,newVar,newRow,newObj,Sem.run,hv,St.new,World.mk']
theorem V0(vs:List Value): ∀(pre cs uZ:List Value) (k:Nat),k+vs.length<=cs.length->F6 (pre++(cs++uZ)) (pre.length+k) vs=pre++(F6 cs k vs++uZ):=by
 induction vs with
 | nil=>intro pre cs uZ k _;rfl
 | cons v r ih=>
  intro pre cs uZ k hk;simp only [qb2] at hk;rw [F6,F6, ←ih pre (cs.set k v) uZ (k+1) (by rw [qb3];omega)];congr 1;rw [List.set_append_right _ _ (by omega),List.set_append_left _ _ (by omega)];congr 3;omega
theorem bK{cs vs cs' pre uZ:List Value}{b o o' k i:Nat}(H:Hp S0 aq σ L)(hp:pick L i=some (Ch.bx lo b o cs pre uZ,R))(hi:TI P T z s bt)(hx:ev n ρ x=pt b o')(Ia:o'=o+k)(hy:ev n ρ y=v)(hv:v.cells=vs.toArray)(hs:vs.length=s)
  (hk:k+vs.length<=cs.length) (MO: ∀u∈vs,plain u=true) (hcs:F6 cs k vs=cs'):
  ExS P σ n ρ ⟨dst, .store T x y,ty,pos,af,gd⟩ λσ'=>Hp S0 aq σ' (Ch.bx lo b o cs' pre uZ::R)/\Md (λi=>i=b) σ σ':=by
 subst Ia hcs;have H1:=H.front hp;obtain ⟨⟨T0,h1,h2⟩,h3,h4⟩:Bx σ b (pre++(cs++uZ))/\pre.length=o/\lo<=b:=H1.head;have hb:=lt_of_block h1;have fu:=iD (P:=P) b (o+k) T0 vs 0 σ.w (pre++(cs++uZ)).toArray h1 (by simp;omega) MO;simp only [qcj] at fu;have m:Md (λi=>i=b) σ (σ.put b (.cells (wr (pre++(cs++uZ)).toArray (o+k) vs) T0 (0,0))):=(St.vK h2).md.mono λi hi=>by cases hi;rfl
 refine ⟨σ.put b (.cells (wr (pre++(cs++uZ)).toArray (o+k) vs) T0 (0,0)), ?_, ?_,m⟩
 ·simp [Rf,execOp,hx,hy,Instr.storeAt,Instr.sureAddr,storeVar,run_typeInfo hi,hv,hs,fu,St.put]
 refine Hp.zv (A':=[Ch.bx lo b o (F6 cs k vs) pre uZ]) H1 (Hp.one (m.mono λi hi=> .inl hi) ⟨⟨T0, ?_,h2⟩,h3,h4⟩ (λi hi _=> .inl hi));rw [MN, ←h3,V0 vs pre cs uZ k hk];exact World.tD _ hb
theorem zy{α β:Type}[Rp α][Rp β]{DX pZ:Nat}{v':Value}{xs:List α}{ys:List β}{σ':St}{i:Nat}(H:Hp S0 aq σ L)(hp:pick L i=some (Ch.own lo el v xs,R))(m:Mod (blk v) σ σ')(h:Ow σ' pZ DX v' ys)(hf:blk v'=blk v\/ ∀b,blk v'=some b->σ.size<=b):
  Hp S0 aq σ' (Ch.own pZ DX v' ys::R):=
 Hp.zv (A':=[Ch.own pZ DX v' ys]) (H.front hp) (Hp.one (m.md.mono λb hb=> .inl hb) h (λb hb bG=>by
  rcases hf with hf | hf
  ·exact .inl (hf.symm.trans hb)
  ·exact absurd bG (qcm.2 (hf b hb))))
theorem Gf{v':Value}{σ':St}(H:Hp S0 aq σ L)(qX:lo<=aq.size)(m:Mod none σ σ')(h:Ow σ' σ.size el v' xs):Hp S0 aq σ' (Ch.own lo el v' xs::L):=
 Hp.Gc (A':=[Ch.own lo el v' xs]) H (Hp.fresh m _ (h.lo (qaa qX H.size)) (λb hb=>h.ge b hb))
theorem jR{e e':α}{bl o o' k i:Nat}{vs:List Value}(H:Hp S0 aq σ L)(MR:pick L i=some (Ch.own lo el v xs,R))(hi:TI P T z s bt)(hg:bs xs a=some e)(Ou:Ix v a (Rp.sz α) bl o)(hx:ev n ρ x=pt bl o')(ho:o'=o+k)(hy:ev n ρ y=u)
  (hu:u.cells=vs.toArray) (hs:vs.length=s) (hk:k+vs.length<=Rp.sz α) (hp: ∀t∈vs,plain t=true) (hrp: ∀cs,Rp.rp el σ cs e->Rp.rp el σ (F6 cs k vs) e'):
  ExS P σ n ρ ⟨dst, .store T x y,ty,pos,af,gd⟩ λσ'=>Hp S0 aq σ' (Ch.own lo el v (xs.set a.toNat e')::R)/\Md (λb=>blk v=some b) σ σ':=by
 obtain ⟨σ',hr,m,h⟩:=DW (ty:=ty) (pos:=pos) (af:=af) (gd:=gd) (dst:=dst) hi ((H.front MR).head:Ow σ lo el v xs) hg Ou hx ho hy hu hs hk hp hrp;exact ⟨σ',hr,zy H MR m h (.inl rfl),m.md⟩
theorem fb{r:List α}{i:Nat}(H:Hp S0 aq σ L)(MR:pick L i=some (Ch.own lo el v xs,R))(hT:P.underlying T=some (.slice E))(pT:P.underlying T'=some (.slice E'))(hi:TI P E z s bt)(hs:s=Rp.sz α)(AP:z.cells.size=s)(Rh:bt<=1024)
  (hS:Rd el σ u ys) (hr:nP xs ys=some r) (qX:lo<=aq.size) (hx:ev n ρ x=v) (hy:ev n ρ y=u):
  Ex P σ n ρ ⟨dst, .call ⟨.builtin .append, #[x,y], #[T,T']⟩,ty,pos,af,gd⟩ λv' σ'=> ∃a' c',v'=Sl a' r c'/\Hp S0 aq σ' (Ch.own lo el (Sl a' r c') r::R)/\Md (λb=>blk v=some b) σ σ':=by
 obtain ⟨hlen,rfl⟩:=zu hr;obtain ⟨a',c',σ',h1,h2,h3,h4, -⟩:=Ck (ty:=ty) hT pT hi hs AP Rh ((H.front MR).head:Ow σ lo el v xs) hS hlen (qaa qX H.size);refine ⟨_,σ', ?_,a',c',rfl,zy H MR h2 h3 h4,h2.md⟩;simp only [zt,execOp,resolve,qb8,qaz,qbm,hx,hy,Sem.run_bind,Sem.run_pure,Result.andThen_ok,invoke,builtin,h1]
theorem aN{len:Nat}{parts:Array (Nat×Operand)}{ps:List (Nat×Value)}{cs:List Value}(H:Hp S0 aq σ L)(qX:lo<=aq.size)(hT:P.underlying T=some (.slice E))(hi:TI P E z s bt)
  (KX:Nat.ble (len*s) 16777216=true) (hp:parts.toList.map (λp=>(p.1,ev n ρ p.2))=ps)
  (Ay:Instr.fill (λi=>some (i*s,s)) ((Array.range (len*s)).map (λk=>(if len*s=0 then #[] else z.cells)[k % (if len*s=0 then #[] else z.cells).size]!)) ps=some cs.toArray)
  (hf:Flat el σ cs xs) (hl:xs.length=len):
  Ex P σ n ρ ⟨dst, .buildSlice T len parts,ty,pos,af,gd⟩ λv σ'=> ∃b,v=Sl (some ⟨b,0,none⟩) xs len/\Hp S0 aq σ' (Ch.own lo el (Sl (some ⟨b,0,none⟩) xs len) xs::L)/\Md (dv []) σ σ':=by
 obtain ⟨b,σ',hb,hr,hm,hO⟩:=Cl (lo:=σ.size) (dst:=dst) (ty:=ty) (pos:=pos) (af:=af) (gd:=gd) hT hi KX hp Ay hf hl (qa3 _);exact ⟨_,σ',hr,b,rfl,Gf H qX hm hO,hm.md0⟩
theorem V1{z0:α}{zs:List Value}(H:Hp S0 aq σ L)(qX:lo<=aq.size)(hT:P.underlying T=some (.slice E))(hi:TI P E z s bt)(hs:s=Rp.sz α)(hzc:z.cells=zs.toArray)(hz:Rp.rp el σ zs z0)(Rh:bt<=1024)
  (hr:Az a z0=some xs) (hx:ev n ρ x=I a) (hy:ev n ρ y=I a):
  Ex P σ n ρ ⟨dst, .makeSlice T x y,ty,pos,af,gd⟩ λv σ'=> ∃b c',v=Sl (some ⟨b,0,none⟩) xs c'/\c'=a.toNat/\Hp S0 aq σ' (Ch.own lo el (Sl (some ⟨b,0,none⟩) xs c') xs::L)/\Md (dv []) σ σ':=by
 obtain ⟨b,σ',c',Qy,bU,m,h⟩:=run_make (lo:=σ.size) (ty:=ty) (pos:=pos) (af:=af) (gd:=gd) (dst:=dst) hT hi hs hzc hz Rh hr hx hy (qa3 _);exact ⟨_,σ',bU,b,c',rfl,Qy,Gf H qX m h,m.md0⟩
structure bL(P:Program)(f:FuncId)(args:List Value)(pre:List Ch)(post:Nat->Value->List Ch->Prop):Prop where
 fn: ∃fn c,P.funcs[f]? =some fn/\(fn.name== "runtime.NumGoroutine")=false/\fn.body=some c
 runs: ∀(σ:St) (m:Nat),m<=σ.size->Hp (dv pre) σ σ pre->Calls P f args.toArray σ.w λe w'=> ∃v σ' L',e= .returned v/\w'=σ'.w/\post m v L'/\Hp (dv pre) σ σ' L'
def ET(post:Value->List Ch->Prop)(aq:St)(S0:BS)(e:Ending)(w':World):Prop:= ∃v σ' L',e= .returned v/\w'=σ'.w/\post v L'/\Hp S0 aq σ' L'
theorem agb{f:FuncId}{fn:Func}{c:Code}{l:List Value}{pre:List Ch}{post:Nat->Value->List Ch->Prop}(hf:P.funcs[f]? =some fn)(QG:(fn.name== "runtime.NumGoroutine")=false)(hb:fn.body=some c)(hn:fn.ntmps=n)(hl:Nat.ble l.length n=true)
  (h: ∀(S0:BS) (aq:St) (n0:Nat),n0<=aq.size->Hp S0 aq aq pre->c.wp P (bodyPost P fn (ET (post n0) aq S0)) (fr n (fl l)) aq.w):bL P f l pre post:=
 ⟨⟨fn,c,hf,QG,hb⟩,λσ m hm H=>enter hf hb hn hl (h _ σ m hm H)⟩
theorem iM{fn:Func}{post:Value->List Ch->Prop}{L':List Ch}(hr:(results fn (fr n ρ).tmps).run P σ.w= .ok v σ.w)(hp:post v L')(H:Hp S0 aq σ L'):bodyPost P fn (ET post aq S0) .ret (fr n ρ) σ.w:=
 bodyPost_ret (v:=v) hr rfl ⟨v,σ,L',rfl,rfl,hp,H⟩
theorem vO{fn:Func}{post:Value->List Ch->Prop}{L':List Ch}(hr:(results fn (fr n ρ).tmps).run P σ.w= .ok v σ.w)(hp:post v L')(H:Hp S0 aq σ L'):bodyPost P fn (ET post aq S0) .normal (fr n ρ) σ.w:=
 bodyPost_end (v:=v) hr rfl ⟨v,σ,L',rfl,rfl,hp,H⟩
theorem bL.frame{f:FuncId}{args:List Value}{A:List Ch}{post:Nat->Value->List Ch->Prop}(hc:bL P f args A post)(H:Hp S0 aq σ (A++R)){m:Nat}(hm:m<=σ.size):
  Calls P f args.toArray σ.w λe w'=> ∃v σ' L',e= .returned v/\w'=σ'.w/\post m v L'/\Hp S0 aq σ' (L'++R)/\Md (dv A) σ σ':=by
 refine (hc.runs σ m hm (Hp.begin (eG.1 H.all).1 (fh.1 H.ap).1)).mono ?_;rintro e w' ⟨v,σ',L',rfl,rfl,hp,H'⟩;exact ⟨v,σ',L',rfl,rfl,hp,H.frame H',H'.md⟩
def Enters(P:Program)(n:Nat)(ρ:Nat->Value)(o:Oper)(f:FuncId)(args:List Value)(w:World):Prop:=(execOp (ev n ρ) o).run P w= .ok (.enter f args.toArray) w
def Cx(P:Program)(σ:St)(n:Nat)(ρ:Nat->Value)(o:Oper)(Rz:Value->St->Prop):Prop:=
 ∃f args,Enters P n ρ o f args σ.w/\Calls P f args.toArray σ.w λe w'=> ∃v σ',e= .returned v/\w'=σ'.w/\Rz v σ'
theorem bh{f:FuncId}{args:List Value}{A:List Ch}{post:Nat->Value->List Ch->Prop}{o:Oper}(hc:bL P f args A post)(he:Enters P n ρ o f args σ.w){m:Nat}(hm:m<=aq.size)(H:Hp S0 aq σ (A++R)):
  Cx P σ n ρ o λv σ'=> ∃L',post m v L'/\Hp S0 aq σ' (L'++R)/\Md (dv A) σ σ':=
 ⟨f,args,he,(hc.frame H (qaa hm H.size)).mono (by rintro e w' ⟨v,σ',L',rfl,rfl,hp,H',m⟩;exact ⟨v,σ',rfl,rfl,L',hp,H',m⟩)⟩
theorem acJ{o:Oper}(hd:o.dst=dst)(hc:Cx P σ n ρ o Rz)(hw:Region.wanted o (yv ops n ρ)=true)
  (k: ∀v (σ':St),Rz v σ'->wpList P ops Q rest ((fr n ρ).put dst v) σ'.w):wpList P ops Q (o::rest) (fr n ρ) σ.w:=by
 subst hd;obtain ⟨f,args,he,hc⟩:=hc;unfold wpList;rw [eO,if_pos hw];refine .inl ?_;unfold Oper.wp;rw [aR,show (execOp (ev n ρ) o).run P σ.w=_ from he,Oper.upon_enter];refine hc.mono ?_;rintro e w' ⟨v,σ',rfl,rfl,h⟩;exact k v σ' h
theorem bY(hc:Cx P σ n ρ ⟨some d,op,ty,pos,af,gd⟩ Rz)(hw:Region.wanted ⟨some d,op,ty,pos,af,gd⟩ (yv ops n ρ)=true)
  (k: ∀v (σ':St),Rz v σ'->wpList P ops Q rest (fr n (upd ρ d v)) σ'.w):wpList P ops Q (⟨some d,op,ty,pos,af,gd⟩::rest) (fr n ρ) σ.w:=
 acJ rfl hc hw (λv σ' h=>by rw [dc];exact k v σ' h)
theorem cY{f:FuncId}{args:List Value}{xs:Array Operand}{Ts:Array TypeId}{w:World}(hf: ∃fn c,P.funcs[f]? =some fn/\(fn.name== "runtime.NumGoroutine")=false/\fn.body=some c)(hx:xs.toList.map (ev n ρ)=args):
 Enters P n ρ ⟨dst, .call ⟨.value (.func f),xs,Ts⟩,ty,pos,af,gd⟩ f args w:=Rg hf hx
theorem It{f:FuncId}{args:List Value}{xs:Array Operand}{Ts:Array TypeId}{w:World}{c:Operand}{cap:List Value}(hf: ∃fn c,P.funcs[f]? =some fn/\(fn.name== "runtime.NumGoroutine")=false/\fn.body=some c)
  (hc:ev n ρ c= .func (.func f) #[] cap.toArray) (hx:xs.toList.map (ev n ρ)++cap=args):
  Enters P n ρ ⟨dst, .call ⟨.value c,xs,Ts⟩,ty,pos,af,gd⟩ f args w:=by
 obtain ⟨fn,c,h1,h2,h3⟩:=hf;replace hx:xs.map (ev n ρ)++cap.toArray=args.toArray:=by
  rw [←hx];apply qcn;simp
 simp only [Enters,execOp,resolve,hc,Deferred.ofValue,Sem.run_bind,Sem.run_pure,Result.andThen_ok,invoke,callFunc,run_program,Array.empty_append,hx,h1,h2,h3];simp
end
end Go.Vs
namespace Go.Vs
open Go
def dI(ops:Array Oper)(j:Nat):Option Nat:=(ops[j]?).bind (·.dst)
def waits(o:Oper)(j:Nat):Bool:=o.after.toList.any λe=>Nat.beq e.on j&&Region.binds .any e
def reach(ops:Array Oper):Nat->Nat->Nat->Bool
 | 0,_,_=>false
 | f+1,j,i=>match ops[j]? with
  | none=>false
  | some o=>waits o i || o.after.toList.any λe=>Region.binds .any e&&reach ops f e.on i
def ph(E:List Nat)(listed:Array Bool):List Bool:=E.map λe=>listed.getD e false
def KY(E:List Nat)(i:Nat)(p:List Bool):List Bool:=List.zipWith (λe b=>b || Nat.beq e i) E p
def aae(ops:Array Oper)(E:List Nat)(i:Nat)(p:List Bool):Bool:=
 (List.zip E p).all fun (e,b)=>(!reach ops ops.size i e || b)&&(!reach ops ops.size e i || !b)&&(!Nat.beq e i || !b)
def yc(ops:Array Oper)(n i j:Nat):Bool:=Nat.blt j n&& !Nat.beq j i&& !reach ops ops.size j i
def rgB(N:Nat)(ops:Array Oper)(n:Nat)(E:List Nat)(Ps:List (List Bool))(Al:List (List (Nat×Nat)))(AS:Nat):Bool:=
 Nat.ble n ops.size&&((List.range n).all λi=>(match dI ops i with | some d=>Nat.blt d N | none=>true)&&(match ops[i]? with | some o=>o.after.toList.all (λe=> !Region.binds .any e || Nat.blt e.on i) | none=>false)&&
  (List.range n).all λj=>Nat.beq i j || (match dI ops i with | some _=> !(dI ops i==dI ops j) | none=>true))&&
 ((List.range ops.size).all λj=>Nat.blt j n || (List.range n).all λi=>reach ops ops.size j i)&&
 Region.seqB .any ops (ops.size - n) n ((List.range ops.size).map (λi=>Nat.blt i n)).toArray&&
 (Ps.getD 0 [true]==E.map λ_=>false)&&(Ps.getD AS []==E.map λe=>Nat.blt e n)&&((List.range Ps.length).all λk=> !(Ps.getD k []==E.map λe=>Nat.blt e n) || Nat.beq k AS)&&
 ((List.range n).all λi=>(List.range Ps.length).all λk=> !aae ops E i (Ps.getD k []) || (Al.getD i []).any fun (a,b)=>Nat.beq a k&&(Ps[b]? ==some (KY E i (Ps.getD k []))))
section
variable{P:Program}{ops:Array Oper}{Q:Exit->Act->World->Prop}{N n:Nat}{kI:Nat->Value}{Nm:Type}{J:Nat->Nm->St->Prop}{V:Nat->Nm->Value}
def wE(P:Program)(ops:Array Oper)(N n:Nat)(J:Nat->Nm->St->Prop)(V:Nat->Nm->Value)(ρ:Nat->Value)(σ:St)(nm:Nm)(i:Nat)(o:Oper)(k':Nat):Prop:=
 (Region.wanted o (yv ops N ρ)=true/\((∃v σ' qQ,(execOp (ev N ρ) o).run P σ.w= .ok (.value v) σ'.w/\V i qQ=v/\J k' qQ σ'/\ ∀j,yc ops n i j=true->V j qQ=V j nm)\/
  (∃σ' qQ,o.dst=none/\(execOp (ev N ρ) o).run P σ.w= .ok .skip σ'.w/\J k' qQ σ'/\ ∀j,yc ops n i j=true->V j qQ=V j nm)\/
  ∃f args,(execOp (ev N ρ) o).run P σ.w= .ok (.enter f (List.toArray args)) σ.w/\Calls P f args.toArray σ.w λe w'=> ∃v σ' qQ,e= .returned v/\w'=σ'.w/\V i qQ=v/\J k' qQ σ'/\ ∀j,yc ops n i j=true->V j qQ=V j nm))\/
 (Region.wanted o (yv ops N ρ)=false/\V i nm=undef/\J k' nm σ)
structure RInv(ops:Array Oper)(N n:Nat)(E:List Nat)(Ps:List (List Bool))(kI:Nat->Value)(J:Nat->Nm->St->Prop)(V:Nat->Nm->Value)(listed:Array Bool)(ρ:Nat->Value)(σ:St):Prop where
 size:listed.size=ops.size
 off: ∀t,(∀i,i<n->dI ops i≠some t)->ρ t=kI t
 st: ∃nm k,Ps[k]? =some (ph E listed)/\J k nm σ/\ ∀i,i<n->listed.getD i false=true-> ∀d,dI ops i=some d->look N ρ d=V i nm
 low: ∀i,n<=i->listed.getD i false=false
 closed: ∀i o,listed.getD i false=true->ops[i]? =some o-> ∀j,waits o j=true->listed.getD j false=true
theorem pF{listed:Array Bool}(hcl: ∀i o,listed.getD i false=true->ops[i]? =some o-> ∀j,waits o j=true->listed.getD j false=true){i:Nat}:
  ∀(f j:Nat) (o:Oper),ops[j]? =some o->(∀k,waits o k=true->listed.getD k false=true)->reach ops f j i=true->listed.getD i false=true:=by
 intro f
 induction f with
 | zero=>intro j o _ _ h;cases h
 | succ f ih=>
  intro j o ho hw h;rw [reach,ho] at h;simp only [qc3] at h;rcases h with h | h
  ·exact hw i h
  ·obtain ⟨e,he,h⟩:=qbs.1 h;simp only [qa4] at h;have h1:waits o e.on=true:=qbs.2 ⟨e,he,by simp only [qa4];exact ⟨Nat.beq_refl _,h.1⟩⟩;have h2:=hw _ h1;cases f with
   | zero=>cases h.2
   | succ f'=>
    cases Ia:ops[e.on]? with
    | none=>have:=h.2;rw [reach,Ia] at this;cases this
    | some o'=>exact ih e.on o' Ia (λk hk=>hcl _ _ h2 Ia k hk) h.2
theorem Iu{listed:Array Bool}(hs:listed.size=ops.size)(agc: ∀i,n<=i->listed.getD i false=false)(lS: ∀i,i<n->listed.getD i false=true):
  listed=((List.range ops.size).map (λi=>Nat.blt i n)).toArray:=by
 apply Array.ext_getElem?;intro i;by_cases hi:i<ops.size
 ·have h1:listed[i]? =some (listed.getD i false):=by simp [Array.getD,hs,hi]
  rw [h1];simp only [qaq,List.getElem?_map];rw [List.getElem?_range hi];simp only [qac,qah];by_cases hn:i<n
  ·rw [lS i hn,EI hn]
  ·rw [agc i (by omega),wD hn]
 ·rw [qbd (by omega)];simp [hi]
theorem countP_set{listed:Array Bool}{i n:Nat}(hi:i<n)(h0:listed.getD i false=false)(hs:i<listed.size):
  (List.range n).countP (λj=> !listed.getD j false)=(List.range n).countP (λj=> !(listed.setIfInBounds i true).getD j false)+1:=by
 induction n with
 | zero=>omega
 | succ n ih=>
  rw [List.range_succ,List.countP_append,List.countP_append];by_cases h:i=n
  ·subst h;have e1:(List.range i).countP (λj=> !listed.getD j false)=(List.range i).countP (λj=> !(listed.setIfInBounds i true).getD j false):=by
    refine List.countP_congr λj hj=> ?_;rw [getD_set_ne false (by have:=qav.1 hj;omega)]
   have e2:(listed.setIfInBounds i true).getD i false=true:=by simp [Array.getD,hs]
   rw [e1];simp only [List.countP_cons,List.countP_nil,h0,e2]
   rfl
  ·have:=ih (by omega);have e:(listed.setIfInBounds i true).getD n false=listed.getD n false:=getD_set_ne false h;rw [this];simp only [List.countP_cons,List.countP_nil,e];omega
theorem aaf{E:List Nat}{listed:Array Bool}{i:Nat}(hs:i<listed.size):ph E (listed.setIfInBounds i true)=KY E i (ph E listed):=by
 induction E with
 | nil=>rfl
 | cons e E ih=>
  simp only [ph,KY,qaz,List.zipWith_cons_cons] at ih ⊢;rw [ih];congr 1;by_cases h:e=i
  ·subst h;simp [Array.getD,hs]
  ·rw [getD_set_ne false (qbq h),tZ h,Bool.or_false]
theorem Rt{listed:Array Bool}{e:Nat}{b:Bool}: ∀{E:List Nat},(e,b)∈List.zip E (ph E listed)->b=listed.getD e false
 | [],h=>by cases h
 | a::E,h=>by
  simp only [ph,qaz,List.zip_cons_cons,qa7,Prod.mk.injEq] at h;rcases h with ⟨rfl,rfl⟩ | h
  ·rfl
  ·exact Rt (E:=E) h
theorem Ru{E:List Nat}{m:Nat}:ph E (Array.replicate m false)=E.map λ_=>false:=by
 unfold ph;exact qcf λe _=>getD_replicate_false _ _
theorem V2{E:List Nat}{m:Nat}(hE: ∀e∈E,e<n->e<m):ph E ((List.range m).map (λi=>Nat.blt i n)).toArray=E.map λe=>Nat.blt e n:=by
 unfold ph;refine qcf λe he=> ?_;by_cases hm:e<m
 ·simp [Array.getD,hm]
 ·have: ¬e<n:=λh=>hm (hE e he h);rw [wD this];simp [Array.getD,hm]
theorem Rv{E:List Nat}{Ps:List (List Bool)}{Al:List (List (Nat×Nat))}{AS:Nat}(hB:rgB N ops n E Ps Al AS=true)
  (cU: ∀i o k k',i<n->ops[i]? =some o->(k,k')∈Al.getD i []-> ∀nm ρ σ,J k nm σ->(∀t,(∀i,i<n->dI ops i≠some t)->ρ t=kI t)->
   (∀j,waits o j=true->j<n-> ∀d,dI ops j=some d->look N ρ d=V j nm)->wE P ops N n J V ρ σ nm i o k')
  (hk: ∀nm ρ σ,J AS nm σ->(∀t,(∀i,i<n->dI ops i≠some t)->ρ t=kI t)->(∀i,i<n-> ∀d,dI ops i=some d->look N ρ d=V i nm)->
   wpList P ops Q (ops.toList.drop n) (fr N ρ) σ.w):
  ∀(fuel:Nat) (listed:Array Bool) (ρ:Nat->Value) (σ:St),RInv ops N n E Ps kI J V listed ρ σ->(List.range n).countP (λi=> !listed.getD i false)+(ops.size - n)=fuel->
   wpAny P .any ops Q fuel listed (fr N ρ) σ.w:=by
 simp only [rgB,qa4] at hB;obtain ⟨⟨⟨⟨⟨⟨⟨hn,hd⟩,hw⟩,KZ⟩,_⟩,Ih⟩,acK⟩,hal⟩:=hB;have hn:=qa5 hn;have OB: ∀i d,i<n->dI ops i=some d->d<N:=by
  intro i d hi h;have:=qab.1 hd i (qav.2 hi);simp only [qa4] at this;have h1:=this.1.1;rw [h] at h1;refine qa9 λhc=> ?_;simp only [wD hc] at h1;cases h1
 have acL: ∀i o,i<n->ops[i]? =some o-> ∀e∈o.after.toList,Region.binds .any e=true->e.on<i:=by
  intro i o hi ho e he hb;have:=qab.1 hd i (qav.2 hi);simp only [qa4] at this;have h1:=this.1.2;rw [ho] at h1;have:=qab.1 h1 e he;simp only [hb,qae,qck] at this;refine qa9 λhc=> ?_;rw [wD hc] at this;cases this
 have jE: ∀i j d,i<n->j<n->i≠j->dI ops i=some d->dI ops j≠some d:=by
  intro i j d hi hj qh Rw hdj;have:=qab.1 hd i (qav.2 hi);simp only [qa4] at this;have:=qab.1 this.2 j (qav.2 hj);rw [Rw,hdj] at this;simp [tZ qh] at this
 have acM: ∀j i o,n<=j->i<n->ops[j]? =some o->reach ops ops.size j i=true:=by
  intro j i o hj hi ho;have bG:=(qa1.1 ho).1;have:=qab.1 hw j (qav.2 bG);rw [wD (by omega),qck] at this;exact qab.1 this i (qav.2 hi)
 have fin: ∀(listed:Array Bool) (ρ:Nat->Value) (σ:St),RInv ops N n E Ps kI J V listed ρ σ->(∀i,i<n->listed.getD i false=true)->
   listed=((List.range ops.size).map (λi=>Nat.blt i n)).toArray/\wpList P ops Q (ops.toList.drop n) (fr N ρ) σ.w:=by
  intro listed ρ σ inv lS;have EU:=Iu inv.size inv.low lS;refine ⟨EU, ?_⟩;obtain ⟨nm,k,hp,hJ,eM⟩:=inv.st;rw [EU,V2 (λe _ h=>by omega)] at hp;have K1:=(qbi.1 hp).1;have:=qab.1 acK k (qav.2 K1);have e1:Ps.getD k []=E.map λe=>Nat.blt e n:=by simp [List.getD,hp]
  rw [e1] at this;simp only [beq_self_eq_true,qae,qck] at this;have:=Nat.eq_of_beq_eq_true this;subst this;exact hk nm ρ σ hJ inv.off (λi hi d hd=>eM i hi (lS i hi) d hd)
 intro fuel
 induction fuel with
 | zero=>
  intro listed ρ σ inv hf;have lS: ∀i,i<n->listed.getD i false=true:=by
   intro i hi;have h0:(List.range n).countP (λi=> !listed.getD i false)=0:=by omega
   have:=qcg.1 h0 i (qav.2 hi);simpa using this
  obtain ⟨EU,hh⟩:=fin listed ρ σ inv lS;have hdr:ops.toList.drop n=[]:=by rw [List.drop_eq_nil_iff];simp;omega
  rw [hdr] at hh;refine ⟨?_,hh⟩;have:Region.seqB .any ops 0 n listed=true:=by
   rw [EU];have e:ops.size - n=0:=by omega
   rw [e] at KZ;exact KZ
  simpa [Region.seqB] using this
 | succ fuel ih=>
  intro listed ρ σ inv hf;by_cases lS: ∀i,i<n->listed.getD i false=true
  ·
   obtain ⟨EU,hh⟩:=fin listed ρ σ inv lS;have h0:(List.range n).countP (λi=> !listed.getD i false)=0:=by
    rw [qcg];intro i hi;simp [lS i (qav.1 hi)]
   have:=wpAny_of_seq (md:= .any) (Q':=Q) (P:=P) (ops.toList.drop n) n listed (fr N ρ) σ.w (λj=>by simp [List.getElem?_drop]) (by
    rw [EU,List.length_drop,qce];exact KZ) hh
   rw [List.length_drop,qce] at this;rw [show fuel+1=ops.size - n by omega];exact this
  ·
   have MT: ∃i,i<n/\listed.getD i false=false:=by
    refine qa9 λhc=>lS λi hi=> ?_;cases h:listed.getD i false with
    | true=>rfl
    | false=>exact absurd ⟨i,hi,h⟩ hc
   have step: ∀i∈Region.ready .any ops listed,wpOp P ops Q i (wpAny P .any ops Q fuel (listed.setIfInBounds i true)) (fr N ρ) σ.w:=by
    intro i hi;obtain ⟨h1,o,ho,h2⟩:=mem_ready.1 hi;have bG:=(qa1.1 ho).1;have hls:i<listed.size:=by rw [inv.size];exact bG
    have hwj: ∀j,waits o j=true->listed.getD j false=true:=by
     intro j hj;obtain ⟨e,he,hb⟩:=qbs.1 hj;simp only [qa4] at hb;have:=Nat.eq_of_beq_eq_true hb.1;subst this;exact h2 e (by simpa using he) hb.2
    have hin:i<n:=by
     refine qa9 λhc=> ?_;obtain ⟨k,HU,zj⟩:=MT;have:=pF inv.closed _ i o ho hwj (acM i k o (by omega) HU ho);rw [zj] at this;cases this
    have hi0:listed.getD i false=false:=by
     simp only [Array.getD,hls,dif_pos] at h1 ⊢;exact h1
    have acN: ∀j,j<n->i≠j->listed.getD j false=true->yc ops n i j=true:=by
     intro j hj qh hl;have:reach ops ops.size j i=false:=by
      cases hr:reach ops ops.size j i with
      | false=>rfl
      | true=>
       obtain ⟨oj,hoj⟩: ∃oj,ops[j]? =some oj:=by rw [Array.getElem?_eq_getElem (by omega)];exact ⟨_,rfl⟩
       have:=pF inv.closed _ j oj hoj (λk hk=>inv.closed j oj hl hoj k hk) hr;rw [hi0] at this;cases this
     simp only [yc,EI hj,tZ (qbq qh),this,qcl,Bool.and_self]
    obtain ⟨nm,k,hp,hJ,eM⟩:=inv.st;have K1:=(qbi.1 hp).1;have ek:Ps.getD k []=ph E listed:=by simp [List.getD,hp]
    have agd:aae ops E i (ph E listed)=true:=by
     unfold aae;refine qab.2 λ⟨e,b⟩ heb=> ?_;have hb:b=listed.getD e false:=Rt heb;subst hb;simp only [qa4,qc3,qbh];refine ⟨⟨?_, ?_⟩, ?_⟩
     ·cases hr:reach ops ops.size i e with
      | false=>exact .inl rfl
      | true=>exact .inr (pF inv.closed _ i o ho hwj hr)
     ·cases hr:reach ops ops.size e i with
      | false=>exact .inl rfl
      | true=>
       right;cases hl:listed.getD e false with
       | false=>rfl
       | true=>
        cases hoe:ops[e]? with
        | none=>
         cases mR:ops.size with
         | zero=>omega
         | succ q=>rw [mR,reach,hoe] at hr;cases hr
        | some oe=>
         have:=pF inv.closed _ e oe hoe (λk hk=>inv.closed e oe hl hoe k hk) hr;rw [hi0] at this;cases this
     ·by_cases hei:e=i
      ·subst hei;exact .inr hi0
      ·exact .inl (tZ hei)
    have h3:=qab.1 (qab.1 hal i (qav.2 hin)) k (qav.2 K1);rw [ek,agd] at h3;simp only [qae,qck] at h3;obtain ⟨⟨ka,k'⟩,OC,h4⟩:=qbs.1 h3;simp only [qa4,beq_iff_eq] at h4;have:=Nat.eq_of_beq_eq_true h4.1;subst this;have Rx:Ps[k']? =some (ph E (listed.setIfInBounds i true)):=by rw [aaf hls];exact h4.2
    have hdo:=cU i o ka k' hin ho OC nm ρ σ hJ inv.off (λj hj V3 d hd=>eM j V3 (hwj j hj) d hd);have next: ∀v (σ':St) qQ,V i qQ=v->J k' qQ σ'->(∀j,yc ops n i j=true->V j qQ=V j nm)-> ∀a',a'=(fr N ρ).put o.dst v->wpAny P .any ops Q fuel (listed.setIfInBounds i true) a' σ'.w:=by
     rintro v σ' qQ hV Om fu a' rfl;have key: ∀rS,(fr N ρ).put o.dst v=fr N rS->(∀t,(∀i,i<n->dI ops i≠some t)->rS t=kI t)->(∀j,j<n->(listed.setIfInBounds i true).getD j false=true-> ∀d,dI ops j=some d->look N rS d=V j qQ)->
       wpAny P .any ops Q fuel (listed.setIfInBounds i true) ((fr N ρ).put o.dst v) σ'.w:=by
      intro rS e aY acO;rw [e];refine ih _ _ _ ⟨by simp [inv.size],aY,⟨qQ,k',Rx,Om,acO⟩, ?_, ?_⟩ ?_
      ·intro j hj;rw [getD_set_ne false (by omega)];exact inv.low j hj
      ·intro j oj hj hoj q hq;by_cases qh:i=j
       ·subst qh;rw [ho] at hoj;cases hoj;exact getD_set_true (hwj q hq)
       ·rw [getD_set_ne false qh] at hj;exact getD_set_true (inv.closed j oj hj hoj q hq)
      ·have:=countP_set (listed:=listed) (i:=i) (n:=n) hin hi0 hls;omega
     cases YF:o.dst with
     | none=>
      have hdn:dI ops i=none:=by simp [dI,ho,YF]
      refine YF▸key ρ (by rw [YF,jG]) inv.off ?_;intro j hj hl d' J7;by_cases qh:i=j
      ·subst qh;rw [hdn] at J7;cases J7
      ·rw [getD_set_ne false qh] at hl;rw [fu j (acN j hj qh hl)];exact eM j hj hl d' J7
     | some d=>
      have Rw:dI ops i=some d:=by simp [dI,ho,YF]
      have hdN:=OB i d hin Rw;refine YF▸key (upd ρ d v) (by rw [YF,dc]) ?_ ?_
      ·intro t ht;have:t≠d:=λe=>ht i hin (e▸Rw);show (bif Nat.beq t d then v else ρ t)=_;rw [tZ this];exact inv.off t ht
      ·intro j hj hl d' J7;by_cases qh:i=j
       ·subst qh;rw [Rw] at J7;cases J7;have:look N (upd ρ d v) d=v:=by
         rw [vJ _ hdN];show (bif Nat.beq d d then v else _)=v;rw [ML];rfl
        rw [this,hV]
       ·rw [getD_set_ne false qh] at hl;have age:d'≠d:=λe=>jE i j d hin hj qh Rw (e▸J7);have:look N (upd ρ d v) d'=look N ρ d':=by
         unfold look;have:upd ρ d v d'=ρ d':=by show (bif Nat.beq d' d then v else ρ d')=_;rw [tZ age];rfl
         rw [this]
        rw [this,fu j (acN j hj qh hl)];exact eM j hj hl d' J7
    unfold wpOp;rw [ho];simp only [eO];rcases hdo with ⟨RD,bU⟩ | ⟨RD,hV,Om⟩
    ·rw [if_pos RD];refine .inl ?_;unfold Oper.wp;rw [aR];rcases bU with ⟨v,σ',qQ,hr,hV,Om,fu⟩ | ⟨σ',qQ,EV,hr,Om,fu⟩ | ⟨f,args,hr,hc⟩
     ·rw [hr,Oper.upon_value];exact next v σ' qQ hV Om fu _ rfl
     ·rw [hr,Oper.upon_skip];exact next _ σ' qQ rfl Om fu _ (by rw [EV];rfl)
     ·rw [hr,Oper.upon_enter];refine hc.mono ?_;rintro e w' ⟨v,σ',qQ,rfl,rfl,hV,Om,fu⟩;exact next v σ' qQ hV Om fu _ rfl
    ·rw [RD,if_neg (by simp)];exact next undef σ nm hV Om (λ_ _=>rfl) _ rfl
   refine ⟨λagf=> ?_,step⟩;exfalso;obtain ⟨m,⟨hm1,ZF⟩,agh⟩:=exists_least (p:=λi=>i<n/\listed.getD i false=false) MT;obtain ⟨o,ho⟩: ∃o,ops[m]? =some o:=by
    rw [Array.getElem?_eq_getElem (by omega)];exact ⟨_,rfl⟩
   have yd:m<listed.size:=by rw [inv.size];omega
   have:m∈Region.ready .any ops listed:=by
    refine mem_ready.2 ⟨?_,o,ho,λe he hb=> ?_⟩
    ·simp only [Array.getD,yd,dif_pos] at ZF ⊢;exact ZF
    ·have bG:=acL m o hm1 ho e (by simpa using he) hb;cases hx:listed.getD e.on false with
     | true=>rfl
     | false=>
      have:=agh e.on ⟨by omega,hx⟩;omega
   rw [agf] at this;cases this
def qi(F:Nat->Oper->Prop):Nat->Nat->List Oper->Prop
 | 0,_,_=>True
 | _+1,_,[]=>True
 | n+1,k,o::r=>F k o/\qi F n (k+1) r
theorem all_nil{F:Nat->Oper->Prop}{k:Nat}{l:List Oper}:qi F 0 k l:=trivial
theorem all_cons{F:Nat->Oper->Prop}{n k:Nat}{o:Oper}{r:List Oper}(h:F k o)(t:qi F n (k+1) r):qi F (n+1) k (o::r):=⟨h,t⟩
theorem MU{F:Nat->Oper->Prop}: ∀(n k:Nat) (l:List Oper),qi F n k l-> ∀i o,i<n->l[i]? =some o->F (k+i) o
 | 0,_,_,_,_,_,hi,_=>by omega
 | _+1,_,[],_,_,_,_,ho=>by simp at ho
 | n+1,k,o::r,⟨h,t⟩,i,o',hi,ho=>by
  cases i with
  | zero=>simp at ho;subst ho;exact h
  | succ i=>
   have:=MU n (k+1) r t i o' (by omega) (by simpa using ho);rw [show k+(i+1)=k+1+i by omega];exact this
def Gg(F:Nat->Nat->Prop):List (Nat×Nat)->Prop
 | []=>True
 | (k,k')::r=>F k k'/\Gg F r
theorem acP{F:Nat->Nat->Prop}: ∀{l:List (Nat×Nat)},Gg F l-> ∀k k',(k,k')∈l->F k k'
 | [],_,_,_,h=>by cases h
 | (a,b)::r,⟨h,t⟩,k,k',hm=>by
  rcases qa7.1 hm with e | hm
  ·cases e;exact h
  ·exact acP t k k' hm
def UO(l:List (List (Nat×Nat)))(i:Nat):List (Nat×Nat):=l.getD i []
def Jl(l:List (Nm->St->Prop))(k:Nat)(nm:Nm)(σ:St):Prop:=(l.getD k (λ_ _=>False)) nm σ
def Vl(l:List (Nm->Value))(i:Nat)(nm:Nm):Value:=(l.getD i (λ_=>undef)) nm
def ye(ops:Array Oper)(n t:Nat):Bool:=(List.range n).all λi=> !(dI ops i==some t)
theorem Gh{t:Nat}(h:ye ops n t=true): ∀i,i<n->dI ops i≠some t:=by
 intro i hi;have:=qab.1 h i (qav.2 hi);simpa using this
def Ob(P:Program)(ops:Array Oper)(N n:Nat)(kI:Nat->Value)(J:Nat->Nm->St->Prop)(V:Nat->Nm->Value)(i:Nat)(o:Oper)(k k':Nat):Prop:=
 ∀nm ρ σ,J k nm σ->(∀t,ye ops n t=true->ρ t=kI t)->(∀j,waits o j=true->Nat.blt j n=true-> ∀d,dI ops j=some d->look N ρ d=V j nm)->wE P ops N n J V ρ σ nm i o k'
theorem acQ{id:Nat}{l:List Oper}{σ:St}(n:Nat)(E:List Nat)(Ps:List (List Bool))(Al:List (List (Nat×Nat)))(AS:Nat)(Js:List (Nm->St->Prop))(Vs:List (Nm->Value))(nm0:Nm)
  (hm:P.follows .mixedOrders=true) (hB:rgB N l.toArray n E Ps Al AS=true) (h0: ∀qj,qj.w.heap=σ.w.heap->Md (dv []) σ qj->Jl Js 0 nm0 qj)
  (cU:qi (λi o=>Gg (Ob P l.toArray N n kI (Jl Js) (Vl Vs) i o) (UO Al i)) n 0 l)
  (hk: ∀nm ρ σ',Jl Js AS nm σ'->(∀t,ye l.toArray n t=true->ρ t=kI t)->(∀i,Nat.blt i n=true-> ∀d,dI l.toArray i=some d->look N ρ d=Vl Vs i nm)->
   wpList P l.toArray Q (l.drop n) (fr N ρ) σ'.w):(Code.region id l.toArray true).wp P Q (fr N kI) σ.w:=by
 refine wp_region_any hm ?_
 let qj:St:=⟨{ σ.w with drawn:=σ.w.drawn+1 },σ.gA,σ.ok,σ.ef⟩
 have m1:Md (dv []) σ qj:=⟨rfl, .inr rfl,rfl, .inr (Nat.le_succ _),rfl,⟨qa3 _,λ_ _=>rfl,λ_=>qa3 _⟩,λ_ _ _=>rfl,λ_ _ _=>rfl⟩;have hB':=hB;simp only [rgB,qa4] at hB';obtain ⟨⟨⟨⟨⟨⟨⟨hn,_⟩,_⟩,_⟩,fu⟩,_⟩,_⟩,_⟩:=hB';have Vb:n<=l.length:=by simpa using qa5 hn
 have hb: ∀j,Nat.blt j n=true->j<n:=λj h=>qa9 λhc=>by rw [wD hc] at h;cases h
 refine Rv (kI:=kI) (J:=Jl Js) (V:=Vl Vs) hB ?_ ?_ _ _ kI qj ⟨by simp,λ_ _=>rfl,⟨nm0,0, ?_,h0 qj rfl m1,λi _ h=>(by rw [getD_replicate_false] at h;exact absurd h (by decide))⟩,λi _=>getD_replicate_false _ _,λi _ h=>(by rw [getD_replicate_false] at h;exact absurd h (by decide))⟩ ?_
 ·intro i o k k' hi ho OC nm ρ σ' hJ aY aG;have:=acP (MU n 0 l cU i o hi (by simpa using ho)) k k' (by rw [qc4];exact OC);rw [qc4] at this;exact this nm ρ σ' hJ (λt ht=>aY t (Gh ht)) (λj hj V3 d hd=>aG j hj (hb j V3) d hd)
 ·intro nm ρ σ' hJ aY eM;simpa using hk nm ρ σ' hJ (λt ht=>aY t (Gh ht)) (λi hi d hd=>eM i (hb i hi) d hd)
 ·rw [Ru];have:Ps.getD 0 [true]=E.map λ_=>false:=by simpa using fu
  cases Ps with
  | nil=>
   cases E with
   | nil=>simp at this
   | cons e E=>simp at this
  | cons p Ps=>simpa using this
 ·have:(List.range n).countP (λi=> !(Array.replicate l.toArray.size false).getD i false)=n:=by
   rw [List.countP_eq_length.2]
   ·simp
   ·intro i _;rw [getD_replicate_false];rfl
  rw [this];simp;omega
theorem BD{id:Nat}{l:List Oper}{σ:St}(n:Nat)(E:List Nat)(Ps:List (List Bool))(Al:List (List (Nat×Nat)))(AS:Nat)(Js:List (Nm->St->Prop))(Vs:List (Nm->Value))(nm0:Nm)
 (hm:P.follows .mixedOrders=true) (hB:rgB N l.toArray n E Ps Al AS=true) (h0: ∀qj,Md (dv []) σ qj->Jl Js 0 nm0 qj)
 (cU:qi (λi o=>Gg (Ob P l.toArray N n kI (Jl Js) (Vl Vs) i o) (UO Al i)) n 0 l)
 (hk: ∀nm ρ σ',Jl Js AS nm σ'->(∀t,ye l.toArray n t=true->ρ t=kI t)->(∀i,Nat.blt i n=true-> ∀d,dI l.toArray i=some d->look N ρ d=Vl Vs i nm)->
  wpList P l.toArray Q (l.drop n) (fr N ρ) σ'.w):(Code.region id l.toArray true).wp P Q (fr N kI) σ.w:=acQ n E Ps Al AS Js Vs nm0 hm hB (λqj _ m=>h0 qj m) cU hk
variable{ρ:Nat->Value}{σ:St}{nm qQ:Nm}{i k k':Nat}{o:Oper}{v:Value}{d:Nat}{op:Op}{ty:TypeId}{pos:String}{af:Array Edge}{gd:Option (Nat×Bool)}
theorem Iw{t:Nat}(h:ρ t=kI t)(hv:look N kI t=v):look N ρ t=v:=by
 rw [←hv];unfold look;rw [h]
theorem RE{j d:Nat}(hd:dI ops j=some d)(h:look N ρ d=undef):yv ops N ρ j=none:=by
 unfold yv;rw [show (ops[j]?).bind (·.dst)=some d from hd];simp only [h];rfl
theorem jJ{j d:Nat}{b:Bool}(hd:dI ops j=some d)(h:look N ρ d=B b):yv ops N ρ j=some b:=by
 unfold yv;rw [show (ops[j]?).bind (·.dst)=some d from hd];simp only [h]
theorem tF(hw:Region.wanted o (yv ops N ρ)=true)(hr:dX P σ.w.heap N ρ o v)(hV:V i nm=v)(hJ:J k nm σ):wE P ops N n J V ρ σ nm i o k:=
 .inl ⟨hw, .inl ⟨v,σ,nm,hr σ.w rfl,hV,hJ,λ_ _=>rfl⟩⟩
theorem Gi(hw:Region.wanted o (yv ops N ρ)=false)(hV:V i nm=undef)(hJ:J k nm σ):wE P ops N n J V ρ σ nm i o k:= .inr ⟨hw,hV,hJ⟩
theorem yf{Rz:Value->St->Prop}(hw:Region.wanted o (yv ops N ρ)=true)(he:Ex P σ N ρ o Rz)(h: ∀v σ',Rz v σ'-> ∃kH qQ,kH.w=σ'.w/\V i qQ=v/\J k' qQ kH/\ ∀j,yc ops n i j=true->V j qQ=V j nm):wE P ops N n J V ρ σ nm i o k':=by
 obtain ⟨v,σ',hr,hz⟩:=he;obtain ⟨kH,qQ,uF,h1,h2,h3⟩:=h v σ' hz;refine .inl ⟨hw, .inl ⟨v,kH,qQ, ?_,h1,h2,h3⟩⟩;rw [uF];exact hr
theorem aag{Rs:St->Prop}(hw:Region.wanted o (yv ops N ρ)=true)(hd:o.dst=none)(he:ExS P σ N ρ o Rs)(h: ∀σ',Rs σ'-> ∃kH qQ,kH.w=σ'.w/\J k' qQ kH/\ ∀j,yc ops n i j=true->V j qQ=V j nm):wE P ops N n J V ρ σ nm i o k':=by
 obtain ⟨σ',hr,hz⟩:=he;obtain ⟨kH,qQ,uF,h2,h3⟩:=h σ' hz;refine .inl ⟨hw, .inr (.inl ⟨kH,qQ,hd, ?_,h2,h3⟩)⟩;rw [uF];exact hr
theorem jK{Rz:Value->St->Prop}(hw:Region.wanted o (yv ops N ρ)=true)(he:Cx P σ N ρ o Rz)(h: ∀v σ',Rz v σ'-> ∃kH qQ,kH.w=σ'.w/\V i qQ=v/\J k' qQ kH/\ ∀j,yc ops n i j=true->V j qQ=V j nm):wE P ops N n J V ρ σ nm i o k':=by
 obtain ⟨f,args,hr,hc⟩:=he;refine .inl ⟨hw, .inr (.inr ⟨f,args,hr,hc.mono ?_⟩)⟩;rintro e w' ⟨v,σ',rfl,rfl,hz⟩;obtain ⟨kH,qQ,uF,h1,h2,h3⟩:=h v σ' hz;exact ⟨v,kH,qQ,rfl,uF.symm,h1,h2,h3⟩
theorem acR{i:Nat}{o:Oper}{l:List (Nat×Nat)}(hl:(l.all λp=>Nat.beq p.1 p.2)=true)
  (h: ∀k nm ρ σ,J k nm σ->(∀t,ye ops n t=true->ρ t=kI t)->(∀j,waits o j=true->Nat.blt j n=true-> ∀d,dI ops j=some d->look N ρ d=V j nm)->wE P ops N n J V ρ σ nm i o k):
  Gg (Ob P ops N n kI J V i o) l:=by
 induction l with
 | nil=>trivial
 | cons p r ih=>
  obtain ⟨a,b⟩:=p;simp only [List.all_cons,qa4] at hl;have:=Nat.eq_of_beq_eq_true hl.1;subst this;exact ⟨λnm ρ σ hJ aY aG=>h a nm ρ σ hJ aY aG,ih hl.2⟩
theorem ac{m k:Nat}{o:Oper}{r:List Oper}{Al:List (List (Nat×Nat))}(hl:((UO Al k).all λp=>Nat.beq p.1 p.2)=true)
 (h: ∀k' nm ρ σ,J k' nm σ->(∀t,ye ops n t=true->ρ t=kI t)->(∀j,waits o j=true->Nat.blt j n=true-> ∀d,dI ops j=some d->look N ρ d=V j nm)->wE P ops N n J V ρ σ nm k o k')
 (t:qi (λi o=>Gg (Ob P ops N n kI J V i o) (UO Al i)) m (k+1) r):qi (λi o=>Gg (Ob P ops N n kI J V i o) (UO Al i)) (m+1) k (o::r):=all_cons (acR hl h) t
theorem wn{d:Option Nat}{op:Op}{ty:TypeId}{pos:String}{af:Array Edge}{y:Nat->Option Bool}:Region.wanted ⟨d,op,ty,pos,af,none⟩ y=true:=aS _ rfl _
def aah(F:Nat->Prop):List Nat->Prop
 | []=>True
 | j::r=>F j/\aah F r
theorem acS{F:Nat->Prop}: ∀{l:List Nat},aah F l-> ∀j∈l,F j
 | [],_,_,h=>by cases h
 | a::r,⟨h,t⟩,j,hm=>by
  rcases qa7.1 hm with e | hm
  ·cases e;exact h
  ·exact acS t j hm
theorem agi(l:List Nat)(hb:((List.range n).all λj=> !yc ops n i j || l.contains j)=true)(h:aah (λj=>V j qQ=V j nm) l): ∀j,yc ops n i j=true->V j qQ=V j nm:=by
 intro j hj;have V3:j<n:=by
  simp only [yc,qa4] at hj;exact qa9 λhc=>by rw [wD hc] at hj;cases hj.1.1
 have:=qab.1 hb j (qav.2 V3);rw [hj] at this;simp only [qae,qck,List.contains_iff_mem] at this;exact acS h j this
end
theorem V4{N:Nat}{ρ:Nat->Value}{L:List (Nat×Value)}(h: ∀p∈L,look N ρ p.1=p.2):fr N ρ=fr N (cz ρ L):=by
 refine Q7 λt ht=> ?_
 induction L with
 | nil=>rfl
 | cons p r ih=>
  have h1:=h p (by simp);rw [cz];by_cases e:t=p.1
  ·subst e;rw [ML, ←h1,vJ _ ht];rfl
  ·rw [tZ e];exact ih (λq hq=>h q (by simp [hq]))
theorem Md.jj{S:BS}{a b c:St}(h:Md S a b)(k:Md (dv []) b c):Md S a c:=h.step k (λ_ _ h=>h.elim)
theorem Md.comp{S S':BS}{a b c:St}(h:Md S a b)(k:Md S' b c):Md (λi=>S i\/S' i) a c:=(h.mono λ_ h=> .inl h).step k (λ_ _ h=> .inr h)
theorem RS.zz{el:Nat}{α:Type}[Rp α]{σ σ':St}{S:BS}{v u:Value}{xs:List α}{a:Int}{e:α}{b o:Nat}(h:RS el σ v xs)(hg:bs xs a=some e)(hi:Ix v a (Rp.sz α) b o){k:Nat}(hk:k<Rp.sz α)
  (hc:jH σ.w.heap b (o+k)=some u) (m:Md S σ σ'):jH σ'.w.heap b (o+k)=some u:=by
 obtain ⟨h0,h1,h2⟩:=lD hg;obtain ⟨ob,mm,c,rfl,g0,g1,rfl⟩:=hi.it;rcases h with ⟨_,rfl⟩ | ⟨b,o,c,hv,_,wi,aab,hA⟩
 ·simp at h1
 ·cases hv;have:(a.toNat+1)*Rp.sz α<=xs.length*Rp.sz α:=qaj _ h1;rw [Nat.add_mul] at this;rw [iT] at hc ⊢;rw [←hc];exact m.ext.cell b _ (by omega)
theorem RS.RF{el:Nat}{σ σ':St}{S:BS}{b o c:Nat}{zs:List Int}(h:RS el σ (Sl (some ⟨b,o,none⟩) zs c) zs)(hc: ∀j,(hj:j<zs.length)->jH σ.w.heap b (o+j)=some (I zs[j]))(m:Md S σ σ'):
  ∀j,(hj:j<zs.length)->jH σ'.w.heap b (o+j)=some (I zs[j]):=by
 intro j hj;rcases h with ⟨_,rfl⟩ | ⟨b,o,c,hv,_,wi,aab,hA⟩
 ·simp at hj
 ·cases hv;rw [←hc j hj,iT,iT];exact m.ext.cell b _ (by have:Rp.sz Int=1:=rfl;rw [this] at aab;omega)
end Go.Vs
namespace Go.Vs
open Go
section
variable{P:Program}{H:Array Obj}{n:Nat}{ρ:Nat->Value}{d:Option Nat}{ty T:TypeId}{pos:String}{af:Array Edge}{gd:Option (Nat×Bool)}
theorem oC{fs:Array Field}{parts:Array (Nat×Operand)}{ps:List (Nat×Value)}{cs:Array Value}{z:Value}{s bt:Nat}{places:Array (Nat×Nat)}(hT:P.underlying T=some (.struct fs))(hi:TI P T z s bt)
  (MO: ∀w,(fs.mapM (λf=>do pure (f.offset, ←sizeOf f.type)):Sem (Array (Nat×Nat))).run P w= .ok places w) (hp:parts.toList.map (λp=>(p.1,ev n ρ p.2))=ps)
  (Ay:Instr.fill (places[·]?) z.cells ps=some cs):dX P H n ρ ⟨d, .build T parts,ty,pos,af,gd⟩ (.agg cs):=λw _=>by
 have hpp:(parts.map fun (i,x)=>(i,ev n ρ x))=ps.toArray:=by rw [←hp, ←Array.toList_map]
 simp only [execOp,hpp,Instr.build,underlying,hT,oz hi,Sem.run_bind,run_program,Result.andThen_ok,Sem.run_pure,MO,Ay]
theorem aai{E m:Nat}{xs:List Int}{x y:Operand}{a e:Int}{z:Value}{bt:Nat}(hT:P.underlying T=some (.array m E))(hi:TI P E z 1 bt)(hE:P.underlying E=some (.int .i64))
  (hx:ev n ρ x= .agg (xs.map I).toArray) (hy:ev n ρ y=I a) (hg:bs xs a=some e) (hl:xs.length=m):dX P H n ρ ⟨d, .index T x y,ty,pos,af,gd⟩ (I e):=by
 obtain ⟨h0,h1,h2⟩:=lD hg;exact F1 hT hi hE hx hy h0 (by omega) (by rw [qb6 h1,h2])
end
theorem oT{α β:Type}{a:Option Addr}{xs:List α}{ys:List β}{c:Nat}(h:xs.length=ys.length):Sl a xs c=Sl a ys c:=by unfold Sl;rw [h]
section
variable{P:Program}{n:Nat}{ρ:Nat->Value}{σ:St}
theorem oD{T:TypeId}{D:TypeDesc}{cs:List Value}{z:Value}{s bt b:Nat}(hT:P.underlying T=some D)(hD:(match D with | .struct _=>false | .array _ _=>false | _=>true)=false)
  (hi:TI P T z s bt) (hlen:cs.length=s) (hB: ∀j,(hj:j<cs.length)->jH σ.w.heap b (0+j)=some cs[j]):(loadVar T ⟨b,0,none⟩).run P σ.w= .ok (.agg cs.toArray) σ.w:=by
 have xF:(isAgg T).run P σ.w= .ok true σ.w:=by
  simp only [isAgg,underlying,Sem.run_bind,run_program,Result.andThen_ok,hT,Sem.run_pure];cases D <;> simp_all
 have hld:=run_loadCellsFrom (P:=P) σ.w b 0 s 0 cs [] hlen (λj hj=>by rw [←iT];simpa using hB j hj);simp [loadVar,xF,run_typeInfo hi,loadCells,hld]
def mg(P:Program)(n:Nat)(ρ:Nat->Value)(w:World):List ResultVar->List Value->Prop
 | [],[]=>True
 | .tmp t::r,v::vs=>look n ρ t=v/\mg P n ρ w r vs
 | .cell t T::r,v::vs=>(∃a,look n ρ t= .pointer (some a)/\(loadVar T a).run P w= .ok v w)/\mg P n ρ w r vs
 | _,_=>False
theorem eU{w:World}:mg P n ρ w [] []:=trivial
theorem eH{w:World}{t:Nat}{r:List ResultVar}{v:Value}{vs:List Value}(h:look n ρ t=v)(k:mg P n ρ w r vs):mg P n ρ w (.tmp t::r) (v::vs):=⟨h,k⟩
theorem u0{w:World}{t T b:Nat}{r:List ResultVar}{v:Value}{vs:List Value}(h:look n ρ t=pt b 0)(hl:(loadVar T ⟨b,0,none⟩).run P w= .ok v w)(k:mg P n ρ w r vs):mg P n ρ w (.cell t T::r) (v::vs):=⟨⟨_,h,hl⟩,k⟩
def Iy(D:Array Value):ResultVar->Sem Value
 | .tmp t=>pure (D.getD t undef)
 | .cell a t=>do loadVar t (←asAddr (D.getD a undef))
theorem V5{w:World}: ∀(rs:List ResultVar) (vs:List Value),mg P n ρ w rs vs->(rs.mapM (Iy (fr n ρ).tmps)).run P w= .ok vs w:=by
 intro rs
 induction rs with
 | nil=>intro vs h;cases vs with
  | nil=>rfl
  | cons=>exact h.elim
 | cons r rs ih=>
  intro vs h;cases vs with
  | nil=>cases r <;> exact h.elim
  | cons v vs=>
   cases r with
   | tmp t=>
    obtain ⟨h1,h2⟩:=h;have e:(Iy (fr n ρ).tmps (.tmp t)).run P w= .ok v w:=by
     simp only [Iy,look_eq,h1,Sem.run_pure]
    simp only [List.mapM_cons,Sem.run_bind,e,Result.andThen_ok,ih vs h2,Sem.run_pure]
   | cell t T=>
    obtain ⟨⟨a,h1,hl⟩,h2⟩:=h;have e:(Iy (fr n ρ).tmps (.cell t T)).run P w= .ok v w:=by
     simp only [Iy,look_eq,h1,asAddr,Sem.run_bind,Sem.run_pure,Result.andThen_ok,hl]
    simp only [List.mapM_cons,Sem.run_bind,e,Result.andThen_ok,ih vs h2,Sem.run_pure]
def acT:List Value->Value
 | [v]=>v
 | vs=> .tuple vs.toArray
theorem cv{fn:Func}{w:World}{rs:List ResultVar}{vs:List Value}{v:Value}(h:fn.results=rs.toArray)(hk:mg P n ρ w rs vs)(hv:acT vs=v):(results fn (fr n ρ).tmps).run P w= .ok v w:=by
 have hr:=V5 rs vs hk;have hm:(fn.results.mapM (Iy (fr n ρ).tmps)).run P w= .ok vs.toArray w:=by
  rw [h,List.mapM_toArray];show ((List.mapM (Iy (fr n ρ).tmps) rs) >>= λa=>pure (List.toArray a):Sem (Array Value)).run P w=_;rw [Sem.run_bind,hr];rfl
 have cE:results fn (fr n ρ).tmps=(do let vs←fn.results.mapM (Iy (fr n ρ).tmps);pure (if h:vs.size=1 then vs[0] else .tuple vs)):=by
  unfold results;congr 1
 rw [cE,Sem.run_bind,hm];simp only [Result.andThen_ok,Sem.run_pure];rw [←hv]
 match vs with
 | []=>rfl
 | [v]=>rfl
 | v::u::r=>simp [acT]
end
end Go.Vs
namespace Go.Vs
open Go
structure Pb(S:BS)(σ σ':St):Prop where
 w:σ'.w=σ.w
 ef:σ'.ef=σ.ef
 gA: ∀b, ¬S b->σ'.gA b=σ.gA b
 le: ∀b,σ.gA b<=σ'.gA b
theorem Pb.md{S:BS}{σ σ':St}(h:Pb S σ σ'):Md S σ σ':=
 ⟨by rw [h.w], .inr (by rw [h.w]),by rw [h.w],by rw [h.w];exact .inr (qa3 _),h.ef,⟨by unfold St.size;rw [h.w];exact qa3 _,λb _=>by rw [h.w],h.le⟩,λb _ _=>by rw [h.w],λb _ hn=>h.gA b hn⟩
theorem Pb.trans{S S':BS}{a b c:St}(h:Pb S a b)(k:Pb S' b c):Pb (λi=>S i\/S' i) a c:=
 ⟨k.w.trans h.w,k.ef.trans h.ef,λb hb=>(k.gA b (λe=>hb (.inr e))).trans (h.gA b (λe=>hb (.inl e))),λb=>qaa (h.le b) (k.le b)⟩
theorem Pb.mono{S S':BS}{a b:St}(h:Pb S a b)(hs: ∀i,S i->S' i):Pb S' a b:=⟨h.w,h.ef,λb hb=>h.gA b (λe=>hb (hs b e)),h.le⟩
def Ch.big(K:List Ch):Ch where
 dup:=false
 fp:=dv K
 as σ:=ji σ K/\apart K
 Ir h:=by cases h
 bG h:=mf h.1
 fu m hd h:=⟨iS h.1 m hd,h.2⟩
def acU{α:Type}[Rp α](K:List Ch)(v:Value)(xs:List α):Prop:= ∀σ,ji σ K->apart K-> ∃σ',Pb (dv K) σ σ'/\RS 0 σ' v xs
inductive gU:List Ch->List Ch->List Ch->Prop
 | nil:gU [] [] []
 | tu {α:Type} [Rp α] {lo el:Nat} {v:Value} {xs:List α} {Ln A B:List Ch}:gU Ln A B->gU (Ch.own lo el v xs::Ln) A (Ch.ro 0 v xs::B)
 | RH {α:Type} [Rp α] {lo el:Nat} {v v':Value} {xs ys:List α} {Ln A B:List Ch}:(∀σ,Ow σ lo el v xs->Ow σ lo el v' ys/\ ∀b,blk v'=some b->blk v=some b)->gU Ln A B->gU (Ch.own lo el v xs::Ln) A (Ch.ro 0 v' ys::B)
 | RI {α:Type} [Rp α] {v:Value} {xs:List α} {K Ln A B:List Ch}:acU K v xs->gU Ln A B->gU (Ch.big K::Ln) A (Ch.ro 0 v xs::B)
 | same {c:Ch} {Ln A B:List Ch}:gU Ln A B->gU Ln (c::A) (c::B)
 | again {α:Type} [Rp α] {v:Value} {xs:List α} {k:Nat} {Ln A B:List Ch}:gU Ln A B->nth B k=some (Ch.ro 0 v xs)->gU Ln A (Ch.ro 0 v xs::B)
section
variable{P:Program}{n:Nat}{ρ:Nat->Value}{aq σ:St}{S0:BS}{Ln A B R:List Ch}
theorem gU.dv(h:gU Ln A B): ∀b,Go.Vs.dv B b↔Go.Vs.dv A b:=by
 induction h with
 | nil=>intro b;exact Iff.rfl
 | tu _ ih=>intro b;exact ⟨λh=>h.elim (λh=>h.elim) (ih b).1,λh=> .inr ((ih b).2 h)⟩
 | RH _ _ ih=>intro b;exact ⟨λh=>h.elim (λh=>h.elim) (ih b).1,λh=> .inr ((ih b).2 h)⟩
 | RI _ _ ih=>intro b;exact ⟨λh=>h.elim (λh=>h.elim) (ih b).1,λh=> .inr ((ih b).2 h)⟩
 | same _ ih=>intro b;exact or_congr Iff.rfl (ih b)
 | again _ _ ih=>intro b;exact ⟨λh=>h.elim (λh=>h.elim) (ih b).1,λh=> .inr ((ih b).2 h)⟩
theorem gU.apart(h:gU Ln A B):Go.Vs.apart A->Go.Vs.apart B:=by
 induction h with
 | nil=>exact id
 | tu _ ih=>exact λh=>⟨λ_ h=>h.elim,ih h⟩
 | RH _ _ ih=>exact λh=>⟨λ_ h=>h.elim,ih h⟩
 | RI _ _ ih=>exact λh=>⟨λ_ h=>h.elim,ih h⟩
 | same h0 ih=>exact λh=>⟨λb hb fS=>h.1 b hb ((h0.dv b).1 fS),ih h.2⟩
 | again _ _ ih=>exact λh=>⟨λ_ h=>h.elim,ih h⟩
theorem Ow.pb{α:Type}[Rp α]{el lo:Nat}{v:Value}{xs:List α}(h:Ow σ lo el v xs): ∃σ',Pb (λb=>blk v=some b) σ σ'/\RS 0 σ' v xs:=by
 have hl:=h.lt;rcases h with ⟨rfl,rfl⟩ | ⟨b,o,c,C,T,rfl,h2,h3,h4,h5,h6,h7⟩
 ·exact ⟨σ,⟨rfl,rfl,λ_ _=>rfl,λ_=>qa3 _⟩,RS.nil⟩
 ·have hb:=hl b rfl;have hE:=St.F5 (σ:=σ) (e:=o+xs.length*Rp.sz α) hb;refine ⟨σ.PZ b (o+xs.length*Rp.sz α) hb,⟨rfl,rfl,λi jE=> ?_,hE.gA⟩, .inr ⟨b,o,c,rfl,qa8 _,h4, ?_,λi hi=>((h7 i hi).low (qa8 _)).same hE rfl⟩⟩
  ·show (if i=b then _ else _)=_;rw [if_neg (by intro e;subst e;exact jE rfl)]
  ·show _<=(if b=b then _ else _);rw [if_pos rfl];omega
theorem gU.PZ(h:gU Ln A B): ∀{σ:St},ji σ Ln->Go.Vs.apart Ln->ji σ A->(∀b,Go.Vs.dv A b-> ¬Go.Vs.dv Ln b)-> ∃tg,Pb (Go.Vs.dv Ln) σ tg/\ji tg B:=by
 induction h with
 | nil=>intro σ _ _ _ _;exact ⟨σ,⟨rfl,rfl,λ_ _=>rfl,λ_=>qa3 _⟩,trivial⟩
 | @tu α _ lo el v xs Ln A B hl ih=>
  rintro σ ⟨h1,h2⟩ ⟨h3,h4⟩ hA hd;obtain ⟨qj,p1,hR⟩:=Ow.pb (h1:Ow σ lo el v xs);obtain ⟨iL,p2,h5⟩:=ih (iS h2 p1.md (λb hb fS=>h3 b fS hb)) h4 (iS hA p1.md (λb hb fS=>hd b hb (.inl fS))) (λb hb fS=>hd b hb (.inr fS));exact ⟨iL,(p1.trans p2).mono (λb hb=>hb),hR.ext p2.md.ext,h5⟩
 | @RH α _ lo el v v' xs ys Ln A B hV hl ih=>
  rintro σ ⟨h1,h2⟩ ⟨h3,h4⟩ hA hd;obtain ⟨hO,fS⟩:=hV σ h1;obtain ⟨qj,p0,hR⟩:=Ow.pb hO;have p1:=p0.mono (S':=λb=>blk v=some b) fS;obtain ⟨iL,p2,h5⟩:=ih (iS h2 p1.md (λb hb fS=>h3 b fS hb)) h4 (iS hA p1.md (λb hb fS=>hd b hb (.inl fS))) (λb hb fS=>hd b hb (.inr fS));exact ⟨iL,(p1.trans p2).mono (λb hb=>hb),hR.ext p2.md.ext,h5⟩
 | @RI α _ v xs K Ln A B hK hl ih=>
  rintro σ ⟨h1,h2⟩ ⟨h3,h4⟩ hA hd;obtain ⟨qj,p1,hR⟩:=hK σ h1.1 h1.2;obtain ⟨iL,p2,h5⟩:=ih (iS h2 p1.md (λb hb fS=>h3 b fS hb)) h4 (iS hA p1.md (λb hb fS=>hd b hb (.inl fS))) (λb hb fS=>hd b hb (.inr fS));exact ⟨iL,(p1.trans p2).mono (λb hb=>hb),hR.ext p2.md.ext,h5⟩
 | @same c Ln A B hl ih=>
  rintro σ h1 h2 ⟨h3,h4⟩ hd;obtain ⟨tg,p,h5⟩:=ih h1 h2 h4 (λb hb=>hd b (.inr hb));exact ⟨tg,p,c.fu p.md (λb hb=>hd b (.inl hb)) h3,h5⟩
 | again hl hk ih=>
  intro σ h1 h2 hA hd;obtain ⟨tg,p,h5⟩:=ih h1 h2 hA hd;exact ⟨tg,p,Gd hk h5,h5⟩
def Ab(m:Nat)(c:Ch):Prop:= ∀σ σ':St,σ'.w=σ.w->(∀b,m<=b\/c.fp b->σ'.gA b=σ.gA b)->c.as σ->c.as σ'
def ya(m:Nat):List Ch->Prop
 | []=>True
 | c::l=>Ab m c/\ya m l
theorem V6{m el:Nat}{σ σ':St}(hw:σ'.w=σ.w)(hv: ∀b,m<=b->σ'.gA b=σ.gA b)(h:m<=el):Ot el σ σ':=
 ⟨λb _ _=>by rw [hw],λb hb=>qay (hv b (qaa h hb)).symm⟩
theorem Ab.own{α:Type}[Rp α]{m lo el:Nat}{v:Value}{xs:List α}(h:m<=el):Ab m (Ch.own lo el v xs):=by
 intro σ σ' hw hv hO;rcases (hO:Ow σ lo el v xs) with hO | ⟨b,o,c,C,T,rfl,h2,h3,h4,h5,h6,h7⟩
 ·exact .inl hO
 ·refine .inr ⟨b,o,c,C,T,rfl,h2,by rw [hw];exact h3,h4,h5,(hv b (.inr rfl)).trans h6,λi hi=> ?_⟩;obtain ⟨cs,h8,h9⟩:=h7 i hi;exact ⟨cs,Rp.wh (V6 hw (λb hb=>hv b (.inl hb)) h) h8,λj hj=>by rw [←h9 j hj];unfold St.cell;rw [hw]⟩
theorem Ab.Cs{α:Type}[Rp α][Sc α]{m lo el:Nat}{v:Value}{xs:List α}:Ab m (Ch.own lo el v xs):=by
 intro σ σ' hw hv hO;exact (Ab.own (m:=m) (el:=m) (lo:=lo) (v:=v) (xs:=xs) (qa3 m) σ σ' hw hv (Ow.sc (hO:Ow σ lo el v xs)):Ow σ' lo m v xs).sc
theorem Cg{m:Nat}{σ σ':St}(hw:σ'.w=σ.w): ∀{L:List Ch},ya m L->(∀b,m<=b\/Go.Vs.dv L b->σ'.gA b=σ.gA b)->ji σ L->ji σ' L
 | [],_,_,_=>trivial
 | c::l,⟨h1,h2⟩,hv,⟨h3,h4⟩=>⟨h1 σ σ' hw (λb hb=>hv b (hb.imp id .inl)) h3,Cg hw h2 (λb hb=>hv b (hb.imp id .inr)) h4⟩
open Classical in
theorem bL.tu{f:FuncId}{args:List Value}{post:Nat->Value->List Ch->Prop}(hl:gU Ln A B)(hc:bL P f args B post)(H:Hp S0 aq σ (Ln++(A++R)))(nM: ∀m v L',post m v L'->ya m L'):
  Calls P f args.toArray σ.w λe w'=> ∃v σ' L',e= .returned v/\w'=σ'.w/\post σ.size v L'/\Hp S0 aq σ' (L'++(Ln++R))/\Md (dv A) σ σ':=by
 obtain ⟨a1,a23⟩:=eG.1 H.all;obtain ⟨a2,a3⟩:=eG.1 a23;obtain ⟨p1,p23,p4⟩:=fh.1 H.ap;obtain ⟨p2,p3,p5⟩:=fh.1 p23;have pA: ∀b,dv A b-> ¬dv Ln b:=λb hb h=>p4 b h (bM.2 (.inl hb));have pR: ∀b,dv R b-> ¬dv Ln b:=λb hb h=>p4 b h (bM.2 (.inr hb));obtain ⟨tg,pp,aB⟩:=hl.PZ a1 p1 a2 pA;have mR:tg.size=σ.size:=by unfold St.size;rw [pp.w]
 have Hb:Hp (dv B) tg tg B:=Hp.begin aB (hl.apart p2);have hr:=hc.runs tg σ.size (qay mR.symm) Hb;rw [pp.w] at hr;refine hr.mono ?_;rintro e w' ⟨v,iL,L',rfl,rfl,hp,H'⟩;have VM:=hl.dv;have hle:σ.size<=iL.size:=mR▸H'.md.size
 let jh:St:=⟨iL.w,λc=>if dv Ln c then σ.gA c else iL.gA c,λb hb=>by
  have: ¬dv Ln b:=λh=>absurd (qa2 (mf a1 b h) hle) (qcm.2 hb);rw [if_neg this];exact iL.ok b hb,iL.ef⟩
 have Qs: ∀b,dv Ln b->jh.gA b=σ.gA b:=λb h=>if_pos h;have wP: ∀b, ¬dv Ln b->jh.gA b=iL.gA b:=λb h=>if_neg h;have m3:Md (dv A) σ jh:=by
  refine ⟨?_, ?_, ?_, ?_,H'.md.ef.trans pp.ef,⟨hle,λb ho=> ?_,λb=> ?_⟩,λb hb hn=> ?_,λb hb hn=> ?_⟩
  ·exact H'.md.os.trans (by rw [pp.w])
  ·have:=H'.md.tape;rw [pp.w,pp.ef] at this;exact this
  ·exact H'.md.output.trans (by rw [pp.w])
  ·have:=H'.md.dr;rw [pp.w,pp.ef] at this;exact this
  ·have h1:iL.w.heap[b]? =tg.w.heap[b]? :=H'.md.ext.block b (qa2 ho (pp.le b));show iL.w.heap[b]? =_;rw [h1,pp.w]
  ·by_cases h:dv Ln b
   ·exact qay (Qs b h).symm
   ·rw [wP b h];exact qaa (pp.le b) (H'.md.ext.gA b)
  ·have:=H'.md.block b (by rw [mR];exact hb) (λh=>hn ((VM b).1 h));rw [pp.w] at this;exact this
  ·by_cases h:dv Ln b
   ·exact Qs b h
   ·rw [wP b h,H'.md.gA b (by rw [mR];exact hb) (λh=>hn ((VM b).1 h)),pp.gA b h]
 have FT: ∀b,dv L' b->b<σ.size->dv A b:=λb hb bG=>(VM b).1 (H'.DI b hb (by rw [mR];exact bG));have aL':ji jh L':=Cg (σ:=iL) (σ':=jh) rfl (nM _ _ _ hp) (λb hb=>by
  refine wP b λh=> ?_;have bG:=mf a1 b h;rcases hb with hb | hb
  ·omega
  ·exact pA b (FT b hb bG) h) H'.all
 refine ⟨v,jh,L',rfl,rfl,hp,⟨H.md.step m3 (λi hi h=>H.DI i (bM.2 (.inr (bM.2 (.inl h)))) hi),eG.2 ⟨aL',eG.2 ⟨iS a1 m3 (λb hb h=>pA b h hb),iS a3 m3 (λb hb h=>p5 b h hb)⟩⟩,
  fh.2 ⟨H'.ap,fh.2 ⟨p1,p3,λb hb h=>pR b h hb⟩,λb hb fS=> ?_⟩,λb hb bG=> ?_⟩,m3⟩
 ·rcases bM.1 fS with h | h
  ·exact pA b (FT b hb (mf a1 b h)) h
  ·exact p5 b (FT b hb (mf a3 b h)) h
 ·rcases bM.1 hb with hb | hb
  ·exact H.DI b (bM.2 (.inr (bM.2 (.inl (FT b hb (qa2 bG H.md.size)))))) bG
  ·rcases bM.1 hb with hb | hb
   ·exact H.DI b (bM.2 (.inl hb)) bG
   ·exact H.DI b (bM.2 (.inr (bM.2 (.inr hb)))) bG
theorem rh{f:FuncId}{args:List Value}{post:Nat->Value->List Ch->Prop}{o:Oper}(hl:gU Ln A B)(hc:bL P f args B post)(he:Enters P n ρ o f args σ.w)(H:Hp S0 aq σ (Ln++(A++R)))(nM: ∀m v L',post m v L'->ya m L'):
  Cx P σ n ρ o λv σ'=> ∃L',post σ.size v L'/\Hp S0 aq σ' (L'++(Ln++R))/\Md (dv A) σ σ'/\aq.size<=σ.size:=
 ⟨f,args,he,(hc.tu hl H nM).mono (by rintro e w' ⟨v,σ',L',rfl,rfl,hp,H',m⟩;exact ⟨v,σ',rfl,rfl,L',hp,H',m,H.size⟩)⟩
end
end Go.Vs
namespace Go.Vs
structure Lc{α:Type}(cmp:α->α->Int)(xs:List α):Prop where
 irrefl: ∀x∈xs, ¬cmp x x<0
 trans: ∀x∈xs, ∀y∈xs, ∀z∈xs,cmp x y<0->cmp y z<0->cmp x z<0
 RJ: ∀x∈xs, ∀y∈xs, ¬cmp x y<0-> ¬cmp y x<0->x=y
def leC{α:Type}(cmp:α->α->Int)(x y:α):Bool:= !decide (cmp y x<0)
def oE{α:Type}(cmp:α->α->Int)(xs:List α):List α:=xs.mergeSort (leC cmp)
theorem EW{α:Type}{cmp:α->α->Int}{xs:List α}:(oE cmp xs).length=xs.length:=List.length_mergeSort _
theorem Lc.asymm{α:Type}{cmp:α->α->Int}{xs:List α}(h:Lc cmp xs){x y:α}(hx:x∈xs)(hy:y∈xs)(h1:cmp x y<0): ¬cmp y x<0:=
 λh2=>h.irrefl x hx (h.trans x hx y hy x hx h1 h2)
theorem Lc.MV{α:Type}{cmp:α->α->Int}{xs:List α}(h:Lc cmp xs){x y z:α}(hx:x∈xs)(hy:y∈xs)(hz:z∈xs)(h1: ¬cmp y x<0)(h2: ¬cmp z y<0): ¬cmp z x<0:=by
 intro h3;by_cases a:cmp x y<0
 ·by_cases b:cmp y z<0
  ·exact h.asymm hx hz (h.trans x hx y hy z hz a b) h3
  ·have:=h.RJ y hy z hz b h2;subst this;exact h1 h3
 ·have:=h.RJ x hx y hy a h1;subst this;exact h2 h3
theorem MW{α:Type}{cmp:α->α->Int}: ∀{l r:List α},Lc cmp l->r.Perm l->r.Pairwise (λx y=> ¬cmp y x<0)->l.Pairwise (λx y=> ¬cmp y x<0)->r=l
 | [],r,_,hp,_,_=>List.Perm.eq_nil hp
 | x::l,r,h,hp,hr,hl=>by
  cases r with
  | nil=>exact absurd hp.length_eq (by simp)
  | cons y r=>
   obtain ⟨hr1,hr2⟩:=qbf.1 hr;obtain ⟨wQ,dB⟩:=qbf.1 hl;have hy:y∈x::l:=hp.mem_iff.1 (by simp);have hx:x∈y::r:=hp.mem_iff.2 (by simp);have e:y=x:=by
    rcases qa7.1 hx with e | xY
    ·exact e.symm
    rcases qa7.1 hy with e | ZU
    ·exact e
    exact h.RJ y hy x (by simp) (wQ y ZU) (hr1 x xY)
   subst e;have Rx:=(List.perm_cons y).1 hp;rw [MW (l:=l) (r:=r) ⟨λa ha=>h.irrefl a (by simp [ha]),λa ha b hb c hc=>h.trans a (by simp [ha]) b (by simp [hb]) c (by simp [hc]),λa ha b hb=>h.RJ a (by simp [ha]) b (by simp [hb])⟩ Rx hr2 dB]
theorem EX{α:Type}{cmp:α->α->Int}{xs:List α}(h:Lc cmp xs):(oE cmp xs).Pairwise (λx y=> ¬cmp y x<0):=by
 let e:{x // x∈xs}->{x // x∈xs}->Bool:=λa b=>leC cmp a.1 b.1
 have hs:=List.pairwise_mergeSort (le:=e) (λa b c h1 h2=>by
  simp only [e,leC,qbh,decide_eq_false_iff_not] at h1 h2 ⊢;exact h.MV a.2 b.2 c.2 h1 h2) (λa b=>by
  simp only [e,leC,qc3,qbh,decide_eq_false_iff_not];by_cases hb:cmp b.1 a.1<0
  ·exact .inr (h.asymm b.2 a.2 hb)
  ·exact .inl hb) xs.attach
 have hm:oE cmp xs=(xs.attach.mergeSort e).map (·.1):=by
  unfold oE;have:=List.map_mergeSort (f:=λa:{x // x∈xs}=>a.1) (r:=e) (s:=leC cmp) (l:=xs.attach) (λa _ b _=>rfl);rw [this,List.attach_map_subtype_val]
 rw [hm,List.pairwise_map];refine hs.imp fun {a b} nM=> ?_;simpa [e,leC] using nM
theorem K2{α:Type}{cmp:α->α->Int}{xs r:List α}(h:Lc cmp xs)(hp:r.Perm xs)(hr:r.Pairwise (λx y=> ¬cmp y x<0)):r=oE cmp xs:=by
 have hps:(oE cmp xs).Perm xs:=List.mergeSort_perm _ _;have hm: ∀x,x∈oE cmp xs->x∈xs:=λx hx=>hps.mem_iff.1 hx;exact MW ⟨λa ha=>h.irrefl a (hm a ha),λa ha b hb c hc=>h.trans a (hm a ha) b (hm b hb) c (hm c hc),λa ha b hb=>h.RJ a (hm a ha) b (hm b hb)⟩ (hp.trans hps.symm) hr (EX h)
open Classical in
noncomputable def M.Iz{α:Type}(cmp:α->α->Option Int)(xs:List α):Option (List α):=
 if xs.length<=1000000/\(∀x∈xs, ∀y∈xs, ∃r,cmp x y=some r)/\Lc (λx y=>(cmp x y).getD 0) xs then some (oE (λx y=>(cmp x y).getD 0) xs) else none
theorem K3{α:Type}{cmp:α->α->Option Int}{xs r:List α}(h:M.Iz cmp xs=some r):xs.length<=1000000/\(∀x∈xs, ∀y∈xs, ∃r,cmp x y=some r)/\Lc (λx y=>(cmp x y).getD 0) xs/\r=oE (λx y=>(cmp x y).getD 0) xs:=by
 unfold M.Iz at h;split at h
 ·rename_i hc;exact ⟨hc.1,hc.2.1,hc.2.2,(qai h).symm⟩
 ·cases h
theorem IA{α:Type}{cmp:α->α->Option Int}{lt:α->α->Bool}{xs:List α}(hn:xs.length<=1000000)(hc: ∀x∈xs, ∀y∈xs, ∃r,cmp x y=some r/\decide (r<0)=lt x y)
  (hi: ∀x∈xs,lt x x=false) (ht: ∀x∈xs, ∀y∈xs, ∀z∈xs,lt x y=true->lt y z=true->lt x z=true) (ha: ∀x∈xs, ∀y∈xs,x≠y->lt x y=true\/lt y x=true):
  ∃r,M.Iz cmp xs=some r/\r.Perm xs/\r.Pairwise (λx y=>lt y x=false):=by
 have hv: ∀x∈xs, ∀y∈xs,(cmp x y).getD 0<0↔lt x y=true:=by
  intro x hx y hy;obtain ⟨r,h1,h2⟩:=hc x hx y hy;rw [h1, ←h2];simp
 have hL:Lc (λx y=>(cmp x y).getD 0) xs:=by
  refine ⟨λx hx h=> ?_,λx hx y hy z hz h1 h2=> ?_,λx hx y hy h1 h2=> ?_⟩
  ·rw [hv x hx x hx,hi x hx] at h;cases h
  ·exact (hv x hx z hz).2 (ht x hx y hy z hz ((hv x hx y hy).1 h1) ((hv y hy z hz).1 h2))
  ·refine qa9 λjE=> ?_;rcases ha x hx y hy jE with h | h
   ·exact h1 ((hv x hx y hy).2 h)
   ·exact h2 ((hv y hy x hx).2 h)
 have hp:(oE (λx y=>(cmp x y).getD 0) xs).Perm xs:=List.mergeSort_perm _ _;have MX: ∀x∈xs, ∀y∈xs, ∃r,cmp x y=some r:=λx hx y hy=>by
  obtain ⟨r,h1,_⟩:=hc x hx y hy;exact ⟨r,h1⟩
 refine ⟨_,by unfold M.Iz;rw [if_pos ⟨hn,MX,hL⟩],hp, ?_⟩
 ·have hs:=EX hL;rw [qas] at hs ⊢;intro i j h1 h2 qh;have hx:=hp.mem_iff.1 (qad h1);have hy:=hp.mem_iff.1 (qad h2);have:=hs i j h1 h2 qh;rw [hv _ hy _ hx] at this;simpa using this
end Go.Vs
namespace Go.Vs
open Go
section
variable{P:Program}{H:Array Obj}{n:Nat}{ρ:Nat->Value}{dst:Option Nat}{ty T T' E:TypeId}{pos:String}{af:Array Edge}{gd:Option (Nat×Bool)}{x c:Operand}{v u:Value}{D:TypeDesc}{f:FuncId}{w:World}{xs:Array Operand}{Ts:Array TypeId}{args:List Value}{name:String}{b o:Nat}
theorem iw(hT:P.underlying T=some D)(hD:(match D with | .interface _=>false | _=>true)=true)(hx:ev n ρ x=v):dX P H n ρ ⟨dst, .makeInterface T x,ty,pos,af,gd⟩ (.iface T v):=λw _=>by
 cases D <;> simp_all [execOp,Instr.makeInterface,underlying]
theorem DY(hT:P.underlying T'=some D)(hD:(match D with | .interface _=>false | _=>true)=true)(hx:ev n ρ x= .iface T' v):dX P H n ρ ⟨dst, .typeAssert x T T' false,ty,pos,af,gd⟩ v:=λw _=>by
 cases D <;> simp_all [execOp,Instr.typeAssert,underlying]
theorem rj{cs:Array Operand}{vs:List Value}(hx:cs.toList.map (ev n ρ)=vs):dX P H n ρ ⟨dst, .makeFunc (.func f) #[] cs,ty,pos,af,gd⟩ (.func (.func f) #[] vs.toArray):=λw _=>by
 have:cs.map (ev n ρ)=vs.toArray:=by rw [←hx, ←Array.toList_map]
 simp [execOp,Instr.makeFunc,this]
def RL(P:Program)(T:TypeId)(name:String):Option (Array FieldStep×Option (FuncId×Bool)):=(P.info? T).bind λi=>(i.methods.find? (·.name==name)).map λm=>(m.path,m.func)
theorem K4{fuel:Nat}{pr:Bool}{r:Value}(hm:RL P T name=some (#[],some (f,pr)))(hr:(receiverAt T (.val v) pr (some ((name.splitOn ".").getLastD name))).run P w= .ok r w):(method (fuel+1) T v name).run P w= .ok (f,r) w:=by
 unfold RL at hm;cases hi:P.info? T with
 | none=>rw [hi] at hm;cases hm
 | some i=>
  rw [hi] at hm;simp only [qa0] at hm;cases hf:i.methods.find? (·.name==name) with
  | none=>rw [hf] at hm;cases hm
  | some m=>
   rw [hf] at hm;simp only [qac,qah,Prod.mk.injEq] at hm;obtain ⟨h1,h2⟩:=hm;have e1:(typeInfo T).run P w= .ok i w:=by simp [typeInfo,hi]
   have e2:m.path.toList=[]:=by rw [h1]
   have e3:m.path.isEmpty=true:=by rw [h1];rfl
   simp only [method,Sem.run_bind,e1,Result.andThen_ok,hf,e2,follow,Sem.run_pure,h2,e3,if_true,hr]
theorem IB{r:Value}{pr:Bool}(hf: ∃fn c,P.funcs[f]? =some fn/\(fn.name== "runtime.NumGoroutine")=false/\fn.body=some c)(hm:RL P T name=some (#[],some (f,pr)))(hc:ev n ρ c= .iface T v)(hr:(receiverAt T (.val v) pr (some ((name.splitOn ".").getLastD name))).run P w= .ok r w)
  (hx:r::xs.toList.map (ev n ρ)=args):Enters P n ρ ⟨dst, .call ⟨.invoke c name,xs,Ts⟩,ty,pos,af,gd⟩ f args w:=by
 obtain ⟨fn,cd,h1,h2,h3⟩:=hf;have xY: #[r]++xs.map (ev n ρ)=args.toArray:=by
  rw [←hx];apply qcn;simp
 have hdp:Made.depth=100:=rfl;have hd: ∃k,P.types.size+Made.depth=k+1:=⟨P.types.size+99,by omega⟩;obtain ⟨k,hk⟩:=hd;have hmm:=K4 (P:=P) (w:=w) (fuel:=k) hm hr;have e0:(#[Value.iface T v]++xs.map (ev n ρ))[0]? =some (.iface T v):=by
  rw [qbx (by simp)];rfl
 have e1:(#[Value.iface T v]++xs.map (ev n ρ)).extract 1 (#[Value.iface T v]++xs.map (ev n ρ)).size=xs.map (ev n ρ):=by
  apply qcn;rw [Array.toList_extract,List.extract_eq_drop_take'];simp only [Array.size_append,Array.size_map,Array.toList_append,Array.toList_map,qbn,qb2,List.length_nil,qbr,qba,List.drop_one];rw [qby (by simp;omega)];rfl
 simp only [Enters,execOp,resolve,hc,Sem.run_bind,Sem.run_pure,Result.andThen_ok,invoke,e0,e1,callMethod,run_program,hk,hmm,callFunc,xY,h1,h2,h3];simp
theorem RM(hf: ∃fn c,P.funcs[f]? =some fn/\(fn.name== "runtime.NumGoroutine")=false/\fn.body=some c)(hm:RL P T name=some (#[],some (f,true)))(hT:P.underlying T=some (.pointer E))(hc:ev n ρ c= .iface T v)
  (hx:v::xs.toList.map (ev n ρ)=args):Enters P n ρ ⟨dst, .call ⟨.invoke c name,xs,Ts⟩,ty,pos,af,gd⟩ f args w:=
 IB hf hm hc (by simp only [receiverAt,underlying,Sem.run_bind,run_program,Result.andThen_ok,hT,Sem.run_pure,Place.get]) hx
theorem u5(hf: ∃fn c,P.funcs[f]? =some fn/\(fn.name== "runtime.NumGoroutine")=false/\fn.body=some c)(hm:RL P T name=some (#[],some (f,false)))(hT:P.underlying T=some (.pointer E))(hE:P.underlying E=some D)(hD:(match D with | .struct _=>false | .array _ _=>false | _=>true)=true)
  (hc:ev n ρ c= .iface T (pt b o)) (hl:jH w.heap b o=some u) (hx:u::xs.toList.map (ev n ρ)=args):Enters P n ρ ⟨dst, .call ⟨.invoke c name,xs,Ts⟩,ty,pos,af,gd⟩ f args w:=by
 have xF:(isAgg E).run P w= .ok false w:=by
  simp only [isAgg,underlying,Sem.run_bind,run_program,Result.andThen_ok,hE,Sem.run_pure];cases D <;> simp_all
 rw [iT] at hl;have agj: ∀s,(Builtin.ssaWrapNilChk_ #[T] T #[pt b o,strVal "",strVal s]).run P w= .ok (pt b o) w:=λ_=>rfl;refine IB hf hm hc ?_ hx;simp [receiverAt,underlying,hT,Place.get,agj,asAddr,loadVar,xF,load,Sem.run,hl]
end
end Go.Vs
namespace Go.Vs
open Go
def wk(k:IntKind)(n:Int):Int:=k.wrap n
def rH(k:IntKind)(x n:Int):Int:=x.fdiv (2^(min n.toNat k.bits))
section
variable{P:Program}{H:Array Obj}{n:Nat}{ρ:Nat->Value}{dst:Option Nat}{ty T T':TypeId}{pos:String}{af:Array Edge}{gd:Option (Nat×Bool)}{x y:Operand}{a b q:Int}{k k':IntKind}
theorem V7(hx:ev n ρ x= .int k a)(hy:ev n ρ y= .int k' b)(hb: ¬b<0):dX P H n ρ ⟨dst, .binOp .shr T x y T',ty,pos,af,gd⟩ (.int k (rH k a b)):=λw _=>by
 simp [execOp,hx,hy,eqGuard,binOp,Op.shift,rH,hb]
theorem IC(hT:P.underlying T=some (.int k))(pT:P.underlying T'=some (.int k'))(hx:ev n ρ x= .int k a):dX P H n ρ ⟨dst, .convert T T' x,ty,pos,af,gd⟩ (.int k' (wk k' a)):=λw _=>by
 simp [execOp,hx,convert,underlying,hT,pT,Conv.intToInt,wk]
theorem OD{α:Type}{k:Int}{z0:α}{xs:List α}(h:Az k z0=some xs):xs.length=k.toNat:=by
 unfold Az at h;split at h
 ·cases h;exact List.length_replicate
 ·cases h
theorem RN{E:TypeId}{m c c':Nat}{ad:Option Addr}(hT:P.underlying T=some (.slice E))(hx:ev n ρ x= .slice ad m c)(hc:c=c'):dX P H n ρ ⟨dst, .call ⟨.builtin .cap, #[x], #[T]⟩,ty,pos,af,gd⟩ (I c'):=λw _=>by
 subst hc;simp [execOp,resolve,invoke,builtin,Builtin.cap_,hx,underlying,hT,goInt]
theorem V8{E:TypeId}{m:Nat}{ad:Option Addr}{c:Nat}(hT:P.underlying T=some (.slice E))(hx:ev n ρ x= .slice ad m c)(hy:ev n ρ y= .slice none 0 0):dX P H n ρ ⟨dst, .binOp .eql T x y T',ty,pos,af,gd⟩ (B ad.isNone):=λw _=>by
 have h: ∀a:Option Addr,(Op.equal T (.slice a m c) (.slice none 0 0)).run P w= .ok a.isNone w:=by
  intro a;show (Op.equalIn (9999+1) T _ _).run P w=_;rw [Op.equalIn];cases a <;> simp only [underlying,Sem.run_bind,run_program,Result.andThen_ok,hT,Sem.run_pure,Option.isNone]
 simp [execOp,hx,hy,eqGuard,binOp,h]
theorem ID{t j:Nat}{xs:Array Value}{u:Value}(ht:P.underlying t=some (.int .i64))(w:World)(h:xs[j]? =some u):(part t xs j).run P w= .ok u w:=by
 have xF:(isAgg t).run P w= .ok false w:=by
  simp only [isAgg,underlying,Sem.run_bind,run_program,Result.andThen_ok,ht,Sem.run_pure]
 simp [part,xF,h]
def IE(P:Program):Nat->List Field->Prop
 | _,[]=>True
 | j,f::fs=>f.offset=j/\(f.name≠ "_")/\P.underlying f.type=some (.int .i64)/\IE P (j+1) fs
theorem xd{d:Nat}(w:World): ∀(fs:List Field) (j:Nat) (xs ys:List Int),xs.length=ys.length->j+fs.length=xs.length->IE P j fs->
  (Op.eqFields (d+1) (xs.map I).toArray (ys.map I).toArray fs).run P w= .ok (xs.drop j==ys.drop j) w
 | [],j,xs,ys,hl,hj,_=>by
  have e1:xs.drop j=[]:=List.drop_eq_nil_of_le (by simp at hj;omega);have e2:ys.drop j=[]:=List.drop_eq_nil_of_le (by simp at hj;omega);rw [e1,e2];rfl
 | f::fs,j,xs,ys,hl,hj,⟨h1,h2,h3,h5⟩=>by
  simp only [qb2] at hj;have ih:=xd (d:=d) w fs (j+1) xs ys hl (by omega) h5;have hjx:j<xs.length:=by omega
  have hjy:j<ys.length:=by omega
  have p1:=ID (P:=P) h3 (xs:=(xs.map I).toArray) (u:=I xs[j]) (j:=f.offset) w (by simp [h1,hjx]);have p2:=ID (P:=P) h3 (xs:=(ys.map I).toArray) (u:=I ys[j]) (j:=f.offset) w (by simp [h1,hjy]);have p3:(Op.equalIn (d+1) f.type (I xs[j]) (I ys[j])).run P w= .ok (xs[j]==ys[j]) w:=by
   rw [Op.equalIn];simp only [underlying,Sem.run_bind,run_program,Result.andThen_ok,h3,Sem.run_pure,if_true]
  rw [qbc hjx,qbc hjy,List.cons_beq_cons];simp only [Op.eqFields,ne_eq,h2,not_false_eq_true,if_true,Sem.run_bind,p1,p2,p3,Result.andThen_ok];cases hb:xs[j]==ys[j] with
  | true=>simp only [qae,qa6,if_false,ih,qbo]
  | false=>simp only [qcl,if_true,Bool.false_and];rfl
theorem afX{xs ys:List Int}(hT:P.underlying T=some (.struct (P.fieldsOf T)))(hg:P.eqGuardType P.depth T=false)(hp:P.stoodInHeld T=false)(hl:xs.length=ys.length)(hj:(P.fieldsOf T).toList.length=xs.length)(hf:IE P 0 (P.fieldsOf T).toList)
  (hx:ev n ρ x= .agg (xs.map I).toArray) (hy:ev n ρ y= .agg (ys.map I).toArray):dX P H n ρ ⟨dst, .binOp .eql T x y T',ty,pos,af,gd⟩ (B (xs==ys)):=λw _=>by
 have e:=xd (P:=P) (d:=9998) w (P.fieldsOf T).toList 0 xs ys hl (by omega) hf;simp only [execOp,hx,hy,Sem.run_bind,run_eqGuard_agg w _ _ _ _ _ _ hg,Result.andThen_ok,run_eql_struct,show (10000:Nat)=9999+1 from rfl,run_equalIn_agg w 9999 T _ _ hT hp,show (9999:Nat)=9998+1 from rfl,e,qcc,Sem.run_pure]
theorem V9{xs ys:List Int}(hT:P.underlying T=some (.struct (P.fieldsOf T)))(hg:P.eqGuardType P.depth T=false)(hp:P.stoodInHeld T=false)(hl:xs.length=ys.length)(hj:(P.fieldsOf T).toList.length=xs.length)(hf:IE P 0 (P.fieldsOf T).toList)
  (hx:ev n ρ x= .agg (xs.map I).toArray) (hy:ev n ρ y= .agg (ys.map I).toArray):dX P H n ρ ⟨dst, .binOp .neq T x y T',ty,pos,af,gd⟩ (B (!(xs==ys))):=λw _=>by
 have e:=xd (P:=P) (d:=9998) w (P.fieldsOf T).toList 0 xs ys hl (by omega) hf;simp only [execOp,hx,hy,Sem.run_bind,run_eqGuard_agg w _ _ _ _ _ _ hg,Result.andThen_ok,run_neq_struct,show (10000:Nat)=9999+1 from rfl,run_equalIn_agg w 9999 T _ _ hT hp,show (9999:Nat)=9998+1 from rfl,e,qcc,Sem.run_pure]
end
section
variable{S0:BS}{aq σ:St}{L:List Ch}{lo b o i:Nat}{pre uZ:List Value}
theorem RS.acV{α:Type}[Rp α]{el:Nat}{ad:Option Addr}{c:Nat}{xs:List α}(hn:ad.isNone=true)(h:RS el σ (Sl ad xs c) xs):xs=[]:=by
 rcases h with ⟨_,h⟩ | ⟨b,o,c,hv,_⟩
 ·exact h
 ·cases hv;cases hn
theorem K5(xs:List Int): ∀u∈List.map I xs,plain u=true:=by
 intro u hu;obtain ⟨x,_,rfl⟩:=qc5.1 hu
 rfl
theorem RO(xs:List Int)(k:Nat)(v:Int):F6 (xs.map I) (k*1) [I v]=(xs.set k v).map I:=by
 have:=VW xs k v;rw [qc4] at this;exact this
theorem Hp.BE{xs:List Int}{a x:Int}(H:Hp S0 aq σ L)(i:Nat)(h:nth L i=some (Ch.bx lo b o (xs.map I) pre uZ))(hx:bs xs a=some x):jH σ.w.heap b (o+a.toNat*1)=some (I x):=by
 obtain ⟨h0,h1,h2⟩:=lD hx;rw [Nat.mul_one];exact Rr (H.bx i h) (by simp [h1,h2])
end
end Go.Vs
namespace Go.Vs
open Go
def EY{α:Type}(xs:List α)(k:Int)(z:α):Option (List α):=if 0<=k/\xs.length+k.toNat<=2147483648 then some (xs++List.replicate k.toNat z) else none
theorem K6{α:Type}{xs r:List α}{k:Int}{z:α}(h:EY xs k z=some r):0<=k/\xs.length+k.toNat<=2147483648/\r=xs++List.replicate k.toNat z:=by
 unfold EY at h;split at h
 ·rename_i hc;exact ⟨hc.1,hc.2,(qai h).symm⟩
 ·cases h
def zA(l h m:Int)(n:Nat):Option Unit:=if 0<=l/\l<=h/\h<=m/\m<=(n:Int) then some () else none
theorem AA{l h m:Int}{n:Nat}{u:Unit}(hg:zA l h m n=some u):0<=l/\l<=h/\h<=m/\m<=(n:Int):=by
 unfold zA at hg;split at hg
 ·assumption
 ·cases hg
section
variable{P:Program}{n:Nat}{ρ:Nat->Value}{aq σ:St}{S0:BS}{L R:List Ch}{u v:Value}{T T' E E' ty:TypeId}{pos:String}{af:Array Edge}{gd:Option (Nat×Bool)}{dst:Option Nat}{x y q:Operand}{a l h k m:Int}{lo el bt s c c':Nat}{z:Value}
variable{α:Type}[Rp α]{xs ys p r:List α}{ad ov:Option Addr}{H:Array Obj}
theorem Ow.view(hO:Ow σ lo el (Sl ad xs c) xs)(hg:eI xs l h=some p)(hs:UN ad xs.length c (Rp.sz α) l h ov p.length c'):Ow σ lo el (Sl ov p c') p/\ ∀b,blk (Sl ov p c')=some b->blk (Sl ad xs c)=some b:=by
 obtain ⟨ad2,c2,hs2,h1,h2⟩:=hO.slice hg;have e1:ov=ad2:=hs.ea.trans hs2.ea.symm;have e2:c'=c2:=hs.ec.trans hs2.ec.symm;subst e1 e2;exact ⟨h1,h2⟩
theorem Wa{i:Nat}(H:Hp S0 aq σ L)(MR:pick L i=some (Ch.own lo el (Sl ad xs c) xs,R))(hT:P.underlying T=some (.slice E))(pT:P.underlying T'=some (.slice E'))(hi:TI P E z s bt)(hs:s=Rp.sz α)(AP:z.cells.size=s)(Rh:bt<=1024)
  (hg:eI xs l h=some p) (hv:UN ad xs.length c (Rp.sz α) l h ov p.length c') (hS:Rd el σ u ys) (hr:nP p ys=some r) (qX:lo<=aq.size) (hx:ev n ρ x=Sl ov p c') (hy:ev n ρ y=u):
  Ex P σ n ρ ⟨dst, .call ⟨.builtin .append, #[x,y], #[T,T']⟩,ty,pos,af,gd⟩ λv' σ'=> ∃a2 c2,v'=Sl a2 r c2/\Hp S0 aq σ' (Ch.own lo el (Sl a2 r c2) r::R)/\Md (λb=>blk (Sl ad xs c)=some b) σ σ'/\(p.length+ys.length<=c'->c2=c'):=by
 obtain ⟨hlen,rfl⟩:=zu hr;obtain ⟨hO,hb⟩:=((H.front MR).head:Ow σ lo el (Sl ad xs c) xs).view hg hv;obtain ⟨a2,c2,σ',h1,h2,h3,h4,h5⟩:=Ck (ty:=ty) hT pT hi hs AP Rh hO hS hlen (qaa qX H.size);have hm:Md (λb=>blk (Sl ad xs c)=some b) σ σ':=h2.md.mono (λb fS=>hb b fS);refine ⟨_,σ', ?_,a2,c2,rfl,Hp.zv (A':=[Ch.own lo el (Sl a2 (p++ys) c2) (p++ys)]) (H.front MR) (Hp.one (hm.mono λb hb=> .inl hb) h3 (λb fS bG=> ?_)),hm,λhf=>h5 _ _ _ rfl hf⟩
 ·simp only [zt,execOp,resolve,qb8,qaz,qbm,hx,hy,Sem.run_bind,Sem.run_pure,Result.andThen_ok,invoke,builtin,h1]
 ·rcases h4 with h4 | h4
  ·exact .inl (hb b (h4▸fS))
  ·exact absurd bG (qcm.2 (h4 b fS))
theorem Wb{i:Nat}{z0:α}{zs:List Value}(H:Hp S0 aq σ L)(MR:nth L i=some (Ch.own lo el (Sl ad xs c) xs))(hT:P.underlying T=some (.slice E))(pT:P.underlying T'=some (.int .i64))(hi:TI P E z s bt)(hs:s=Rp.sz α)(hzc:z.cells=zs.toArray)(hz:Rp.rp el σ zs z0)(Rh:bt<=1024)
  (ht:c=xs.length) (hg:eI xs 0 h=some p) (hv:UN ad xs.length c (Rp.sz α) 0 h ov p.length c') (hr:EY p k z0=some r) (AQ:(xs.length:Int)<p.length+k) {pZ:Nat} (qX:pZ<=aq.size) (hx:ev n ρ x=Sl ov p c') (hy:ev n ρ y=I k):
  Ex P σ n ρ ⟨dst, .call ⟨.builtin .append, #[x,y], #[T,T']⟩,ty,pos,af,gd⟩ λv' σ'=> ∃b c2,v'=Sl (some ⟨b,0,none⟩) r c2/\Hp S0 aq σ' (Ch.own pZ el (Sl (some ⟨b,0,none⟩) r c2) r::L)/\Md (dv []) σ σ':=by
 obtain ⟨K7,hlen,rfl⟩:=K6 hr;obtain ⟨kn,rfl⟩:=qb0 K7;simp only [qb1] at hlen ⊢;obtain ⟨hO,_⟩:=(H.get MR:Ow σ lo el (Sl ad xs c) xs).view hg hv;obtain ⟨i0,vM,Bz,P0,hi4⟩:=hi.it;have hTI:=hi;subst hs;obtain ⟨K,uY,Ri,hK3⟩:=hO.rd.row;have hcp:c'=xs.length:=by rw [hv.ec,ht];simp
 have wi: ¬p.length+kn<=c':=by omega
 have hzl:zs.length=Rp.sz α:=Rp.len hz;have hn:=nextslicecap_le (need:=p.length+kn) (c:=c') (by omega);have KX: ¬Builtin.nextslicecap (p.length+kn) c'*bt>2^48:=by
  have h1:Builtin.nextslicecap (p.length+kn) c'*bt<=(2*(p.length+kn)+300)*1024:=Nat.mul_le_mul hn Rh;have h2:(2:Nat)^48=281474976710656:=by decide
  omega
 have RP: ¬(kn:Int)*(bt:Int)>2^48:=by
  have h1:kn*bt<=2147483648*1024:=Nat.mul_le_mul (by omega) Rh;have h2:(2:Int)^48=281474976710656:=by decide
  rw [h2, ←Int.natCast_mul];omega
 have acH: ¬(((p.length+kn:Nat):Int)>IntKind.i64.max):=by
  have:IntKind.i64.max=9223372036854775807:=by decide
  omega
 have Yq:IntKind.i64.wrap (kn:Int)=kn:=aU (by omega) (by omega)
 let q:Question:= .appendCap (p.length+kn) c' E
 let qg:=q.cut (σ.w.tape σ.w.drawn q)
 have YE:p.length+kn<=qg:=by
  show _<=Question.cut (.appendCap (p.length+kn) c' E) _;simp only [Question.cut];omega
 let Z:=Builtin.zeroCells z.cells (qg - (p.length+kn))
 let W:=Builtin.zeroCells z.cells kn
 have hZ:Z.size=(qg - (p.length+kn))*z.cells.size:=by show (Builtin.zeroCells _ _).size=_;simp [Builtin.zeroCells]
 have hW:W.size=kn*z.cells.size:=by show (Builtin.zeroCells _ _).size=_;simp [Builtin.zeroCells]
 have AP:z.cells.size=Rp.sz α:=by rw [hzc];simpa using hzl
 let Rl:List Value:=K++W.toList++Z.toList
 let w1:World:={ σ.w with drawn:=σ.w.drawn+1 }
 have hR:(K.toArray++W++Z)=Rl.toArray:=by
  apply qcn;simp [Rl]
 have hf1:=kX (P:=P) (σ:=σ) (v:=Sl ov p c') uY hK3 w1 rfl;have Ax:(askRoom (qg*bt)).run P w1= .ok () w1:=by
  unfold askRoom;split <;> rfl
 have FJ:(choose (.appendCap (p.length+kn) c' E)).run P σ.w= .ok qg w1:=by
  simp [choose,Sem.run,Question.forced,qg,q,w1]
 have P1:(typeInfo E).run P=λw=> .ok i0 w:=by
  funext w;simp [typeInfo,vM]
 obtain ⟨_,g1,g2,_,g3⟩:=jI hg;have uW:0<kn:=by omega
 have hnz: ¬kn*Rp.sz α=0:=by
  have:=Rp.pos (α:=α);have:0<kn*Rp.sz α:=Nat.mul_pos uW this;omega
 have bU:(Builtin.append_ #[T,T'] ty #[Sl ov p c',I (kn:Int)]).run P σ.w= .ok (Sl (some ⟨σ.size,0,none⟩) (p++List.replicate kn z0) qg) (σ.new (.cells Rl.toArray E (0,0)) 1).w:=by
  simp only [Builtin.append_,qaq,qbb,List.getElem?_cons_succ,underlying,hT,pT,Sem.run_bind,run_program,Result.andThen_ok,Sem.run_pure,run_typeInfo hTI,asInt,asIntOf,Yq,P1,hi4,
   wi,if_true,qae,qa6,if_false,show¬((kn:Int)<0) by omega,RP,qb1,acH,false_and,KX,FJ,Ax,hf1,hnz,oz hTI,Sl,qat,List.length_replicate]
  rw [show (K.toArray++Builtin.zeroCells z.cells kn++Builtin.zeroCells z.cells (qg - (p.length+kn)))=Rl.toArray from hR]
  rfl
 have YG:=σ.tx (.cells Rl.toArray E (0,0)) 1;have hE:=(σ.mA (.cells Rl.toArray E (0,0)) 1).ext;have hOw:Ow (σ.new (.cells Rl.toArray E (0,0)) 1) σ.size el (Sl (some ⟨σ.size,0,none⟩) (p++List.replicate kn z0) qg) (p++List.replicate kn z0):=by
  refine .inr ⟨σ.size,0,qg,Rl.toArray,E,rfl,qa3 _,YG,by simp;omega, ?_,σ.tz _ 1,λi hi=> ?_⟩
  ·simp only [Rl,qbn,qat,uY,qce,hZ,hW,AP,qc4];rw [←Nat.add_mul, ←Nat.add_mul];exact qaj _ (by omega)
  ·by_cases Ou:i<p.length
   ·rw [qb7 Ou];obtain ⟨cs,F7,UK⟩:=Ri i Ou;refine At.tE YG (Rp.ext hE F7) (λj hj=> ?_);have e2:=UK j hj;have bG:=List.F2 e2;simp only [Rl,qc4,qaq,List.append_assoc];rw [qbj bG,e2]
   ·rw [qbk (by omega),List.getElem_replicate];simp only [qat,List.length_replicate] at hi;refine At.tE YG (Rp.ext hE hz) (λj hj=> ?_);have e3:i*Rp.sz α+j=K.length+((i - p.length)*Rp.sz α+j):=by
     have:i*Rp.sz α=p.length*Rp.sz α+(i - p.length)*Rp.sz α:=by rw [←Nat.add_mul];congr 1;omega
     omega
    have bG:(i - p.length)*Rp.sz α+j<W.toList.length:=by
     have hWl:W.toList.length=kn*Rp.sz α:=by rw [qce,hW,AP]
     rw [hWl];have:(i - p.length+1)*Rp.sz α<=kn*Rp.sz α:=qaj _ (by omega);rw [Nat.add_mul] at this;omega
    simp only [Rl,qc4,qaq,List.append_assoc];rw [e3,qbw (by omega),Nat.add_sub_cancel_left,qbj bG,Array.getElem?_toList];have:=EL (zc:=z.cells) (m:=kn) (i:=i - p.length) (j:=j) (by omega) (by rw [AP];omega);rw [AP] at this;show (Builtin.zeroCells z.cells kn)[_]? =_;rw [Builtin.zeroCells,AP,this,hzc];simp
 refine ⟨_,σ.new (.cells Rl.toArray E (0,0)) 1, ?_,σ.size,qg,rfl,Gf H qX (σ.mA _ 1) hOw,(σ.mA _ 1).md0⟩;simp only [zt,execOp,resolve,qb8,qaz,qbm,hx,hy,Sem.run_bind,Sem.run_pure,Result.andThen_ok,invoke,builtin,bU]
theorem RQ{n pl:Nat}{k:Int}(hp:(pl:Int)=n)(hb:decide (0<k)=true):(n:Int)<pl+k:=by
 have h2:0<k:=of_decide_eq_true hb;omega
theorem OE(hT:P.underlying T=some (.slice E))(hi:TI P E z s bt){n3:Nat}{o3:Unit}(hg:zA l h m n3=some o3)(hc:n3<=c){q1 q2 q3:Operand}(hx:ev n ρ x= .slice ad n3 c)(h1:ev n ρ q1=I l)(h2:ev n ρ q2=I h)(h3:ev n ρ q3=I m):
  dX P H n ρ ⟨dst, .slice T x (some q1) (some q2) (some q3),ty,pos,af,gd⟩ (.slice (if m.toNat=l.toNat then ad else ad.map (·.add (l.toNat*s))) (h.toNat - l.toNat) (m.toNat - l.toNat)):=λw _=>by
 obtain ⟨g0,g1,g2,g3⟩:=AA hg;have g4:m<=(c:Int):=by omega
 have e1:(h.toNat:Int)=h:=Int.toNat_of_nonneg (by omega);have e2:(m.toNat:Int)=m:=Int.toNat_of_nonneg (by omega);simp [execOp,hx,h1,h2,h3,Instr.sliceAt,Instr.slice,underlying,hT,Instr.sliceBounds,Instr.sliceBound,asIntOf,g0,g1,g2,g4,show 0<=h by omega,show 0<=m by omega,e1,e2,run_typeInfo hi]
theorem OF(hT:P.underlying T=some (.slice E))(hi:TI P E z s bt){m0 k0:Nat}(h1:m0<=k0)(h2:k0<=c){q1 q2:Operand}(hx:ev n ρ x= .slice ad m0 c)(hp:ev n ρ q1=I m0)(hq:ev n ρ q2=I k0):
  dX P H n ρ ⟨dst, .slice T x (some q1) (some q2) none,ty,pos,af,gd⟩ (.slice (if c=m0 then ad else ad.map (·.add (m0*s))) (k0 - m0) (c - m0)):=λw _=>by
 simp [execOp,hx,hp,hq,Instr.sliceAt,Instr.slice,underlying,hT,Instr.sliceBounds,Instr.sliceBound,asIntOf,h1,h2,run_typeInfo hi]
theorem OG{i k0:Nat}(H:Hp S0 aq σ L)(MR:pick L i=some (Ch.own lo el (Sl ad xs c) xs,R))(hT:P.underlying T=some (.slice E))(hi:TI P E z s bt)(hs:s=Rp.sz α)(AP:z.cells.size=s)(hzp: ∀t∈z.cells.toList,plain t=true)(h1:xs.length<=k0)(h2:k0<=c)
  (hx:ev n ρ x= .slice (if c=xs.length then ad else ad.map (·.add (xs.length*s))) (k0 - xs.length) (c - xs.length)):
  Ex P σ n ρ ⟨dst, .call ⟨.builtin .clear, #[x], #[T]⟩,ty,pos,af,gd⟩ λv' σ'=>v'= .tuple #[]/\Hp S0 aq σ' (Ch.own lo el (Sl ad xs c) xs::R)/\Md (λb=>blk (Sl ad xs c)=some b) σ σ':=by
 subst hs;have hO:Ow σ lo el (Sl ad xs c) xs:=(H.front MR).head;by_cases hz:k0=xs.length
 ·subst hz;refine ⟨_,σ, ?_,rfl,H.front MR,Md.refl _ _⟩;simp only [zt,execOp,resolve,qb8,qaz,qbm,hx,Sem.run_bind,Sem.run_pure,Result.andThen_ok,invoke,builtin,Builtin.clear_,qaq,qbb,underlying,hT,run_program,Nat.sub_self];generalize (if c=xs.length then ad else ad.map (·.add (xs.length*Rp.sz α)))=a;cases a <;> rfl
 ·rcases hO with ⟨hn,hxs⟩ | ⟨b,o,c0,C,T0,hv0,g2,g3,g4,g5,g6,g7⟩
  ·simp only [Sl,Value.slice.injEq] at hn;omega
  ·cases hv0
   let K:=(Builtin.zeroCells z.cells (k0 - xs.length)).toList
   have hK:K.length=(k0 - xs.length)*Rp.sz α:=by
    show (Builtin.zeroCells z.cells (k0 - xs.length)).toList.length=_;rw [qce];simp [Builtin.zeroCells,AP]
   have hKp: ∀t∈K,plain t=true:=by
    intro t ht;simp only [K,Builtin.zeroCells,Array.toList_map,Array.toList_range,qc5,qav] at ht;obtain ⟨j,hj,rfl⟩:=ht;have:0<z.cells.size:=by rw [AP];exact Rp.pos
    rw [getElem!_pos z.cells _ (Nat.mod_lt _ this)];exact hzp _ (by simp)
   have Ih:o+xs.length*Rp.sz α+K.length<=C.size:=by
    have:k0*Rp.sz α<=c*Rp.sz α:=qaj _ h2;rw [hK];have e:xs.length*Rp.sz α+(k0 - xs.length)*Rp.sz α=k0*Rp.sz α:=by rw [←Nat.add_mul];congr 1;omega
    omega
   have fu:=iD (P:=P) b (o+xs.length*Rp.sz α) T0 K 0 σ.w C g3 (by simpa using Ih) hKp;simp only [qcj] at fu;have m:Mod (blk (Sl (some ⟨b,o,none⟩) xs c)) σ (σ.put b (.cells (wr C (o+xs.length*Rp.sz α) K) T0 (0,0))):=St.vK g6;refine ⟨_,σ.put b (.cells (wr C (o+xs.length*Rp.sz α) K) T0 (0,0)), ?_,rfl,zy H MR m (.inr ⟨b,o,c,_,T0,rfl,g2,World.tD _ (lt_of_block g3),g4,by rw [F3];exact g5,g6,λi hi=> ?_⟩) (.inl rfl),m.md⟩
   ·rw [if_neg (by omega)] at hx;obtain ⟨kk,hkk⟩: ∃kk,k0 - xs.length=kk+1:=⟨k0 - xs.length - 1,by omega⟩;simp only [qac,add_plain,hkk] at hx;simp only [zt,execOp,resolve,qb8,qaz,qbm,hx,Sem.run_bind,Sem.run_pure,Result.andThen_ok,invoke,builtin,Builtin.clear_,qaq,qbb,underlying,hT,run_program,oz hi];rw [←hkk];rw [show (storeCells ⟨b,o+xs.length*Rp.sz α,none⟩ (Builtin.zeroCells z.cells (k0 - xs.length)).toList).run P σ.w=_ from fu]
    rfl
   ·have:(i+1)*Rp.sz α<=xs.length*Rp.sz α:=qaj _ hi;rw [Nat.add_mul] at this;exact (g7 i hi).put g3 g6 (λj hj=>EJ _ _ _ _ (by omega))
omit [Rp α] in
theorem RR{q0:List α}{i0 j0:Int}{ap:Option Addr}{cp c2:Nat}(hp:eI xs 0 i0=some p)(hq:eI xs j0 (xs.length:Int)=some q0)(qh:i0<=j0)(hr:nP p q0=some r)(UP:UN ad xs.length c s 0 i0 ap p.length cp)(agk:p.length+q0.length<=cp->c2=cp):r.length<=xs.length/\xs.length<=c2:=by
 obtain ⟨a0,a1,a2,_,a4⟩:=jI hp;obtain ⟨b0,b1,b2,_,b4⟩:=jI hq;obtain ⟨_,rfl⟩:=zu hr;have h3:=UP.h3;have hec:cp=c:=by rw [UP.ec];simp
 have:p.length+q0.length<=xs.length:=by omega
 refine ⟨by rw [qat];exact this, ?_⟩;rw [agk (by omega)];omega
end
end Go.Vs
namespace Go.Vs
open Go
end Go.Vs
