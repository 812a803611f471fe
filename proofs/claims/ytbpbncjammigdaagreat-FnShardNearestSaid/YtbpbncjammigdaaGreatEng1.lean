/- What a function of the program does to its memory, step by step. -/
import Derived.Test.YtbpbncjammigdaaGreatAl
import Derived.Tactics
import Derived.Deep.LoopGhost
import Derived.Deep.Quiet
import Derived.StillTail
import Derived.KernelRfl
import Derived.Laws.World
import Derived.Orders
import Derived.Laws.StructEq
set_option linter.unusedVariables false
set_option linter.unusedSimpArgs false
namespace Go.Vs
open Go
def upd(ρ:Nat->Value)(d:Nat)(v:Value):Nat->Value:=λt=>bif Nat.beq t d then v else ρ t
def fr(n:Nat)(ρ:Nat->Value):Act:=⟨Array.ofFn (n:=n) (λi=>ρ i.1),[]⟩
def look(n:Nat)(ρ:Nat->Value)(t:Nat):Value:=bif Nat.blt t n then ρ t else undef
def ev(n:Nat)(ρ:Nat->Value):Operand->Value
 | .tmp t=>look n ρ t
 | .const v=>v
 | .global g=> .pointer (some ⟨g,0,none⟩)
 | .func f=> .func (.func f) #[] #[]
def eh(l:List Value):Nat->Value:=λt=>l.getD t undef
theorem BK{t n:Nat}(h:t<n):Nat.blt t n=true:=by simp [Nat.blt,Nat.ble_eq];omega
theorem sK{t n:Nat}(h: ¬t<n):Nat.blt t n=false:=by
 cases hb:Nat.blt t n with
 | false=>rfl
 | true=>simp only [Nat.blt,Nat.ble_eq] at hb;omega
theorem qj{t n:Nat}(h:t≠n):Nat.beq t n=false:=by
 cases hb:Nat.beq t n with
 | false=>rfl
 | true=>exact absurd (Nat.eq_of_beq_eq_true hb) h
theorem Me(n:Nat):Nat.beq n n=true:=Nat.beq_refl n
theorem rP{n t:Nat}(ρ:Nat->Value)(h:t<n):look n ρ t=ρ t:=by unfold look;rw [BK h];rfl
theorem Mf{n t:Nat}(ρ:Nat->Value)(h: ¬t<n):look n ρ t=undef:=by unfold look;rw [sK h];rfl
theorem look_eq(n:Nat)(ρ:Nat->Value)(t:Nat):(fr n ρ).tmps.getD t undef=look n ρ t:=by
 by_cases h:t<n
 ·rw [rP ρ h];simp [fr,Array.getD,h]
 ·rw [Mf ρ h];simp [fr,Array.getD,h]
theorem ba(n:Nat)(ρ:Nat->Value):(fr n ρ).eval=ev n ρ:=by
 funext x;cases x with
 | tmp t=>exact look_eq n ρ t
 | const v=>rfl
 | global g=>rfl
 | func f=>rfl
theorem cU(n:Nat)(ρ:Nat->Value)(d:Nat)(v:Value):(fr n ρ).put (some d) v=fr n (upd ρ d v):=by
 unfold fr Act.put;simp only [Act.mk.injEq,and_true];apply Array.ext
 ·simp
 ·intro i h1 h2;simp only [Array.size_setIfInBounds,Array.size_ofFn] at h1;by_cases hd:d=i
  ·subst hd;simp [upd]
  ·simp [upd,qj (qbp hd),hd,h1]
theorem iQ(n:Nat)(ρ:Nat->Value)(v:Value):(fr n ρ).put none v=fr n ρ:=rfl
theorem mz(l:List Value)(n:Nat)(h:l.length<=n):
  (⟨l.toArray++Array.replicate (n - l.length) undef,[]⟩:Act)=fr n (eh l):=by
 unfold fr;simp only [Act.mk.injEq,and_true];apply Array.ext
 ·simp;omega
 ·intro i h1 h2;simp only [Array.size_ofFn] at h2;by_cases hi:i<l.length
  ·simp [hi,eh]
  ·simp [Array.getElem_append,hi,eh]
def yv(ops:Array Oper)(n:Nat)(ρ:Nat->Value)(j:Nat):Option Bool:=
 match (ops[j]?).bind (·.dst) with
 | some d=>match look n ρ d with
  | .bool b=>some b
  | _=>none
 | none=>none
theorem dV(ops:Array Oper)(n:Nat)(ρ:Nat->Value):yielded ops (fr n ρ).tmps=yv ops n ρ:=by
 funext j;unfold yielded yv;cases h:(ops[j]?).bind (·.dst) with
 | none=>simp
 | some d=>
  simp only [qa0];by_cases hd:d<n
  ·have e1:(fr n ρ).tmps[d]? =some (ρ d):=by simp [fr,hd]
   rw [e1,rP ρ hd];cases ρ d <;> rfl
  ·have e1:(fr n ρ).tmps[d]? =none:=by simp [fr,hd]
   rw [e1,Mf ρ hd];rfl
theorem PQ{n:Nat}{ρ oI:Nat->Value}(h: ∀t,t<n->ρ t=oI t):fr n ρ=fr n oI:=by
 unfold fr;congr 1;exact congrArg _ (funext λi=>h i.1 i.2)
structure St where
 w:World
 eW:Nat->Nat
 ok: ∀b,w.heap.size<=b->eW b=0
 dE:Prop -- of the answers ajp are drawn nothing is said any more
abbrev St.size(σ:St):Nat:=σ.w.heap.size
def St.cell(σ:St)(b o:Nat):Option Value:=σ.w.cell? ⟨b,o,none⟩
structure Ext(σ σ':St):Prop where
 size:σ.size<=σ'.size
 block: ∀b,0<σ.eW b->σ'.w.heap[b]? =σ.w.heap[b]?
 eW: ∀b,σ.eW b<=σ'.eW b
structure PR(B:Nat)(σ σ':St):Prop where
 os:σ'.w.os=σ.w.os
 tape:σ'.w.tape=σ.w.tape
 output:σ'.w.output=σ.w.output
 dr:σ.w.drawn<=σ'.w.drawn
 size:σ.size<=σ'.size
 block: ∀b,b<B->σ'.w.heap[b]? =σ.w.heap[b]?
 eW: ∀b,b<B->σ'.eW b=σ.eW b
 dE:σ'.dE=σ.dE
def St.mute(σ:St):St:=⟨σ.w,σ.eW,σ.ok,False⟩
theorem Ext.mute(σ:St):Ext σ σ.mute:=⟨qa3 _,λ_ _=>rfl,λ_=>qa3 _⟩
theorem Ext.refl(σ:St):Ext σ σ:=⟨qa3 _,λ_ _=>rfl,λ_=>qa3 _⟩
theorem Ext.trans{a b c:St}(h:Ext a b)(k:Ext b c):Ext a c:=
 ⟨qac h.size k.size,λx ho=>(k.block x (qa4 ho (h.eW x))).trans (h.block x ho),λx=>qac (h.eW x) (k.eW x)⟩
theorem cell_of_block{w w':World}{b:Nat}(h:w'.heap[b]? =w.heap[b]?)(o:Nat):w'.cell? ⟨b,o,none⟩=w.cell? ⟨b,o,none⟩:=by
 simp only [World.cell?, h]
theorem Ext.cell{σ σ':St}(h:Ext σ σ')(b o:Nat)(ho:o<σ.eW b):σ'.cell b o=σ.cell b o:=cell_of_block (h.block b (Nat.lt_of_le_of_lt (qa9 _) ho)) o
theorem PR.ext{σ σ':St}(h:PR σ.size σ σ'):Ext σ σ':=by
 refine ⟨h.size,λb ho=> ?_,λb=> ?_⟩
 ·by_cases hb:b<σ.size
  ·exact h.block b hb
  ·rw [σ.ok b (Nat.le_of_not_lt hb)] at ho;exact absurd ho (qaq _)
 ·by_cases hb:b<σ.size
  ·exact qav (h.eW b hb).symm
  ·rw [σ.ok b (Nat.le_of_not_lt hb)];exact qa9 _
def dR(P:Program)(H:Array Obj)(n:Nat)(ρ:Nat->Value)(o:Oper)(v:Value):Prop:=
 ∀w:World,w.heap=H->(execOp (ev n ρ) o).run P w= .ok (.value v) w
section steps
variable{P:Program}{ops:Array Oper}{Q:Exit->Act->World->Prop}{n d:Nat}{ρ:Nat->Value}{w:World}{v:Value}{rest:List Oper}
variable{op:Op}{ty:TypeId}{pos:String}{af:Array Edge}{gd:Option (Nat×Bool)}{H:Array Obj}
theorem bg(o:Oper)(h:o.guard=none)(y:Nat->Option Bool):Region.wanted o y=true:=by simp [Region.wanted,h]
theorem au{o:Oper}{j:Nat}{b:Bool}{y:Nat->Option Bool}(h:o.guard=some (j,b))(hy:y j=some b):Region.wanted o y=true:=by
 simp [Region.wanted,h,hy]
theorem bm{o:Oper}{j:Nat}{b:Bool}{y:Nat->Option Bool}(h:o.guard=some (j,b))(hy:y j=some (!b)):Region.wanted o y=false:=by
 cases b <;> simp [Region.wanted,h,hy]
theorem bW{o:Oper}{j:Nat}{b:Bool}{y:Nat->Option Bool}(h:o.guard=some (j,b))(hy:y j=none):Region.wanted o y=false:=by
 simp [Region.wanted,h,hy]
theorem yh(hw:Region.wanted ⟨some d,op,ty,pos,af,gd⟩ (yv ops n ρ)=true)
  (hr:dR P w.heap n ρ ⟨some d,op,ty,pos,af,gd⟩ v)
  (k:wpList P ops Q rest (fr n (upd ρ d v)) w):
  wpList P ops Q (⟨some d,op,ty,pos,af,gd⟩::rest) (fr n ρ) w:=by
 unfold wpList;rw [dV,if_pos hw];refine .inl ?_;unfold Oper.wp;rw [ba,hr w rfl];simp only [Oper.upon_value,cU];exact k
theorem st(hr:dR P w.heap n ρ ⟨some d,op,ty,pos,af,none⟩ v)
 (k:wpList P ops Q rest (fr n (upd ρ d v)) w):
 wpList P ops Q (⟨some d,op,ty,pos,af,none⟩::rest) (fr n ρ) w:=yh rfl hr k
theorem bX{j:Nat}{b:Bool}(hy:yv ops n ρ j=some b)(hr:dR P w.heap n ρ ⟨some d,op,ty,pos,af,some (j,b)⟩ v)
 (k:wpList P ops Q rest (fr n (upd ρ d v)) w):
 wpList P ops Q (⟨some d,op,ty,pos,af,some (j,b)⟩::rest) (fr n ρ) w:=yh (au rfl hy) hr k
theorem an{j:Nat}{b:Bool}(hy:yv ops n ρ j=some (!b))
  (k:wpList P ops Q rest (fr n (upd ρ d undef)) w):
  wpList P ops Q (⟨some d,op,ty,pos,af,some (j,b)⟩::rest) (fr n ρ) w:=by
 unfold wpList;rw [dV,bm rfl hy,if_neg (by simp),cU];exact k
theorem fZ{j:Nat}{b:Bool}(hy:yv ops n ρ j=none)
  (k:wpList P ops Q rest (fr n (upd ρ d undef)) w):
  wpList P ops Q (⟨some d,op,ty,pos,af,some (j,b)⟩::rest) (fr n ρ) w:=by
 unfold wpList;rw [dV,bW rfl hy,if_neg (by simp),cU];exact k
end steps
section abC
variable{P:Program}{Q:Exit->Act->World->Prop}{n:Nat}{ρ:Nat->Value}{w:World}
theorem aC{c:Operand}{x y:Code}(b:Bool)(hc:ev n ρ c= .bool b)(ht:b=true->x.wp P Q (fr n ρ) w)(hf:b=false->y.wp P Q (fr n ρ) w):
 (Code.cond c x y).wp P Q (fr n ρ) w:=wp_cond_split (by rw [ba];exact hc) ht hf
theorem enter{f:FuncId}{fn:Func}{c:Code}{l:List Value}{R:Ending->World->Prop}(hf:P.funcs[f]? =some fn)(hb:fn.body=some c)(hn:fn.ntmps=n)(hl:Nat.ble l.length n=true)
  (h:c.wp P (bodyPost P fn R) (fr n (eh l)) w):Calls P f l.toArray w R:=by
 refine calls_of_wp hf hb ?_;have:=mz l n (by simpa using hl);simp only [qbl,hn,this];exact h
end abC
end Go.Vs
namespace Go.Vs
open Go
abbrev I(n:Int):Value:= .int .i64 n
abbrev B(b:Bool):Value:= .bool b
def av(n:Int):Int:=IntKind.i64.wrap n
theorem bj{n:Int}(h1: -9223372036854775808<=n)(h2:n<=9223372036854775807):av n=n:=by
 simp only [av,IntKind.wrap,IntKind.bits,IntKind.signed,qbm,decide_eq_true_eq,ge_iff_le];have e1:((2:Int)^(64:Nat))=18446744073709551616:=by decide
 have e2:((2:Int)^(64 - 1:Nat))=9223372036854775808:=by decide
 rw [e1,e2];split <;> omega
def DF(a b:Int):Int:=IntKind.i64.wrap ((BitVec.ofInt 64 a ^^^ BitVec.ofInt 64 b).toNat)
structure TI(P:Program)(t:TypeId)(z:Value)(s b:Nat):Prop where
 it: ∃i,P.info? t=some i/\i.zero=some z/\i.size=s/\i.bytes=b
theorem TI.mk'{P:Program}{t:TypeId}{z:Value}{s b:Nat}(h:(P.info? t).map (λi=>(i.zero,i.size,i.bytes))=some (some z,s,b)):TI P t z s b:=by
 cases e:P.info? t with
 | none=>rw [e] at h;simp at h
 | some i=>
  rw [e] at h;simp only [qae,qaf,Prod.mk.injEq] at h;exact ⟨i,e,h.1,h.2.1,h.2.2⟩
section
variable{P:Program}{H:Array Obj}{n:Nat}{ρ:Nat->Value}{d:Option Nat}{ty T T':TypeId}{pos:String}{af:Array Edge}{gd:Option (Nat×Bool)}{x y c:Operand}{v u:Value}{a b:Int}{p q r:Bool}
theorem aj(h:ev n ρ x=v):dR P H n ρ ⟨d, .move x,ty,pos,af,gd⟩ v:=λw _=>by simp [execOp,h]
theorem dI(h:ev n ρ x=v):dR P H n ρ ⟨d, .assign x,ty,pos,af,gd⟩ v:=λw _=>by simp [execOp,h]
theorem aZ(hc:ev n ρ c=B true)(h:ev n ρ x=v):dR P H n ρ ⟨d, .pick c x y,ty,pos,af,gd⟩ v:=λw _=>by simp [execOp,h,hc,asBool]
theorem aK(hc:ev n ρ c=B false)(h:ev n ρ y=v):dR P H n ρ ⟨d, .pick c x y,ty,pos,af,gd⟩ v:=λw _=>by simp [execOp,h,hc,asBool]
theorem cF(hx:ev n ρ x=I a)(hy:ev n ρ y=I b):dR P H n ρ ⟨d, .binOp .add T x y T',ty,pos,af,gd⟩ (I (av (a+b))):=λw _=>by
 simp [execOp,hx,hy,eqGuard,binOp,Op.intArith,av]
theorem gq(hx:ev n ρ x=I a)(hy:ev n ρ y=I b):dR P H n ρ ⟨d, .binOp .sub T x y T',ty,pos,af,gd⟩ (I (av (a - b))):=λw _=>by
 simp [execOp,hx,hy,eqGuard,binOp,Op.intArith,av]
theorem lY(hx:ev n ρ x=I a)(hy:ev n ρ y=I b):dR P H n ρ ⟨d, .binOp .mul T x y T',ty,pos,af,gd⟩ (I (av (a*b))):=λw _=>by
 simp [execOp,hx,hy,eqGuard,binOp,Op.intArith,av]
theorem yi(hx:ev n ρ x=I a)(hy:ev n ρ y=I b)(h0:b≠0):dR P H n ρ ⟨d, .binOp .quo T x y T',ty,pos,af,gd⟩ (I (av (a.tdiv b))):=λw _=>by
 simp [execOp,hx,hy,eqGuard,binOp,Op.intDiv,av,h0]
theorem JQ(hx:ev n ρ x=I a)(hy:ev n ρ y=I b)(h0:b≠0):dR P H n ρ ⟨d, .binOp .rem T x y T',ty,pos,af,gd⟩ (I (a.tmod b)):=λw _=>by
 simp [execOp,hx,hy,eqGuard,binOp,Op.intDiv,h0]
theorem YG(hx:ev n ρ x=I a)(hy:ev n ρ y=I b):dR P H n ρ ⟨d, .binOp .xor T x y T',ty,pos,af,gd⟩ (I (DF a b)):=λw _=>by
 simp only [execOp,hx,hy,eqGuard,binOp];rfl
theorem ff(hx:ev n ρ x=I a)(hy:ev n ρ y=I b):dR P H n ρ ⟨d, .binOp .eql T x y T',ty,pos,af,gd⟩ (B (a==b)):=λw _=>by
 simp [execOp,hx,hy,eqGuard,binOp,Op.intCmp]
theorem JR(hx:ev n ρ x=I a)(hy:ev n ρ y=I b):dR P H n ρ ⟨d, .binOp .neq T x y T',ty,pos,af,gd⟩ (B (a != b)):=λw _=>by
 simp [execOp,hx,hy,eqGuard,binOp,Op.intCmp]
theorem cB(hx:ev n ρ x=I a)(hy:ev n ρ y=I b):dR P H n ρ ⟨d, .binOp .lss T x y T',ty,pos,af,gd⟩ (B (decide (a<b))):=λw _=>by
 simp [execOp,hx,hy,eqGuard,binOp,Op.intCmp]
theorem lr(hx:ev n ρ x=I a)(hy:ev n ρ y=I b):dR P H n ρ ⟨d, .binOp .leq T x y T',ty,pos,af,gd⟩ (B (decide (a<=b))):=λw _=>by
 simp [execOp,hx,hy,eqGuard,binOp,Op.intCmp]
theorem fB(hx:ev n ρ x=I a)(hy:ev n ρ y=I b):dR P H n ρ ⟨d, .binOp .gtr T x y T',ty,pos,af,gd⟩ (B (decide (b<a))):=λw _=>by
 simp [execOp,hx,hy,eqGuard,binOp,Op.intCmp]
theorem pB(hx:ev n ρ x=I a)(hy:ev n ρ y=I b):dR P H n ρ ⟨d, .binOp .geq T x y T',ty,pos,af,gd⟩ (B (decide (b<=a))):=λw _=>by
 simp [execOp,hx,hy,eqGuard,binOp,Op.intCmp]
theorem YH(hx:ev n ρ x=I a):dR P H n ρ ⟨d, .unOp .neg T x,ty,pos,af,gd⟩ (I (av (0 - a))):=λw _=>by
 simp [execOp,hx,Op.unary,Op.intArith,av]
theorem cW(hx:ev n ρ x=B p):dR P H n ρ ⟨d, .unOp .not T x,ty,pos,af,gd⟩ (B (!p)):=λw _=>by
 simp [execOp,hx,Op.unary]
theorem DG{k:IntKind}(hT:P.underlying T=some (.int k))(nS:P.underlying T'=some (.int .i64))(hx:ev n ρ x= .int k a):dR P H n ρ ⟨d, .convert T T' x,ty,pos,af,gd⟩ (I (av a)):=λw _=>by
 simp [execOp,hx,convert,underlying,hT,nS,Conv.intToInt,av]
theorem gr{vs:Array Value}{k:Nat}(hx:ev n ρ x= .tuple vs)(hv:vs[k]? =some v):dR P H n ρ ⟨d, .extract x k,ty,pos,af,gd⟩ v:=λw _=>by
 simp [execOp,hx,Instr.extract,hv]
theorem cu{ad:Addr}(hx:ev n ρ x= .pointer (some ad)):dR P H n ρ ⟨d, .nilCheck x,ty,pos,af,gd⟩ (.pointer (some ad)):=λw _=>by
 simp [execOp,hx]
theorem bS{m:Nat}{E:TypeId}{ad:Option Addr}{cp:Nat}(hT:P.underlying T=some (.slice E))(hx:ev n ρ x= .slice ad m cp):
  dR P H n ρ ⟨d, .call ⟨.builtin .len, #[x], #[T]⟩,ty,pos,af,gd⟩ (I m):=λw _=>by
 simp [execOp,resolve,invoke,builtin,Builtin.len_,hx,underlying,hT,goInt]
theorem DI(hx:ev n ρ x=I a)(hy:ev n ρ y=I b):dR P H n ρ ⟨d, .call ⟨.builtin .max, #[x,y], #[T,T']⟩,ty,pos,af,gd⟩ (I (max a b)):=λw _=>by
 simp [execOp,resolve,invoke,builtin,Builtin.max_,Builtin.max2,hx,hy];split <;> omega
theorem JS(hx:ev n ρ x=I a)(hy:ev n ρ y=I b):dR P H n ρ ⟨d, .call ⟨.builtin .min, #[x,y], #[T,T']⟩,ty,pos,af,gd⟩ (I (min a b)):=λw _=>by
 simp [execOp,resolve,invoke,builtin,Builtin.min_,Builtin.min2,hx,hy];split <;> omega
abbrev pt(bl o:Nat):Value:= .pointer (some ⟨bl,o,none⟩)
theorem add_plain(bl o k:Nat):(⟨bl,o,none⟩:Addr).add k=⟨bl,o+k,none⟩:=by
 unfold Addr.add;split <;> simp_all
theorem run_typeInfo{t:TypeId}{z:Value}{s bt:Nat}(h:TI P t z s bt)(w:World):(sizeOf t).run P w= .ok s w:=by
 obtain ⟨i,h1,h2,h3,h4⟩:=h.it;simp [sizeOf,typeInfo,h1,h3]
theorem mX{t:TypeId}{z:Value}{s bt:Nat}(h:TI P t z s bt)(w:World):(zeroValue t).run P w= .ok z w:=by
 obtain ⟨i,h1,h2,h3,h4⟩:=h.it;simp [zeroValue,typeInfo,h1,h2]
theorem ao{fs:Array Field}{k bl o off ft:Nat}{z:Value}{s bt:Nat}(hT:P.underlying T=some (.struct fs))(hf:(fs[k]?).map (λf=>(f.offset,f.type))=some (off,ft))
  (hi:TI P ft z s bt) (hs:Nat.beq s 0=false) (hx:ev n ρ x=pt bl o):dR P H n ρ ⟨d, .fieldAddr T x k,ty,pos,af,gd⟩ (pt bl (o+off)):=λw _=>by
 cases hfk:fs[k]? with
 | none=>rw [hfk] at hf;cases hf
 | some f=>
  rw [hfk] at hf;simp only [qae,qaf,Prod.mk.injEq] at hf;obtain ⟨rfl,rfl⟩:=hf;have DJ:s≠0:=by rintro rfl;cases hs
  simp [execOp,hx,Instr.fieldAt,underlying,hT,hfk,Instr.sureAddr,fieldPlace,run_typeInfo hi,DJ,add_plain]
theorem DK{E m:Nat}{xs:List Int}{e:Int}{z:Value}{bt:Nat}(hT:P.underlying T=some (.array m E))(hi:TI P E z 1 bt)(hE:P.underlying E=some (.int .i64))
  (hx:ev n ρ x= .agg (xs.map I).toArray) (hy:ev n ρ y=I a) (h0:0<=a) (h1:a.toNat<m) (he:xs[a.toNat]? =some e):dR P H n ρ ⟨d, .index T x y,ty,pos,af,gd⟩ (I e):=λw _=>by
 have h2:a<(m:Int):=by omega
 have ua:(isAgg E).run P w= .ok false w:=by
  simp only [isAgg,underlying,Sem.run_bind,run_program,Result.andThen_ok,hE,Sem.run_pure]
 simp [execOp,hx,hy,Instr.index,asIntOf,underlying,hT,h0,h2,run_typeInfo hi,part,ua,he]
theorem te{E:TypeId}{bl o m cp:Nat}{z:Value}{s bt:Nat}(hT:P.underlying T=some (.slice E))(hi:TI P E z s bt)
  (hx:ev n ρ x= .slice (some ⟨bl,o,none⟩) m cp) (hy:ev n ρ y=I a) (h0:0<=a) (h1:a.toNat<m):
  dR P H n ρ ⟨d, .indexAddr T x y,ty,pos,af,gd⟩ (pt bl (o+a.toNat*s)):=λw _=>by
 have h2:a<(m:Int):=by omega
 simp [execOp,hx,hy,Instr.indexAt,asIntOf,underlying,hT,h0,h2,run_typeInfo hi,add_plain]
theorem eZ{E:TypeId}{bl o m:Nat}{z:Value}{s bt:Nat}(hT:P.underlying T=some (.array m E))(hi:TI P E z s bt)
  (hx:ev n ρ x=pt bl o) (hy:ev n ρ y=I a) (h0:0<=a) (h1:a.toNat<m):
  dR P H n ρ ⟨d, .indexAddr T x y,ty,pos,af,gd⟩ (pt bl (o+a.toNat*s)):=λw _=>by
 have h2:a<(m:Int):=by omega
 simp [execOp,hx,hy,Instr.indexAt,asIntOf,underlying,hT,h0,h2,run_typeInfo hi,add_plain,Instr.sureAddr]
def iK(H:Array Obj)(b o:Nat):Option Value:=match H[b]? with
 | some (.cells c _ _)=>c[o]?
 | _=>none
theorem gi(w:World)(b o:Nat):iK w.heap b o=w.cell? ⟨b,o,none⟩:=by
 unfold iK World.cell?;cases h:w.heap[b]? with
 | none=>rfl
 | some ob=>cases ob <;> rfl
theorem ax{bl o:Nat}{D:TypeDesc}(hT:P.underlying T=some D)(hD:(match D with | .struct _=>false | .array _ _=>false | _=>true)=true)
  (hx:ev n ρ x=pt bl o) (hc:iK H bl o=some v):dR P H n ρ ⟨d, .load T x,ty,pos,af,gd⟩ v:=λw hw=>by
 subst hw;rw [gi] at hc;have:(isAgg T).run P w= .ok false w:=by
  simp only [isAgg,underlying,Sem.run_bind,run_program,Result.andThen_ok,hT,Sem.run_pure];cases D <;> simp_all
 simp [execOp,hx,Instr.loadAt,Instr.sureAddr,loadVar,this,load,Sem.run,hc]
theorem run_loadCellsFrom(w:World)(bl o:Nat): ∀(k i:Nat) (cs acc:List Value),cs.length=k->(∀j,(h:j<cs.length)->w.cell? ⟨bl,o+(i+j),none⟩=some cs[j])->
  (loadCellsFrom ⟨bl,o,none⟩ i k acc.toArray).run P w= .ok (acc++cs).toArray w
 | 0,i,cs,acc,hk,_=>by
  have:cs=[]:=qb5 hk;subst this;simp [loadCellsFrom]
 | k+1,i,[],acc,hk,_=>by simp at hk
 | k+1,i,c::cs,acc,hk,hc=>by
  have h0:=hc 0 (by simp);simp only [qcd,List.getElem_cons_zero] at h0;have ih:=run_loadCellsFrom w bl o k (i+1) cs (acc++[c]) (by simpa using hk) (λj hj=>by
   have:=hc (j+1) (by simpa using hj);simpa [Nat.add_assoc,Nat.add_comm 1 j] using this)
  simp only [loadCellsFrom,Sem.run_bind,load,add_plain,Sem.run,h0,Result.andThen_ok];have e:acc.toArray.push c=(acc++[c]).toArray:=by simp
  rw [e,ih];simp
theorem bC{bl o:Nat}{D:TypeDesc}{cs:List Value}{z:Value}{s bt:Nat}(hT:P.underlying T=some D)(hD:(match D with | .struct _=>false | .array _ _=>false | _=>true)=false)
  (hi:TI P T z s bt) (hx:ev n ρ x=pt bl o) (hl:cs.length=s) (hc: ∀j,(h:j<cs.length)->iK H bl (o+j)=some cs[j]):dR P H n ρ ⟨d, .load T x,ty,pos,af,gd⟩ (.agg cs.toArray):=λw hw=>by
 subst hw;have:(isAgg T).run P w= .ok true w:=by
  simp only [isAgg,underlying,Sem.run_bind,run_program,Result.andThen_ok,hT,Sem.run_pure];cases D <;> simp_all
 have:=run_loadCellsFrom (P:=P) w bl o s 0 cs [] hl (λj hj=>by rw [←gi];simpa using hc j hj);simp [execOp,Instr.loadAt,Instr.sureAddr,loadVar, *, loadCells,run_typeInfo hi]
end
end Go.Vs
namespace Go.Vs
open Go
def plain:Value->Bool
 | .agg _ | .tuple _=>false
 | _=>true
structure Nz(lo:Nat)(σ σ':St):Prop where
 block: ∀b,lo<=b->0<σ.eW b->σ'.w.heap[b]? =σ.w.heap[b]?
 eW: ∀b,lo<=b->σ.eW b<=σ'.eW b
theorem Ext.ss{σ σ':St}(h:Ext σ σ')(lo:Nat):Nz lo σ σ':=⟨λb _ ho=>h.block b ho,λb _=>h.eW b⟩
theorem Nz.cell{lo:Nat}{σ σ':St}(h:Nz lo σ σ')(b o:Nat)(hb:lo<=b)(ho:o<σ.eW b):σ'.cell b o=σ.cell b o:=cell_of_block (h.block b hb (Nat.lt_of_le_of_lt (qa9 _) ho)) o
class Rp(α:Type) where
 sz:Nat
 rp:Nat->St->List Value->α->Prop
 pos:0<sz
 len: ∀{lo:Nat} {σ:St} {cs:List Value} {x:α},rp lo σ cs x->cs.length=sz
 ss: ∀{lo:Nat} {σ σ':St} {cs:List Value} {x:α},Nz lo σ σ'->rp lo σ cs x->rp lo σ' cs x
 low: ∀{lo mY:Nat} {σ:St} {cs:List Value} {x:α},mY<=lo->rp lo σ cs x->rp mY σ cs x
 one: ∀{lo:Nat} {σ:St} {cs:List Value} {x:α},rp lo σ cs x-> ∀c∈cs,plain c=true
theorem Rp.ext{α:Type}[Rp α]{lo:Nat}{σ σ':St}{cs:List Value}{x:α}(hE:Ext σ σ')(h:Rp.rp lo σ cs x):Rp.rp lo σ' cs x:=Rp.ss (hE.ss lo) h
instance:Rp Int where
 sz:=1
 rp _ _ cs x:=cs=[I x]
 pos:=by decide
 len:=by rintro _ _ _ _ rfl;rfl
 ss:=λ_ h=>h
 low:=λ_ h=>h
 one:=by rintro _ _ _ _ rfl;simp [plain]
instance:Rp UInt8 where
 sz:=1
 rp _ _ cs x:=cs=[.int .u8 x.toNat]
 pos:=by decide
 len:=by rintro _ _ _ _ rfl;rfl
 ss:=λ_ h=>h
 low:=λ_ h=>h
 one:=by rintro _ _ _ _ rfl;simp [plain]
instance{α β:Type}[Rp α][Rp β]:Rp (α×β) where
 sz:=Rp.sz α+Rp.sz β
 rp lo σ cs x:= ∃c1 c2,cs=c1++c2/\Rp.rp lo σ c1 x.1/\Rp.rp lo σ c2 x.2
 pos:=Nat.add_pos_left Rp.pos _
 len:=by rintro _ _ _ _ ⟨c1,c2,rfl,h1,h2⟩;rw [qau,Rp.len h1,Rp.len h2]
 ss:=by rintro _ _ _ _ _ hE ⟨c1,c2,rfl,h1,h2⟩;exact ⟨c1,c2,rfl,Rp.ss hE h1,Rp.ss hE h2⟩
 low:=by rintro _ _ _ _ _ hl ⟨c1,c2,rfl,h1,h2⟩;exact ⟨c1,c2,rfl,Rp.low hl h1,Rp.low hl h2⟩
 one:=by
  rintro _ _ _ _ ⟨c1,c2,rfl,h1,h2⟩ c hc;rcases qaj.1 hc with h | h
  ·exact Rp.one h1 c h
  ·exact Rp.one h2 c h
section
variable{α β:Type}[Rp α][Rp β]
def At(el:Nat)(σ:St)(b o:Nat)(x:α):Prop:= ∃cs,Rp.rp el σ cs x/\ ∀j,(h:j<cs.length)->σ.cell b (o+j)=some cs[j]
theorem At.ext{el:Nat}{σ σ':St}{b o:Nat}{x:α}(h:At el σ b o x)(hs:o+Rp.sz α<=σ.eW b)(hE:Ext σ σ'):At el σ' b o x:=by
 obtain ⟨cs,h1,h2⟩:=h;refine ⟨cs,Rp.ext hE h1,λj hj=> ?_⟩;have:=Rp.len h1;rw [hE.cell b (o+j) (by omega)];exact h2 j hj
theorem At.fst{el:Nat}{σ:St}{b o:Nat}{x:α×β}(h:At el σ b o x):At el σ b o x.1:=by
 obtain ⟨cs,⟨c1,c2,rfl,h1,h2⟩,h3⟩:=h;refine ⟨c1,h1,λj hj=> ?_⟩;rw [h3 j (by rw [qau];omega),qb3 hj]
theorem At.snd{el:Nat}{σ:St}{b o:Nat}{x:α×β}(h:At el σ b o x):At el σ b (o+Rp.sz α) x.2:=by
 obtain ⟨cs,⟨c1,c2,rfl,h1,h2⟩,h3⟩:=h;refine ⟨c2,h2,λj hj=> ?_⟩;have hl:=Rp.len h1;have:=h3 (c1.length+j) (by rw [qau];omega);rw [Nat.add_assoc, ←hl,this,qbe (by omega)];simp
def RS(el:Nat)(σ:St)(v:Value)(xs:List α):Prop:=
 ((∃ad c,v= .slice ad 0 c)/\xs=[])\/ ∃b o c,v= .slice (some ⟨b,o,none⟩) xs.length c/\el<=b/\xs.length<=c/\o+xs.length*Rp.sz α<=σ.eW b/\
  ∀i,(h:i<xs.length)->At el σ b (o+i*Rp.sz α) xs[i]
def Rd(el:Nat)(σ:St)(v:Value)(xs:List α):Prop:=
 ((∃ad c,v= .slice ad 0 c)/\xs=[])\/ ∃b o c,v= .slice (some ⟨b,o,none⟩) xs.length c/\ ∀i,(h:i<xs.length)->At el σ b (o+i*Rp.sz α) xs[i]
def Ow(σ:St)(lo el:Nat)(v:Value)(xs:List α):Prop:=
 (v= .slice none 0 0/\xs=[])\/ ∃b o c C T,v= .slice (some ⟨b,o,none⟩) xs.length c/\lo<=b/\σ.w.heap[b]? =some (.cells C T (0,0))/\xs.length<=c/\
  o+c*Rp.sz α<=C.size/\σ.eW b=0/\ ∀i,(h:i<xs.length)->At el σ b (o+i*Rp.sz α) xs[i]
def blk:Value->Option Nat
 | .slice (some a) _ _=>some a.block
 | _=>none
theorem RS.nil{el:Nat}{σ:St}:RS el σ (.slice none 0 0) ([]:List α):= .inl ⟨⟨_,_,rfl⟩,rfl⟩
theorem Ow.nil{el:Nat}{σ:St}{lo:Nat}:Ow σ lo el (.slice none 0 0) ([]:List α):= .inl ⟨rfl,rfl⟩
theorem RS.rd{el:Nat}{σ:St}{v:Value}{xs:List α}(h:RS el σ v xs):Rd el σ v xs:=by
 rcases h with h | ⟨b,o,c,h1,_,_,h2,h3⟩
 ·exact .inl h
 ·exact .inr ⟨b,o,c,h1,h3⟩
theorem Ow.rd{el:Nat}{σ:St}{lo:Nat}{v:Value}{xs:List α}(h:Ow σ lo el v xs):Rd el σ v xs:=by
 rcases h with h | ⟨b,o,c,C,T,h1,h2,h3,h4,h5,h6,h7⟩
 ·exact .inl ⟨⟨_,_,h.1⟩,h.2⟩
 ·exact .inr ⟨b,o,c,h1,h7⟩
theorem RS.ext{el:Nat}{σ σ':St}{v:Value}{xs:List α}(h:RS el σ v xs)(hE:Ext σ σ'):RS el σ' v xs:=by
 rcases h with h | ⟨b,o,c,h1,hb,hc,h2,h3⟩
 ·exact .inl h
 ·refine .inr ⟨b,o,c,h1,hb,hc,qac h2 (hE.eW b),λi hi=>(h3 i hi).ext ?_ hE⟩;have:(i+1)*Rp.sz α<=xs.length*Rp.sz α:=qal _ hi;rw [Nat.add_mul] at this;omega
def YI(v:Value)(m:Nat):Prop:= ∃ad c,v= .slice ad m c
theorem Rd.pD{el:Nat}{σ:St}{v:Value}{xs:List α}(h:Rd el σ v xs):YI v xs.length:=by
 rcases h with ⟨⟨ad,c,rfl⟩,rfl⟩ | ⟨b,o,c,h1,_⟩
 ·exact ⟨ad,c,rfl⟩
 ·exact ⟨_,_,h1⟩
theorem RS.pD{el:Nat}{σ:St}{v:Value}{xs:List α}(h:RS el σ v xs):YI v xs.length:=h.rd.pD
theorem Ow.pD{el:Nat}{σ:St}{lo:Nat}{v:Value}{xs:List α}(h:Ow σ lo el v xs):YI v xs.length:=h.rd.pD
theorem RS.ss{el:Nat}{σ σ':St}{v:Value}{xs:List α}(h:RS el σ v xs)(hE:Nz el σ σ'):RS el σ' v xs:=by
 rcases h with h | ⟨b,o,c,h1,hb,hc,h2,h3⟩
 ·exact .inl h
 ·refine .inr ⟨b,o,c,h1,hb,hc,qac h2 (hE.eW b hb),λi hi=> ?_⟩;obtain ⟨cs,h4,h5⟩:=h3 i hi;refine ⟨cs,Rp.ss hE h4,λj hj=> ?_⟩;have:(i+1)*Rp.sz α<=xs.length*Rp.sz α:=qal _ hi;rw [Nat.add_mul] at this;have hl:=Rp.len h4;rw [hE.cell b _ hb (by omega)];exact h5 j hj
theorem At.low{lo mY:Nat}{σ:St}{b o:Nat}{x:α}(hl:mY<=lo)(h:At lo σ b o x):At mY σ b o x:=by
 obtain ⟨cs,h1,h2⟩:=h;exact ⟨cs,Rp.low hl h1,h2⟩
theorem RS.low{lo mY:Nat}{σ:St}{v:Value}{xs:List α}(h:RS lo σ v xs)(hl:mY<=lo):RS mY σ v xs:=by
 rcases h with h | ⟨b,o,c,h1,hb,hc,h2,h3⟩
 ·exact .inl h
 ·exact .inr ⟨b,o,c,h1,qac hl hb,hc,h2,λi hi=>(h3 i hi).low hl⟩
instance:Rp (List α) where
 sz:=1
 rp lo σ cs x:= ∃v,cs=[v]/\RS lo σ v x
 pos:=by decide
 len:=by rintro _ _ _ _ ⟨v,rfl,_⟩;rfl
 ss:=by rintro _ _ _ _ _ hE ⟨v,rfl,h⟩;exact ⟨v,rfl,h.ss hE⟩
 low:=by rintro _ _ _ _ _ hl ⟨v,rfl,h⟩;exact ⟨v,rfl,h.low hl⟩
 one:=by
  rintro _ _ _ _ ⟨v,rfl,h⟩ c hc;obtain ⟨ad,cp,hv⟩:=h.pD;simp only [qbc] at hc;rw [hc,hv];rfl
omit [Rp α] in
theorem List.DL{xs:List α}{i:Nat}{e:α}(h:xs[i]? =some e):i<xs.length:=(qbf.1 h).1
def bF{α:Type}(xs:List α)(a:Int):Option α:=if 0<=a then xs[a.toNat]? else none
omit [Rp α] in
theorem jr{xs:List α}{a:Int}{e:α}(h:bF xs a=some e):0<=a/\ ∃h:a.toNat<xs.length,xs[a.toNat]=e:=by
 unfold bF at h;split at h
 ·rename_i h0;obtain ⟨h1,h2⟩:=qbf.1 h;exact ⟨h0,h1,h2⟩
 ·cases h
structure Ix(v:Value)(a:Int)(s b o:Nat):Prop where
 it: ∃ob m c,v= .slice (some ⟨b,ob,none⟩) m c/\0<=a/\a.toNat<m/\o=ob+a.toNat*s
theorem Rd.ix{el:Nat}{σ:St}{v:Value}{xs:List α}{a:Int}{e:α}(h:Rd el σ v xs)(hg:bF xs a=some e): ∃b o,Ix v a (Rp.sz α) b o/\At el σ b o e:=by
 obtain ⟨h0,h1,h2⟩:=jr hg;rcases h with ⟨_,rfl⟩ | ⟨b,o,c,hv,hc⟩
 ·simp at h1
 ·exact ⟨b,o+a.toNat*Rp.sz α,⟨o,_,c,hv,h0,h1,rfl⟩,h2▸hc _ h1⟩
theorem RS.ix{el:Nat}{σ:St}{v:Value}{xs:List α}{a:Int}{e:α}(h:RS el σ v xs)(hg:bF xs a=some e): ∃b o,Ix v a (Rp.sz α) b o/\At el σ b o e:=h.rd.ix hg
theorem Ow.ix{el:Nat}{σ:St}{lo:Nat}{v:Value}{xs:List α}{a:Int}{e:α}(h:Ow σ lo el v xs)(hg:bF xs a=some e): ∃b o,Ix v a (Rp.sz α) b o/\At el σ b o e:=h.rd.ix hg
theorem At.int{el:Nat}{σ:St}{b o:Nat}{x:Int}(h:At el σ b o x):iK σ.w.heap b o=some (I x):=by
 obtain ⟨cs,rfl,h2⟩:=h;rw [gi];exact h2 0 (by simp)
theorem At.byte{el:Nat}{σ:St}{b o:Nat}{x:UInt8}(h:At el σ b o x):iK σ.w.heap b o=some (.int .u8 x.toNat):=by
 obtain ⟨cs,rfl,h2⟩:=h;rw [gi];exact h2 0 (by simp)
theorem At.slice{el:Nat}{σ:St}{b o:Nat}{xs:List α}(h:At el σ b o xs): ∃v,iK σ.w.heap b o=some v/\RS el σ v xs:=by
 obtain ⟨cs,⟨v,rfl,hR⟩,h2⟩:=h;exact ⟨v,by rw [gi];exact h2 0 (by simp),hR⟩
theorem At.cells{el:Nat}{σ:St}{b o:Nat}{x:α}(h:At el σ b o x): ∃cs,Rp.rp el σ cs x/\cs.length=Rp.sz α/\ ∀j,(hj:j<cs.length)->iK σ.w.heap b (o+j)=some cs[j]:=by
 obtain ⟨cs,h1,h2⟩:=h;exact ⟨cs,h1,Rp.len h1,λj hj=>by rw [gi];exact h2 j hj⟩
end
section
variable{P:Program}{H:Array Obj}{n:Nat}{ρ:Nat->Value}{d:Option Nat}{ty T T' E:TypeId}{pos:String}{af:Array Edge}{gd:Option (Nat×Bool)}{x y:Operand}{v:Value}{a:Int}{m b o s bt:Nat}{z:Value}
theorem cj(hT:P.underlying T=some (.slice E))(hi:TI P E z s bt)(hx:ev n ρ x=v)(hy:ev n ρ y=I a)(h:Ix v a s b o):
  dR P H n ρ ⟨d, .indexAddr T x y,ty,pos,af,gd⟩ (pt b o):=by
 obtain ⟨ob,m,c,rfl,h0,h1,rfl⟩:=h.it;exact te hT hi hx hy h0 h1
end
end Go.Vs
namespace Go.Vs
open Go
structure Oth(S:Option Nat)(σ σ':St):Prop where
 block: ∀b,b<σ.size->S≠some b->σ'.w.heap[b]? =σ.w.heap[b]?
 eW: ∀b,b<σ.size->S≠some b->σ'.eW b=σ.eW b
structure Mod(S:Option Nat)(σ σ':St):Prop where
 os:σ'.w.os=σ.w.os
 tape:σ'.w.tape=σ.w.tape
 output:σ'.w.output=σ.w.output
 dr:σ.w.drawn<=σ'.w.drawn
 dE:σ'.dE=σ.dE
 ext:Ext σ σ'
 Xk:Oth S σ σ'
theorem Mod.refl(S:Option Nat)(σ:St):Mod S σ σ:=⟨rfl,rfl,rfl,qa3 _,rfl,Ext.refl _,⟨λ_ _ _=>rfl,λ_ _ _=>rfl⟩⟩
theorem Mod.size{S:Option Nat}{σ σ':St}(h:Mod S σ σ'):σ.size<=σ'.size:=h.ext.size
theorem Mod.step{S S':Option Nat}{a b c:St}(h:Mod S a b)(k:Mod S' b c)(hs:S'=none\/S'=S\/ ∀i,S'=some i->a.size<=i):Mod S a c:=by
 have key: ∀i,i<a.size->S≠some i->S'≠some i:=by
  intro i hi iH;rcases hs with rfl | rfl | hs
  ·simp
  ·exact iH
  ·intro e;have:=hs i e;omega
 exact ⟨k.os.trans h.os,k.tape.trans h.tape,k.output.trans h.output,qac h.dr k.dr,k.dE.trans h.dE,h.ext.trans k.ext,
  λi hi iH=>(k.Xk.block i (qa4 hi h.size) (key i hi iH)).trans (h.Xk.block i hi iH),
  λi hi iH=>(k.Xk.eW i (qa4 hi h.size) (key i hi iH)).trans (h.Xk.eW i hi iH)⟩
theorem PR.mod{σ σ':St}(h:PR σ.size σ σ')(S:Option Nat):Mod S σ σ':=⟨h.os,h.tape,h.output,h.dr,h.dE,h.ext,λb hb _=>h.block b hb,λb hb _=>h.eW b hb⟩
theorem At.same{el:Nat}{α:Type}[Rp α]{σ σ':St}{b o:Nat}{x:α}(h:At el σ b o x)(hE:Ext σ σ')(hb:σ'.w.heap[b]? =σ.w.heap[b]?):At el σ' b o x:=by
 obtain ⟨cs,h1,h2⟩:=h;exact ⟨cs,Rp.ext hE h1,λj hj=>by rw [show σ'.cell b (o+j)=σ.cell b (o+j) from cell_of_block hb _];exact h2 j hj⟩
theorem lt_of_block{w:World}{b:Nat}{o:Obj}(h:w.heap[b]? =some o):b<w.heap.size:=(qa1.1 h).1
def Bx(σ:St)(b:Nat)(cs:List Value):Prop:= ∃T,σ.w.heap[b]? =some (.cells cs.toArray T (0,0))/\σ.eW b=0
theorem Bx.lt{σ:St}{b:Nat}{cs:List Value}(h:Bx σ b cs):b<σ.size:=lt_of_block h.choose_spec.1
theorem Ow.lt{el:Nat}{α:Type}[Rp α]{σ:St}{lo:Nat}{v:Value}{xs:List α}(h:Ow σ lo el v xs): ∀b,blk v=some b->b<σ.size:=by
 rcases h with ⟨rfl,_⟩ | ⟨b,o,c,C,T,rfl,h2,h3,_⟩
 ·intro b h;cases h
 ·intro b' h;cases h;exact lt_of_block h3
theorem Ow.ge{el:Nat}{α:Type}[Rp α]{σ:St}{lo:Nat}{v:Value}{xs:List α}(h:Ow σ lo el v xs): ∀b,blk v=some b->lo<=b:=by
 rcases h with ⟨rfl,_⟩ | ⟨b,o,c,C,T,rfl,h2,h3,_⟩
 ·intro b h;cases h
 ·intro b' h;cases h;exact h2
theorem Ow.lo{el:Nat}{α:Type}[Rp α]{σ:St}{lo mY:Nat}{v:Value}{xs:List α}(h:Ow σ lo el v xs)(hl:mY<=lo):Ow σ mY el v xs:=by
 rcases h with h | ⟨b,o,c,C,T,h1,h2,h3⟩
 ·exact .inl h
 ·exact .inr ⟨b,o,c,C,T,h1,qac hl h2,h3⟩
def World.mk'(w:World)(o:Obj)(k:Nat):World:={ w with heap:=w.heap.push o,drawn:=w.drawn+k }
def St.new(σ:St)(o:Obj)(k:Nat):St:=⟨World.mk' σ.w o k,σ.eW,λb hb=>σ.ok b (by
 have:(σ.w.heap.push o).size<=b:=hb;rw [Array.size_push] at this;omega),σ.dE⟩
theorem St.G5(σ:St)(o:Obj)(k:Nat):(σ.new o k).size=σ.size+1:=by show (σ.w.heap.push o).size=_;simp
theorem St.Ud(σ:St)(o:Obj)(k b:Nat)(h:b<σ.size):(σ.new o k).w.heap[b]? =σ.w.heap[b]? :=by
 show (σ.w.heap.push o)[b]? =_;rw [qbr,if_neg (by have:b<σ.w.heap.size:=h;omega)]
theorem St.pE(σ:St)(o:Obj)(k:Nat):(σ.new o k).w.heap[σ.size]? =some o:=by
 show (σ.w.heap.push o)[σ.w.heap.size]? =_;simp
theorem St.PS(σ:St)(o:Obj)(k:Nat):PR σ.size σ (σ.new o k):=
 ⟨rfl,rfl,rfl,Nat.le_add_right _ _,by rw [St.G5];omega,λb hb=>σ.Ud o k b hb,λ_ _=>rfl,rfl⟩
theorem St.j4(σ:St)(o:Obj)(k:Nat):Mod none σ (σ.new o k):=(St.PS σ o k).mod none
theorem St.pF(σ:St)(o:Obj)(k:Nat):(σ.new o k).eW σ.size=0:=σ.ok _ (qa3 _)
def wr(C:Array Value)(k:Nat):List Value->Array Value
 | []=>C
 | v::r=>wr (C.setIfInBounds k v) (k+1) r
theorem Mg(vs:List Value): ∀(C:Array Value) (k:Nat),(wr C k vs).size=C.size:=by
 induction vs with
 | nil=>intro C k;rfl
 | cons v r ih=>intro C k;rw [wr,ih];simp
theorem G6(vs:List Value): ∀(C:Array Value) (k j:Nat),j<k->(wr C k vs)[j]? =C[j]? :=by
 induction vs with
 | nil=>intro C k j _;rfl
 | cons v r ih=>
  intro C k j h;rw [wr,ih _ _ _ (by omega),qag,if_neg (by omega)]
theorem PT(vs:List Value): ∀(C:Array Value) (k j:Nat),k+vs.length<=j->(wr C k vs)[j]? =C[j]? :=by
 induction vs with
 | nil=>intro C k j _;rfl
 | cons v r ih=>
  intro C k j h;simp only [qb6] at h;rw [wr,ih _ _ _ (by omega),qag,if_neg (by omega)]
theorem PU(vs:List Value): ∀(C:Array Value) (k j:Nat),k+vs.length<=C.size->(h:j<vs.length)->(wr C k vs)[k+j]? =some vs[j]:=by
 induction vs with
 | nil=>intro C k j _ h;simp at h
 | cons v r ih=>
  intro C k j hs h;simp only [qb6] at hs h;cases j with
  | zero=>
   rw [wr,G6 _ _ _ _ (by omega),qag,if_pos (by omega),if_pos (by omega)]
   rfl
  | succ j=>
   have:=ih (C.setIfInBounds k v) (k+1) j (by simp;omega) (by omega);rw [wr,show k+(j+1)=k+1+j by omega,this]
   rfl
def World.put(w:World)(b:Nat)(o:Obj):World:={ w with heap:=w.heap.setIfInBounds b o }
theorem World.PV{w:World}{b:Nat}{o:Obj}(h:w.heap[b]? =some o):World.put w b o=w:=by
 obtain ⟨hb,e⟩:=qa1.1 h;unfold World.put;have:w.heap.setIfInBounds b o=w.heap:=by
  apply Array.ext_getElem?;intro i;rw [qag];split
  ·rename_i hi;subst hi;rw [h]
  ·rfl
 rw [this]
theorem World.qK{w:World}{b:Nat}(o:Obj)(h:b<w.heap.size):(World.put w b o).heap[b]? =some o:=by
 show (w.heap.setIfInBounds b o)[b]? =_;rw [qag,if_pos rfl,if_pos h]
theorem World.PW{w:World}{b c:Nat}(o:Obj)(h:b≠c):(World.put w b o).heap[c]? =w.heap[c]? :=by
 show (w.heap.setIfInBounds b o)[c]? =_;rw [qag,if_neg h]
theorem World.Ue(w:World)(b:Nat)(o o':Obj):World.put (World.put w b o) b o'=World.put w b o':=by
 unfold World.put;have:(w.heap.setIfInBounds b o).setIfInBounds b o'=w.heap.setIfInBounds b o':=by
  apply Array.ext_getElem?;intro i;simp only [qag,Array.size_setIfInBounds];split
  ·rfl
  ·rfl
 rw [this]
theorem World.G7(w:World)(b:Nat)(o:Obj):(World.put w b o).heap.size=w.heap.size:=by
 show (w.heap.setIfInBounds b o).size=_;simp
theorem G8{w:World}{b k:Nat}{C:Array Value}{T:TypeId}(h:w.heap[b]? =some (.cells C T (0,0)))(v:Value):
  w.setCell ⟨b,k,none⟩ v=World.put w b (.cells (C.setIfInBounds k v) T (0,0)):=by
 obtain ⟨hb,e⟩:=qa1.1 h;unfold World.setCell World.put;simp only [qbo,qa7,if_false];congr 1;apply Array.ext_getElem?;intro i;rw [qbz,qag];split
 ·rename_i hi;subst hi;rw [h];simp
 ·rfl
theorem gI{P:Program}(b o:Nat)(T:TypeId): ∀(vs:List Value) (i:Nat) (w:World) (C:Array Value),w.heap[b]? =some (.cells C T (0,0))->
  o+i+vs.length<=C.size->(∀v∈vs,plain v=true)->
  (storeCells ⟨b,o,none⟩ vs i).run P w= .ok () (World.put w b (.cells (wr C (o+i) vs) T (0,0)))
 | [],i,w,C,h,_,_=>by
  simp only [storeCells,wr,World.PV h];rfl
 | v::r,i,w,C,h,hs,hp=>by
  simp only [qb6] at hs;have hv:=hp v (by simp);have hb:=lt_of_block h;have hc:w.cell? ⟨b,o+i,none⟩=C[o+i]? :=by simp [World.cell?, h]
  have PX:C[o+i]? =some C[o+i]:=by rw [qa1];exact ⟨by omega,rfl⟩
  have hf:w.frozen? ⟨b,o+i,none⟩=false:=by simp [World.frozen?, h]
  have ih:=gI (P:=P) b o T r (i+1) (World.put w b (.cells (C.setIfInBounds (o+i) v) T (0,0))) (C.setIfInBounds (o+i) v)
   (World.qK _ hb) (by simp;omega) (λu hu=>hp u (by simp [hu]))
  have bP:(store ((⟨b,o,none⟩:Addr).add i) v).run P w= .ok () (World.put w b (.cells (C.setIfInBounds (o+i) v) T (0,0))):=by
   rw [add_plain];cases v <;> first | (simp [plain] at hv;done) | (simp only [store,Sem.run,hc,PX,hf,G8 h];rfl)
  simp only [storeCells,Sem.run_bind,bP,Result.andThen_ok,ih,World.Ue];rw [wr];rfl
def St.put(σ:St)(b:Nat)(o:Obj):St:=⟨World.put σ.w b o,σ.eW,λc hc=>σ.ok c (by rw [World.G7] at hc;exact hc),σ.dE⟩
theorem St.DN{σ:St}{b:Nat}{o:Obj}(h:σ.eW b=0):Ext σ (σ.put b o):=by
 refine ⟨qav (World.G7 _ _ _).symm,λc hk=> ?_,λ_=>qa3 _⟩;by_cases hc:b=c
 ·subst hc;rw [h] at hk;exact absurd hk (qaq _)
 ·exact World.PW o hc
theorem St.Uf{σ:St}{b:Nat}{o:Obj}:Oth (some b) σ (σ.put b o):=
 ⟨λc _ iH=>World.PW o (λe=>iH (by rw [e])),λ_ _ _=>rfl⟩
theorem St.ub{σ:St}{b:Nat}{o:Obj}(h:σ.eW b=0):Mod (some b) σ (σ.put b o):=⟨rfl,rfl,rfl,qa3 _,rfl,St.DN h,St.Uf⟩
def St.nJ(σ:St)(b e:Nat)(hb:b<σ.size):St:=⟨σ.w,λc=>if c=b then max (σ.eW b) e else σ.eW c,λc hc=>by
 rw [if_neg (by have:σ.size<=c:=hc;omega)];exact σ.ok c hc,σ.dE⟩
theorem St.DO{σ:St}{b e:Nat}(hb:b<σ.size):Ext σ (σ.nJ b e hb):=by
 refine ⟨qa3 _,λ_ _=>rfl,λc=> ?_⟩;show _<=(if c=b then max (σ.eW b) e else σ.eW c);split
 ·rename_i h;subst h;omega
 ·exact qa3 _
end Go.Vs
namespace Go.Vs
open Go
section
variable{P:Program}{ops:Array Oper}{Q:Exit->Act->World->Prop}{n d:Nat}{ρ:Nat->Value}{σ:St}{v:Value}{rest:List Oper}
variable{ty T T' E:TypeId}{pos:String}{af:Array Edge}{x y:Operand}{a:Int}
def AA(P:Program)(w:World)(n:Nat)(ρ:Nat->Value)(o:Oper)(v:Value)(w':World):Prop:=(execOp (ev n ρ) o).run P w= .ok (.value v) w'
def PY(P:Program)(w:World)(n:Nat)(ρ:Nat->Value)(o:Oper)(w':World):Prop:=(execOp (ev n ρ) o).run P w= .ok .skip w'
theorem afv{op:Op}{gd:Option (Nat×Bool)}{w w':World}(hw:Region.wanted ⟨some d,op,ty,pos,af,gd⟩ (yv ops n ρ)=true)(hr:AA P w n ρ ⟨some d,op,ty,pos,af,gd⟩ v w')
  (k:wpList P ops Q rest (fr n (upd ρ d v)) w'):wpList P ops Q (⟨some d,op,ty,pos,af,gd⟩::rest) (fr n ρ) w:=by
 unfold wpList;rw [dV,if_pos hw];refine .inl ?_;unfold Oper.wp;rw [ba,hr];simp only [Oper.upon_value,cU];exact k
theorem afw{op:Op}{gd:Option (Nat×Bool)}{w w':World}(hw:Region.wanted ⟨none,op,ty,pos,af,gd⟩ (yv ops n ρ)=true)(hr:PY P w n ρ ⟨none,op,ty,pos,af,gd⟩ w')
  (k:wpList P ops Q rest (fr n ρ) w'):wpList P ops Q (⟨none,op,ty,pos,af,gd⟩::rest) (fr n ρ) w:=by
 unfold wpList;rw [dV,if_pos hw];refine .inl ?_;unfold Oper.wp;rw [ba,hr];simp only [Oper.upon_skip,iQ];exact k
def DR(cs:List Value)(k:Nat):List Value->List Value
 | []=>cs
 | v::r=>DR (cs.set k v) (k+1) r
theorem Mh(vs:List Value): ∀(cs:List Value) (k:Nat),wr cs.toArray k vs=(DR cs k vs).toArray:=by
 induction vs with
 | nil=>intro cs k;rfl
 | cons v r ih=>intro cs k;rw [wr,DR, ←ih];simp
theorem PZ{f:FuncId}{args:List Value}{xs:Array Operand}{Ts:Array TypeId}{dst:Option Nat}{gd:Option (Nat×Bool)}{w:World}
  (hf: ∃fn c,P.funcs[f]? =some fn/\(fn.name== "runtime.NumGoroutine")=false/\fn.body=some c) (hx:xs.toList.map (ev n ρ)=args):
  (execOp (ev n ρ) ⟨dst, .call ⟨.value (.func f),xs,Ts⟩,ty,pos,af,gd⟩).run P w= .ok (.enter f args.toArray) w:=by
 obtain ⟨fn,c,h1,h2,h3⟩:=hf;replace hx:xs.map (ev n ρ)=args.toArray:=by rw [←hx, ←Array.toList_map]
 simp only [execOp,resolve,ev,Deferred.ofValue,Sem.run_bind,Sem.run_pure,Result.andThen_ok,invoke,callFunc,run_program,hx,h1,h2,h3];simp
end
section
variable{P:Program}{Q:Exit->Act->World->Prop}{n:Nat}{ρ:Nat->Value}{σ:St}{w:World}
theorem rg{id:Nat}{l:List Oper}(h:wpList P l.toArray Q l (fr n ρ) w):(Code.region id l.toArray false).wp P Q (fr n ρ) w:=wp_region_lit h
end
end Go.Vs
namespace Go.Vs
open Go
abbrev Sl{α:Type}(a:Option Addr)(xs:List α)(c:Nat):Value:= .slice a xs.length c
section
variable{α:Type}[Rp α]
theorem Rd.row{el:Nat}{σ:St}{v:Value}{xs:List α}(h:Rd el σ v xs): ∃L:List Value,L.length=xs.length*Rp.sz α/\
  (∀i,(hi:i<xs.length)-> ∃cs,Rp.rp el σ cs xs[i]/\ ∀j,(hj:j<cs.length)->L[i*Rp.sz α+j]? =some cs[j])/\
  (((∃ad c,v= .slice ad 0 c)/\xs=[])\/ ∃b o c,v= .slice (some ⟨b,o,none⟩) xs.length c/\ ∀j,(hj:j<L.length)->σ.w.cell? ⟨b,o+j,none⟩=some L[j]):=by
 rcases h with ⟨hv,rfl⟩ | ⟨b,o,c,rfl,h⟩
 ·exact ⟨[],by simp,λi hi=>by simp at hi, .inl ⟨hv,rfl⟩⟩
 ·have key: ∀k,k<xs.length*Rp.sz α-> ∃u,σ.w.cell? ⟨b,o+k,none⟩=some u:=by
   intro k hk;have hp:0<Rp.sz α:=Rp.pos;have hq:k / Rp.sz α<xs.length:=(Nat.div_lt_iff_lt_mul hp).2 hk;obtain ⟨cs,h1,h2⟩:=h _ hq;have hm:=Nat.mod_lt k hp;have:=h2 (k % Rp.sz α) (by rw [Rp.len h1];exact hm);have e:o+k / Rp.sz α*Rp.sz α+k % Rp.sz α=o+k:=by
    have:=Nat.div_add_mod k (Rp.sz α);rw [Nat.mul_comm] at this;omega
   rw [e] at this;exact ⟨_,this⟩
  refine ⟨(List.range (xs.length*Rp.sz α)).map λk=>(σ.w.cell? ⟨b,o+k,none⟩).getD undef,by simp,λi hi=> ?_, .inr ⟨b,o,c,rfl,λj hj=> ?_⟩⟩
  ·obtain ⟨cs,h1,h2⟩:=h i hi;refine ⟨cs,h1,λj hj=> ?_⟩;have hl:=Rp.len h1;have:(i+1)*Rp.sz α<=xs.length*Rp.sz α:=qal _ hi;rw [Nat.add_mul] at this;have e:=h2 j hj;rw [Nat.add_assoc] at e;simp only [List.getElem?_map];rw [List.getElem?_range (by omega)];simp only [qae];rw [show σ.w.cell? ⟨b,o+(i*Rp.sz α+j),none⟩=some cs[j] from e]
   rfl
  ·simp only [qbs,List.length_range] at hj;obtain ⟨u,hu⟩:=key j hj;simp [hu]
theorem Rd.plain{el:Nat}{σ:St}{xs:List α}{L:List Value}(h1:L.length=xs.length*Rp.sz α)
  (h2: ∀i,(hi:i<xs.length)-> ∃cs,Rp.rp el σ cs xs[i]/\ ∀j,(hj:j<cs.length)->L[i*Rp.sz α+j]? =some cs[j]): ∀u∈L,plain u=true:=by
 intro u hu;obtain ⟨k,hk,rfl⟩:=qam.1 hu;have hp:0<Rp.sz α:=Rp.pos;have hq:k / Rp.sz α<xs.length:=(Nat.div_lt_iff_lt_mul hp).2 (by omega);obtain ⟨cs,h3,h4⟩:=h2 _ hq;have hm:=Nat.mod_lt k hp;have:=h4 (k % Rp.sz α) (by rw [Rp.len h3];exact hm);have e:k / Rp.sz α*Rp.sz α+k % Rp.sz α=k:=by
  have:=Nat.div_add_mod k (Rp.sz α);rw [Nat.mul_comm] at this;omega
 rw [e,qb4 hk] at this;rw [qaa this];exact Rp.one h3 _ (qai _)
theorem iR{P:Program}{σ:St}{v:Value}{xs:List α}{L:List Value}(h1:L.length=xs.length*Rp.sz α)
  (h:((∃ad c,v= .slice ad 0 c)/\xs=[])\/ ∃b o c,v= .slice (some ⟨b,o,none⟩) xs.length c/\ ∀j,(hj:j<L.length)->σ.w.cell? ⟨b,o+j,none⟩=some L[j]) (w:World) (hw:w.heap=σ.w.heap):
  (Builtin.firstCells (Rp.sz α) xs.length v).run P w= .ok L.toArray w:=by
 rcases h with ⟨⟨ad,c,rfl⟩,rfl⟩ | ⟨b,o,c,rfl,h⟩
 ·have:L=[]:=qb5 (by simpa using h1);subst this;cases ad with
  | none=>rfl
  | some a=>simp only [List.length_nil,Builtin.firstCells,loadCells,Nat.zero_mul];rfl
 ·have:=run_loadCellsFrom (P:=P) w b o (xs.length*Rp.sz α) 0 L [] h1 (λj hj=>by
   have:=h j hj;simp only [qc0];rw [←this];simp only [World.cell?, hw])
  simpa [Builtin.firstCells,loadCells] using this
theorem BM(need:Nat): ∀(r c:Nat),c<=2*need+300->Builtin.growBy need r c<=2*need+300
 | 0,c,h=>by simpa [Builtin.growBy] using h
 | r+1,c,h=>by
  unfold Builtin.growBy;split
  ·exact h
  ·exact BM need r _ (by omega)
theorem nextslicecap_le{need c:Nat}(h:c<need):Builtin.nextslicecap need c<=2*need+300:=by
 unfold Builtin.nextslicecap;split
 ·omega
 ·split
  ·omega
  ·exact BM _ _ _ (by omega)
theorem At.put{el:Nat}{σ:St}{b o:Nat}{C C':Array Value}{T:TypeId}{x:α}(h:At el σ b o x)(hb:σ.w.heap[b]? =some (.cells C T (0,0)))(hv:σ.eW b=0)
  (hC: ∀j,j<Rp.sz α->C'[o+j]? =C[o+j]?):At el (σ.put b (.cells C' T (0,0))) b o x:=by
 obtain ⟨cs,h1,h2⟩:=h;refine ⟨cs,Rp.ext (St.DN hv) h1,λj hj=> ?_⟩;have e:=h2 j hj;have e1:(σ.put b (.cells C' T (0,0))).cell b (o+j)=C'[o+j]? :=by
  show (World.put σ.w b _).cell? _=_;simp only [World.cell?, World.qK _ (lt_of_block hb),qbo,qa7,if_false]
 have e2:σ.cell b (o+j)=C[o+j]? :=by
  show σ.w.cell? _=_;simp only [World.cell?, hb,qbo,qa7,if_false]
 rw [e1,hC j (by rw [←Rp.len h1];exact hj), ←e2,e]
theorem At.pG{el:Nat}{σ:St}{b o:Nat}{C:Array Value}{T:TypeId}{f:Nat×Nat}{x:α}{cs:List Value}(hb:σ.w.heap[b]? =some (.cells C T f))(hr:Rp.rp el σ cs x)
  (hC: ∀j,(hj:j<cs.length)->C[o+j]? =some cs[j]):At el σ b o x:=by
 refine ⟨cs,hr,λj hj=> ?_⟩;show σ.w.cell? _=_;simp only [World.cell?, hb,qbo,qa7,if_false];exact hC j hj
end
section
variable{P:Program}{ops:Array Oper}{Q:Exit->Act->World->Prop}{n d:Nat}{ρ:Nat->Value}{σ:St}{u v:Value}{rest:List Oper}
variable{ty T T' E E':TypeId}{pos:String}{af:Array Edge}{x y:Operand}{a:Int}{α:Type}[Rp α]{xs ys:List α}{z:Value}{s bt lo:Nat}
theorem JU{el:Nat}(hT:P.underlying T=some (.slice E))(nS:P.underlying T'=some (.slice E'))(hi:TI P E z s bt)(hs:s=Rp.sz α)(BN:z.cells.size=s)(Ug:bt<=1024)
  (hO:Ow σ lo el v xs) (hS:Rd el σ u ys) (hlen:xs.length+ys.length<=2147483648) (oJ:lo<=σ.size):
  ∃a' c' σ',(Builtin.append_ #[T,T'] ty #[v,u]).run P σ.w= .ok (Sl a' (xs++ys) c') σ'.w/\Mod (blk v) σ σ'/\Ow σ' lo el (Sl a' (xs++ys) c') (xs++ys)/\
   (blk (Sl a' (xs++ys) c')=blk v\/ ∀b,blk (Sl a' (xs++ys) c')=some b->σ.size<=b)/\ ∀ad0 m0 cp0,v= .slice ad0 m0 cp0->xs.length+ys.length<=cp0->c'=cp0:=by
 obtain ⟨i0,rQ,xK,Pq,hi4⟩:=hi.it;have YJ:=hi;obtain ⟨L,hL1,hL2,hL3⟩:=hS.row;obtain ⟨K,qL,P0,hK3⟩:=hO.rd.row;have Uh:=Rd.plain hL1 hL2;subst hs;have JV: ∀w,(Builtin.lenOf u).run P w= .ok ys.length w:=by
  intro w;obtain ⟨ad,c,rfl⟩:=hS.pD
  rfl
 obtain ⟨ad,cp,Ui⟩:=hO.pD;by_cases su:xs.length+ys.length<=cp
 ·
  rcases hO with ⟨rfl,rfl⟩ | ⟨b,o,c,C,T0,rfl,h2,h3,h4,h5,h6,h7⟩
  ·cases Ui;have hy:ys=[]:=qb5 (by simpa using su);subst hy;refine ⟨none,0,σ, ?_,Mod.refl _ _,Ow.nil, .inl rfl,by rintro _ _ _ ⟨⟩ _;rfl⟩;have hf:=iR (P:=P) hL1 hL3 σ.w rfl;simp only [List.length_nil] at hf;simp only [Builtin.append_,qaw,qbn,List.getElem?_cons_succ,underlying,hT,nS,Sem.run_bind,run_program,Result.andThen_ok,Sem.run_pure,run_typeInfo YJ,JV,
    if_true,qa7,if_false,Bool.not_false,List.length_nil,qcd,qa3,hf]
   rfl
  ·cases Ui;have NA:o+xs.length*Rp.sz α+L.length<=C.size:=by
    have:(xs.length+ys.length)*Rp.sz α<=cp*Rp.sz α:=qal _ su;rw [Nat.add_mul] at this;omega
   have en:=gI (P:=P) b (o+xs.length*Rp.sz α) T0 L 0 σ.w C h3 (by simpa using NA) Uh;simp only [qcd] at en;refine ⟨some ⟨b,o,none⟩,cp,σ.put b (.cells (wr C (o+xs.length*Rp.sz α) L) T0 (0,0)), ?_, ?_, ?_, .inl rfl,by rintro _ _ _ ⟨⟩ _;rfl⟩
   ·simp only [Builtin.append_,qaw,qbn,List.getElem?_cons_succ,underlying,hT,nS,Sem.run_bind,run_program,Result.andThen_ok,Sem.run_pure,run_typeInfo YJ,JV,
     su,if_true,qa7,if_false,Bool.not_false,iR hL1 hL3 σ.w rfl,add_plain,en,Sl,qau]
    rfl
   ·exact St.ub h6
   ·refine .inr ⟨b,o,cp,_,T0,rfl,h2,World.qK _ (lt_of_block h3),by rw [qau];exact su,by rw [Mg];exact h5,h6,λi hi=> ?_⟩;by_cases NB:i<xs.length
    ·rw [qb3 NB];have:(i+1)*Rp.sz α<=xs.length*Rp.sz α:=qal _ NB;rw [Nat.add_mul] at this;exact (h7 i NB).put h3 h6 (λj hj=>G6 _ _ _ _ (by omega))
    ·rw [qbe (by omega)];rw [qau] at hi;obtain ⟨cs,DT,TX⟩:=hL2 (i - xs.length) (by omega);refine At.pG (World.qK _ (lt_of_block h3)) (Rp.ext (St.DN h6) DT) (λj hj=> ?_);have hl:=Rp.len DT;have bJ:(i - xs.length)*Rp.sz α+j<L.length:=by
      have:(i - xs.length+1)*Rp.sz α<=ys.length*Rp.sz α:=qal _ (by omega);rw [Nat.add_mul] at this;omega
     have e:=PU L C (o+xs.length*Rp.sz α) ((i - xs.length)*Rp.sz α+j) NA bJ;have e2:=TX j hj;rw [qb4 bJ] at e2;have e3:o+i*Rp.sz α+j=o+xs.length*Rp.sz α+((i - xs.length)*Rp.sz α+j):=by
      have:i*Rp.sz α=xs.length*Rp.sz α+(i - xs.length)*Rp.sz α:=by rw [←Nat.add_mul];congr 1;omega
      omega
     rw [e3,e,e2]
 ·
  have hn:=nextslicecap_le (need:=xs.length+ys.length) (c:=cp) (by omega);have JW: ¬Builtin.nextslicecap (xs.length+ys.length) cp*bt>2^48:=by
   have h1:Builtin.nextslicecap (xs.length+ys.length) cp*bt<=(2*(xs.length+ys.length)+300)*1024:=Nat.mul_le_mul hn Ug;have h2:(2:Nat)^48=281474976710656:=by decide
   omega
  have abD: ¬(((xs.length+ys.length:Nat):Int)>IntKind.i64.max/\(false=true\/bt=0)):=by
   have:IntKind.i64.max=9223372036854775807:=by decide
   omega
  have abE: ¬(((xs.length+ys.length:Nat):Int)>IntKind.i64.max):=by
   have:IntKind.i64.max=9223372036854775807:=by decide
   omega
  let q:Question:= .appendCap (xs.length+ys.length) cp E
  let mZ:=q.cut (σ.w.tape σ.w.drawn q)
  have Xl:xs.length+ys.length<=mZ:=by
   show _<=Question.cut (.appendCap (xs.length+ys.length) cp E) _;simp only [Question.cut];omega
  let Z:=Builtin.zeroCells z.cells (mZ - (xs.length+ys.length))
  have hZ:Z.size=(mZ - (xs.length+ys.length))*z.cells.size:=by show (Builtin.zeroCells _ _).size=_;simp [Builtin.zeroCells]
  let R:List Value:=K++L++Z.toList
  let w1:World:={ σ.w with drawn:=σ.w.drawn+1 }
  have hR:(K.toArray++L.toArray++Z)=R.toArray:=by
   apply qcf;simp [R]
  have hf1:=iR (P:=P) (σ:=σ) (v:=v) qL hK3 w1 rfl;have hf2:=iR (P:=P) (σ:=σ) (v:=u) hL1 hL3 w1 rfl;have wK:(askRoom (mZ*bt)).run P w1= .ok () w1:=by
   unfold askRoom;split <;> rfl
  have DU:(choose (.appendCap (xs.length+ys.length) cp E)).run P σ.w= .ok mZ w1:=by
   simp [choose,Sem.run,Question.forced,mZ,q,w1]
  have Pr:(typeInfo E).run P=λw=> .ok i0 w:=by
   funext w;simp [typeInfo,rQ]
  have bP:(Builtin.append_ #[T,T'] ty #[v,u]).run P σ.w= .ok (Sl (some ⟨σ.size,0,none⟩) (xs++ys) mZ) (σ.new (.cells R.toArray E (0,0)) 1).w:=by
   subst Ui;simp only [Builtin.append_,qaw,qbn,List.getElem?_cons_succ,underlying,hT,nS,Sem.run_bind,run_program,Result.andThen_ok,Sem.run_pure,run_typeInfo YJ,JV,
    su,if_true,qa7,if_false,Bool.not_false,abE,false_and,Pr,hi4,JW,DU,wK,hf1,hf2,mX YJ,Sl,qau]
   rw [show (K.toArray++L.toArray++Builtin.zeroCells z.cells (mZ - (xs.length+ys.length)))=R.toArray from hR]
   rfl
  have xi:=σ.pE (.cells R.toArray E (0,0)) 1;refine ⟨_,mZ,_,bP,(σ.j4 _ 1).step (Mod.refl _ _) (.inl rfl) |> λh=>⟨h.os,h.tape,h.output,h.dr,h.dE,h.ext,⟨λb hb _=>h.Xk.block b hb (by simp),λb hb _=>h.Xk.eW b hb (by simp)⟩⟩,
   .inr ⟨σ.size,0,mZ,R.toArray,E,rfl,oJ,xi,by rw [qau];exact Xl, ?_,σ.pF _ 1,λi hi=> ?_⟩, .inr (by rintro b ⟨⟩;exact qa3 _),λad0 m0 cp0 e h=>absurd h (by rw [Ui] at e;cases e;exact su)⟩
  ·simp only [R,qbl,qau,qL,hL1,Array.length_toList,hZ,BN,qc0];rw [←Nat.add_mul, ←Nat.add_mul];exact qal _ (by omega)
  ·have hE:=(σ.j4 (.cells R.toArray E (0,0)) 1).ext;by_cases NB:i<xs.length
   ·rw [qb3 NB];obtain ⟨cs,DT,TX⟩:=P0 i NB;refine At.pG xi (Rp.ext hE DT) (λj hj=> ?_);have e2:=TX j hj;have bJ:=List.DL e2;simp only [R,qc0,qaw,List.append_assoc];rw [qbg bJ,e2]
   ·rw [qbe (by omega)];rw [qau] at hi;obtain ⟨cs,DT,TX⟩:=hL2 (i - xs.length) (by omega);refine At.pG xi (Rp.ext hE DT) (λj hj=> ?_);have e2:=TX j hj;have bJ:=List.DL e2;have e3:i*Rp.sz α+j=K.length+((i - xs.length)*Rp.sz α+j):=by
     have:i*Rp.sz α=xs.length*Rp.sz α+(i - xs.length)*Rp.sz α:=by rw [←Nat.add_mul];congr 1;omega
     omega
    simp only [R,qc0,qaw,List.append_assoc];rw [e3,qbu (by omega),Nat.add_sub_cancel_left,qbg bJ,e2]
end
end Go.Vs
namespace Go.Vs
open Go
section
variable{P:Program}{ops:Array Oper}{Q:Exit->Act->World->Prop}{n d:Nat}{ρ:Nat->Value}{σ:St}{u v:Value}{rest:List Oper}
variable{ty T T' E E':TypeId}{pos:String}{af:Array Edge}{x y:Operand}{a b:Int}{α:Type}[Rp α]{xs ys:List α}{z:Value}{s bt lo:Nat}{gd:Option (Nat×Bool)}{H:Array Obj}{dst:Option Nat}
def mA{α:Type}(xs ys:List α):Option (List α):=if xs.length+ys.length<=2147483648 then some (xs++ys) else none
theorem NC{α:Type}{xs ys r:List α}(h:mA xs ys=some r):xs.length+ys.length<=2147483648/\r=xs++ys:=by
 unfold mA at h;split at h
 ·exact ⟨by assumption,(qaa h).symm⟩
 ·cases h
inductive Flat(el:Nat)(σ:St):List Value->List α->Prop
 | nil:Flat el σ [] []
 | cons {c cs:List Value} {x:α} {xs:List α}:Rp.rp el σ c x->Flat el σ cs xs->Flat el σ (c++cs) (x::xs)
theorem Flat.length{el:Nat}{cs:List Value}{xs:List α}(h:Flat el σ cs xs):cs.length=xs.length*Rp.sz α:=by
 induction h with
 | nil=>simp
 | cons h1 h2 ih=>rw [qau,ih,Rp.len h1,qb6,Nat.add_mul];omega
theorem Flat.get{el:Nat}{cs:List Value}{xs:List α}(h:Flat el σ cs xs): ∀i,(hi:i<xs.length)-> ∃c,Rp.rp el σ c xs[i]/\ ∀j,(hj:j<c.length)->cs[i*Rp.sz α+j]? =some c[j]:=by
 induction h with
 | nil=>intro i hi;simp at hi
 | @cons c cs x xs h1 h2 ih=>
  intro i hi;cases i with
  | zero=>
   refine ⟨c,h1,λj hj=> ?_⟩;rw [Nat.zero_mul,qc0,qbg hj];simp [hj]
  | succ i=>
   obtain ⟨c',h3,h4⟩:=ih i (by simpa using hi);refine ⟨c',h3,λj hj=> ?_⟩;have:=Rp.len h1;rw [qbu (by rw [Nat.add_mul];omega),show (i+1)*Rp.sz α+j - c.length=i*Rp.sz α+j by rw [Nat.add_mul];omega];exact h4 j hj
theorem Flat.ext{el:Nat}{σ':St}{cs:List Value}{xs:List α}(h:Flat el σ cs xs)(hE:Ext σ σ'):Flat el σ' cs xs:=by
 induction h with
 | nil=>exact .nil
 | cons h1 h2 ih=>exact .cons (Rp.ext hE h1) ih
theorem Bx.ow{el:Nat}{bl:Nat}{cs:List Value}(h:Bx σ bl cs)(hf:Flat el σ cs xs)(oJ:lo<=bl):Ow σ lo el (Sl (some ⟨bl,0,none⟩) xs xs.length) xs:=by
 obtain ⟨T,h1,h2⟩:=h;refine .inr ⟨bl,0,xs.length,cs.toArray,T,rfl,oJ,h1,qa3 _, ?_,h2,λi hi=> ?_⟩
 ·simp [hf.length]
 ·obtain ⟨c,h3,h4⟩:=hf.get i hi;exact At.pG h1 h3 (λj hj=>by simpa using h4 j hj)
theorem yj{el:Nat}{len:Nat}{parts:Array (Nat×Operand)}{ps:List (Nat×Value)}{cs:List Value}(hT:P.underlying T=some (.slice E))(hi:TI P E z s bt)
  (JW:Nat.ble (len*s) 16777216=true) (hp:parts.toList.map (λp=>(p.1,ev n ρ p.2))=ps)
  (wL:Instr.fill (λi=>some (i*s,s)) ((Array.range (len*s)).map (λk=>(if len*s=0 then #[] else z.cells)[k % (if len*s=0 then #[] else z.cells).size]!)) ps=some cs.toArray)
  (hf:Flat el σ cs xs) (hl:xs.length=len) (oJ:lo<=σ.size):
  ∃(b:Nat) (σ':St),σ.size=b/\AA P σ.w n ρ ⟨dst, .buildSlice T len parts,ty,pos,af,gd⟩ (Sl (some ⟨b,0,none⟩) xs len) σ'.w/\Mod none σ σ'/\Ow σ' lo el (Sl (some ⟨b,0,none⟩) xs len) xs:=by
 have Uj:Bx (σ.new (.cells cs.toArray E (0,0)) 0) σ.size cs:=⟨E,St.pE _ _ _,St.pF _ _ _⟩;have hm:=σ.j4 (.cells cs.toArray E (0,0)) 0;refine ⟨σ.size,σ.new (.cells cs.toArray E (0,0)) 0,rfl, ?_,hm,by
  have:=Uj.ow (hf.ext hm.ext) oJ;rw [hl] at this;exact this⟩
 have hb: ¬len*s>2^24:=by
  have:=qa6 JW;have e:(2:Nat)^24=16777216:=by decide
  omega
 have key:(Instr.buildSlice T len ps.toArray).run P σ.w= .ok (.slice (some ⟨σ.size,0,none⟩) len len) (σ.new (.cells cs.toArray E (0,0)) 0).w:=by
  by_cases h0:len*s=0
  ·simp only [h0,if_true] at wL;have hb0: ¬(0>2^24):=by omega
   simp only [Instr.buildSlice,underlying,hT,Sem.run_bind,run_program,Result.andThen_ok,Sem.run_pure,run_typeInfo hi,hb0,if_false,h0,if_true,wL,newRow,newObj,Sem.run]
   rfl
  ·simp only [h0,if_false] at wL;simp only [Instr.buildSlice,underlying,hT,Sem.run_bind,run_program,Result.andThen_ok,Sem.run_pure,run_typeInfo hi,hb,if_false,h0,mX hi,wL,newRow,newObj,Sem.run]
   rfl
 have YK:(parts.map fun (i,x)=>(i,ev n ρ x))=ps.toArray:=by rw [←hp, ←Array.toList_map]
 simp only [AA,execOp,YK,Sem.run_bind,key,Result.andThen_ok,Sem.run_pure,Sl,hl]
def wM{α:Type}(k:Int)(z0:α):Option (List α):=if 0<=k/\k<=2147483648 then some (List.replicate k.toNat z0) else none
theorem BO{zc:Array Value}{m i j:Nat}(hi:i<m)(hj:j<zc.size):
  ((Array.range (m*zc.size)).map (λk=>zc[k % zc.size]!))[i*zc.size+j]? =zc[j]? :=by
 have h:(i+1)*zc.size<=m*zc.size:=qal _ hi;rw [Nat.add_mul] at h;rw [qc4,Array.getElem?_range,if_pos (by omega)];simp only [qae];have:(i*zc.size+j) % zc.size=j:=by rw [Nat.mul_comm,Nat.mul_add_mod,Nat.mod_eq_of_lt hj]
 rw [this,getElem!_pos zc j hj,Array.getElem?_eq_getElem hj]
theorem run_make{el:Nat}{z0:α}{zs:List Value}(hT:P.underlying T=some (.slice E))(hi:TI P E z s bt)(hs:s=Rp.sz α)(YL:z.cells=zs.toArray)(hz:Rp.rp el σ zs z0)(Ug:bt<=1024)
  (hr:wM a z0=some xs) (hx:ev n ρ x=I a) (hy:ev n ρ y=I a) (oJ:lo<=σ.size)
  : ∃(b:Nat) (σ':St) (c':Nat),c'=a.toNat/\AA P σ.w n ρ ⟨dst, .makeSlice T x y,ty,pos,af,gd⟩ (Sl (some ⟨b,0,none⟩) xs c') σ'.w/\Mod none σ σ'/\Ow σ' lo el (Sl (some ⟨b,0,none⟩) xs c') xs:=by
 unfold wM at hr;split at hr
 case isFalse=>cases hr
 rename_i h01;obtain ⟨h0,h1⟩:=h01;cases hr;obtain ⟨i0,rQ,xK,Pq,P1⟩:=hi.it;have Pr: ∀w,(typeInfo E).run P w= .ok i0 w:=by
  intro w;simp only [typeInfo,Sem.run_bind,run_program,Result.andThen_ok,rQ];rfl
 have kD:zs.length=Rp.sz α:=Rp.len hz;have AB:0<Rp.sz α:=Rp.pos
 let C:Array Value:=(Array.range (a.toNat*s)).map (λk=>(if a.toNat*s=0 then #[] else z.cells)[k % (if a.toNat*s=0 then #[] else z.cells).size]!)
 have wK:(askRoom (a.toNat*bt)).run P σ.w= .ok () σ.w:=by unfold askRoom;split <;> rfl
 have Xm:IntKind.i64.wrap a=a:=bj (by omega) (by omega);have htl:decide ((bt:Int)*a>2^48)=false:=by
  have h2:(2:Int)^48=281474976710656:=by decide
  have:(bt:Int)*a<=1024*2147483648:=Int.mul_le_mul (by omega) h1 h0 (by omega);simp only [decide_eq_false_iff_not];omega
 have bP:(Instr.makeSlice T (I a) (I a)).run P σ.w= .ok (.slice (some ⟨σ.size,0,none⟩) a.toNat a.toNat) (σ.new (.cells C E (0,0)) 0).w:=by
  have bJ:(decide (a<0))=false:=by simp;omega
  have hgt:(decide (a>a))=false:=by simp
  by_cases h00:a.toNat*s=0
  ·simp only [Instr.makeSlice,underlying,hT,Sem.run_bind,run_program,Result.andThen_ok,Sem.run_pure,asInt,asIntOf,Pr,P1,Xm,htl,bJ,hgt,Bool.or_self,qa7,if_false,wK,run_typeInfo hi,h00,if_true,newRow,newObj,Sem.run,C]
   rfl
  ·simp only [Instr.makeSlice,underlying,hT,Sem.run_bind,run_program,Result.andThen_ok,Sem.run_pure,asInt,asIntOf,Pr,P1,Xm,htl,bJ,hgt,Bool.or_self,qa7,if_false,wK,run_typeInfo hi,h00,mX hi,newRow,newObj,Sem.run,C]
   rfl
 have xi:=σ.pE (.cells C E (0,0)) 0;have hm:=σ.j4 (.cells C E (0,0)) 0;have hlen:(List.replicate a.toNat z0).length=a.toNat:=List.length_replicate;refine ⟨σ.size,σ.new (.cells C E (0,0)) 0,a.toNat,rfl, ?_,hm, .inr ⟨σ.size,0,a.toNat,C,E,rfl,oJ,xi,by rw [hlen];exact qa3 _, ?_,St.pF _ _ _,λi fa=> ?_⟩⟩
 ·simp only [AA,execOp,hx,hy,Sem.run_bind,bP,Result.andThen_ok,Sem.run_pure,Sl,hlen]
 ·simp [C,hs]
 ·rw [hlen] at fa;rw [List.getElem_replicate];refine At.pG xi (Rp.ext hm.ext hz) (λj hj=> ?_);have iH: ¬a.toNat*s=0:=by
   have:0<a.toNat*s:=Nat.mul_pos (by omega) (by omega);omega
  have YM:z.cells.size=s:=by rw [YL,hs];simpa using kD
  have hg:=BO (zc:=z.cells) (m:=a.toNat) (i:=i) (j:=j) fa (by rw [YM,hs, ←kD];exact hj);simp only [C,iH,if_false,qc0];rw [YM] at hg;rw [hs] at hg ⊢;simp only [YM,hs] at hg ⊢;rw [hg,YL];simp [hj]
end
end Go.Vs
namespace Go.Vs
open Go
def fN{α:Type}(xs:List α)(l h:Int):Option (List α):=if 0<=l/\l<=h/\h<=(xs.length:Int) then some ((xs.take h.toNat).drop l.toNat) else none
structure Xn(a:Option Addr)(m c s:Nat)(l h:Int)(a':Option Addr)(m' c':Nat):Prop where
 h0:0<=l
 h1:l<=h
 h2:h<=(m:Int)
 h3:m<=c
 ea:a'=if c=l.toNat then a else a.map (·.add (l.toNat*s))
 em:m'=h.toNat - l.toNat
 ec:c'=c - l.toNat
section
variable{P:Program}{ops:Array Oper}{Q:Exit->Act->World->Prop}{n d:Nat}{ρ:Nat->Value}{σ:St}{u v:Value}{rest:List Oper}
variable{ty T T' E E':TypeId}{pos:String}{af:Array Edge}{x y p q:Operand}{a b l h:Int}{α:Type}[Rp α]{xs ys r:List α}{z:Value}{s bt lo:Nat}{gd:Option (Nat×Bool)}{H:Array Obj}{dst:Option Nat}{ad lZ:Option Addr}{m c m' c':Nat}
omit [Rp α] in
theorem km(hg:fN xs l h=some r):0<=l/\l<=h/\h<=(xs.length:Int)/\r=(xs.take h.toNat).drop l.toNat/\r.length=h.toNat - l.toNat:=by
 unfold fN at hg;split at hg
 ·rename_i hc;cases hg;refine ⟨hc.1,hc.2.1,hc.2.2,rfl, ?_⟩;rw [List.length_drop,qar];omega
 ·cases hg
omit [Rp α] in
theorem P2(hg:fN xs l h=some r)(i:Nat)(hi:i<r.length): ∃hj:l.toNat+i<xs.length,r[i]=xs[l.toNat+i]:=by
 obtain ⟨h0,h1,h2,rfl,h4⟩:=km hg;refine ⟨by omega, ?_⟩;rw [List.getElem_drop,qca]
theorem Rd.P3{el:Nat}(hR:Rd el σ (Sl ad xs c) xs)(su:xs.length<=c)(hg:fN xs l h=some r):
  ∃lZ c',Xn ad xs.length c (Rp.sz α) l h lZ r.length c'/\((lZ=ad/\c'=c/\xs=[]/\r=[])\/ ∃bl o cp o',ad=some ⟨bl,o,none⟩/\Sl lZ r c'= .slice (some ⟨bl,o',none⟩) r.length cp/\cp=c - l.toNat/\
   (o'=o+l.toNat*Rp.sz α\/(o'=o/\r=[]/\cp=0))/\ ∀i,(hi:i<r.length)->At el σ bl (o'+i*Rp.sz α) r[i]):=by
 obtain ⟨h0,h1,h2,h3,h4⟩:=km hg;refine ⟨if c=l.toNat then ad else ad.map (·.add (l.toNat*Rp.sz α)),c - l.toNat,⟨h0,h1,h2,su,rfl,h4,rfl⟩, ?_⟩;rcases hR with ⟨hv,rfl⟩ | ⟨bl,o,cp,hv,hA⟩
 ·simp only [List.length_nil] at h2;have:l=0:=by omega
  subst this;have hr:r=[]:=qb5 (by omega);subst hr;refine .inl ⟨?_,by simp,rfl,rfl⟩;split
  ·rfl
  ·cases ad with
   | none=>rfl
   | some a=>simp [Addr.add]
 ·cases hv;right;by_cases hc:c=l.toNat
  ·have hr:r=[]:=qb5 (by omega);subst hr;exact ⟨bl,o,c - l.toNat,o,rfl,by simp [hc],rfl, .inr ⟨rfl,rfl,by omega⟩,λi hi=>by simp at hi⟩
  ·refine ⟨bl,o,c - l.toNat,o+l.toNat*Rp.sz α,rfl,by simp [hc,add_plain],rfl, .inl rfl,λi hi=> ?_⟩;obtain ⟨hj,e⟩:=P2 hg i hi;rw [e,Nat.add_assoc, ←Nat.add_mul];exact hA _ hj
theorem RS.cap{el:Nat}(hR:RS el σ (Sl ad xs c) xs):xs.length<=c:=by
 rcases hR with ⟨hv,rfl⟩ | ⟨b2,o2,c2,hv,_,h4,_⟩
 ·simp
 ·cases hv;exact h4
theorem RS.slice{el:Nat}(hR:RS el σ (Sl ad xs c) xs)(hg:fN xs l h=some r): ∃lZ c',Xn ad xs.length c (Rp.sz α) l h lZ r.length c'/\RS el σ (Sl lZ r c') r:=by
 obtain ⟨h0,h1,h2,h3,h4⟩:=km hg;have su:=hR.cap;obtain ⟨lZ,c',hs,hx⟩:=hR.rd.P3 su hg;refine ⟨lZ,c',hs, ?_⟩;by_cases hr:r=[]
 ·subst hr;exact .inl ⟨⟨_,_,rfl⟩,rfl⟩
 rcases hx with ⟨_,_,_,hx⟩ | ⟨bl,o,cp,o',rfl,e1,e2,e3,e4⟩
 ·exact absurd hx hr
 ·rcases hR with ⟨_,rfl⟩ | ⟨b2,o2,c2,hv,YN,_,YO,_⟩
  ·exact absurd (qb5 (by simp at h2;omega)) hr
  ·cases hv;refine .inr ⟨bl,o',cp,e1,YN,by omega, ?_,e4⟩;rcases e3 with rfl | ⟨rfl,rfl,_⟩
   ·have:(l.toNat+r.length)*Rp.sz α<=xs.length*Rp.sz α:=qal _ (by omega);rw [Nat.add_mul] at this;omega
   ·exact absurd rfl hr
theorem Ow.cap{el:Nat}(hO:Ow σ lo el (Sl ad xs c) xs):xs.length<=c:=by
 rcases hO with ⟨hv,rfl⟩ | ⟨b2,o2,c2,C,T,hv,_,_,h4,_⟩
 ·simp
 ·cases hv;exact h4
theorem Ow.slice{el:Nat}(hO:Ow σ lo el (Sl ad xs c) xs)(hg:fN xs l h=some r): ∃lZ c',Xn ad xs.length c (Rp.sz α) l h lZ r.length c'/\Ow σ lo el (Sl lZ r c') r/\(∀b,blk (Sl lZ r c')=some b->blk (Sl ad xs c)=some b):=by
 obtain ⟨h0,h1,h2,h3,h4⟩:=km hg;have su:=hO.cap;obtain ⟨lZ,c',hs,hx⟩:=hO.rd.P3 su hg;refine ⟨lZ,c',hs, ?_, ?_⟩
 ·rcases hx with ⟨rfl,rfl,rfl,rfl⟩ | ⟨bl,o,cp,o',rfl,e1,e2,e3,e4⟩
  ·exact hO
  ·rcases hO with ⟨hv,_⟩ | ⟨b2,o2,c2,C,T0,hv,g2,g3,g4,g5,g6,_⟩
   ·cases hv
   ·cases hv;refine .inr ⟨bl,o',cp,C,T0,e1,g2,g3,by omega, ?_,g6,e4⟩;rcases e3 with rfl | ⟨rfl,rfl,h9⟩
    ·have:(l.toNat+cp)*Rp.sz α<=c*Rp.sz α:=qal _ (by omega);rw [Nat.add_mul] at this;omega
    ·subst h9;simp only [Nat.zero_mul];omega
 ·intro b hb;rcases hx with ⟨rfl,rfl,rfl,rfl⟩ | ⟨bl,o,cp,o',rfl,e1,e2,e3,e4⟩
  ·exact hb
  ·rw [e1] at hb;cases hb;rfl
theorem BP{mY fa:Option Value}(hT:P.underlying T=some (.slice E))(hi:TI P E z s bt)(hs:Xn ad m c s l h lZ m' c')
  (hl:mY=some (I l)\/(mY=none/\l=0)) (hh:fa=some (I h)\/(fa=none/\h=m)) (w:World):
  (Instr.sliceAt T (.slice ad m c) mY fa none).run P w= .ok (.slice lZ m' c') w:=by
 obtain ⟨h0,h1,h2,h3,rfl,rfl,rfl⟩:=hs;have hh':h<=(c:Int):=by omega
 have GR:0<=h:=by omega
 have e1:(h.toNat:Int)=h:=Int.toNat_of_nonneg GR;rcases hl with rfl | ⟨rfl,rfl⟩ <;> rcases hh with rfl | ⟨rfl,rfl⟩ <;>
  simp [Instr.sliceAt,Instr.slice,underlying,hT,Instr.sliceBounds,Instr.sliceBound,asIntOf,h0,GR,hh',h1,e1,run_typeInfo hi]
theorem JX(hT:P.underlying T=some (.slice E))(hi:TI P E z s bt)(hs:Xn ad m c s l m lZ m' c')(hx:ev n ρ x= .slice ad m c)(hp:ev n ρ p=I l):
  dR P H n ρ ⟨dst, .slice T x (some p) none none,ty,pos,af,gd⟩ (.slice lZ m' c'):=λw _=>by
 simp [execOp,hx,hp,BP hT hi hs (.inl rfl) (.inr ⟨rfl,rfl⟩)]
theorem j6(hT:P.underlying T=some (.slice E))(hi:TI P E z s bt)(hs:Xn ad m c s 0 h lZ m' c')(hx:ev n ρ x= .slice ad m c)(hq:ev n ρ q=I h):
  dR P H n ρ ⟨dst, .slice T x none (some q) none,ty,pos,af,gd⟩ (.slice lZ m' c'):=λw _=>by
 simp [execOp,hx,hq,BP hT hi hs (.inr ⟨rfl,rfl⟩) (.inl rfl)]
theorem AD{el:Nat}{e e':α}{bl o o' k:Nat}{vs:List Value}(hi:TI P T z s bt)(hO:Ow σ lo el v xs)(hg:bF xs a=some e)(NB:Ix v a (Rp.sz α) bl o)(hx:ev n ρ x=pt bl o')(ho:o'=o+k)(hy:ev n ρ y=u)
  (hu:u.cells=vs.toArray) (hs:vs.length=s) (hk:k+vs.length<=Rp.sz α) (hp: ∀t∈vs,plain t=true) (hrp: ∀cs,Rp.rp el σ cs e->Rp.rp el σ (DR cs k vs) e')
  : ∃σ':St,PY P σ.w n ρ ⟨dst, .store T x y,ty,pos,af,gd⟩ σ'.w/\Mod (blk v) σ σ'/\Ow σ' lo el v (xs.set a.toNat e'):=by
 subst ho;obtain ⟨ob,m,c,rfl,h0,h1,rfl⟩:=NB.it;obtain ⟨_,bJ,he⟩:=jr hg;rcases hO with ⟨hv,_⟩ | ⟨b2,o2,c2,C,T0,hv,g2,g3,g4,g5,g6,g7⟩
 ·cases hv
 cases hv;have hb:=lt_of_block g3;have JY:(a.toNat+1)*Rp.sz α<=c*Rp.sz α:=qal _ (by omega);rw [Nat.add_mul] at JY;have en:=gI (P:=P) bl (ob+a.toNat*Rp.sz α+k) T0 vs 0 σ.w C g3 (by omega) hp;simp only [qcd] at en;have hm:=St.ub (σ:=σ) (o:= .cells (wr C (ob+a.toNat*Rp.sz α+k) vs) T0 (0,0)) g6;refine ⟨σ.put bl (.cells (wr C (ob+a.toNat*Rp.sz α+k) vs) T0 (0,0)), ?_,hm, .inr ⟨bl,ob,c,_,T0,by rw [qb0],g2,World.qK _ hb,by rw [qb0];exact g4,by rw [Mg];exact g5,g6,λi fa=> ?_⟩⟩
 ·simp [PY,execOp,hx,hy,Instr.storeAt,Instr.sureAddr,storeVar,run_typeInfo hi,hu,hs,en,St.put]
 ·rw [qb0] at fa;by_cases hia:i=a.toNat
  ·subst hia;simp only [List.getElem_set_self];obtain ⟨cs,h3,h4⟩:=he▸g7 _ fa;have hl:=Rp.len h3;have om:=Rp.len (hrp cs h3);refine ⟨DR cs k vs,Rp.ext hm.ext (hrp cs h3),λj hj=> ?_⟩;have e0:(σ.put bl (.cells (wr C (ob+a.toNat*Rp.sz α+k) vs) T0 (0,0))).cell bl (ob+a.toNat*Rp.sz α+j)=(wr C (ob+a.toNat*Rp.sz α+k) vs)[ob+a.toNat*Rp.sz α+j]? :=by
    show (World.put σ.w bl _).cell? _=_;simp only [World.cell?, World.qK _ hb,qbo,qa7,if_false]
   have e1:(wr cs.toArray k vs)[j]? =some (DR cs k vs)[j]:=by rw [Mh];simp
   rw [e0, ←e1];by_cases hj1:j<k
   ·rw [G6 _ _ _ _ (by omega),G6 _ _ _ _ hj1];have:=h4 j (by omega);have e3:σ.cell bl (ob+a.toNat*Rp.sz α+j)=C[ob+a.toNat*Rp.sz α+j]? :=by
     show σ.w.cell? _=_;simp only [World.cell?, g3,qbo,qa7,if_false]
    rw [←e3,this];simp
   ·by_cases YP:j<k+vs.length
    ·have e4:=PU vs C (ob+a.toNat*Rp.sz α+k) (j - k) (by omega) (by omega);have e5:=PU vs cs.toArray k (j - k) (by simp;omega) (by omega);rw [show ob+a.toNat*Rp.sz α+j=ob+a.toNat*Rp.sz α+k+(j - k) by omega,e4, ←e5];congr 1;omega
    ·rw [PT _ _ _ _ (by omega),PT _ _ _ _ (by omega)];have:=h4 j (by omega);have e3:σ.cell bl (ob+a.toNat*Rp.sz α+j)=C[ob+a.toNat*Rp.sz α+j]? :=by
      show σ.w.cell? _=_;simp only [World.cell?, g3,qbo,qa7,if_false]
     rw [←e3,this];simp
  ·rw [List.getElem_set_ne (by omega)];have iH: ∀j,j<Rp.sz α->(wr C (ob+a.toNat*Rp.sz α+k) vs)[ob+i*Rp.sz α+j]? =C[ob+i*Rp.sz α+j]? :=by
    intro j hj;by_cases YQ:i<a.toNat
    ·have:(i+1)*Rp.sz α<=a.toNat*Rp.sz α:=qal _ YQ;rw [Nat.add_mul] at this;exact G6 _ _ _ _ (by omega)
    ·have:(a.toNat+1)*Rp.sz α<=i*Rp.sz α:=qal _ (by omega);rw [Nat.add_mul] at this;exact PT _ _ _ _ (by omega)
   exact (g7 i fa).put g3 g6 iH
theorem BQ{k:Nat}{a0:Addr}(hT:P.underlying T=some (.array k E))(hx:ev n ρ x= .slice (some a0) m c)(hm:k<=m):
  dR P H n ρ ⟨dst, .sliceToArrayPointer T x,ty,pos,af,gd⟩ (.pointer (some a0)):=λw _=>by
 have: ¬m<k:=by omega
 simp [execOp,hx,Instr.arrayAt,underlying,hT,this]
theorem RS.arr{el:Nat}{zs:List Int}(hR:RS el σ (Sl ad zs c) zs)(hp:0<zs.length): ∃bl o,ad=some ⟨bl,o,none⟩/\ ∀j,(hj:j<zs.length)->iK σ.w.heap bl (o+j)=some (I zs[j]):=by
 rcases hR with ⟨_,rfl⟩ | ⟨bl,o,c2,hv,_,_,_,hA⟩
 ·simp at hp
 ·cases hv;refine ⟨bl,o,rfl,λj hj=> ?_⟩;have:=(hA j hj).int;simpa [Rp.sz] using this
end
end Go.Vs
namespace Go.Vs
open Go
theorem bind_some{α β:Type}{o:Option α}{f:α->Option β}{r:β}(h:o.bind f=some r): ∃x,o=some x/\f x=some r:=qan.1 h
theorem aI{α:Type}{b:Bool}{x y z:α}(hb:b=true)(h:(bif b then x else y)=z):x=z:=by subst hb;exact h
theorem aJ{α:Type}{b:Bool}{x y z:α}(hb:b=false)(h:(bif b then x else y)=z):y=z:=by subst hb;exact h
def bz{α β γ:Type}(f:α->γ)(g:β->γ):α⊕β->γ
 | .inl a=>f a
 | .inr b=>g b
theorem js{α β γ:Type}{f:α->γ}{g:β->γ}{a:α}{z:γ}(h:bz f g (.inl a)=z):f a=z:=h
theorem ju{α β γ:Type}{f:α->γ}{g:β->γ}{a:β}{z:γ}(h:bz f g (.inr a)=z):g a=z:=h
def ND(a b:Int):Option Int:=if b=0 then none else some (av (a.tdiv b))
def DV(a b:Int):Option Int:=if b=0 then none else some (a.tmod b)
theorem NF{a b r:Int}(h:ND a b=some r):b≠0/\r=av (a.tdiv b):=by
 unfold ND at h;split at h
 ·cases h
 ·exact ⟨by assumption,(qaa h).symm⟩
theorem NG{a b r:Int}(h:DV a b=some r):b≠0/\r=a.tmod b:=by
 unfold DV at h;split at h
 ·cases h
 ·exact ⟨by assumption,(qaa h).symm⟩
section
variable{P:Program}{H:Array Obj}{n:Nat}{ρ:Nat->Value}{d:Option Nat}{ty T T':TypeId}{pos:String}{af:Array Edge}{gd:Option (Nat×Bool)}{x y:Operand}{a b r:Int}
theorem Uk(h:ND a b=some r)(hx:ev n ρ x=I a)(hy:ev n ρ y=I b):dR P H n ρ ⟨d, .binOp .quo T x y T',ty,pos,af,gd⟩ (I r):=by
 obtain ⟨h0,rfl⟩:=NF h;exact yi hx hy h0
theorem xL(h:DV a b=some r)(hx:ev n ρ x=I a)(hy:ev n ρ y=I b):dR P H n ρ ⟨d, .binOp .rem T x y T',ty,pos,af,gd⟩ (I r):=by
 obtain ⟨h0,rfl⟩:=NG h;exact JQ hx hy h0
end
def NH{α:Type}(k:Nat)(xs:List α):Option (List α):=if k<=xs.length then some (xs.take k) else none
theorem BR{α:Type}{k:Nat}{xs r:List α}(h:NH k xs=some r):k<=xs.length/\r=xs.take k:=by
 unfold NH at h;split at h
 ·exact ⟨by assumption,(qaa h).symm⟩
 ·cases h
theorem G9{H:Array Obj}{b o:Nat}{xs:List Int}{k:Nat}(h: ∀j,(hj:j<xs.length)->iK H b (o+j)=some (I xs[j])): ∀j,(hj:j<(List.map I (xs.take k)).length)->iK H b (o+j)=some (List.map I (xs.take k))[j]:=by
 intro j hj;rw [qbs,qar] at hj;rw [h j (by omega)];simp
theorem P4{xs ys:List Int}{k:Nat}(h1:xs.length=k)(h2:ys.length=k):0+(List.map I xs).length<=(List.map I ys).length:=by simp;omega
def oM{S R:Type}(f:S->Option (S⊕R)):Nat->S->Option R
 | 0,_=>none
 | n+1,s=>(f s).bind (bz (λs'=>oM f n s') (λr=>some r))
theorem tg{S R:Type}(f:S->Option (S⊕R)): ∀(n m:Nat) (s:S) (r:R),n<=m->oM f n s=some r->oM f m s=some r
 | 0,_,_,_,_,h=>by cases h
 | n+1,0,_,_,hm,_=>by omega
 | n+1,m+1,s,r,hm,h=>by
  obtain ⟨o,ho,h⟩:=bind_some h;rw [oM,ho];cases o with
  | inl s'=>exact tg f n m s' r (by omega) h
  | inr t=>exact h
open Classical in
noncomputable def cA{S R:Type}(f:S->Option (S⊕R))(s:S):Option R:=if h: ∃r n,oM f n s=some r then some h.choose else none
theorem yl{S R:Type}{f:S->Option (S⊕R)}{n:Nat}{s:S}{r:R}(h:oM f n s=some r):cA f s=some r:=by
 have hx: ∃r n,oM f n s=some r:=⟨r,n,h⟩;unfold cA;rw [dif_pos hx];obtain ⟨m,hm⟩:=hx.choose_spec;have h1:=tg f n (max n m) s r (by omega) h;have h2:=tg f m (max n m) s _ (by omega) hm;rw [h1] at h2;exact h2.symm
theorem na{S R:Type}{f:S->Option (S⊕R)}{s:S}{r:R}(h:cA f s=some r): ∃n,oM f n s=some r:=by
 unfold cA at h;split at h
 ·rename_i hx;obtain ⟨n,hn⟩:=hx.choose_spec;exact ⟨n,(qaa h)▸hn⟩
 ·cases h
theorem bA{S R:Type}(f:S->Option (S⊕R))(s:S):cA f s=(f s).bind (bz (λs'=>cA f s') (λr=>some r)):=by
 cases hf:f s with
 | none=>
  cases h:cA f s with
  | none=>rfl
  | some r=>
   obtain ⟨n,hn⟩:=na h;cases n with
   | zero=>cases hn
   | succ n=>rw [oM,hf] at hn;cases hn
 | some o=>
  cases o with
  | inr r=>exact yl (n:=1) (by rw [oM,hf];rfl)
  | inl s'=>
   show _=cA f s';cases h:cA f s' with
   | some r=>
    obtain ⟨n,hn⟩:=na h;exact yl (n:=n+1) (by rw [oM,hf];exact hn)
   | none=>
    cases h':cA f s with
    | none=>rfl
    | some r=>
     obtain ⟨n,hn⟩:=na h';cases n with
     | zero=>cases hn
     | succ n=>
      rw [oM,hf] at hn;have:=yl (f:=f) (n:=n) (s:=s') (r:=r) hn;rw [h] at this;cases this
theorem NI{S R:Type}{f:S->Option (S⊕R)}(J:S->Prop)(μ:S->Nat)(Z:R->Prop)(step: ∀s,J s->(∃s',f s=some (.inl s')/\J s'/\μ s'<μ s)\/ ∃r,f s=some (.inr r)/\Z r):
  ∀(s:S),J s-> ∃r,cA f s=some r/\Z r:=by
 have key: ∀k s,μ s=k->J s-> ∃r,cA f s=some r/\Z r:=by
  intro k
  induction k using Nat.strongRecOn with
  | _ k ih=>
   intro s hk hJ;rcases step s hJ with ⟨s',h1,h2,h3⟩ | ⟨r,h1,h2⟩
   ·obtain ⟨r,h4,h5⟩:=ih _ (hk▸h3) s' rfl h2;exact ⟨r,by rw [bA,h1];exact h4,h5⟩
   ·exact ⟨r,by rw [bA,h1];rfl,h2⟩
 exact λs hJ=>key _ s rfl hJ
section
variable{P:Program}{Q:Exit->Act->World->Prop}{a:Act}{w:World}
theorem cq{S R:Type}{c:Code}(f:S->Option (S⊕R)){s0:S}{r:R}(hr:cA f s0=some r)(J:S->Act->World->Prop)(h0:J s0 a w)
  (round: ∀s a w o,J s a w->f s=some o->(∀t,o= .inr t->t=r)->c.wp P (Exit.then (λa' w'=> ∃s',o= .inl s'/\J s' a' w') Q) a w):(Code.loop c).wp P Q a w:=by
 obtain ⟨n,hn⟩:=na hr;refine wp_loop_ghost (λk a w=> ∃s,oM f k s=some r/\J s a w) n ⟨s0,hn,h0⟩ ?_;rintro k a w ⟨s,hk,hJ⟩;cases k with
 | zero=>cases hk
 | succ k=>
  obtain ⟨o,ho,hk⟩:=bind_some hk;refine wp_mono (round s a w o hJ ho (by rintro t rfl;exact qaa hk)) ?_;intro e a' w' hq;cases e with
  | normal=>
   obtain ⟨s',rfl,NJ⟩:=hq;exact ⟨k,Nat.lt_succ_self k,s',hk,NJ⟩
  | exit id=>exact hq
  | goto l=>exact hq
  | ret=>exact hq
  | panic ch=>exact hq
  | outgrown=>exact hq
theorem ab{K:Act->World->Prop}(h:K a w):Exit.then K Q .normal a w:=h
theorem aO{K:Act->World->Prop}{i:Nat}(h:Q (.exit i) a w):Exit.then K Q (.exit i) a w:=h
theorem aS{K:Act->World->Prop}(h:Q .ret a w):Exit.then K Q .ret a w:=h
theorem bY{id:Nat}(h:Q .normal a w):Exit.inBlock id Q .normal a w:=h
theorem bK{id:Nat}(h:Q .normal a w):Exit.inBlock id Q (.exit id) a w:=by simp only [Exit.inBlock,if_true];exact h
theorem DW{id i:Nat}(hi:i≠id)(h:Q (.exit i) a w):Exit.inBlock id Q (.exit i) a w:=by simp only [Exit.inBlock,hi,if_false];exact h
theorem dz{id:Nat}(h:Q .ret a w):Exit.inBlock id Q .ret a w:=h
theorem bZ{id:Nat}{c:Code}(h:c.wp P (Exit.inBlock id Q) a w):(Code.block id c).wp P Q a w:=wp_block h
theorem ag{x y:Code}(h:x.wp P (Exit.then (y.wp P Q) Q) a w):(Code.seq x y).wp P Q a w:=wp_seq h
theorem bb(h:Q .normal a w):Code.skip.wp P Q a w:=wp_skip h
theorem aL(h:Q .ret a w):Code.ret.wp P Q a w:=wp_ret h
theorem dF{i:Nat}(h:Q (.exit i) a w):(Code.exit i).wp P Q a w:=wp_exit h
theorem ck{c:Code}(J:Exit->Act->World->Prop)(h:c.wp P J a w)(k: ∀e a w,J e a w->Q e a w):c.wp P Q a w:=wp_mono h k
theorem ah{ops:Array Oper}(h:Q .normal a w):wpList P ops Q [] a w:=h
end
end Go.Vs
namespace Go.Vs
open Go
def cv(ρ:Nat->Value):List (Nat×Value)->Nat->Value
 | [],t=>ρ t
 | (d,v)::r,t=>bif Nat.beq t d then v else cv ρ r t
def agree(ρ:Nat->Value):List (Nat×Value)->Prop
 | []=>True
 | (d,v)::r=>ρ d=v/\agree ρ r
theorem BT{ρ:Nat->Value}: ∀{l:List (Nat×Value)},agree ρ l->cv ρ l=ρ
 | [],_=>rfl
 | (d,v)::r,⟨h1,h2⟩=>by
  funext t;rw [cv,BT h2];by_cases h:t=d
  ·subst h;rw [Me];exact h1.symm
  ·rw [qj h];rfl
theorem ak{n:Nat}{ρ:Nat->Value}{l:List (Nat×Value)}(h:agree ρ l):fr n ρ=fr n (cv ρ l):=by rw [BT h]
theorem Ow.afx{el:Nat}{α:Type}[Rp α]{σ:St}{lo:Nat}{v:Value}{xs:List α}(h:Ow σ lo el v xs)(YN:el<=lo): ∃σ':St,σ'.w=σ.w/\Mod (blk v) σ σ'/\RS el σ' v xs:=by
 have hl:=h.lt;rcases h with ⟨rfl,rfl⟩ | ⟨b,o,c,C,T,rfl,h2,h3,h4,h5,h6,h7⟩
 ·exact ⟨σ,rfl,Mod.refl _ _,RS.nil⟩
 ·have hb:=hl b rfl;refine ⟨σ.nJ b (o+xs.length*Rp.sz α) hb,rfl,⟨rfl,rfl,rfl,qa3 _,rfl,St.DO hb,⟨λ_ _ _=>rfl,λi _ iH=> ?_⟩⟩, .inr ⟨b,o,c,rfl,qac YN h2,h4, ?_,λi hi=>(h7 i hi).same (St.DO hb) rfl⟩⟩
  ·show (if i=b then _ else _)=_;rw [if_neg (by intro e;subst e;exact iH rfl)]
  ·show _<=(if b=b then _ else _);rw [if_pos rfl];omega
theorem Ow.afy{el AE:Nat}{α:Type}[Rp α]{σ:St}{lo:Nat}{v:Value}{xs:List α}(h:Ow σ lo el v xs)(hl:AE<=el):Ow σ lo AE v xs:=by
 rcases h with h | ⟨b,o,c,C,T,h1,h2,h3,h4,h5,h6,h7⟩
 ·exact .inl h
 ·exact .inr ⟨b,o,c,C,T,h1,h2,h3,h4,h5,h6,λi hi=>(h7 i hi).low hl⟩
class Sc(α:Type)[Rp α]:Prop where
 sc: ∀{lo mY:Nat} {σ:St} {cs:List Value} {x:α},Rp.rp lo σ cs x->Rp.rp mY σ cs x
instance:Sc Int:=⟨λh=>h⟩
instance{α β:Type}[Rp α][Rp β][Sc α][Sc β]:Sc (α×β):=⟨by rintro _ _ _ _ _ ⟨c1,c2,rfl,h1,h2⟩;exact ⟨c1,c2,rfl,Sc.sc h1,Sc.sc h2⟩⟩
theorem At.sc{α:Type}[Rp α][Sc α]{lo mY:Nat}{σ:St}{b o:Nat}{x:α}(h:At lo σ b o x):At mY σ b o x:=by
 obtain ⟨cs,h1,h2⟩:=h;exact ⟨cs,Sc.sc h1,h2⟩
theorem Ow.sc{α:Type}[Rp α][Sc α]{el AE:Nat}{σ:St}{lo:Nat}{v:Value}{xs:List α}(h:Ow σ lo el v xs):Ow σ lo AE v xs:=by
 rcases h with h | ⟨b,o,c,C,T,h1,h2,h3,h4,h5,h6,h7⟩
 ·exact .inl h
 ·exact .inr ⟨b,o,c,C,T,h1,h2,h3,h4,h5,h6,λi hi=>(h7 i hi).sc⟩
theorem Rd.sc{α:Type}[Rp α][Sc α]{el AE:Nat}{σ:St}{v:Value}{xs:List α}(h:Rd el σ v xs):Rd AE σ v xs:=by
 rcases h with h | ⟨b,o,c,h1,h7⟩
 ·exact .inl h
 ·exact .inr ⟨b,o,c,h1,λi hi=>(h7 i hi).sc⟩
theorem Rd.at{el:Nat}{α:Type}[Rp α]{σ:St}{v:Value}{xs:List α}{a:Int}{e:α}{b o:Nat}(h:Rd el σ v xs)(hg:bF xs a=some e)(hi:Ix v a (Rp.sz α) b o):At el σ b o e:=by
 obtain ⟨h0,h1,h2⟩:=jr hg;obtain ⟨ob,m,c,rfl,g0,g1,rfl⟩:=hi.it;rcases h with ⟨_,rfl⟩ | ⟨b,o,c,hv,hc⟩
 ·simp at h1
 ·cases hv;exact h2▸hc _ h1
theorem RS.at{el:Nat}{α:Type}[Rp α]{σ:St}{v:Value}{xs:List α}{a:Int}{e:α}{b o:Nat}(h:RS el σ v xs)(hg:bF xs a=some e)(hi:Ix v a (Rp.sz α) b o):At el σ b o e:=h.rd.at hg hi
theorem Ow.at{el:Nat}{α:Type}[Rp α]{σ:St}{lo:Nat}{v:Value}{xs:List α}{a:Int}{e:α}{b o:Nat}(h:Ow σ lo el v xs)(hg:bF xs a=some e)(hi:Ix v a (Rp.sz α) b o):At el σ b o e:=h.rd.at hg hi
theorem rR{α:Type}{xs:List α}{a:Int}{e:α}{m:Nat}(h:bF xs a=some e)(hm:xs.length=m):0<=a/\a.toNat<m:=by
 obtain ⟨h0,h1,_⟩:=jr h;exact ⟨h0,hm▸h1⟩
theorem Ul(xs:List Int)(k:Nat)(v:Int):DR (xs.map I) (0+k*1) [I v]=(xs.set k v).map I:=by
 simp [DR,List.map_set]
theorem Um(vs:List Value): ∀(cs pre:List Value),cs.length=vs.length->DR (pre++cs) pre.length vs=pre++vs:=by
 induction vs with
 | nil=>intro cs pre h;have:cs=[]:=qb5 h;subst this;rfl
 | cons v r ih=>
  intro cs pre h;cases cs with
  | nil=>simp at h
  | cons c cs=>
   rw [DR];have e:(pre++c::cs).set pre.length v=(pre++[v])++cs:=by simp
   have:=ih cs (pre++[v]) (by simpa using h);rw [e,show pre.length+1=(pre++[v]).length by simp,this];simp
theorem Un{xs ys:List Int}{k:Nat}(h1:xs.length=k)(h2:ys.length=k):DR (List.map I ys) 0 (List.map I xs)=List.map I xs:=by
 have:=Um (List.map I xs) (List.map I ys) [] (by simp;omega);simpa using this
theorem Uo{xs:List Int}{k m:Nat}{v:Int}(h:xs.length=m):(xs.set k v).length=m:=by rw [qb0];exact h
end Go.Vs
namespace Go.Vs
open Go
abbrev BS:=Nat->Prop
structure Md(S:BS)(σ σ':St):Prop where
 os:σ'.w.os=σ.w.os
 tape:σ.dE\/σ'.w.tape=σ.w.tape
 output:σ'.w.output=σ.w.output
 dr:σ.dE\/σ.w.drawn<=σ'.w.drawn
 dE:σ'.dE=σ.dE
 ext:Ext σ σ'
 block: ∀b,b<σ.size-> ¬S b->σ'.w.heap[b]? =σ.w.heap[b]?
 eW: ∀b,b<σ.size-> ¬S b->σ'.eW b=σ.eW b
theorem Mod.md{S:Option Nat}{σ σ':St}(m:Mod S σ σ'):Md (λb=>S=Option.some b) σ σ':=
 ⟨m.os, .inr m.tape,m.output, .inr m.dr,m.dE,m.ext,λb h hn=>m.Xk.block b h hn,λb h hn=>m.Xk.eW b h hn⟩
theorem Md.refl(S:BS)(σ:St):Md S σ σ:=⟨rfl, .inr rfl,rfl, .inr (qa3 _),rfl,Ext.refl _,λ_ _ _=>rfl,λ_ _ _=>rfl⟩
theorem Md.size{S:BS}{σ σ':St}(h:Md S σ σ'):σ.size<=σ'.size:=h.ext.size
theorem Md.step{S S':BS}{a b c:St}(h:Md S a b)(k:Md S' b c)(hs: ∀i,i<a.size->S' i->S i):Md S a c:=
 ⟨k.os.trans h.os,(h.tape.elim .inl λh1=>k.tape.elim (λh2=> .inl (h.dE▸h2)) λh2=> .inr (h2.trans h1)),k.output.trans h.output,(h.dr.elim .inl λh1=>k.dr.elim (λh2=> .inl (h.dE▸h2)) λh2=> .inr (qac h1 h2)),k.dE.trans h.dE,h.ext.trans k.ext,
  λi hi hn=>(k.block i (qa4 hi h.size) (λe=>hn (hs i hi e))).trans (h.block i hi hn),
  λi hi hn=>(k.eW i (qa4 hi h.size) (λe=>hn (hs i hi e))).trans (h.eW i hi hn)⟩
theorem Md.mono{S S':BS}{a b:St}(h:Md S a b)(hs: ∀i,S i->S' i):Md S' a b:=
 ⟨h.os,h.tape,h.output,h.dr,h.dE,h.ext,λi hi hn=>h.block i hi (λe=>hn (hs i e)),λi hi hn=>h.eW i hi (λe=>hn (hs i e))⟩
structure Ch where
 dup:Bool
 fp:BS
 as:St->Prop
 Hl:dup=true-> ∀b, ¬fp b
 bJ: ∀{σ:St},as σ-> ∀b,fp b->b<σ.size
 en: ∀{S:BS} {σ σ':St},Md S σ σ'->(∀b,fp b-> ¬S b)->as σ->as σ'
section
variable{α:Type}[Rp α]
def Ch.ro(el:Nat)(v:Value)(xs:List α):Ch where
 dup:=true
 fp _:=False
 as σ:=RS el σ v xs
 Hl _ _:=id
 bJ _ _ h:=h.elim
 en m _ h:=h.ext m.ext
theorem Ow.md{el:Nat}{σ σ':St}{lo:Nat}{v:Value}{xs:List α}{S:BS}(h:Ow σ lo el v xs)(m:Md S σ σ')(hd: ∀b,blk v=some b-> ¬S b):Ow σ' lo el v xs:=by
 rcases h with h | ⟨b,o,c,C,T,rfl,h2,h3,h4,h5,h6,h7⟩
 ·exact .inl h
 ·have hb:b<σ.size:=lt_of_block h3;have hS:=hd b rfl;have e1:=m.block b hb hS;exact .inr ⟨b,o,c,C,T,rfl,h2,e1.trans h3,h4,h5,(m.eW b hb hS).trans h6,λi hi=>(h7 i hi).same m.ext e1⟩
def Ch.own(lo el:Nat)(v:Value)(xs:List α):Ch where
 dup:=false
 fp b:=blk v=some b
 as σ:=Ow σ lo el v xs
 Hl h:=by cases h
 bJ h b e:=h.lt b e
 en m hd h:=h.md m hd
end
def Ch.bx(lo b o:Nat)(cs pre sM:List Value):Ch where
 dup:=false
 fp i:=i=b
 as σ:=Bx σ b (pre++(cs++sM))/\pre.length=o/\lo<=b
 Hl h:=by cases h
 bJ h i e:=by subst e;exact h.1.lt
 en m hd h:=by
  obtain ⟨⟨T,h1,h2⟩,h3⟩:=h;have hb:=lt_of_block h1;have hS:=hd b rfl;exact ⟨⟨T,(m.block b hb hS).trans h1,(m.eW b hb hS).trans h2⟩,h3⟩
def cH:List Ch->BS
 | [],_=>False
 | c::l,b=>c.fp b\/cH l b
def gz(σ:St):List Ch->Prop
 | []=>True
 | c::l=>c.as σ/\gz σ l
def apart:List Ch->Prop
 | []=>True
 | c::l=>(∀b,c.fp b-> ¬cH l b)/\apart l
theorem bL{A R:List Ch}{b:Nat}:cH (A++R) b↔cH A b\/cH R b:=by
 induction A with
 | nil=>simp [cH]
 | cons c l ih=>simp only [qbq,cH,ih,or_assoc]
theorem dJ{σ:St}{A R:List Ch}:gz σ (A++R)↔gz σ A/\gz σ R:=by
 induction A with
 | nil=>simp [gz]
 | cons c l ih=>simp only [qbq,gz,ih,and_assoc]
theorem dU{A R:List Ch}:apart (A++R)↔apart A/\apart R/\ ∀b,cH A b-> ¬cH R b:=by
 induction A with
 | nil=>simp [apart,cH]
 | cons c l ih=>
  simp only [qbq,apart,cH,ih,bL]
  constructor
  ·rintro ⟨h1,h2,h3,h4⟩;exact ⟨⟨λb hb h=>h1 b hb (.inl h),h2⟩,h3,λb hb h=>hb.elim (λhb=>h1 b hb (.inr h)) (λhb=>h4 b hb h)⟩
  ·rintro ⟨⟨h1,h2⟩,h3,h4⟩;exact ⟨λb hb h=>h.elim (h1 b hb) (h4 b (.inl hb)),h2,h3,λb hb=>h4 b (.inr hb)⟩
theorem jM{σ:St}{L:List Ch}(h:gz σ L): ∀b,cH L b->b<σ.size:=by
 induction L with
 | nil=>intro b hb;exact hb.elim
 | cons c l ih=>intro b hb;exact hb.elim (c.bJ h.1 b) (ih h.2 b)
theorem gj{σ σ':St}{S:BS}{L:List Ch}(h:gz σ L)(m:Md S σ σ')(hd: ∀b,cH L b-> ¬S b):gz σ' L:=by
 induction L with
 | nil=>trivial
 | cons c l ih=>exact ⟨c.en m (λb hb=>hd b (.inl hb)) h.1,ih h.2 (λb hb=>hd b (.inr hb))⟩
structure Hp(S0:BS)(ay σ:St)(L:List Ch):Prop where
 md:Md S0 ay σ
 all:gz σ L
 ap:apart L
 zY: ∀b,cH L b->b<ay.size->S0 b
section
variable{S0:BS}{ay σ σ':St}{L A A' R:List Ch}{c d:Ch}
theorem Hp.size(H:Hp S0 ay σ L):ay.size<=σ.size:=H.md.size
theorem Hp.frame(H:Hp S0 ay σ (A++R))(H':Hp (cH A) σ σ' A'):Hp S0 ay σ' (A'++R):=by
 obtain ⟨ha,hr⟩:=dJ.1 H.all;obtain ⟨h1,h2,h3⟩:=dU.1 H.ap;refine ⟨H.md.step H'.md (λi hi h=>H.zY i (bL.2 (.inl h)) hi),dJ.2 ⟨H'.all,gj hr H'.md (λb hb h=>h3 b h hb)⟩,dU.2 ⟨H'.ap,h2,λb hb eT=> ?_⟩,λb hb bJ=> ?_⟩
 ·have bJ:=jM hr b eT;exact h3 b (H'.zY b hb bJ) eT
 ·rcases bL.1 hb with hb | hb
  ·have hs:b<σ.size:=qa4 bJ H.md.size;exact H.zY b (bL.2 (.inl (H'.zY b hb hs))) bJ
  ·exact H.zY b (bL.2 (.inr hb)) bJ
theorem Hp.ym(H:Hp S0 ay σ (c::R))(H':Hp (cH [c]) σ σ' A'):Hp S0 ay σ' (A'++R):=Hp.frame (A:=[c]) H H'
theorem Hp.DX(H:Hp S0 ay σ R)(H':Hp (cH []) σ σ' A'):Hp S0 ay σ' (A'++R):=Hp.frame (A:=[]) H H'
theorem Hp.begin{σ:St}(ha:gz σ L)(hp:apart L):Hp (cH L) σ σ L:=⟨Md.refl _ _,ha,hp,λ_ h _=>h⟩
theorem Hp.one(m:Md S0 σ σ')(h:c.as σ')(hf: ∀b,c.fp b->b<σ.size->S0 b):Hp S0 σ σ' [c]:=
 ⟨m,⟨h,trivial⟩,⟨λ_ _ h=>h,trivial⟩,λb hb=>hb.elim (hf b) (λh=>h.elim)⟩
theorem Hp.tail(H:Hp S0 ay σ (c::R)):Hp S0 ay σ R:=⟨H.md,H.all.2,H.ap.2,λb hb=>H.zY b (.inr hb)⟩
theorem Hp.head(H:Hp S0 ay σ (c::R)):c.as σ:=H.all.1
theorem Hp.lh(H:Hp S0 ay σ (c::R))(h:c.as σ->d.as σ)(hf: ∀b,d.fp b->c.fp b):Hp S0 ay σ (d::R):=
 ⟨H.md,⟨h H.all.1,H.all.2⟩,⟨λb hb=>H.ap.1 b (hf b hb),H.ap.2⟩,λb hb=>H.zY b (hb.imp (hf b) id)⟩
theorem Hp.add(H:Hp S0 ay σ R)(h:d.as σ)(hf: ∀b, ¬d.fp b):Hp S0 ay σ (d::R):=
 ⟨H.md,⟨h,H.all⟩,⟨λb hb=>(hf b hb).elim,H.ap⟩,λb hb=>hb.elim (λhb=>(hf b hb).elim) (H.zY b)⟩
theorem Hp.grow(H:Hp S0 ay σ L)(m:Md (λ_=>False) σ σ'):Hp S0 ay σ' L:=
 ⟨H.md.step m (λ_ _ h=>h.elim),gj H.all m (λ_ _ h=>h),H.ap,H.zY⟩
def nth:List Ch->Nat->Option Ch
 | [],_=>none
 | c::_,0=>some c
 | _::l,n+1=>nth l n
def pick:List Ch->Nat->Option (Ch×List Ch)
 | [],_=>none
 | c::l,0=>some (c,l)
 | c::l,n+1=>match pick l n with
  | some (d,r)=>some (d,c::r)
  | none=>none
theorem yn: ∀{L:List Ch} {i:Nat} {c:Ch} {R:List Ch},pick L i=some (c,R)-> ∀b,cH L b↔c.fp b\/cH R b
 | [],_,_,_,h=>by cases h
 | c::l,0,_,_,h=>by cases h;intro b;rfl
 | c::l,n+1,d,R,h=>by
  intro b;simp only [pick] at h;split at h
  ·rename_i d' r hp;cases h;have:=yn hp b;simp only [cH,this]
   constructor
   ·rintro (h | h | h)
    ·exact .inr (.inl h)
    ·exact .inl h
    ·exact .inr (.inr h)
   ·rintro (h | h | h)
    ·exact .inr (.inl h)
    ·exact .inl h
    ·exact .inr (.inr h)
  ·cases h
theorem Hm{σ:St}: ∀{L:List Ch} {i:Nat} {c:Ch} {R:List Ch},pick L i=some (c,R)->gz σ L->c.as σ/\gz σ R
 | [],_,_,_,h=>by cases h
 | c::l,0,_,_,h=>by cases h;exact id
 | c::l,n+1,d,R,h=>by
  simp only [pick] at h;split at h
  ·rename_i d' r hp;cases h;rintro ⟨h1,h2⟩;have:=Hm hp h2;exact ⟨this.1,h1,this.2⟩
  ·cases h
theorem yo: ∀{L:List Ch} {i:Nat} {c:Ch} {R:List Ch},pick L i=some (c,R)->apart L->apart (c::R)
 | [],_,_,_,h=>by cases h
 | c::l,0,_,_,h=>by cases h;exact id
 | c::l,n+1,d,R,h=>by
  simp only [pick] at h;split at h
  ·rename_i d' r hp;cases h;rintro ⟨h1,h2⟩;have h3:=yo hp h2;have h4:=yn hp;refine ⟨λb hb=> ?_,λb hb=> ?_,h3.2⟩
   ·rintro (h | h)
    ·exact h1 b h ((h4 b).2 (.inl hb))
    ·exact h3.1 b hb h
   ·exact λh=>h1 b hb ((h4 b).2 (.inr h))
  ·cases h
theorem Hp.front(H:Hp S0 ay σ L){i:Nat}(h:pick L i=some (c,R)):Hp S0 ay σ (c::R):=
 ⟨H.md,Hm h H.all,yo h H.ap,λb hb=>H.zY b ((yn h b).2 hb)⟩
theorem DY{σ:St}: ∀{L:List Ch} {i:Nat} {c:Ch},nth L i=some c->gz σ L->c.as σ
 | [],_,_,h,_=>by cases h
 | _::_,0,_,h,ha=>by cases h;exact ha.1
 | _::l,n+1,_,h,ha=>DY (L:=l) (i:=n) h ha.2
theorem Hp.get(H:Hp S0 ay σ L){i:Nat}(h:nth L i=some c):c.as σ:=DY h H.all
def AF(L:List Ch):List Nat->List Ch
 | []=>[]
 | k::ks=>match nth L k with
  | some c=>c::AF L ks
  | none=>AF L ks
def P5(L:List Ch):List Nat->Bool
 | []=>true
 | k::ks=>(match nth L k with
  | some c=>c.dup || ks.all (λj=> !Nat.beq j k)
  | none=>false)&&P5 L ks
theorem xM{L:List Ch}: ∀{ks:List Nat} {b:Nat},cH (AF L ks) b-> ∃k∈ks, ∃c,nth L k=some c/\c.fp b
 | [],b,h=>h.elim
 | k::ks,b,h=>by
  simp only [AF] at h;split at h
  ·rename_i c hc;rcases h with h | h
   ·exact ⟨k,by simp,c,hc,h⟩
   ·obtain ⟨j,hj,d,hd,h⟩:=xM h;exact ⟨j,by simp [hj],d,hd,h⟩
  ·obtain ⟨j,hj,d,hd,h⟩:=xM h;exact ⟨j,by simp [hj],d,hd,h⟩
theorem xN: ∀{L:List Ch} {k:Nat} {c:Ch} {b:Nat},nth L k=some c->c.fp b->cH L b
 | [],_,_,_,h,_=>by cases h
 | _::_,0,_,_,h,hb=>by cases h;exact .inl hb
 | _::l,n+1,_,_,h,hb=> .inr (xN (L:=l) (k:=n) h hb)
theorem BU: ∀{L:List Ch} {i j:Nat} {c d:Ch} {b:Nat},apart L->i≠j->nth L i=some c->nth L j=some d->c.fp b-> ¬d.fp b
 | [],_,_,_,_,_,_,_,h,_,_=>by cases h
 | _::_,0,0,_,_,_,_,iH,_,_,_=>absurd rfl iH
 | e::l,0,j+1,_,_,b,ha,_,h1,h2,hb=>by cases h1;exact λh=>ha.1 b hb (xN (L:=l) (k:=j) h2 h)
 | e::l,i+1,0,_,_,b,ha,_,h1,h2,hb=>by cases h2;exact λh=>ha.1 b h (xN (L:=l) (k:=i) h1 hb)
 | e::l,i+1,j+1,c,d,b,ha,iH,h1,h2,hb=>BU (L:=l) (i:=i) (j:=j) ha.2 (λe=>iH (by rw [e])) h1 h2 hb
theorem DZ{σ:St}{L:List Ch}(H: ∀k c,nth L k=some c->c.as σ): ∀ks:List Nat,gz σ (AF L ks)
 | []=>trivial
 | k::ks=>by
  simp only [AF];split
  ·rename_i c hc;exact ⟨H k c hc,DZ H ks⟩
  ·exact DZ H ks
theorem vz{L:List Ch}(ha:apart L): ∀{ks:List Nat},P5 L ks=true->apart (AF L ks)
 | [],_=>trivial
 | k::ks,h=>by
  simp only [P5,qa5] at h;obtain ⟨h1,h2⟩:=h;simp only [AF];split
  ·rename_i c hc;rw [hc] at h1;refine ⟨λb hb hcv=> ?_,vz ha h2⟩;simp only [qc1] at h1;rcases h1 with h1 | h1
   ·exact c.Hl h1 b hb
   ·obtain ⟨j,hj,d,hd,hdb⟩:=xM hcv;have:=qad.1 h1 j hj;have iH:j≠k:=by rintro rfl;simp [Nat.beq_refl] at this
    exact BU ha (qbp iH) hc hd hb hdb
  ·exact vz ha h2
theorem Hp.sel(H:Hp S0 ay σ L)(ks:List Nat)(h:P5 L ks=true):Hp S0 ay σ (AF L ks):=
 ⟨H.md,DZ (λ_ _ hk=>H.get hk) ks,vz H.ap h,λb hb=>by
  obtain ⟨k,_,c,hc,hb⟩:=xM hb;exact H.zY b (xN hc hb)⟩
theorem Hp.ai(H:Hp S0 ay σ L)(ks:List Nat){L':List Ch}(h:P5 L ks=true)(e:AF L ks=L'):Hp S0 ay σ L':=e▸H.sel ks h
end
section
variable{S0:BS}{ay σ σ':St}{L R:List Ch}{α:Type}[Rp α]{el lo:Nat}{v:Value}{xs:List α}{i b o:Nat}{cs pre sM:List Value}
theorem Hp.ro(H:Hp S0 ay σ L)(i:Nat)(h:nth L i=some (Ch.ro el v xs)):RS el σ v xs:=H.get h
theorem Hp.own(H:Hp S0 ay σ L)(i:Nat)(h:nth L i=some (Ch.own lo el v xs)):Ow σ lo el v xs:=H.get h
theorem Hp.bx(H:Hp S0 ay σ L)(i:Nat)(h:nth L i=some (Ch.bx lo b o cs pre sM)):Bx σ b (pre++(cs++sM))/\pre.length=o/\lo<=b:=H.get h
theorem P6{k:Nat}{u:Value}(h:Bx σ b (pre++(cs++sM))/\pre.length=o/\lo<=b)(hu:cs[k]? =some u):iK σ.w.heap b (o+k)=some u:=by
 obtain ⟨⟨T,h1,_⟩,h2,_⟩:=h;have hk:=(qbf.1 hu).1;unfold iK;rw [h1];simp only [qaw];rw [qbu (by omega),qbg (by omega), ←hu];congr 1;omega
theorem Hp.cell(H:Hp S0 ay σ L)(i k:Nat){u:Value}{o':Nat}(h:nth L i=some (Ch.bx lo b o cs pre sM))(hu:cs[k]? =some u)(ho:o'=o+k):iK σ.w.heap b o'=some u:=by
 subst ho;exact P6 (H.bx i h) hu
theorem Hp.cells(H:Hp S0 ay σ L)(i:Nat)(h:nth L i=some (Ch.bx lo b o cs pre sM)): ∀j,(hj:j<cs.length)->iK σ.w.heap b (o+j)=some cs[j]:=
 λj hj=>P6 (H.bx i h) (qb4 hj)
theorem Hp.nJ(H:Hp S0 ay σ L)(i:Nat)(h:pick L i=some (Ch.own lo el v xs,R))(YN:el<=lo): ∃σ':St,σ'.w=σ.w/\Hp S0 ay σ' (Ch.ro el v xs::R)/\Md (λb=>blk v=Option.some b) σ σ':=by
 have H1:=H.front h;obtain ⟨σ',hw,m,hR⟩:=Ow.afx (H1.head:Ow σ lo el v xs) YN;refine ⟨σ',hw,Hp.ym (A':=[Ch.ro el v xs]) H1 (Hp.one (m.md.mono λb hb=> .inl hb) hR (λb hb=>hb.elim)),m.md⟩
theorem Hp.gJ(H:Hp S0 ay σ L)(i AE:Nat)(h:nth L i=some (Ch.ro el v xs))(hl:AE<=el):Hp S0 ay σ (Ch.ro AE v xs::L):=
 H.add (d:=Ch.ro AE v xs) ((H.ro i h).low hl) (λ_ h=>h)
theorem Hp.vA(H:Hp S0 ay σ L)(i mY AE:Nat)(h:pick L i=some (Ch.own lo el v xs,R))(h1:mY<=lo)(h2:AE<=el):Hp S0 ay σ (Ch.own mY AE v xs::R):=
 (H.front h).lh (d:=Ch.own mY AE v xs) (λh:Ow σ lo el v xs=>(h.lo h1).afy h2) (λ_ h=>h)
theorem Hp.BV [Sc α](H:Hp S0 ay σ L)(i mY AE:Nat)(h:pick L i=some (Ch.own lo el v xs,R))(h1:mY<=lo):Hp S0 ay σ (Ch.own mY AE v xs::R):=
 (H.front h).lh (d:=Ch.own mY AE v xs) (λh:Ow σ lo el v xs=>(h.lo h1).sc) (λ_ h=>h)
theorem Hp.j7(H:Hp S0 ay σ L)(α:Type)[Rp α](lo el:Nat):Hp S0 ay σ (Ch.own lo el (.slice none 0 0) ([]:List α)::L):=H.add (d:=Ch.own lo el _ _) Ow.nil (λ_ h=>by cases h)
theorem Hp.fresh(m:Mod none σ σ')(c:Ch)(h:c.as σ')(hf: ∀b,c.fp b->σ.size<=b):Hp (cH []) σ σ' [c]:=
 Hp.one (m.md.mono λb hb=>by cases hb) h (λb hb bJ=>absurd bJ (qcg.2 (hf b hb)))
theorem Hp.focus{c1 c2 c3:List Value}(H:Hp S0 ay σ L)(i:Nat)(h:pick L i=some (Ch.bx lo b o (c1++(c2++c3)) pre sM,R)){o':Nat}(ho:o'=o+c1.length):
  Hp S0 ay σ (Ch.bx lo b o' c2 (pre++c1) (c3++sM)::R):=
 (H.front h).lh (d:=Ch.bx lo b o' c2 (pre++c1) (c3++sM)) (λ⟨h1,h2,h3⟩=>⟨by simpa [List.append_assoc] using h1,by subst ho;simp [h2],h3⟩) (λ_ h=>h)
theorem Hp.Mi{c1 c2 c3:List Value}{o':Nat}(H:Hp S0 ay σ L)(i:Nat)(h:pick L i=some (Ch.bx lo b o' c2 (pre++c1) (c3++sM),R))(ho:o'=o+c1.length):
  Hp S0 ay σ (Ch.bx lo b o (c1++(c2++c3)) pre sM::R):=
 (H.front h).lh (d:=Ch.bx lo b o (c1++(c2++c3)) pre sM) (λ⟨h1,h2,h3⟩=>⟨by simpa [List.append_assoc] using h1,by subst ho;simp at h2;omega,h3⟩) (λ_ h=>h)
end
end Go.Vs
namespace Go.Vs
open Go
section
variable{P:Program}{ops:Array Oper}{Q:Exit->Act->World->Prop}{n d:Nat}{ρ:Nat->Value}{ay σ:St}{S0:BS}{L R:List Ch}{u v:Value}{rest:List Oper}{dst:Option Nat}
variable{ty T T' E E':TypeId}{pos:String}{af:Array Edge}{x y:Operand}{a:Int}{α:Type}[Rp α]{xs ys:List α}{z:Value}{s bt lo el:Nat}{gd:Option (Nat×Bool)}{op:Op}{Rz:Value->St->Prop}{Rs:St->Prop}
abbrev Ex(P:Program)(σ:St)(n:Nat)(ρ:Nat->Value)(o:Oper)(Rz:Value->St->Prop):Prop:= ∃v σ',AA P σ.w n ρ o v σ'.w/\Rz v σ'
abbrev ExS(P:Program)(σ:St)(n:Nat)(ρ:Nat->Value)(o:Oper)(Rs:St->Prop):Prop:= ∃σ',PY P σ.w n ρ o σ'.w/\Rs σ'
theorem bI(he:Ex P σ n ρ ⟨some d,op,ty,pos,af,gd⟩ Rz)(hw:Region.wanted ⟨some d,op,ty,pos,af,gd⟩ (yv ops n ρ)=true)
  (k: ∀v (σ':St),Rz v σ'->wpList P ops Q rest (fr n (upd ρ d v)) σ'.w):wpList P ops Q (⟨some d,op,ty,pos,af,gd⟩::rest) (fr n ρ) σ.w:=by
 obtain ⟨v,σ',hr,h⟩:=he;exact afv hw hr (k v σ' h)
theorem eL(he:ExS P σ n ρ ⟨none,op,ty,pos,af,gd⟩ Rs)(hw:Region.wanted ⟨none,op,ty,pos,af,gd⟩ (yv ops n ρ)=true)
  (k: ∀(σ':St),Rs σ'->wpList P ops Q rest (fr n ρ) σ'.w):wpList P ops Q (⟨none,op,ty,pos,af,gd⟩::rest) (fr n ρ) σ.w:=by
 obtain ⟨σ',hr,h⟩:=he;exact afw hw hr (k σ' h)
theorem Mod.md0{σ σ':St}(m:Mod Option.none σ σ'):Md (cH []) σ σ':=m.md.mono λb hb=>by cases hb
theorem Mj(H:Hp S0 ay σ L)(oJ:lo<=ay.size)(T:TypeId)(cs:List Value):Hp S0 ay (σ.new (.cells cs.toArray T (0,0)) 0) (Ch.bx lo σ.size 0 cs [] []::L):=
 Hp.DX (A':=[Ch.bx lo σ.size 0 cs [] []]) H (Hp.fresh (St.j4 _ _ _) _ ⟨⟨T,by simpa using St.pE _ _ _,St.pF _ _ _⟩,rfl,qac oJ H.size⟩ (λb hb=>qav (Eq.symm hb)))
theorem fb{cs:List Value}(H:Hp S0 ay σ L)(oJ:lo<=ay.size)(hx:ev n ρ x=v)(hv:v.cells=cs.toArray):
  Ex P σ n ρ ⟨dst, .box T x,ty,pos,af,gd⟩ λv σ'=> ∃b,v=pt b 0/\Hp S0 ay σ' (Ch.bx lo b 0 cs [] []::L)/\Md (cH []) σ σ':=by
 refine ⟨_,σ.new (.cells cs.toArray T (0,0)) 0, ?_,σ.size,rfl,Mj H oJ T cs,(St.j4 _ _ _).md0⟩;simp [AA,execOp,hx,Instr.box,newVar,newRow,newObj,Sem.run,hv,St.new,World.mk']
theorem eO{cs:List Value}(H:Hp S0 ay σ L)(oJ:lo<=ay.size)(hi:TI P T z s bt)(hv:z.cells=cs.toArray):
  Ex P σ n ρ ⟨dst, .alloc T,ty,pos,af,gd⟩ λv σ'=> ∃b,v=pt b 0/\Hp S0 ay σ' (Ch.bx lo b 0 cs [] []::L)/\Md (cH []) σ σ':=by
 refine ⟨_,σ.new (.cells cs.toArray T (0,0)) 0, ?_,σ.size,rfl,Mj H oJ T cs,(St.j4 _ _ _).md0⟩;simp [AA,execOp,Instr.alloc,mX hi,newVar,newRow,newObj,Sem.run,hv,St.new,World.mk']
theorem Up(vs:List Value): ∀(pre cs sM:List Value) (k:Nat),k+vs.length<=cs.length->DR (pre++(cs++sM)) (pre.length+k) vs=pre++(DR cs k vs++sM):=by
 induction vs with
 | nil=>intro pre cs sM k _;rfl
 | cons v r ih=>
  intro pre cs sM k hk;simp only [qb6] at hk;rw [DR,DR, ←ih pre (cs.set k v) sM (k+1) (by rw [qb0];omega)];congr 1;rw [List.set_append_right _ _ (by omega),List.set_append_left _ _ (by omega)];congr 3;omega
theorem bH{cs vs cs' pre sM:List Value}{b o o' k i:Nat}(H:Hp S0 ay σ L)(hp:pick L i=some (Ch.bx lo b o cs pre sM,R))(hi:TI P T z s bt)(hx:ev n ρ x=pt b o')(Hn:o'=o+k)(hy:ev n ρ y=v)(hv:v.cells=vs.toArray)(hs:vs.length=s)
  (hk:k+vs.length<=cs.length) (Uh: ∀u∈vs,plain u=true) (YR:DR cs k vs=cs'):
  ExS P σ n ρ ⟨dst, .store T x y,ty,pos,af,gd⟩ λσ'=>Hp S0 ay σ' (Ch.bx lo b o cs' pre sM::R)/\Md (λi=>i=b) σ σ':=by
 subst Hn YR;have H1:=H.front hp;obtain ⟨⟨T0,h1,h2⟩,h3,h4⟩:Bx σ b (pre++(cs++sM))/\pre.length=o/\lo<=b:=H1.head;have hb:=lt_of_block h1;have en:=gI (P:=P) b (o+k) T0 vs 0 σ.w (pre++(cs++sM)).toArray h1 (by simp;omega) Uh;simp only [qcd] at en;have m:Md (λi=>i=b) σ (σ.put b (.cells (wr (pre++(cs++sM)).toArray (o+k) vs) T0 (0,0))):=(St.ub h2).md.mono λi hi=>by cases hi;rfl
 refine ⟨σ.put b (.cells (wr (pre++(cs++sM)).toArray (o+k) vs) T0 (0,0)), ?_, ?_,m⟩
 ·simp [PY,execOp,hx,hy,Instr.storeAt,Instr.sureAddr,storeVar,run_typeInfo hi,hv,hs,en,St.put]
 refine Hp.ym (A':=[Ch.bx lo b o (DR cs k vs) pre sM]) H1 (Hp.one (m.mono λi hi=> .inl hi) ⟨⟨T0, ?_,h2⟩,h3,h4⟩ (λi hi _=> .inl hi));rw [Mh, ←h3,Up vs pre cs sM k hk];exact World.qK _ hb
theorem BW{α β:Type}[Rp α][Rp β]{AE mY:Nat}{v':Value}{xs:List α}{ys:List β}{σ':St}{i:Nat}(H:Hp S0 ay σ L)(hp:pick L i=some (Ch.own lo el v xs,R))(m:Mod (blk v) σ σ')(h:Ow σ' mY AE v' ys)(hf:blk v'=blk v\/ ∀b,blk v'=some b->σ.size<=b):
  Hp S0 ay σ' (Ch.own mY AE v' ys::R):=
 Hp.ym (A':=[Ch.own mY AE v' ys]) (H.front hp) (Hp.one (m.md.mono λb hb=> .inl hb) h (λb hb bJ=>by
  rcases hf with hf | hf
  ·exact .inl (hf.symm.trans hb)
  ·exact absurd bJ (qcg.2 (hf b hb))))
theorem D1{v':Value}{σ':St}(H:Hp S0 ay σ L)(oJ:lo<=ay.size)(m:Mod none σ σ')(h:Ow σ' σ.size el v' xs):Hp S0 ay σ' (Ch.own lo el v' xs::L):=
 Hp.DX (A':=[Ch.own lo el v' xs]) H (Hp.fresh m _ (h.lo (qac oJ H.size)) (λb hb=>h.ge b hb))
theorem gV{e e':α}{bl o o' k i:Nat}{vs:List Value}(H:Hp S0 ay σ L)(YS:pick L i=some (Ch.own lo el v xs,R))(hi:TI P T z s bt)(hg:bF xs a=some e)(NB:Ix v a (Rp.sz α) bl o)(hx:ev n ρ x=pt bl o')(ho:o'=o+k)(hy:ev n ρ y=u)
  (hu:u.cells=vs.toArray) (hs:vs.length=s) (hk:k+vs.length<=Rp.sz α) (hp: ∀t∈vs,plain t=true) (hrp: ∀cs,Rp.rp el σ cs e->Rp.rp el σ (DR cs k vs) e'):
  ExS P σ n ρ ⟨dst, .store T x y,ty,pos,af,gd⟩ λσ'=>Hp S0 ay σ' (Ch.own lo el v (xs.set a.toNat e')::R)/\Md (λb=>blk v=some b) σ σ':=by
 obtain ⟨σ',hr,m,h⟩:=AD (ty:=ty) (pos:=pos) (af:=af) (gd:=gd) (dst:=dst) hi ((H.front YS).head:Ow σ lo el v xs) hg NB hx ho hy hu hs hk hp hrp;exact ⟨σ',hr,BW H YS m h (.inl rfl),m.md⟩
theorem dX{r:List α}{i:Nat}(H:Hp S0 ay σ L)(YS:pick L i=some (Ch.own lo el v xs,R))(hT:P.underlying T=some (.slice E))(nS:P.underlying T'=some (.slice E'))(hi:TI P E z s bt)(hs:s=Rp.sz α)(BN:z.cells.size=s)(Ug:bt<=1024)
  (hS:Rd el σ u ys) (hr:mA xs ys=some r) (oJ:lo<=ay.size) (hx:ev n ρ x=v) (hy:ev n ρ y=u):
  Ex P σ n ρ ⟨dst, .call ⟨.builtin .append, #[x,y], #[T,T']⟩,ty,pos,af,gd⟩ λv' σ'=> ∃a' c',v'=Sl a' r c'/\Hp S0 ay σ' (Ch.own lo el (Sl a' r c') r::R)/\Md (λb=>blk v=some b) σ σ':=by
 obtain ⟨hlen,rfl⟩:=NC hr;obtain ⟨a',c',σ',h1,h2,h3,h4, -⟩:=JU (ty:=ty) hT nS hi hs BN Ug ((H.front YS).head:Ow σ lo el v xs) hS hlen (qac oJ H.size);refine ⟨_,σ', ?_,a',c',rfl,BW H YS h2 h3 h4,h2.md⟩;simp only [AA,execOp,resolve,qbk,qbj,qbt,hx,hy,Sem.run_bind,Sem.run_pure,Result.andThen_ok,invoke,builtin,h1]
theorem aY{len:Nat}{parts:Array (Nat×Operand)}{ps:List (Nat×Value)}{cs:List Value}(H:Hp S0 ay σ L)(oJ:lo<=ay.size)(hT:P.underlying T=some (.slice E))(hi:TI P E z s bt)
  (JW:Nat.ble (len*s) 16777216=true) (hp:parts.toList.map (λp=>(p.1,ev n ρ p.2))=ps)
  (wL:Instr.fill (λi=>some (i*s,s)) ((Array.range (len*s)).map (λk=>(if len*s=0 then #[] else z.cells)[k % (if len*s=0 then #[] else z.cells).size]!)) ps=some cs.toArray)
  (hf:Flat el σ cs xs) (hl:xs.length=len):
  Ex P σ n ρ ⟨dst, .buildSlice T len parts,ty,pos,af,gd⟩ λv σ'=> ∃b,v=Sl (some ⟨b,0,none⟩) xs len/\Hp S0 ay σ' (Ch.own lo el (Sl (some ⟨b,0,none⟩) xs len) xs::L)/\Md (cH []) σ σ':=by
 obtain ⟨b,σ',hb,hr,hm,hO⟩:=yj (lo:=σ.size) (dst:=dst) (ty:=ty) (pos:=pos) (af:=af) (gd:=gd) hT hi JW hp wL hf hl (qa3 _);exact ⟨_,σ',hr,b,rfl,D1 H oJ hm hO,hm.md0⟩
theorem Uq{z0:α}{zs:List Value}(H:Hp S0 ay σ L)(oJ:lo<=ay.size)(hT:P.underlying T=some (.slice E))(hi:TI P E z s bt)(hs:s=Rp.sz α)(YL:z.cells=zs.toArray)(hz:Rp.rp el σ zs z0)(Ug:bt<=1024)
  (hr:wM a z0=some xs) (hx:ev n ρ x=I a) (hy:ev n ρ y=I a):
  Ex P σ n ρ ⟨dst, .makeSlice T x y,ty,pos,af,gd⟩ λv σ'=> ∃b c',v=Sl (some ⟨b,0,none⟩) xs c'/\c'=a.toNat/\Hp S0 ay σ' (Ch.own lo el (Sl (some ⟨b,0,none⟩) xs c') xs::L)/\Md (cH []) σ σ':=by
 obtain ⟨b,σ',c',PX,bP,m,h⟩:=run_make (lo:=σ.size) (ty:=ty) (pos:=pos) (af:=af) (gd:=gd) (dst:=dst) hT hi hs YL hz Ug hr hx hy (qa3 _);exact ⟨_,σ',bP,b,c',rfl,PX,D1 H oJ m h,m.md0⟩
structure bR(P:Program)(f:FuncId)(args:List Value)(pre:List Ch)(post:Nat->Value->List Ch->Prop):Prop where
 fn: ∃fn c,P.funcs[f]? =some fn/\(fn.name== "runtime.NumGoroutine")=false/\fn.body=some c
 runs: ∀(σ:St) (m:Nat),m<=σ.size->Hp (cH pre) σ σ pre->Calls P f args.toArray σ.w λe w'=> ∃v σ' L',e= .returned v/\w'=σ'.w/\post m v L'/\Hp (cH pre) σ σ' L'
def Mk(post:Value->List Ch->Prop)(ay:St)(S0:BS)(e:Ending)(w':World):Prop:= ∃v σ' L',e= .returned v/\w'=σ'.w/\post v L'/\Hp S0 ay σ' L'
theorem cN{f:FuncId}{fn:Func}{c:Code}{l:List Value}{pre:List Ch}{post:Nat->Value->List Ch->Prop}(hf:P.funcs[f]? =some fn)(Ur:(fn.name== "runtime.NumGoroutine")=false)(hb:fn.body=some c)(hn:fn.ntmps=n)(hl:Nat.ble l.length n=true)
  (h: ∀(S0:BS) (ay:St) (n0:Nat),n0<=ay.size->Hp S0 ay ay pre->c.wp P (bodyPost P fn (Mk (post n0) ay S0)) (fr n (eh l)) ay.w):bR P f l pre post:=
 ⟨⟨fn,c,hf,Ur,hb⟩,λσ m hm H=>enter hf hb hn hl (h _ σ m hm H)⟩
theorem gF{fn:Func}{post:Value->List Ch->Prop}{L':List Ch}(hr:(results fn (fr n ρ).tmps).run P σ.w= .ok v σ.w)(hp:post v L')(H:Hp S0 ay σ L'):bodyPost P fn (Mk post ay S0) .ret (fr n ρ) σ.w:=
 bodyPost_ret (v:=v) hr rfl ⟨v,σ,L',rfl,rfl,hp,H⟩
theorem rS{fn:Func}{post:Value->List Ch->Prop}{L':List Ch}(hr:(results fn (fr n ρ).tmps).run P σ.w= .ok v σ.w)(hp:post v L')(H:Hp S0 ay σ L'):bodyPost P fn (Mk post ay S0) .normal (fr n ρ) σ.w:=
 bodyPost_end (v:=v) hr rfl ⟨v,σ,L',rfl,rfl,hp,H⟩
theorem bR.frame{f:FuncId}{args:List Value}{A:List Ch}{post:Nat->Value->List Ch->Prop}(hc:bR P f args A post)(H:Hp S0 ay σ (A++R)){m:Nat}(hm:m<=σ.size):
  Calls P f args.toArray σ.w λe w'=> ∃v σ' L',e= .returned v/\w'=σ'.w/\post m v L'/\Hp S0 ay σ' (L'++R)/\Md (cH A) σ σ':=by
 refine (hc.runs σ m hm (Hp.begin (dJ.1 H.all).1 (dU.1 H.ap).1)).mono ?_;rintro e w' ⟨v,σ',L',rfl,rfl,hp,H'⟩;exact ⟨v,σ',L',rfl,rfl,hp,H.frame H',H'.md⟩
def Enters(P:Program)(n:Nat)(ρ:Nat->Value)(o:Oper)(f:FuncId)(args:List Value)(w:World):Prop:=(execOp (ev n ρ) o).run P w= .ok (.enter f args.toArray) w
def Cx(P:Program)(σ:St)(n:Nat)(ρ:Nat->Value)(o:Oper)(Rz:Value->St->Prop):Prop:=
 ∃f args,Enters P n ρ o f args σ.w/\Calls P f args.toArray σ.w λe w'=> ∃v σ',e= .returned v/\w'=σ'.w/\Rz v σ'
theorem ar{f:FuncId}{args:List Value}{A:List Ch}{post:Nat->Value->List Ch->Prop}{o:Oper}(hc:bR P f args A post)(he:Enters P n ρ o f args σ.w){m:Nat}(hm:m<=ay.size)(H:Hp S0 ay σ (A++R)):
  Cx P σ n ρ o λv σ'=> ∃L',post m v L'/\Hp S0 ay σ' (L'++R)/\Md (cH A) σ σ':=
 ⟨f,args,he,(hc.frame H (qac hm H.size)).mono (by rintro e w' ⟨v,σ',L',rfl,rfl,hp,H',m⟩;exact ⟨v,σ',rfl,rfl,L',hp,H',m⟩)⟩
theorem abF{o:Oper}(hd:o.dst=dst)(hc:Cx P σ n ρ o Rz)(hw:Region.wanted o (yv ops n ρ)=true)
  (k: ∀v (σ':St),Rz v σ'->wpList P ops Q rest ((fr n ρ).put dst v) σ'.w):wpList P ops Q (o::rest) (fr n ρ) σ.w:=by
 subst hd;obtain ⟨f,args,he,hc⟩:=hc;unfold wpList;rw [dV,if_pos hw];refine .inl ?_;unfold Oper.wp;rw [ba,show (execOp (ev n ρ) o).run P σ.w=_ from he,Oper.upon_enter];refine hc.mono ?_;rintro e w' ⟨v,σ',rfl,rfl,h⟩;exact k v σ' h
theorem aw(hc:Cx P σ n ρ ⟨some d,op,ty,pos,af,gd⟩ Rz)(hw:Region.wanted ⟨some d,op,ty,pos,af,gd⟩ (yv ops n ρ)=true)
  (k: ∀v (σ':St),Rz v σ'->wpList P ops Q rest (fr n (upd ρ d v)) σ'.w):wpList P ops Q (⟨some d,op,ty,pos,af,gd⟩::rest) (fr n ρ) σ.w:=
 abF rfl hc hw (λv σ' h=>by rw [cU];exact k v σ' h)
theorem aG{f:FuncId}{args:List Value}{xs:Array Operand}{Ts:Array TypeId}{w:World}(hf: ∃fn c,P.funcs[f]? =some fn/\(fn.name== "runtime.NumGoroutine")=false/\fn.body=some c)(hx:xs.toList.map (ev n ρ)=args):
 Enters P n ρ ⟨dst, .call ⟨.value (.func f),xs,Ts⟩,ty,pos,af,gd⟩ f args w:=PZ hf hx
theorem P7{f:FuncId}{args:List Value}{xs:Array Operand}{Ts:Array TypeId}{w:World}{c:Operand}{cap:List Value}(hf: ∃fn c,P.funcs[f]? =some fn/\(fn.name== "runtime.NumGoroutine")=false/\fn.body=some c)
  (hc:ev n ρ c= .func (.func f) #[] cap.toArray) (hx:xs.toList.map (ev n ρ)++cap=args):
  Enters P n ρ ⟨dst, .call ⟨.value c,xs,Ts⟩,ty,pos,af,gd⟩ f args w:=by
 obtain ⟨fn,c,h1,h2,h3⟩:=hf;replace hx:xs.map (ev n ρ)++cap.toArray=args.toArray:=by
  rw [←hx];apply qcf;simp
 simp only [Enters,execOp,resolve,hc,Deferred.ofValue,Sem.run_bind,Sem.run_pure,Result.andThen_ok,invoke,callFunc,run_program,Array.empty_append,hx,h1,h2,h3];simp
end
end Go.Vs
namespace Go.Vs
open Go
def dS(ops:Array Oper)(j:Nat):Option Nat:=(ops[j]?).bind (·.dst)
def waits(o:Oper)(j:Nat):Bool:=o.after.toList.any λe=>Nat.beq e.on j&&Region.binds .any e
def reach(ops:Array Oper):Nat->Nat->Nat->Bool
 | 0,_,_=>false
 | f+1,j,i=>match ops[j]? with
  | none=>false
  | some o=>waits o i || o.after.toList.any λe=>Region.binds .any e&&reach ops f e.on i
def ph(E:List Nat)(listed:Array Bool):List Bool:=E.map λe=>listed.getD e false
def JZ(E:List Nat)(i:Nat)(p:List Bool):List Bool:=List.zipWith (λe b=>b || Nat.beq e i) E p
def YT(ops:Array Oper)(E:List Nat)(i:Nat)(p:List Bool):Bool:=
 (List.zip E p).all fun (e,b)=>(!reach ops ops.size i e || b)&&(!reach ops ops.size e i || !b)&&(!Nat.beq e i || !b)
def xj(ops:Array Oper)(n i j:Nat):Bool:=Nat.blt j n&& !Nat.beq j i&& !reach ops ops.size j i
def YU(N:Nat)(ops:Array Oper)(n:Nat)(E:List Nat)(Ps:List (List Bool))(Al:List (List (Nat×Nat)))(xk:Nat):Bool:=
 Nat.ble n ops.size&&((List.range n).all λi=>(match dS ops i with | some d=>Nat.blt d N | none=>true)&&(match ops[i]? with | some o=>o.after.toList.all (λe=> !Region.binds .any e || Nat.blt e.on i) | none=>false)&&
  (List.range n).all λj=>Nat.beq i j || (match dS ops i with | some _=> !(dS ops i==dS ops j) | none=>true))&&
 ((List.range ops.size).all λj=>Nat.blt j n || (List.range n).all λi=>reach ops ops.size j i)&&
 Region.seqB .any ops (ops.size - n) n ((List.range ops.size).map (λi=>Nat.blt i n)).toArray&&
 (Ps.getD 0 [true]==E.map λ_=>false)&&(Ps.getD xk []==E.map λe=>Nat.blt e n)&&((List.range Ps.length).all λk=> !(Ps.getD k []==E.map λe=>Nat.blt e n) || Nat.beq k xk)&&
 ((List.range n).all λi=>(List.range Ps.length).all λk=> !YT ops E i (Ps.getD k []) || (Al.getD i []).any fun (a,b)=>Nat.beq a k&&(Ps[b]? ==some (JZ E i (Ps.getD k []))))
section
variable{P:Program}{ops:Array Oper}{Q:Exit->Act->World->Prop}{N n:Nat}{lG:Nat->Value}{Nm:Type}{J:Nat->Nm->St->Prop}{V:Nat->Nm->Value}
def uc(P:Program)(ops:Array Oper)(N n:Nat)(J:Nat->Nm->St->Prop)(V:Nat->Nm->Value)(ρ:Nat->Value)(σ:St)(nm:Nm)(i:Nat)(o:Oper)(k':Nat):Prop:=
 (Region.wanted o (yv ops N ρ)=true/\((∃v σ' oo,(execOp (ev N ρ) o).run P σ.w= .ok (.value v) σ'.w/\V i oo=v/\J k' oo σ'/\ ∀j,xj ops n i j=true->V j oo=V j nm)\/
  (∃σ' oo,o.dst=none/\(execOp (ev N ρ) o).run P σ.w= .ok .skip σ'.w/\J k' oo σ'/\ ∀j,xj ops n i j=true->V j oo=V j nm)\/
  ∃f args,(execOp (ev N ρ) o).run P σ.w= .ok (.enter f (List.toArray args)) σ.w/\Calls P f args.toArray σ.w λe w'=> ∃v σ' oo,e= .returned v/\w'=σ'.w/\V i oo=v/\J k' oo σ'/\ ∀j,xj ops n i j=true->V j oo=V j nm))\/
 (Region.wanted o (yv ops N ρ)=false/\V i nm=undef/\J k' nm σ)
structure RInv(ops:Array Oper)(N n:Nat)(E:List Nat)(Ps:List (List Bool))(lG:Nat->Value)(J:Nat->Nm->St->Prop)(V:Nat->Nm->Value)(listed:Array Bool)(ρ:Nat->Value)(σ:St):Prop where
 size:listed.size=ops.size
 off: ∀t,(∀i,i<n->dS ops i≠some t)->ρ t=lG t
 st: ∃nm k,Ps[k]? =some (ph E listed)/\J k nm σ/\ ∀i,i<n->listed.getD i false=true-> ∀d,dS ops i=some d->look N ρ d=V i nm
 low: ∀i,n<=i->listed.getD i false=false
 closed: ∀i o,listed.getD i false=true->ops[i]? =some o-> ∀j,waits o j=true->listed.getD j false=true
theorem mB{listed:Array Bool}(hcl: ∀i o,listed.getD i false=true->ops[i]? =some o-> ∀j,waits o j=true->listed.getD j false=true){i:Nat}:
  ∀(f j:Nat) (o:Oper),ops[j]? =some o->(∀k,waits o k=true->listed.getD k false=true)->reach ops f j i=true->listed.getD i false=true:=by
 intro f
 induction f with
 | zero=>intro j o _ _ h;cases h
 | succ f ih=>
  intro j o ho hw h;rw [reach,ho] at h;simp only [qc1] at h;rcases h with h | h
  ·exact hw i h
  ·obtain ⟨e,he,h⟩:=List.any_eq_true.1 h;simp only [qa5] at h;have h1:waits o e.on=true:=List.any_eq_true.2 ⟨e,he,by simp only [qa5];exact ⟨Nat.beq_refl _,h.1⟩⟩;have h2:=hw _ h1;cases f with
   | zero=>cases h.2
   | succ f'=>
    cases Hn:ops[e.on]? with
    | none=>have:=h.2;rw [reach,Hn] at this;cases this
    | some o'=>exact ih e.on o' Hn (λk hk=>hcl _ _ h2 Hn k hk) h.2
theorem Ho{listed:Array Bool}(hs:listed.size=ops.size)(afz: ∀i,n<=i->listed.getD i false=false)(j8: ∀i,i<n->listed.getD i false=true):
  listed=((List.range ops.size).map (λi=>Nat.blt i n)).toArray:=by
 apply Array.ext_getElem?;intro i;by_cases hi:i<ops.size
 ·have h1:listed[i]? =some (listed.getD i false):=by simp [Array.getD,hs,hi]
  rw [h1];simp only [qaw,List.getElem?_map];rw [List.getElem?_range hi];simp only [qae,qaf];by_cases hn:i<n
  ·rw [j8 i hn,BK hn]
  ·rw [afz i (by omega),sK hn]
 ·rw [qbb (by omega)];simp [hi]
theorem countP_set{listed:Array Bool}{i n:Nat}(hi:i<n)(h0:listed.getD i false=false)(hs:i<listed.size):
  (List.range n).countP (λj=> !listed.getD j false)=(List.range n).countP (λj=> !(listed.setIfInBounds i true).getD j false)+1:=by
 induction n with
 | zero=>omega
 | succ n ih=>
  rw [List.range_succ,List.countP_append,List.countP_append];by_cases h:i=n
  ·subst h;have e1:(List.range i).countP (λj=> !listed.getD j false)=(List.range i).countP (λj=> !(listed.setIfInBounds i true).getD j false):=by
    refine List.countP_congr λj hj=> ?_;rw [getD_set_ne false (by have:=qat.1 hj;omega)]
   have e2:(listed.setIfInBounds i true).getD i false=true:=by simp [Array.getD,hs]
   rw [e1];simp only [List.countP_cons,List.countP_nil,h0,e2]
   rfl
  ·have:=ih (by omega);have e:(listed.setIfInBounds i true).getD n false=listed.getD n false:=getD_set_ne false h;rw [this];simp only [List.countP_cons,List.countP_nil,e];omega
theorem YV{E:List Nat}{listed:Array Bool}{i:Nat}(hs:i<listed.size):ph E (listed.setIfInBounds i true)=JZ E i (ph E listed):=by
 induction E with
 | nil=>rfl
 | cons e E ih=>
  simp only [ph,JZ,qbj,List.zipWith_cons_cons] at ih ⊢;rw [ih];congr 1;by_cases h:e=i
  ·subst h;simp [Array.getD,hs]
  ·rw [getD_set_ne false (qbp h),qj h,Bool.or_false]
theorem P8{listed:Array Bool}{e:Nat}{b:Bool}: ∀{E:List Nat},(e,b)∈List.zip E (ph E listed)->b=listed.getD e false
 | [],h=>by cases h
 | a::E,h=>by
  simp only [ph,qbj,List.zip_cons_cons,qab,Prod.mk.injEq] at h;rcases h with ⟨rfl,rfl⟩ | h
  ·rfl
  ·exact P8 (E:=E) h
theorem P9{E:List Nat}{m:Nat}:ph E (Array.replicate m false)=E.map λ_=>false:=by
 unfold ph;exact qcb λe _=>getD_replicate_false _ _
theorem Us{E:List Nat}{m:Nat}(hE: ∀e∈E,e<n->e<m):ph E ((List.range m).map (λi=>Nat.blt i n)).toArray=E.map λe=>Nat.blt e n:=by
 unfold ph;refine qcb λe he=> ?_;by_cases hm:e<m
 ·simp [Array.getD,hm]
 ·have: ¬e<n:=λh=>hm (hE e he h);rw [sK this];simp [Array.getD,hm]
theorem Qa{E:List Nat}{Ps:List (List Bool)}{Al:List (List (Nat×Nat))}{xk:Nat}(hB:YU N ops n E Ps Al xk=true)
  (cL: ∀i o k k',i<n->ops[i]? =some o->(k,k')∈Al.getD i []-> ∀nm ρ σ,J k nm σ->(∀t,(∀i,i<n->dS ops i≠some t)->ρ t=lG t)->
   (∀j,waits o j=true->j<n-> ∀d,dS ops j=some d->look N ρ d=V j nm)->uc P ops N n J V ρ σ nm i o k')
  (hk: ∀nm ρ σ,J xk nm σ->(∀t,(∀i,i<n->dS ops i≠some t)->ρ t=lG t)->(∀i,i<n-> ∀d,dS ops i=some d->look N ρ d=V i nm)->
   wpList P ops Q (ops.toList.drop n) (fr N ρ) σ.w):
  ∀(fuel:Nat) (listed:Array Bool) (ρ:Nat->Value) (σ:St),RInv ops N n E Ps lG J V listed ρ σ->(List.range n).countP (λi=> !listed.getD i false)+(ops.size - n)=fuel->
   wpAny P .any ops Q fuel listed (fr N ρ) σ.w:=by
 simp only [YU,qa5] at hB;obtain ⟨⟨⟨⟨⟨⟨⟨hn,hd⟩,hw⟩,J0⟩,_⟩,NA⟩,abG⟩,hal⟩:=hB;have hn:=qa6 hn;have NK: ∀i d,i<n->dS ops i=some d->d<N:=by
  intro i d hi h;have:=qad.1 hd i (qat.2 hi);simp only [qa5] at this;have h1:=this.1.1;rw [h] at h1;refine qa8 λhc=> ?_;simp only [sK hc] at h1;cases h1
 have abH: ∀i o,i<n->ops[i]? =some o-> ∀e∈o.after.toList,Region.binds .any e=true->e.on<i:=by
  intro i o hi ho e he hb;have:=qad.1 hd i (qat.2 hi);simp only [qa5] at this;have h1:=this.1.2;rw [ho] at h1;have:=qad.1 h1 e he;simp only [hb,qah,Bool.false_or] at this;refine qa8 λhc=> ?_;rw [sK hc] at this;cases this
 have iH: ∀i j d,i<n->j<n->i≠j->dS ops i=some d->dS ops j≠some d:=by
  intro i j d hi hj nT Qb hdj;have:=qad.1 hd i (qat.2 hi);simp only [qa5] at this;have:=qad.1 this.2 j (qat.2 hj);rw [Qb,hdj] at this;simp [qj nT] at this
 have abI: ∀j i o,n<=j->i<n->ops[j]? =some o->reach ops ops.size j i=true:=by
  intro j i o hj hi ho;have bJ:=(qa1.1 ho).1;have:=qad.1 hw j (qat.2 bJ);rw [sK (by omega),Bool.false_or] at this;exact qad.1 this i (qat.2 hi)
 have fin: ∀(listed:Array Bool) (ρ:Nat->Value) (σ:St),RInv ops N n E Ps lG J V listed ρ σ->(∀i,i<n->listed.getD i false=true)->
   listed=((List.range ops.size).map (λi=>Nat.blt i n)).toArray/\wpList P ops Q (ops.toList.drop n) (fr N ρ) σ.w:=by
  intro listed ρ σ inv j8;have BX:=Ho inv.size inv.low j8;refine ⟨BX, ?_⟩;obtain ⟨nm,k,hp,hJ,bM⟩:=inv.st;rw [BX,Us (λe _ h=>by omega)] at hp;have J1:=(qbf.1 hp).1;have:=qad.1 abG k (qat.2 J1);have e1:Ps.getD k []=E.map λe=>Nat.blt e n:=by simp [List.getD,hp]
  rw [e1] at this;simp only [beq_self_eq_true,qah,Bool.false_or] at this;have:=Nat.eq_of_beq_eq_true this;subst this;exact hk nm ρ σ hJ inv.off (λi hi d hd=>bM i hi (j8 i hi) d hd)
 intro fuel
 induction fuel with
 | zero=>
  intro listed ρ σ inv hf;have j8: ∀i,i<n->listed.getD i false=true:=by
   intro i hi;have h0:(List.range n).countP (λi=> !listed.getD i false)=0:=by omega
   have:=List.countP_eq_zero.1 h0 i (qat.2 hi);simpa using this
  obtain ⟨BX,hh⟩:=fin listed ρ σ inv j8;have hdr:ops.toList.drop n=[]:=by rw [List.drop_eq_nil_iff];simp;omega
  rw [hdr] at hh;refine ⟨?_,hh⟩;have:Region.seqB .any ops 0 n listed=true:=by
   rw [BX];have e:ops.size - n=0:=by omega
   rw [e] at J0;exact J0
  simpa [Region.seqB] using this
 | succ fuel ih=>
  intro listed ρ σ inv hf;by_cases j8: ∀i,i<n->listed.getD i false=true
  ·
   obtain ⟨BX,hh⟩:=fin listed ρ σ inv j8;have h0:(List.range n).countP (λi=> !listed.getD i false)=0:=by
    rw [List.countP_eq_zero];intro i hi;simp [j8 i (qat.1 hi)]
   have:=wpAny_of_seq (md:= .any) (Q':=Q) (P:=P) (ops.toList.drop n) n listed (fr N ρ) σ.w (λj=>by simp [List.getElem?_drop]) (by
    rw [BX,List.length_drop,Array.length_toList];exact J0) hh
   rw [List.length_drop,Array.length_toList] at this;rw [show fuel+1=ops.size - n by omega];exact this
  ·
   have Ml: ∃i,i<n/\listed.getD i false=false:=by
    refine qa8 λhc=>j8 λi hi=> ?_;cases h:listed.getD i false with
    | true=>rfl
    | false=>exact absurd ⟨i,hi,h⟩ hc
   have step: ∀i∈Region.ready .any ops listed,wpOp P ops Q i (wpAny P .any ops Q fuel (listed.setIfInBounds i true)) (fr N ρ) σ.w:=by
    intro i hi;obtain ⟨h1,o,ho,h2⟩:=mem_ready.1 hi;have bJ:=(qa1.1 ho).1;have hls:i<listed.size:=by rw [inv.size];exact bJ
    have hwj: ∀j,waits o j=true->listed.getD j false=true:=by
     intro j hj;obtain ⟨e,he,hb⟩:=List.any_eq_true.1 hj;simp only [qa5] at hb;have:=Nat.eq_of_beq_eq_true hb.1;subst this;exact h2 e (by simpa using he) hb.2
    have hin:i<n:=by
     refine qa8 λhc=> ?_;obtain ⟨k,Hq,vB⟩:=Ml;have:=mB inv.closed _ i o ho hwj (abI i k o (by omega) Hq ho);rw [vB] at this;cases this
    have hi0:listed.getD i false=false:=by
     simp only [Array.getD,hls,dif_pos] at h1 ⊢;exact h1
    have abJ: ∀j,j<n->i≠j->listed.getD j false=true->xj ops n i j=true:=by
     intro j hj nT hl;have:reach ops ops.size j i=false:=by
      cases hr:reach ops ops.size j i with
      | false=>rfl
      | true=>
       obtain ⟨oj,hoj⟩: ∃oj,ops[j]? =some oj:=by rw [Array.getElem?_eq_getElem (by omega)];exact ⟨_,rfl⟩
       have:=mB inv.closed _ j oj hoj (λk hk=>inv.closed j oj hl hoj k hk) hr;rw [hi0] at this;cases this
     simp only [xj,BK hj,qj (qbp nT),this,Bool.not_false,Bool.and_self]
    obtain ⟨nm,k,hp,hJ,bM⟩:=inv.st;have J1:=(qbf.1 hp).1;have ek:Ps.getD k []=ph E listed:=by simp [List.getD,hp]
    have afA:YT ops E i (ph E listed)=true:=by
     unfold YT;refine qad.2 λ⟨e,b⟩ heb=> ?_;have hb:b=listed.getD e false:=P8 heb;subst hb;simp only [qa5,qc1,qbh];refine ⟨⟨?_, ?_⟩, ?_⟩
     ·cases hr:reach ops ops.size i e with
      | false=>exact .inl rfl
      | true=>exact .inr (mB inv.closed _ i o ho hwj hr)
     ·cases hr:reach ops ops.size e i with
      | false=>exact .inl rfl
      | true=>
       right;cases hl:listed.getD e false with
       | false=>rfl
       | true=>
        cases hoe:ops[e]? with
        | none=>
         cases kD:ops.size with
         | zero=>omega
         | succ q=>rw [kD,reach,hoe] at hr;cases hr
        | some oe=>
         have:=mB inv.closed _ e oe hoe (λk hk=>inv.closed e oe hl hoe k hk) hr;rw [hi0] at this;cases this
     ·by_cases hei:e=i
      ·subst hei;exact .inr hi0
      ·exact .inl (qj hei)
    have h3:=qad.1 (qad.1 hal i (qat.2 hin)) k (qat.2 J1);rw [ek,afA] at h3;simp only [qah,Bool.false_or] at h3;obtain ⟨⟨ka,k'⟩,NL,h4⟩:=List.any_eq_true.1 h3;simp only [qa5,beq_iff_eq] at h4;have:=Nat.eq_of_beq_eq_true h4.1;subst this;have Qc:Ps[k']? =some (ph E (listed.setIfInBounds i true)):=by rw [YV hls];exact h4.2
    have hdo:=cL i o ka k' hin ho NL nm ρ σ hJ inv.off (λj hj Ut d hd=>bM j Ut (hwj j hj) d hd);have next: ∀v (σ':St) oo,V i oo=v->J k' oo σ'->(∀j,xj ops n i j=true->V j oo=V j nm)-> ∀a',a'=(fr N ρ).put o.dst v->wpAny P .any ops Q fuel (listed.setIfInBounds i true) a' σ'.w:=by
     rintro v σ' oo hV NJ en a' rfl;have key: ∀oI,(fr N ρ).put o.dst v=fr N oI->(∀t,(∀i,i<n->dS ops i≠some t)->oI t=lG t)->(∀j,j<n->(listed.setIfInBounds i true).getD j false=true-> ∀d,dS ops j=some d->look N oI d=V j oo)->
       wpAny P .any ops Q fuel (listed.setIfInBounds i true) ((fr N ρ).put o.dst v) σ'.w:=by
      intro oI e aH abK;rw [e];refine ih _ _ _ ⟨by simp [inv.size],aH,⟨oo,k',Qc,NJ,abK⟩, ?_, ?_⟩ ?_
      ·intro j hj;rw [getD_set_ne false (by omega)];exact inv.low j hj
      ·intro j oj hj hoj q hq;by_cases nT:i=j
       ·subst nT;rw [ho] at hoj;cases hoj;exact getD_set_true (hwj q hq)
       ·rw [getD_set_ne false nT] at hj;exact getD_set_true (inv.closed j oj hj hoj q hq)
      ·have:=countP_set (listed:=listed) (i:=i) (n:=n) hin hi0 hls;omega
     cases Xo:o.dst with
     | none=>
      have hdn:dS ops i=none:=by simp [dS,ho,Xo]
      refine Xo▸key ρ (by rw [Xo,iQ]) inv.off ?_;intro j hj hl d' Jv;by_cases nT:i=j
      ·subst nT;rw [hdn] at Jv;cases Jv
      ·rw [getD_set_ne false nT] at hl;rw [en j (abJ j hj nT hl)];exact bM j hj hl d' Jv
     | some d=>
      have Qb:dS ops i=some d:=by simp [dS,ho,Xo]
      have hdN:=NK i d hin Qb;refine Xo▸key (upd ρ d v) (by rw [Xo,cU]) ?_ ?_
      ·intro t ht;have:t≠d:=λe=>ht i hin (e▸Qb);show (bif Nat.beq t d then v else ρ t)=_;rw [qj this];exact inv.off t ht
      ·intro j hj hl d' Jv;by_cases nT:i=j
       ·subst nT;rw [Qb] at Jv;cases Jv;have:look N (upd ρ d v) d=v:=by
         rw [rP _ hdN];show (bif Nat.beq d d then v else _)=v;rw [Me];rfl
        rw [this,hV]
       ·rw [getD_set_ne false nT] at hl;have afB:d'≠d:=λe=>iH i j d hin hj nT Qb (e▸Jv);have:look N (upd ρ d v) d'=look N ρ d':=by
         unfold look;have:upd ρ d v d'=ρ d':=by show (bif Nat.beq d' d then v else ρ d')=_;rw [qj afB];rfl
         rw [this]
        rw [this,en j (abJ j hj nT hl)];exact bM j hj hl d' Jv
    unfold wpOp;rw [ho];simp only [dV];rcases hdo with ⟨Qd,bP⟩ | ⟨Qd,hV,NJ⟩
    ·rw [if_pos Qd];refine .inl ?_;unfold Oper.wp;rw [ba];rcases bP with ⟨v,σ',oo,hr,hV,NJ,en⟩ | ⟨σ',oo,Jx,hr,NJ,en⟩ | ⟨f,args,hr,hc⟩
     ·rw [hr,Oper.upon_value];exact next v σ' oo hV NJ en _ rfl
     ·rw [hr,Oper.upon_skip];exact next _ σ' oo rfl NJ en _ (by rw [Jx];rfl)
     ·rw [hr,Oper.upon_enter];refine hc.mono ?_;rintro e w' ⟨v,σ',oo,rfl,rfl,hV,NJ,en⟩;exact next v σ' oo hV NJ en _ rfl
    ·rw [Qd,if_neg (by simp)];exact next undef σ nm hV NJ (λ_ _=>rfl) _ rfl
   refine ⟨λafC=> ?_,step⟩;exfalso;obtain ⟨m,⟨hm1,YW⟩,afD⟩:=exists_least (p:=λi=>i<n/\listed.getD i false=false) Ml;obtain ⟨o,ho⟩: ∃o,ops[m]? =some o:=by
    rw [Array.getElem?_eq_getElem (by omega)];exact ⟨_,rfl⟩
   have ud:m<listed.size:=by rw [inv.size];omega
   have:m∈Region.ready .any ops listed:=by
    refine mem_ready.2 ⟨?_,o,ho,λe he hb=> ?_⟩
    ·simp only [Array.getD,ud,dif_pos] at YW ⊢;exact YW
    ·have bJ:=abH m o hm1 ho e (by simpa using he) hb;cases hx:listed.getD e.on false with
     | true=>rfl
     | false=>
      have:=afD e.on ⟨by omega,hx⟩;omega
   rw [afC] at this;cases this
def oq(F:Nat->Oper->Prop):Nat->Nat->List Oper->Prop
 | 0,_,_=>True
 | _+1,_,[]=>True
 | n+1,k,o::r=>F k o/\oq F n (k+1) r
theorem all_nil{F:Nat->Oper->Prop}{k:Nat}{l:List Oper}:oq F 0 k l:=trivial
theorem all_cons{F:Nat->Oper->Prop}{n k:Nat}{o:Oper}{r:List Oper}(h:F k o)(t:oq F n (k+1) r):oq F (n+1) k (o::r):=⟨h,t⟩
theorem Mm{F:Nat->Oper->Prop}: ∀(n k:Nat) (l:List Oper),oq F n k l-> ∀i o,i<n->l[i]? =some o->F (k+i) o
 | 0,_,_,_,_,_,hi,_=>by omega
 | _+1,_,[],_,_,_,_,ho=>by simp at ho
 | n+1,k,o::r,⟨h,t⟩,i,o',hi,ho=>by
  cases i with
  | zero=>simp at ho;subst ho;exact h
  | succ i=>
   have:=Mm n (k+1) r t i o' (by omega) (by simpa using ho);rw [show k+(i+1)=k+1+i by omega];exact this
def Hr(F:Nat->Nat->Prop):List (Nat×Nat)->Prop
 | []=>True
 | (k,k')::r=>F k k'/\Hr F r
theorem abL{F:Nat->Nat->Prop}: ∀{l:List (Nat×Nat)},Hr F l-> ∀k k',(k,k')∈l->F k k'
 | [],_,_,_,h=>by cases h
 | (a,b)::r,⟨h,t⟩,k,k',hm=>by
  rcases qab.1 hm with e | hm
  ·cases e;exact h
  ·exact abL t k k' hm
def Xp(l:List (List (Nat×Nat)))(i:Nat):List (Nat×Nat):=l.getD i []
def Jl(l:List (Nm->St->Prop))(k:Nat)(nm:Nm)(σ:St):Prop:=(l.getD k (λ_ _=>False)) nm σ
def Vl(l:List (Nm->Value))(i:Nat)(nm:Nm):Value:=(l.getD i (λ_=>undef)) nm
def D2(ops:Array Oper)(n t:Nat):Bool:=(List.range n).all λi=> !(dS ops i==some t)
theorem D3{t:Nat}(h:D2 ops n t=true): ∀i,i<n->dS ops i≠some t:=by
 intro i hi;have:=qad.1 h i (qat.2 hi);simpa using this
def Ob(P:Program)(ops:Array Oper)(N n:Nat)(lG:Nat->Value)(J:Nat->Nm->St->Prop)(V:Nat->Nm->Value)(i:Nat)(o:Oper)(k k':Nat):Prop:=
 ∀nm ρ σ,J k nm σ->(∀t,D2 ops n t=true->ρ t=lG t)->(∀j,waits o j=true->Nat.blt j n=true-> ∀d,dS ops j=some d->look N ρ d=V j nm)->uc P ops N n J V ρ σ nm i o k'
theorem abM{id:Nat}{l:List Oper}{σ:St}(n:Nat)(E:List Nat)(Ps:List (List Bool))(Al:List (List (Nat×Nat)))(xk:Nat)(Js:List (Nm->St->Prop))(Vs:List (Nm->Value))(nm0:Nm)
  (hm:P.follows .mixedOrders=true) (hB:YU N l.toArray n E Ps Al xk=true) (h0: ∀ot,ot.w.heap=σ.w.heap->Md (cH []) σ ot->Jl Js 0 nm0 ot)
  (cL:oq (λi o=>Hr (Ob P l.toArray N n lG (Jl Js) (Vl Vs) i o) (Xp Al i)) n 0 l)
  (hk: ∀nm ρ σ',Jl Js xk nm σ'->(∀t,D2 l.toArray n t=true->ρ t=lG t)->(∀i,Nat.blt i n=true-> ∀d,dS l.toArray i=some d->look N ρ d=Vl Vs i nm)->
   wpList P l.toArray Q (l.drop n) (fr N ρ) σ'.w):(Code.region id l.toArray true).wp P Q (fr N lG) σ.w:=by
 refine wp_region_any hm ?_
 let ot:St:=⟨{ σ.w with drawn:=σ.w.drawn+1 },σ.eW,σ.ok,σ.dE⟩
 have m1:Md (cH []) σ ot:=⟨rfl, .inr rfl,rfl, .inr (Nat.le_succ _),rfl,⟨qa3 _,λ_ _=>rfl,λ_=>qa3 _⟩,λ_ _ _=>rfl,λ_ _ _=>rfl⟩;have hB':=hB;simp only [YU,qa5] at hB';obtain ⟨⟨⟨⟨⟨⟨⟨hn,_⟩,_⟩,_⟩,en⟩,_⟩,_⟩,_⟩:=hB';have YX:n<=l.length:=by simpa using qa6 hn
 have hb: ∀j,Nat.blt j n=true->j<n:=λj h=>qa8 λhc=>by rw [sK hc] at h;cases h
 refine Qa (lG:=lG) (J:=Jl Js) (V:=Vl Vs) hB ?_ ?_ _ _ lG ot ⟨by simp,λ_ _=>rfl,⟨nm0,0, ?_,h0 ot rfl m1,λi _ h=>(by rw [getD_replicate_false] at h;exact absurd h (by decide))⟩,λi _=>getD_replicate_false _ _,λi _ h=>(by rw [getD_replicate_false] at h;exact absurd h (by decide))⟩ ?_
 ·intro i o k k' hi ho NL nm ρ σ' hJ aH aX;have:=abL (Mm n 0 l cL i o hi (by simpa using ho)) k k' (by rw [qc0];exact NL);rw [qc0] at this;exact this nm ρ σ' hJ (λt ht=>aH t (D3 ht)) (λj hj Ut d hd=>aX j hj (hb j Ut) d hd)
 ·intro nm ρ σ' hJ aH bM;simpa using hk nm ρ σ' hJ (λt ht=>aH t (D3 ht)) (λi hi d hd=>bM i (hb i hi) d hd)
 ·rw [P9];have:Ps.getD 0 [true]=E.map λ_=>false:=by simpa using en
  cases Ps with
  | nil=>
   cases E with
   | nil=>simp at this
   | cons e E=>simp at this
  | cons p Ps=>simpa using this
 ·have:(List.range n).countP (λi=> !(Array.replicate l.toArray.size false).getD i false)=n:=by
   rw [List.countP_eq_length.2]
   ·simp
   ·intro i _;rw [getD_replicate_false];rfl
  rw [this];simp;omega
theorem BY{id:Nat}{l:List Oper}{σ:St}(n:Nat)(E:List Nat)(Ps:List (List Bool))(Al:List (List (Nat×Nat)))(xk:Nat)(Js:List (Nm->St->Prop))(Vs:List (Nm->Value))(nm0:Nm)
 (hm:P.follows .mixedOrders=true) (hB:YU N l.toArray n E Ps Al xk=true) (h0: ∀ot,Md (cH []) σ ot->Jl Js 0 nm0 ot)
 (cL:oq (λi o=>Hr (Ob P l.toArray N n lG (Jl Js) (Vl Vs) i o) (Xp Al i)) n 0 l)
 (hk: ∀nm ρ σ',Jl Js xk nm σ'->(∀t,D2 l.toArray n t=true->ρ t=lG t)->(∀i,Nat.blt i n=true-> ∀d,dS l.toArray i=some d->look N ρ d=Vl Vs i nm)->
  wpList P l.toArray Q (l.drop n) (fr N ρ) σ'.w):(Code.region id l.toArray true).wp P Q (fr N lG) σ.w:=abM n E Ps Al xk Js Vs nm0 hm hB (λot _ m=>h0 ot m) cL hk
variable{ρ:Nat->Value}{σ:St}{nm oo:Nm}{i k k':Nat}{o:Oper}{v:Value}{d:Nat}{op:Op}{ty:TypeId}{pos:String}{af:Array Edge}{gd:Option (Nat×Bool)}
theorem aq{t:Nat}(h:ρ t=lG t)(hv:look N lG t=v):look N ρ t=v:=by
 rw [←hv];unfold look;rw [h]
theorem cm{j d:Nat}(hd:dS ops j=some d)(h:look N ρ d=undef):yv ops N ρ j=none:=by
 unfold yv;rw [show (ops[j]?).bind (·.dst)=some d from hd];simp only [h];rfl
theorem bp{j d:Nat}{b:Bool}(hd:dS ops j=some d)(h:look N ρ d=B b):yv ops N ρ j=some b:=by
 unfold yv;rw [show (ops[j]?).bind (·.dst)=some d from hd];simp only [h]
theorem aP(hw:Region.wanted o (yv ops N ρ)=true)(hr:dR P σ.w.heap N ρ o v)(hV:V i nm=v)(hJ:J k nm σ):uc P ops N n J V ρ σ nm i o k:=
 .inl ⟨hw, .inl ⟨v,σ,nm,hr σ.w rfl,hV,hJ,λ_ _=>rfl⟩⟩
theorem aU(hw:Region.wanted o (yv ops N ρ)=false)(hV:V i nm=undef)(hJ:J k nm σ):uc P ops N n J V ρ σ nm i o k:= .inr ⟨hw,hV,hJ⟩
theorem ue{Rz:Value->St->Prop}(hw:Region.wanted o (yv ops N ρ)=true)(he:Ex P σ N ρ o Rz)(h: ∀v σ',Rz v σ'-> ∃iS oo,iS.w=σ'.w/\V i oo=v/\J k' oo iS/\ ∀j,xj ops n i j=true->V j oo=V j nm):uc P ops N n J V ρ σ nm i o k':=by
 obtain ⟨v,σ',hr,hz⟩:=he;obtain ⟨iS,oo,qF,h1,h2,h3⟩:=h v σ' hz;refine .inl ⟨hw, .inl ⟨v,iS,oo, ?_,h1,h2,h3⟩⟩;rw [qF];exact hr
theorem YY{Rs:St->Prop}(hw:Region.wanted o (yv ops N ρ)=true)(hd:o.dst=none)(he:ExS P σ N ρ o Rs)(h: ∀σ',Rs σ'-> ∃iS oo,iS.w=σ'.w/\J k' oo iS/\ ∀j,xj ops n i j=true->V j oo=V j nm):uc P ops N n J V ρ σ nm i o k':=by
 obtain ⟨σ',hr,hz⟩:=he;obtain ⟨iS,oo,qF,h2,h3⟩:=h σ' hz;refine .inl ⟨hw, .inr (.inl ⟨iS,oo,hd, ?_,h2,h3⟩)⟩;rw [qF];exact hr
theorem ko{Rz:Value->St->Prop}(hw:Region.wanted o (yv ops N ρ)=true)(he:Cx P σ N ρ o Rz)(h: ∀v σ',Rz v σ'-> ∃iS oo,iS.w=σ'.w/\V i oo=v/\J k' oo iS/\ ∀j,xj ops n i j=true->V j oo=V j nm):uc P ops N n J V ρ σ nm i o k':=by
 obtain ⟨f,args,hr,hc⟩:=he;refine .inl ⟨hw, .inr (.inr ⟨f,args,hr,hc.mono ?_⟩)⟩;rintro e w' ⟨v,σ',rfl,rfl,hz⟩;obtain ⟨iS,oo,qF,h1,h2,h3⟩:=h v σ' hz;exact ⟨v,iS,oo,rfl,qF.symm,h1,h2,h3⟩
theorem abN{i:Nat}{o:Oper}{l:List (Nat×Nat)}(hl:(l.all λp=>Nat.beq p.1 p.2)=true)
  (h: ∀k nm ρ σ,J k nm σ->(∀t,D2 ops n t=true->ρ t=lG t)->(∀j,waits o j=true->Nat.blt j n=true-> ∀d,dS ops j=some d->look N ρ d=V j nm)->uc P ops N n J V ρ σ nm i o k):
  Hr (Ob P ops N n lG J V i o) l:=by
 induction l with
 | nil=>trivial
 | cons p r ih=>
  obtain ⟨a,b⟩:=p;simp only [List.all_cons,qa5] at hl;have:=Nat.eq_of_beq_eq_true hl.1;subst this;exact ⟨λnm ρ σ hJ aH aX=>h a nm ρ σ hJ aH aX,ih hl.2⟩
theorem ac{m k:Nat}{o:Oper}{r:List Oper}{Al:List (List (Nat×Nat))}(hl:((Xp Al k).all λp=>Nat.beq p.1 p.2)=true)
 (h: ∀k' nm ρ σ,J k' nm σ->(∀t,D2 ops n t=true->ρ t=lG t)->(∀j,waits o j=true->Nat.blt j n=true-> ∀d,dS ops j=some d->look N ρ d=V j nm)->uc P ops N n J V ρ σ nm k o k')
 (t:oq (λi o=>Hr (Ob P ops N n lG J V i o) (Xp Al i)) m (k+1) r):oq (λi o=>Hr (Ob P ops N n lG J V i o) (Xp Al i)) (m+1) k (o::r):=all_cons (abN hl h) t
theorem wn{d:Option Nat}{op:Op}{ty:TypeId}{pos:String}{af:Array Edge}{y:Nat->Option Bool}:Region.wanted ⟨d,op,ty,pos,af,none⟩ y=true:=bg _ rfl _
def YZ(F:Nat->Prop):List Nat->Prop
 | []=>True
 | j::r=>F j/\YZ F r
theorem abO{F:Nat->Prop}: ∀{l:List Nat},YZ F l-> ∀j∈l,F j
 | [],_,_,h=>by cases h
 | a::r,⟨h,t⟩,j,hm=>by
  rcases qab.1 hm with e | hm
  ·cases e;exact h
  ·exact abO t j hm
theorem kE(l:List Nat)(hb:((List.range n).all λj=> !xj ops n i j || l.contains j)=true)(h:YZ (λj=>V j oo=V j nm) l): ∀j,xj ops n i j=true->V j oo=V j nm:=by
 intro j hj;have Ut:j<n:=by
  simp only [xj,qa5] at hj;exact qa8 λhc=>by rw [sK hc] at hj;cases hj.1.1
 have:=qad.1 hb j (qat.2 Ut);rw [hj] at this;simp only [qah,Bool.false_or,List.contains_iff_mem] at this;exact abO h j this
end
theorem Uu{N:Nat}{ρ:Nat->Value}{L:List (Nat×Value)}(h: ∀p∈L,look N ρ p.1=p.2):fr N ρ=fr N (cv ρ L):=by
 refine PQ λt ht=> ?_
 induction L with
 | nil=>rfl
 | cons p r ih=>
  have h1:=h p (by simp);rw [cv];by_cases e:t=p.1
  ·subst e;rw [Me, ←h1,rP _ ht];rfl
  ·rw [qj e];exact ih (λq hq=>h q (by simp [hq]))
def Qe(N:Nat)(ρ:Nat->Value):List (Nat×Value)->Prop
 | []=>True
 | (d,v)::r=>look N ρ d=v/\Qe N ρ r
theorem dY{N:Nat}{ρ:Nat->Value}{L:List (Nat×Value)}(h:Qe N ρ L):fr N ρ=fr N (cv ρ L):=by
 refine Uu ?_
 induction L with
 | nil=>intro p hp;simp at hp
 | cons q r ih=>
  intro p hp;rcases qab.1 hp with rfl | hp
  ·exact h.1
  ·exact ih h.2 p hp
theorem Md.im{S:BS}{a b c:St}(h:Md S a b)(k:Md (cH []) b c):Md S a c:=h.step k (λ_ _ h=>h.elim)
theorem Md.comp{S S':BS}{a b c:St}(h:Md S a b)(k:Md S' b c):Md (λi=>S i\/S' i) a c:=(h.mono λ_ h=> .inl h).step k (λ_ _ h=> .inr h)
theorem RS.AG{el:Nat}{α:Type}[Rp α]{σ σ':St}{S:BS}{v u:Value}{xs:List α}{a:Int}{e:α}{b o:Nat}(h:RS el σ v xs)(hg:bF xs a=some e)(hi:Ix v a (Rp.sz α) b o){k:Nat}(hk:k<Rp.sz α)
  (hc:iK σ.w.heap b (o+k)=some u) (m:Md S σ σ'):iK σ'.w.heap b (o+k)=some u:=by
 obtain ⟨h0,h1,h2⟩:=jr hg;obtain ⟨ob,mm,c,rfl,g0,g1,rfl⟩:=hi.it;rcases h with ⟨_,rfl⟩ | ⟨b,o,c,hv,_,su,YO,hA⟩
 ·simp at h1
 ·cases hv;have:(a.toNat+1)*Rp.sz α<=xs.length*Rp.sz α:=qal _ h1;rw [Nat.add_mul] at this;rw [gi] at hc ⊢;rw [←hc];exact m.ext.cell b _ (by omega)
theorem RS.Qf{el:Nat}{σ σ':St}{S:BS}{b o c:Nat}{zs:List Int}(h:RS el σ (Sl (some ⟨b,o,none⟩) zs c) zs)(hc: ∀j,(hj:j<zs.length)->iK σ.w.heap b (o+j)=some (I zs[j]))(m:Md S σ σ'):
  ∀j,(hj:j<zs.length)->iK σ'.w.heap b (o+j)=some (I zs[j]):=by
 intro j hj;rcases h with ⟨_,rfl⟩ | ⟨b,o,c,hv,_,su,YO,hA⟩
 ·simp at hj
 ·cases hv;rw [←hc j hj,gi,gi];exact m.ext.cell b _ (by have:Rp.sz Int=1:=rfl;rw [this] at YO;omega)
end Go.Vs
namespace Go.Vs
open Go
section
variable{P:Program}{H:Array Obj}{n:Nat}{ρ:Nat->Value}{d:Option Nat}{ty T:TypeId}{pos:String}{af:Array Edge}{gd:Option (Nat×Bool)}
theorem lJ{fs:Array Field}{parts:Array (Nat×Operand)}{ps:List (Nat×Value)}{cs:Array Value}{z:Value}{s bt:Nat}{D4:Array (Nat×Nat)}(hT:P.underlying T=some (.struct fs))(hi:TI P T z s bt)
  (Uh: ∀w,(fs.mapM (λf=>do pure (f.offset, ←sizeOf f.type)):Sem (Array (Nat×Nat))).run P w= .ok D4 w) (hp:parts.toList.map (λp=>(p.1,ev n ρ p.2))=ps)
  (wL:Instr.fill (D4[·]?) z.cells ps=some cs):dR P H n ρ ⟨d, .build T parts,ty,pos,af,gd⟩ (.agg cs):=λw _=>by
 have YK:(parts.map fun (i,x)=>(i,ev n ρ x))=ps.toArray:=by rw [←hp, ←Array.toList_map]
 simp only [execOp,YK,Instr.build,underlying,hT,mX hi,Sem.run_bind,run_program,Result.andThen_ok,Sem.run_pure,Uh,wL]
theorem Y0{E m:Nat}{xs:List Int}{x y:Operand}{a e:Int}{z:Value}{bt:Nat}(hT:P.underlying T=some (.array m E))(hi:TI P E z 1 bt)(hE:P.underlying E=some (.int .i64))
  (hx:ev n ρ x= .agg (xs.map I).toArray) (hy:ev n ρ y=I a) (hg:bF xs a=some e) (hl:xs.length=m):dR P H n ρ ⟨d, .index T x y,ty,pos,af,gd⟩ (I e):=by
 obtain ⟨h0,h1,h2⟩:=jr hg;exact DK hT hi hE hx hy h0 (by omega) (by rw [qb4 h1,h2])
end
theorem ma{α β:Type}{a:Option Addr}{xs:List α}{ys:List β}{c:Nat}(h:xs.length=ys.length):Sl a xs c=Sl a ys c:=by unfold Sl;rw [h]
section
variable{P:Program}{n:Nat}{ρ:Nat->Value}{σ:St}
theorem lK{T:TypeId}{D:TypeDesc}{cs:List Value}{z:Value}{s bt b:Nat}(hT:P.underlying T=some D)(hD:(match D with | .struct _=>false | .array _ _=>false | _=>true)=false)
  (hi:TI P T z s bt) (hlen:cs.length=s) (hB: ∀j,(hj:j<cs.length)->iK σ.w.heap b (0+j)=some cs[j]):(loadVar T ⟨b,0,none⟩).run P σ.w= .ok (.agg cs.toArray) σ.w:=by
 have ua:(isAgg T).run P σ.w= .ok true σ.w:=by
  simp only [isAgg,underlying,Sem.run_bind,run_program,Result.andThen_ok,hT,Sem.run_pure];cases D <;> simp_all
 have hld:=run_loadCellsFrom (P:=P) σ.w b 0 s 0 cs [] hlen (λj hj=>by rw [←gi];simpa using hB j hj);simp [loadVar,ua,run_typeInfo hi,loadCells,hld]
def jN(P:Program)(n:Nat)(ρ:Nat->Value)(w:World):List ResultVar->List Value->Prop
 | [],[]=>True
 | .tmp t::r,v::vs=>look n ρ t=v/\jN P n ρ w r vs
 | .cell t T::r,v::vs=>(∃a,look n ρ t= .pointer (some a)/\(loadVar T a).run P w= .ok v w)/\jN P n ρ w r vs
 | _,_=>False
theorem et{w:World}:jN P n ρ w [] []:=trivial
theorem fT{w:World}{t:Nat}{r:List ResultVar}{v:Value}{vs:List Value}(h:look n ρ t=v)(k:jN P n ρ w r vs):jN P n ρ w (.tmp t::r) (v::vs):=⟨h,k⟩
theorem qM{w:World}{t T b:Nat}{r:List ResultVar}{v:Value}{vs:List Value}(h:look n ρ t=pt b 0)(hl:(loadVar T ⟨b,0,none⟩).run P w= .ok v w)(k:jN P n ρ w r vs):jN P n ρ w (.cell t T::r) (v::vs):=⟨⟨_,h,hl⟩,k⟩
def Ht(D:Array Value):ResultVar->Sem Value
 | .tmp t=>pure (D.getD t undef)
 | .cell a t=>do loadVar t (←asAddr (D.getD a undef))
theorem Uv{w:World}: ∀(rs:List ResultVar) (vs:List Value),jN P n ρ w rs vs->(rs.mapM (Ht (fr n ρ).tmps)).run P w= .ok vs w:=by
 intro rs
 induction rs with
 | nil=>intro vs h;cases vs with
  | nil=>rfl
  | cons=>exact h.elim
 | cons r rs ih=>
  intro vs h;cases vs with
  | nil=>cases r <;> exact h.elim
  | cons v vs=>
   cases r with
   | tmp t=>
    obtain ⟨h1,h2⟩:=h;have e:(Ht (fr n ρ).tmps (.tmp t)).run P w= .ok v w:=by
     simp only [Ht,look_eq,h1,Sem.run_pure]
    simp only [List.mapM_cons,Sem.run_bind,e,Result.andThen_ok,ih vs h2,Sem.run_pure]
   | cell t T=>
    obtain ⟨⟨a,h1,hl⟩,h2⟩:=h;have e:(Ht (fr n ρ).tmps (.cell t T)).run P w= .ok v w:=by
     simp only [Ht,look_eq,h1,asAddr,Sem.run_bind,Sem.run_pure,Result.andThen_ok,hl]
    simp only [List.mapM_cons,Sem.run_bind,e,Result.andThen_ok,ih vs h2,Sem.run_pure]
def abP:List Value->Value
 | [v]=>v
 | vs=> .tuple vs.toArray
theorem cD{fn:Func}{w:World}{rs:List ResultVar}{vs:List Value}{v:Value}(h:fn.results=rs.toArray)(hk:jN P n ρ w rs vs)(hv:abP vs=v):(results fn (fr n ρ).tmps).run P w= .ok v w:=by
 have hr:=Uv rs vs hk;have hm:(fn.results.mapM (Ht (fr n ρ).tmps)).run P w= .ok vs.toArray w:=by
  rw [h,List.mapM_toArray];show ((List.mapM (Ht (fr n ρ).tmps) rs) >>= λa=>pure (List.toArray a):Sem (Array Value)).run P w=_;rw [Sem.run_bind,hr];rfl
 have cC:results fn (fr n ρ).tmps=(do let vs←fn.results.mapM (Ht (fr n ρ).tmps);pure (if h:vs.size=1 then vs[0] else .tuple vs)):=by
  unfold results;congr 1
 rw [cC,Sem.run_bind,hm];simp only [Result.andThen_ok,Sem.run_pure];rw [←hv]
 match vs with
 | []=>rfl
 | [v]=>rfl
 | v::u::r=>simp [abP]
end
end Go.Vs
namespace Go.Vs
open Go
structure Pb(S:BS)(σ σ':St):Prop where
 w:σ'.w=σ.w
 dE:σ'.dE=σ.dE
 eW: ∀b, ¬S b->σ'.eW b=σ.eW b
 le: ∀b,σ.eW b<=σ'.eW b
theorem Pb.md{S:BS}{σ σ':St}(h:Pb S σ σ'):Md S σ σ':=
 ⟨by rw [h.w], .inr (by rw [h.w]),by rw [h.w],by rw [h.w];exact .inr (qa3 _),h.dE,⟨by unfold St.size;rw [h.w];exact qa3 _,λb _=>by rw [h.w],h.le⟩,λb _ _=>by rw [h.w],λb _ hn=>h.eW b hn⟩
theorem Pb.trans{S S':BS}{a b c:St}(h:Pb S a b)(k:Pb S' b c):Pb (λi=>S i\/S' i) a c:=
 ⟨k.w.trans h.w,k.dE.trans h.dE,λb hb=>(k.eW b (λe=>hb (.inr e))).trans (h.eW b (λe=>hb (.inl e))),λb=>qac (h.le b) (k.le b)⟩
theorem Pb.mono{S S':BS}{a b:St}(h:Pb S a b)(hs: ∀i,S i->S' i):Pb S' a b:=⟨h.w,h.dE,λb hb=>h.eW b (λe=>hb (hs b e)),h.le⟩
def Ch.big(K:List Ch):Ch where
 dup:=false
 fp:=cH K
 as σ:=gz σ K/\apart K
 Hl h:=by cases h
 bJ h:=jM h.1
 en m hd h:=⟨gj h.1 m hd,h.2⟩
def abQ{α:Type}[Rp α](K:List Ch)(v:Value)(xs:List α):Prop:= ∀σ,gz σ K->apart K-> ∃σ',Pb (cH K) σ σ'/\RS 0 σ' v xs
inductive fJ:List Ch->List Ch->List Ch->Prop
 | nil:fJ [] [] []
 | pH {α:Type} [Rp α] {lo el:Nat} {v:Value} {xs:List α} {Ln A B:List Ch}:fJ Ln A B->fJ (Ch.own lo el v xs::Ln) A (Ch.ro 0 v xs::B)
 | Qg {α:Type} [Rp α] {lo el:Nat} {v v':Value} {xs ys:List α} {Ln A B:List Ch}:(∀σ,Ow σ lo el v xs->Ow σ lo el v' ys/\ ∀b,blk v'=some b->blk v=some b)->fJ Ln A B->fJ (Ch.own lo el v xs::Ln) A (Ch.ro 0 v' ys::B)
 | Qh {α:Type} [Rp α] {v:Value} {xs:List α} {K Ln A B:List Ch}:abQ K v xs->fJ Ln A B->fJ (Ch.big K::Ln) A (Ch.ro 0 v xs::B)
 | same {c:Ch} {Ln A B:List Ch}:fJ Ln A B->fJ Ln (c::A) (c::B)
 | again {α:Type} [Rp α] {v:Value} {xs:List α} {k:Nat} {Ln A B:List Ch}:fJ Ln A B->nth B k=some (Ch.ro 0 v xs)->fJ Ln A (Ch.ro 0 v xs::B)
section
variable{P:Program}{n:Nat}{ρ:Nat->Value}{ay σ:St}{S0:BS}{Ln A B R:List Ch}
theorem fJ.cH(h:fJ Ln A B): ∀b,Go.Vs.cH B b↔Go.Vs.cH A b:=by
 induction h with
 | nil=>intro b;exact Iff.rfl
 | pH _ ih=>intro b;exact ⟨λh=>h.elim (λh=>h.elim) (ih b).1,λh=> .inr ((ih b).2 h)⟩
 | Qg _ _ ih=>intro b;exact ⟨λh=>h.elim (λh=>h.elim) (ih b).1,λh=> .inr ((ih b).2 h)⟩
 | Qh _ _ ih=>intro b;exact ⟨λh=>h.elim (λh=>h.elim) (ih b).1,λh=> .inr ((ih b).2 h)⟩
 | same _ ih=>intro b;exact or_congr Iff.rfl (ih b)
 | again _ _ ih=>intro b;exact ⟨λh=>h.elim (λh=>h.elim) (ih b).1,λh=> .inr ((ih b).2 h)⟩
theorem fJ.apart(h:fJ Ln A B):Go.Vs.apart A->Go.Vs.apart B:=by
 induction h with
 | nil=>exact id
 | pH _ ih=>exact λh=>⟨λ_ h=>h.elim,ih h⟩
 | Qg _ _ ih=>exact λh=>⟨λ_ h=>h.elim,ih h⟩
 | Qh _ _ ih=>exact λh=>⟨λ_ h=>h.elim,ih h⟩
 | same h0 ih=>exact λh=>⟨λb hb eT=>h.1 b hb ((h0.cH b).1 eT),ih h.2⟩
 | again _ _ ih=>exact λh=>⟨λ_ h=>h.elim,ih h⟩
theorem Ow.pb{α:Type}[Rp α]{el lo:Nat}{v:Value}{xs:List α}(h:Ow σ lo el v xs): ∃σ',Pb (λb=>blk v=some b) σ σ'/\RS 0 σ' v xs:=by
 have hl:=h.lt;rcases h with ⟨rfl,rfl⟩ | ⟨b,o,c,C,T,rfl,h2,h3,h4,h5,h6,h7⟩
 ·exact ⟨σ,⟨rfl,rfl,λ_ _=>rfl,λ_=>qa3 _⟩,RS.nil⟩
 ·have hb:=hl b rfl;have hE:=St.DO (σ:=σ) (e:=o+xs.length*Rp.sz α) hb;refine ⟨σ.nJ b (o+xs.length*Rp.sz α) hb,⟨rfl,rfl,λi iH=> ?_,hE.eW⟩, .inr ⟨b,o,c,rfl,qa9 _,h4, ?_,λi hi=>((h7 i hi).low (qa9 _)).same hE rfl⟩⟩
  ·show (if i=b then _ else _)=_;rw [if_neg (by intro e;subst e;exact iH rfl)]
  ·show _<=(if b=b then _ else _);rw [if_pos rfl];omega
theorem fJ.nJ(h:fJ Ln A B): ∀{σ:St},gz σ Ln->Go.Vs.apart Ln->gz σ A->(∀b,Go.Vs.cH A b-> ¬Go.Vs.cH Ln b)-> ∃py,Pb (Go.Vs.cH Ln) σ py/\gz py B:=by
 induction h with
 | nil=>intro σ _ _ _ _;exact ⟨σ,⟨rfl,rfl,λ_ _=>rfl,λ_=>qa3 _⟩,trivial⟩
 | @pH α _ lo el v xs Ln A B hl ih=>
  rintro σ ⟨h1,h2⟩ ⟨h3,h4⟩ hA hd;obtain ⟨ot,p1,hR⟩:=Ow.pb (h1:Ow σ lo el v xs);obtain ⟨fU,p2,h5⟩:=ih (gj h2 p1.md (λb hb eT=>h3 b eT hb)) h4 (gj hA p1.md (λb hb eT=>hd b hb (.inl eT))) (λb hb eT=>hd b hb (.inr eT));exact ⟨fU,(p1.trans p2).mono (λb hb=>hb),hR.ext p2.md.ext,h5⟩
 | @Qg α _ lo el v v' xs ys Ln A B hV hl ih=>
  rintro σ ⟨h1,h2⟩ ⟨h3,h4⟩ hA hd;obtain ⟨hO,eT⟩:=hV σ h1;obtain ⟨ot,p0,hR⟩:=Ow.pb hO;have p1:=p0.mono (S':=λb=>blk v=some b) eT;obtain ⟨fU,p2,h5⟩:=ih (gj h2 p1.md (λb hb eT=>h3 b eT hb)) h4 (gj hA p1.md (λb hb eT=>hd b hb (.inl eT))) (λb hb eT=>hd b hb (.inr eT));exact ⟨fU,(p1.trans p2).mono (λb hb=>hb),hR.ext p2.md.ext,h5⟩
 | @Qh α _ v xs K Ln A B hK hl ih=>
  rintro σ ⟨h1,h2⟩ ⟨h3,h4⟩ hA hd;obtain ⟨ot,p1,hR⟩:=hK σ h1.1 h1.2;obtain ⟨fU,p2,h5⟩:=ih (gj h2 p1.md (λb hb eT=>h3 b eT hb)) h4 (gj hA p1.md (λb hb eT=>hd b hb (.inl eT))) (λb hb eT=>hd b hb (.inr eT));exact ⟨fU,(p1.trans p2).mono (λb hb=>hb),hR.ext p2.md.ext,h5⟩
 | @same c Ln A B hl ih=>
  rintro σ h1 h2 ⟨h3,h4⟩ hd;obtain ⟨py,p,h5⟩:=ih h1 h2 h4 (λb hb=>hd b (.inr hb));exact ⟨py,p,c.en p.md (λb hb=>hd b (.inl hb)) h3,h5⟩
 | again hl hk ih=>
  intro σ h1 h2 hA hd;obtain ⟨py,p,h5⟩:=ih h1 h2 hA hd;exact ⟨py,p,DY hk h5,h5⟩
def Ab(m:Nat)(c:Ch):Prop:= ∀σ σ':St,σ'.w=σ.w->(∀b,m<=b\/c.fp b->σ'.eW b=σ.eW b)->c.as σ->c.as σ'
def yp(m:Nat):List Ch->Prop
 | []=>True
 | c::l=>Ab m c/\yp m l
theorem Uw{m el:Nat}{σ σ':St}(hw:σ'.w=σ.w)(hv: ∀b,m<=b->σ'.eW b=σ.eW b)(h:m<=el):Nz el σ σ':=
 ⟨λb _ _=>by rw [hw],λb hb=>qav (hv b (qac h hb)).symm⟩
theorem Ab.own{α:Type}[Rp α]{m lo el:Nat}{v:Value}{xs:List α}(h:m<=el):Ab m (Ch.own lo el v xs):=by
 intro σ σ' hw hv hO;rcases (hO:Ow σ lo el v xs) with hO | ⟨b,o,c,C,T,rfl,h2,h3,h4,h5,h6,h7⟩
 ·exact .inl hO
 ·refine .inr ⟨b,o,c,C,T,rfl,h2,by rw [hw];exact h3,h4,h5,(hv b (.inr rfl)).trans h6,λi hi=> ?_⟩;obtain ⟨cs,h8,h9⟩:=h7 i hi;exact ⟨cs,Rp.ss (Uw hw (λb hb=>hv b (.inl hb)) h) h8,λj hj=>by rw [←h9 j hj];unfold St.cell;rw [hw]⟩
theorem Ab.BV{α:Type}[Rp α][Sc α]{m lo el:Nat}{v:Value}{xs:List α}:Ab m (Ch.own lo el v xs):=by
 intro σ σ' hw hv hO;exact (Ab.own (m:=m) (el:=m) (lo:=lo) (v:=v) (xs:=xs) (qa3 m) σ σ' hw hv (Ow.sc (hO:Ow σ lo el v xs)):Ow σ' lo m v xs).sc
theorem yq{m:Nat}{σ σ':St}(hw:σ'.w=σ.w): ∀{L:List Ch},yp m L->(∀b,m<=b\/Go.Vs.cH L b->σ'.eW b=σ.eW b)->gz σ L->gz σ' L
 | [],_,_,_=>trivial
 | c::l,⟨h1,h2⟩,hv,⟨h3,h4⟩=>⟨h1 σ σ' hw (λb hb=>hv b (hb.imp id .inl)) h3,yq hw h2 (λb hb=>hv b (hb.imp id .inr)) h4⟩
open Classical in
theorem bR.pH{f:FuncId}{args:List Value}{post:Nat->Value->List Ch->Prop}(hl:fJ Ln A B)(hc:bR P f args B post)(H:Hp S0 ay σ (Ln++(A++R)))(lL: ∀m v L',post m v L'->yp m L'):
  Calls P f args.toArray σ.w λe w'=> ∃v σ' L',e= .returned v/\w'=σ'.w/\post σ.size v L'/\Hp S0 ay σ' (L'++(Ln++R))/\Md (cH A) σ σ':=by
 obtain ⟨a1,a23⟩:=dJ.1 H.all;obtain ⟨a2,a3⟩:=dJ.1 a23;obtain ⟨p1,p23,p4⟩:=dU.1 H.ap;obtain ⟨p2,p3,p5⟩:=dU.1 p23;have pA: ∀b,cH A b-> ¬cH Ln b:=λb hb h=>p4 b h (bL.2 (.inl hb));have pR: ∀b,cH R b-> ¬cH Ln b:=λb hb h=>p4 b h (bL.2 (.inr hb));obtain ⟨py,pp,aB⟩:=hl.nJ a1 p1 a2 pA;have kD:py.size=σ.size:=by unfold St.size;rw [pp.w]
 have Hb:Hp (cH B) py py B:=Hp.begin aB (hl.apart p2);have hr:=hc.runs py σ.size (qav kD.symm) Hb;rw [pp.w] at hr;refine hr.mono ?_;rintro e w' ⟨v,fU,L',rfl,rfl,hp,H'⟩;have Ux:=hl.cH;have hle:σ.size<=fU.size:=kD▸H'.md.size
 let fK:St:=⟨fU.w,λc=>if cH Ln c then σ.eW c else fU.eW c,λb hb=>by
  have: ¬cH Ln b:=λh=>absurd (qa4 (jM a1 b h) hle) (qcg.2 hb);rw [if_neg this];exact fU.ok b hb,fU.dE⟩
 have Qi: ∀b,cH Ln b->fK.eW b=σ.eW b:=λb h=>if_pos h;have th: ∀b, ¬cH Ln b->fK.eW b=fU.eW b:=λb h=>if_neg h;have m3:Md (cH A) σ fK:=by
  refine ⟨?_, ?_, ?_, ?_,H'.md.dE.trans pp.dE,⟨hle,λb ho=> ?_,λb=> ?_⟩,λb hb hn=> ?_,λb hb hn=> ?_⟩
  ·exact H'.md.os.trans (by rw [pp.w])
  ·have:=H'.md.tape;rw [pp.w,pp.dE] at this;exact this
  ·exact H'.md.output.trans (by rw [pp.w])
  ·have:=H'.md.dr;rw [pp.w,pp.dE] at this;exact this
  ·have h1:fU.w.heap[b]? =py.w.heap[b]? :=H'.md.ext.block b (qa4 ho (pp.le b));show fU.w.heap[b]? =_;rw [h1,pp.w]
  ·by_cases h:cH Ln b
   ·exact qav (Qi b h).symm
   ·rw [th b h];exact qac (pp.le b) (H'.md.ext.eW b)
  ·have:=H'.md.block b (by rw [kD];exact hb) (λh=>hn ((Ux b).1 h));rw [pp.w] at this;exact this
  ·by_cases h:cH Ln b
   ·exact Qi b h
   ·rw [th b h,H'.md.eW b (by rw [kD];exact hb) (λh=>hn ((Ux b).1 h)),pp.eW b h]
 have D5: ∀b,cH L' b->b<σ.size->cH A b:=λb hb bJ=>(Ux b).1 (H'.zY b hb (by rw [kD];exact bJ));have aL':gz fK L':=yq (σ:=fU) (σ':=fK) rfl (lL _ _ _ hp) (λb hb=>by
  refine th b λh=> ?_;have bJ:=jM a1 b h;rcases hb with hb | hb
  ·omega
  ·exact pA b (D5 b hb bJ) h) H'.all
 refine ⟨v,fK,L',rfl,rfl,hp,⟨H.md.step m3 (λi hi h=>H.zY i (bL.2 (.inr (bL.2 (.inl h)))) hi),dJ.2 ⟨aL',dJ.2 ⟨gj a1 m3 (λb hb h=>pA b h hb),gj a3 m3 (λb hb h=>p5 b h hb)⟩⟩,
  dU.2 ⟨H'.ap,dU.2 ⟨p1,p3,λb hb h=>pR b h hb⟩,λb hb eT=> ?_⟩,λb hb bJ=> ?_⟩,m3⟩
 ·rcases bL.1 eT with h | h
  ·exact pA b (D5 b hb (jM a1 b h)) h
  ·exact p5 b (D5 b hb (jM a3 b h)) h
 ·rcases bL.1 hb with hb | hb
  ·exact H.zY b (bL.2 (.inr (bL.2 (.inl (D5 b hb (qa4 bJ H.md.size)))))) bJ
  ·rcases bL.1 hb with hb | hb
   ·exact H.zY b (bL.2 (.inl hb)) bJ
   ·exact H.zY b (bL.2 (.inr (bL.2 (.inr hb)))) bJ
theorem kJ{f:FuncId}{args:List Value}{post:Nat->Value->List Ch->Prop}{o:Oper}(hl:fJ Ln A B)(hc:bR P f args B post)(he:Enters P n ρ o f args σ.w)(H:Hp S0 ay σ (Ln++(A++R)))(lL: ∀m v L',post m v L'->yp m L'):
  Cx P σ n ρ o λv σ'=> ∃L',post σ.size v L'/\Hp S0 ay σ' (L'++(Ln++R))/\Md (cH A) σ σ'/\ay.size<=σ.size:=
 ⟨f,args,he,(hc.pH hl H lL).mono (by rintro e w' ⟨v,σ',L',rfl,rfl,hp,H',m⟩;exact ⟨v,σ',rfl,rfl,L',hp,H',m,H.size⟩)⟩
end
end Go.Vs
namespace Go.Vs
open Go
section
variable{P:Program}{H:Array Obj}{n:Nat}{ρ:Nat->Value}{dst:Option Nat}{ty T T' E:TypeId}{pos:String}{af:Array Edge}{gd:Option (Nat×Bool)}{x c:Operand}{v u:Value}{D:TypeDesc}{f:FuncId}{w:World}{xs:Array Operand}{Ts:Array TypeId}{args:List Value}{name:String}{b o:Nat}
theorem fL(hT:P.underlying T=some D)(hD:(match D with | .interface _=>false | _=>true)=true)(hx:ev n ρ x=v):dR P H n ρ ⟨dst, .makeInterface T x,ty,pos,af,gd⟩ (.iface T v):=λw _=>by
 cases D <;> simp_all [execOp,Instr.makeInterface,underlying]
theorem AH(hT:P.underlying T'=some D)(hD:(match D with | .interface _=>false | _=>true)=true)(hx:ev n ρ x= .iface T' v):dR P H n ρ ⟨dst, .typeAssert x T T' false,ty,pos,af,gd⟩ v:=λw _=>by
 cases D <;> simp_all [execOp,Instr.typeAssert,underlying]
theorem nU{cs:Array Operand}{vs:List Value}(hx:cs.toList.map (ev n ρ)=vs):dR P H n ρ ⟨dst, .makeFunc (.func f) #[] cs,ty,pos,af,gd⟩ (.func (.func f) #[] vs.toArray):=λw _=>by
 have:cs.map (ev n ρ)=vs.toArray:=by rw [←hx, ←Array.toList_map]
 simp [execOp,Instr.makeFunc,this]
def Qj(P:Program)(T:TypeId)(name:String):Option (Array FieldStep×Option (FuncId×Bool)):=(P.info? T).bind λi=>(i.methods.find? (·.name==name)).map λm=>(m.path,m.func)
theorem J2{fuel:Nat}{pr:Bool}{r:Value}(hm:Qj P T name=some (#[],some (f,pr)))(hr:(receiverAt T (.val v) pr (some ((name.splitOn ".").getLastD name))).run P w= .ok r w):(method (fuel+1) T v name).run P w= .ok (f,r) w:=by
 unfold Qj at hm;cases hi:P.info? T with
 | none=>rw [hi] at hm;cases hm
 | some i=>
  rw [hi] at hm;simp only [qa0] at hm;cases hf:i.methods.find? (·.name==name) with
  | none=>rw [hf] at hm;cases hm
  | some m=>
   rw [hf] at hm;simp only [qae,qaf,Prod.mk.injEq] at hm;obtain ⟨h1,h2⟩:=hm;have e1:(typeInfo T).run P w= .ok i w:=by simp [typeInfo,hi]
   have e2:m.path.toList=[]:=by rw [h1]
   have e3:m.path.isEmpty=true:=by rw [h1];rfl
   simp only [method,Sem.run_bind,e1,Result.andThen_ok,hf,e2,follow,Sem.run_pure,h2,e3,if_true,hr]
theorem Hu{r:Value}{pr:Bool}(hf: ∃fn c,P.funcs[f]? =some fn/\(fn.name== "runtime.NumGoroutine")=false/\fn.body=some c)(hm:Qj P T name=some (#[],some (f,pr)))(hc:ev n ρ c= .iface T v)(hr:(receiverAt T (.val v) pr (some ((name.splitOn ".").getLastD name))).run P w= .ok r w)
  (hx:r::xs.toList.map (ev n ρ)=args):Enters P n ρ ⟨dst, .call ⟨.invoke c name,xs,Ts⟩,ty,pos,af,gd⟩ f args w:=by
 obtain ⟨fn,cd,h1,h2,h3⟩:=hf;have uf: #[r]++xs.map (ev n ρ)=args.toArray:=by
  rw [←hx];apply qcf;simp
 have hdp:Made.depth=100:=rfl;have hd: ∃k,P.types.size+Made.depth=k+1:=⟨P.types.size+99,by omega⟩;obtain ⟨k,hk⟩:=hd;have hmm:=J2 (P:=P) (w:=w) (fuel:=k) hm hr;have e0:(#[Value.iface T v]++xs.map (ev n ρ))[0]? =some (.iface T v):=by
  rw [qbv (by simp)];rfl
 have e1:(#[Value.iface T v]++xs.map (ev n ρ)).extract 1 (#[Value.iface T v]++xs.map (ev n ρ)).size=xs.map (ev n ρ):=by
  apply qcf;rw [Array.toList_extract,List.extract_eq_drop_take'];simp only [Array.size_append,Array.size_map,Array.toList_append,Array.toList_map,qbl,qb6,List.length_nil,qbq,qb7,List.drop_one];rw [qbw (by simp;omega)];rfl
 simp only [Enters,execOp,resolve,hc,Sem.run_bind,Sem.run_pure,Result.andThen_ok,invoke,e0,e1,callMethod,run_program,hk,hmm,callFunc,uf,h1,h2,h3];simp
theorem Qk(hf: ∃fn c,P.funcs[f]? =some fn/\(fn.name== "runtime.NumGoroutine")=false/\fn.body=some c)(hm:Qj P T name=some (#[],some (f,true)))(hT:P.underlying T=some (.pointer E))(hc:ev n ρ c= .iface T v)
  (hx:v::xs.toList.map (ev n ρ)=args):Enters P n ρ ⟨dst, .call ⟨.invoke c name,xs,Ts⟩,ty,pos,af,gd⟩ f args w:=
 Hu hf hm hc (by simp only [receiverAt,underlying,Sem.run_bind,run_program,Result.andThen_ok,hT,Sem.run_pure,Place.get]) hx
theorem qN(hf: ∃fn c,P.funcs[f]? =some fn/\(fn.name== "runtime.NumGoroutine")=false/\fn.body=some c)(hm:Qj P T name=some (#[],some (f,false)))(hT:P.underlying T=some (.pointer E))(hE:P.underlying E=some D)(hD:(match D with | .struct _=>false | .array _ _=>false | _=>true)=true)
  (hc:ev n ρ c= .iface T (pt b o)) (hl:iK w.heap b o=some u) (hx:u::xs.toList.map (ev n ρ)=args):Enters P n ρ ⟨dst, .call ⟨.invoke c name,xs,Ts⟩,ty,pos,af,gd⟩ f args w:=by
 have ua:(isAgg E).run P w= .ok false w:=by
  simp only [isAgg,underlying,Sem.run_bind,run_program,Result.andThen_ok,hE,Sem.run_pure];cases D <;> simp_all
 rw [gi] at hl;have afE: ∀s,(Builtin.ssaWrapNilChk_ #[T] T #[pt b o,strVal "",strVal s]).run P w= .ok (pt b o) w:=λ_=>rfl;refine Hu hf hm hc ?_ hx;simp [receiverAt,underlying,hT,Place.get,afE,asAddr,loadVar,ua,load,Sem.run,hl]
end
end Go.Vs
namespace Go.Vs
open Go
section
variable{P:Program}{H:Array Obj}{n:Nat}{ρ:Nat->Value}{dst:Option Nat}{ty T T':TypeId}{pos:String}{af:Array Edge}{gd:Option (Nat×Bool)}{x y:Operand}{a b q:Int}{k k':IntKind}
theorem NM{α:Type}{k:Int}{z0:α}{xs:List α}(h:wM k z0=some xs):xs.length=k.toNat:=by
 unfold wM at h;split at h
 ·cases h;exact List.length_replicate
 ·cases h
theorem Ql{E:TypeId}{m c c':Nat}{ad:Option Addr}(hT:P.underlying T=some (.slice E))(hx:ev n ρ x= .slice ad m c)(hc:c=c'):dR P H n ρ ⟨dst, .call ⟨.builtin .cap, #[x], #[T]⟩,ty,pos,af,gd⟩ (I c'):=λw _=>by
 subst hc;simp [execOp,resolve,invoke,builtin,Builtin.cap_,hx,underlying,hT,goInt]
theorem Uy{E:TypeId}{m:Nat}{ad:Option Addr}{c:Nat}(hT:P.underlying T=some (.slice E))(hx:ev n ρ x= .slice ad m c)(hy:ev n ρ y= .slice none 0 0):dR P H n ρ ⟨dst, .binOp .eql T x y T',ty,pos,af,gd⟩ (B ad.isNone):=λw _=>by
 have h: ∀a:Option Addr,(Op.equal T (.slice a m c) (.slice none 0 0)).run P w= .ok a.isNone w:=by
  intro a;show (Op.equalIn (9999+1) T _ _).run P w=_;rw [Op.equalIn];cases a <;> simp only [underlying,Sem.run_bind,run_program,Result.andThen_ok,hT,Sem.run_pure,Option.isNone]
 simp [execOp,hx,hy,eqGuard,binOp,h]
theorem Hv{t j:Nat}{xs:Array Value}{u:Value}(ht:P.underlying t=some (.int .i64))(w:World)(h:xs[j]? =some u):(part t xs j).run P w= .ok u w:=by
 have ua:(isAgg t).run P w= .ok false w:=by
  simp only [isAgg,underlying,Sem.run_bind,run_program,Result.andThen_ok,ht,Sem.run_pure]
 simp [part,ua,h]
def Hw(P:Program):Nat->List Field->Prop
 | _,[]=>True
 | j,f::fs=>f.offset=j/\(f.name≠ "_")/\P.underlying f.type=some (.int .i64)/\Hw P (j+1) fs
theorem tj{d:Nat}(w:World): ∀(fs:List Field) (j:Nat) (xs ys:List Int),xs.length=ys.length->j+fs.length=xs.length->Hw P j fs->
  (Op.eqFields (d+1) (xs.map I).toArray (ys.map I).toArray fs).run P w= .ok (xs.drop j==ys.drop j) w
 | [],j,xs,ys,hl,hj,_=>by
  have e1:xs.drop j=[]:=List.drop_eq_nil_of_le (by simp at hj;omega);have e2:ys.drop j=[]:=List.drop_eq_nil_of_le (by simp at hj;omega);rw [e1,e2];rfl
 | f::fs,j,xs,ys,hl,hj,⟨h1,h2,h3,h5⟩=>by
  simp only [qb6] at hj;have ih:=tj (d:=d) w fs (j+1) xs ys hl (by omega) h5;have hjx:j<xs.length:=by omega
  have hjy:j<ys.length:=by omega
  have p1:=Hv (P:=P) h3 (xs:=(xs.map I).toArray) (u:=I xs[j]) (j:=f.offset) w (by simp [h1,hjx]);have p2:=Hv (P:=P) h3 (xs:=(ys.map I).toArray) (u:=I ys[j]) (j:=f.offset) w (by simp [h1,hjy]);have p3:(Op.equalIn (d+1) f.type (I xs[j]) (I ys[j])).run P w= .ok (xs[j]==ys[j]) w:=by
   rw [Op.equalIn];simp only [underlying,Sem.run_bind,run_program,Result.andThen_ok,h3,Sem.run_pure,if_true]
  rw [qb9 hjx,qb9 hjy,List.cons_beq_cons];simp only [Op.eqFields,ne_eq,h2,not_false_eq_true,if_true,Sem.run_bind,p1,p2,p3,Result.andThen_ok];cases hb:xs[j]==ys[j] with
  | true=>simp only [qah,qa7,if_false,ih,qbm]
  | false=>simp only [Bool.not_false,if_true,Bool.false_and];rfl
theorem afu{xs ys:List Int}(hT:P.underlying T=some (.struct (P.fieldsOf T)))(hg:P.eqGuardType P.depth T=false)(hp:P.stoodInHeld T=false)(hl:xs.length=ys.length)(hj:(P.fieldsOf T).toList.length=xs.length)(hf:Hw P 0 (P.fieldsOf T).toList)
  (hx:ev n ρ x= .agg (xs.map I).toArray) (hy:ev n ρ y= .agg (ys.map I).toArray):dR P H n ρ ⟨dst, .binOp .eql T x y T',ty,pos,af,gd⟩ (B (xs==ys)):=λw _=>by
 have e:=tj (P:=P) (d:=9998) w (P.fieldsOf T).toList 0 xs ys hl (by omega) hf;simp only [execOp,hx,hy,Sem.run_bind,run_eqGuard_agg w _ _ _ _ _ _ hg,Result.andThen_ok,run_eql_struct,show (10000:Nat)=9999+1 from rfl,run_equalIn_agg w 9999 T _ _ hT hp,show (9999:Nat)=9998+1 from rfl,e,List.drop_zero,Sem.run_pure]
theorem Uz{xs ys:List Int}(hT:P.underlying T=some (.struct (P.fieldsOf T)))(hg:P.eqGuardType P.depth T=false)(hp:P.stoodInHeld T=false)(hl:xs.length=ys.length)(hj:(P.fieldsOf T).toList.length=xs.length)(hf:Hw P 0 (P.fieldsOf T).toList)
  (hx:ev n ρ x= .agg (xs.map I).toArray) (hy:ev n ρ y= .agg (ys.map I).toArray):dR P H n ρ ⟨dst, .binOp .neq T x y T',ty,pos,af,gd⟩ (B (!(xs==ys))):=λw _=>by
 have e:=tj (P:=P) (d:=9998) w (P.fieldsOf T).toList 0 xs ys hl (by omega) hf;simp only [execOp,hx,hy,Sem.run_bind,run_eqGuard_agg w _ _ _ _ _ _ hg,Result.andThen_ok,run_neq_struct,show (10000:Nat)=9999+1 from rfl,run_equalIn_agg w 9999 T _ _ hT hp,show (9999:Nat)=9998+1 from rfl,e,List.drop_zero,Sem.run_pure]
end
section
variable{S0:BS}{ay σ:St}{L:List Ch}{lo b o i:Nat}{pre sM:List Value}
theorem RS.abR{α:Type}[Rp α]{el:Nat}{ad:Option Addr}{c:Nat}{xs:List α}(hn:ad.isNone=true)(h:RS el σ (Sl ad xs c) xs):xs=[]:=by
 rcases h with ⟨_,h⟩ | ⟨b,o,c,hv,_⟩
 ·exact h
 ·cases hv;cases hn
theorem J3(xs:List Int): ∀u∈List.map I xs,plain u=true:=by
 intro u hu;obtain ⟨x,_,rfl⟩:=qce.1 hu
 rfl
theorem Qm(xs:List Int)(k:Nat)(v:Int):DR (xs.map I) (k*1) [I v]=(xs.set k v).map I:=by
 have:=Ul xs k v;rw [qc0] at this;exact this
theorem Hp.xO{xs:List Int}{a x:Int}(H:Hp S0 ay σ L)(i:Nat)(h:nth L i=some (Ch.bx lo b o (xs.map I) pre sM))(hx:bF xs a=some x):iK σ.w.heap b (o+a.toNat*1)=some (I x):=by
 obtain ⟨h0,h1,h2⟩:=jr hx;rw [Nat.mul_one];exact P6 (H.bx i h) (by simp [h1,h2])
end
end Go.Vs
namespace Go.Vs
open Go
def BZ{α:Type}(xs:List α)(k:Int)(z:α):Option (List α):=if 0<=k/\xs.length+k.toNat<=2147483648 then some (xs++List.replicate k.toNat z) else none
theorem J4{α:Type}{xs r:List α}{k:Int}{z:α}(h:BZ xs k z=some r):0<=k/\xs.length+k.toNat<=2147483648/\r=xs++List.replicate k.toNat z:=by
 unfold BZ at h;split at h
 ·rename_i hc;exact ⟨hc.1,hc.2,(qaa h).symm⟩
 ·cases h
section
variable{P:Program}{n:Nat}{ρ:Nat->Value}{ay σ:St}{S0:BS}{L R:List Ch}{u v:Value}{T T' E E' ty:TypeId}{pos:String}{af:Array Edge}{gd:Option (Nat×Bool)}{dst:Option Nat}{x y q:Operand}{a l h k m:Int}{lo el bt s c c':Nat}{z:Value}
variable{α:Type}[Rp α]{xs ys p r:List α}{ad lZ:Option Addr}{H:Array Obj}
theorem Ow.view(hO:Ow σ lo el (Sl ad xs c) xs)(hg:fN xs l h=some p)(hs:Xn ad xs.length c (Rp.sz α) l h lZ p.length c'):Ow σ lo el (Sl lZ p c') p/\ ∀b,blk (Sl lZ p c')=some b->blk (Sl ad xs c)=some b:=by
 obtain ⟨ad2,c2,hs2,h1,h2⟩:=hO.slice hg;have e1:lZ=ad2:=hs.ea.trans hs2.ea.symm;have e2:c'=c2:=hs.ec.trans hs2.ec.symm;subst e1 e2;exact ⟨h1,h2⟩
theorem UA{i:Nat}{z0:α}{zs:List Value}(H:Hp S0 ay σ L)(YS:nth L i=some (Ch.own lo el (Sl ad xs c) xs))(hT:P.underlying T=some (.slice E))(nS:P.underlying T'=some (.int .i64))(hi:TI P E z s bt)(hs:s=Rp.sz α)(YL:z.cells=zs.toArray)(hz:Rp.rp el σ zs z0)(Ug:bt<=1024)
  (ht:c=xs.length) (hg:fN xs 0 h=some p) (hv:Xn ad xs.length c (Rp.sz α) 0 h lZ p.length c') (hr:BZ p k z0=some r) (xi:(xs.length:Int)<p.length+k) {mY:Nat} (oJ:mY<=ay.size) (hx:ev n ρ x=Sl lZ p c') (hy:ev n ρ y=I k):
  Ex P σ n ρ ⟨dst, .call ⟨.builtin .append, #[x,y], #[T,T']⟩,ty,pos,af,gd⟩ λv' σ'=> ∃b c2,v'=Sl (some ⟨b,0,none⟩) r c2/\Hp S0 ay σ' (Ch.own mY el (Sl (some ⟨b,0,none⟩) r c2) r::L)/\Md (cH []) σ σ':=by
 obtain ⟨Mo,hlen,rfl⟩:=J4 hr;obtain ⟨kn,rfl⟩:=qax Mo;simp only [qaz] at hlen ⊢;obtain ⟨hO,_⟩:=(H.get YS:Ow σ lo el (Sl ad xs c) xs).view hg hv;obtain ⟨i0,rQ,xK,Pq,hi4⟩:=hi.it;have YJ:=hi;subst hs;obtain ⟨K,qL,P0,hK3⟩:=hO.rd.row;have hcp:c'=xs.length:=by rw [hv.ec,ht];simp
 have su: ¬p.length+kn<=c':=by omega
 have hzl:zs.length=Rp.sz α:=Rp.len hz;have hn:=nextslicecap_le (need:=p.length+kn) (c:=c') (by omega);have JW: ¬Builtin.nextslicecap (p.length+kn) c'*bt>2^48:=by
  have h1:Builtin.nextslicecap (p.length+kn) c'*bt<=(2*(p.length+kn)+300)*1024:=Nat.mul_le_mul hn Ug;have h2:(2:Nat)^48=281474976710656:=by decide
  omega
 have hsm: ¬(kn:Int)*(bt:Int)>2^48:=by
  have h1:kn*bt<=2147483648*1024:=Nat.mul_le_mul (by omega) Ug;have h2:(2:Int)^48=281474976710656:=by decide
  rw [h2, ←Int.natCast_mul];omega
 have abD: ¬(((p.length+kn:Nat):Int)>IntKind.i64.max):=by
  have:IntKind.i64.max=9223372036854775807:=by decide
  omega
 have Xm:IntKind.i64.wrap (kn:Int)=kn:=bj (by omega) (by omega)
 let q:Question:= .appendCap (p.length+kn) c' E
 let mZ:=q.cut (σ.w.tape σ.w.drawn q)
 have Xl:p.length+kn<=mZ:=by
  show _<=Question.cut (.appendCap (p.length+kn) c' E) _;simp only [Question.cut];omega
 let Z:=Builtin.zeroCells z.cells (mZ - (p.length+kn))
 let W:=Builtin.zeroCells z.cells kn
 have hZ:Z.size=(mZ - (p.length+kn))*z.cells.size:=by show (Builtin.zeroCells _ _).size=_;simp [Builtin.zeroCells]
 have hW:W.size=kn*z.cells.size:=by show (Builtin.zeroCells _ _).size=_;simp [Builtin.zeroCells]
 have BN:z.cells.size=Rp.sz α:=by rw [YL];simpa using hzl
 let Rl:List Value:=K++W.toList++Z.toList
 let w1:World:={ σ.w with drawn:=σ.w.drawn+1 }
 have hR:(K.toArray++W++Z)=Rl.toArray:=by
  apply qcf;simp [Rl]
 have hf1:=iR (P:=P) (σ:=σ) (v:=Sl lZ p c') qL hK3 w1 rfl;have wK:(askRoom (mZ*bt)).run P w1= .ok () w1:=by
  unfold askRoom;split <;> rfl
 have DU:(choose (.appendCap (p.length+kn) c' E)).run P σ.w= .ok mZ w1:=by
  simp [choose,Sem.run,Question.forced,mZ,q,w1]
 have Pr:(typeInfo E).run P=λw=> .ok i0 w:=by
  funext w;simp [typeInfo,rQ]
 obtain ⟨_,g1,g2,_,g3⟩:=km hg;have AB:0<kn:=by omega
 have hnz: ¬kn*Rp.sz α=0:=by
  have:=Rp.pos (α:=α);have:0<kn*Rp.sz α:=Nat.mul_pos AB this;omega
 have bP:(Builtin.append_ #[T,T'] ty #[Sl lZ p c',I (kn:Int)]).run P σ.w= .ok (Sl (some ⟨σ.size,0,none⟩) (p++List.replicate kn z0) mZ) (σ.new (.cells Rl.toArray E (0,0)) 1).w:=by
  simp only [Builtin.append_,qaw,qbn,List.getElem?_cons_succ,underlying,hT,nS,Sem.run_bind,run_program,Result.andThen_ok,Sem.run_pure,run_typeInfo YJ,asInt,asIntOf,Xm,Pr,hi4,
   su,if_true,qah,qa7,if_false,show¬((kn:Int)<0) by omega,hsm,qaz,abD,false_and,JW,DU,wK,hf1,hnz,mX YJ,Sl,qau,List.length_replicate]
  rw [show (K.toArray++Builtin.zeroCells z.cells kn++Builtin.zeroCells z.cells (mZ - (p.length+kn)))=Rl.toArray from hR]
  rfl
 have Xq:=σ.pE (.cells Rl.toArray E (0,0)) 1;have hE:=(σ.j4 (.cells Rl.toArray E (0,0)) 1).ext;have hOw:Ow (σ.new (.cells Rl.toArray E (0,0)) 1) σ.size el (Sl (some ⟨σ.size,0,none⟩) (p++List.replicate kn z0) mZ) (p++List.replicate kn z0):=by
  refine .inr ⟨σ.size,0,mZ,Rl.toArray,E,rfl,qa3 _,Xq,by simp;omega, ?_,σ.pF _ 1,λi hi=> ?_⟩
  ·simp only [Rl,qbl,qau,qL,Array.length_toList,hZ,hW,BN,qc0];rw [←Nat.add_mul, ←Nat.add_mul];exact qal _ (by omega)
  ·by_cases NB:i<p.length
   ·rw [qb3 NB];obtain ⟨cs,DT,TX⟩:=P0 i NB;refine At.pG Xq (Rp.ext hE DT) (λj hj=> ?_);have e2:=TX j hj;have bJ:=List.DL e2;simp only [Rl,qc0,qaw,List.append_assoc];rw [qbg bJ,e2]
   ·rw [qbe (by omega),List.getElem_replicate];simp only [qau,List.length_replicate] at hi;refine At.pG Xq (Rp.ext hE hz) (λj hj=> ?_);have e3:i*Rp.sz α+j=K.length+((i - p.length)*Rp.sz α+j):=by
     have:i*Rp.sz α=p.length*Rp.sz α+(i - p.length)*Rp.sz α:=by rw [←Nat.add_mul];congr 1;omega
     omega
    have bJ:(i - p.length)*Rp.sz α+j<W.toList.length:=by
     have hWl:W.toList.length=kn*Rp.sz α:=by rw [Array.length_toList,hW,BN]
     rw [hWl];have:(i - p.length+1)*Rp.sz α<=kn*Rp.sz α:=qal _ (by omega);rw [Nat.add_mul] at this;omega
    simp only [Rl,qc0,qaw,List.append_assoc];rw [e3,qbu (by omega),Nat.add_sub_cancel_left,qbg bJ,Array.getElem?_toList];have:=BO (zc:=z.cells) (m:=kn) (i:=i - p.length) (j:=j) (by omega) (by rw [BN];omega);rw [BN] at this;show (Builtin.zeroCells z.cells kn)[_]? =_;rw [Builtin.zeroCells,BN,this,YL];simp
 refine ⟨_,σ.new (.cells Rl.toArray E (0,0)) 1, ?_,σ.size,mZ,rfl,D1 H oJ (σ.j4 _ 1) hOw,(σ.j4 _ 1).md0⟩;simp only [AA,execOp,resolve,qbk,qbj,qbt,hx,hy,Sem.run_bind,Sem.run_pure,Result.andThen_ok,invoke,builtin,bP]
theorem Qn{n pl:Nat}{k:Int}(hp:(pl:Int)=n)(hb:decide (0<k)=true):(n:Int)<pl+k:=by
 have h2:0<k:=of_decide_eq_true hb;omega
end
end Go.Vs
namespace Go.Vs
structure Lc{α:Type}(cmp:α->α->Int)(xs:List α):Prop where
 irrefl: ∀x∈xs, ¬cmp x x<0
 trans: ∀x∈xs, ∀y∈xs, ∀z∈xs,cmp x y<0->cmp y z<0->cmp x z<0
 Qo: ∀x∈xs, ∀y∈xs, ¬cmp x y<0-> ¬cmp y x<0->x=y
def leC{α:Type}(cmp:α->α->Int)(x y:α):Bool:= !decide (cmp y x<0)
def lM{α:Type}(cmp:α->α->Int)(xs:List α):List α:=xs.mergeSort (leC cmp)
theorem B1{α:Type}{cmp:α->α->Int}{xs:List α}:(lM cmp xs).length=xs.length:=List.length_mergeSort _
theorem Lc.asymm{α:Type}{cmp:α->α->Int}{xs:List α}(h:Lc cmp xs){x y:α}(hx:x∈xs)(hy:y∈xs)(h1:cmp x y<0): ¬cmp y x<0:=
 λh2=>h.irrefl x hx (h.trans x hx y hy x hx h1 h2)
theorem Lc.Mp{α:Type}{cmp:α->α->Int}{xs:List α}(h:Lc cmp xs){x y z:α}(hx:x∈xs)(hy:y∈xs)(hz:z∈xs)(h1: ¬cmp y x<0)(h2: ¬cmp z y<0): ¬cmp z x<0:=by
 intro h3;by_cases a:cmp x y<0
 ·by_cases b:cmp y z<0
  ·exact h.asymm hx hz (h.trans x hx y hy z hz a b) h3
  ·have:=h.Qo y hy z hz b h2;subst this;exact h1 h3
 ·have:=h.Qo x hx y hy a h1;subst this;exact h2 h3
theorem Mq{α:Type}{cmp:α->α->Int}: ∀{l r:List α},Lc cmp l->r.Perm l->r.Pairwise (λx y=> ¬cmp y x<0)->l.Pairwise (λx y=> ¬cmp y x<0)->r=l
 | [],r,_,hp,_,_=>List.Perm.eq_nil hp
 | x::l,r,h,hp,hr,hl=>by
  cases r with
  | nil=>exact absurd hp.length_eq (by simp)
  | cons y r=>
   obtain ⟨hr1,hr2⟩:=qc5.1 hr;obtain ⟨tk,de⟩:=qc5.1 hl;have hy:y∈x::l:=hp.mem_iff.1 (by simp);have hx:x∈y::r:=hp.mem_iff.2 (by simp);have e:y=x:=by
    rcases qab.1 hx with e | uf
    ·exact e.symm
    rcases qab.1 hy with e | Y1
    ·exact e
    exact h.Qo y hy x (by simp) (tk y Y1) (hr1 x uf)
   subst e;have Qc:=(List.perm_cons y).1 hp;rw [Mq (l:=l) (r:=r) ⟨λa ha=>h.irrefl a (by simp [ha]),λa ha b hb c hc=>h.trans a (by simp [ha]) b (by simp [hb]) c (by simp [hc]),λa ha b hb=>h.Qo a (by simp [ha]) b (by simp [hb])⟩ Qc hr2 de]
theorem B2{α:Type}{cmp:α->α->Int}{xs:List α}(h:Lc cmp xs):(lM cmp xs).Pairwise (λx y=> ¬cmp y x<0):=by
 let e:{x // x∈xs}->{x // x∈xs}->Bool:=λa b=>leC cmp a.1 b.1
 have hs:=List.pairwise_mergeSort (le:=e) (λa b c h1 h2=>by
  simp only [e,leC,qbh,decide_eq_false_iff_not] at h1 h2 ⊢;exact h.Mp a.2 b.2 c.2 h1 h2) (λa b=>by
  simp only [e,leC,qc1,qbh,decide_eq_false_iff_not];by_cases hb:cmp b.1 a.1<0
  ·exact .inr (h.asymm b.2 a.2 hb)
  ·exact .inl hb) xs.attach
 have hm:lM cmp xs=(xs.attach.mergeSort e).map (·.1):=by
  unfold lM;have:=List.map_mergeSort (f:=λa:{x // x∈xs}=>a.1) (r:=e) (s:=leC cmp) (l:=xs.attach) (λa _ b _=>rfl);rw [this,List.attach_map_subtype_val]
 rw [hm,List.pairwise_map];refine hs.imp fun {a b} lL=> ?_;simpa [e,leC] using lL
theorem J5{α:Type}{cmp:α->α->Int}{xs r:List α}(h:Lc cmp xs)(hp:r.Perm xs)(hr:r.Pairwise (λx y=> ¬cmp y x<0)):r=lM cmp xs:=by
 have hps:(lM cmp xs).Perm xs:=List.mergeSort_perm _ _;have hm: ∀x,x∈lM cmp xs->x∈xs:=λx hx=>hps.mem_iff.1 hx;exact Mq ⟨λa ha=>h.irrefl a (hm a ha),λa ha b hb c hc=>h.trans a (hm a ha) b (hm b hb) c (hm c hc),λa ha b hb=>h.Qo a (hm a ha) b (hm b hb)⟩ (hp.trans hps.symm) hr (B2 h)
open Classical in
noncomputable def M.Hx{α:Type}(cmp:α->α->Option Int)(xs:List α):Option (List α):=
 if xs.length<=1000000/\(∀x∈xs, ∀y∈xs, ∃r,cmp x y=some r)/\Lc (λx y=>(cmp x y).getD 0) xs then some (lM (λx y=>(cmp x y).getD 0) xs) else none
theorem J6{α:Type}{cmp:α->α->Option Int}{xs r:List α}(h:M.Hx cmp xs=some r):xs.length<=1000000/\(∀x∈xs, ∀y∈xs, ∃r,cmp x y=some r)/\Lc (λx y=>(cmp x y).getD 0) xs/\r=lM (λx y=>(cmp x y).getD 0) xs:=by
 unfold M.Hx at h;split at h
 ·rename_i hc;exact ⟨hc.1,hc.2.1,hc.2.2,(qaa h).symm⟩
 ·cases h
theorem Hy{α:Type}{cmp:α->α->Option Int}{lt:α->α->Bool}{xs:List α}(hn:xs.length<=1000000)(hc: ∀x∈xs, ∀y∈xs, ∃r,cmp x y=some r/\decide (r<0)=lt x y)
  (hi: ∀x∈xs,lt x x=false) (ht: ∀x∈xs, ∀y∈xs, ∀z∈xs,lt x y=true->lt y z=true->lt x z=true) (ha: ∀x∈xs, ∀y∈xs,x≠y->lt x y=true\/lt y x=true):
  ∃r,M.Hx cmp xs=some r/\r.Perm xs/\r.Pairwise (λx y=>lt y x=false):=by
 have hv: ∀x∈xs, ∀y∈xs,(cmp x y).getD 0<0↔lt x y=true:=by
  intro x hx y hy;obtain ⟨r,h1,h2⟩:=hc x hx y hy;rw [h1, ←h2];simp
 have hL:Lc (λx y=>(cmp x y).getD 0) xs:=by
  refine ⟨λx hx h=> ?_,λx hx y hy z hz h1 h2=> ?_,λx hx y hy h1 h2=> ?_⟩
  ·rw [hv x hx x hx,hi x hx] at h;cases h
  ·exact (hv x hx z hz).2 (ht x hx y hy z hz ((hv x hx y hy).1 h1) ((hv y hy z hz).1 h2))
  ·refine qa8 λiH=> ?_;rcases ha x hx y hy iH with h | h
   ·exact h1 ((hv x hx y hy).2 h)
   ·exact h2 ((hv y hy x hx).2 h)
 have hp:(lM (λx y=>(cmp x y).getD 0) xs).Perm xs:=List.mergeSort_perm _ _;have Mr: ∀x∈xs, ∀y∈xs, ∃r,cmp x y=some r:=λx hx y hy=>by
  obtain ⟨r,h1,_⟩:=hc x hx y hy;exact ⟨r,h1⟩
 refine ⟨_,by unfold M.Hx;rw [if_pos ⟨hn,Mr,hL⟩],hp, ?_⟩
 ·have hs:=B2 hL;rw [qay] at hs ⊢;intro i j h1 h2 nT;have hx:=hp.mem_iff.1 (qai h1);have hy:=hp.mem_iff.1 (qai h2);have:=hs i j h1 h2 nT;rw [hv _ hy _ hx] at this;simpa using this
end Go.Vs
namespace Go.Vs
open Go
end Go.Vs
