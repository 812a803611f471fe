/- What a function of the program does to its memory, step by step. -/
import Derived.Test.YtbpbncjammigdaaGreatAl
import Derived.Tactics
import Derived.Deep.LoopGhost
import Derived.Deep.Quiet
import Derived.StillTail
import Derived.KernelRfl
import Derived.Laws.World
import Derived.Orders
import Derived.Laws.StructEq
set_option linter.unusedVariables false
set_option linter.unusedSimpArgs false
namespace Go.Vs
open Go
def upd(ρ:Nat->Value)(d:Nat)(v:Value):Nat->Value:=λt=>bif Nat.beq t d then v else ρ t
def fr(n:Nat)(ρ:Nat->Value):Act:=⟨Array.ofFn (n:=n) (λi=>ρ i.1),[]⟩
def look(n:Nat)(ρ:Nat->Value)(t:Nat):Value:=bif Nat.blt t n then ρ t else undef
def ev(n:Nat)(ρ:Nat->Value):Operand->Value
 | .tmp t=>look n ρ t
 | .const v=>v
 | .global g=> .pointer (some ⟨g,0,none⟩)
 | .func f=> .func (.func f) #[] #[]
def dZ(l:List Value):Nat->Value:=λt=>l.getD t undef
theorem Da{t n:Nat}(h:t<n):Nat.blt t n=true:=by simp [Nat.blt,Nat.ble_eq];omega
theorem vd{t n:Nat}(h: ¬t<n):Nat.blt t n=false:=by
 cases hb:Nat.blt t n with
 | false=>rfl
 | true=>simp only [Nat.blt,Nat.ble_eq] at hb;omega
theorem sG{t n:Nat}(h:t≠n):Nat.beq t n=false:=by
 cases hb:Nat.beq t n with
 | false=>rfl
 | true=>exact absurd (Nat.eq_of_beq_eq_true hb) h
theorem KL(n:Nat):Nat.beq n n=true:=Nat.beq_refl n
theorem uv{n t:Nat}(ρ:Nat->Value)(h:t<n):look n ρ t=ρ t:=by unfold look;rw [Da h];rfl
theorem KM{n t:Nat}(ρ:Nat->Value)(h: ¬t<n):look n ρ t=undef:=by unfold look;rw [vd h];rfl
theorem look_eq(n:Nat)(ρ:Nat->Value)(t:Nat):(fr n ρ).tmps.getD t undef=look n ρ t:=by
 by_cases h:t<n
 ·rw [uv ρ h];simp [fr,Array.getD,h]
 ·rw [KM ρ h];simp [fr,Array.getD,h]
theorem aO(n:Nat)(ρ:Nat->Value):(fr n ρ).eval=ev n ρ:=by
 funext x;cases x with
 | tmp t=>exact look_eq n ρ t
 | const v=>rfl
 | global g=>rfl
 | func f=>rfl
theorem cQ(n:Nat)(ρ:Nat->Value)(d:Nat)(v:Value):(fr n ρ).put (some d) v=fr n (upd ρ d v):=by
 unfold fr Act.put;simp only [Act.mk.injEq,and_true];apply Array.ext
 ·simp
 ·intro i h1 h2;simp only [Array.size_setIfInBounds,Array.size_ofFn] at h1;by_cases hd:d=i
  ·subst hd;simp [upd]
  ·simp [upd,sG (qbp hd),hd,h1]
theorem jJ(n:Nat)(ρ:Nat->Value)(v:Value):(fr n ρ).put none v=fr n ρ:=rfl
theorem nY(l:List Value)(n:Nat)(h:l.length<=n):
  (⟨l.toArray++Array.replicate (n - l.length) undef,[]⟩:Act)=fr n (dZ l):=by
 unfold fr;simp only [Act.mk.injEq,and_true];apply Array.ext
 ·simp;omega
 ·intro i h1 h2;simp only [Array.size_ofFn] at h2;by_cases hi:i<l.length
  ·simp [hi,dZ]
  ·simp [Array.getElem_append,hi,dZ]
def yv(ops:Array Oper)(n:Nat)(ρ:Nat->Value)(j:Nat):Option Bool:=
 match (ops[j]?).bind (·.dst) with
 | some d=>match look n ρ d with
  | .bool b=>some b
  | _=>none
 | none=>none
theorem dY(ops:Array Oper)(n:Nat)(ρ:Nat->Value):yielded ops (fr n ρ).tmps=yv ops n ρ:=by
 funext j;unfold yielded yv;cases h:(ops[j]?).bind (·.dst) with
 | none=>simp
 | some d=>
  simp only [qa0];by_cases hd:d<n
  ·have e1:(fr n ρ).tmps[d]? =some (ρ d):=by simp [fr,hd]
   rw [e1,uv ρ hd];cases ρ d <;> rfl
  ·have e1:(fr n ρ).tmps[d]? =none:=by simp [fr,hd]
   rw [e1,KM ρ hd];rfl
theorem O4{n:Nat}{ρ qB:Nat->Value}(h: ∀t,t<n->ρ t=qB t):fr n ρ=fr n qB:=by
 unfold fr;congr 1;exact congrArg _ (funext λi=>h i.1 i.2)
structure St where
 w:World
 fC:Nat->Nat
 ok: ∀b,w.heap.size<=b->fC b=0
 dI:Prop -- of the answers ah0 are drawn nothing is said any more
abbrev St.size(σ:St):Nat:=σ.w.heap.size
def St.cell(σ:St)(b o:Nat):Option Value:=σ.w.cell? ⟨b,o,none⟩
structure Ext(σ σ':St):Prop where
 size:σ.size<=σ'.size
 block: ∀b,0<σ.fC b->σ'.w.heap[b]? =σ.w.heap[b]?
 fC: ∀b,σ.fC b<=σ'.fC b
structure O5(B:Nat)(σ σ':St):Prop where
 os:σ'.w.os=σ.w.os
 tape:σ'.w.tape=σ.w.tape
 output:σ'.w.output=σ.w.output
 dr:σ.w.drawn<=σ'.w.drawn
 size:σ.size<=σ'.size
 block: ∀b,b<B->σ'.w.heap[b]? =σ.w.heap[b]?
 fC: ∀b,b<B->σ'.fC b=σ.fC b
 dI:σ'.dI=σ.dI
def St.mute(σ:St):St:=⟨σ.w,σ.fC,σ.ok,False⟩
theorem Ext.mute(σ:St):Ext σ σ.mute:=⟨qa3 _,λ_ _=>rfl,λ_=>qa3 _⟩
theorem Ext.refl(σ:St):Ext σ σ:=⟨qa3 _,λ_ _=>rfl,λ_=>qa3 _⟩
theorem Ext.trans{a b c:St}(h:Ext a b)(k:Ext b c):Ext a c:=
 ⟨qa8 h.size k.size,λx ho=>(k.block x (qa2 ho (h.fC x))).trans (h.block x ho),λx=>qa8 (h.fC x) (k.fC x)⟩
theorem cell_of_block{w w':World}{b:Nat}(h:w'.heap[b]? =w.heap[b]?)(o:Nat):w'.cell? ⟨b,o,none⟩=w.cell? ⟨b,o,none⟩:=by
 simp only [World.cell?, h]
theorem Ext.cell{σ σ':St}(h:Ext σ σ')(b o:Nat)(ho:o<σ.fC b):σ'.cell b o=σ.cell b o:=cell_of_block (h.block b (Nat.lt_of_le_of_lt (qaa _) ho)) o
theorem O5.ext{σ σ':St}(h:O5 σ.size σ σ'):Ext σ σ':=by
 refine ⟨h.size,λb ho=> ?_,λb=> ?_⟩
 ·by_cases hb:b<σ.size
  ·exact h.block b hb
  ·rw [σ.ok b (Nat.le_of_not_lt hb)] at ho;exact absurd ho (qar _)
 ·by_cases hb:b<σ.size
  ·exact qay (h.fC b hb).symm
  ·rw [σ.ok b (Nat.le_of_not_lt hb)];exact qaa _
def ei(P:Program)(H:Array Obj)(n:Nat)(ρ:Nat->Value)(o:Oper)(v:Value):Prop:=
 ∀w:World,w.heap=H->(execOp (ev n ρ) o).run P w= .ok (.value v) w
section steps
variable{P:Program}{ops:Array Oper}{Q:Exit->Act->World->Prop}{n d:Nat}{ρ:Nat->Value}{w:World}{v:Value}{rest:List Oper}
variable{op:Op}{ty:TypeId}{pos:String}{af:Array Edge}{gd:Option (Nat×Bool)}{H:Array Obj}
theorem aI(o:Oper)(h:o.guard=none)(y:Nat->Option Bool):Region.wanted o y=true:=by simp [Region.wanted,h]
theorem aS{o:Oper}{j:Nat}{b:Bool}{y:Nat->Option Bool}(h:o.guard=some (j,b))(hy:y j=some b):Region.wanted o y=true:=by
 simp [Region.wanted,h,hy]
theorem ur{o:Oper}{j:Nat}{b:Bool}{y:Nat->Option Bool}(h:o.guard=some (j,b))(hy:y j=some (!b)):Region.wanted o y=false:=by
 cases b <;> simp [Region.wanted,h,hy]
theorem GK{o:Oper}{j:Nat}{b:Bool}{y:Nat->Option Bool}(h:o.guard=some (j,b))(hy:y j=none):Region.wanted o y=false:=by
 simp [Region.wanted,h,hy]
theorem As(hw:Region.wanted ⟨some d,op,ty,pos,af,gd⟩ (yv ops n ρ)=true)
  (hr:ei P w.heap n ρ ⟨some d,op,ty,pos,af,gd⟩ v)
  (k:wpList P ops Q rest (fr n (upd ρ d v)) w):
  wpList P ops Q (⟨some d,op,ty,pos,af,gd⟩::rest) (fr n ρ) w:=by
 unfold wpList;rw [dY,if_pos hw];refine .inl ?_;unfold Oper.wp;rw [aO,hr w rfl];simp only [Oper.upon_value,cQ];exact k
theorem st(hr:ei P w.heap n ρ ⟨some d,op,ty,pos,af,none⟩ v)
 (k:wpList P ops Q rest (fr n (upd ρ d v)) w):
 wpList P ops Q (⟨some d,op,ty,pos,af,none⟩::rest) (fr n ρ) w:=As rfl hr k
theorem cm{j:Nat}{b:Bool}(hy:yv ops n ρ j=some b)(hr:ei P w.heap n ρ ⟨some d,op,ty,pos,af,some (j,b)⟩ v)
 (k:wpList P ops Q rest (fr n (upd ρ d v)) w):
 wpList P ops Q (⟨some d,op,ty,pos,af,some (j,b)⟩::rest) (fr n ρ) w:=As (aS rfl hy) hr k
theorem ak{j:Nat}{b:Bool}(hy:yv ops n ρ j=some (!b))
  (k:wpList P ops Q rest (fr n (upd ρ d undef)) w):
  wpList P ops Q (⟨some d,op,ty,pos,af,some (j,b)⟩::rest) (fr n ρ) w:=by
 unfold wpList;rw [dY,ur rfl hy,if_neg (by simp),cQ];exact k
theorem gD{j:Nat}{b:Bool}(hy:yv ops n ρ j=none)
  (k:wpList P ops Q rest (fr n (upd ρ d undef)) w):
  wpList P ops Q (⟨some d,op,ty,pos,af,some (j,b)⟩::rest) (fr n ρ) w:=by
 unfold wpList;rw [dY,GK rfl hy,if_neg (by simp),cQ];exact k
end steps
section aaB
variable{P:Program}{Q:Exit->Act->World->Prop}{n:Nat}{ρ:Nat->Value}{w:World}
theorem uq{c:Operand}{x y:Code}(b:Bool)(hc:ev n ρ c= .bool b)(ht:b=true->x.wp P Q (fr n ρ) w)(hf:b=false->y.wp P Q (fr n ρ) w):
 (Code.cond c x y).wp P Q (fr n ρ) w:=wp_cond_split (by rw [aO];exact hc) ht hf
theorem enter{f:FuncId}{fn:Func}{c:Code}{l:List Value}{R:Ending->World->Prop}(hf:P.funcs[f]? =some fn)(hb:fn.body=some c)(hn:fn.ntmps=n)(hl:Nat.ble l.length n=true)
  (h:c.wp P (bodyPost P fn R) (fr n (dZ l)) w):Calls P f l.toArray w R:=by
 refine calls_of_wp hf hb ?_;have:=nY l n (by simpa using hl);simp only [qbj,hn,this];exact h
end aaB
end Go.Vs
namespace Go.Vs
open Go
abbrev I(n:Int):Value:= .int .i64 n
abbrev B(b:Bool):Value:= .bool b
def av(n:Int):Int:=IntKind.i64.wrap n
theorem aT{n:Int}(h1: -9223372036854775808<=n)(h2:n<=9223372036854775807):av n=n:=by
 simp only [av,IntKind.wrap,IntKind.bits,IntKind.signed,qbt,decide_eq_true_eq,ge_iff_le];have e1:((2:Int)^(64:Nat))=18446744073709551616:=by decide
 have e2:((2:Int)^(64 - 1:Nat))=9223372036854775808:=by decide
 rw [e1,e2];split <;> omega
structure TI(P:Program)(t:TypeId)(z:Value)(s b:Nat):Prop where
 it: ∃i,P.info? t=some i/\i.zero=some z/\i.size=s/\i.bytes=b
theorem TI.mk'{P:Program}{t:TypeId}{z:Value}{s b:Nat}(h:(P.info? t).map (λi=>(i.zero,i.size,i.bytes))=some (some z,s,b)):TI P t z s b:=by
 cases e:P.info? t with
 | none=>rw [e] at h;simp at h
 | some i=>
  rw [e] at h;simp only [qab,qac,qcd] at h;exact ⟨i,e,h.1,h.2.1,h.2.2⟩
section
variable{P:Program}{H:Array Obj}{n:Nat}{ρ:Nat->Value}{d:Option Nat}{ty T T':TypeId}{pos:String}{af:Array Edge}{gd:Option (Nat×Bool)}{x y c:Operand}{v u:Value}{a b:Int}{p q r:Bool}
theorem ai(h:ev n ρ x=v):ei P H n ρ ⟨d, .move x,ty,pos,af,gd⟩ v:=λw _=>by simp [execOp,h]
theorem uu(h:ev n ρ x=v):ei P H n ρ ⟨d, .assign x,ty,pos,af,gd⟩ v:=λw _=>by simp [execOp,h]
theorem aR(hc:ev n ρ c=B true)(h:ev n ρ x=v):ei P H n ρ ⟨d, .pick c x y,ty,pos,af,gd⟩ v:=λw _=>by simp [execOp,h,hc,asBool]
theorem aH(hc:ev n ρ c=B false)(h:ev n ρ y=v):ei P H n ρ ⟨d, .pick c x y,ty,pos,af,gd⟩ v:=λw _=>by simp [execOp,h,hc,asBool]
theorem bU(hx:ev n ρ x=I a)(hy:ev n ρ y=I b):ei P H n ρ ⟨d, .binOp .add T x y T',ty,pos,af,gd⟩ (I (av (a+b))):=λw _=>by
 simp [execOp,hx,hy,eqGuard,binOp,Op.intArith,av]
theorem iL(hx:ev n ρ x=I a)(hy:ev n ρ y=I b):ei P H n ρ ⟨d, .binOp .sub T x y T',ty,pos,af,gd⟩ (I (av (a - b))):=λw _=>by
 simp [execOp,hx,hy,eqGuard,binOp,Op.intArith,av]
theorem vz(hx:ev n ρ x=I a)(hy:ev n ρ y=I b):ei P H n ρ ⟨d, .binOp .mul T x y T',ty,pos,af,gd⟩ (I (av (a*b))):=λw _=>by
 simp [execOp,hx,hy,eqGuard,binOp,Op.intArith,av]
theorem Jb(hx:ev n ρ x=I a)(hy:ev n ρ y=I b)(h0:b≠0):ei P H n ρ ⟨d, .binOp .quo T x y T',ty,pos,af,gd⟩ (I (av (a.tdiv b))):=λw _=>by
 simp [execOp,hx,hy,eqGuard,binOp,Op.intDiv,av,h0]
theorem O6(hx:ev n ρ x=I a)(hy:ev n ρ y=I b)(h0:b≠0):ei P H n ρ ⟨d, .binOp .rem T x y T',ty,pos,af,gd⟩ (I (a.tmod b)):=λw _=>by
 simp [execOp,hx,hy,eqGuard,binOp,Op.intDiv,h0]
theorem kz(hx:ev n ρ x=I a)(hy:ev n ρ y=I b):ei P H n ρ ⟨d, .binOp .eql T x y T',ty,pos,af,gd⟩ (B (a==b)):=λw _=>by
 simp [execOp,hx,hy,eqGuard,binOp,Op.intCmp]
theorem lU(hx:ev n ρ x=I a)(hy:ev n ρ y=I b):ei P H n ρ ⟨d, .binOp .neq T x y T',ty,pos,af,gd⟩ (B (a != b)):=λw _=>by
 simp [execOp,hx,hy,eqGuard,binOp,Op.intCmp]
theorem bJ(hx:ev n ρ x=I a)(hy:ev n ρ y=I b):ei P H n ρ ⟨d, .binOp .lss T x y T',ty,pos,af,gd⟩ (B (decide (a<b))):=λw _=>by
 simp [execOp,hx,hy,eqGuard,binOp,Op.intCmp]
theorem mB(hx:ev n ρ x=I a)(hy:ev n ρ y=I b):ei P H n ρ ⟨d, .binOp .leq T x y T',ty,pos,af,gd⟩ (B (decide (a<=b))):=λw _=>by
 simp [execOp,hx,hy,eqGuard,binOp,Op.intCmp]
theorem jK(hx:ev n ρ x=I a)(hy:ev n ρ y=I b):ei P H n ρ ⟨d, .binOp .gtr T x y T',ty,pos,af,gd⟩ (B (decide (b<a))):=λw _=>by
 simp [execOp,hx,hy,eqGuard,binOp,Op.intCmp]
theorem rP(hx:ev n ρ x=I a)(hy:ev n ρ y=I b):ei P H n ρ ⟨d, .binOp .geq T x y T',ty,pos,af,gd⟩ (B (decide (b<=a))):=λw _=>by
 simp [execOp,hx,hy,eqGuard,binOp,Op.intCmp]
theorem XD(hx:ev n ρ x=I a):ei P H n ρ ⟨d, .unOp .neg T x,ty,pos,af,gd⟩ (I (av (0 - a))):=λw _=>by
 simp [execOp,hx,Op.unary,Op.intArith,av]
theorem cE(hx:ev n ρ x=B p):ei P H n ρ ⟨d, .unOp .not T x,ty,pos,af,gd⟩ (B (!p)):=λw _=>by
 simp [execOp,hx,Op.unary]
theorem vA{vs:Array Value}{k:Nat}(hx:ev n ρ x= .tuple vs)(hv:vs[k]? =some v):ei P H n ρ ⟨d, .extract x k,ty,pos,af,gd⟩ v:=λw _=>by
 simp [execOp,hx,Instr.extract,hv]
theorem fI{ad:Addr}(hx:ev n ρ x= .pointer (some ad)):ei P H n ρ ⟨d, .nilCheck x,ty,pos,af,gd⟩ (.pointer (some ad)):=λw _=>by
 simp [execOp,hx]
theorem bK{m:Nat}{E:TypeId}{ad:Option Addr}{cp:Nat}(hT:P.underlying T=some (.slice E))(hx:ev n ρ x= .slice ad m cp):
  ei P H n ρ ⟨d, .call ⟨.builtin .len, #[x], #[T]⟩,ty,pos,af,gd⟩ (I m):=λw _=>by
 simp [execOp,resolve,invoke,builtin,Builtin.len_,hx,underlying,hT,goInt]
theorem Eu(hx:ev n ρ x=I a)(hy:ev n ρ y=I b):ei P H n ρ ⟨d, .call ⟨.builtin .max, #[x,y], #[T,T']⟩,ty,pos,af,gd⟩ (I (max a b)):=λw _=>by
 simp [execOp,resolve,invoke,builtin,Builtin.max_,Builtin.max2,hx,hy];split <;> omega
theorem Jc(hx:ev n ρ x=I a)(hy:ev n ρ y=I b):ei P H n ρ ⟨d, .call ⟨.builtin .min, #[x,y], #[T,T']⟩,ty,pos,af,gd⟩ (I (min a b)):=λw _=>by
 simp [execOp,resolve,invoke,builtin,Builtin.min_,Builtin.min2,hx,hy];split <;> omega
abbrev pt(bl o:Nat):Value:= .pointer (some ⟨bl,o,none⟩)
theorem add_plain(bl o k:Nat):(⟨bl,o,none⟩:Addr).add k=⟨bl,o+k,none⟩:=by
 unfold Addr.add;split <;> simp_all
theorem run_typeInfo{t:TypeId}{z:Value}{s bt:Nat}(h:TI P t z s bt)(w:World):(sizeOf t).run P w= .ok s w:=by
 obtain ⟨i,h1,h2,h3,h4⟩:=h.it;simp [sizeOf,typeInfo,h1,h3]
theorem oI{t:TypeId}{z:Value}{s bt:Nat}(h:TI P t z s bt)(w:World):(zeroValue t).run P w= .ok z w:=by
 obtain ⟨i,h1,h2,h3,h4⟩:=h.it;simp [zeroValue,typeInfo,h1,h2]
theorem aj{fs:Array Field}{k bl o off ft:Nat}{z:Value}{s bt:Nat}(hT:P.underlying T=some (.struct fs))(hf:(fs[k]?).map (λf=>(f.offset,f.type))=some (off,ft))
  (hi:TI P ft z s bt) (hs:Nat.beq s 0=false) (hx:ev n ρ x=pt bl o):ei P H n ρ ⟨d, .fieldAddr T x k,ty,pos,af,gd⟩ (pt bl (o+off)):=λw _=>by
 cases hfk:fs[k]? with
 | none=>rw [hfk] at hf;cases hf
 | some f=>
  rw [hfk] at hf;simp only [qab,qac,qcd] at hf;obtain ⟨rfl,rfl⟩:=hf;have D8:s≠0:=by rintro rfl;cases hs
  simp [execOp,hx,Instr.fieldAt,underlying,hT,hfk,Instr.sureAddr,fieldPlace,run_typeInfo hi,D8,add_plain]
theorem Ev{E m:Nat}{xs:List Int}{e:Int}{z:Value}{bt:Nat}(hT:P.underlying T=some (.array m E))(hi:TI P E z 1 bt)(hE:P.underlying E=some (.int .i64))
  (hx:ev n ρ x= .agg (xs.map I).toArray) (hy:ev n ρ y=I a) (h0:0<=a) (h1:a.toNat<m) (he:xs[a.toNat]? =some e):ei P H n ρ ⟨d, .index T x y,ty,pos,af,gd⟩ (I e):=λw _=>by
 have h2:a<(m:Int):=by omega
 have xJ:(isAgg E).run P w= .ok false w:=by
  simp only [isAgg,underlying,Sem.run_bind,run_program,Result.andThen_ok,hE,Sem.run_pure]
 simp [execOp,hx,hy,Instr.index,asIntOf,underlying,hT,h0,h2,run_typeInfo hi,part,xJ,he]
theorem vB{E:TypeId}{bl o m cp:Nat}{z:Value}{s bt:Nat}(hT:P.underlying T=some (.slice E))(hi:TI P E z s bt)
  (hx:ev n ρ x= .slice (some ⟨bl,o,none⟩) m cp) (hy:ev n ρ y=I a) (h0:0<=a) (h1:a.toNat<m):
  ei P H n ρ ⟨d, .indexAddr T x y,ty,pos,af,gd⟩ (pt bl (o+a.toNat*s)):=λw _=>by
 have h2:a<(m:Int):=by omega
 simp [execOp,hx,hy,Instr.indexAt,asIntOf,underlying,hT,h0,h2,run_typeInfo hi,add_plain]
theorem fA{E:TypeId}{bl o m:Nat}{z:Value}{s bt:Nat}(hT:P.underlying T=some (.array m E))(hi:TI P E z s bt)
  (hx:ev n ρ x=pt bl o) (hy:ev n ρ y=I a) (h0:0<=a) (h1:a.toNat<m):
  ei P H n ρ ⟨d, .indexAddr T x y,ty,pos,af,gd⟩ (pt bl (o+a.toNat*s)):=λw _=>by
 have h2:a<(m:Int):=by omega
 simp [execOp,hx,hy,Instr.indexAt,asIntOf,underlying,hT,h0,h2,run_typeInfo hi,add_plain,Instr.sureAddr]
def iW(H:Array Obj)(b o:Nat):Option Value:=match H[b]? with
 | some (.cells c _ _)=>c[o]?
 | _=>none
theorem il(w:World)(b o:Nat):iW w.heap b o=w.cell? ⟨b,o,none⟩:=by
 unfold iW World.cell?;cases h:w.heap[b]? with
 | none=>rfl
 | some ob=>cases ob <;> rfl
theorem an{bl o:Nat}{D:TypeDesc}(hT:P.underlying T=some D)(hD:(match D with | .struct _=>false | .array _ _=>false | _=>true)=true)
  (hx:ev n ρ x=pt bl o) (hc:iW H bl o=some v):ei P H n ρ ⟨d, .load T x,ty,pos,af,gd⟩ v:=λw hw=>by
 subst hw;rw [il] at hc;have:(isAgg T).run P w= .ok false w:=by
  simp only [isAgg,underlying,Sem.run_bind,run_program,Result.andThen_ok,hT,Sem.run_pure];cases D <;> simp_all
 simp [execOp,hx,Instr.loadAt,Instr.sureAddr,loadVar,this,load,Sem.run,hc]
theorem run_loadCellsFrom(w:World)(bl o:Nat): ∀(k i:Nat) (cs acc:List Value),cs.length=k->(∀j,(h:j<cs.length)->w.cell? ⟨bl,o+(i+j),none⟩=some cs[j])->
  (loadCellsFrom ⟨bl,o,none⟩ i k acc.toArray).run P w= .ok (acc++cs).toArray w
 | 0,i,cs,acc,hk,_=>by
  have:cs=[]:=qb2 hk;subst this;simp [loadCellsFrom]
 | k+1,i,[],acc,hk,_=>by simp at hk
 | k+1,i,c::cs,acc,hk,hc=>by
  have h0:=hc 0 (by simp);simp only [Nat.add_zero,List.getElem_cons_zero] at h0;have ih:=run_loadCellsFrom w bl o k (i+1) cs (acc++[c]) (by simpa using hk) (λj hj=>by
   have:=hc (j+1) (by simpa using hj);simpa [Nat.add_assoc,Nat.add_comm 1 j] using this)
  simp only [loadCellsFrom,Sem.run_bind,load,add_plain,Sem.run,h0,Result.andThen_ok];have e:acc.toArray.push c=(acc++[c]).toArray:=by simp
  rw [e,ih];simp
theorem bo{bl o:Nat}{D:TypeDesc}{cs:List Value}{z:Value}{s bt:Nat}(hT:P.underlying T=some D)(hD:(match D with | .struct _=>false | .array _ _=>false | _=>true)=false)
  (hi:TI P T z s bt) (hx:ev n ρ x=pt bl o) (hl:cs.length=s) (hc: ∀j,(h:j<cs.length)->iW H bl (o+j)=some cs[j]):ei P H n ρ ⟨d, .load T x,ty,pos,af,gd⟩ (.agg cs.toArray):=λw hw=>by
 subst hw;have:(isAgg T).run P w= .ok true w:=by
  simp only [isAgg,underlying,Sem.run_bind,run_program,Result.andThen_ok,hT,Sem.run_pure];cases D <;> simp_all
 have:=run_loadCellsFrom (P:=P) w bl o s 0 cs [] hl (λj hj=>by rw [←il];simpa using hc j hj);simp [execOp,Instr.loadAt,Instr.sureAddr,loadVar, *, loadCells,run_typeInfo hi]
end
end Go.Vs
namespace Go.Vs
open Go
def plain:Value->Bool
 | .agg _ | .tuple _=>false
 | _=>true
structure Mk(lo:Nat)(σ σ':St):Prop where
 block: ∀b,lo<=b->0<σ.fC b->σ'.w.heap[b]? =σ.w.heap[b]?
 fC: ∀b,lo<=b->σ.fC b<=σ'.fC b
theorem Ext.uM{σ σ':St}(h:Ext σ σ')(lo:Nat):Mk lo σ σ':=⟨λb _ ho=>h.block b ho,λb _=>h.fC b⟩
theorem Mk.cell{lo:Nat}{σ σ':St}(h:Mk lo σ σ')(b o:Nat)(hb:lo<=b)(ho:o<σ.fC b):σ'.cell b o=σ.cell b o:=cell_of_block (h.block b hb (Nat.lt_of_le_of_lt (qaa _) ho)) o
class Rp(α:Type) where
 sz:Nat
 rp:Nat->St->List Value->α->Prop
 pos:0<sz
 len: ∀{lo:Nat} {σ:St} {cs:List Value} {x:α},rp lo σ cs x->cs.length=sz
 uM: ∀{lo:Nat} {σ σ':St} {cs:List Value} {x:α},Mk lo σ σ'->rp lo σ cs x->rp lo σ' cs x
 low: ∀{lo nK:Nat} {σ:St} {cs:List Value} {x:α},nK<=lo->rp lo σ cs x->rp nK σ cs x
 one: ∀{lo:Nat} {σ:St} {cs:List Value} {x:α},rp lo σ cs x-> ∀c∈cs,plain c=true
theorem Rp.ext{α:Type}[Rp α]{lo:Nat}{σ σ':St}{cs:List Value}{x:α}(hE:Ext σ σ')(h:Rp.rp lo σ cs x):Rp.rp lo σ' cs x:=Rp.uM (hE.uM lo) h
instance:Rp Int where
 sz:=1
 rp _ _ cs x:=cs=[I x]
 pos:=by decide
 len:=by rintro _ _ _ _ rfl;rfl
 uM:=λ_ h=>h
 low:=λ_ h=>h
 one:=by rintro _ _ _ _ rfl;simp [plain]
instance{α β:Type}[Rp α][Rp β]:Rp (α×β) where
 sz:=Rp.sz α+Rp.sz β
 rp lo σ cs x:= ∃c1 c2,cs=c1++c2/\Rp.rp lo σ c1 x.1/\Rp.rp lo σ c2 x.2
 pos:=Nat.add_pos_left Rp.pos _
 len:=by rintro _ _ _ _ ⟨c1,c2,rfl,h1,h2⟩;rw [qap,Rp.len h1,Rp.len h2]
 uM:=by rintro _ _ _ _ _ hE ⟨c1,c2,rfl,h1,h2⟩;exact ⟨c1,c2,rfl,Rp.uM hE h1,Rp.uM hE h2⟩
 low:=by rintro _ _ _ _ _ hl ⟨c1,c2,rfl,h1,h2⟩;exact ⟨c1,c2,rfl,Rp.low hl h1,Rp.low hl h2⟩
 one:=by
  rintro _ _ _ _ ⟨c1,c2,rfl,h1,h2⟩ c hc;rcases qag.1 hc with h | h
  ·exact Rp.one h1 c h
  ·exact Rp.one h2 c h
section
variable{α β:Type}[Rp α][Rp β]
def At(el:Nat)(σ:St)(b o:Nat)(x:α):Prop:= ∃cs,Rp.rp el σ cs x/\ ∀j,(h:j<cs.length)->σ.cell b (o+j)=some cs[j]
theorem At.ext{el:Nat}{σ σ':St}{b o:Nat}{x:α}(h:At el σ b o x)(hs:o+Rp.sz α<=σ.fC b)(hE:Ext σ σ'):At el σ' b o x:=by
 obtain ⟨cs,h1,h2⟩:=h;refine ⟨cs,Rp.ext hE h1,λj hj=> ?_⟩;have:=Rp.len h1;rw [hE.cell b (o+j) (by omega)];exact h2 j hj
theorem At.fst{el:Nat}{σ:St}{b o:Nat}{x:α×β}(h:At el σ b o x):At el σ b o x.1:=by
 obtain ⟨cs,⟨c1,c2,rfl,h1,h2⟩,h3⟩:=h;refine ⟨c1,h1,λj hj=> ?_⟩;rw [h3 j (by rw [qap];omega),qb1 hj]
theorem At.snd{el:Nat}{σ:St}{b o:Nat}{x:α×β}(h:At el σ b o x):At el σ b (o+Rp.sz α) x.2:=by
 obtain ⟨cs,⟨c1,c2,rfl,h1,h2⟩,h3⟩:=h;refine ⟨c2,h2,λj hj=> ?_⟩;have hl:=Rp.len h1;have:=h3 (c1.length+j) (by rw [qap];omega);rw [Nat.add_assoc, ←hl,this,qb6 (by omega)];simp
def RS(el:Nat)(σ:St)(v:Value)(xs:List α):Prop:=
 ((∃ad c,v= .slice ad 0 c)/\xs=[])\/ ∃b o c,v= .slice (some ⟨b,o,none⟩) xs.length c/\el<=b/\xs.length<=c/\o+xs.length*Rp.sz α<=σ.fC b/\
  ∀i,(h:i<xs.length)->At el σ b (o+i*Rp.sz α) xs[i]
def Rd(el:Nat)(σ:St)(v:Value)(xs:List α):Prop:=
 ((∃ad c,v= .slice ad 0 c)/\xs=[])\/ ∃b o c,v= .slice (some ⟨b,o,none⟩) xs.length c/\ ∀i,(h:i<xs.length)->At el σ b (o+i*Rp.sz α) xs[i]
def Ow(σ:St)(lo el:Nat)(v:Value)(xs:List α):Prop:=
 (v= .slice none 0 0/\xs=[])\/ ∃b o c C T,v= .slice (some ⟨b,o,none⟩) xs.length c/\lo<=b/\σ.w.heap[b]? =some (.cells C T (0,0))/\xs.length<=c/\
  o+c*Rp.sz α<=C.size/\σ.fC b=0/\ ∀i,(h:i<xs.length)->At el σ b (o+i*Rp.sz α) xs[i]
def blk:Value->Option Nat
 | .slice (some a) _ _=>some a.block
 | _=>none
theorem RS.nil{el:Nat}{σ:St}:RS el σ (.slice none 0 0) ([]:List α):= .inl ⟨⟨_,_,rfl⟩,rfl⟩
theorem Ow.nil{el:Nat}{σ:St}{lo:Nat}:Ow σ lo el (.slice none 0 0) ([]:List α):= .inl ⟨rfl,rfl⟩
theorem RS.rd{el:Nat}{σ:St}{v:Value}{xs:List α}(h:RS el σ v xs):Rd el σ v xs:=by
 rcases h with h | ⟨b,o,c,h1,_,_,h2,h3⟩
 ·exact .inl h
 ·exact .inr ⟨b,o,c,h1,h3⟩
theorem Ow.rd{el:Nat}{σ:St}{lo:Nat}{v:Value}{xs:List α}(h:Ow σ lo el v xs):Rd el σ v xs:=by
 rcases h with h | ⟨b,o,c,C,T,h1,h2,h3,h4,h5,h6,h7⟩
 ·exact .inl ⟨⟨_,_,h.1⟩,h.2⟩
 ·exact .inr ⟨b,o,c,h1,h7⟩
theorem RS.ext{el:Nat}{σ σ':St}{v:Value}{xs:List α}(h:RS el σ v xs)(hE:Ext σ σ'):RS el σ' v xs:=by
 rcases h with h | ⟨b,o,c,h1,hb,hc,h2,h3⟩
 ·exact .inl h
 ·refine .inr ⟨b,o,c,h1,hb,hc,qa8 h2 (hE.fC b),λi hi=>(h3 i hi).ext ?_ hE⟩;have:(i+1)*Rp.sz α<=xs.length*Rp.sz α:=qam _ hi;rw [Nat.add_mul] at this;omega
def Tf(v:Value)(m:Nat):Prop:= ∃ad c,v= .slice ad m c
theorem Rd.pI{el:Nat}{σ:St}{v:Value}{xs:List α}(h:Rd el σ v xs):Tf v xs.length:=by
 rcases h with ⟨⟨ad,c,rfl⟩,rfl⟩ | ⟨b,o,c,h1,_⟩
 ·exact ⟨ad,c,rfl⟩
 ·exact ⟨_,_,h1⟩
theorem RS.pI{el:Nat}{σ:St}{v:Value}{xs:List α}(h:RS el σ v xs):Tf v xs.length:=h.rd.pI
theorem Ow.pI{el:Nat}{σ:St}{lo:Nat}{v:Value}{xs:List α}(h:Ow σ lo el v xs):Tf v xs.length:=h.rd.pI
theorem RS.uM{el:Nat}{σ σ':St}{v:Value}{xs:List α}(h:RS el σ v xs)(hE:Mk el σ σ'):RS el σ' v xs:=by
 rcases h with h | ⟨b,o,c,h1,hb,hc,h2,h3⟩
 ·exact .inl h
 ·refine .inr ⟨b,o,c,h1,hb,hc,qa8 h2 (hE.fC b hb),λi hi=> ?_⟩;obtain ⟨cs,h4,h5⟩:=h3 i hi;refine ⟨cs,Rp.uM hE h4,λj hj=> ?_⟩;have:(i+1)*Rp.sz α<=xs.length*Rp.sz α:=qam _ hi;rw [Nat.add_mul] at this;have hl:=Rp.len h4;rw [hE.cell b _ hb (by omega)];exact h5 j hj
theorem At.low{lo nK:Nat}{σ:St}{b o:Nat}{x:α}(hl:nK<=lo)(h:At lo σ b o x):At nK σ b o x:=by
 obtain ⟨cs,h1,h2⟩:=h;exact ⟨cs,Rp.low hl h1,h2⟩
theorem RS.low{lo nK:Nat}{σ:St}{v:Value}{xs:List α}(h:RS lo σ v xs)(hl:nK<=lo):RS nK σ v xs:=by
 rcases h with h | ⟨b,o,c,h1,hb,hc,h2,h3⟩
 ·exact .inl h
 ·exact .inr ⟨b,o,c,h1,qa8 hl hb,hc,h2,λi hi=>(h3 i hi).low hl⟩
instance:Rp (List α) where
 sz:=1
 rp lo σ cs x:= ∃v,cs=[v]/\RS lo σ v x
 pos:=by decide
 len:=by rintro _ _ _ _ ⟨v,rfl,_⟩;rfl
 uM:=by rintro _ _ _ _ _ hE ⟨v,rfl,h⟩;exact ⟨v,rfl,h.uM hE⟩
 low:=by rintro _ _ _ _ _ hl ⟨v,rfl,h⟩;exact ⟨v,rfl,h.low hl⟩
 one:=by
  rintro _ _ _ _ ⟨v,rfl,h⟩ c hc;obtain ⟨ad,cp,hv⟩:=h.pI;simp only [qaz] at hc;rw [hc,hv];rfl
omit [Rp α] in
theorem List.Ew{xs:List α}{i:Nat}{e:α}(h:xs[i]? =some e):i<xs.length:=(qbd.1 h).1
def aZ{α:Type}(xs:List α)(a:Int):Option α:=if 0<=a then xs[a.toNat]? else none
omit [Rp α] in
theorem j9{xs:List α}{a:Int}{e:α}(h:aZ xs a=some e):0<=a/\ ∃h:a.toNat<xs.length,xs[a.toNat]=e:=by
 unfold aZ at h;split at h
 ·rename_i h0;obtain ⟨h1,h2⟩:=qbd.1 h;exact ⟨h0,h1,h2⟩
 ·cases h
structure Ix(v:Value)(a:Int)(s b o:Nat):Prop where
 it: ∃ob m c,v= .slice (some ⟨b,ob,none⟩) m c/\0<=a/\a.toNat<m/\o=ob+a.toNat*s
theorem Rd.ix{el:Nat}{σ:St}{v:Value}{xs:List α}{a:Int}{e:α}(h:Rd el σ v xs)(hg:aZ xs a=some e): ∃b o,Ix v a (Rp.sz α) b o/\At el σ b o e:=by
 obtain ⟨h0,h1,h2⟩:=j9 hg;rcases h with ⟨_,rfl⟩ | ⟨b,o,c,hv,hc⟩
 ·simp at h1
 ·exact ⟨b,o+a.toNat*Rp.sz α,⟨o,_,c,hv,h0,h1,rfl⟩,h2▸hc _ h1⟩
theorem RS.ix{el:Nat}{σ:St}{v:Value}{xs:List α}{a:Int}{e:α}(h:RS el σ v xs)(hg:aZ xs a=some e): ∃b o,Ix v a (Rp.sz α) b o/\At el σ b o e:=h.rd.ix hg
theorem Ow.ix{el:Nat}{σ:St}{lo:Nat}{v:Value}{xs:List α}{a:Int}{e:α}(h:Ow σ lo el v xs)(hg:aZ xs a=some e): ∃b o,Ix v a (Rp.sz α) b o/\At el σ b o e:=h.rd.ix hg
theorem At.int{el:Nat}{σ:St}{b o:Nat}{x:Int}(h:At el σ b o x):iW σ.w.heap b o=some (I x):=by
 obtain ⟨cs,rfl,h2⟩:=h;rw [il];exact h2 0 (by simp)
theorem At.slice{el:Nat}{σ:St}{b o:Nat}{xs:List α}(h:At el σ b o xs): ∃v,iW σ.w.heap b o=some v/\RS el σ v xs:=by
 obtain ⟨cs,⟨v,rfl,hR⟩,h2⟩:=h;exact ⟨v,by rw [il];exact h2 0 (by simp),hR⟩
theorem At.cells{el:Nat}{σ:St}{b o:Nat}{x:α}(h:At el σ b o x): ∃cs,Rp.rp el σ cs x/\cs.length=Rp.sz α/\ ∀j,(hj:j<cs.length)->iW σ.w.heap b (o+j)=some cs[j]:=by
 obtain ⟨cs,h1,h2⟩:=h;exact ⟨cs,h1,Rp.len h1,λj hj=>by rw [il];exact h2 j hj⟩
end
section
variable{P:Program}{H:Array Obj}{n:Nat}{ρ:Nat->Value}{d:Option Nat}{ty T T' E:TypeId}{pos:String}{af:Array Edge}{gd:Option (Nat×Bool)}{x y:Operand}{v:Value}{a:Int}{m b o s bt:Nat}{z:Value}
theorem bI(hT:P.underlying T=some (.slice E))(hi:TI P E z s bt)(hx:ev n ρ x=v)(hy:ev n ρ y=I a)(h:Ix v a s b o):
  ei P H n ρ ⟨d, .indexAddr T x y,ty,pos,af,gd⟩ (pt b o):=by
 obtain ⟨ob,m,c,rfl,h0,h1,rfl⟩:=h.it;exact vB hT hi hx hy h0 h1
end
end Go.Vs
namespace Go.Vs
open Go
structure Oth(S:Option Nat)(σ σ':St):Prop where
 block: ∀b,b<σ.size->S≠some b->σ'.w.heap[b]? =σ.w.heap[b]?
 fC: ∀b,b<σ.size->S≠some b->σ'.fC b=σ.fC b
structure Mod(S:Option Nat)(σ σ':St):Prop where
 os:σ'.w.os=σ.w.os
 tape:σ'.w.tape=σ.w.tape
 output:σ'.w.output=σ.w.output
 dr:σ.w.drawn<=σ'.w.drawn
 dI:σ'.dI=σ.dI
 ext:Ext σ σ'
 VS:Oth S σ σ'
theorem Mod.refl(S:Option Nat)(σ:St):Mod S σ σ:=⟨rfl,rfl,rfl,qa3 _,rfl,Ext.refl _,⟨λ_ _ _=>rfl,λ_ _ _=>rfl⟩⟩
theorem Mod.size{S:Option Nat}{σ σ':St}(h:Mod S σ σ'):σ.size<=σ'.size:=h.ext.size
theorem Mod.step{S S':Option Nat}{a b c:St}(h:Mod S a b)(k:Mod S' b c)(hs:S'=none\/S'=S\/ ∀i,S'=some i->a.size<=i):Mod S a c:=by
 have key: ∀i,i<a.size->S≠some i->S'≠some i:=by
  intro i hi jv;rcases hs with rfl | rfl | hs
  ·simp
  ·exact jv
  ·intro e;have:=hs i e;omega
 exact ⟨k.os.trans h.os,k.tape.trans h.tape,k.output.trans h.output,qa8 h.dr k.dr,k.dI.trans h.dI,h.ext.trans k.ext,
  λi hi jv=>(k.VS.block i (qa2 hi h.size) (key i hi jv)).trans (h.VS.block i hi jv),
  λi hi jv=>(k.VS.fC i (qa2 hi h.size) (key i hi jv)).trans (h.VS.fC i hi jv)⟩
theorem O5.mod{σ σ':St}(h:O5 σ.size σ σ')(S:Option Nat):Mod S σ σ':=⟨h.os,h.tape,h.output,h.dr,h.dI,h.ext,λb hb _=>h.block b hb,λb hb _=>h.fC b hb⟩
theorem At.same{el:Nat}{α:Type}[Rp α]{σ σ':St}{b o:Nat}{x:α}(h:At el σ b o x)(hE:Ext σ σ')(hb:σ'.w.heap[b]? =σ.w.heap[b]?):At el σ' b o x:=by
 obtain ⟨cs,h1,h2⟩:=h;exact ⟨cs,Rp.ext hE h1,λj hj=>by rw [show σ'.cell b (o+j)=σ.cell b (o+j) from cell_of_block hb _];exact h2 j hj⟩
theorem lt_of_block{w:World}{b:Nat}{o:Obj}(h:w.heap[b]? =some o):b<w.heap.size:=(qa1.1 h).1
def Bx(σ:St)(b:Nat)(cs:List Value):Prop:= ∃T,σ.w.heap[b]? =some (.cells cs.toArray T (0,0))/\σ.fC b=0
theorem Bx.lt{σ:St}{b:Nat}{cs:List Value}(h:Bx σ b cs):b<σ.size:=lt_of_block h.choose_spec.1
theorem Ow.lt{el:Nat}{α:Type}[Rp α]{σ:St}{lo:Nat}{v:Value}{xs:List α}(h:Ow σ lo el v xs): ∀b,blk v=some b->b<σ.size:=by
 rcases h with ⟨rfl,_⟩ | ⟨b,o,c,C,T,rfl,h2,h3,_⟩
 ·intro b h;cases h
 ·intro b' h;cases h;exact lt_of_block h3
theorem Ow.ge{el:Nat}{α:Type}[Rp α]{σ:St}{lo:Nat}{v:Value}{xs:List α}(h:Ow σ lo el v xs): ∀b,blk v=some b->lo<=b:=by
 rcases h with ⟨rfl,_⟩ | ⟨b,o,c,C,T,rfl,h2,h3,_⟩
 ·intro b h;cases h
 ·intro b' h;cases h;exact h2
theorem Ow.lo{el:Nat}{α:Type}[Rp α]{σ:St}{lo nK:Nat}{v:Value}{xs:List α}(h:Ow σ lo el v xs)(hl:nK<=lo):Ow σ nK el v xs:=by
 rcases h with h | ⟨b,o,c,C,T,h1,h2,h3⟩
 ·exact .inl h
 ·exact .inr ⟨b,o,c,C,T,h1,qa8 hl h2,h3⟩
def World.mk'(w:World)(o:Obj)(k:Nat):World:={ w with heap:=w.heap.push o,drawn:=w.drawn+k }
def St.new(σ:St)(o:Obj)(k:Nat):St:=⟨World.mk' σ.w o k,σ.fC,λb hb=>σ.ok b (by
 have:(σ.w.heap.push o).size<=b:=hb;rw [Array.size_push] at this;omega),σ.dI⟩
theorem St.GL(σ:St)(o:Obj)(k:Nat):(σ.new o k).size=σ.size+1:=by show (σ.w.heap.push o).size=_;simp
theorem St.Th(σ:St)(o:Obj)(k b:Nat)(h:b<σ.size):(σ.new o k).w.heap[b]? =σ.w.heap[b]? :=by
 show (σ.w.heap.push o)[b]? =_;rw [qbv,if_neg (by have:b<σ.w.heap.size:=h;omega)]
theorem St.rQ(σ:St)(o:Obj)(k:Nat):(σ.new o k).w.heap[σ.size]? =some o:=by
 show (σ.w.heap.push o)[σ.w.heap.size]? =_;simp
theorem St.O7(σ:St)(o:Obj)(k:Nat):O5 σ.size σ (σ.new o k):=
 ⟨rfl,rfl,rfl,Nat.le_add_right _ _,by rw [St.GL];omega,λb hb=>σ.Th o k b hb,λ_ _=>rfl,rfl⟩
theorem St.lg(σ:St)(o:Obj)(k:Nat):Mod none σ (σ.new o k):=(St.O7 σ o k).mod none
theorem St.rR(σ:St)(o:Obj)(k:Nat):(σ.new o k).fC σ.size=0:=σ.ok _ (qa3 _)
def wr(C:Array Value)(k:Nat):List Value->Array Value
 | []=>C
 | v::r=>wr (C.setIfInBounds k v) (k+1) r
theorem KN(vs:List Value): ∀(C:Array Value) (k:Nat),(wr C k vs).size=C.size:=by
 induction vs with
 | nil=>intro C k;rfl
 | cons v r ih=>intro C k;rw [wr,ih];simp
theorem GM(vs:List Value): ∀(C:Array Value) (k j:Nat),j<k->(wr C k vs)[j]? =C[j]? :=by
 induction vs with
 | nil=>intro C k j _;rfl
 | cons v r ih=>
  intro C k j h;rw [wr,ih _ _ _ (by omega),qah,if_neg (by omega)]
theorem O8(vs:List Value): ∀(C:Array Value) (k j:Nat),k+vs.length<=j->(wr C k vs)[j]? =C[j]? :=by
 induction vs with
 | nil=>intro C k j _;rfl
 | cons v r ih=>
  intro C k j h;simp only [qbb] at h;rw [wr,ih _ _ _ (by omega),qah,if_neg (by omega)]
theorem O9(vs:List Value): ∀(C:Array Value) (k j:Nat),k+vs.length<=C.size->(h:j<vs.length)->(wr C k vs)[k+j]? =some vs[j]:=by
 induction vs with
 | nil=>intro C k j _ h;simp at h
 | cons v r ih=>
  intro C k j hs h;simp only [qbb] at hs h;cases j with
  | zero=>
   rw [wr,GM _ _ _ _ (by omega),qah,if_pos (by omega),if_pos (by omega)]
   rfl
  | succ j=>
   have:=ih (C.setIfInBounds k v) (k+1) j (by simp;omega) (by omega);rw [wr,show k+(j+1)=k+1+j by omega,this]
   rfl
def World.put(w:World)(b:Nat)(o:Obj):World:={ w with heap:=w.heap.setIfInBounds b o }
theorem World.Pa{w:World}{b:Nat}{o:Obj}(h:w.heap[b]? =some o):World.put w b o=w:=by
 obtain ⟨hb,e⟩:=qa1.1 h;unfold World.put;have:w.heap.setIfInBounds b o=w.heap:=by
  apply Array.ext_getElem?;intro i;rw [qah];split
  ·rename_i hi;subst hi;rw [h]
  ·rfl
 rw [this]
theorem World.tM{w:World}{b:Nat}(o:Obj)(h:b<w.heap.size):(World.put w b o).heap[b]? =some o:=by
 show (w.heap.setIfInBounds b o)[b]? =_;rw [qah,if_pos rfl,if_pos h]
theorem World.Pd{w:World}{b c:Nat}(o:Obj)(h:b≠c):(World.put w b o).heap[c]? =w.heap[c]? :=by
 show (w.heap.setIfInBounds b o)[c]? =_;rw [qah,if_neg h]
theorem World.Ti(w:World)(b:Nat)(o o':Obj):World.put (World.put w b o) b o'=World.put w b o':=by
 unfold World.put;have:(w.heap.setIfInBounds b o).setIfInBounds b o'=w.heap.setIfInBounds b o':=by
  apply Array.ext_getElem?;intro i;simp only [qah,Array.size_setIfInBounds];split
  ·rfl
  ·rfl
 rw [this]
theorem World.GN(w:World)(b:Nat)(o:Obj):(World.put w b o).heap.size=w.heap.size:=by
 show (w.heap.setIfInBounds b o).size=_;simp
theorem GO{w:World}{b k:Nat}{C:Array Value}{T:TypeId}(h:w.heap[b]? =some (.cells C T (0,0)))(v:Value):
  w.setCell ⟨b,k,none⟩ v=World.put w b (.cells (C.setIfInBounds k v) T (0,0)):=by
 obtain ⟨hb,e⟩:=qa1.1 h;unfold World.setCell World.put;simp only [qbl,qa7,if_false];congr 1;apply Array.ext_getElem?;intro i;rw [qc1,qah];split
 ·rename_i hi;subst hi;rw [h];simp
 ·rfl
theorem im{P:Program}(b o:Nat)(T:TypeId): ∀(vs:List Value) (i:Nat) (w:World) (C:Array Value),w.heap[b]? =some (.cells C T (0,0))->
  o+i+vs.length<=C.size->(∀v∈vs,plain v=true)->
  (storeCells ⟨b,o,none⟩ vs i).run P w= .ok () (World.put w b (.cells (wr C (o+i) vs) T (0,0)))
 | [],i,w,C,h,_,_=>by
  simp only [storeCells,wr,World.Pa h];rfl
 | v::r,i,w,C,h,hs,hp=>by
  simp only [qbb] at hs;have hv:=hp v (by simp);have hb:=lt_of_block h;have hc:w.cell? ⟨b,o+i,none⟩=C[o+i]? :=by simp [World.cell?, h]
  have RX:C[o+i]? =some C[o+i]:=by rw [qa1];exact ⟨by omega,rfl⟩
  have hf:w.frozen? ⟨b,o+i,none⟩=false:=by simp [World.frozen?, h]
  have ih:=im (P:=P) b o T r (i+1) (World.put w b (.cells (C.setIfInBounds (o+i) v) T (0,0))) (C.setIfInBounds (o+i) v)
   (World.tM _ hb) (by simp;omega) (λu hu=>hp u (by simp [hu]))
  have bH:(store ((⟨b,o,none⟩:Addr).add i) v).run P w= .ok () (World.put w b (.cells (C.setIfInBounds (o+i) v) T (0,0))):=by
   rw [add_plain];cases v <;> first | (simp [plain] at hv;done) | (simp only [store,Sem.run,hc,RX,hf,GO h];rfl)
  simp only [storeCells,Sem.run_bind,bH,Result.andThen_ok,ih,World.Ti];rw [wr];rfl
def St.put(σ:St)(b:Nat)(o:Obj):St:=⟨World.put σ.w b o,σ.fC,λc hc=>σ.ok c (by rw [World.GN] at hc;exact hc),σ.dI⟩
theorem St.Ey{σ:St}{b:Nat}{o:Obj}(h:σ.fC b=0):Ext σ (σ.put b o):=by
 refine ⟨qay (World.GN _ _ _).symm,λc hk=> ?_,λ_=>qa3 _⟩;by_cases hc:b=c
 ·subst hc;rw [h] at hk;exact absurd hk (qar _)
 ·exact World.Pd o hc
theorem St.Tj{σ:St}{b:Nat}{o:Obj}:Oth (some b) σ (σ.put b o):=
 ⟨λc _ jv=>World.Pd o (λe=>jv (by rw [e])),λ_ _ _=>rfl⟩
theorem St.wF{σ:St}{b:Nat}{o:Obj}(h:σ.fC b=0):Mod (some b) σ (σ.put b o):=⟨rfl,rfl,rfl,qa3 _,rfl,St.Ey h,St.Tj⟩
def St.OT(σ:St)(b e:Nat)(hb:b<σ.size):St:=⟨σ.w,λc=>if c=b then max (σ.fC b) e else σ.fC c,λc hc=>by
 rw [if_neg (by have:σ.size<=c:=hc;omega)];exact σ.ok c hc,σ.dI⟩
theorem St.Ez{σ:St}{b e:Nat}(hb:b<σ.size):Ext σ (σ.OT b e hb):=by
 refine ⟨qa3 _,λ_ _=>rfl,λc=> ?_⟩;show _<=(if c=b then max (σ.fC b) e else σ.fC c);split
 ·rename_i h;subst h;omega
 ·exact qa3 _
end Go.Vs
namespace Go.Vs
open Go
section
variable{P:Program}{ops:Array Oper}{Q:Exit->Act->World->Prop}{n d:Nat}{ρ:Nat->Value}{σ:St}{v:Value}{rest:List Oper}
variable{ty T T' E:TypeId}{pos:String}{af:Array Edge}{x y:Operand}{a:Int}
def B9(P:Program)(w:World)(n:Nat)(ρ:Nat->Value)(o:Oper)(v:Value)(w':World):Prop:=(execOp (ev n ρ) o).run P w= .ok (.value v) w'
def Pe(P:Program)(w:World)(n:Nat)(ρ:Nat->Value)(o:Oper)(w':World):Prop:=(execOp (ev n ρ) o).run P w= .ok .skip w'
theorem adR{op:Op}{gd:Option (Nat×Bool)}{w w':World}(hw:Region.wanted ⟨some d,op,ty,pos,af,gd⟩ (yv ops n ρ)=true)(hr:B9 P w n ρ ⟨some d,op,ty,pos,af,gd⟩ v w')
  (k:wpList P ops Q rest (fr n (upd ρ d v)) w'):wpList P ops Q (⟨some d,op,ty,pos,af,gd⟩::rest) (fr n ρ) w:=by
 unfold wpList;rw [dY,if_pos hw];refine .inl ?_;unfold Oper.wp;rw [aO,hr];simp only [Oper.upon_value,cQ];exact k
theorem adS{op:Op}{gd:Option (Nat×Bool)}{w w':World}(hw:Region.wanted ⟨none,op,ty,pos,af,gd⟩ (yv ops n ρ)=true)(hr:Pe P w n ρ ⟨none,op,ty,pos,af,gd⟩ w')
  (k:wpList P ops Q rest (fr n ρ) w'):wpList P ops Q (⟨none,op,ty,pos,af,gd⟩::rest) (fr n ρ) w:=by
 unfold wpList;rw [dY,if_pos hw];refine .inl ?_;unfold Oper.wp;rw [aO,hr];simp only [Oper.upon_skip,jJ];exact k
def EA(cs:List Value)(k:Nat):List Value->List Value
 | []=>cs
 | v::r=>EA (cs.set k v) (k+1) r
theorem KO(vs:List Value): ∀(cs:List Value) (k:Nat),wr cs.toArray k vs=(EA cs k vs).toArray:=by
 induction vs with
 | nil=>intro cs k;rfl
 | cons v r ih=>intro cs k;rw [wr,EA, ←ih];simp
theorem Pf{f:FuncId}{args:List Value}{xs:Array Operand}{Ts:Array TypeId}{dst:Option Nat}{gd:Option (Nat×Bool)}{w:World}
  (hf: ∃fn c,P.funcs[f]? =some fn/\(fn.name== "runtime.NumGoroutine")=false/\fn.body=some c) (hx:xs.toList.map (ev n ρ)=args):
  (execOp (ev n ρ) ⟨dst, .call ⟨.value (.func f),xs,Ts⟩,ty,pos,af,gd⟩).run P w= .ok (.enter f args.toArray) w:=by
 obtain ⟨fn,c,h1,h2,h3⟩:=hf;replace hx:xs.map (ev n ρ)=args.toArray:=by rw [←hx, ←Array.toList_map]
 simp only [execOp,resolve,ev,Deferred.ofValue,Sem.run_bind,Sem.run_pure,Result.andThen_ok,invoke,callFunc,run_program,hx,h1,h2,h3];simp
end
section
variable{P:Program}{Q:Exit->Act->World->Prop}{n:Nat}{ρ:Nat->Value}{σ:St}{w:World}
theorem rg{id:Nat}{l:List Oper}(h:wpList P l.toArray Q l (fr n ρ) w):(Code.region id l.toArray false).wp P Q (fr n ρ) w:=wp_region_lit h
end
end Go.Vs
namespace Go.Vs
open Go
abbrev Sl{α:Type}(a:Option Addr)(xs:List α)(c:Nat):Value:= .slice a xs.length c
section
variable{α:Type}[Rp α]
theorem Rd.row{el:Nat}{σ:St}{v:Value}{xs:List α}(h:Rd el σ v xs): ∃L:List Value,L.length=xs.length*Rp.sz α/\
  (∀i,(hi:i<xs.length)-> ∃cs,Rp.rp el σ cs xs[i]/\ ∀j,(hj:j<cs.length)->L[i*Rp.sz α+j]? =some cs[j])/\
  (((∃ad c,v= .slice ad 0 c)/\xs=[])\/ ∃b o c,v= .slice (some ⟨b,o,none⟩) xs.length c/\ ∀j,(hj:j<L.length)->σ.w.cell? ⟨b,o+j,none⟩=some L[j]):=by
 rcases h with ⟨hv,rfl⟩ | ⟨b,o,c,rfl,h⟩
 ·exact ⟨[],by simp,λi hi=>by simp at hi, .inl ⟨hv,rfl⟩⟩
 ·have key: ∀k,k<xs.length*Rp.sz α-> ∃u,σ.w.cell? ⟨b,o+k,none⟩=some u:=by
   intro k hk;have hp:0<Rp.sz α:=Rp.pos;have hq:k / Rp.sz α<xs.length:=(Nat.div_lt_iff_lt_mul hp).2 hk;obtain ⟨cs,h1,h2⟩:=h _ hq;have hm:=Nat.mod_lt k hp;have:=h2 (k % Rp.sz α) (by rw [Rp.len h1];exact hm);have e:o+k / Rp.sz α*Rp.sz α+k % Rp.sz α=o+k:=by
    have:=Nat.div_add_mod k (Rp.sz α);rw [Nat.mul_comm] at this;omega
   rw [e] at this;exact ⟨_,this⟩
  refine ⟨(List.range (xs.length*Rp.sz α)).map λk=>(σ.w.cell? ⟨b,o+k,none⟩).getD undef,by simp,λi hi=> ?_, .inr ⟨b,o,c,rfl,λj hj=> ?_⟩⟩
  ·obtain ⟨cs,h1,h2⟩:=h i hi;refine ⟨cs,h1,λj hj=> ?_⟩;have hl:=Rp.len h1;have:(i+1)*Rp.sz α<=xs.length*Rp.sz α:=qam _ hi;rw [Nat.add_mul] at this;have e:=h2 j hj;rw [Nat.add_assoc] at e;simp only [List.getElem?_map];rw [List.getElem?_range (by omega)];simp only [qab];rw [show σ.w.cell? ⟨b,o+(i*Rp.sz α+j),none⟩=some cs[j] from e]
   rfl
  ·simp only [qbq,List.length_range] at hj;obtain ⟨u,hu⟩:=key j hj;simp [hu]
theorem Rd.plain{el:Nat}{σ:St}{xs:List α}{L:List Value}(h1:L.length=xs.length*Rp.sz α)
  (h2: ∀i,(hi:i<xs.length)-> ∃cs,Rp.rp el σ cs xs[i]/\ ∀j,(hj:j<cs.length)->L[i*Rp.sz α+j]? =some cs[j]): ∀u∈L,plain u=true:=by
 intro u hu;obtain ⟨k,hk,rfl⟩:=qan.1 hu;have hp:0<Rp.sz α:=Rp.pos;have hq:k / Rp.sz α<xs.length:=(Nat.div_lt_iff_lt_mul hp).2 (by omega);obtain ⟨cs,h3,h4⟩:=h2 _ hq;have hm:=Nat.mod_lt k hp;have:=h4 (k % Rp.sz α) (by rw [Rp.len h3];exact hm);have e:k / Rp.sz α*Rp.sz α+k % Rp.sz α=k:=by
  have:=Nat.div_add_mod k (Rp.sz α);rw [Nat.mul_comm] at this;omega
 rw [e,qau hk] at this;rw [qaf this];exact Rp.one h3 _ (qae _)
theorem jL{P:Program}{σ:St}{v:Value}{xs:List α}{L:List Value}(h1:L.length=xs.length*Rp.sz α)
  (h:((∃ad c,v= .slice ad 0 c)/\xs=[])\/ ∃b o c,v= .slice (some ⟨b,o,none⟩) xs.length c/\ ∀j,(hj:j<L.length)->σ.w.cell? ⟨b,o+j,none⟩=some L[j]) (w:World) (hw:w.heap=σ.w.heap):
  (Builtin.firstCells (Rp.sz α) xs.length v).run P w= .ok L.toArray w:=by
 rcases h with ⟨⟨ad,c,rfl⟩,rfl⟩ | ⟨b,o,c,rfl,h⟩
 ·have:L=[]:=qb2 (by simpa using h1);subst this;cases ad with
  | none=>rfl
  | some a=>simp only [List.length_nil,Builtin.firstCells,loadCells,Nat.zero_mul];rfl
 ·have:=run_loadCellsFrom (P:=P) w b o (xs.length*Rp.sz α) 0 L [] h1 (λj hj=>by
   have:=h j hj;simp only [qc3];rw [←this];simp only [World.cell?, hw])
  simpa [Builtin.firstCells,loadCells] using this
theorem Db(need:Nat): ∀(r c:Nat),c<=2*need+300->Builtin.growBy need r c<=2*need+300
 | 0,c,h=>by simpa [Builtin.growBy] using h
 | r+1,c,h=>by
  unfold Builtin.growBy;split
  ·exact h
  ·exact Db need r _ (by omega)
theorem nextslicecap_le{need c:Nat}(h:c<need):Builtin.nextslicecap need c<=2*need+300:=by
 unfold Builtin.nextslicecap;split
 ·omega
 ·split
  ·omega
  ·exact Db _ _ _ (by omega)
theorem At.put{el:Nat}{σ:St}{b o:Nat}{C C':Array Value}{T:TypeId}{x:α}(h:At el σ b o x)(hb:σ.w.heap[b]? =some (.cells C T (0,0)))(hv:σ.fC b=0)
  (hC: ∀j,j<Rp.sz α->C'[o+j]? =C[o+j]?):At el (σ.put b (.cells C' T (0,0))) b o x:=by
 obtain ⟨cs,h1,h2⟩:=h;refine ⟨cs,Rp.ext (St.Ey hv) h1,λj hj=> ?_⟩;have e:=h2 j hj;have e1:(σ.put b (.cells C' T (0,0))).cell b (o+j)=C'[o+j]? :=by
  show (World.put σ.w b _).cell? _=_;simp only [World.cell?, World.tM _ (lt_of_block hb),qbl,qa7,if_false]
 have e2:σ.cell b (o+j)=C[o+j]? :=by
  show σ.w.cell? _=_;simp only [World.cell?, hb,qbl,qa7,if_false]
 rw [e1,hC j (by rw [←Rp.len h1];exact hj), ←e2,e]
theorem At.rS{el:Nat}{σ:St}{b o:Nat}{C:Array Value}{T:TypeId}{f:Nat×Nat}{x:α}{cs:List Value}(hb:σ.w.heap[b]? =some (.cells C T f))(hr:Rp.rp el σ cs x)
  (hC: ∀j,(hj:j<cs.length)->C[o+j]? =some cs[j]):At el σ b o x:=by
 refine ⟨cs,hr,λj hj=> ?_⟩;show σ.w.cell? _=_;simp only [World.cell?, hb,qbl,qa7,if_false];exact hC j hj
end
section
variable{P:Program}{ops:Array Oper}{Q:Exit->Act->World->Prop}{n d:Nat}{ρ:Nat->Value}{σ:St}{u v:Value}{rest:List Oper}
variable{ty T T' E E':TypeId}{pos:String}{af:Array Edge}{x y:Operand}{a:Int}{α:Type}[Rp α]{xs ys:List α}{z:Value}{s bt lo:Nat}
theorem Jd{el:Nat}(hT:P.underlying T=some (.slice E))(qC:P.underlying T'=some (.slice E'))(hi:TI P E z s bt)(hs:s=Rp.sz α)(CV:z.cells.size=s)(Tk:bt<=1024)
  (hO:Ow σ lo el v xs) (hS:Rd el σ u ys) (hlen:xs.length+ys.length<=2147483648) (qj:lo<=σ.size):
  ∃a' c' σ',(Builtin.append_ #[T,T'] ty #[v,u]).run P σ.w= .ok (Sl a' (xs++ys) c') σ'.w/\Mod (blk v) σ σ'/\Ow σ' lo el (Sl a' (xs++ys) c') (xs++ys)/\
   (blk (Sl a' (xs++ys) c')=blk v\/ ∀b,blk (Sl a' (xs++ys) c')=some b->σ.size<=b)/\ ∀ad0 m0 cp0,v= .slice ad0 m0 cp0->xs.length+ys.length<=cp0->c'=cp0:=by
 obtain ⟨i0,uw,yK,NG,hi4⟩:=hi.it;have XE:=hi;obtain ⟨L,hL1,hL2,hL3⟩:=hS.row;obtain ⟨K,tN,Pg,hK3⟩:=hO.rd.row;have Ir:=Rd.plain hL1 hL2;subst hs;have Je: ∀w,(Builtin.lenOf u).run P w= .ok ys.length w:=by
  intro w;obtain ⟨ad,c,rfl⟩:=hS.pI
  rfl
 obtain ⟨ad,cp,SI⟩:=hO.pI;by_cases uN:xs.length+ys.length<=cp
 ·
  rcases hO with ⟨rfl,rfl⟩ | ⟨b,o,c,C,T0,rfl,h2,h3,h4,h5,h6,h7⟩
  ·cases SI;have hy:ys=[]:=qb2 (by simpa using uN);subst hy;refine ⟨none,0,σ, ?_,Mod.refl _ _,Ow.nil, .inl rfl,by rintro _ _ _ ⟨⟩ _;rfl⟩;have hf:=jL (P:=P) hL1 hL3 σ.w rfl;simp only [List.length_nil] at hf;simp only [Builtin.append_,qax,qbk,List.getElem?_cons_succ,underlying,hT,qC,Sem.run_bind,run_program,Result.andThen_ok,Sem.run_pure,run_typeInfo XE,Je,
    if_true,qa7,if_false,Bool.not_false,List.length_nil,Nat.add_zero,qa3,hf]
   rfl
  ·cases SI;have Mg:o+xs.length*Rp.sz α+L.length<=C.size:=by
    have:(xs.length+ys.length)*Rp.sz α<=cp*Rp.sz α:=qam _ uN;rw [Nat.add_mul] at this;omega
   have er:=im (P:=P) b (o+xs.length*Rp.sz α) T0 L 0 σ.w C h3 (by simpa using Mg) Ir;simp only [Nat.add_zero] at er;refine ⟨some ⟨b,o,none⟩,cp,σ.put b (.cells (wr C (o+xs.length*Rp.sz α) L) T0 (0,0)), ?_, ?_, ?_, .inl rfl,by rintro _ _ _ ⟨⟩ _;rfl⟩
   ·simp only [Builtin.append_,qax,qbk,List.getElem?_cons_succ,underlying,hT,qC,Sem.run_bind,run_program,Result.andThen_ok,Sem.run_pure,run_typeInfo XE,Je,
     uN,if_true,qa7,if_false,Bool.not_false,jL hL1 hL3 σ.w rfl,add_plain,er,Sl,qap]
    rfl
   ·exact St.wF h6
   ·refine .inr ⟨b,o,cp,_,T0,rfl,h2,World.tM _ (lt_of_block h3),by rw [qap];exact uN,by rw [KN];exact h5,h6,λi hi=> ?_⟩;by_cases Ml:i<xs.length
    ·rw [qb1 Ml];have:(i+1)*Rp.sz α<=xs.length*Rp.sz α:=qam _ Ml;rw [Nat.add_mul] at this;exact (h7 i Ml).put h3 h6 (λj hj=>GM _ _ _ _ (by omega))
    ·rw [qb6 (by omega)];rw [qap] at hi;obtain ⟨cs,EB,RY⟩:=hL2 (i - xs.length) (by omega);refine At.rS (World.tM _ (lt_of_block h3)) (Rp.ext (St.Ey h6) EB) (λj hj=> ?_);have hl:=Rp.len EB;have bs:(i - xs.length)*Rp.sz α+j<L.length:=by
      have:(i - xs.length+1)*Rp.sz α<=ys.length*Rp.sz α:=qam _ (by omega);rw [Nat.add_mul] at this;omega
     have e:=O9 L C (o+xs.length*Rp.sz α) ((i - xs.length)*Rp.sz α+j) Mg bs;have e2:=RY j hj;rw [qau bs] at e2;have e3:o+i*Rp.sz α+j=o+xs.length*Rp.sz α+((i - xs.length)*Rp.sz α+j):=by
      have:i*Rp.sz α=xs.length*Rp.sz α+(i - xs.length)*Rp.sz α:=by rw [←Nat.add_mul];congr 1;omega
      omega
     rw [e3,e,e2]
 ·
  have hn:=nextslicecap_le (need:=xs.length+ys.length) (c:=cp) (by omega);have Jf: ¬Builtin.nextslicecap (xs.length+ys.length) cp*bt>2^48:=by
   have h1:Builtin.nextslicecap (xs.length+ys.length) cp*bt<=(2*(xs.length+ys.length)+300)*1024:=Nat.mul_le_mul hn Tk;have h2:(2:Nat)^48=281474976710656:=by decide
   omega
  have aaC: ¬(((xs.length+ys.length:Nat):Int)>IntKind.i64.max/\(false=true\/bt=0)):=by
   have:IntKind.i64.max=9223372036854775807:=by decide
   omega
  have aaD: ¬(((xs.length+ys.length:Nat):Int)>IntKind.i64.max):=by
   have:IntKind.i64.max=9223372036854775807:=by decide
   omega
  let q:Question:= .appendCap (xs.length+ys.length) cp E
  let pJ:=q.cut (σ.w.tape σ.w.drawn q)
  have VT:xs.length+ys.length<=pJ:=by
   show _<=Question.cut (.appendCap (xs.length+ys.length) cp E) _;simp only [Question.cut];omega
  let Z:=Builtin.zeroCells z.cells (pJ - (xs.length+ys.length))
  have hZ:Z.size=(pJ - (xs.length+ys.length))*z.cells.size:=by show (Builtin.zeroCells _ _).size=_;simp [Builtin.zeroCells]
  let R:List Value:=K++L++Z.toList
  let w1:World:={ σ.w with drawn:=σ.w.drawn+1 }
  have hR:(K.toArray++L.toArray++Z)=R.toArray:=by
   apply qch;simp [R]
  have hf1:=jL (P:=P) (σ:=σ) (v:=v) tN hK3 w1 rfl;have hf2:=jL (P:=P) (σ:=σ) (v:=u) hL1 hL3 w1 rfl;have yM:(askRoom (pJ*bt)).run P w1= .ok () w1:=by
   unfold askRoom;split <;> rfl
  have Ej:(choose (.appendCap (xs.length+ys.length) cp E)).run P σ.w= .ok pJ w1:=by
   simp [choose,Sem.run,Question.forced,pJ,q,w1]
  have NH:(typeInfo E).run P=λw=> .ok i0 w:=by
   funext w;simp [typeInfo,uw]
  have bH:(Builtin.append_ #[T,T'] ty #[v,u]).run P σ.w= .ok (Sl (some ⟨σ.size,0,none⟩) (xs++ys) pJ) (σ.new (.cells R.toArray E (0,0)) 1).w:=by
   subst SI;simp only [Builtin.append_,qax,qbk,List.getElem?_cons_succ,underlying,hT,qC,Sem.run_bind,run_program,Result.andThen_ok,Sem.run_pure,run_typeInfo XE,Je,
    uN,if_true,qa7,if_false,Bool.not_false,aaD,false_and,NH,hi4,Jf,Ej,yM,hf1,hf2,oI XE,Sl,qap]
   rw [show (K.toArray++L.toArray++Builtin.zeroCells z.cells (pJ - (xs.length+ys.length)))=R.toArray from hR]
   rfl
  have zd:=σ.rQ (.cells R.toArray E (0,0)) 1;refine ⟨_,pJ,_,bH,(σ.lg _ 1).step (Mod.refl _ _) (.inl rfl) |> λh=>⟨h.os,h.tape,h.output,h.dr,h.dI,h.ext,⟨λb hb _=>h.VS.block b hb (by simp),λb hb _=>h.VS.fC b hb (by simp)⟩⟩,
   .inr ⟨σ.size,0,pJ,R.toArray,E,rfl,qj,zd,by rw [qap];exact VT, ?_,σ.rR _ 1,λi hi=> ?_⟩, .inr (by rintro b ⟨⟩;exact qa3 _),λad0 m0 cp0 e h=>absurd h (by rw [SI] at e;cases e;exact uN)⟩
  ·simp only [R,qbj,qap,tN,hL1,Array.length_toList,hZ,CV,qc3];rw [←Nat.add_mul, ←Nat.add_mul];exact qam _ (by omega)
  ·have hE:=(σ.lg (.cells R.toArray E (0,0)) 1).ext;by_cases Ml:i<xs.length
   ·rw [qb1 Ml];obtain ⟨cs,EB,RY⟩:=Pg i Ml;refine At.rS zd (Rp.ext hE EB) (λj hj=> ?_);have e2:=RY j hj;have bs:=List.Ew e2;simp only [R,qc3,qax,List.append_assoc];rw [qbe bs,e2]
   ·rw [qb6 (by omega)];rw [qap] at hi;obtain ⟨cs,EB,RY⟩:=hL2 (i - xs.length) (by omega);refine At.rS zd (Rp.ext hE EB) (λj hj=> ?_);have e2:=RY j hj;have bs:=List.Ew e2;have e3:i*Rp.sz α+j=K.length+((i - xs.length)*Rp.sz α+j):=by
     have:i*Rp.sz α=xs.length*Rp.sz α+(i - xs.length)*Rp.sz α:=by rw [←Nat.add_mul];congr 1;omega
     omega
    simp only [R,qc3,qax,List.append_assoc];rw [e3,qbx (by omega),Nat.add_sub_cancel_left,qbe bs,e2]
end
end Go.Vs
namespace Go.Vs
open Go
section
variable{P:Program}{ops:Array Oper}{Q:Exit->Act->World->Prop}{n d:Nat}{ρ:Nat->Value}{σ:St}{u v:Value}{rest:List Oper}
variable{ty T T' E E':TypeId}{pos:String}{af:Array Edge}{x y:Operand}{a b:Int}{α:Type}[Rp α]{xs ys:List α}{z:Value}{s bt lo:Nat}{gd:Option (Nat×Bool)}{H:Array Obj}{dst:Option Nat}
def tO{α:Type}(xs ys:List α):Option (List α):=if xs.length+ys.length<=2147483648 then some (xs++ys) else none
theorem Mm{α:Type}{xs ys r:List α}(h:tO xs ys=some r):xs.length+ys.length<=2147483648/\r=xs++ys:=by
 unfold tO at h;split at h
 ·exact ⟨by assumption,(qaf h).symm⟩
 ·cases h
inductive Flat(el:Nat)(σ:St):List Value->List α->Prop
 | nil:Flat el σ [] []
 | cons {c cs:List Value} {x:α} {xs:List α}:Rp.rp el σ c x->Flat el σ cs xs->Flat el σ (c++cs) (x::xs)
theorem Flat.length{el:Nat}{cs:List Value}{xs:List α}(h:Flat el σ cs xs):cs.length=xs.length*Rp.sz α:=by
 induction h with
 | nil=>simp
 | cons h1 h2 ih=>rw [qap,ih,Rp.len h1,qbb,Nat.add_mul];omega
theorem Flat.get{el:Nat}{cs:List Value}{xs:List α}(h:Flat el σ cs xs): ∀i,(hi:i<xs.length)-> ∃c,Rp.rp el σ c xs[i]/\ ∀j,(hj:j<c.length)->cs[i*Rp.sz α+j]? =some c[j]:=by
 induction h with
 | nil=>intro i hi;simp at hi
 | @cons c cs x xs h1 h2 ih=>
  intro i hi;cases i with
  | zero=>
   refine ⟨c,h1,λj hj=> ?_⟩;rw [Nat.zero_mul,qc3,qbe hj];simp [hj]
  | succ i=>
   obtain ⟨c',h3,h4⟩:=ih i (by simpa using hi);refine ⟨c',h3,λj hj=> ?_⟩;have:=Rp.len h1;rw [qbx (by rw [Nat.add_mul];omega),show (i+1)*Rp.sz α+j - c.length=i*Rp.sz α+j by rw [Nat.add_mul];omega];exact h4 j hj
theorem Flat.ext{el:Nat}{σ':St}{cs:List Value}{xs:List α}(h:Flat el σ cs xs)(hE:Ext σ σ'):Flat el σ' cs xs:=by
 induction h with
 | nil=>exact .nil
 | cons h1 h2 ih=>exact .cons (Rp.ext hE h1) ih
theorem Bx.ow{el:Nat}{bl:Nat}{cs:List Value}(h:Bx σ bl cs)(hf:Flat el σ cs xs)(qj:lo<=bl):Ow σ lo el (Sl (some ⟨bl,0,none⟩) xs xs.length) xs:=by
 obtain ⟨T,h1,h2⟩:=h;refine .inr ⟨bl,0,xs.length,cs.toArray,T,rfl,qj,h1,qa3 _, ?_,h2,λi hi=> ?_⟩
 ·simp [hf.length]
 ·obtain ⟨c,h3,h4⟩:=hf.get i hi;exact At.rS h1 h3 (λj hj=>by simpa using h4 j hj)
theorem Ax{el:Nat}{len:Nat}{parts:Array (Nat×Operand)}{ps:List (Nat×Value)}{cs:List Value}(hT:P.underlying T=some (.slice E))(hi:TI P E z s bt)
  (Jf:Nat.ble (len*s) 16777216=true) (hp:parts.toList.map (λp=>(p.1,ev n ρ p.2))=ps)
  (yN:Instr.fill (λi=>some (i*s,s)) ((Array.range (len*s)).map (λk=>(if len*s=0 then #[] else z.cells)[k % (if len*s=0 then #[] else z.cells).size]!)) ps=some cs.toArray)
  (hf:Flat el σ cs xs) (hl:xs.length=len) (qj:lo<=σ.size):
  ∃(b:Nat) (σ':St),σ.size=b/\B9 P σ.w n ρ ⟨dst, .buildSlice T len parts,ty,pos,af,gd⟩ (Sl (some ⟨b,0,none⟩) xs len) σ'.w/\Mod none σ σ'/\Ow σ' lo el (Sl (some ⟨b,0,none⟩) xs len) xs:=by
 have Tl:Bx (σ.new (.cells cs.toArray E (0,0)) 0) σ.size cs:=⟨E,St.rQ _ _ _,St.rR _ _ _⟩;have hm:=σ.lg (.cells cs.toArray E (0,0)) 0;refine ⟨σ.size,σ.new (.cells cs.toArray E (0,0)) 0,rfl, ?_,hm,by
  have:=Tl.ow (hf.ext hm.ext) qj;rw [hl] at this;exact this⟩
 have hb: ¬len*s>2^24:=by
  have:=qa5 Jf;have e:(2:Nat)^24=16777216:=by decide
  omega
 have key:(Instr.buildSlice T len ps.toArray).run P σ.w= .ok (.slice (some ⟨σ.size,0,none⟩) len len) (σ.new (.cells cs.toArray E (0,0)) 0).w:=by
  by_cases h0:len*s=0
  ·simp only [h0,if_true] at yN;have hb0: ¬(0>2^24):=by omega
   simp only [Instr.buildSlice,underlying,hT,Sem.run_bind,run_program,Result.andThen_ok,Sem.run_pure,run_typeInfo hi,hb0,if_false,h0,if_true,yN,newRow,newObj,Sem.run]
   rfl
  ·simp only [h0,if_false] at yN;simp only [Instr.buildSlice,underlying,hT,Sem.run_bind,run_program,Result.andThen_ok,Sem.run_pure,run_typeInfo hi,hb,if_false,h0,oI hi,yN,newRow,newObj,Sem.run]
   rfl
 have XF:(parts.map fun (i,x)=>(i,ev n ρ x))=ps.toArray:=by rw [←hp, ←Array.toList_map]
 simp only [B9,execOp,XF,Sem.run_bind,key,Result.andThen_ok,Sem.run_pure,Sl,hl]
def tP{α:Type}(k:Int)(z0:α):Option (List α):=if 0<=k/\k<=2147483648 then some (List.replicate k.toNat z0) else none
theorem Dc{zc:Array Value}{m i j:Nat}(hi:i<m)(hj:j<zc.size):
  ((Array.range (m*zc.size)).map (λk=>zc[k % zc.size]!))[i*zc.size+j]? =zc[j]? :=by
 have h:(i+1)*zc.size<=m*zc.size:=qam _ hi;rw [Nat.add_mul] at h;rw [qc6,Array.getElem?_range,if_pos (by omega)];simp only [qab];have:(i*zc.size+j) % zc.size=j:=by rw [Nat.mul_comm,Nat.mul_add_mod,Nat.mod_eq_of_lt hj]
 rw [this,getElem!_pos zc j hj,Array.getElem?_eq_getElem hj]
theorem run_make{el:Nat}{z0:α}{zs:List Value}(hT:P.underlying T=some (.slice E))(hi:TI P E z s bt)(hs:s=Rp.sz α)(XG:z.cells=zs.toArray)(hz:Rp.rp el σ zs z0)(Tk:bt<=1024)
  (hr:tP a z0=some xs) (hx:ev n ρ x=I a) (hy:ev n ρ y=I a) (qj:lo<=σ.size)
  : ∃(b:Nat) (σ':St) (c':Nat),c'=a.toNat/\B9 P σ.w n ρ ⟨dst, .makeSlice T x y,ty,pos,af,gd⟩ (Sl (some ⟨b,0,none⟩) xs c') σ'.w/\Mod none σ σ'/\Ow σ' lo el (Sl (some ⟨b,0,none⟩) xs c') xs:=by
 unfold tP at hr;split at hr
 case isFalse=>cases hr
 rename_i h01;obtain ⟨h0,h1⟩:=h01;cases hr;obtain ⟨i0,uw,yK,NG,Ph⟩:=hi.it;have NH: ∀w,(typeInfo E).run P w= .ok i0 w:=by
  intro w;simp only [typeInfo,Sem.run_bind,run_program,Result.andThen_ok,uw];rfl
 have lH:zs.length=Rp.sz α:=Rp.len hz;have B8:0<Rp.sz α:=Rp.pos
 let C:Array Value:=(Array.range (a.toNat*s)).map (λk=>(if a.toNat*s=0 then #[] else z.cells)[k % (if a.toNat*s=0 then #[] else z.cells).size]!)
 have yM:(askRoom (a.toNat*bt)).run P σ.w= .ok () σ.w:=by unfold askRoom;split <;> rfl
 have VB:IntKind.i64.wrap a=a:=aT (by omega) (by omega);have htl:decide ((bt:Int)*a>2^48)=false:=by
  have h2:(2:Int)^48=281474976710656:=by decide
  have:(bt:Int)*a<=1024*2147483648:=Int.mul_le_mul (by omega) h1 h0 (by omega);simp only [decide_eq_false_iff_not];omega
 have bH:(Instr.makeSlice T (I a) (I a)).run P σ.w= .ok (.slice (some ⟨σ.size,0,none⟩) a.toNat a.toNat) (σ.new (.cells C E (0,0)) 0).w:=by
  have bs:(decide (a<0))=false:=by simp;omega
  have hgt:(decide (a>a))=false:=by simp
  by_cases h00:a.toNat*s=0
  ·simp only [Instr.makeSlice,underlying,hT,Sem.run_bind,run_program,Result.andThen_ok,Sem.run_pure,asInt,asIntOf,NH,Ph,VB,htl,bs,hgt,Bool.or_self,qa7,if_false,yM,run_typeInfo hi,h00,if_true,newRow,newObj,Sem.run,C]
   rfl
  ·simp only [Instr.makeSlice,underlying,hT,Sem.run_bind,run_program,Result.andThen_ok,Sem.run_pure,asInt,asIntOf,NH,Ph,VB,htl,bs,hgt,Bool.or_self,qa7,if_false,yM,run_typeInfo hi,h00,oI hi,newRow,newObj,Sem.run,C]
   rfl
 have zd:=σ.rQ (.cells C E (0,0)) 0;have hm:=σ.lg (.cells C E (0,0)) 0;have hlen:(List.replicate a.toNat z0).length=a.toNat:=List.length_replicate;refine ⟨σ.size,σ.new (.cells C E (0,0)) 0,a.toNat,rfl, ?_,hm, .inr ⟨σ.size,0,a.toNat,C,E,rfl,qj,zd,by rw [hlen];exact qa3 _, ?_,St.rR _ _ _,λi fz=> ?_⟩⟩
 ·simp only [B9,execOp,hx,hy,Sem.run_bind,bH,Result.andThen_ok,Sem.run_pure,Sl,hlen]
 ·simp [C,hs]
 ·rw [hlen] at fz;rw [List.getElem_replicate];refine At.rS zd (Rp.ext hm.ext hz) (λj hj=> ?_);have jv: ¬a.toNat*s=0:=by
   have:0<a.toNat*s:=Nat.mul_pos (by omega) (by omega);omega
  have XH:z.cells.size=s:=by rw [XG,hs];simpa using lH
  have hg:=Dc (zc:=z.cells) (m:=a.toNat) (i:=i) (j:=j) fz (by rw [XH,hs, ←lH];exact hj);simp only [C,jv,if_false,qc3];rw [XH] at hg;rw [hs] at hg ⊢;simp only [XH,hs] at hg ⊢;rw [hg,XG];simp [hj]
end
end Go.Vs
namespace Go.Vs
open Go
def iM{α:Type}(xs:List α)(l h:Int):Option (List α):=if 0<=l/\l<=h/\h<=(xs.length:Int) then some ((xs.take h.toNat).drop l.toNat) else none
structure XI(a:Option Addr)(m c s:Nat)(l h:Int)(a':Option Addr)(m' c':Nat):Prop where
 h0:0<=l
 h1:l<=h
 h2:h<=(m:Int)
 h3:m<=c
 ea:a'=if c=l.toNat then a else a.map (·.add (l.toNat*s))
 em:m'=h.toNat - l.toNat
 ec:c'=c - l.toNat
section
variable{P:Program}{ops:Array Oper}{Q:Exit->Act->World->Prop}{n d:Nat}{ρ:Nat->Value}{σ:St}{u v:Value}{rest:List Oper}
variable{ty T T' E E':TypeId}{pos:String}{af:Array Edge}{x y p q:Operand}{a b l h:Int}{α:Type}[Rp α]{xs ys r:List α}{z:Value}{s bt lo:Nat}{gd:Option (Nat×Bool)}{H:Array Obj}{dst:Option Nat}{ad nS:Option Addr}{m c m' c':Nat}
omit [Rp α] in
theorem lD(hg:iM xs l h=some r):0<=l/\l<=h/\h<=(xs.length:Int)/\r=(xs.take h.toNat).drop l.toNat/\r.length=h.toNat - l.toNat:=by
 unfold iM at hg;split at hg
 ·rename_i hc;cases hg;refine ⟨hc.1,hc.2.1,hc.2.2,rfl, ?_⟩;rw [List.length_drop,qav];omega
 ·cases hg
omit [Rp α] in
theorem Pj(hg:iM xs l h=some r)(i:Nat)(hi:i<r.length): ∃hj:l.toNat+i<xs.length,r[i]=xs[l.toNat+i]:=by
 obtain ⟨h0,h1,h2,rfl,h4⟩:=lD hg;refine ⟨by omega, ?_⟩;rw [List.getElem_drop,qca]
theorem Rd.Pk{el:Nat}(hR:Rd el σ (Sl ad xs c) xs)(uN:xs.length<=c)(hg:iM xs l h=some r):
  ∃nS c',XI ad xs.length c (Rp.sz α) l h nS r.length c'/\((nS=ad/\c'=c/\xs=[]/\r=[])\/ ∃bl o cp o',ad=some ⟨bl,o,none⟩/\Sl nS r c'= .slice (some ⟨bl,o',none⟩) r.length cp/\cp=c - l.toNat/\
   (o'=o+l.toNat*Rp.sz α\/(o'=o/\r=[]/\cp=0))/\ ∀i,(hi:i<r.length)->At el σ bl (o'+i*Rp.sz α) r[i]):=by
 obtain ⟨h0,h1,h2,h3,h4⟩:=lD hg;refine ⟨if c=l.toNat then ad else ad.map (·.add (l.toNat*Rp.sz α)),c - l.toNat,⟨h0,h1,h2,uN,rfl,h4,rfl⟩, ?_⟩;rcases hR with ⟨hv,rfl⟩ | ⟨bl,o,cp,hv,hA⟩
 ·simp only [List.length_nil] at h2;have:l=0:=by omega
  subst this;have hr:r=[]:=qb2 (by omega);subst hr;refine .inl ⟨?_,by simp,rfl,rfl⟩;split
  ·rfl
  ·cases ad with
   | none=>rfl
   | some a=>simp [Addr.add]
 ·cases hv;right;by_cases hc:c=l.toNat
  ·have hr:r=[]:=qb2 (by omega);subst hr;exact ⟨bl,o,c - l.toNat,o,rfl,by simp [hc],rfl, .inr ⟨rfl,rfl,by omega⟩,λi hi=>by simp at hi⟩
  ·refine ⟨bl,o,c - l.toNat,o+l.toNat*Rp.sz α,rfl,by simp [hc,add_plain],rfl, .inl rfl,λi hi=> ?_⟩;obtain ⟨hj,e⟩:=Pj hg i hi;rw [e,Nat.add_assoc, ←Nat.add_mul];exact hA _ hj
theorem RS.cap{el:Nat}(hR:RS el σ (Sl ad xs c) xs):xs.length<=c:=by
 rcases hR with ⟨hv,rfl⟩ | ⟨b2,o2,c2,hv,_,h4,_⟩
 ·simp
 ·cases hv;exact h4
theorem RS.slice{el:Nat}(hR:RS el σ (Sl ad xs c) xs)(hg:iM xs l h=some r): ∃nS c',XI ad xs.length c (Rp.sz α) l h nS r.length c'/\RS el σ (Sl nS r c') r:=by
 obtain ⟨h0,h1,h2,h3,h4⟩:=lD hg;have uN:=hR.cap;obtain ⟨nS,c',hs,hx⟩:=hR.rd.Pk uN hg;refine ⟨nS,c',hs, ?_⟩;by_cases hr:r=[]
 ·subst hr;exact .inl ⟨⟨_,_,rfl⟩,rfl⟩
 rcases hx with ⟨_,_,_,hx⟩ | ⟨bl,o,cp,o',rfl,e1,e2,e3,e4⟩
 ·exact absurd hx hr
 ·rcases hR with ⟨_,rfl⟩ | ⟨b2,o2,c2,hv,Tb,_,XJ,_⟩
  ·exact absurd (qb2 (by simp at h2;omega)) hr
  ·cases hv;refine .inr ⟨bl,o',cp,e1,Tb,by omega, ?_,e4⟩;rcases e3 with rfl | ⟨rfl,rfl,_⟩
   ·have:(l.toNat+r.length)*Rp.sz α<=xs.length*Rp.sz α:=qam _ (by omega);rw [Nat.add_mul] at this;omega
   ·exact absurd rfl hr
theorem Ow.cap{el:Nat}(hO:Ow σ lo el (Sl ad xs c) xs):xs.length<=c:=by
 rcases hO with ⟨hv,rfl⟩ | ⟨b2,o2,c2,C,T,hv,_,_,h4,_⟩
 ·simp
 ·cases hv;exact h4
theorem Ow.slice{el:Nat}(hO:Ow σ lo el (Sl ad xs c) xs)(hg:iM xs l h=some r): ∃nS c',XI ad xs.length c (Rp.sz α) l h nS r.length c'/\Ow σ lo el (Sl nS r c') r/\(∀b,blk (Sl nS r c')=some b->blk (Sl ad xs c)=some b):=by
 obtain ⟨h0,h1,h2,h3,h4⟩:=lD hg;have uN:=hO.cap;obtain ⟨nS,c',hs,hx⟩:=hO.rd.Pk uN hg;refine ⟨nS,c',hs, ?_, ?_⟩
 ·rcases hx with ⟨rfl,rfl,rfl,rfl⟩ | ⟨bl,o,cp,o',rfl,e1,e2,e3,e4⟩
  ·exact hO
  ·rcases hO with ⟨hv,_⟩ | ⟨b2,o2,c2,C,T0,hv,g2,g3,g4,g5,g6,_⟩
   ·cases hv
   ·cases hv;refine .inr ⟨bl,o',cp,C,T0,e1,g2,g3,by omega, ?_,g6,e4⟩;rcases e3 with rfl | ⟨rfl,rfl,h9⟩
    ·have:(l.toNat+cp)*Rp.sz α<=c*Rp.sz α:=qam _ (by omega);rw [Nat.add_mul] at this;omega
    ·subst h9;simp only [Nat.zero_mul];omega
 ·intro b hb;rcases hx with ⟨rfl,rfl,rfl,rfl⟩ | ⟨bl,o,cp,o',rfl,e1,e2,e3,e4⟩
  ·exact hb
  ·rw [e1] at hb;cases hb;rfl
theorem Mo{nK fz:Option Value}(hT:P.underlying T=some (.slice E))(hi:TI P E z s bt)(hs:XI ad m c s l h nS m' c')
  (hl:nK=some (I l)\/(nK=none/\l=0)) (hh:fz=some (I h)\/(fz=none/\h=m)) (w:World):
  (Instr.sliceAt T (.slice ad m c) nK fz none).run P w= .ok (.slice nS m' c') w:=by
 obtain ⟨h0,h1,h2,h3,rfl,rfl,rfl⟩:=hs;have hh':h<=(c:Int):=by omega
 have BV:0<=h:=by omega
 have e1:(h.toNat:Int)=h:=Int.toNat_of_nonneg BV;rcases hl with rfl | ⟨rfl,rfl⟩ <;> rcases hh with rfl | ⟨rfl,rfl⟩ <;>
  simp [Instr.sliceAt,Instr.slice,underlying,hT,Instr.sliceBounds,Instr.sliceBound,asIntOf,h0,BV,hh',h1,e1,run_typeInfo hi]
theorem mC(hT:P.underlying T=some (.slice E))(hi:TI P E z s bt)(hs:XI ad m c s 0 h nS m' c')(hx:ev n ρ x= .slice ad m c)(hq:ev n ρ q=I h):
  ei P H n ρ ⟨dst, .slice T x none (some q) none,ty,pos,af,gd⟩ (.slice nS m' c'):=λw _=>by
 simp [execOp,hx,hq,Mo hT hi hs (.inr ⟨rfl,rfl⟩) (.inl rfl)]
theorem Ca{el:Nat}{e e':α}{bl o o' k:Nat}{vs:List Value}(hi:TI P T z s bt)(hO:Ow σ lo el v xs)(hg:aZ xs a=some e)(Ml:Ix v a (Rp.sz α) bl o)(hx:ev n ρ x=pt bl o')(ho:o'=o+k)(hy:ev n ρ y=u)
  (hu:u.cells=vs.toArray) (hs:vs.length=s) (hk:k+vs.length<=Rp.sz α) (hp: ∀t∈vs,plain t=true) (hrp: ∀cs,Rp.rp el σ cs e->Rp.rp el σ (EA cs k vs) e')
  : ∃σ':St,Pe P σ.w n ρ ⟨dst, .store T x y,ty,pos,af,gd⟩ σ'.w/\Mod (blk v) σ σ'/\Ow σ' lo el v (xs.set a.toNat e'):=by
 subst ho;obtain ⟨ob,m,c,rfl,h0,h1,rfl⟩:=Ml.it;obtain ⟨_,bs,he⟩:=j9 hg;rcases hO with ⟨hv,_⟩ | ⟨b2,o2,c2,C,T0,hv,g2,g3,g4,g5,g6,g7⟩
 ·cases hv
 cases hv;have hb:=lt_of_block g3;have Ja:(a.toNat+1)*Rp.sz α<=c*Rp.sz α:=qam _ (by omega);rw [Nat.add_mul] at Ja;have er:=im (P:=P) bl (ob+a.toNat*Rp.sz α+k) T0 vs 0 σ.w C g3 (by omega) hp;simp only [Nat.add_zero] at er;have hm:=St.wF (σ:=σ) (o:= .cells (wr C (ob+a.toNat*Rp.sz α+k) vs) T0 (0,0)) g6;refine ⟨σ.put bl (.cells (wr C (ob+a.toNat*Rp.sz α+k) vs) T0 (0,0)), ?_,hm, .inr ⟨bl,ob,c,_,T0,by rw [qao],g2,World.tM _ hb,by rw [qao];exact g4,by rw [KN];exact g5,g6,λi fz=> ?_⟩⟩
 ·simp [Pe,execOp,hx,hy,Instr.storeAt,Instr.sureAddr,storeVar,run_typeInfo hi,hu,hs,er,St.put]
 ·rw [qao] at fz;by_cases hia:i=a.toNat
  ·subst hia;simp only [List.getElem_set_self];obtain ⟨cs,h3,h4⟩:=he▸g7 _ fz;have hl:=Rp.len h3;have oi:=Rp.len (hrp cs h3);refine ⟨EA cs k vs,Rp.ext hm.ext (hrp cs h3),λj hj=> ?_⟩;have e0:(σ.put bl (.cells (wr C (ob+a.toNat*Rp.sz α+k) vs) T0 (0,0))).cell bl (ob+a.toNat*Rp.sz α+j)=(wr C (ob+a.toNat*Rp.sz α+k) vs)[ob+a.toNat*Rp.sz α+j]? :=by
    show (World.put σ.w bl _).cell? _=_;simp only [World.cell?, World.tM _ hb,qbl,qa7,if_false]
   have e1:(wr cs.toArray k vs)[j]? =some (EA cs k vs)[j]:=by rw [KO];simp
   rw [e0, ←e1];by_cases hj1:j<k
   ·rw [GM _ _ _ _ (by omega),GM _ _ _ _ hj1];have:=h4 j (by omega);have e3:σ.cell bl (ob+a.toNat*Rp.sz α+j)=C[ob+a.toNat*Rp.sz α+j]? :=by
     show σ.w.cell? _=_;simp only [World.cell?, g3,qbl,qa7,if_false]
    rw [←e3,this];simp
   ·by_cases Xu:j<k+vs.length
    ·have e4:=O9 vs C (ob+a.toNat*Rp.sz α+k) (j - k) (by omega) (by omega);have e5:=O9 vs cs.toArray k (j - k) (by simp;omega) (by omega);rw [show ob+a.toNat*Rp.sz α+j=ob+a.toNat*Rp.sz α+k+(j - k) by omega,e4, ←e5];congr 1;omega
    ·rw [O8 _ _ _ _ (by omega),O8 _ _ _ _ (by omega)];have:=h4 j (by omega);have e3:σ.cell bl (ob+a.toNat*Rp.sz α+j)=C[ob+a.toNat*Rp.sz α+j]? :=by
      show σ.w.cell? _=_;simp only [World.cell?, g3,qbl,qa7,if_false]
     rw [←e3,this];simp
  ·rw [List.getElem_set_ne (by omega)];have jv: ∀j,j<Rp.sz α->(wr C (ob+a.toNat*Rp.sz α+k) vs)[ob+i*Rp.sz α+j]? =C[ob+i*Rp.sz α+j]? :=by
    intro j hj;by_cases W8:i<a.toNat
    ·have:(i+1)*Rp.sz α<=a.toNat*Rp.sz α:=qam _ W8;rw [Nat.add_mul] at this;exact GM _ _ _ _ (by omega)
    ·have:(a.toNat+1)*Rp.sz α<=i*Rp.sz α:=qam _ (by omega);rw [Nat.add_mul] at this;exact O8 _ _ _ _ (by omega)
   exact (g7 i fz).put g3 g6 jv
theorem Dd{k:Nat}{a0:Addr}(hT:P.underlying T=some (.array k E))(hx:ev n ρ x= .slice (some a0) m c)(hm:k<=m):
  ei P H n ρ ⟨dst, .sliceToArrayPointer T x,ty,pos,af,gd⟩ (.pointer (some a0)):=λw _=>by
 have: ¬m<k:=by omega
 simp [execOp,hx,Instr.arrayAt,underlying,hT,this]
theorem RS.arr{el:Nat}{zs:List Int}(hR:RS el σ (Sl ad zs c) zs)(hp:0<zs.length): ∃bl o,ad=some ⟨bl,o,none⟩/\ ∀j,(hj:j<zs.length)->iW σ.w.heap bl (o+j)=some (I zs[j]):=by
 rcases hR with ⟨_,rfl⟩ | ⟨bl,o,c2,hv,_,_,_,hA⟩
 ·simp at hp
 ·cases hv;refine ⟨bl,o,rfl,λj hj=> ?_⟩;have:=(hA j hj).int;simpa [Rp.sz] using this
end
end Go.Vs
namespace Go.Vs
open Go
theorem bind_some{α β:Type}{o:Option α}{f:α->Option β}{r:β}(h:o.bind f=some r): ∃x,o=some x/\f x=some r:=qaj.1 h
theorem VL{α:Type}{b:Bool}{x y z:α}(hb:b=true)(h:(bif b then x else y)=z):x=z:=by subst hb;exact h
theorem VM{α:Type}{b:Bool}{x y z:α}(hb:b=false)(h:(bif b then x else y)=z):y=z:=by subst hb;exact h
def bb{α β γ:Type}(f:α->γ)(g:β->γ):α⊕β->γ
 | .inl a=>f a
 | .inr b=>g b
theorem gJ{α β γ:Type}{f:α->γ}{g:β->γ}{a:α}{z:γ}(h:bb f g (.inl a)=z):f a=z:=h
theorem gK{α β γ:Type}{f:α->γ}{g:β->γ}{a:β}{z:γ}(h:bb f g (.inr a)=z):g a=z:=h
def Mp{α:Type}(k:Nat)(xs:List α):Option (List α):=if k<=xs.length then some (xs.take k) else none
theorem De{α:Type}{k:Nat}{xs r:List α}(h:Mp k xs=some r):k<=xs.length/\r=xs.take k:=by
 unfold Mp at h;split at h
 ·exact ⟨by assumption,(qaf h).symm⟩
 ·cases h
theorem GP{H:Array Obj}{b o:Nat}{xs:List Int}{k:Nat}(h: ∀j,(hj:j<xs.length)->iW H b (o+j)=some (I xs[j])): ∀j,(hj:j<(List.map I (xs.take k)).length)->iW H b (o+j)=some (List.map I (xs.take k))[j]:=by
 intro j hj;rw [qbq,qav] at hj;rw [h j (by omega)];simp
theorem Pm{xs ys:List Int}{k:Nat}(h1:xs.length=k)(h2:ys.length=k):0+(List.map I xs).length<=(List.map I ys).length:=by simp;omega
def qM{S R:Type}(f:S->Option (S⊕R)):Nat->S->Option R
 | 0,_=>none
 | n+1,s=>(f s).bind (bb (λs'=>qM f n s') (λr=>some r))
theorem vC{S R:Type}(f:S->Option (S⊕R)): ∀(n m:Nat) (s:S) (r:R),n<=m->qM f n s=some r->qM f m s=some r
 | 0,_,_,_,_,h=>by cases h
 | n+1,0,_,_,hm,_=>by omega
 | n+1,m+1,s,r,hm,h=>by
  obtain ⟨o,ho,h⟩:=bind_some h;rw [qM,ho];cases o with
  | inl s'=>exact vC f n m s' r (by omega) h
  | inr t=>exact h
open Classical in
noncomputable def bT{S R:Type}(f:S->Option (S⊕R))(s:S):Option R:=if h: ∃r n,qM f n s=some r then some h.choose else none
theorem Ay{S R:Type}{f:S->Option (S⊕R)}{n:Nat}{s:S}{r:R}(h:qM f n s=some r):bT f s=some r:=by
 have hx: ∃r n,qM f n s=some r:=⟨r,n,h⟩;unfold bT;rw [dif_pos hx];obtain ⟨m,hm⟩:=hx.choose_spec;have h1:=vC f n (max n m) s r (by omega) h;have h2:=vC f m (max n m) s _ (by omega) hm;rw [h1] at h2;exact h2.symm
theorem oG{S R:Type}{f:S->Option (S⊕R)}{s:S}{r:R}(h:bT f s=some r): ∃n,qM f n s=some r:=by
 unfold bT at h;split at h
 ·rename_i hx;obtain ⟨n,hn⟩:=hx.choose_spec;exact ⟨n,(qaf h)▸hn⟩
 ·cases h
theorem bz{S R:Type}(f:S->Option (S⊕R))(s:S):bT f s=(f s).bind (bb (λs'=>bT f s') (λr=>some r)):=by
 cases hf:f s with
 | none=>
  cases h:bT f s with
  | none=>rfl
  | some r=>
   obtain ⟨n,hn⟩:=oG h;cases n with
   | zero=>cases hn
   | succ n=>rw [qM,hf] at hn;cases hn
 | some o=>
  cases o with
  | inr r=>exact Ay (n:=1) (by rw [qM,hf];rfl)
  | inl s'=>
   show _=bT f s';cases h:bT f s' with
   | some r=>
    obtain ⟨n,hn⟩:=oG h;exact Ay (n:=n+1) (by rw [qM,hf];exact hn)
   | none=>
    cases h':bT f s with
    | none=>rfl
    | some r=>
     obtain ⟨n,hn⟩:=oG h';cases n with
     | zero=>cases hn
     | succ n=>
      rw [qM,hf] at hn;have:=Ay (f:=f) (n:=n) (s:=s') (r:=r) hn;rw [h] at this;cases this
theorem Mq{S R:Type}{f:S->Option (S⊕R)}(J:S->Prop)(μ:S->Nat)(Z:R->Prop)(step: ∀s,J s->(∃s',f s=some (.inl s')/\J s'/\μ s'<μ s)\/ ∃r,f s=some (.inr r)/\Z r):
  ∀(s:S),J s-> ∃r,bT f s=some r/\Z r:=by
 have key: ∀k s,μ s=k->J s-> ∃r,bT f s=some r/\Z r:=by
  intro k
  induction k using Nat.strongRecOn with
  | _ k ih=>
   intro s hk hJ;rcases step s hJ with ⟨s',h1,h2,h3⟩ | ⟨r,h1,h2⟩
   ·obtain ⟨r,h4,h5⟩:=ih _ (hk▸h3) s' rfl h2;exact ⟨r,by rw [bz,h1];exact h4,h5⟩
   ·exact ⟨r,by rw [bz,h1];rfl,h2⟩
 exact λs hJ=>key _ s rfl hJ
section
variable{P:Program}{Q:Exit->Act->World->Prop}{a:Act}{w:World}
theorem bN{S R:Type}{c:Code}(f:S->Option (S⊕R)){s0:S}{r:R}(hr:bT f s0=some r)(J:S->Act->World->Prop)(h0:J s0 a w)
  (round: ∀s a w o,J s a w->f s=some o->(∀t,o= .inr t->t=r)->c.wp P (Exit.then (λa' w'=> ∃s',o= .inl s'/\J s' a' w') Q) a w):(Code.loop c).wp P Q a w:=by
 obtain ⟨n,hn⟩:=oG hr;refine wp_loop_ghost (λk a w=> ∃s,qM f k s=some r/\J s a w) n ⟨s0,hn,h0⟩ ?_;rintro k a w ⟨s,hk,hJ⟩;cases k with
 | zero=>cases hk
 | succ k=>
  obtain ⟨o,ho,hk⟩:=bind_some hk;refine wp_mono (round s a w o hJ ho (by rintro t rfl;exact qaf hk)) ?_;intro e a' w' hq;cases e with
  | normal=>
   obtain ⟨s',rfl,Mi⟩:=hq;exact ⟨k,Nat.lt_succ_self k,s',hk,Mi⟩
  | exit id=>exact hq
  | goto l=>exact hq
  | ret=>exact hq
  | panic ch=>exact hq
  | outgrown=>exact hq
theorem aA{K:Act->World->Prop}(h:K a w):Exit.then K Q .normal a w:=h
theorem az{K:Act->World->Prop}{i:Nat}(h:Q (.exit i) a w):Exit.then K Q (.exit i) a w:=h
theorem ar{K:Act->World->Prop}(h:Q .ret a w):Exit.then K Q .ret a w:=h
theorem cH{id:Nat}(h:Q .normal a w):Exit.inBlock id Q .normal a w:=h
theorem bj{id:Nat}(h:Q .normal a w):Exit.inBlock id Q (.exit id) a w:=by simp only [Exit.inBlock,if_true];exact h
theorem EC{id i:Nat}(hi:i≠id)(h:Q (.exit i) a w):Exit.inBlock id Q (.exit i) a w:=by simp only [Exit.inBlock,hi,if_false];exact h
theorem cr{id:Nat}(h:Q .ret a w):Exit.inBlock id Q .ret a w:=h
theorem bE{id:Nat}{c:Code}(h:c.wp P (Exit.inBlock id Q) a w):(Code.block id c).wp P Q a w:=wp_block h
theorem cV{x y:Code}(h:x.wp P (Exit.then (y.wp P Q) Q) a w):(Code.seq x y).wp P Q a w:=wp_seq h
theorem fH(h:Q .normal a w):Code.skip.wp P Q a w:=wp_skip h
theorem OQ(h:Q .ret a w):Code.ret.wp P Q a w:=wp_ret h
theorem cY{i:Nat}(h:Q (.exit i) a w):(Code.exit i).wp P Q a w:=wp_exit h
theorem cj{c:Code}(J:Exit->Act->World->Prop)(h:c.wp P J a w)(k: ∀e a w,J e a w->Q e a w):c.wp P Q a w:=wp_mono h k
theorem bA{ops:Array Oper}(h:Q .normal a w):wpList P ops Q [] a w:=h
end
end Go.Vs
namespace Go.Vs
open Go
def bV(ρ:Nat->Value):List (Nat×Value)->Nat->Value
 | [],t=>ρ t
 | (d,v)::r,t=>bif Nat.beq t d then v else bV ρ r t
def agree(ρ:Nat->Value):List (Nat×Value)->Prop
 | []=>True
 | (d,v)::r=>ρ d=v/\agree ρ r
theorem Df{ρ:Nat->Value}: ∀{l:List (Nat×Value)},agree ρ l->bV ρ l=ρ
 | [],_=>rfl
 | (d,v)::r,⟨h1,h2⟩=>by
  funext t;rw [bV,Df h2];by_cases h:t=d
  ·subst h;rw [KL];exact h1.symm
  ·rw [sG h];rfl
theorem nZ{n:Nat}{ρ:Nat->Value}{l:List (Nat×Value)}(h:agree ρ l):fr n ρ=fr n (bV ρ l):=by rw [Df h]
theorem Ow.adT{el:Nat}{α:Type}[Rp α]{σ:St}{lo:Nat}{v:Value}{xs:List α}(h:Ow σ lo el v xs)(Tb:el<=lo): ∃σ':St,σ'.w=σ.w/\Mod (blk v) σ σ'/\RS el σ' v xs:=by
 have hl:=h.lt;rcases h with ⟨rfl,rfl⟩ | ⟨b,o,c,C,T,rfl,h2,h3,h4,h5,h6,h7⟩
 ·exact ⟨σ,rfl,Mod.refl _ _,RS.nil⟩
 ·have hb:=hl b rfl;refine ⟨σ.OT b (o+xs.length*Rp.sz α) hb,rfl,⟨rfl,rfl,rfl,qa3 _,rfl,St.Ez hb,⟨λ_ _ _=>rfl,λi _ jv=> ?_⟩⟩, .inr ⟨b,o,c,rfl,qa8 Tb h2,h4, ?_,λi hi=>(h7 i hi).same (St.Ez hb) rfl⟩⟩
  ·show (if i=b then _ else _)=_;rw [if_neg (by intro e;subst e;exact jv rfl)]
  ·show _<=(if b=b then _ else _);rw [if_pos rfl];omega
theorem Ow.adU{el Cc:Nat}{α:Type}[Rp α]{σ:St}{lo:Nat}{v:Value}{xs:List α}(h:Ow σ lo el v xs)(hl:Cc<=el):Ow σ lo Cc v xs:=by
 rcases h with h | ⟨b,o,c,C,T,h1,h2,h3,h4,h5,h6,h7⟩
 ·exact .inl h
 ·exact .inr ⟨b,o,c,C,T,h1,h2,h3,h4,h5,h6,λi hi=>(h7 i hi).low hl⟩
class Sc(α:Type)[Rp α]:Prop where
 sc: ∀{lo nK:Nat} {σ:St} {cs:List Value} {x:α},Rp.rp lo σ cs x->Rp.rp nK σ cs x
instance:Sc Int:=⟨λh=>h⟩
instance{α β:Type}[Rp α][Rp β][Sc α][Sc β]:Sc (α×β):=⟨by rintro _ _ _ _ _ ⟨c1,c2,rfl,h1,h2⟩;exact ⟨c1,c2,rfl,Sc.sc h1,Sc.sc h2⟩⟩
theorem At.sc{α:Type}[Rp α][Sc α]{lo nK:Nat}{σ:St}{b o:Nat}{x:α}(h:At lo σ b o x):At nK σ b o x:=by
 obtain ⟨cs,h1,h2⟩:=h;exact ⟨cs,Sc.sc h1,h2⟩
theorem Ow.sc{α:Type}[Rp α][Sc α]{el Cc:Nat}{σ:St}{lo:Nat}{v:Value}{xs:List α}(h:Ow σ lo el v xs):Ow σ lo Cc v xs:=by
 rcases h with h | ⟨b,o,c,C,T,h1,h2,h3,h4,h5,h6,h7⟩
 ·exact .inl h
 ·exact .inr ⟨b,o,c,C,T,h1,h2,h3,h4,h5,h6,λi hi=>(h7 i hi).sc⟩
theorem Rd.sc{α:Type}[Rp α][Sc α]{el Cc:Nat}{σ:St}{v:Value}{xs:List α}(h:Rd el σ v xs):Rd Cc σ v xs:=by
 rcases h with h | ⟨b,o,c,h1,h7⟩
 ·exact .inl h
 ·exact .inr ⟨b,o,c,h1,λi hi=>(h7 i hi).sc⟩
theorem Rd.at{el:Nat}{α:Type}[Rp α]{σ:St}{v:Value}{xs:List α}{a:Int}{e:α}{b o:Nat}(h:Rd el σ v xs)(hg:aZ xs a=some e)(hi:Ix v a (Rp.sz α) b o):At el σ b o e:=by
 obtain ⟨h0,h1,h2⟩:=j9 hg;obtain ⟨ob,m,c,rfl,g0,g1,rfl⟩:=hi.it;rcases h with ⟨_,rfl⟩ | ⟨b,o,c,hv,hc⟩
 ·simp at h1
 ·cases hv;exact h2▸hc _ h1
theorem RS.at{el:Nat}{α:Type}[Rp α]{σ:St}{v:Value}{xs:List α}{a:Int}{e:α}{b o:Nat}(h:RS el σ v xs)(hg:aZ xs a=some e)(hi:Ix v a (Rp.sz α) b o):At el σ b o e:=h.rd.at hg hi
theorem Ow.at{el:Nat}{α:Type}[Rp α]{σ:St}{lo:Nat}{v:Value}{xs:List α}{a:Int}{e:α}{b o:Nat}(h:Ow σ lo el v xs)(hg:aZ xs a=some e)(hi:Ix v a (Rp.sz α) b o):At el σ b o e:=h.rd.at hg hi
theorem ux{α:Type}{xs:List α}{a:Int}{e:α}{m:Nat}(h:aZ xs a=some e)(hm:xs.length=m):0<=a/\a.toNat<m:=by
 obtain ⟨h0,h1,_⟩:=j9 h;exact ⟨h0,hm▸h1⟩
theorem Tm(xs:List Int)(k:Nat)(v:Int):EA (xs.map I) (0+k*1) [I v]=(xs.set k v).map I:=by
 simp [EA,List.map_set]
theorem Tn(vs:List Value): ∀(cs pre:List Value),cs.length=vs.length->EA (pre++cs) pre.length vs=pre++vs:=by
 induction vs with
 | nil=>intro cs pre h;have:cs=[]:=qb2 h;subst this;rfl
 | cons v r ih=>
  intro cs pre h;cases cs with
  | nil=>simp at h
  | cons c cs=>
   rw [EA];have e:(pre++c::cs).set pre.length v=(pre++[v])++cs:=by simp
   have:=ih cs (pre++[v]) (by simpa using h);rw [e,show pre.length+1=(pre++[v]).length by simp,this];simp
theorem To{xs ys:List Int}{k:Nat}(h1:xs.length=k)(h2:ys.length=k):EA (List.map I ys) 0 (List.map I xs)=List.map I xs:=by
 have:=Tn (List.map I xs) (List.map I ys) [] (by simp;omega);simpa using this
theorem Tp{xs:List Int}{k m:Nat}{v:Int}(h:xs.length=m):(xs.set k v).length=m:=by rw [qao];exact h
end Go.Vs
namespace Go.Vs
open Go
abbrev BS:=Nat->Prop
structure Md(S:BS)(σ σ':St):Prop where
 os:σ'.w.os=σ.w.os
 tape:σ.dI\/σ'.w.tape=σ.w.tape
 output:σ'.w.output=σ.w.output
 dr:σ.dI\/σ.w.drawn<=σ'.w.drawn
 dI:σ'.dI=σ.dI
 ext:Ext σ σ'
 block: ∀b,b<σ.size-> ¬S b->σ'.w.heap[b]? =σ.w.heap[b]?
 fC: ∀b,b<σ.size-> ¬S b->σ'.fC b=σ.fC b
theorem Mod.md{S:Option Nat}{σ σ':St}(m:Mod S σ σ'):Md (λb=>S=Option.some b) σ σ':=
 ⟨m.os, .inr m.tape,m.output, .inr m.dr,m.dI,m.ext,λb h hn=>m.VS.block b h hn,λb h hn=>m.VS.fC b h hn⟩
theorem Md.refl(S:BS)(σ:St):Md S σ σ:=⟨rfl, .inr rfl,rfl, .inr (qa3 _),rfl,Ext.refl _,λ_ _ _=>rfl,λ_ _ _=>rfl⟩
theorem Md.size{S:BS}{σ σ':St}(h:Md S σ σ'):σ.size<=σ'.size:=h.ext.size
theorem Md.step{S S':BS}{a b c:St}(h:Md S a b)(k:Md S' b c)(hs: ∀i,i<a.size->S' i->S i):Md S a c:=
 ⟨k.os.trans h.os,(h.tape.elim .inl λh1=>k.tape.elim (λh2=> .inl (h.dI▸h2)) λh2=> .inr (h2.trans h1)),k.output.trans h.output,(h.dr.elim .inl λh1=>k.dr.elim (λh2=> .inl (h.dI▸h2)) λh2=> .inr (qa8 h1 h2)),k.dI.trans h.dI,h.ext.trans k.ext,
  λi hi hn=>(k.block i (qa2 hi h.size) (λe=>hn (hs i hi e))).trans (h.block i hi hn),
  λi hi hn=>(k.fC i (qa2 hi h.size) (λe=>hn (hs i hi e))).trans (h.fC i hi hn)⟩
theorem Md.mono{S S':BS}{a b:St}(h:Md S a b)(hs: ∀i,S i->S' i):Md S' a b:=
 ⟨h.os,h.tape,h.output,h.dr,h.dI,h.ext,λi hi hn=>h.block i hi (λe=>hn (hs i e)),λi hi hn=>h.fC i hi (λe=>hn (hs i e))⟩
structure Ch where
 dup:Bool
 fp:BS
 as:St->Prop
 GQ:dup=true-> ∀b, ¬fp b
 bs: ∀{σ:St},as σ-> ∀b,fp b->b<σ.size
 er: ∀{S:BS} {σ σ':St},Md S σ σ'->(∀b,fp b-> ¬S b)->as σ->as σ'
section
variable{α:Type}[Rp α]
def Ch.ro(el:Nat)(v:Value)(xs:List α):Ch where
 dup:=true
 fp _:=False
 as σ:=RS el σ v xs
 GQ _ _:=id
 bs _ _ h:=h.elim
 er m _ h:=h.ext m.ext
theorem Ow.md{el:Nat}{σ σ':St}{lo:Nat}{v:Value}{xs:List α}{S:BS}(h:Ow σ lo el v xs)(m:Md S σ σ')(hd: ∀b,blk v=some b-> ¬S b):Ow σ' lo el v xs:=by
 rcases h with h | ⟨b,o,c,C,T,rfl,h2,h3,h4,h5,h6,h7⟩
 ·exact .inl h
 ·have hb:b<σ.size:=lt_of_block h3;have hS:=hd b rfl;have e1:=m.block b hb hS;exact .inr ⟨b,o,c,C,T,rfl,h2,e1.trans h3,h4,h5,(m.fC b hb hS).trans h6,λi hi=>(h7 i hi).same m.ext e1⟩
def Ch.own(lo el:Nat)(v:Value)(xs:List α):Ch where
 dup:=false
 fp b:=blk v=some b
 as σ:=Ow σ lo el v xs
 GQ h:=by cases h
 bs h b e:=h.lt b e
 er m hd h:=h.md m hd
end
def Ch.bx(lo b o:Nat)(cs pre tQ:List Value):Ch where
 dup:=false
 fp i:=i=b
 as σ:=Bx σ b (pre++(cs++tQ))/\pre.length=o/\lo<=b
 GQ h:=by cases h
 bs h i e:=by subst e;exact h.1.lt
 er m hd h:=by
  obtain ⟨⟨T,h1,h2⟩,h3⟩:=h;have hb:=lt_of_block h1;have hS:=hd b rfl;exact ⟨⟨T,(m.block b hb hS).trans h1,(m.fC b hb hS).trans h2⟩,h3⟩
def dv:List Ch->BS
 | [],_=>False
 | c::l,b=>c.fp b\/dv l b
def gI(σ:St):List Ch->Prop
 | []=>True
 | c::l=>c.as σ/\gI σ l
def apart:List Ch->Prop
 | []=>True
 | c::l=>(∀b,c.fp b-> ¬dv l b)/\apart l
theorem bu{A R:List Ch}{b:Nat}:dv (A++R) b↔dv A b\/dv R b:=by
 induction A with
 | nil=>simp [dv]
 | cons c l ih=>simp only [qc9,dv,ih,or_assoc]
theorem dC{σ:St}{A R:List Ch}:gI σ (A++R)↔gI σ A/\gI σ R:=by
 induction A with
 | nil=>simp [gI]
 | cons c l ih=>simp only [qc9,gI,ih,and_assoc]
theorem dM{A R:List Ch}:apart (A++R)↔apart A/\apart R/\ ∀b,dv A b-> ¬dv R b:=by
 induction A with
 | nil=>simp [apart,dv]
 | cons c l ih=>
  simp only [qc9,apart,dv,ih,bu]
  constructor
  ·rintro ⟨h1,h2,h3,h4⟩;exact ⟨⟨λb hb h=>h1 b hb (.inl h),h2⟩,h3,λb hb h=>hb.elim (λhb=>h1 b hb (.inr h)) (λhb=>h4 b hb h)⟩
  ·rintro ⟨⟨h1,h2⟩,h3,h4⟩;exact ⟨λb hb h=>h.elim (h1 b hb) (h4 b (.inl hb)),h2,h3,λb hb=>h4 b (.inr hb)⟩
theorem kP{σ:St}{L:List Ch}(h:gI σ L): ∀b,dv L b->b<σ.size:=by
 induction L with
 | nil=>intro b hb;exact hb.elim
 | cons c l ih=>intro b hb;exact hb.elim (c.bs h.1 b) (ih h.2 b)
theorem gr{σ σ':St}{S:BS}{L:List Ch}(h:gI σ L)(m:Md S σ σ')(hd: ∀b,dv L b-> ¬S b):gI σ' L:=by
 induction L with
 | nil=>trivial
 | cons c l ih=>exact ⟨c.er m (λb hb=>hd b (.inl hb)) h.1,ih h.2 (λb hb=>hd b (.inr hb))⟩
structure Hp(S0:BS)(aq σ:St)(L:List Ch):Prop where
 md:Md S0 aq σ
 all:gI σ L
 ap:apart L
 zf: ∀b,dv L b->b<aq.size->S0 b
section
variable{S0:BS}{aq σ σ':St}{L A A' R:List Ch}{c d:Ch}
theorem Hp.size(H:Hp S0 aq σ L):aq.size<=σ.size:=H.md.size
theorem Hp.frame(H:Hp S0 aq σ (A++R))(H':Hp (dv A) σ σ' A'):Hp S0 aq σ' (A'++R):=by
 obtain ⟨ha,hr⟩:=dC.1 H.all;obtain ⟨h1,h2,h3⟩:=dM.1 H.ap;refine ⟨H.md.step H'.md (λi hi h=>H.zf i (bu.2 (.inl h)) hi),dC.2 ⟨H'.all,gr hr H'.md (λb hb h=>h3 b h hb)⟩,dM.2 ⟨H'.ap,h2,λb hb eU=> ?_⟩,λb hb bs=> ?_⟩
 ·have bs:=kP hr b eU;exact h3 b (H'.zf b hb bs) eU
 ·rcases bu.1 hb with hb | hb
  ·have hs:b<σ.size:=qa2 bs H.md.size;exact H.zf b (bu.2 (.inl (H'.zf b hb hs))) bs
  ·exact H.zf b (bu.2 (.inr hb)) bs
theorem Hp.Az(H:Hp S0 aq σ (c::R))(H':Hp (dv [c]) σ σ' A'):Hp S0 aq σ' (A'++R):=Hp.frame (A:=[c]) H H'
theorem Hp.ED(H:Hp S0 aq σ R)(H':Hp (dv []) σ σ' A'):Hp S0 aq σ' (A'++R):=Hp.frame (A:=[]) H H'
theorem Hp.begin{σ:St}(ha:gI σ L)(hp:apart L):Hp (dv L) σ σ L:=⟨Md.refl _ _,ha,hp,λ_ h _=>h⟩
theorem Hp.one(m:Md S0 σ σ')(h:c.as σ')(hf: ∀b,c.fp b->b<σ.size->S0 b):Hp S0 σ σ' [c]:=
 ⟨m,⟨h,trivial⟩,⟨λ_ _ h=>h,trivial⟩,λb hb=>hb.elim (hf b) (λh=>h.elim)⟩
theorem Hp.tail(H:Hp S0 aq σ (c::R)):Hp S0 aq σ R:=⟨H.md,H.all.2,H.ap.2,λb hb=>H.zf b (.inr hb)⟩
theorem Hp.head(H:Hp S0 aq σ (c::R)):c.as σ:=H.all.1
theorem Hp.my(H:Hp S0 aq σ (c::R))(h:c.as σ->d.as σ)(hf: ∀b,d.fp b->c.fp b):Hp S0 aq σ (d::R):=
 ⟨H.md,⟨h H.all.1,H.all.2⟩,⟨λb hb=>H.ap.1 b (hf b hb),H.ap.2⟩,λb hb=>H.zf b (hb.imp (hf b) id)⟩
theorem Hp.add(H:Hp S0 aq σ R)(h:d.as σ)(hf: ∀b, ¬d.fp b):Hp S0 aq σ (d::R):=
 ⟨H.md,⟨h,H.all⟩,⟨λb hb=>(hf b hb).elim,H.ap⟩,λb hb=>hb.elim (λhb=>(hf b hb).elim) (H.zf b)⟩
theorem Hp.grow(H:Hp S0 aq σ L)(m:Md (λ_=>False) σ σ'):Hp S0 aq σ' L:=
 ⟨H.md.step m (λ_ _ h=>h.elim),gr H.all m (λ_ _ h=>h),H.ap,H.zf⟩
def nth:List Ch->Nat->Option Ch
 | [],_=>none
 | c::_,0=>some c
 | _::l,n+1=>nth l n
def pick:List Ch->Nat->Option (Ch×List Ch)
 | [],_=>none
 | c::l,0=>some (c,l)
 | c::l,n+1=>match pick l n with
  | some (d,r)=>some (d,c::r)
  | none=>none
theorem AA: ∀{L:List Ch} {i:Nat} {c:Ch} {R:List Ch},pick L i=some (c,R)-> ∀b,dv L b↔c.fp b\/dv R b
 | [],_,_,_,h=>by cases h
 | c::l,0,_,_,h=>by cases h;intro b;rfl
 | c::l,n+1,d,R,h=>by
  intro b;simp only [pick] at h;split at h
  ·rename_i d' r hp;cases h;have:=AA hp b;simp only [dv,this]
   constructor
   ·rintro (h | h | h)
    ·exact .inr (.inl h)
    ·exact .inl h
    ·exact .inr (.inr h)
   ·rintro (h | h | h)
    ·exact .inr (.inl h)
    ·exact .inl h
    ·exact .inr (.inr h)
  ·cases h
theorem GR{σ:St}: ∀{L:List Ch} {i:Nat} {c:Ch} {R:List Ch},pick L i=some (c,R)->gI σ L->c.as σ/\gI σ R
 | [],_,_,_,h=>by cases h
 | c::l,0,_,_,h=>by cases h;exact id
 | c::l,n+1,d,R,h=>by
  simp only [pick] at h;split at h
  ·rename_i d' r hp;cases h;rintro ⟨h1,h2⟩;have:=GR hp h2;exact ⟨this.1,h1,this.2⟩
  ·cases h
theorem AB: ∀{L:List Ch} {i:Nat} {c:Ch} {R:List Ch},pick L i=some (c,R)->apart L->apart (c::R)
 | [],_,_,_,h=>by cases h
 | c::l,0,_,_,h=>by cases h;exact id
 | c::l,n+1,d,R,h=>by
  simp only [pick] at h;split at h
  ·rename_i d' r hp;cases h;rintro ⟨h1,h2⟩;have h3:=AB hp h2;have h4:=AA hp;refine ⟨λb hb=> ?_,λb hb=> ?_,h3.2⟩
   ·rintro (h | h)
    ·exact h1 b h ((h4 b).2 (.inl hb))
    ·exact h3.1 b hb h
   ·exact λh=>h1 b hb ((h4 b).2 (.inr h))
  ·cases h
theorem Hp.front(H:Hp S0 aq σ L){i:Nat}(h:pick L i=some (c,R)):Hp S0 aq σ (c::R):=
 ⟨H.md,GR h H.all,AB h H.ap,λb hb=>H.zf b ((AA h b).2 hb)⟩
theorem EE{σ:St}: ∀{L:List Ch} {i:Nat} {c:Ch},nth L i=some c->gI σ L->c.as σ
 | [],_,_,h,_=>by cases h
 | _::_,0,_,h,ha=>by cases h;exact ha.1
 | _::l,n+1,_,h,ha=>EE (L:=l) (i:=n) h ha.2
theorem Hp.get(H:Hp S0 aq σ L){i:Nat}(h:nth L i=some c):c.as σ:=EE h H.all
def AD(L:List Ch):List Nat->List Ch
 | []=>[]
 | k::ks=>match nth L k with
  | some c=>c::AD L ks
  | none=>AD L ks
def Mr(L:List Ch):List Nat->Bool
 | []=>true
 | k::ks=>(match nth L k with
  | some c=>c.dup || ks.all (λj=> !Nat.beq j k)
  | none=>false)&&Mr L ks
theorem zL{L:List Ch}: ∀{ks:List Nat} {b:Nat},dv (AD L ks) b-> ∃k∈ks, ∃c,nth L k=some c/\c.fp b
 | [],b,h=>h.elim
 | k::ks,b,h=>by
  simp only [AD] at h;split at h
  ·rename_i c hc;rcases h with h | h
   ·exact ⟨k,by simp,c,hc,h⟩
   ·obtain ⟨j,hj,d,hd,h⟩:=zL h;exact ⟨j,by simp [hj],d,hd,h⟩
  ·obtain ⟨j,hj,d,hd,h⟩:=zL h;exact ⟨j,by simp [hj],d,hd,h⟩
theorem zM: ∀{L:List Ch} {k:Nat} {c:Ch} {b:Nat},nth L k=some c->c.fp b->dv L b
 | [],_,_,_,h,_=>by cases h
 | _::_,0,_,_,h,hb=>by cases h;exact .inl hb
 | _::l,n+1,_,_,h,hb=> .inr (zM (L:=l) (k:=n) h hb)
theorem Dg: ∀{L:List Ch} {i j:Nat} {c d:Ch} {b:Nat},apart L->i≠j->nth L i=some c->nth L j=some d->c.fp b-> ¬d.fp b
 | [],_,_,_,_,_,_,_,h,_,_=>by cases h
 | _::_,0,0,_,_,_,_,jv,_,_,_=>absurd rfl jv
 | e::l,0,j+1,_,_,b,ha,_,h1,h2,hb=>by cases h1;exact λh=>ha.1 b hb (zM (L:=l) (k:=j) h2 h)
 | e::l,i+1,0,_,_,b,ha,_,h1,h2,hb=>by cases h2;exact λh=>ha.1 b h (zM (L:=l) (k:=i) h1 hb)
 | e::l,i+1,j+1,c,d,b,ha,jv,h1,h2,hb=>Dg (L:=l) (i:=i) (j:=j) ha.2 (λe=>jv (by rw [e])) h1 h2 hb
theorem EF{σ:St}{L:List Ch}(H: ∀k c,nth L k=some c->c.as σ): ∀ks:List Nat,gI σ (AD L ks)
 | []=>trivial
 | k::ks=>by
  simp only [AD];split
  ·rename_i c hc;exact ⟨H k c hc,EF H ks⟩
  ·exact EF H ks
theorem xY{L:List Ch}(ha:apart L): ∀{ks:List Nat},Mr L ks=true->apart (AD L ks)
 | [],_=>trivial
 | k::ks,h=>by
  simp only [Mr,qa4] at h;obtain ⟨h1,h2⟩:=h;simp only [AD];split
  ·rename_i c hc;rw [hc] at h1;refine ⟨λb hb hcv=> ?_,xY ha h2⟩;simp only [qc2] at h1;rcases h1 with h1 | h1
   ·exact c.GQ h1 b hb
   ·obtain ⟨j,hj,d,hd,hdb⟩:=zL hcv;have:=qa9.1 h1 j hj;have jv:j≠k:=by rintro rfl;simp [Nat.beq_refl] at this
    exact Dg ha (qbp jv) hc hd hb hdb
  ·exact xY ha h2
theorem Hp.sel(H:Hp S0 aq σ L)(ks:List Nat)(h:Mr L ks=true):Hp S0 aq σ (AD L ks):=
 ⟨H.md,EF (λ_ _ hk=>H.get hk) ks,xY H.ap h,λb hb=>by
  obtain ⟨k,_,c,hc,hb⟩:=zL hb;exact H.zf b (zM hc hb)⟩
theorem Hp.Tq(H:Hp S0 aq σ L)(ks:List Nat){L':List Ch}(h:Mr L ks=true)(e:AD L ks=L'):Hp S0 aq σ L':=e▸H.sel ks h
end
section
variable{S0:BS}{aq σ σ':St}{L R:List Ch}{α:Type}[Rp α]{el lo:Nat}{v:Value}{xs:List α}{i b o:Nat}{cs pre tQ:List Value}
theorem Hp.ro(H:Hp S0 aq σ L)(i:Nat)(h:nth L i=some (Ch.ro el v xs)):RS el σ v xs:=H.get h
theorem Hp.bx(H:Hp S0 aq σ L)(i:Nat)(h:nth L i=some (Ch.bx lo b o cs pre tQ)):Bx σ b (pre++(cs++tQ))/\pre.length=o/\lo<=b:=H.get h
theorem Pn{k:Nat}{u:Value}(h:Bx σ b (pre++(cs++tQ))/\pre.length=o/\lo<=b)(hu:cs[k]? =some u):iW σ.w.heap b (o+k)=some u:=by
 obtain ⟨⟨T,h1,_⟩,h2,_⟩:=h;have hk:=(qbd.1 hu).1;unfold iW;rw [h1];simp only [qax];rw [qbx (by omega),qbe (by omega), ←hu];congr 1;omega
theorem Hp.cell(H:Hp S0 aq σ L)(i k:Nat){u:Value}{o':Nat}(h:nth L i=some (Ch.bx lo b o cs pre tQ))(hu:cs[k]? =some u)(ho:o'=o+k):iW σ.w.heap b o'=some u:=by
 subst ho;exact Pn (H.bx i h) hu
theorem Hp.cells(H:Hp S0 aq σ L)(i:Nat)(h:nth L i=some (Ch.bx lo b o cs pre tQ)): ∀j,(hj:j<cs.length)->iW σ.w.heap b (o+j)=some cs[j]:=
 λj hj=>Pn (H.bx i h) (qau hj)
theorem Hp.OT(H:Hp S0 aq σ L)(i:Nat)(h:pick L i=some (Ch.own lo el v xs,R))(Tb:el<=lo): ∃σ':St,σ'.w=σ.w/\Hp S0 aq σ' (Ch.ro el v xs::R)/\Md (λb=>blk v=Option.some b) σ σ':=by
 have H1:=H.front h;obtain ⟨σ',hw,m,hR⟩:=Ow.adT (H1.head:Ow σ lo el v xs) Tb;refine ⟨σ',hw,Hp.Az (A':=[Ch.ro el v xs]) H1 (Hp.one (m.md.mono λb hb=> .inl hb) hR (λb hb=>hb.elim)),m.md⟩
theorem Hp.pU(H:Hp S0 aq σ L)(i Cc:Nat)(h:nth L i=some (Ch.ro el v xs))(hl:Cc<=el):Hp S0 aq σ (Ch.ro Cc v xs::L):=
 H.add (d:=Ch.ro Cc v xs) ((H.ro i h).low hl) (λ_ h=>h)
theorem Hp.vD(H:Hp S0 aq σ L)(i nK Cc:Nat)(h:pick L i=some (Ch.own lo el v xs,R))(h1:nK<=lo)(h2:Cc<=el):Hp S0 aq σ (Ch.own nK Cc v xs::R):=
 (H.front h).my (d:=Ch.own nK Cc v xs) (λh:Ow σ lo el v xs=>(h.lo h1).adU h2) (λ_ h=>h)
theorem Hp.yO [Sc α](H:Hp S0 aq σ L)(i nK Cc:Nat)(h:pick L i=some (Ch.own lo el v xs,R))(h1:nK<=lo):Hp S0 aq σ (Ch.own nK Cc v xs::R):=
 (H.front h).my (d:=Ch.own nK Cc v xs) (λh:Ow σ lo el v xs=>(h.lo h1).sc) (λ_ h=>h)
theorem Hp.mD(H:Hp S0 aq σ L)(α:Type)[Rp α](lo el:Nat):Hp S0 aq σ (Ch.own lo el (.slice none 0 0) ([]:List α)::L):=H.add (d:=Ch.own lo el _ _) Ow.nil (λ_ h=>by cases h)
theorem Hp.fresh(m:Mod none σ σ')(c:Ch)(h:c.as σ')(hf: ∀b,c.fp b->σ.size<=b):Hp (dv []) σ σ' [c]:=
 Hp.one (m.md.mono λb hb=>by cases hb) h (λb hb bs=>absurd bs (qcg.2 (hf b hb)))
theorem Hp.focus{c1 c2 c3:List Value}(H:Hp S0 aq σ L)(i:Nat)(h:pick L i=some (Ch.bx lo b o (c1++(c2++c3)) pre tQ,R)){o':Nat}(ho:o'=o+c1.length):
  Hp S0 aq σ (Ch.bx lo b o' c2 (pre++c1) (c3++tQ)::R):=
 (H.front h).my (d:=Ch.bx lo b o' c2 (pre++c1) (c3++tQ)) (λ⟨h1,h2,h3⟩=>⟨by simpa [List.append_assoc] using h1,by subst ho;simp [h2],h3⟩) (λ_ h=>h)
theorem Hp.KP{c1 c2 c3:List Value}{o':Nat}(H:Hp S0 aq σ L)(i:Nat)(h:pick L i=some (Ch.bx lo b o' c2 (pre++c1) (c3++tQ),R))(ho:o'=o+c1.length):
  Hp S0 aq σ (Ch.bx lo b o (c1++(c2++c3)) pre tQ::R):=
 (H.front h).my (d:=Ch.bx lo b o (c1++(c2++c3)) pre tQ) (λ⟨h1,h2,h3⟩=>⟨by simpa [List.append_assoc] using h1,by subst ho;simp at h2;omega,h3⟩) (λ_ h=>h)
end
end Go.Vs
namespace Go.Vs
open Go
section
variable{P:Program}{ops:Array Oper}{Q:Exit->Act->World->Prop}{n d:Nat}{ρ:Nat->Value}{aq σ:St}{S0:BS}{L R:List Ch}{u v:Value}{rest:List Oper}{dst:Option Nat}
variable{ty T T' E E':TypeId}{pos:String}{af:Array Edge}{x y:Operand}{a:Int}{α:Type}[Rp α]{xs ys:List α}{z:Value}{s bt lo el:Nat}{gd:Option (Nat×Bool)}{op:Op}{Rz:Value->St->Prop}{Rs:St->Prop}
abbrev Ex(P:Program)(σ:St)(n:Nat)(ρ:Nat->Value)(o:Oper)(Rz:Value->St->Prop):Prop:= ∃v σ',B9 P σ.w n ρ o v σ'.w/\Rz v σ'
abbrev ExS(P:Program)(σ:St)(n:Nat)(ρ:Nat->Value)(o:Oper)(Rs:St->Prop):Prop:= ∃σ',Pe P σ.w n ρ o σ'.w/\Rs σ'
theorem cn(he:Ex P σ n ρ ⟨some d,op,ty,pos,af,gd⟩ Rz)(hw:Region.wanted ⟨some d,op,ty,pos,af,gd⟩ (yv ops n ρ)=true)
  (k: ∀v (σ':St),Rz v σ'->wpList P ops Q rest (fr n (upd ρ d v)) σ'.w):wpList P ops Q (⟨some d,op,ty,pos,af,gd⟩::rest) (fr n ρ) σ.w:=by
 obtain ⟨v,σ',hr,h⟩:=he;exact adR hw hr (k v σ' h)
theorem et(he:ExS P σ n ρ ⟨none,op,ty,pos,af,gd⟩ Rs)(hw:Region.wanted ⟨none,op,ty,pos,af,gd⟩ (yv ops n ρ)=true)
  (k: ∀(σ':St),Rs σ'->wpList P ops Q rest (fr n ρ) σ'.w):wpList P ops Q (⟨none,op,ty,pos,af,gd⟩::rest) (fr n ρ) σ.w:=by
 obtain ⟨σ',hr,h⟩:=he;exact adS hw hr (k σ' h)
theorem Mod.md0{σ σ':St}(m:Mod Option.none σ σ'):Md (dv []) σ σ':=m.md.mono λb hb=>by cases hb
theorem KQ(H:Hp S0 aq σ L)(qj:lo<=aq.size)(T:TypeId)(cs:List Value):Hp S0 aq (σ.new (.cells cs.toArray T (0,0)) 0) (Ch.bx lo σ.size 0 cs [] []::L):=
 Hp.ED (A':=[Ch.bx lo σ.size 0 cs [] []]) H (Hp.fresh (St.lg _ _ _) _ ⟨⟨T,by simpa using St.rQ _ _ _,St.rR _ _ _⟩,rfl,qa8 qj H.size⟩ (λb hb=>qay (Eq.symm hb)))
theorem ew{cs:List Value}(H:Hp S0 aq σ L)(qj:lo<=aq.size)(hx:ev n ρ x=v)(hv:v.cells=cs.toArray):
  Ex P σ n ρ ⟨dst, .box T x,ty,pos,af,gd⟩ λv σ'=> ∃b,v=pt b 0/\Hp S0 aq σ' (Ch.bx lo b 0 cs [] []::L)/\Md (dv []) σ σ':=by
 refine ⟨_,σ.new (.cells cs.toArray T (0,0)) 0, ?_,σ.size,rfl,KQ H qj T cs,(St.lg _ _ _).md0⟩;simp [B9,execOp,hx,Instr.box,newVar,newRow,newObj,Sem.run,hv,St.new,World.mk']
theorem fJ{cs:List Value}(H:Hp S0 aq σ L)(qj:lo<=aq.size)(hi:TI P T z s bt)(hv:z.cells=cs.toArray):
  Ex P σ n ρ ⟨dst, .alloc T,ty,pos,af,gd⟩ λv σ'=> ∃b,v=pt b 0/\Hp S0 aq σ' (Ch.bx lo b 0 cs [] []::L)/\Md (dv []) σ σ':=by
 refine ⟨_,σ.new (.cells cs.toArray T (0,0)) 0, ?_,σ.size,rfl,KQ H qj T cs,(St.lg _ _ _).md0⟩;simp [B9,execOp,Instr.alloc,oI hi,newVar,newRow,newObj,Sem.run,hv,St.new,World.mk']
theorem Tt(vs:List Value): ∀(pre cs tQ:List Value) (k:Nat),k+vs.length<=cs.length->EA (pre++(cs++tQ)) (pre.length+k) vs=pre++(EA cs k vs++tQ):=by
 induction vs with
 | nil=>intro pre cs tQ k _;rfl
 | cons v r ih=>
  intro pre cs tQ k hk;simp only [qbb] at hk;rw [EA,EA, ←ih pre (cs.set k v) tQ (k+1) (by rw [qao];omega)];congr 1;rw [qc4 _ _ (by omega),List.set_append_left _ _ (by omega)];congr 3;omega
theorem bM{cs vs cs' pre tQ:List Value}{b o o' k i:Nat}(H:Hp S0 aq σ L)(hp:pick L i=some (Ch.bx lo b o cs pre tQ,R))(hi:TI P T z s bt)(hx:ev n ρ x=pt b o')(GB:o'=o+k)(hy:ev n ρ y=v)(hv:v.cells=vs.toArray)(hs:vs.length=s)
  (hk:k+vs.length<=cs.length) (Ir: ∀u∈vs,plain u=true) (hcs:EA cs k vs=cs'):
  ExS P σ n ρ ⟨dst, .store T x y,ty,pos,af,gd⟩ λσ'=>Hp S0 aq σ' (Ch.bx lo b o cs' pre tQ::R)/\Md (λi=>i=b) σ σ':=by
 subst GB hcs;have H1:=H.front hp;obtain ⟨⟨T0,h1,h2⟩,h3,h4⟩:Bx σ b (pre++(cs++tQ))/\pre.length=o/\lo<=b:=H1.head;have hb:=lt_of_block h1;have er:=im (P:=P) b (o+k) T0 vs 0 σ.w (pre++(cs++tQ)).toArray h1 (by simp;omega) Ir;simp only [Nat.add_zero] at er;have m:Md (λi=>i=b) σ (σ.put b (.cells (wr (pre++(cs++tQ)).toArray (o+k) vs) T0 (0,0))):=(St.wF h2).md.mono λi hi=>by cases hi;rfl
 refine ⟨σ.put b (.cells (wr (pre++(cs++tQ)).toArray (o+k) vs) T0 (0,0)), ?_, ?_,m⟩
 ·simp [Pe,execOp,hx,hy,Instr.storeAt,Instr.sureAddr,storeVar,run_typeInfo hi,hv,hs,er,St.put]
 refine Hp.Az (A':=[Ch.bx lo b o (EA cs k vs) pre tQ]) H1 (Hp.one (m.mono λi hi=> .inl hi) ⟨⟨T0, ?_,h2⟩,h3,h4⟩ (λi hi _=> .inl hi));rw [KO, ←h3,Tt vs pre cs tQ k hk];exact World.tM _ hb
theorem Dh{α β:Type}[Rp α][Rp β]{Cc nK:Nat}{v':Value}{xs:List α}{ys:List β}{σ':St}{i:Nat}(H:Hp S0 aq σ L)(hp:pick L i=some (Ch.own lo el v xs,R))(m:Mod (blk v) σ σ')(h:Ow σ' nK Cc v' ys)(hf:blk v'=blk v\/ ∀b,blk v'=some b->σ.size<=b):
  Hp S0 aq σ' (Ch.own nK Cc v' ys::R):=
 Hp.Az (A':=[Ch.own nK Cc v' ys]) (H.front hp) (Hp.one (m.md.mono λb hb=> .inl hb) h (λb hb bs=>by
  rcases hf with hf | hf
  ·exact .inl (hf.symm.trans hb)
  ·exact absurd bs (qcg.2 (hf b hb))))
theorem EG{v':Value}{σ':St}(H:Hp S0 aq σ L)(qj:lo<=aq.size)(m:Mod none σ σ')(h:Ow σ' σ.size el v' xs):Hp S0 aq σ' (Ch.own lo el v' xs::L):=
 Hp.ED (A':=[Ch.own lo el v' xs]) H (Hp.fresh m _ (h.lo (qa8 qj H.size)) (λb hb=>h.ge b hb))
theorem dU{e e':α}{bl o o' k i:Nat}{vs:List Value}(H:Hp S0 aq σ L)(XK:pick L i=some (Ch.own lo el v xs,R))(hi:TI P T z s bt)(hg:aZ xs a=some e)(Ml:Ix v a (Rp.sz α) bl o)(hx:ev n ρ x=pt bl o')(ho:o'=o+k)(hy:ev n ρ y=u)
  (hu:u.cells=vs.toArray) (hs:vs.length=s) (hk:k+vs.length<=Rp.sz α) (hp: ∀t∈vs,plain t=true) (hrp: ∀cs,Rp.rp el σ cs e->Rp.rp el σ (EA cs k vs) e'):
  ExS P σ n ρ ⟨dst, .store T x y,ty,pos,af,gd⟩ λσ'=>Hp S0 aq σ' (Ch.own lo el v (xs.set a.toNat e')::R)/\Md (λb=>blk v=some b) σ σ':=by
 obtain ⟨σ',hr,m,h⟩:=Ca (ty:=ty) (pos:=pos) (af:=af) (gd:=gd) (dst:=dst) hi ((H.front XK).head:Ow σ lo el v xs) hg Ml hx ho hy hu hs hk hp hrp;exact ⟨σ',hr,Dh H XK m h (.inl rfl),m.md⟩
theorem iq{r:List α}{i:Nat}(H:Hp S0 aq σ L)(XK:pick L i=some (Ch.own lo el v xs,R))(hT:P.underlying T=some (.slice E))(qC:P.underlying T'=some (.slice E'))(hi:TI P E z s bt)(hs:s=Rp.sz α)(CV:z.cells.size=s)(Tk:bt<=1024)
  (hS:Rd el σ u ys) (hr:tO xs ys=some r) (qj:lo<=aq.size) (hx:ev n ρ x=v) (hy:ev n ρ y=u):
  Ex P σ n ρ ⟨dst, .call ⟨.builtin .append, #[x,y], #[T,T']⟩,ty,pos,af,gd⟩ λv' σ'=> ∃a' c',v'=Sl a' r c'/\Hp S0 aq σ' (Ch.own lo el (Sl a' r c') r::R)/\Md (λb=>blk v=some b) σ σ':=by
 obtain ⟨hlen,rfl⟩:=Mm hr;obtain ⟨a',c',σ',h1,h2,h3,h4, -⟩:=Jd (ty:=ty) hT qC hi hs CV Tk ((H.front XK).head:Ow σ lo el v xs) hS hlen (qa8 qj H.size);refine ⟨_,σ', ?_,a',c',rfl,Dh H XK h2 h3 h4,h2.md⟩;simp only [B9,execOp,resolve,qbi,qb5,qbm,hx,hy,Sem.run_bind,Sem.run_pure,Result.andThen_ok,invoke,builtin,h1]
theorem bY{len:Nat}{parts:Array (Nat×Operand)}{ps:List (Nat×Value)}{cs:List Value}(H:Hp S0 aq σ L)(qj:lo<=aq.size)(hT:P.underlying T=some (.slice E))(hi:TI P E z s bt)
  (Jf:Nat.ble (len*s) 16777216=true) (hp:parts.toList.map (λp=>(p.1,ev n ρ p.2))=ps)
  (yN:Instr.fill (λi=>some (i*s,s)) ((Array.range (len*s)).map (λk=>(if len*s=0 then #[] else z.cells)[k % (if len*s=0 then #[] else z.cells).size]!)) ps=some cs.toArray)
  (hf:Flat el σ cs xs) (hl:xs.length=len):
  Ex P σ n ρ ⟨dst, .buildSlice T len parts,ty,pos,af,gd⟩ λv σ'=> ∃b,v=Sl (some ⟨b,0,none⟩) xs len/\Hp S0 aq σ' (Ch.own lo el (Sl (some ⟨b,0,none⟩) xs len) xs::L)/\Md (dv []) σ σ':=by
 obtain ⟨b,σ',hb,hr,hm,hO⟩:=Ax (lo:=σ.size) (dst:=dst) (ty:=ty) (pos:=pos) (af:=af) (gd:=gd) hT hi Jf hp yN hf hl (qa3 _);exact ⟨_,σ',hr,b,rfl,EG H qj hm hO,hm.md0⟩
theorem EH{z0:α}{zs:List Value}(H:Hp S0 aq σ L)(qj:lo<=aq.size)(hT:P.underlying T=some (.slice E))(hi:TI P E z s bt)(hs:s=Rp.sz α)(XG:z.cells=zs.toArray)(hz:Rp.rp el σ zs z0)(Tk:bt<=1024)
  (hr:tP a z0=some xs) (hx:ev n ρ x=I a) (hy:ev n ρ y=I a):
  Ex P σ n ρ ⟨dst, .makeSlice T x y,ty,pos,af,gd⟩ λv σ'=> ∃b c',v=Sl (some ⟨b,0,none⟩) xs c'/\c'=a.toNat/\Hp S0 aq σ' (Ch.own lo el (Sl (some ⟨b,0,none⟩) xs c') xs::L)/\Md (dv []) σ σ':=by
 obtain ⟨b,σ',c',RX,bH,m,h⟩:=run_make (lo:=σ.size) (ty:=ty) (pos:=pos) (af:=af) (gd:=gd) (dst:=dst) hT hi hs XG hz Tk hr hx hy (qa3 _);exact ⟨_,σ',bH,b,c',rfl,RX,EG H qj m h,m.md0⟩
structure bL(P:Program)(f:FuncId)(args:List Value)(pre:List Ch)(post:Nat->Value->List Ch->Prop):Prop where
 fn: ∃fn c,P.funcs[f]? =some fn/\(fn.name== "runtime.NumGoroutine")=false/\fn.body=some c
 runs: ∀(σ:St) (m:Nat),m<=σ.size->Hp (dv pre) σ σ pre->Calls P f args.toArray σ.w λe w'=> ∃v σ' L',e= .returned v/\w'=σ'.w/\post m v L'/\Hp (dv pre) σ σ' L'
def Di(post:Value->List Ch->Prop)(aq:St)(S0:BS)(e:Ending)(w':World):Prop:= ∃v σ' L',e= .returned v/\w'=σ'.w/\post v L'/\Hp S0 aq σ' L'
theorem adV{f:FuncId}{fn:Func}{c:Code}{l:List Value}{pre:List Ch}{post:Nat->Value->List Ch->Prop}(hf:P.funcs[f]? =some fn)(OE:(fn.name== "runtime.NumGoroutine")=false)(hb:fn.body=some c)(hn:fn.ntmps=n)(hl:Nat.ble l.length n=true)
  (h: ∀(S0:BS) (aq:St) (n0:Nat),n0<=aq.size->Hp S0 aq aq pre->c.wp P (bodyPost P fn (Di (post n0) aq S0)) (fr n (dZ l)) aq.w):bL P f l pre post:=
 ⟨⟨fn,c,hf,OE,hb⟩,λσ m hm H=>enter hf hb hn hl (h _ σ m hm H)⟩
theorem rM{fn:Func}{post:Value->List Ch->Prop}{L':List Ch}(hr:(results fn (fr n ρ).tmps).run P σ.w= .ok v σ.w)(hp:post v L')(H:Hp S0 aq σ L'):bodyPost P fn (Di post aq S0) .ret (fr n ρ) σ.w:=
 bodyPost_ret (v:=v) hr rfl ⟨v,σ,L',rfl,rfl,hp,H⟩
theorem uy{fn:Func}{post:Value->List Ch->Prop}{L':List Ch}(hr:(results fn (fr n ρ).tmps).run P σ.w= .ok v σ.w)(hp:post v L')(H:Hp S0 aq σ L'):bodyPost P fn (Di post aq S0) .normal (fr n ρ) σ.w:=
 bodyPost_end (v:=v) hr rfl ⟨v,σ,L',rfl,rfl,hp,H⟩
theorem bL.frame{f:FuncId}{args:List Value}{A:List Ch}{post:Nat->Value->List Ch->Prop}(hc:bL P f args A post)(H:Hp S0 aq σ (A++R)){m:Nat}(hm:m<=σ.size):
  Calls P f args.toArray σ.w λe w'=> ∃v σ' L',e= .returned v/\w'=σ'.w/\post m v L'/\Hp S0 aq σ' (L'++R)/\Md (dv A) σ σ':=by
 refine (hc.runs σ m hm (Hp.begin (dC.1 H.all).1 (dM.1 H.ap).1)).mono ?_;rintro e w' ⟨v,σ',L',rfl,rfl,hp,H'⟩;exact ⟨v,σ',L',rfl,rfl,hp,H.frame H',H'.md⟩
def Enters(P:Program)(n:Nat)(ρ:Nat->Value)(o:Oper)(f:FuncId)(args:List Value)(w:World):Prop:=(execOp (ev n ρ) o).run P w= .ok (.enter f args.toArray) w
def Cx(P:Program)(σ:St)(n:Nat)(ρ:Nat->Value)(o:Oper)(Rz:Value->St->Prop):Prop:=
 ∃f args,Enters P n ρ o f args σ.w/\Calls P f args.toArray σ.w λe w'=> ∃v σ',e= .returned v/\w'=σ'.w/\Rz v σ'
theorem bk{f:FuncId}{args:List Value}{A:List Ch}{post:Nat->Value->List Ch->Prop}{o:Oper}(hc:bL P f args A post)(he:Enters P n ρ o f args σ.w){m:Nat}(hm:m<=aq.size)(H:Hp S0 aq σ (A++R)):
  Cx P σ n ρ o λv σ'=> ∃L',post m v L'/\Hp S0 aq σ' (L'++R)/\Md (dv A) σ σ':=
 ⟨f,args,he,(hc.frame H (qa8 hm H.size)).mono (by rintro e w' ⟨v,σ',L',rfl,rfl,hp,H',m⟩;exact ⟨v,σ',rfl,rfl,L',hp,H',m⟩)⟩
theorem aaE{o:Oper}(hd:o.dst=dst)(hc:Cx P σ n ρ o Rz)(hw:Region.wanted o (yv ops n ρ)=true)
  (k: ∀v (σ':St),Rz v σ'->wpList P ops Q rest ((fr n ρ).put dst v) σ'.w):wpList P ops Q (o::rest) (fr n ρ) σ.w:=by
 subst hd;obtain ⟨f,args,he,hc⟩:=hc;unfold wpList;rw [dY,if_pos hw];refine .inl ?_;unfold Oper.wp;rw [aO,show (execOp (ev n ρ) o).run P σ.w=_ from he,Oper.upon_enter];refine hc.mono ?_;rintro e w' ⟨v,σ',rfl,rfl,h⟩;exact k v σ' h
theorem bP(hc:Cx P σ n ρ ⟨some d,op,ty,pos,af,gd⟩ Rz)(hw:Region.wanted ⟨some d,op,ty,pos,af,gd⟩ (yv ops n ρ)=true)
  (k: ∀v (σ':St),Rz v σ'->wpList P ops Q rest (fr n (upd ρ d v)) σ'.w):wpList P ops Q (⟨some d,op,ty,pos,af,gd⟩::rest) (fr n ρ) σ.w:=
 aaE rfl hc hw (λv σ' h=>by rw [cQ];exact k v σ' h)
theorem cZ{f:FuncId}{args:List Value}{xs:Array Operand}{Ts:Array TypeId}{w:World}(hf: ∃fn c,P.funcs[f]? =some fn/\(fn.name== "runtime.NumGoroutine")=false/\fn.body=some c)(hx:xs.toList.map (ev n ρ)=args):
 Enters P n ρ ⟨dst, .call ⟨.value (.func f),xs,Ts⟩,ty,pos,af,gd⟩ f args w:=Pf hf hx
theorem Po{f:FuncId}{args:List Value}{xs:Array Operand}{Ts:Array TypeId}{w:World}{c:Operand}{cap:List Value}(hf: ∃fn c,P.funcs[f]? =some fn/\(fn.name== "runtime.NumGoroutine")=false/\fn.body=some c)
  (hc:ev n ρ c= .func (.func f) #[] cap.toArray) (hx:xs.toList.map (ev n ρ)++cap=args):
  Enters P n ρ ⟨dst, .call ⟨.value c,xs,Ts⟩,ty,pos,af,gd⟩ f args w:=by
 obtain ⟨fn,c,h1,h2,h3⟩:=hf;replace hx:xs.map (ev n ρ)++cap.toArray=args.toArray:=by
  rw [←hx];apply qch;simp
 simp only [Enters,execOp,resolve,hc,Deferred.ofValue,Sem.run_bind,Sem.run_pure,Result.andThen_ok,invoke,callFunc,run_program,Array.empty_append,hx,h1,h2,h3];simp
end
end Go.Vs
namespace Go.Vs
open Go
def dm(ops:Array Oper)(j:Nat):Option Nat:=(ops[j]?).bind (·.dst)
def waits(o:Oper)(j:Nat):Bool:=o.after.toList.any λe=>Nat.beq e.on j&&Region.binds .any e
def reach(ops:Array Oper):Nat->Nat->Nat->Bool
 | 0,_,_=>false
 | f+1,j,i=>match ops[j]? with
  | none=>false
  | some o=>waits o i || o.after.toList.any λe=>Region.binds .any e&&reach ops f e.on i
def ph(E:List Nat)(listed:Array Bool):List Bool:=E.map λe=>listed.getD e false
def Jg(E:List Nat)(i:Nat)(p:List Bool):List Bool:=List.zipWith (λe b=>b || Nat.beq e i) E p
def XL(ops:Array Oper)(E:List Nat)(i:Nat)(p:List Bool):Bool:=
 (List.zip E p).all fun (e,b)=>(!reach ops ops.size i e || b)&&(!reach ops ops.size e i || !b)&&(!Nat.beq e i || !b)
def wG(ops:Array Oper)(n i j:Nat):Bool:=Nat.blt j n&& !Nat.beq j i&& !reach ops ops.size j i
def XM(N:Nat)(ops:Array Oper)(n:Nat)(E:List Nat)(Ps:List (List Bool))(Al:List (List (Nat×Nat)))(zg:Nat):Bool:=
 Nat.ble n ops.size&&((List.range n).all λi=>(match dm ops i with | some d=>Nat.blt d N | none=>true)&&(match ops[i]? with | some o=>o.after.toList.all (λe=> !Region.binds .any e || Nat.blt e.on i) | none=>false)&&
  (List.range n).all λj=>Nat.beq i j || (match dm ops i with | some _=> !(dm ops i==dm ops j) | none=>true))&&
 ((List.range ops.size).all λj=>Nat.blt j n || (List.range n).all λi=>reach ops ops.size j i)&&
 Region.seqB .any ops (ops.size - n) n ((List.range ops.size).map (λi=>Nat.blt i n)).toArray&&
 (Ps.getD 0 [true]==E.map λ_=>false)&&(Ps.getD zg []==E.map λe=>Nat.blt e n)&&((List.range Ps.length).all λk=> !(Ps.getD k []==E.map λe=>Nat.blt e n) || Nat.beq k zg)&&
 ((List.range n).all λi=>(List.range Ps.length).all λk=> !XL ops E i (Ps.getD k []) || (Al.getD i []).any fun (a,b)=>Nat.beq a k&&(Ps[b]? ==some (Jg E i (Ps.getD k []))))
section
variable{P:Program}{ops:Array Oper}{Q:Exit->Act->World->Prop}{N n:Nat}{jw:Nat->Value}{Nm:Type}{J:Nat->Nm->St->Prop}{V:Nat->Nm->Value}
def ve(P:Program)(ops:Array Oper)(N n:Nat)(J:Nat->Nm->St->Prop)(V:Nat->Nm->Value)(ρ:Nat->Value)(σ:St)(nm:Nm)(i:Nat)(o:Oper)(k':Nat):Prop:=
 (Region.wanted o (yv ops N ρ)=true/\((∃v σ' pE,(execOp (ev N ρ) o).run P σ.w= .ok (.value v) σ'.w/\V i pE=v/\J k' pE σ'/\ ∀j,wG ops n i j=true->V j pE=V j nm)\/
  (∃σ' pE,o.dst=none/\(execOp (ev N ρ) o).run P σ.w= .ok .skip σ'.w/\J k' pE σ'/\ ∀j,wG ops n i j=true->V j pE=V j nm)\/
  ∃f args,(execOp (ev N ρ) o).run P σ.w= .ok (.enter f (List.toArray args)) σ.w/\Calls P f args.toArray σ.w λe w'=> ∃v σ' pE,e= .returned v/\w'=σ'.w/\V i pE=v/\J k' pE σ'/\ ∀j,wG ops n i j=true->V j pE=V j nm))\/
 (Region.wanted o (yv ops N ρ)=false/\V i nm=undef/\J k' nm σ)
structure RInv(ops:Array Oper)(N n:Nat)(E:List Nat)(Ps:List (List Bool))(jw:Nat->Value)(J:Nat->Nm->St->Prop)(V:Nat->Nm->Value)(listed:Array Bool)(ρ:Nat->Value)(σ:St):Prop where
 size:listed.size=ops.size
 off: ∀t,(∀i,i<n->dm ops i≠some t)->ρ t=jw t
 st: ∃nm k,Ps[k]? =some (ph E listed)/\J k nm σ/\ ∀i,i<n->listed.getD i false=true-> ∀d,dm ops i=some d->look N ρ d=V i nm
 low: ∀i,n<=i->listed.getD i false=false
 closed: ∀i o,listed.getD i false=true->ops[i]? =some o-> ∀j,waits o j=true->listed.getD j false=true
theorem oa{listed:Array Bool}(OY: ∀i o,listed.getD i false=true->ops[i]? =some o-> ∀j,waits o j=true->listed.getD j false=true){i:Nat}:
  ∀(f j:Nat) (o:Oper),ops[j]? =some o->(∀k,waits o k=true->listed.getD k false=true)->reach ops f j i=true->listed.getD i false=true:=by
 intro f
 induction f with
 | zero=>intro j o _ _ h;cases h
 | succ f ih=>
  intro j o ho hw h;rw [reach,ho] at h;simp only [qc2] at h;rcases h with h | h
  ·exact hw i h
  ·obtain ⟨e,he,h⟩:=List.any_eq_true.1 h;simp only [qa4] at h;have h1:waits o e.on=true:=List.any_eq_true.2 ⟨e,he,by simp only [qa4];exact ⟨Nat.beq_refl _,h.1⟩⟩;have h2:=hw _ h1;cases f with
   | zero=>cases h.2
   | succ f'=>
    cases GB:ops[e.on]? with
    | none=>have:=h.2;rw [reach,GB] at this;cases this
    | some o'=>exact ih e.on o' GB (λk hk=>OY _ _ h2 GB k hk) h.2
theorem GS{listed:Array Bool}(hs:listed.size=ops.size)(adW: ∀i,n<=i->listed.getD i false=false)(jF: ∀i,i<n->listed.getD i false=true):
  listed=((List.range ops.size).map (λi=>Nat.blt i n)).toArray:=by
 apply Array.ext_getElem?;intro i;by_cases hi:i<ops.size
 ·have h1:listed[i]? =some (listed.getD i false):=by simp [Array.getD,hs,hi]
  rw [h1];simp only [qax,List.getElem?_map];rw [List.getElem?_range hi];simp only [qab,qac];by_cases hn:i<n
  ·rw [jF i hn,Da hn]
  ·rw [adW i (by omega),vd hn]
 ·rw [qb7 (by omega)];simp [hi]
theorem countP_set{listed:Array Bool}{i n:Nat}(hi:i<n)(h0:listed.getD i false=false)(hs:i<listed.size):
  (List.range n).countP (λj=> !listed.getD j false)=(List.range n).countP (λj=> !(listed.setIfInBounds i true).getD j false)+1:=by
 induction n with
 | zero=>omega
 | succ n ih=>
  rw [List.range_succ,List.countP_append,List.countP_append];by_cases h:i=n
  ·subst h;have e1:(List.range i).countP (λj=> !listed.getD j false)=(List.range i).countP (λj=> !(listed.setIfInBounds i true).getD j false):=by
    refine List.countP_congr λj hj=> ?_;rw [getD_set_ne false (by have:=qaw.1 hj;omega)]
   have e2:(listed.setIfInBounds i true).getD i false=true:=by simp [Array.getD,hs]
   rw [e1];simp only [List.countP_cons,List.countP_nil,h0,e2]
   rfl
  ·have:=ih (by omega);have e:(listed.setIfInBounds i true).getD n false=listed.getD n false:=getD_set_ne false h;rw [this];simp only [List.countP_cons,List.countP_nil,e];omega
theorem XN{E:List Nat}{listed:Array Bool}{i:Nat}(hs:i<listed.size):ph E (listed.setIfInBounds i true)=Jg E i (ph E listed):=by
 induction E with
 | nil=>rfl
 | cons e E ih=>
  simp only [ph,Jg,qb5,List.zipWith_cons_cons] at ih ⊢;rw [ih];congr 1;by_cases h:e=i
  ·subst h;simp [Array.getD,hs]
  ·rw [getD_set_ne false (qbp h),sG h,Bool.or_false]
theorem Pp{listed:Array Bool}{e:Nat}{b:Bool}: ∀{E:List Nat},(e,b)∈List.zip E (ph E listed)->b=listed.getD e false
 | [],h=>by cases h
 | a::E,h=>by
  simp only [ph,qb5,List.zip_cons_cons,qad,qcd] at h;rcases h with ⟨rfl,rfl⟩ | h
  ·rfl
  ·exact Pp (E:=E) h
theorem Pq{E:List Nat}{m:Nat}:ph E (Array.replicate m false)=E.map λ_=>false:=by
 unfold ph;exact qcb λe _=>getD_replicate_false _ _
theorem Tu{E:List Nat}{m:Nat}(hE: ∀e∈E,e<n->e<m):ph E ((List.range m).map (λi=>Nat.blt i n)).toArray=E.map λe=>Nat.blt e n:=by
 unfold ph;refine qcb λe he=> ?_;by_cases hm:e<m
 ·simp [Array.getD,hm]
 ·have: ¬e<n:=λh=>hm (hE e he h);rw [vd this];simp [Array.getD,hm]
theorem Pr{E:List Nat}{Ps:List (List Bool)}{Al:List (List (Nat×Nat))}{zg:Nat}(hB:XM N ops n E Ps Al zg=true)
  (cG: ∀i o k k',i<n->ops[i]? =some o->(k,k')∈Al.getD i []-> ∀nm ρ σ,J k nm σ->(∀t,(∀i,i<n->dm ops i≠some t)->ρ t=jw t)->
   (∀j,waits o j=true->j<n-> ∀d,dm ops j=some d->look N ρ d=V j nm)->ve P ops N n J V ρ σ nm i o k')
  (hk: ∀nm ρ σ,J zg nm σ->(∀t,(∀i,i<n->dm ops i≠some t)->ρ t=jw t)->(∀i,i<n-> ∀d,dm ops i=some d->look N ρ d=V i nm)->
   wpList P ops Q (ops.toList.drop n) (fr N ρ) σ.w):
  ∀(fuel:Nat) (listed:Array Bool) (ρ:Nat->Value) (σ:St),RInv ops N n E Ps jw J V listed ρ σ->(List.range n).countP (λi=> !listed.getD i false)+(ops.size - n)=fuel->
   wpAny P .any ops Q fuel listed (fr N ρ) σ.w:=by
 simp only [XM,qa4] at hB;obtain ⟨⟨⟨⟨⟨⟨⟨hn,hd⟩,hw⟩,Jh⟩,_⟩,Mg⟩,aaF⟩,hal⟩:=hB;have hn:=qa5 hn;have Ms: ∀i d,i<n->dm ops i=some d->d<N:=by
  intro i d hi h;have:=qa9.1 hd i (qaw.2 hi);simp only [qa4] at this;have h1:=this.1.1;rw [h] at h1;refine qa6 λhc=> ?_;simp only [vd hc] at h1;cases h1
 have aaG: ∀i o,i<n->ops[i]? =some o-> ∀e∈o.after.toList,Region.binds .any e=true->e.on<i:=by
  intro i o hi ho e he hb;have:=qa9.1 hd i (qaw.2 hi);simp only [qa4] at this;have h1:=this.1.2;rw [ho] at h1;have:=qa9.1 h1 e he;simp only [hb,qai,Bool.false_or] at this;refine qa6 λhc=> ?_;rw [vd hc] at this;cases this
 have jv: ∀i j d,i<n->j<n->i≠j->dm ops i=some d->dm ops j≠some d:=by
  intro i j d hi hj pV Pu hdj;have:=qa9.1 hd i (qaw.2 hi);simp only [qa4] at this;have:=qa9.1 this.2 j (qaw.2 hj);rw [Pu,hdj] at this;simp [sG pV] at this
 have aaH: ∀j i o,n<=j->i<n->ops[j]? =some o->reach ops ops.size j i=true:=by
  intro j i o hj hi ho;have bs:=(qa1.1 ho).1;have:=qa9.1 hw j (qaw.2 bs);rw [vd (by omega),Bool.false_or] at this;exact qa9.1 this i (qaw.2 hi)
 have fin: ∀(listed:Array Bool) (ρ:Nat->Value) (σ:St),RInv ops N n E Ps jw J V listed ρ σ->(∀i,i<n->listed.getD i false=true)->
   listed=((List.range ops.size).map (λi=>Nat.blt i n)).toArray/\wpList P ops Q (ops.toList.drop n) (fr N ρ) σ.w:=by
  intro listed ρ σ inv jF;have Dj:=GS inv.size inv.low jF;refine ⟨Dj, ?_⟩;obtain ⟨nm,k,hp,hJ,eE⟩:=inv.st;rw [Dj,Tu (λe _ h=>by omega)] at hp;have Ji:=(qbd.1 hp).1;have:=qa9.1 aaF k (qaw.2 Ji);have e1:Ps.getD k []=E.map λe=>Nat.blt e n:=by simp [List.getD,hp]
  rw [e1] at this;simp only [beq_self_eq_true,qai,Bool.false_or] at this;have:=Nat.eq_of_beq_eq_true this;subst this;exact hk nm ρ σ hJ inv.off (λi hi d hd=>eE i hi (jF i hi) d hd)
 intro fuel
 induction fuel with
 | zero=>
  intro listed ρ σ inv hf;have jF: ∀i,i<n->listed.getD i false=true:=by
   intro i hi;have h0:(List.range n).countP (λi=> !listed.getD i false)=0:=by omega
   have:=List.countP_eq_zero.1 h0 i (qaw.2 hi);simpa using this
  obtain ⟨Dj,hh⟩:=fin listed ρ σ inv jF;have hdr:ops.toList.drop n=[]:=by rw [List.drop_eq_nil_iff];simp;omega
  rw [hdr] at hh;refine ⟨?_,hh⟩;have:Region.seqB .any ops 0 n listed=true:=by
   rw [Dj];have e:ops.size - n=0:=by omega
   rw [e] at Jh;exact Jh
  simpa [Region.seqB] using this
 | succ fuel ih=>
  intro listed ρ σ inv hf;by_cases jF: ∀i,i<n->listed.getD i false=true
  ·
   obtain ⟨Dj,hh⟩:=fin listed ρ σ inv jF;have h0:(List.range n).countP (λi=> !listed.getD i false)=0:=by
    rw [List.countP_eq_zero];intro i hi;simp [jF i (qaw.1 hi)]
   have:=wpAny_of_seq (md:= .any) (Q':=Q) (P:=P) (ops.toList.drop n) n listed (fr N ρ) σ.w (λj=>by simp [List.getElem?_drop]) (by
    rw [Dj,List.length_drop,Array.length_toList];exact Jh) hh
   rw [List.length_drop,Array.length_toList] at this;rw [show fuel+1=ops.size - n by omega];exact this
  ·
   have KR: ∃i,i<n/\listed.getD i false=false:=by
    refine qa6 λhc=>jF λi hi=> ?_;cases h:listed.getD i false with
    | true=>rfl
    | false=>exact absurd ⟨i,hi,h⟩ hc
   have step: ∀i∈Region.ready .any ops listed,wpOp P ops Q i (wpAny P .any ops Q fuel (listed.setIfInBounds i true)) (fr N ρ) σ.w:=by
    intro i hi;obtain ⟨h1,o,ho,h2⟩:=mem_ready.1 hi;have bs:=(qa1.1 ho).1;have hls:i<listed.size:=by rw [inv.size];exact bs
    have hwj: ∀j,waits o j=true->listed.getD j false=true:=by
     intro j hj;obtain ⟨e,he,hb⟩:=List.any_eq_true.1 hj;simp only [qa4] at hb;have:=Nat.eq_of_beq_eq_true hb.1;subst this;exact h2 e (by simpa using he) hb.2
    have Z2:i<n:=by
     refine qa6 λhc=> ?_;obtain ⟨k,Il,xM⟩:=KR;have:=oa inv.closed _ i o ho hwj (aaH i k o (by omega) Il ho);rw [xM] at this;cases this
    have hi0:listed.getD i false=false:=by
     simp only [Array.getD,hls,dif_pos] at h1 ⊢;exact h1
    have aaI: ∀j,j<n->i≠j->listed.getD j false=true->wG ops n i j=true:=by
     intro j hj pV hl;have:reach ops ops.size j i=false:=by
      cases hr:reach ops ops.size j i with
      | false=>rfl
      | true=>
       obtain ⟨oj,Z6⟩: ∃oj,ops[j]? =some oj:=by rw [Array.getElem?_eq_getElem (by omega)];exact ⟨_,rfl⟩
       have:=oa inv.closed _ j oj Z6 (λk hk=>inv.closed j oj hl Z6 k hk) hr;rw [hi0] at this;cases this
     simp only [wG,Da hj,sG (qbp pV),this,Bool.not_false,Bool.and_self]
    obtain ⟨nm,k,hp,hJ,eE⟩:=inv.st;have Ji:=(qbd.1 hp).1;have ek:Ps.getD k []=ph E listed:=by simp [List.getD,hp]
    have adX:XL ops E i (ph E listed)=true:=by
     unfold XL;refine qa9.2 λ⟨e,b⟩ heb=> ?_;have hb:b=listed.getD e false:=Pp heb;subst hb;simp only [qa4,qc2,qbc];refine ⟨⟨?_, ?_⟩, ?_⟩
     ·cases hr:reach ops ops.size i e with
      | false=>exact .inl rfl
      | true=>exact .inr (oa inv.closed _ i o ho hwj hr)
     ·cases hr:reach ops ops.size e i with
      | false=>exact .inl rfl
      | true=>
       right;cases hl:listed.getD e false with
       | false=>rfl
       | true=>
        cases hoe:ops[e]? with
        | none=>
         cases lH:ops.size with
         | zero=>omega
         | succ q=>rw [lH,reach,hoe] at hr;cases hr
        | some oe=>
         have:=oa inv.closed _ e oe hoe (λk hk=>inv.closed e oe hl hoe k hk) hr;rw [hi0] at this;cases this
     ·by_cases hei:e=i
      ·subst hei;exact .inr hi0
      ·exact .inl (sG hei)
    have h3:=qa9.1 (qa9.1 hal i (qaw.2 Z2)) k (qaw.2 Ji);rw [ek,adX] at h3;simp only [qai,Bool.false_or] at h3;obtain ⟨⟨ka,k'⟩,Mt,h4⟩:=List.any_eq_true.1 h3;simp only [qa4,beq_iff_eq] at h4;have:=Nat.eq_of_beq_eq_true h4.1;subst this;have VU:Ps[k']? =some (ph E (listed.setIfInBounds i true)):=by rw [XN hls];exact h4.2
    have hdo:=cG i o ka k' Z2 ho Mt nm ρ σ hJ inv.off (λj hj Tv d hd=>eE j Tv (hwj j hj) d hd);have next: ∀v (σ':St) pE,V i pE=v->J k' pE σ'->(∀j,wG ops n i j=true->V j pE=V j nm)-> ∀a',a'=(fr N ρ).put o.dst v->wpAny P .any ops Q fuel (listed.setIfInBounds i true) a' σ'.w:=by
     rintro v σ' pE hV Mi er a' rfl;have key: ∀qB,(fr N ρ).put o.dst v=fr N qB->(∀t,(∀i,i<n->dm ops i≠some t)->qB t=jw t)->(∀j,j<n->(listed.setIfInBounds i true).getD j false=true-> ∀d,dm ops j=some d->look N qB d=V j pE)->
       wpAny P .any ops Q fuel (listed.setIfInBounds i true) ((fr N ρ).put o.dst v) σ'.w:=by
      intro qB e ba aaJ;rw [e];refine ih _ _ _ ⟨by simp [inv.size],ba,⟨pE,k',VU,Mi,aaJ⟩, ?_, ?_⟩ ?_
      ·intro j hj;rw [getD_set_ne false (by omega)];exact inv.low j hj
      ·intro j oj hj Z6 q hq;by_cases pV:i=j
       ·subst pV;rw [ho] at Z6;cases Z6;exact getD_set_true (hwj q hq)
       ·rw [getD_set_ne false pV] at hj;exact getD_set_true (inv.closed j oj hj Z6 q hq)
      ·have:=countP_set (listed:=listed) (i:=i) (n:=n) Z2 hi0 hls;omega
     cases VV:o.dst with
     | none=>
      have hdn:dm ops i=none:=by simp [dm,ho,VV]
      refine VV▸key ρ (by rw [VV,jJ]) inv.off ?_;intro j hj hl d' Io;by_cases pV:i=j
      ·subst pV;rw [hdn] at Io;cases Io
      ·rw [getD_set_ne false pV] at hl;rw [er j (aaI j hj pV hl)];exact eE j hj hl d' Io
     | some d=>
      have Pu:dm ops i=some d:=by simp [dm,ho,VV]
      have hdN:=Ms i d Z2 Pu;refine VV▸key (upd ρ d v) (by rw [VV,cQ]) ?_ ?_
      ·intro t ht;have:t≠d:=λe=>ht i Z2 (e▸Pu);show (bif Nat.beq t d then v else ρ t)=_;rw [sG this];exact inv.off t ht
      ·intro j hj hl d' Io;by_cases pV:i=j
       ·subst pV;rw [Pu] at Io;cases Io;have:look N (upd ρ d v) d=v:=by
         rw [uv _ hdN];show (bif Nat.beq d d then v else _)=v;rw [KL];rfl
        rw [this,hV]
       ·rw [getD_set_ne false pV] at hl;have adY:d'≠d:=λe=>jv i j d Z2 hj pV Pu (e▸Io);have:look N (upd ρ d v) d'=look N ρ d':=by
         unfold look;have:upd ρ d v d'=ρ d':=by show (bif Nat.beq d' d then v else ρ d')=_;rw [sG adY];rfl
         rw [this]
        rw [this,er j (aaI j hj pV hl)];exact eE j hj hl d' Io
    unfold wpOp;rw [ho];simp only [dY];rcases hdo with ⟨Pv,bH⟩ | ⟨Pv,hV,Mi⟩
    ·rw [if_pos Pv];refine .inl ?_;unfold Oper.wp;rw [aO];rcases bH with ⟨v,σ',pE,hr,hV,Mi,er⟩ | ⟨σ',pE,Is,hr,Mi,er⟩ | ⟨f,args,hr,hc⟩
     ·rw [hr,Oper.upon_value];exact next v σ' pE hV Mi er _ rfl
     ·rw [hr,Oper.upon_skip];exact next _ σ' pE rfl Mi er _ (by rw [Is];rfl)
     ·rw [hr,Oper.upon_enter];refine hc.mono ?_;rintro e w' ⟨v,σ',pE,rfl,rfl,hV,Mi,er⟩;exact next v σ' pE hV Mi er _ rfl
    ·rw [Pv,if_neg (by simp)];exact next undef σ nm hV Mi (λ_ _=>rfl) _ rfl
   refine ⟨λadZ=> ?_,step⟩;exfalso;obtain ⟨m,⟨Sy,Oc⟩,ad1⟩:=exists_least (p:=λi=>i<n/\listed.getD i false=false) KR;obtain ⟨o,ho⟩: ∃o,ops[m]? =some o:=by
    rw [Array.getElem?_eq_getElem (by omega)];exact ⟨_,rfl⟩
   have wH:m<listed.size:=by rw [inv.size];omega
   have:m∈Region.ready .any ops listed:=by
    refine mem_ready.2 ⟨?_,o,ho,λe he hb=> ?_⟩
    ·simp only [Array.getD,wH,dif_pos] at Oc ⊢;exact Oc
    ·have bs:=aaG m o Sy ho e (by simpa using he) hb;cases hx:listed.getD e.on false with
     | true=>rfl
     | false=>
      have:=ad1 e.on ⟨by omega,hx⟩;omega
   rw [adZ] at this;cases this
def oJ(F:Nat->Oper->Prop):Nat->Nat->List Oper->Prop
 | 0,_,_=>True
 | _+1,_,[]=>True
 | n+1,k,o::r=>F k o/\oJ F n (k+1) r
theorem all_nil{F:Nat->Oper->Prop}{k:Nat}{l:List Oper}:oJ F 0 k l:=trivial
theorem all_cons{F:Nat->Oper->Prop}{n k:Nat}{o:Oper}{r:List Oper}(h:F k o)(t:oJ F n (k+1) r):oJ F (n+1) k (o::r):=⟨h,t⟩
theorem KS{F:Nat->Oper->Prop}: ∀(n k:Nat) (l:List Oper),oJ F n k l-> ∀i o,i<n->l[i]? =some o->F (k+i) o
 | 0,_,_,_,_,_,hi,_=>by omega
 | _+1,_,[],_,_,_,_,ho=>by simp at ho
 | n+1,k,o::r,⟨h,t⟩,i,o',hi,ho=>by
  cases i with
  | zero=>simp at ho;subst ho;exact h
  | succ i=>
   have:=KS n (k+1) r t i o' (by omega) (by simpa using ho);rw [show k+(i+1)=k+1+i by omega];exact this
def EI(F:Nat->Nat->Prop):List (Nat×Nat)->Prop
 | []=>True
 | (k,k')::r=>F k k'/\EI F r
theorem aaK{F:Nat->Nat->Prop}: ∀{l:List (Nat×Nat)},EI F l-> ∀k k',(k,k')∈l->F k k'
 | [],_,_,_,h=>by cases h
 | (a,b)::r,⟨h,t⟩,k,k',hm=>by
  rcases qad.1 hm with e | hm
  ·cases e;exact h
  ·exact aaK t k k' hm
def R2(l:List (List (Nat×Nat)))(i:Nat):List (Nat×Nat):=l.getD i []
def Jl(l:List (Nm->St->Prop))(k:Nat)(nm:Nm)(σ:St):Prop:=(l.getD k (λ_ _=>False)) nm σ
def Vl(l:List (Nm->Value))(i:Nat)(nm:Nm):Value:=(l.getD i (λ_=>undef)) nm
def wI(ops:Array Oper)(n t:Nat):Bool:=(List.range n).all λi=> !(dm ops i==some t)
theorem EJ{t:Nat}(h:wI ops n t=true): ∀i,i<n->dm ops i≠some t:=by
 intro i hi;have:=qa9.1 h i (qaw.2 hi);simpa using this
def Ob(P:Program)(ops:Array Oper)(N n:Nat)(jw:Nat->Value)(J:Nat->Nm->St->Prop)(V:Nat->Nm->Value)(i:Nat)(o:Oper)(k k':Nat):Prop:=
 ∀nm ρ σ,J k nm σ->(∀t,wI ops n t=true->ρ t=jw t)->(∀j,waits o j=true->Nat.blt j n=true-> ∀d,dm ops j=some d->look N ρ d=V j nm)->ve P ops N n J V ρ σ nm i o k'
theorem aaL{id:Nat}{l:List Oper}{σ:St}(n:Nat)(E:List Nat)(Ps:List (List Bool))(Al:List (List (Nat×Nat)))(zg:Nat)(Js:List (Nm->St->Prop))(Vs:List (Nm->Value))(nm0:Nm)
  (hm:P.follows .mixedOrders=true) (hB:XM N l.toArray n E Ps Al zg=true) (h0: ∀nq,nq.w.heap=σ.w.heap->Md (dv []) σ nq->Jl Js 0 nm0 nq)
  (cG:oJ (λi o=>EI (Ob P l.toArray N n jw (Jl Js) (Vl Vs) i o) (R2 Al i)) n 0 l)
  (hk: ∀nm ρ σ',Jl Js zg nm σ'->(∀t,wI l.toArray n t=true->ρ t=jw t)->(∀i,Nat.blt i n=true-> ∀d,dm l.toArray i=some d->look N ρ d=Vl Vs i nm)->
   wpList P l.toArray Q (l.drop n) (fr N ρ) σ'.w):(Code.region id l.toArray true).wp P Q (fr N jw) σ.w:=by
 refine wp_region_any hm ?_
 let nq:St:=⟨{ σ.w with drawn:=σ.w.drawn+1 },σ.fC,σ.ok,σ.dI⟩
 have m1:Md (dv []) σ nq:=⟨rfl, .inr rfl,rfl, .inr (Nat.le_succ _),rfl,⟨qa3 _,λ_ _=>rfl,λ_=>qa3 _⟩,λ_ _ _=>rfl,λ_ _ _=>rfl⟩;have hB':=hB;simp only [XM,qa4] at hB';obtain ⟨⟨⟨⟨⟨⟨⟨hn,_⟩,_⟩,_⟩,er⟩,_⟩,_⟩,_⟩:=hB';have W7:n<=l.length:=by simpa using qa5 hn
 have hb: ∀j,Nat.blt j n=true->j<n:=λj h=>qa6 λhc=>by rw [vd hc] at h;cases h
 refine Pr (jw:=jw) (J:=Jl Js) (V:=Vl Vs) hB ?_ ?_ _ _ jw nq ⟨by simp,λ_ _=>rfl,⟨nm0,0, ?_,h0 nq rfl m1,λi _ h=>(by rw [getD_replicate_false] at h;exact absurd h (by decide))⟩,λi _=>getD_replicate_false _ _,λi _ h=>(by rw [getD_replicate_false] at h;exact absurd h (by decide))⟩ ?_
 ·intro i o k k' hi ho Mt nm ρ σ' hJ ba aP;have:=aaK (KS n 0 l cG i o hi (by simpa using ho)) k k' (by rw [qc3];exact Mt);rw [qc3] at this;exact this nm ρ σ' hJ (λt ht=>ba t (EJ ht)) (λj hj Tv d hd=>aP j hj (hb j Tv) d hd)
 ·intro nm ρ σ' hJ ba eE;simpa using hk nm ρ σ' hJ (λt ht=>ba t (EJ ht)) (λi hi d hd=>eE i (hb i hi) d hd)
 ·rw [Pq];have:Ps.getD 0 [true]=E.map λ_=>false:=by simpa using er
  cases Ps with
  | nil=>
   cases E with
   | nil=>simp at this
   | cons e E=>simp at this
  | cons p Ps=>simpa using this
 ·have:(List.range n).countP (λi=> !(Array.replicate l.toArray.size false).getD i false)=n:=by
   rw [List.countP_eq_length.2]
   ·simp
   ·intro i _;rw [getD_replicate_false];rfl
  rw [this];simp;omega
theorem Dk{id:Nat}{l:List Oper}{σ:St}(n:Nat)(E:List Nat)(Ps:List (List Bool))(Al:List (List (Nat×Nat)))(zg:Nat)(Js:List (Nm->St->Prop))(Vs:List (Nm->Value))(nm0:Nm)
 (hm:P.follows .mixedOrders=true) (hB:XM N l.toArray n E Ps Al zg=true) (h0: ∀nq,Md (dv []) σ nq->Jl Js 0 nm0 nq)
 (cG:oJ (λi o=>EI (Ob P l.toArray N n jw (Jl Js) (Vl Vs) i o) (R2 Al i)) n 0 l)
 (hk: ∀nm ρ σ',Jl Js zg nm σ'->(∀t,wI l.toArray n t=true->ρ t=jw t)->(∀i,Nat.blt i n=true-> ∀d,dm l.toArray i=some d->look N ρ d=Vl Vs i nm)->
  wpList P l.toArray Q (l.drop n) (fr N ρ) σ'.w):(Code.region id l.toArray true).wp P Q (fr N jw) σ.w:=aaL n E Ps Al zg Js Vs nm0 hm hB (λnq _ m=>h0 nq m) cG hk
variable{ρ:Nat->Value}{σ:St}{nm pE:Nm}{i k k':Nat}{o:Oper}{v:Value}{d:Nat}{op:Op}{ty:TypeId}{pos:String}{af:Array Edge}{gd:Option (Nat×Bool)}
theorem GU{t:Nat}(h:ρ t=jw t)(hv:look N jw t=v):look N ρ t=v:=by
 rw [←hv];unfold look;rw [h]
theorem Pw{j d:Nat}(hd:dm ops j=some d)(h:look N ρ d=undef):yv ops N ρ j=none:=by
 unfold yv;rw [show (ops[j]?).bind (·.dst)=some d from hd];simp only [h];rfl
theorem pW{j d:Nat}{b:Bool}(hd:dm ops j=some d)(h:look N ρ d=B b):yv ops N ρ j=some b:=by
 unfold yv;rw [show (ops[j]?).bind (·.dst)=some d from hd];simp only [h]
theorem xZ(hw:Region.wanted o (yv ops N ρ)=true)(hr:ei P σ.w.heap N ρ o v)(hV:V i nm=v)(hJ:J k nm σ):ve P ops N n J V ρ σ nm i o k:=
 .inl ⟨hw, .inl ⟨v,σ,nm,hr σ.w rfl,hV,hJ,λ_ _=>rfl⟩⟩
theorem EK(hw:Region.wanted o (yv ops N ρ)=false)(hV:V i nm=undef)(hJ:J k nm σ):ve P ops N n J V ρ σ nm i o k:= .inr ⟨hw,hV,hJ⟩
theorem wJ{Rz:Value->St->Prop}(hw:Region.wanted o (yv ops N ρ)=true)(he:Ex P σ N ρ o Rz)(h: ∀v σ',Rz v σ'-> ∃jH pE,jH.w=σ'.w/\V i pE=v/\J k' pE jH/\ ∀j,wG ops n i j=true->V j pE=V j nm):ve P ops N n J V ρ σ nm i o k':=by
 obtain ⟨v,σ',hr,hz⟩:=he;obtain ⟨jH,pE,th,h1,h2,h3⟩:=h v σ' hz;refine .inl ⟨hw, .inl ⟨v,jH,pE, ?_,h1,h2,h3⟩⟩;rw [th];exact hr
theorem XO{Rs:St->Prop}(hw:Region.wanted o (yv ops N ρ)=true)(hd:o.dst=none)(he:ExS P σ N ρ o Rs)(h: ∀σ',Rs σ'-> ∃jH pE,jH.w=σ'.w/\J k' pE jH/\ ∀j,wG ops n i j=true->V j pE=V j nm):ve P ops N n J V ρ σ nm i o k':=by
 obtain ⟨σ',hr,hz⟩:=he;obtain ⟨jH,pE,th,h2,h3⟩:=h σ' hz;refine .inl ⟨hw, .inr (.inl ⟨jH,pE,hd, ?_,h2,h3⟩)⟩;rw [th];exact hr
theorem lE{Rz:Value->St->Prop}(hw:Region.wanted o (yv ops N ρ)=true)(he:Cx P σ N ρ o Rz)(h: ∀v σ',Rz v σ'-> ∃jH pE,jH.w=σ'.w/\V i pE=v/\J k' pE jH/\ ∀j,wG ops n i j=true->V j pE=V j nm):ve P ops N n J V ρ σ nm i o k':=by
 obtain ⟨f,args,hr,hc⟩:=he;refine .inl ⟨hw, .inr (.inr ⟨f,args,hr,hc.mono ?_⟩)⟩;rintro e w' ⟨v,σ',rfl,rfl,hz⟩;obtain ⟨jH,pE,th,h1,h2,h3⟩:=h v σ' hz;exact ⟨v,jH,pE,rfl,th.symm,h1,h2,h3⟩
theorem aaM{i:Nat}{o:Oper}{l:List (Nat×Nat)}(hl:(l.all λp=>Nat.beq p.1 p.2)=true)
  (h: ∀k nm ρ σ,J k nm σ->(∀t,wI ops n t=true->ρ t=jw t)->(∀j,waits o j=true->Nat.blt j n=true-> ∀d,dm ops j=some d->look N ρ d=V j nm)->ve P ops N n J V ρ σ nm i o k):
  EI (Ob P ops N n jw J V i o) l:=by
 induction l with
 | nil=>trivial
 | cons p r ih=>
  obtain ⟨a,b⟩:=p;simp only [List.all_cons,qa4] at hl;have:=Nat.eq_of_beq_eq_true hl.1;subst this;exact ⟨λnm ρ σ hJ ba aP=>h a nm ρ σ hJ ba aP,ih hl.2⟩
theorem ac{m k:Nat}{o:Oper}{r:List Oper}{Al:List (List (Nat×Nat))}(hl:((R2 Al k).all λp=>Nat.beq p.1 p.2)=true)
 (h: ∀k' nm ρ σ,J k' nm σ->(∀t,wI ops n t=true->ρ t=jw t)->(∀j,waits o j=true->Nat.blt j n=true-> ∀d,dm ops j=some d->look N ρ d=V j nm)->ve P ops N n J V ρ σ nm k o k')
 (t:oJ (λi o=>EI (Ob P ops N n jw J V i o) (R2 Al i)) m (k+1) r):oJ (λi o=>EI (Ob P ops N n jw J V i o) (R2 Al i)) (m+1) k (o::r):=all_cons (aaM hl h) t
theorem wn{d:Option Nat}{op:Op}{ty:TypeId}{pos:String}{af:Array Edge}{y:Nat->Option Bool}:Region.wanted ⟨d,op,ty,pos,af,none⟩ y=true:=aI _ rfl _
def XP(F:Nat->Prop):List Nat->Prop
 | []=>True
 | j::r=>F j/\XP F r
theorem aaN{F:Nat->Prop}: ∀{l:List Nat},XP F l-> ∀j∈l,F j
 | [],_,_,h=>by cases h
 | a::r,⟨h,t⟩,j,hm=>by
  rcases qad.1 hm with e | hm
  ·cases e;exact h
  ·exact aaN t j hm
theorem ad3(l:List Nat)(hb:((List.range n).all λj=> !wG ops n i j || l.contains j)=true)(h:XP (λj=>V j pE=V j nm) l): ∀j,wG ops n i j=true->V j pE=V j nm:=by
 intro j hj;have Tv:j<n:=by
  simp only [wG,qa4] at hj;exact qa6 λhc=>by rw [vd hc] at hj;cases hj.1.1
 have:=qa9.1 hb j (qaw.2 Tv);rw [hj] at this;simp only [qai,Bool.false_or,List.contains_iff_mem] at this;exact aaN h j this
end
theorem Tx{N:Nat}{ρ:Nat->Value}{L:List (Nat×Value)}(h: ∀p∈L,look N ρ p.1=p.2):fr N ρ=fr N (bV ρ L):=by
 refine O4 λt ht=> ?_
 induction L with
 | nil=>rfl
 | cons p r ih=>
  have h1:=h p (by simp);rw [bV];by_cases e:t=p.1
  ·subst e;rw [KL, ←h1,uv _ ht];rfl
  ·rw [sG e];exact ih (λq hq=>h q (by simp [hq]))
theorem Md.iX{S:BS}{a b c:St}(h:Md S a b)(k:Md (dv []) b c):Md S a c:=h.step k (λ_ _ h=>h.elim)
theorem Md.comp{S S':BS}{a b c:St}(h:Md S a b)(k:Md S' b c):Md (λi=>S i\/S' i) a c:=(h.mono λ_ h=> .inl h).step k (λ_ _ h=> .inr h)
theorem RS.Cd{el:Nat}{α:Type}[Rp α]{σ σ':St}{S:BS}{v u:Value}{xs:List α}{a:Int}{e:α}{b o:Nat}(h:RS el σ v xs)(hg:aZ xs a=some e)(hi:Ix v a (Rp.sz α) b o){k:Nat}(hk:k<Rp.sz α)
  (hc:iW σ.w.heap b (o+k)=some u) (m:Md S σ σ'):iW σ'.w.heap b (o+k)=some u:=by
 obtain ⟨h0,h1,h2⟩:=j9 hg;obtain ⟨ob,mm,c,rfl,g0,g1,rfl⟩:=hi.it;rcases h with ⟨_,rfl⟩ | ⟨b,o,c,hv,_,uN,XJ,hA⟩
 ·simp at h1
 ·cases hv;have:(a.toNat+1)*Rp.sz α<=xs.length*Rp.sz α:=qam _ h1;rw [Nat.add_mul] at this;rw [il] at hc ⊢;rw [←hc];exact m.ext.cell b _ (by omega)
theorem RS.Px{el:Nat}{σ σ':St}{S:BS}{b o c:Nat}{zs:List Int}(h:RS el σ (Sl (some ⟨b,o,none⟩) zs c) zs)(hc: ∀j,(hj:j<zs.length)->iW σ.w.heap b (o+j)=some (I zs[j]))(m:Md S σ σ'):
  ∀j,(hj:j<zs.length)->iW σ'.w.heap b (o+j)=some (I zs[j]):=by
 intro j hj;rcases h with ⟨_,rfl⟩ | ⟨b,o,c,hv,_,uN,XJ,hA⟩
 ·simp at hj
 ·cases hv;rw [←hc j hj,il,il];exact m.ext.cell b _ (by have:Rp.sz Int=1:=rfl;rw [this] at XJ;omega)
end Go.Vs
namespace Go.Vs
open Go
section
variable{P:Program}{H:Array Obj}{n:Nat}{ρ:Nat->Value}{d:Option Nat}{ty T:TypeId}{pos:String}{af:Array Edge}{gd:Option (Nat×Bool)}
theorem qN{fs:Array Field}{parts:Array (Nat×Operand)}{ps:List (Nat×Value)}{cs:Array Value}{z:Value}{s bt:Nat}{places:Array (Nat×Nat)}(hT:P.underlying T=some (.struct fs))(hi:TI P T z s bt)
  (Ir: ∀w,(fs.mapM (λf=>do pure (f.offset, ←sizeOf f.type)):Sem (Array (Nat×Nat))).run P w= .ok places w) (hp:parts.toList.map (λp=>(p.1,ev n ρ p.2))=ps)
  (yN:Instr.fill (places[·]?) z.cells ps=some cs):ei P H n ρ ⟨d, .build T parts,ty,pos,af,gd⟩ (.agg cs):=λw _=>by
 have XF:(parts.map fun (i,x)=>(i,ev n ρ x))=ps.toArray:=by rw [←hp, ←Array.toList_map]
 simp only [execOp,XF,Instr.build,underlying,hT,oI hi,Sem.run_bind,run_program,Result.andThen_ok,Sem.run_pure,Ir,yN]
theorem XQ{E m:Nat}{xs:List Int}{x y:Operand}{a e:Int}{z:Value}{bt:Nat}(hT:P.underlying T=some (.array m E))(hi:TI P E z 1 bt)(hE:P.underlying E=some (.int .i64))
  (hx:ev n ρ x= .agg (xs.map I).toArray) (hy:ev n ρ y=I a) (hg:aZ xs a=some e) (hl:xs.length=m):ei P H n ρ ⟨d, .index T x y,ty,pos,af,gd⟩ (I e):=by
 obtain ⟨h0,h1,h2⟩:=j9 hg;exact Ev hT hi hE hx hy h0 (by omega) (by rw [qau h1,h2])
end
theorem jM{α β:Type}{a:Option Addr}{xs:List α}{ys:List β}{c:Nat}(h:xs.length=ys.length):Sl a xs c=Sl a ys c:=by unfold Sl;rw [h]
section
variable{P:Program}{n:Nat}{ρ:Nat->Value}{σ:St}
theorem pX{T:TypeId}{D:TypeDesc}{cs:List Value}{z:Value}{s bt b:Nat}(hT:P.underlying T=some D)(hD:(match D with | .struct _=>false | .array _ _=>false | _=>true)=false)
  (hi:TI P T z s bt) (hlen:cs.length=s) (hB: ∀j,(hj:j<cs.length)->iW σ.w.heap b (0+j)=some cs[j]):(loadVar T ⟨b,0,none⟩).run P σ.w= .ok (.agg cs.toArray) σ.w:=by
 have xJ:(isAgg T).run P σ.w= .ok true σ.w:=by
  simp only [isAgg,underlying,Sem.run_bind,run_program,Result.andThen_ok,hT,Sem.run_pure];cases D <;> simp_all
 have hld:=run_loadCellsFrom (P:=P) σ.w b 0 s 0 cs [] hlen (λj hj=>by rw [←il];simpa using hB j hj);simp [loadVar,xJ,run_typeInfo hi,loadCells,hld]
def kQ(P:Program)(n:Nat)(ρ:Nat->Value)(w:World):List ResultVar->List Value->Prop
 | [],[]=>True
 | .tmp t::r,v::vs=>look n ρ t=v/\kQ P n ρ w r vs
 | .cell t T::r,v::vs=>(∃a,look n ρ t= .pointer (some a)/\(loadVar T a).run P w= .ok v w)/\kQ P n ρ w r vs
 | _,_=>False
theorem jy{w:World}:kQ P n ρ w [] []:=trivial
theorem Er{w:World}{t:Nat}{r:List ResultVar}{v:Value}{vs:List Value}(h:look n ρ t=v)(k:kQ P n ρ w r vs):kQ P n ρ w (.tmp t::r) (v::vs):=⟨h,k⟩
theorem wK{w:World}{t T b:Nat}{r:List ResultVar}{v:Value}{vs:List Value}(h:look n ρ t=pt b 0)(hl:(loadVar T ⟨b,0,none⟩).run P w= .ok v w)(k:kQ P n ρ w r vs):kQ P n ρ w (.cell t T::r) (v::vs):=⟨⟨_,h,hl⟩,k⟩
def GV(D:Array Value):ResultVar->Sem Value
 | .tmp t=>pure (D.getD t undef)
 | .cell a t=>do loadVar t (←asAddr (D.getD a undef))
theorem Ty{w:World}: ∀(rs:List ResultVar) (vs:List Value),kQ P n ρ w rs vs->(rs.mapM (GV (fr n ρ).tmps)).run P w= .ok vs w:=by
 intro rs
 induction rs with
 | nil=>intro vs h;cases vs with
  | nil=>rfl
  | cons=>exact h.elim
 | cons r rs ih=>
  intro vs h;cases vs with
  | nil=>cases r <;> exact h.elim
  | cons v vs=>
   cases r with
   | tmp t=>
    obtain ⟨h1,h2⟩:=h;have e:(GV (fr n ρ).tmps (.tmp t)).run P w= .ok v w:=by
     simp only [GV,look_eq,h1,Sem.run_pure]
    simp only [List.mapM_cons,Sem.run_bind,e,Result.andThen_ok,ih vs h2,Sem.run_pure]
   | cell t T=>
    obtain ⟨⟨a,h1,hl⟩,h2⟩:=h;have e:(GV (fr n ρ).tmps (.cell t T)).run P w= .ok v w:=by
     simp only [GV,look_eq,h1,asAddr,Sem.run_bind,Sem.run_pure,Result.andThen_ok,hl]
    simp only [List.mapM_cons,Sem.run_bind,e,Result.andThen_ok,ih vs h2,Sem.run_pure]
def aaO:List Value->Value
 | [v]=>v
 | vs=> .tuple vs.toArray
theorem eG{fn:Func}{w:World}{rs:List ResultVar}{vs:List Value}{v:Value}(h:fn.results=rs.toArray)(hk:kQ P n ρ w rs vs)(hv:aaO vs=v):(results fn (fr n ρ).tmps).run P w= .ok v w:=by
 have hr:=Ty rs vs hk;have hm:(fn.results.mapM (GV (fr n ρ).tmps)).run P w= .ok vs.toArray w:=by
  rw [h,List.mapM_toArray];show ((List.mapM (GV (fr n ρ).tmps) rs) >>= λa=>pure (List.toArray a):Sem (Array Value)).run P w=_;rw [Sem.run_bind,hr];rfl
 have bS:results fn (fr n ρ).tmps=(do let vs←fn.results.mapM (GV (fr n ρ).tmps);pure (if h:vs.size=1 then vs[0] else .tuple vs)):=by
  unfold results;congr 1
 rw [bS,Sem.run_bind,hm];simp only [Result.andThen_ok,Sem.run_pure];rw [←hv]
 match vs with
 | []=>rfl
 | [v]=>rfl
 | v::u::r=>simp [aaO]
end
end Go.Vs
namespace Go.Vs
open Go
structure Pb(S:BS)(σ σ':St):Prop where
 w:σ'.w=σ.w
 dI:σ'.dI=σ.dI
 fC: ∀b, ¬S b->σ'.fC b=σ.fC b
 le: ∀b,σ.fC b<=σ'.fC b
theorem Pb.md{S:BS}{σ σ':St}(h:Pb S σ σ'):Md S σ σ':=
 ⟨by rw [h.w], .inr (by rw [h.w]),by rw [h.w],by rw [h.w];exact .inr (qa3 _),h.dI,⟨by unfold St.size;rw [h.w];exact qa3 _,λb _=>by rw [h.w],h.le⟩,λb _ _=>by rw [h.w],λb _ hn=>h.fC b hn⟩
theorem Pb.trans{S S':BS}{a b c:St}(h:Pb S a b)(k:Pb S' b c):Pb (λi=>S i\/S' i) a c:=
 ⟨k.w.trans h.w,k.dI.trans h.dI,λb hb=>(k.fC b (λe=>hb (.inr e))).trans (h.fC b (λe=>hb (.inl e))),λb=>qa8 (h.le b) (k.le b)⟩
theorem Pb.mono{S S':BS}{a b:St}(h:Pb S a b)(hs: ∀i,S i->S' i):Pb S' a b:=⟨h.w,h.dI,λb hb=>h.fC b (λe=>hb (hs b e)),h.le⟩
def Ch.vf(K:List Ch):Ch where
 dup:=false
 fp:=dv K
 as σ:=gI σ K/\apart K
 GQ h:=by cases h
 bs h:=kP h.1
 er m hd h:=⟨gr h.1 m hd,h.2⟩
def VW{α:Type}[Rp α](K:List Ch)(v:Value)(xs:List α):Prop:= ∀σ,gI σ K->apart K-> ∃σ',Pb (dv K) σ σ'/\RS 0 σ' v xs
inductive eF:List Ch->List Ch->List Ch->Prop
 | nil:eF [] [] []
 | rL {α:Type} [Rp α] {lo el:Nat} {v:Value} {xs:List α} {Ln A B:List Ch}:eF Ln A B->eF (Ch.own lo el v xs::Ln) A (Ch.ro 0 v xs::B)
 | Py {α:Type} [Rp α] {lo el:Nat} {v v':Value} {xs ys:List α} {Ln A B:List Ch}:(∀σ,Ow σ lo el v xs->Ow σ lo el v' ys/\ ∀b,blk v'=some b->blk v=some b)->eF Ln A B->eF (Ch.own lo el v xs::Ln) A (Ch.ro 0 v' ys::B)
 | yP {α:Type} [Rp α] {v:Value} {xs:List α} {K Ln A B:List Ch}:VW K v xs->eF Ln A B->eF (Ch.vf K::Ln) A (Ch.ro 0 v xs::B)
 | same {c:Ch} {Ln A B:List Ch}:eF Ln A B->eF Ln (c::A) (c::B)
 | again {α:Type} [Rp α] {v:Value} {xs:List α} {k:Nat} {Ln A B:List Ch}:eF Ln A B->nth B k=some (Ch.ro 0 v xs)->eF Ln A (Ch.ro 0 v xs::B)
section
variable{P:Program}{n:Nat}{ρ:Nat->Value}{aq σ:St}{S0:BS}{Ln A B R:List Ch}
theorem eF.dv(h:eF Ln A B): ∀b,Go.Vs.dv B b↔Go.Vs.dv A b:=by
 induction h with
 | nil=>intro b;exact Iff.rfl
 | rL _ ih=>intro b;exact ⟨λh=>h.elim (λh=>h.elim) (ih b).1,λh=> .inr ((ih b).2 h)⟩
 | Py _ _ ih=>intro b;exact ⟨λh=>h.elim (λh=>h.elim) (ih b).1,λh=> .inr ((ih b).2 h)⟩
 | yP _ _ ih=>intro b;exact ⟨λh=>h.elim (λh=>h.elim) (ih b).1,λh=> .inr ((ih b).2 h)⟩
 | same _ ih=>intro b;exact or_congr Iff.rfl (ih b)
 | again _ _ ih=>intro b;exact ⟨λh=>h.elim (λh=>h.elim) (ih b).1,λh=> .inr ((ih b).2 h)⟩
theorem eF.apart(h:eF Ln A B):Go.Vs.apart A->Go.Vs.apart B:=by
 induction h with
 | nil=>exact id
 | rL _ ih=>exact λh=>⟨λ_ h=>h.elim,ih h⟩
 | Py _ _ ih=>exact λh=>⟨λ_ h=>h.elim,ih h⟩
 | yP _ _ ih=>exact λh=>⟨λ_ h=>h.elim,ih h⟩
 | same h0 ih=>exact λh=>⟨λb hb eU=>h.1 b hb ((h0.dv b).1 eU),ih h.2⟩
 | again _ _ ih=>exact λh=>⟨λ_ h=>h.elim,ih h⟩
theorem Ow.pb{α:Type}[Rp α]{el lo:Nat}{v:Value}{xs:List α}(h:Ow σ lo el v xs): ∃σ',Pb (λb=>blk v=some b) σ σ'/\RS 0 σ' v xs:=by
 have hl:=h.lt;rcases h with ⟨rfl,rfl⟩ | ⟨b,o,c,C,T,rfl,h2,h3,h4,h5,h6,h7⟩
 ·exact ⟨σ,⟨rfl,rfl,λ_ _=>rfl,λ_=>qa3 _⟩,RS.nil⟩
 ·have hb:=hl b rfl;have hE:=St.Ez (σ:=σ) (e:=o+xs.length*Rp.sz α) hb;refine ⟨σ.OT b (o+xs.length*Rp.sz α) hb,⟨rfl,rfl,λi jv=> ?_,hE.fC⟩, .inr ⟨b,o,c,rfl,qaa _,h4, ?_,λi hi=>((h7 i hi).low (qaa _)).same hE rfl⟩⟩
  ·show (if i=b then _ else _)=_;rw [if_neg (by intro e;subst e;exact jv rfl)]
  ·show _<=(if b=b then _ else _);rw [if_pos rfl];omega
theorem eF.OT(h:eF Ln A B): ∀{σ:St},gI σ Ln->Go.Vs.apart Ln->gI σ A->(∀b,Go.Vs.dv A b-> ¬Go.Vs.dv Ln b)-> ∃rE,Pb (Go.Vs.dv Ln) σ rE/\gI rE B:=by
 induction h with
 | nil=>intro σ _ _ _ _;exact ⟨σ,⟨rfl,rfl,λ_ _=>rfl,λ_=>qa3 _⟩,trivial⟩
 | @rL α _ lo el v xs Ln A B hl ih=>
  rintro σ ⟨h1,h2⟩ ⟨h3,h4⟩ hA hd;obtain ⟨nq,p1,hR⟩:=Ow.pb (h1:Ow σ lo el v xs);obtain ⟨ij,p2,h5⟩:=ih (gr h2 p1.md (λb hb eU=>h3 b eU hb)) h4 (gr hA p1.md (λb hb eU=>hd b hb (.inl eU))) (λb hb eU=>hd b hb (.inr eU));exact ⟨ij,(p1.trans p2).mono (λb hb=>hb),hR.ext p2.md.ext,h5⟩
 | @Py α _ lo el v v' xs ys Ln A B hV hl ih=>
  rintro σ ⟨h1,h2⟩ ⟨h3,h4⟩ hA hd;obtain ⟨hO,eU⟩:=hV σ h1;obtain ⟨nq,p0,hR⟩:=Ow.pb hO;have p1:=p0.mono (S':=λb=>blk v=some b) eU;obtain ⟨ij,p2,h5⟩:=ih (gr h2 p1.md (λb hb eU=>h3 b eU hb)) h4 (gr hA p1.md (λb hb eU=>hd b hb (.inl eU))) (λb hb eU=>hd b hb (.inr eU));exact ⟨ij,(p1.trans p2).mono (λb hb=>hb),hR.ext p2.md.ext,h5⟩
 | @yP α _ v xs K Ln A B hK hl ih=>
  rintro σ ⟨h1,h2⟩ ⟨h3,h4⟩ hA hd;obtain ⟨nq,p1,hR⟩:=hK σ h1.1 h1.2;obtain ⟨ij,p2,h5⟩:=ih (gr h2 p1.md (λb hb eU=>h3 b eU hb)) h4 (gr hA p1.md (λb hb eU=>hd b hb (.inl eU))) (λb hb eU=>hd b hb (.inr eU));exact ⟨ij,(p1.trans p2).mono (λb hb=>hb),hR.ext p2.md.ext,h5⟩
 | @same c Ln A B hl ih=>
  rintro σ h1 h2 ⟨h3,h4⟩ hd;obtain ⟨rE,p,h5⟩:=ih h1 h2 h4 (λb hb=>hd b (.inr hb));exact ⟨rE,p,c.er p.md (λb hb=>hd b (.inl hb)) h3,h5⟩
 | again hl hk ih=>
  intro σ h1 h2 hA hd;obtain ⟨rE,p,h5⟩:=ih h1 h2 hA hd;exact ⟨rE,p,EE hk h5,h5⟩
def Ab(m:Nat)(c:Ch):Prop:= ∀σ σ':St,σ'.w=σ.w->(∀b,m<=b\/c.fp b->σ'.fC b=σ.fC b)->c.as σ->c.as σ'
def wD(m:Nat):List Ch->Prop
 | []=>True
 | c::l=>Ab m c/\wD m l
theorem Tz{m el:Nat}{σ σ':St}(hw:σ'.w=σ.w)(hv: ∀b,m<=b->σ'.fC b=σ.fC b)(h:m<=el):Mk el σ σ':=
 ⟨λb _ _=>by rw [hw],λb hb=>qay (hv b (qa8 h hb)).symm⟩
theorem Ab.own{α:Type}[Rp α]{m lo el:Nat}{v:Value}{xs:List α}(h:m<=el):Ab m (Ch.own lo el v xs):=by
 intro σ σ' hw hv hO;rcases (hO:Ow σ lo el v xs) with hO | ⟨b,o,c,C,T,rfl,h2,h3,h4,h5,h6,h7⟩
 ·exact .inl hO
 ·refine .inr ⟨b,o,c,C,T,rfl,h2,by rw [hw];exact h3,h4,h5,(hv b (.inr rfl)).trans h6,λi hi=> ?_⟩;obtain ⟨cs,h8,h9⟩:=h7 i hi;exact ⟨cs,Rp.uM (Tz hw (λb hb=>hv b (.inl hb)) h) h8,λj hj=>by rw [←h9 j hj];unfold St.cell;rw [hw]⟩
theorem Ab.yO{α:Type}[Rp α][Sc α]{m lo el:Nat}{v:Value}{xs:List α}:Ab m (Ch.own lo el v xs):=by
 intro σ σ' hw hv hO;exact (Ab.own (m:=m) (el:=m) (lo:=lo) (v:=v) (xs:=xs) (qa3 m) σ σ' hw hv (Ow.sc (hO:Ow σ lo el v xs)):Ow σ' lo m v xs).sc
theorem Au{m:Nat}{σ σ':St}(hw:σ'.w=σ.w): ∀{L:List Ch},wD m L->(∀b,m<=b\/Go.Vs.dv L b->σ'.fC b=σ.fC b)->gI σ L->gI σ' L
 | [],_,_,_=>trivial
 | c::l,⟨h1,h2⟩,hv,⟨h3,h4⟩=>⟨h1 σ σ' hw (λb hb=>hv b (hb.imp id .inl)) h3,Au hw h2 (λb hb=>hv b (hb.imp id .inr)) h4⟩
open Classical in
theorem bL.rL{f:FuncId}{args:List Value}{post:Nat->Value->List Ch->Prop}(hl:eF Ln A B)(hc:bL P f args B post)(H:Hp S0 aq σ (Ln++(A++R)))(mw: ∀m v L',post m v L'->wD m L'):
  Calls P f args.toArray σ.w λe w'=> ∃v σ' L',e= .returned v/\w'=σ'.w/\post σ.size v L'/\Hp S0 aq σ' (L'++(Ln++R))/\Md (dv A) σ σ':=by
 obtain ⟨a1,a23⟩:=dC.1 H.all;obtain ⟨a2,a3⟩:=dC.1 a23;obtain ⟨p1,p23,p4⟩:=dM.1 H.ap;obtain ⟨p2,p3,p5⟩:=dM.1 p23;have pA: ∀b,dv A b-> ¬dv Ln b:=λb hb h=>p4 b h (bu.2 (.inl hb));have pR: ∀b,dv R b-> ¬dv Ln b:=λb hb h=>p4 b h (bu.2 (.inr hb));obtain ⟨rE,pp,aB⟩:=hl.OT a1 p1 a2 pA;have lH:rE.size=σ.size:=by unfold St.size;rw [pp.w]
 have Hb:Hp (dv B) rE rE B:=Hp.begin aB (hl.apart p2);have hr:=hc.runs rE σ.size (qay lH.symm) Hb;rw [pp.w] at hr;refine hr.mono ?_;rintro e w' ⟨v,ij,L',rfl,rfl,hp,H'⟩;have SZ:=hl.dv;have hle:σ.size<=ij.size:=lH▸H'.md.size
 let gY:St:=⟨ij.w,λc=>if dv Ln c then σ.fC c else ij.fC c,λb hb=>by
  have: ¬dv Ln b:=λh=>absurd (qa2 (kP a1 b h) hle) (qcg.2 hb);rw [if_neg this];exact ij.ok b hb,ij.dI⟩
 have Om: ∀b,dv Ln b->gY.fC b=σ.fC b:=λb h=>if_pos h;have vq: ∀b, ¬dv Ln b->gY.fC b=ij.fC b:=λb h=>if_neg h;have m3:Md (dv A) σ gY:=by
  refine ⟨?_, ?_, ?_, ?_,H'.md.dI.trans pp.dI,⟨hle,λb ho=> ?_,λb=> ?_⟩,λb hb hn=> ?_,λb hb hn=> ?_⟩
  ·exact H'.md.os.trans (by rw [pp.w])
  ·have:=H'.md.tape;rw [pp.w,pp.dI] at this;exact this
  ·exact H'.md.output.trans (by rw [pp.w])
  ·have:=H'.md.dr;rw [pp.w,pp.dI] at this;exact this
  ·have h1:ij.w.heap[b]? =rE.w.heap[b]? :=H'.md.ext.block b (qa2 ho (pp.le b));show ij.w.heap[b]? =_;rw [h1,pp.w]
  ·by_cases h:dv Ln b
   ·exact qay (Om b h).symm
   ·rw [vq b h];exact qa8 (pp.le b) (H'.md.ext.fC b)
  ·have:=H'.md.block b (by rw [lH];exact hb) (λh=>hn ((SZ b).1 h));rw [pp.w] at this;exact this
  ·by_cases h:dv Ln b
   ·exact Om b h
   ·rw [vq b h,H'.md.fC b (by rw [lH];exact hb) (λh=>hn ((SZ b).1 h)),pp.fC b h]
 have Ep: ∀b,dv L' b->b<σ.size->dv A b:=λb hb bs=>(SZ b).1 (H'.zf b hb (by rw [lH];exact bs));have aL':gI gY L':=Au (σ:=ij) (σ':=gY) rfl (mw _ _ _ hp) (λb hb=>by
  refine vq b λh=> ?_;have bs:=kP a1 b h;rcases hb with hb | hb
  ·omega
  ·exact pA b (Ep b hb bs) h) H'.all
 refine ⟨v,gY,L',rfl,rfl,hp,⟨H.md.step m3 (λi hi h=>H.zf i (bu.2 (.inr (bu.2 (.inl h)))) hi),dC.2 ⟨aL',dC.2 ⟨gr a1 m3 (λb hb h=>pA b h hb),gr a3 m3 (λb hb h=>p5 b h hb)⟩⟩,
  dM.2 ⟨H'.ap,dM.2 ⟨p1,p3,λb hb h=>pR b h hb⟩,λb hb eU=> ?_⟩,λb hb bs=> ?_⟩,m3⟩
 ·rcases bu.1 eU with h | h
  ·exact pA b (Ep b hb (kP a1 b h)) h
  ·exact p5 b (Ep b hb (kP a3 b h)) h
 ·rcases bu.1 hb with hb | hb
  ·exact H.zf b (bu.2 (.inr (bu.2 (.inl (Ep b hb (qa2 bs H.md.size)))))) bs
  ·rcases bu.1 hb with hb | hb
   ·exact H.zf b (bu.2 (.inl hb)) bs
   ·exact H.zf b (bu.2 (.inr (bu.2 (.inr hb)))) bs
theorem nX{f:FuncId}{args:List Value}{post:Nat->Value->List Ch->Prop}{o:Oper}(hl:eF Ln A B)(hc:bL P f args B post)(he:Enters P n ρ o f args σ.w)(H:Hp S0 aq σ (Ln++(A++R)))(mw: ∀m v L',post m v L'->wD m L'):
  Cx P σ n ρ o λv σ'=> ∃L',post σ.size v L'/\Hp S0 aq σ' (L'++(Ln++R))/\Md (dv A) σ σ'/\aq.size<=σ.size:=
 ⟨f,args,he,(hc.rL hl H mw).mono (by rintro e w' ⟨v,σ',L',rfl,rfl,hp,H',m⟩;exact ⟨v,σ',rfl,rfl,L',hp,H',m,H.size⟩)⟩
end
end Go.Vs
namespace Go.Vs
structure Lc{α:Type}(cmp:α->α->Int)(xs:List α):Prop where
 irrefl: ∀x∈xs, ¬cmp x x<0
 trans: ∀x∈xs, ∀y∈xs, ∀z∈xs,cmp x y<0->cmp y z<0->cmp x z<0
 Pz: ∀x∈xs, ∀y∈xs, ¬cmp x y<0-> ¬cmp y x<0->x=y
def Z7{α:Type}(cmp:α->α->Int)(x y:α):Bool:= !decide (cmp y x<0)
def mW{α:Type}(cmp:α->α->Int)(xs:List α):List α:=xs.mergeSort (Z7 cmp)
theorem Dm{α:Type}{cmp:α->α->Int}{xs:List α}:(mW cmp xs).length=xs.length:=List.length_mergeSort _
theorem Lc.asymm{α:Type}{cmp:α->α->Int}{xs:List α}(h:Lc cmp xs){x y:α}(hx:x∈xs)(hy:y∈xs)(h1:cmp x y<0): ¬cmp y x<0:=
 λh2=>h.irrefl x hx (h.trans x hx y hy x hx h1 h2)
theorem Lc.KT{α:Type}{cmp:α->α->Int}{xs:List α}(h:Lc cmp xs){x y z:α}(hx:x∈xs)(hy:y∈xs)(hz:z∈xs)(h1: ¬cmp y x<0)(h2: ¬cmp z y<0): ¬cmp z x<0:=by
 intro h3;by_cases a:cmp x y<0
 ·by_cases b:cmp y z<0
  ·exact h.asymm hx hz (h.trans x hx y hy z hz a b) h3
  ·have:=h.Pz y hy z hz b h2;subst this;exact h1 h3
 ·have:=h.Pz x hx y hy a h1;subst this;exact h2 h3
theorem KU{α:Type}{cmp:α->α->Int}: ∀{l r:List α},Lc cmp l->r.Perm l->r.Pairwise (λx y=> ¬cmp y x<0)->l.Pairwise (λx y=> ¬cmp y x<0)->r=l
 | [],r,_,hp,_,_=>List.Perm.eq_nil hp
 | x::l,r,h,hp,hr,hl=>by
  cases r with
  | nil=>exact absurd hp.length_eq (by simp)
  | cons y r=>
   obtain ⟨hr1,Z8⟩:=List.pairwise_cons.1 hr;obtain ⟨uI,cP⟩:=List.pairwise_cons.1 hl;have hy:y∈x::l:=hp.mem_iff.1 (by simp);have hx:x∈y::r:=hp.mem_iff.2 (by simp);have e:y=x:=by
    rcases qad.1 hx with e | uL
    ·exact e.symm
    rcases qad.1 hy with e | Xt
    ·exact e
    exact h.Pz y hy x (by simp) (uI y Xt) (hr1 x uL)
   subst e;have VU:=(List.perm_cons y).1 hp;rw [KU (l:=l) (r:=r) ⟨λa ha=>h.irrefl a (by simp [ha]),λa ha b hb c hc=>h.trans a (by simp [ha]) b (by simp [hb]) c (by simp [hc]),λa ha b hb=>h.Pz a (by simp [ha]) b (by simp [hb])⟩ VU Z8 cP]
theorem Dq{α:Type}{cmp:α->α->Int}{xs:List α}(h:Lc cmp xs):(mW cmp xs).Pairwise (λx y=> ¬cmp y x<0):=by
 let e:{x // x∈xs}->{x // x∈xs}->Bool:=λa b=>Z7 cmp a.1 b.1
 have hs:=List.pairwise_mergeSort (le:=e) (λa b c h1 h2=>by
  simp only [e,Z7,qbc,decide_eq_false_iff_not] at h1 h2 ⊢;exact h.KT a.2 b.2 c.2 h1 h2) (λa b=>by
  simp only [e,Z7,qc2,qbc,decide_eq_false_iff_not];by_cases hb:cmp b.1 a.1<0
  ·exact .inr (h.asymm b.2 a.2 hb)
  ·exact .inl hb) xs.attach
 have hm:mW cmp xs=(xs.attach.mergeSort e).map (·.1):=by
  unfold mW;have:=List.map_mergeSort (f:=λa:{x // x∈xs}=>a.1) (r:=e) (s:=Z7 cmp) (l:=xs.attach) (λa _ b _=>rfl);rw [this,List.attach_map_subtype_val]
 rw [hm,List.pairwise_map];refine hs.imp fun {a b} mw=> ?_;simpa [e,Z7] using mw
theorem Jj{α:Type}{cmp:α->α->Int}{xs r:List α}(h:Lc cmp xs)(hp:r.Perm xs)(hr:r.Pairwise (λx y=> ¬cmp y x<0)):r=mW cmp xs:=by
 have Mv:(mW cmp xs).Perm xs:=List.mergeSort_perm _ _;have hm: ∀x,x∈mW cmp xs->x∈xs:=λx hx=>Mv.mem_iff.1 hx;exact KU ⟨λa ha=>h.irrefl a (hm a ha),λa ha b hb c hc=>h.trans a (hm a ha) b (hm b hb) c (hm c hc),λa ha b hb=>h.Pz a (hm a ha) b (hm b hb)⟩ (hp.trans Mv.symm) hr (Dq h)
open Classical in
noncomputable def M.GW{α:Type}(cmp:α->α->Option Int)(xs:List α):Option (List α):=
 if xs.length<=1000000/\(∀x∈xs, ∀y∈xs, ∃r,cmp x y=some r)/\Lc (λx y=>(cmp x y).getD 0) xs then some (mW (λx y=>(cmp x y).getD 0) xs) else none
theorem Jk{α:Type}{cmp:α->α->Option Int}{xs r:List α}(h:M.GW cmp xs=some r):xs.length<=1000000/\(∀x∈xs, ∀y∈xs, ∃r,cmp x y=some r)/\Lc (λx y=>(cmp x y).getD 0) xs/\r=mW (λx y=>(cmp x y).getD 0) xs:=by
 unfold M.GW at h;split at h
 ·rename_i hc;exact ⟨hc.1,hc.2.1,hc.2.2,(qaf h).symm⟩
 ·cases h
theorem GX{α:Type}{cmp:α->α->Option Int}{lt:α->α->Bool}{xs:List α}(hn:xs.length<=1000000)(hc: ∀x∈xs, ∀y∈xs, ∃r,cmp x y=some r/\decide (r<0)=lt x y)
  (hi: ∀x∈xs,lt x x=false) (ht: ∀x∈xs, ∀y∈xs, ∀z∈xs,lt x y=true->lt y z=true->lt x z=true) (ha: ∀x∈xs, ∀y∈xs,x≠y->lt x y=true\/lt y x=true):
  ∃r,M.GW cmp xs=some r/\r.Perm xs/\r.Pairwise (λx y=>lt y x=false):=by
 have hv: ∀x∈xs, ∀y∈xs,(cmp x y).getD 0<0↔lt x y=true:=by
  intro x hx y hy;obtain ⟨r,h1,h2⟩:=hc x hx y hy;rw [h1, ←h2];simp
 have hL:Lc (λx y=>(cmp x y).getD 0) xs:=by
  refine ⟨λx hx h=> ?_,λx hx y hy z hz h1 h2=> ?_,λx hx y hy h1 h2=> ?_⟩
  ·rw [hv x hx x hx,hi x hx] at h;cases h
  ·exact (hv x hx z hz).2 (ht x hx y hy z hz ((hv x hx y hy).1 h1) ((hv y hy z hz).1 h2))
  ·refine qa6 λjv=> ?_;rcases ha x hx y hy jv with h | h
   ·exact h1 ((hv x hx y hy).2 h)
   ·exact h2 ((hv y hy x hx).2 h)
 have hp:(mW (λx y=>(cmp x y).getD 0) xs).Perm xs:=List.mergeSort_perm _ _;have KV: ∀x∈xs, ∀y∈xs, ∃r,cmp x y=some r:=λx hx y hy=>by
  obtain ⟨r,h1,_⟩:=hc x hx y hy;exact ⟨r,h1⟩
 refine ⟨_,by unfold M.GW;rw [if_pos ⟨hn,KV,hL⟩],hp, ?_⟩
 ·have hs:=Dq hL;rw [qb0] at hs ⊢;intro i j h1 h2 pV;have hx:=hp.mem_iff.1 (qae h1);have hy:=hp.mem_iff.1 (qae h2);have:=hs i j h1 h2 pV;rw [hv _ hy _ hx] at this;simpa using this
end Go.Vs
namespace Go.Vs
open Go
section
variable{P:Program}{H:Array Obj}{n:Nat}{ρ:Nat->Value}{dst:Option Nat}{ty T T' E:TypeId}{pos:String}{af:Array Edge}{gd:Option (Nat×Bool)}{x c:Operand}{v u:Value}{D:TypeDesc}{f:FuncId}{w:World}{xs:Array Operand}{Ts:Array TypeId}{args:List Value}{name:String}{b o:Nat}
theorem gn(hT:P.underlying T=some D)(hD:(match D with | .interface _=>false | _=>true)=true)(hx:ev n ρ x=v):ei P H n ρ ⟨dst, .makeInterface T x,ty,pos,af,gd⟩ (.iface T v):=λw _=>by
 cases D <;> simp_all [execOp,Instr.makeInterface,underlying]
theorem Ce(hT:P.underlying T'=some D)(hD:(match D with | .interface _=>false | _=>true)=true)(hx:ev n ρ x= .iface T' v):ei P H n ρ ⟨dst, .typeAssert x T T' false,ty,pos,af,gd⟩ v:=λw _=>by
 cases D <;> simp_all [execOp,Instr.typeAssert,underlying]
theorem pY{cs:Array Operand}{vs:List Value}(hx:cs.toList.map (ev n ρ)=vs):ei P H n ρ ⟨dst, .makeFunc (.func f) #[] cs,ty,pos,af,gd⟩ (.func (.func f) #[] vs.toArray):=λw _=>by
 have:cs.map (ev n ρ)=vs.toArray:=by rw [←hx, ←Array.toList_map]
 simp [execOp,Instr.makeFunc,this]
def PC(P:Program)(T:TypeId)(name:String):Option (Array FieldStep×Option (FuncId×Bool)):=(P.info? T).bind λi=>(i.methods.find? (·.name==name)).map λm=>(m.path,m.func)
theorem Jm{fuel:Nat}{pr:Bool}{r:Value}(hm:PC P T name=some (#[],some (f,pr)))(hr:(receiverAt T (.val v) pr (some ((name.splitOn ".").getLastD name))).run P w= .ok r w):(method (fuel+1) T v name).run P w= .ok (f,r) w:=by
 unfold PC at hm;cases hi:P.info? T with
 | none=>rw [hi] at hm;cases hm
 | some i=>
  rw [hi] at hm;simp only [qa0] at hm;cases hf:i.methods.find? (·.name==name) with
  | none=>rw [hf] at hm;cases hm
  | some m=>
   rw [hf] at hm;simp only [qab,qac,qcd] at hm;obtain ⟨h1,h2⟩:=hm;have e1:(typeInfo T).run P w= .ok i w:=by simp [typeInfo,hi]
   have e2:m.path.toList=[]:=by rw [h1]
   have e3:m.path.isEmpty=true:=by rw [h1];rfl
   simp only [method,Sem.run_bind,e1,Result.andThen_ok,hf,e2,follow,Sem.run_pure,h2,e3,if_true,hr]
theorem GY{r:Value}{pr:Bool}(hf: ∃fn c,P.funcs[f]? =some fn/\(fn.name== "runtime.NumGoroutine")=false/\fn.body=some c)(hm:PC P T name=some (#[],some (f,pr)))(hc:ev n ρ c= .iface T v)(hr:(receiverAt T (.val v) pr (some ((name.splitOn ".").getLastD name))).run P w= .ok r w)
  (hx:r::xs.toList.map (ev n ρ)=args):Enters P n ρ ⟨dst, .call ⟨.invoke c name,xs,Ts⟩,ty,pos,af,gd⟩ f args w:=by
 obtain ⟨fn,cd,h1,h2,h3⟩:=hf;have uL: #[r]++xs.map (ev n ρ)=args.toArray:=by
  rw [←hx];apply qch;simp
 have hdp:Made.depth=100:=rfl;have hd: ∃k,P.types.size+Made.depth=k+1:=⟨P.types.size+99,by omega⟩;obtain ⟨k,hk⟩:=hd;have hmm:=Jm (P:=P) (w:=w) (fuel:=k) hm hr;have e0:(#[Value.iface T v]++xs.map (ev n ρ))[0]? =some (.iface T v):=by
  rw [qby (by simp)];rfl
 have e1:(#[Value.iface T v]++xs.map (ev n ρ)).extract 1 (#[Value.iface T v]++xs.map (ev n ρ)).size=xs.map (ev n ρ):=by
  apply qch;rw [Array.toList_extract,List.extract_eq_drop_take'];simp only [Array.size_append,Array.size_map,Array.toList_append,Array.toList_map,qbj,qbb,List.length_nil,qc9,qb8,List.drop_one];rw [qbo (by simp;omega)];rfl
 simp only [Enters,execOp,resolve,hc,Sem.run_bind,Sem.run_pure,Result.andThen_ok,invoke,e0,e1,callMethod,run_program,hk,hmm,callFunc,uL,h1,h2,h3];simp
theorem PD(hf: ∃fn c,P.funcs[f]? =some fn/\(fn.name== "runtime.NumGoroutine")=false/\fn.body=some c)(hm:PC P T name=some (#[],some (f,true)))(hT:P.underlying T=some (.pointer E))(hc:ev n ρ c= .iface T v)
  (hx:v::xs.toList.map (ev n ρ)=args):Enters P n ρ ⟨dst, .call ⟨.invoke c name,xs,Ts⟩,ty,pos,af,gd⟩ f args w:=
 GY hf hm hc (by simp only [receiverAt,underlying,Sem.run_bind,run_program,Result.andThen_ok,hT,Sem.run_pure,Place.get]) hx
theorem tR(hf: ∃fn c,P.funcs[f]? =some fn/\(fn.name== "runtime.NumGoroutine")=false/\fn.body=some c)(hm:PC P T name=some (#[],some (f,false)))(hT:P.underlying T=some (.pointer E))(hE:P.underlying E=some D)(hD:(match D with | .struct _=>false | .array _ _=>false | _=>true)=true)
  (hc:ev n ρ c= .iface T (pt b o)) (hl:iW w.heap b o=some u) (hx:u::xs.toList.map (ev n ρ)=args):Enters P n ρ ⟨dst, .call ⟨.invoke c name,xs,Ts⟩,ty,pos,af,gd⟩ f args w:=by
 have xJ:(isAgg E).run P w= .ok false w:=by
  simp only [isAgg,underlying,Sem.run_bind,run_program,Result.andThen_ok,hE,Sem.run_pure];cases D <;> simp_all
 rw [il] at hl;have ad4: ∀s,(Builtin.ssaWrapNilChk_ #[T] T #[pt b o,strVal "",strVal s]).run P w= .ok (pt b o) w:=λ_=>rfl;refine GY hf hm hc ?_ hx;simp [receiverAt,underlying,hT,Place.get,ad4,asAddr,loadVar,xJ,load,Sem.run,hl]
end
end Go.Vs
namespace Go.Vs
open Go
section
variable{P:Program}{H:Array Obj}{n:Nat}{ρ:Nat->Value}{dst:Option Nat}{ty T T':TypeId}{pos:String}{af:Array Edge}{gd:Option (Nat×Bool)}{x y:Operand}{a b q:Int}{k k':IntKind}
theorem Dr{α:Type}{k:Int}{z0:α}{xs:List α}(h:tP k z0=some xs):xs.length=k.toNat:=by
 unfold tP at h;split at h
 ·cases h;exact List.length_replicate
 ·cases h
theorem PE{E:TypeId}{m c c':Nat}{ad:Option Addr}(hT:P.underlying T=some (.slice E))(hx:ev n ρ x= .slice ad m c)(hc:c=c'):ei P H n ρ ⟨dst, .call ⟨.builtin .cap, #[x], #[T]⟩,ty,pos,af,gd⟩ (I c'):=λw _=>by
 subst hc;simp [execOp,resolve,invoke,builtin,Builtin.cap_,hx,underlying,hT,goInt]
theorem TA{E:TypeId}{m:Nat}{ad:Option Addr}{c:Nat}(hT:P.underlying T=some (.slice E))(hx:ev n ρ x= .slice ad m c)(hy:ev n ρ y= .slice none 0 0):ei P H n ρ ⟨dst, .binOp .eql T x y T',ty,pos,af,gd⟩ (B ad.isNone):=λw _=>by
 have h: ∀a:Option Addr,(Op.equal T (.slice a m c) (.slice none 0 0)).run P w= .ok a.isNone w:=by
  intro a;show (Op.equalIn (9999+1) T _ _).run P w=_;rw [Op.equalIn];cases a <;> simp only [underlying,Sem.run_bind,run_program,Result.andThen_ok,hT,Sem.run_pure,Option.isNone]
 simp [execOp,hx,hy,eqGuard,binOp,h]
end
section
variable{S0:BS}{aq σ:St}{L:List Ch}{lo b o i:Nat}{pre tQ:List Value}
theorem RS.aaP{α:Type}[Rp α]{el:Nat}{ad:Option Addr}{c:Nat}{xs:List α}(hn:ad.isNone=true)(h:RS el σ (Sl ad xs c) xs):xs=[]:=by
 rcases h with ⟨_,h⟩ | ⟨b,o,c,hv,_⟩
 ·exact h
 ·cases hv;cases hn
theorem Jo(xs:List Int): ∀u∈List.map I xs,plain u=true:=by
 intro u hu;obtain ⟨x,_,rfl⟩:=qcf.1 hu
 rfl
theorem PG(xs:List Int)(k:Nat)(v:Int):EA (xs.map I) (k*1) [I v]=(xs.set k v).map I:=by
 have:=Tm xs k v;rw [qc3] at this;exact this
theorem Hp.zN{xs:List Int}{a x:Int}(H:Hp S0 aq σ L)(i:Nat)(h:nth L i=some (Ch.bx lo b o (xs.map I) pre tQ))(hx:aZ xs a=some x):iW σ.w.heap b (o+a.toNat*1)=some (I x):=by
 obtain ⟨h0,h1,h2⟩:=j9 hx;rw [Nat.mul_one];exact Pn (H.bx i h) (by simp [h1,h2])
end
end Go.Vs
namespace Go.Vs
open Go
def Ds{α:Type}(xs:List α)(k:Int)(z:α):Option (List α):=if 0<=k/\xs.length+k.toNat<=2147483648 then some (xs++List.replicate k.toNat z) else none
theorem Jp{α:Type}{xs r:List α}{k:Int}{z:α}(h:Ds xs k z=some r):0<=k/\xs.length+k.toNat<=2147483648/\r=xs++List.replicate k.toNat z:=by
 unfold Ds at h;split at h
 ·rename_i hc;exact ⟨hc.1,hc.2,(qaf h).symm⟩
 ·cases h
section
variable{P:Program}{n:Nat}{ρ:Nat->Value}{aq σ:St}{S0:BS}{L R:List Ch}{u v:Value}{T T' E E' ty:TypeId}{pos:String}{af:Array Edge}{gd:Option (Nat×Bool)}{dst:Option Nat}{x y q:Operand}{a l h k m:Int}{lo el bt s c c':Nat}{z:Value}
variable{α:Type}[Rp α]{xs ys p r:List α}{ad nS:Option Addr}{H:Array Obj}
theorem Ow.view(hO:Ow σ lo el (Sl ad xs c) xs)(hg:iM xs l h=some p)(hs:XI ad xs.length c (Rp.sz α) l h nS p.length c'):Ow σ lo el (Sl nS p c') p/\ ∀b,blk (Sl nS p c')=some b->blk (Sl ad xs c)=some b:=by
 obtain ⟨ad2,c2,VX,h1,h2⟩:=hO.slice hg;have e1:nS=ad2:=hs.ea.trans VX.ea.symm;have e2:c'=c2:=hs.ec.trans VX.ec.symm;subst e1 e2;exact ⟨h1,h2⟩
theorem TB{i:Nat}{z0:α}{zs:List Value}(H:Hp S0 aq σ L)(XK:nth L i=some (Ch.own lo el (Sl ad xs c) xs))(hT:P.underlying T=some (.slice E))(qC:P.underlying T'=some (.int .i64))(hi:TI P E z s bt)(hs:s=Rp.sz α)(XG:z.cells=zs.toArray)(hz:Rp.rp el σ zs z0)(Tk:bt<=1024)
  (ht:c=xs.length) (hg:iM xs 0 h=some p) (hv:XI ad xs.length c (Rp.sz α) 0 h nS p.length c') (hr:Ds p k z0=some r) (zd:(xs.length:Int)<p.length+k) {nK:Nat} (qj:nK<=aq.size) (hx:ev n ρ x=Sl nS p c') (hy:ev n ρ y=I k):
  Ex P σ n ρ ⟨dst, .call ⟨.builtin .append, #[x,y], #[T,T']⟩,ty,pos,af,gd⟩ λv' σ'=> ∃b c2,v'=Sl (some ⟨b,0,none⟩) r c2/\Hp S0 aq σ' (Ch.own nK el (Sl (some ⟨b,0,none⟩) r c2) r::L)/\Md (dv []) σ σ':=by
 obtain ⟨KW,hlen,rfl⟩:=Jp hr;obtain ⟨kn,rfl⟩:=qb9 KW;simp only [qal] at hlen ⊢;obtain ⟨hO,_⟩:=(H.get XK:Ow σ lo el (Sl ad xs c) xs).view hg hv;obtain ⟨i0,uw,yK,NG,hi4⟩:=hi.it;have XE:=hi;subst hs;obtain ⟨K,tN,Pg,hK3⟩:=hO.rd.row;have hcp:c'=xs.length:=by rw [hv.ec,ht];simp
 have uN: ¬p.length+kn<=c':=by omega
 have hzl:zs.length=Rp.sz α:=Rp.len hz;have hn:=nextslicecap_le (need:=p.length+kn) (c:=c') (by omega);have Jf: ¬Builtin.nextslicecap (p.length+kn) c'*bt>2^48:=by
  have h1:Builtin.nextslicecap (p.length+kn) c'*bt<=(2*(p.length+kn)+300)*1024:=Nat.mul_le_mul hn Tk;have h2:(2:Nat)^48=281474976710656:=by decide
  omega
 have hsm: ¬(kn:Int)*(bt:Int)>2^48:=by
  have h1:kn*bt<=2147483648*1024:=Nat.mul_le_mul (by omega) Tk;have h2:(2:Int)^48=281474976710656:=by decide
  rw [h2, ←Int.natCast_mul];omega
 have aaC: ¬(((p.length+kn:Nat):Int)>IntKind.i64.max):=by
  have:IntKind.i64.max=9223372036854775807:=by decide
  omega
 have VB:IntKind.i64.wrap (kn:Int)=kn:=aT (by omega) (by omega)
 let q:Question:= .appendCap (p.length+kn) c' E
 let pJ:=q.cut (σ.w.tape σ.w.drawn q)
 have VT:p.length+kn<=pJ:=by
  show _<=Question.cut (.appendCap (p.length+kn) c' E) _;simp only [Question.cut];omega
 let Z:=Builtin.zeroCells z.cells (pJ - (p.length+kn))
 let W:=Builtin.zeroCells z.cells kn
 have hZ:Z.size=(pJ - (p.length+kn))*z.cells.size:=by show (Builtin.zeroCells _ _).size=_;simp [Builtin.zeroCells]
 have hW:W.size=kn*z.cells.size:=by show (Builtin.zeroCells _ _).size=_;simp [Builtin.zeroCells]
 have CV:z.cells.size=Rp.sz α:=by rw [XG];simpa using hzl
 let Rl:List Value:=K++W.toList++Z.toList
 let w1:World:={ σ.w with drawn:=σ.w.drawn+1 }
 have hR:(K.toArray++W++Z)=Rl.toArray:=by
  apply qch;simp [Rl]
 have hf1:=jL (P:=P) (σ:=σ) (v:=Sl nS p c') tN hK3 w1 rfl;have yM:(askRoom (pJ*bt)).run P w1= .ok () w1:=by
  unfold askRoom;split <;> rfl
 have Ej:(choose (.appendCap (p.length+kn) c' E)).run P σ.w= .ok pJ w1:=by
  simp [choose,Sem.run,Question.forced,pJ,q,w1]
 have NH:(typeInfo E).run P=λw=> .ok i0 w:=by
  funext w;simp [typeInfo,uw]
 obtain ⟨_,g1,g2,_,g3⟩:=lD hg;have B8:0<kn:=by omega
 have hnz: ¬kn*Rp.sz α=0:=by
  have:=Rp.pos (α:=α);have:0<kn*Rp.sz α:=Nat.mul_pos B8 this;omega
 have bH:(Builtin.append_ #[T,T'] ty #[Sl nS p c',I (kn:Int)]).run P σ.w= .ok (Sl (some ⟨σ.size,0,none⟩) (p++List.replicate kn z0) pJ) (σ.new (.cells Rl.toArray E (0,0)) 1).w:=by
  simp only [Builtin.append_,qax,qbk,List.getElem?_cons_succ,underlying,hT,qC,Sem.run_bind,run_program,Result.andThen_ok,Sem.run_pure,run_typeInfo XE,asInt,asIntOf,VB,NH,hi4,
   uN,if_true,qai,qa7,if_false,show¬((kn:Int)<0) by omega,hsm,qal,aaC,false_and,Jf,Ej,yM,hf1,hnz,oI XE,Sl,qap,List.length_replicate]
  rw [show (K.toArray++Builtin.zeroCells z.cells kn++Builtin.zeroCells z.cells (pJ - (p.length+kn)))=Rl.toArray from hR]
  rfl
 have VY:=σ.rQ (.cells Rl.toArray E (0,0)) 1;have hE:=(σ.lg (.cells Rl.toArray E (0,0)) 1).ext;have hOw:Ow (σ.new (.cells Rl.toArray E (0,0)) 1) σ.size el (Sl (some ⟨σ.size,0,none⟩) (p++List.replicate kn z0) pJ) (p++List.replicate kn z0):=by
  refine .inr ⟨σ.size,0,pJ,Rl.toArray,E,rfl,qa3 _,VY,by simp;omega, ?_,σ.rR _ 1,λi hi=> ?_⟩
  ·simp only [Rl,qbj,qap,tN,Array.length_toList,hZ,hW,CV,qc3];rw [←Nat.add_mul, ←Nat.add_mul];exact qam _ (by omega)
  ·by_cases Ml:i<p.length
   ·rw [qb1 Ml];obtain ⟨cs,EB,RY⟩:=Pg i Ml;refine At.rS VY (Rp.ext hE EB) (λj hj=> ?_);have e2:=RY j hj;have bs:=List.Ew e2;simp only [Rl,qc3,qax,List.append_assoc];rw [qbe bs,e2]
   ·rw [qb6 (by omega),List.getElem_replicate];simp only [qap,List.length_replicate] at hi;refine At.rS VY (Rp.ext hE hz) (λj hj=> ?_);have e3:i*Rp.sz α+j=K.length+((i - p.length)*Rp.sz α+j):=by
     have:i*Rp.sz α=p.length*Rp.sz α+(i - p.length)*Rp.sz α:=by rw [←Nat.add_mul];congr 1;omega
     omega
    have bs:(i - p.length)*Rp.sz α+j<W.toList.length:=by
     have hWl:W.toList.length=kn*Rp.sz α:=by rw [Array.length_toList,hW,CV]
     rw [hWl];have:(i - p.length+1)*Rp.sz α<=kn*Rp.sz α:=qam _ (by omega);rw [Nat.add_mul] at this;omega
    simp only [Rl,qc3,qax,List.append_assoc];rw [e3,qbx (by omega),Nat.add_sub_cancel_left,qbe bs,Array.getElem?_toList];have:=Dc (zc:=z.cells) (m:=kn) (i:=i - p.length) (j:=j) (by omega) (by rw [CV];omega);rw [CV] at this;show (Builtin.zeroCells z.cells kn)[_]? =_;rw [Builtin.zeroCells,CV,this,XG];simp
 refine ⟨_,σ.new (.cells Rl.toArray E (0,0)) 1, ?_,σ.size,pJ,rfl,EG H qj (σ.lg _ 1) hOw,(σ.lg _ 1).md0⟩;simp only [B9,execOp,resolve,qbi,qb5,qbm,hx,hy,Sem.run_bind,Sem.run_pure,Result.andThen_ok,invoke,builtin,bH]
theorem PH{n pl:Nat}{k:Int}(hp:(pl:Int)=n)(hb:decide (0<k)=true):(n:Int)<pl+k:=by
 have h2:0<k:=of_decide_eq_true hb;omega
end
end Go.Vs
namespace Go.Vs
open Go
end Go.Vs
namespace Go.Vs
open Go
def aaQ(x:Operand)(p:Nat->Bool):Bool:=match x with
 | .tmp t=>p t
 | _=>true
def PI(o:Op):Bool:=match o with
 | .select _ _=>false
 | _=>true
def sqB(ops:Array Oper)(n:Nat):Bool:=(List.range n).all λi=>match ops[i]? with
 | some o=>PI o.op&&(o.op.operands.toList.all λx=>aaQ x λt=>wI ops n t || (List.range i).any λj=>waits o j&&(dm ops j==some t))&&(match o.guard with | none=>true | some (j,_)=>waits o j&&Nat.blt j i)
 | none=>false
def zh(P:Program)(ops:Array Oper)(H:Array Obj)(N:Nat)(K:(Nat->Value)->Prop):List Oper->(Nat->Value)->Prop
 | [],ρ=>K ρ
 | o::r,ρ=> ∃v d,o.dst=some d/\((Region.wanted o (yv ops N ρ)=true/\ei P H N ρ o v)\/(Region.wanted o (yv ops N ρ)=false/\v=undef))/\zh P ops H N K r (upd ρ d v)
def env:List Oper->List Value->(Nat->Value)->(Nat->Value)
 | o::r,v::vs,ρ=>env r vs (upd ρ (o.dst.getD 0) v)
 | _,_,ρ=>ρ
section
variable{P:Program}{ops:Array Oper}{H:Array Obj}{N:Nat}{K:(Nat->Value)->Prop}{Q:Exit->Act->World->Prop}
def XR(P:Program)(ops:Array Oper)(H:Array Obj)(N:Nat)(o:Oper)(ρ:Nat->Value)(v:Value):Prop:=
 ∃d,o.dst=some d/\((Region.wanted o (yv ops N ρ)=true/\ei P H N ρ o v)\/(Region.wanted o (yv ops N ρ)=false/\v=undef))
theorem GZ: ∀(l:List Oper) (ρ:Nat->Value),zh P ops H N K l ρ-> ∃vs:List Value,vs.length=l.length/\K (env l vs ρ)/\ ∀i o,l[i]? =some o->XR P ops H N o (env (l.take i) (vs.take i) ρ) (vs.getD i undef)
 | [],ρ,h=>⟨[],rfl,h,λi o ho=>by simp at ho⟩
 | o::r,ρ,⟨v,d,hd,hv,h⟩=>by
  obtain ⟨vs,h1,h2,h3⟩:=GZ r (upd ρ d v) h;refine ⟨v::vs,by simp [h1], ?_,λi o' ho=> ?_⟩
  ·simp only [env,hd,qc8];exact h2
  ·cases i with
   | zero=>
    simp only [qbk,qac] at ho;subst ho;exact ⟨d,hd,by simpa [env] using hv⟩
   | succ i=>
    have:=h3 i o' (by simpa using ho);simpa [env,hd] using this
theorem EL{t:Nat}: ∀(l:List Oper) (vs:List Value) (ρ:Nat->Value),(∀o∈l, ∀d,o.dst=some d->d≠t)->(∀o∈l,o.dst.isSome=true)->env l vs ρ t=ρ t
 | [],vs,ρ,_,_=>by cases vs <;> rfl
 | o::r,[],ρ,_,_=>rfl
 | o::r,v::vs,ρ,h,hs=>by
  rw [env,EL r vs _ (λo' GB=>h o' (by simp [GB])) (λo' GB=>hs o' (by simp [GB]))];cases hd:o.dst with
  | none=>have:=hs o (by simp);rw [hd] at this;cases this
  | some d=>
   have:t≠d:=λe=>h o (by simp) d hd e.symm;show (bif Nat.beq t d then v else ρ t)=ρ t;rw [sG this];rfl
theorem PK{d j:Nat}: ∀(l:List Oper) (vs:List Value) (ρ:Nat->Value),vs.length=l.length->(∀o∈l,o.dst.isSome=true)->(∃o,l[j]? =some o/\o.dst=some d)->(∀k o,j<k->l[k]? =some o->o.dst≠some d)->env l vs ρ d=vs.getD j undef
 | [],vs,ρ,_,_,⟨o,ho,_⟩,_=>by simp at ho
 | o::r,[],ρ,hl,_,_,_=>by simp at hl
 | o::r,v::vs,ρ,hl,hs,⟨o',GB,Io⟩,hk=>by
  rw [env];cases j with
  | zero=>
   simp only [qbk,qac] at GB;subst GB;rw [Io,qc8,EL r vs _ (λo2 XS d2 hd2 e=>by
    obtain ⟨k,xM,he⟩:=qan.1 XS;subst e;exact hk (k+1) o2 (by omega) (by simp [xM,he]) hd2) (λo2 XS=>hs o2 (by simp [XS]))]
   show (bif Nat.beq d d then v else ρ d)=_;rw [KL];rfl
  | succ j=>
   rw [PK r vs _ (by simpa using hl) (λo2 XS=>hs o2 (by simp [XS])) ⟨o',by simpa using GB,Io⟩ (λk o2 hjk XS=>hk (k+1) o2 (by omega) (by simpa using XS))];simp
theorem Jq{ρ qB:Nat->Value}{x:Operand}(h: ∀t,x= .tmp t->look N ρ t=look N qB t):ev N ρ x=ev N qB x:=by
 cases x with
 | tmp t=>exact h t rfl
 | const v=>rfl
 | global g=>rfl
 | func f=>rfl
theorem Jr{ρ qB:Nat->Value}{o:Oper}{v:Value}(hs:PI o.op=true)(h: ∀x∈o.op.operands,ev N ρ x=ev N qB x)(hr:ei P H N qB o v):ei P H N ρ o v:=by
 intro w hw;rw [execOp_congr o (λcs b e=>by rw [e] at hs;cases hs) h];exact hr w hw
theorem wL{ρ qB:Nat->Value}{o:Oper}(h: ∀j b,o.guard=some (j,b)->yv ops N ρ j=yv ops N qB j):Region.wanted o (yv ops N ρ)=Region.wanted o (yv ops N qB):=by
 unfold Region.wanted;cases hg:o.guard with
 | none=>rfl
 | some p=>obtain ⟨j,b⟩:=p;simp only [h j b hg]
theorem Mw{id:Nat}{l:List Oper}{σ:St}{jw:Nat->Value}(n:Nat)(hm:P.follows .mixedOrders=true)(hB:XM N l.toArray n [] [[]] (List.replicate n [(0,0)]) 0=true)(hS:sqB l.toArray n=true)
  (Jh:zh P l.toArray σ.w.heap N (λρ=> ∀σ':St,Md (dv []) σ σ'->wpList P l.toArray Q (l.drop n) (fr N ρ) σ'.w) (l.take n) jw):
  (Code.region id l.toArray true).wp P Q (fr N jw) σ.w:=by
 obtain ⟨vs,hvl,hK,er⟩:=GZ _ _ Jh;have hB':=hB;simp only [XM,qa4] at hB';obtain ⟨⟨⟨⟨⟨⟨⟨hn,hD⟩,_⟩,_⟩,_⟩,_⟩,_⟩,_⟩:=hB';have W7:n<=l.length:=by simpa using qa5 hn
 rw [qav,Nat.min_eq_left W7] at hvl;have Ap: ∀i,i<n->(l.take n)[i]? =l.toArray[i]? :=λi hi=>by simp [List.getElem?_take,hi]
 have hex: ∀i,i<n-> ∃o,l.toArray[i]? =some o:=λi hi=>by
  have:i<l.length:=by omega
  exact ⟨l[i],by simp [this]⟩
 have Ms: ∀i,i<n-> ∃d,dm l.toArray i=some d/\d<N/\ ∀j,j<n->j≠i->dm l.toArray j≠some d:=by
  intro i hi;obtain ⟨o,ho⟩:=hex i hi;obtain ⟨d,hd,_⟩:=er i o (by rw [Ap i hi];exact ho);have Pu:dm l.toArray i=some d:=by unfold dm;rw [ho];exact hd
  have:=qa9.1 hD i (qaw.2 hi);simp only [qa4,Pu] at this;obtain ⟨⟨h1,_⟩,h3⟩:=this;refine ⟨d,Pu, ?_,λj hj jv e=> ?_⟩
  ·exact qa6 λhc=>by rw [vd hc] at h1;cases h1
  ·have:=qa9.1 h3 j (qaw.2 hj);rw [sG (qbp jv)] at this;simp [e] at this
 have KV: ∀i,i<=n-> ∀o∈l.take i,o.dst.isSome=true:=by
  intro i hi o ho;obtain ⟨k,hk,he⟩:=qan.1 ho;rw [qav] at hk;obtain ⟨d,hd,_⟩:=Ms k (by omega);rw [qca] at he;have Ji:k<l.length:=by omega
  unfold dm at hd;rw [show l.toArray[k]? =some o by simp [Ji,he]] at hd;simp only [qa0] at hd;rw [hd];rfl
 have htt: ∀i,i<=n->(l.take n).take i=l.take i:=λi hi=>by rw [List.take_take,Nat.min_eq_left hi]
 have KX: ∀i t,i<=n->(∀k,k<n->dm l.toArray k≠some t)->env (l.take i) (vs.take i) jw t=jw t:=by
  intro i t hi ht;refine EL _ _ _ (λo ho d hd e=> ?_) (KV i hi);obtain ⟨k,hk,he⟩:=qan.1 ho;rw [qav] at hk;rw [qca] at he;have Ji:k<l.length:=by omega
  refine ht k (by omega) ?_;unfold dm;rw [show l.toArray[k]? =some o by simp [Ji,he]];subst e;exact hd
 have PL: ∀i j d,i<=n->j<i->dm l.toArray j=some d->env (l.take i) (vs.take i) jw d=vs.getD j undef:=by
  intro i j d hi hj hd;have hjl:j<l.length:=by omega
  rw [PK (j:=j) _ _ _ (by simp;omega) (KV i hi) ?_ ?_]
  ·simp [List.getD,List.getElem?_take,hj]
  ·unfold dm at hd;rw [show l.toArray[j]? =some l[j] by simp [hjl]] at hd;exact ⟨l[j],by simp [List.getElem?_take,hj,hjl],hd⟩
  ·intro k o hjk ho hdo;have Ji:k<i:=by
    refine qa6 λhc=> ?_;rw [List.getElem?_take,if_neg hc] at ho;cases ho
   rw [List.getElem?_take,if_pos Ji] at ho;obtain ⟨d',h1,_,h3⟩:=Ms j (by omega);have:d'=d:=by rw [hd] at h1;exact (qaf h1).symm
   subst this;refine h3 k (by omega) (by omega) ?_;unfold dm;rw [show l.toArray[k]? =some o by simpa using ho];exact hdo
 refine aaL (Nm:=Unit) (σ:=σ) n [] [[]] (List.replicate n [(0,0)]) 0 [λ_ cA=>cA.w.heap=σ.w.heap/\Md (dv []) σ cA] (vs.map λv _=>v) () hm hB (λnq hh m=>⟨hh,m⟩) ?_ ?_
 ·
  have main: ∀i o,i<n->l.toArray[i]? =some o-> ∀k,Ob (Nm:=Unit) P l.toArray N n jw (Jl [λ_ cA=>cA.w.heap=σ.w.heap/\Md (dv []) σ cA]) (Vl (vs.map λv _=>v)) i o k k:=by
   intro i o hi ho k nm ρ cA hJ ba aP;have hS1:=qa9.1 hS i (qaw.2 hi);rw [ho] at hS1;simp only [qa4] at hS1;obtain ⟨⟨ad5,XT⟩,XU⟩:=hS1;have hV: ∀j,j<n->Vl (vs.map λv (_:Unit)=>v) j nm=vs.getD j undef:=by
    intro j hj;unfold Vl;have:j<vs.length:=by omega
    simp [List.getD,this]
   have VZ: ∀j d,waits o j=true->j<i->dm l.toArray j=some d->look N ρ d=look N (env (l.take i) (vs.take i) jw) d:=by
    intro j d hw hj hd;obtain ⟨d',h1,hdN,_⟩:=Ms j (by omega);have:d'=d:=by rw [hd] at h1;exact (qaf h1).symm
    subst this;rw [aP j hw (Da (by omega)) d' hd,hV j (by omega),uv _ hdN,PL i j d' (by omega) hj hd]
   have sF: ∀x∈o.op.operands,ev N ρ x=ev N (env (l.take i) (vs.take i) jw) x:=by
    intro x hx;refine Jq λt ht=> ?_;subst ht;have:=qa9.1 XT (.tmp t) (by simpa using hx);simp only [aaQ,qc2] at this;rcases this with h | h
    ·unfold look;rw [ba t h,KX i t (by omega) (EJ h)]
    ·obtain ⟨j,hj,hjw⟩:=List.any_eq_true.1 h;simp only [qa4] at hjw;exact VZ j t hjw.1 (qaw.1 hj) (by simpa using hjw.2)
   have hyv: ∀j b,o.guard=some (j,b)->yv l.toArray N ρ j=yv l.toArray N (env (l.take i) (vs.take i) jw) j:=by
    intro j b hg;rw [hg] at XU;simp only [qa4] at XU;have hji:j<i:=qa6 λhc=>by rw [vd hc] at XU;cases XU.2
    obtain ⟨d,h1,_,_⟩:=Ms j (by omega);have hl:=VZ j d XU.1 hji h1;unfold dm at h1;unfold yv;simp only [h1,hl]
   obtain ⟨d,hd,hor⟩:=er i o (by rw [Ap i hi];exact ho);rw [htt i (by omega)] at hor;have hJ2:cA.w.heap=σ.w.heap:=by
    unfold Jl at hJ;cases k with
    | zero=>exact hJ.1
    | succ k=>simp at hJ
   rcases hor with ⟨hw,hr⟩ | ⟨hw,hv⟩
   ·refine xZ (v:=vs.getD i undef) ?_ ?_ (hV i hi) hJ
    ·rw [wL hyv];exact hw
    ·rw [hJ2];exact Jr ad5 sF hr
   ·refine EK ?_ (by rw [hV i hi];exact hv) hJ;rw [wL hyv];exact hw
  have build: ∀m k:Nat,k+m=n-> ∀r:List Oper,r=l.drop k->oJ (λi o=>EI (Ob (Nm:=Unit) P l.toArray N n jw (Jl [λ_ cA=>cA.w.heap=σ.w.heap/\Md (dv []) σ cA]) (Vl (vs.map λv _=>v)) i o) (R2 (List.replicate n [(0,0)]) i)) m k r:=by
   intro m
   induction m with
   | zero=>intro k _ r _;exact all_nil
   | succ m ih=>
    intro k hk r hr;have Ji:k<l.length:=by omega
    rw [qb4 Ji] at hr;subst hr;have KI:R2 (List.replicate n [(0,0)]) k=[(0,0)]:=by
     unfold R2;have:k<n:=by omega
     simp [List.getD,this]
    refine all_cons ?_ (ih (k+1) (by omega) _ rfl);simp only [KI];exact ⟨main k l[k] (by omega) (by simp [Ji]) 0,trivial⟩
  exact build n 0 (by omega) l (by simp)
 ·intro nm ρ σ' hJ ba eE;have hJ2:Md (dv []) σ σ':=hJ.2;have qH:fr N ρ=fr N (env (l.take n) vs jw):=by
   refine O4 λt ht=> ?_;have hvt:vs.take n=vs:=qbo (by omega);by_cases PM:wI l.toArray n t=true
   ·have:=KX n t (qa3 _) (EJ PM);rw [hvt] at this;rw [ba t PM,this]
   ·have: ∃i,i<n/\dm l.toArray i=some t:=by
     refine qa6 λhc=>PM ?_;unfold wI;rw [qa9];intro i hi;have:dm l.toArray i≠some t:=λe=>hc ⟨i,qaw.1 hi,e⟩;simpa using this
    obtain ⟨i,hi,hd⟩:=this;have h1:=eE i (Da hi) t hd;rw [uv _ ht] at h1;have h2:=PL n i t (qa3 _) hi hd;rw [hvt] at h2;rw [h1,h2];unfold Vl;have:i<vs.length:=by omega
    simp [List.getD,this]
  rw [qH];exact hK σ' hJ2
variable{ρ:Nat->Value}{v:Value}{r:List Oper}{d:Nat}{op:Op}{ty:TypeId}{pos:String}{af:Array Edge}{gd:Option (Nat×Bool)}
theorem sq(hr:ei P H N ρ ⟨some d,op,ty,pos,af,none⟩ v)(k:zh P ops H N K r (upd ρ d v)):zh P ops H N K (⟨some d,op,ty,pos,af,none⟩::r) ρ:=⟨v,d,rfl, .inl ⟨aI _ rfl _,hr⟩,k⟩
theorem lV{j:Nat}{b:Bool}(hy:yv ops N ρ j=some b)(hr:ei P H N ρ ⟨some d,op,ty,pos,af,some (j,b)⟩ v)(k:zh P ops H N K r (upd ρ d v)):zh P ops H N K (⟨some d,op,ty,pos,af,some (j,b)⟩::r) ρ:=⟨v,d,rfl, .inl ⟨aS rfl hy,hr⟩,k⟩
theorem dD{j:Nat}{b:Bool}(hy:yv ops N ρ j=some (!b))(k:zh P ops H N K r (upd ρ d undef)):zh P ops H N K (⟨some d,op,ty,pos,af,some (j,b)⟩::r) ρ:=⟨undef,d,rfl, .inr ⟨ur rfl hy,rfl⟩,k⟩
theorem kC(h:K ρ):zh P ops H N K [] ρ:=h
end
end Go.Vs
