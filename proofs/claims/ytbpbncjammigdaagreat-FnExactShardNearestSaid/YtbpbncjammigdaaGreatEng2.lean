/- What a function of the program does to its memory, step by step. -/
import Derived.Test.YtbpbncjammigdaaGreatAl
import Derived.Test.YtbpbncjammigdaaGreatEng1
import Derived.RangeFuncLeaves
import Derived.RangeFuncSeq
import Derived.TacticsIn
import Derived.Sort.LoopGhostIn
import Derived.KernelRfl
import Derived.LaidEql
import Derived.ProofKit
import Derived.SizedLaws
import Derived.Deep.Strs
set_option linter.unusedVariables false
set_option linter.unusedSimpArgs false
namespace Go.Vs
open Go
abbrev Fz(r:Option Nat):Fence:={ Fence.wide with round:=r }
section
variable{P:Program}{ops:Array Oper}{Q:Exit->Act->World->Prop}{n d:Nat}{ρ:Nat->Value}{σ aq:St}{w:World}{v:Value}{rest:List Oper}{r:Option Nat}
variable{op:Op}{ty:TypeId}{pos:String}{af:Array Edge}{gd:Option (Nat×Bool)}
theorem Jt(Is: ∀c,op≠ .defer c)(hr:ei P w.heap n ρ ⟨some d,op,ty,pos,af,none⟩ v)(k:wpListIn (Fz r) 0 P ops Q rest (fr n (upd ρ d v)) w):
  wpListIn (Fz r) 0 P ops Q (⟨some d,op,ty,pos,af,none⟩::rest) (fr n ρ) w:=by
 unfold wpListIn;rw [if_pos (by rw [dY];exact aI _ rfl _)];refine ⟨λ_ _=>trivial, ?_⟩;rw [Oper.semAt_eq _ _ _ Is,aO,hr w rfl];simp only [Oper.uponIn_value,cQ];exact k
theorem AF{Rz:Value->St->Prop}(Is: ∀c,op≠ .defer c)(he:Ex P σ n ρ ⟨some d,op,ty,pos,af,none⟩ Rz)
  (k: ∀v (σ':St),Rz v σ'->wpListIn (Fz r) 0 P ops Q rest (fr n (upd ρ d v)) σ'.w):wpListIn (Fz r) 0 P ops Q (⟨some d,op,ty,pos,af,none⟩::rest) (fr n ρ) σ.w:=by
 obtain ⟨v,σ',h1,h2⟩:=he;unfold wpListIn;rw [if_pos (by rw [dY];exact aI _ rfl _)];refine ⟨λ_ _=>trivial, ?_⟩;have Oh:(execOp (ev n ρ) ⟨some d,op,ty,pos,af,none⟩).run P σ.w= .ok (.value v) σ'.w:=h1;rw [Oper.semAt_eq _ _ _ Is,aO,Oh];simp only [Oper.uponIn_value,cQ];exact k v σ' h2
theorem EO{Rs:St->Prop}(Is: ∀c,op≠ .defer c)(he:ExS P σ n ρ ⟨none,op,ty,pos,af,none⟩ Rs)
  (k: ∀(σ':St),Rs σ'->wpListIn (Fz r) 0 P ops Q rest (fr n ρ) σ'.w):wpListIn (Fz r) 0 P ops Q (⟨none,op,ty,pos,af,none⟩::rest) (fr n ρ) σ.w:=by
 obtain ⟨σ',h1,h2⟩:=he;unfold wpListIn;rw [if_pos (by rw [dY];exact aI _ rfl _)];refine ⟨λ_ _=>trivial, ?_⟩;have Oh:(execOp (ev n ρ) ⟨none,op,ty,pos,af,none⟩).run P σ.w= .ok .skip σ'.w:=h1;rw [Oper.semAt_eq _ _ _ Is,aO,Oh];simp only [Oper.uponIn_skip,jJ];exact k σ' h2
theorem My{xs:Array Operand}{Ts:Array TypeId}{y:Operand}{l:Nat}{args:List Value}{R:Ending->World->Prop}(hf:ev n ρ y= .func (.yield l) #[] #[])(hx:xs.toList.map (ev n ρ)=args)(hy:YieldAt Fence.wide 0 P l args.toArray w R)
  (k: ∀e w',R e w'-> ∃v,e= .returned v/\wpListIn (Fz r) 0 P ops Q rest (fr n (upd ρ d v)) w'):
  wpListIn (Fz r) 0 P ops Q (⟨some d, .call ⟨.value y,xs,Ts⟩,ty,pos,af,none⟩::rest) (fr n ρ) w:=by
 obtain ⟨fn,tmps,assign,body,h1,h2⟩:=hy;unfold wpListIn;rw [if_pos (by rw [dY];exact aI _ rfl _)];refine ⟨λ_ _=>trivial, ?_⟩;rw [Oper.semAt_eq _ _ _ (λc h=>by cases h),aO];have uL:xs.map (ev n ρ)=args.toArray:=by rw [←hx, ←Array.toList_map]
 have h3:(execOp (ev n ρ) ⟨some d, .call ⟨.value y,xs,Ts⟩,ty,pos,af,none⟩).run P w= .ok (.round l fn tmps assign body) w:=by
  simp only [execOp,resolve,hf,Deferred.ofValue,Sem.run_bind,Sem.run_pure,Result.andThen_ok,invoke,uL];simp [h1]
 rw [h3,Oper.uponIn_round];refine ⟨λh=>(by cases h), ?_⟩;have Im:RoundIn (Fz r) 0 P l fn tmps assign body w R:=h2;refine Im.mono ?_;intro e w' hR;obtain ⟨v,rfl,hk⟩:=k e w' hR;simp only [cQ];exact hk
theorem EP(h:Q .normal (fr n ρ) w):wpListIn (Fz r) 0 P ops Q [] (fr n ρ) w:=h
theorem TC{id:Nat}{l:List Oper}(h:wpListIn (Fz r) 0 P l.toArray Q l (fr n ρ) w):(Code.region id l.toArray false).wpIn (Fz r) 0 P Q (fr n ρ) w:=wpIn_region_lit h
theorem G0{c:Operand}{x y:Code}(b:Bool)(hc:ev n ρ c= .bool b)(ht:b=true->x.wpIn (Fz r) 0 P Q (fr n ρ) w)(hf:b=false->y.wpIn (Fz r) 0 P Q (fr n ρ) w):
 (Code.cond c x y).wpIn (Fz r) 0 P Q (fr n ρ) w:=wpIn_cond_split (by rw [aO];exact hc) ht hf
end
def Ch.lp(l:Nat)(r:Loop):Ch where
 dup:=false
 fp i:=i=l
 as σ:=σ.w.heap[l]? =some (.loop r)/\σ.fC l=0
 GQ h:=by cases h
 bs h i e:=by subst e;exact lt_of_block h.1
 er m hd h:=by
  have hb:=lt_of_block h.1;have hS:=hd l rfl;exact ⟨(m.block l hb hS).trans h.1,(m.fC l hb hS).trans h.2⟩
def Ch.df(l:Nat):Ch where
 dup:=false
 fp i:=i=l
 as σ:=σ.w.heap[l]? =some (.deferred (some []))/\σ.fC l=0
 GQ h:=by cases h
 bs h i e:=by subst e;exact lt_of_block h.1
 er m hd h:=by
  have hb:=lt_of_block h.1;have hS:=hd l rfl;exact ⟨(m.block l hb hS).trans h.1,(m.fC l hb hS).trans h.2⟩
section
variable{P:Program}{S0:BS}{aq σ:St}{L:List Ch}
theorem Hp.aaR(H:Hp S0 aq σ L)(r:Loop):Hp S0 aq (σ.new (.loop r) 0) (Ch.lp σ.size r::L):=
 Hp.ED (A':=[Ch.lp σ.size r]) H (Hp.fresh (St.lg _ _ _) _ ⟨St.rQ _ _ _,St.rR _ _ _⟩ (λb hb=>qay (Eq.symm hb)))
theorem Hp.aaS(H:Hp S0 aq σ L):Hp S0 aq (σ.new (.deferred (some [])) 0) (Ch.df σ.size::L):=
 Hp.ED (A':=[Ch.df σ.size]) H (Hp.fresh (St.lg _ _ _) _ ⟨St.rQ _ _ _,St.rR _ _ _⟩ (λb hb=>qay (Eq.symm hb)))
theorem Hp.PO{l:Nat}{r:Loop}(H:Hp S0 aq σ (Ch.lp l r::L))(r':Loop):Hp S0 aq (σ.put l (.loop r')) (Ch.lp l r'::L):=by
 have h:=H.all.1;refine Hp.Az (A':=[Ch.lp l r']) H (Hp.one ((St.wF h.2).md.mono λi hi=> .inl ?_) ⟨World.tM _ (lt_of_block h.1),h.2⟩ (λb hb _=> .inl hb));exact (qaf hi).symm
theorem Hp.aaT{l:Nat}(H:Hp S0 aq σ (Ch.df l::L))(o:Obj):Hp S0 aq (σ.put l o) L:=by
 have h:=H.all.1;refine Hp.Az (A':=[]) H ⟨(St.wF h.2).md.mono λi hi=> .inl ?_,trivial,trivial,λb hb=>hb.elim⟩;exact (qaf hi).symm
theorem Hp.drop: ∀(R:List Ch) {L:List Ch},Hp S0 aq σ (R++L)->Hp S0 aq σ L
 | [],_,H=>H
 | _::R,_,H=>Hp.drop R H.tail
theorem Mz{g:Operand}{ps:Array Tmp}{assign body:Code}{Q:Exit->Act->World->Prop}{a:Act}{gf:Nat}{lb:Array Value}{N:Nat}{PQ:Nat->Array Value}
  (hg:a.eval g= .func (.func gf) #[] lb) (eg: ∀args w,(callFunc gf args).run P w= .ok (.enter gf args) w) (Mv: ∀i,i<N->(PQ i).size=ps.size)
  (K:Nat->List Ch->Prop) (hK:K 0 L) (H:Hp S0 aq σ L)
  (Jh: ∀(l:Nat) (J:Nat->St->Prop),(∀{i σ σ'},J i σ->Md (λ_=>False) σ σ'->J i σ')->(∀{i σ},J i σ-> ∃L R,K i L/\Hp S0 aq σ (R++L))->
   (∀i,i<N-> ∀σ,J i σ->YieldAt Fence.wide 0 P l (PQ i) σ.w λe W'=>e= .returned (.bool true)/\ ∃σ',W'=σ'.w/\J (i+1) σ')->
   ∀σ,J 0 σ->CallsIn Fence.wide 0 P gf (#[.func (.yield l) #[] #[]]++lb) σ.w λe W'=>(∃v,e= .returned v)/\ ∃σ',W'=σ'.w/\J N σ')
  (aaU: ∀(l D i:Nat) (r r':Loop),i<N-> ∀σ L,K i L->Hp S0 aq σ (Ch.lp l r::Ch.df D::L)->
   assign.wpIn (Fz (some l)) 0 P (Exit.then (λad8 w₁=> ∃nq L1,w₁=nq.w/\Hp S0 aq nq (Ch.lp l r::Ch.df D::L1)/\ ∀ij,Hp S0 aq ij (Ch.lp l r'::Ch.df D::L1)->
    body.wpIn (Fz (some l)) 0 P (λe _ w=>e= .normal/\ ∃gY L3,w=gY.w/\K (i+1) L3/\Hp S0 aq gY (Ch.lp l r'::Ch.df D::L3)) ad8 ij.w) (λ_ _ _=>False))
    {tmps:=(ps.zip (PQ i)).foldl (λt (p,v)=>t.setIfInBounds p v) a.tmps,defers:=[] } σ.w)
  (aaV: ∀(D:Nat) σ' L',K N L'->Hp S0 aq σ' (Ch.df D::L')->Q .normal { a with defers:={ target:= .collected D,args:= #[] }::a.defers } σ'.w):
  (Code.rangeFunc g ps assign body).wpIn (Fz none) 0 P Q a σ.w:=by
 refine wpIn_rangeFunc ?_;intro fn xB;obtain ⟨rec,Ju⟩: ∃rec:LoopState->Option Code->Loop,rec=λst pe=>{ state:=st,pending:=pe,fn,tmps:=a.tmps,params:=ps,assign,body,defers:=σ.w.heap.size }:=⟨_,rfl⟩;have H1:=(H.aaS).aaR (rec .ready none);generalize Xi:(σ.new (.deferred (some [])) 0).new (.loop (rec .ready none)) 0=nq at H1;have hs:(σ.new (.deferred (some [])) 0).size=σ.w.heap.size+1:=St.GL _ _ _;rw [hs] at H1;have lH:σ.size=σ.w.heap.size:=rfl;rw [lH] at H1;generalize hl:σ.w.heap.size+1=l at*;generalize hD:σ.w.heap.size=D at*;refine ⟨l,[{ target:= .collected D,args:= #[] }],nq.w,{ target:= .fn (.func gf) lb,args:= #[.func (.yield l) #[] #[]] },nq.w,gf, #[.func (.yield l) #[] #[]]++lb,nq.w, ?_, ?_, ?_, ?_,λh=>(by cases h), ?_⟩
 ·have:=run_enterLoop_outer (P:=P) (w:=σ.w) fn a.tmps ps assign body;rw [this, ←Xi,Ju,hD,hl]
  rfl
 ·simp only [resolve,hg];simp [go_sem]
 ·intro f' hf';trivial
 ·simp [invoke,go_sem,eg]
 ·refine (Jh l (λi σ=> ∃L,K i L/\Hp S0 aq σ (Ch.lp l (rec .ready none)::Ch.df D::L)) (λ⟨L,h1,h2⟩ m=>⟨L,h1,h2.grow m⟩) (λ⟨L,h1,h2⟩=>⟨L,[_,_],h1,h2⟩) ?_ nq ⟨L,hK,H1⟩).mono ?_
  ·rintro i hi ij ⟨L2,Pg,H2⟩;have cP:=H2.all.1.1;have hy:=run_yield (P:=P) (args:=PQ i) cP (by rw [Ju];exact Mv i hi);rw [Ju] at hy;refine ⟨fn,_,assign,body,hy,roundIn_of_wpIn xB ?_⟩;refine wpIn_mono (aaU l D i (rec .ready none) { rec .ready none with state:= .busy } hi ij L2 Pg H2) ?_;intro e a1 w1 hq;cases e with
   | normal=>
    obtain ⟨gY,L3,rfl,H3,hb⟩:=hq;refine ⟨_,run_beginRound H3.all.1.1 (by rw [Ju]), ?_⟩;have H4:=H3.PO { rec .ready none with state:= .busy };refine wpIn_mono (hb _ H4) ?_;rintro e a3 w3 ⟨rfl,ER,L5,rfl,hK5,H5⟩;refine ⟨_,_,run_endRound none H5.all.1.1,rfl,ER.put l (.loop (rec .ready none)), ?_,L5,hK5,H5.PO _⟩;rw [Ju];rfl
   | ret=>exact hq.elim
   | exit id=>exact hq.elim
   | goto t=>exact hq.elim
   | panic ch=>exact hq.elim
   | outgrown=>exact hq.elim
  ·rintro e W2 ⟨⟨v,rfl⟩,ij,rfl,L2,Pg,H2⟩;refine ⟨none,_, ?_,aaV D _ L2 Pg (H2.PO { rec .ready none with state:= .exhausted }).tail⟩;have:=run_endLoop (P:=P) H2.all.1.1 (by rw [Ju];simp);rw [Ju] at this ⊢;exact this
end
theorem KZ{α:Type}{xs:List α}{i:Nat}(h:i<xs.length):aZ xs (i:Int)=some xs[i]:=by
 unfold aZ;rw [if_pos (by omega)];simp [h]
noncomputable def M.xQ{α:Type}(xs:List α):Option (List α):=if xs.length<=2147483648 then some xs else none
theorem MA{α:Type}{xs r:List α}(h:M.xQ xs=some r):xs.length<=2147483648/\r=xs:=by
 unfold M.xQ at h;split at h
 ·exact ⟨by assumption,(qaf h).symm⟩
 ·cases h
theorem MB{α:Type}{xs:List α}{i:Nat}(h:i<xs.length)(hn:xs.length<=2147483648):tO (xs.take i) [xs[i]]=some (xs.take (i+1)):=by
 unfold tO;rw [if_pos (by simp;omega),qas h]
section
variable{P:Program}{ops:Array Oper}{Q:Exit->Act->World->Prop}{n d:Nat}{ρ:Nat->Value}{σ aq:St}{w:World}{v:Value}{rest:List Oper}{r:Option Nat}{S0:BS}{L:List Ch}
variable{op:Op}{ty:TypeId}{pos:String}{af:Array Edge}
def G1(n:Nat)(ds:List Deferred)(ρ:Nat->Value):Act:={ fr n ρ with defers:=ds }
theorem wM{ds:List Deferred}:(G1 n ds ρ).eval=(fr n ρ).eval:=by funext x;cases x <;> rfl
theorem ES{ds:List Deferred}:(G1 n ds ρ).put (some d) v=G1 n ds (upd ρ d v):=by
 have:=cQ n ρ d v;unfold G1;simp only [Act.put] at this ⊢;rw [←this]
theorem stD{ds:List Deferred}(Is: ∀c,op≠ .defer c)(hr:ei P w.heap n ρ ⟨some d,op,ty,pos,af,none⟩ v)(k:wpListIn (Fz r) 0 P ops Q rest (G1 n ds (upd ρ d v)) w):
  wpListIn (Fz r) 0 P ops Q (⟨some d,op,ty,pos,af,none⟩::rest) (G1 n ds ρ) w:=by
 unfold wpListIn;rw [if_pos (aI _ rfl _)];refine ⟨λ_ _=>trivial, ?_⟩;rw [Oper.semAt_eq _ _ _ Is,wM,aO,hr w rfl];simp only [Oper.uponIn_value,ES];exact k
theorem ad9{ds:List Deferred}(h:Q .normal (G1 n ds ρ) w):wpListIn (Fz r) 0 P ops Q [] (G1 n ds ρ) w:=h
theorem rgD{id:Nat}{l:List Oper}{ds:List Deferred}(h:wpListIn (Fz r) 0 P l.toArray Q l (G1 n ds ρ) w):(Code.region id l.toArray false).wpIn (Fz r) 0 P Q (G1 n ds ρ) w:=wpIn_region_lit h
theorem PR{p:Nat}:({ tmps:=(Array.zip #[p] #[v]).foldl (λt (p,v)=>t.setIfInBounds p v) (fr n ρ).tmps,defers:=[] }:Act)=fr n (upd ρ p v):=by
 rw [←cQ];have:(Array.zip #[p] #[v])= #[(p,v)]:=by simp
 simp [this,Act.put,fr]
theorem aaW{f:FuncId}(hf: ∃fn c,P.funcs[f]? =some fn/\(fn.name== "runtime.NumGoroutine")=false/\fn.body=some c)(args:Array Value)(w:World):(callFunc f args).run P w= .ok (.enter f args) w:=by
 obtain ⟨fn,c,h1,h2,h3⟩:=hf;simp only [callFunc,Sem.run_bind,run_program,Result.andThen_ok,h1,h2,h3];simp
theorem PS{f:FuncId}{fn:Func}{c:Code}{l:List Value}{R:Ending->World->Prop}(hf:P.funcs[f]? =some fn)(hb:fn.body=some c)(hn:fn.ntmps=n)(hl:Nat.ble l.length n=true)
  (h:c.wpIn (Fz none) 0 P (bodyPostM Fence.wide 0 P fn R) (fr n (dZ l)) w):CallsIn Fence.wide 0 P f l.toArray w R:=by
 refine callsIn_of_wp_marks hf hb trivial ?_;have:=nY l n (by simpa using hl);simp only [qbj,hn,this];exact h
theorem Jv{fn:Func}{R:Ending->World->Prop}(hr:(results fn (fr n ρ).tmps).run P w= .ok v w)(hp:R (.returned v) w):bodyPostM Fence.wide 0 P fn R .normal (fr n ρ) w:=⟨v,hr,hp⟩
theorem PT{fn:Func}{R:Ending->World->Prop}{D:Nat}(H:Hp S0 aq σ (Ch.df D::L))(hr:(results fn (fr n ρ).tmps).run P (σ.put D (.deferred none)).w= .ok v (σ.put D (.deferred none)).w)(hp:R (.returned v) (σ.put D (.deferred none)).w):
  bodyPostM Fence.wide 0 P fn R .ret (G1 n [{ target:= .collected D,args:= #[] }] ρ) σ.w:=
 ⟨by simp, .inl ⟨D,_,rfl,run_takeDeferred H.all.1.1,v,hr,hp⟩⟩
end
end Go.Vs
namespace Go.Vs
open Go
section
variable{P:Program}{ops:Array Oper}{Q:Exit->Act->World->Prop}{rest:List Oper}{n:Nat}{ρ:Nat->Value}{w:World}{d:Nat}{x:Operand}{ty:TypeId}{pos:String}{af:Array Edge}
theorem sm(v:Value)(h:ev n ρ x=v)(k:wpList P ops Q rest (fr n (upd ρ d v)) w):wpList P ops Q (⟨some d, .move x,ty,pos,af,none⟩::rest) (fr n ρ) w:=st (ai h) k
theorem sa(v:Value)(h:ev n ρ x=v)(k:wpList P ops Q rest (fr n (upd ρ d v)) w):wpList P ops Q (⟨some d, .assign x,ty,pos,af,none⟩::rest) (fr n ρ) w:=st (uu h) k
theorem br{α β:Type}{o:Option α}{f:α->Option β}{r:β}{p:Prop}(k: ∀x,o=some x->f x=some r->p):o.bind f=some r->p:=λh=>let ⟨x,h1,h2⟩:=bind_some h;k x h1 h2
theorem sj{α:Type}{a b:α}(h:some a=some b):a=b:=qaf h
end
end Go.Vs
namespace Go.Vs
open Go
section
variable{P:Program}{ops:Array Oper}{Q:Exit->Act->World->Prop}{rest r:List Oper}{n N d:Nat}{ρ:Nat->Value}{w:World}{H:Array Obj}{K:(Nat->Value)->Prop}{op:Op}{x:Operand}{ty:TypeId}{pos:String}{af:Array Edge}{σ aq:St}{S0:BS}
theorem sv(v:Value)(hr:ei P w.heap n ρ ⟨some d,op,ty,pos,af,none⟩ v)(k:wpList P ops Q rest (fr n (upd ρ d v)) w):wpList P ops Q (⟨some d,op,ty,pos,af,none⟩::rest) (fr n ρ) w:=st hr k
theorem gu(v:Value)(hr:ei P H N ρ ⟨some d,op,ty,pos,af,none⟩ v)(k:zh P ops H N K r (upd ρ d v)):zh P ops H N K (⟨some d,op,ty,pos,af,none⟩::r) ρ:=sq hr k
theorem fq{fn:Func}{post:Value->List Ch->Prop}{L':List Ch}{t:Nat}(v:Value)(h:fn.results= #[.tmp t])(hv:look n ρ t=v)(hp:post v L')(H:Hp S0 aq σ L'):bodyPost P fn (Di post aq S0) .ret (fr n ρ) σ.w:=rM (eG (rs:=[.tmp t]) h (Er hv jy) rfl) hp H
theorem di{fn:Func}{post:Value->List Ch->Prop}{L':List Ch}{t:Nat}{v:Value}(h:fn.results= #[.tmp t])(hp:post v L')(H:Hp S0 aq σ L')(hv:look n ρ t=v:=by exact rfl):bodyPost P fn (Di post aq S0) .ret (fr n ρ) σ.w:=fq v h hv hp H
abbrev Jn(S0:BS)(aq:St)(n:Nat)(L:List (Nat×Value))(C:List Ch)(e:Exit)(a:Act)(w:World):Prop:=e= .normal/\ ∃(ρ:Nat->Value) (σ:St),a=fr n (bV ρ L)/\w=σ.w/\Hp S0 aq σ C
theorem ax(v:Value)(k:wpList P ops Q rest (fr n (upd ρ d v)) w)(h:ev n ρ x=v:=by exact rfl):wpList P ops Q (⟨some d, .move x,ty,pos,af,none⟩::rest) (fr n ρ) w:=sm v h k
theorem aM(v:Value)(k:wpList P ops Q rest (fr n (upd ρ d v)) w)(h:ev n ρ x=v:=by exact rfl):wpList P ops Q (⟨some d, .assign x,ty,pos,af,none⟩::rest) (fr n ρ) w:=sa v h k
theorem cM{f:FuncId}{fn:Func}{c:Code}{l:List Value}{pre:List Ch}{post:Nat->Value->List Ch->Prop}(hf:P.funcs[f]? =some fn)
 (h: ∀(S0:BS) (aq:St) (n0:Nat),n0<=aq.size->Hp S0 aq aq pre->c.wp P (bodyPost P fn (Di (post n0) aq S0)) (fr n (dZ l)) aq.w)
 (OE:(fn.name== "runtime.NumGoroutine")=false:=by exact rfl) (hb:fn.body=some c:=by exact rfl) (hn:fn.ntmps=n:=by exact rfl) (hl:Nat.ble l.length n=true:=by exact rfl):bL P f l pre post:=adV hf OE hb hn hl h
theorem bO{α β:Type}{o:Option α}{f:α->Option β}{r:β}{p:Prop}(h:o.bind f=some r)(k: ∀x,o=some x->f x=some r->p):p:=br k h
theorem fD{c:Operand}{x y:Code}{α:Type}{b:Bool}{u v z:α}(h:(bif b then u else v)=z)(ht:b=true->u=z->x.wp P Q (fr n ρ) w)(hf:b=false->v=z->y.wp P Q (fr n ρ) w)(hc:ev n ρ c= .bool b:=by exact rfl):
 (Code.cond c x y).wp P Q (fr n ρ) w:=uq b hc (λe=>ht e (VL e h)) (λe=>hf e (VM e h))
theorem oK{α:Type}{b:Bool}{u v z:α}(h:(bif b then u else v)=z):b=true/\u=z\/b=false/\v=z:=by cases b <;> simp at h <;> simp [h]
theorem cl{f:FuncId}{xs:Array Operand}{Ts:Array TypeId}{args:List Value}{A R:List Ch}{post:Nat->Value->List Ch->Prop}{m:Nat}(hc:bL P f args A post)(hm:m<=aq.size)(H:Hp S0 aq σ (A++R))
 (k: ∀v (σ':St),(∃L',post m v L'/\Hp S0 aq σ' (L'++R))->wpList P ops Q rest (fr n (upd ρ d v)) σ'.w) (hx:xs.toList.map (ev n ρ)=args:=by exact rfl):
 wpList P ops Q (⟨some d, .call ⟨.value (.func f),xs,Ts⟩,ty,pos,af,none⟩::rest) (fr n ρ) σ.w:=bP (bk hc (cZ hc.fn hx) hm H) wn λv σ' ⟨L',a,b,_⟩=>k v σ' ⟨L',a,b⟩
theorem ll{f:FuncId}{xs:Array Operand}{Ts:Array TypeId}{args:List Value}{Ln A B R:List Ch}{post:Nat->Value->List Ch->Prop}(hl:eF Ln A B)(hc:bL P f args B post)(H:Hp S0 aq σ (Ln++(A++R)))(mw: ∀m v L',post m v L'->wD m L')
 (k: ∀v (σ':St),(∃L',post σ.size v L'/\Hp S0 aq σ' (L'++(Ln++R))/\Md (dv A) σ σ'/\aq.size<=σ.size)->wpList P ops Q rest (fr n (upd ρ d v)) σ'.w) (hx:xs.toList.map (ev n ρ)=args:=by exact rfl):
 wpList P ops Q (⟨some d, .call ⟨.value (.func f),xs,Ts⟩,ty,pos,af,none⟩::rest) (fr n ρ) σ.w:=bP (nX hl hc (cZ hc.fn hx) H mw) wn k
theorem k1{id:Nat}{l:List Oper}{y:Code}(h:wpList P l.toArray (Exit.then (y.wp P Q) Q) l (fr n ρ) w):(Code.seq (Code.region id l.toArray false) y).wp P Q (fr n ρ) w:=cV (rg h)
theorem k2{a:Act}{K:Act->World->Prop}(h:K a w):wpList P ops (Exit.then K Q) [] a w:=bA (aA h)
theorem k3{a:Act}{x y:Code}(h:x.wp P (Exit.then (y.wp P Q) Q) a w):wpList P ops (Exit.then ((Code.seq x y).wp P Q) Q) [] a w:=k2 (cV h)
theorem k4{id:Nat}{l:List Oper}{y:Code}(h:wpList P l.toArray (Exit.then (y.wp P Q) Q) l (fr n ρ) w):wpList P ops (Exit.then ((Code.seq (Code.region id l.toArray false) y).wp P Q) Q) [] (fr n ρ) w:=k2 (k1 h)
theorem k5{id:Nat}{l:List Oper}{y z:Code}(h:wpList P l.toArray (Exit.then (y.wp P (Exit.then (z.wp P Q) Q)) (Exit.then (z.wp P Q) Q)) l (fr n ρ) w):wpList P ops (Exit.then ((Code.seq (Code.seq (Code.region id l.toArray false) y) z).wp P Q) Q) [] (fr n ρ) w:=k3 (k1 h)
theorem k6{a:Act}{x y:Code}(h:x.wp P (Exit.then (y.wp P Q) Q) a w):Code.skip.wp P (Exit.then ((Code.seq x y).wp P Q) Q) a w:=fH (aA (cV h))
theorem k7{a:Act}(h:Q .ret a w):wpList P ops (Exit.then (Code.ret.wp P Q) Q) [] a w:=k2 (OQ h)
end
section
variable{P:Program}{ops:Array Oper}{N n d i m k:Nat}{ρ jw:Nat->Value}{Nm:Type}{nm pE:Nm}{V:Nat->Nm->Value}{J:Nat->Nm->St->Prop}{σ aq:St}{o:Oper}{op:Op}{ty:TypeId}{pos:String}{af:Array Edge}{r:List Oper}{Al:List (List (Nat×Nat))}{v:Value}{L:List Ch}{S0:BS}{Q:Exit->Act->World->Prop}{rest:List Oper}{w:World}{gd:Option (Nat×Bool)}
theorem lo{v:Value}(h: ∀t,wI ops n t=true->ρ t=jw t)(t:Nat)(h1:wI ops n t=true:=by exact rfl)(h2:look N jw t=v:=by exact rfl):look N ρ t=v:=GU (h t h1) h2
theorem dq(h: ∀j,waits o j=true->Nat.blt j n=true-> ∀d,dm ops j=some d->look N ρ d=V j nm)(j d:Nat)(h1:waits o j=true:=by exact rfl)(h2:Nat.blt j n=true:=by exact rfl)(h3:dm ops j=some d:=by exact rfl):look N ρ d=V j nm:=h j h1 h2 d h3
theorem pF(hr:ei P σ.w.heap N ρ ⟨some d,op,ty,pos,af,none⟩ (V i nm))(hJ:J k nm σ):ve P ops N n J V ρ σ nm i ⟨some d,op,ty,pos,af,none⟩ k:=xZ wn hr rfl hJ
abbrev OfC(ops:Array Oper)(n:Nat)(ρ jw:Nat->Value):Prop:= ∀t,wI ops n t=true->ρ t=jw t
abbrev DpC(ops:Array Oper)(n N:Nat)(ρ:Nat->Value)(V:Nat->Nm->Value)(nm:Nm)(o:Oper):Prop:= ∀j,waits o j=true->Nat.blt j n=true-> ∀d,dm ops j=some d->look N ρ d=V j nm
abbrev EqC(Al:List (List (Nat×Nat)))(k:Nat):Prop:=((R2 Al k).all λp=>Nat.beq p.1 p.2)=true
abbrev V3(P:Program)(ops:Array Oper)(N n:Nat)(jw:Nat->Value)(J:Nat->Nm->St->Prop)(V:Nat->Nm->Value)(Al:List (List (Nat×Nat)))(m k:Nat)(l:List Oper):Prop:=oJ (λi o=>EI (Ob P ops N n jw J V i o) (R2 Al i)) m k l
theorem fY(h: ∀nm ρ (σ:St),OfC ops n ρ jw->DpC ops n N ρ V nm ⟨some d,op,ty,pos,af,none⟩->ei P σ.w.heap N ρ ⟨some d,op,ty,pos,af,none⟩ (V k nm))(t:V3 P ops N n jw J V Al m (k+1) r)(hl:EqC Al k:=by exact rfl):
 V3 P ops N n jw J V Al (m+1) k (⟨some d,op,ty,pos,af,none⟩::r):=ac hl (λ_ nm ρ σ j o d=>pF (h nm ρ σ o d) j) t
theorem mX{j:Nat}{b:Bool}{e:Nat}(h: ∀nm ρ (σ:St),OfC ops n ρ jw->DpC ops n N ρ V nm ⟨some d,op,ty,pos,af,some (j,b)⟩->look N ρ e=B b/\ei P σ.w.heap N ρ ⟨some d,op,ty,pos,af,some (j,b)⟩ (V k nm))(t:V3 P ops N n jw J V Al m (k+1) r)(hl:EqC Al k:=by exact rfl)(he:dm ops j=some e:=by exact rfl):
 V3 P ops N n jw J V Al (m+1) k (⟨some d,op,ty,pos,af,some (j,b)⟩::r):=ac hl (λ_ nm ρ σ j o d=>xZ (aS rfl (pW he (h nm ρ σ o d).1)) (h nm ρ σ o d).2 rfl j) t
theorem V4{j:Nat}{b:Bool}{e:Nat}{dst:Option Nat}(h: ∀nm ρ (σ:St),OfC ops n ρ jw->DpC ops n N ρ V nm ⟨dst,op,ty,pos,af,some (j,b)⟩->look N ρ e=B (!b))(t:V3 P ops N n jw J V Al m (k+1) r)(hl:EqC Al k:=by exact rfl)(he:dm ops j=some e:=by exact rfl)(hv: ∀nm,V k nm=undef:=by exact λ_=>rfl):
 V3 P ops N n jw J V Al (m+1) k (⟨dst,op,ty,pos,af,some (j,b)⟩::r):=ac hl (λ_ nm ρ σ j o d=>EK (ur rfl (pW he (h nm ρ σ o d))) (hv nm) j) t
theorem acu{j:Nat}{b:Bool}{e:Nat}{dst:Option Nat}(h: ∀nm ρ (σ:St),OfC ops n ρ jw->DpC ops n N ρ V nm ⟨dst,op,ty,pos,af,some (j,b)⟩->look N ρ e=undef)(t:V3 P ops N n jw J V Al m (k+1) r)(hl:EqC Al k:=by exact rfl)(he:dm ops j=some e:=by exact rfl)(hv: ∀nm,V k nm=undef:=by exact λ_=>rfl):
 V3 P ops N n jw J V Al (m+1) k (⟨dst,op,ty,pos,af,some (j,b)⟩::r):=ac hl (λ_ nm ρ σ j o d=>EK (GK rfl (Pw he (h nm ρ σ o d))) (hv nm) j) t
abbrev rp{α:Type}(n:Nat)(x:α):List α:=List.replicate n x
abbrev ctq{α:Type}(a b:List α):List α:=a++b
theorem Dt(H:Hp S0 aq σ L)(nq:St)(m:Md (dv []) σ nq):Hp S0 aq nq L/\Md (dv []) σ nq:=⟨H.grow (m.mono λ_ h=>h.elim),m⟩
theorem vW(l:List Nat)(hb:((List.range n).all λj=> !wG ops n i j || l.contains j)=true:=by kernel_rfl)(h:l.map (V · pE)=l.map (V · nm):=by exact rfl): ∀j,wG ops n i j=true->V j pE=V j nm:=by
 refine ad3 l hb ?_;clear hb
 induction l with
 | nil=>trivial
 | cons a l ih=>simp only [qb5,List.cons.injEq] at h;exact ⟨h.1,ih h.2⟩
theorem Du(ba: ∀t,wI ops n t=true->ρ t=jw t)(eE: ∀i,Nat.blt i n=true-> ∀d,dm ops i=some d->look N ρ d=V i nm)(L:List (Nat×Value))(js:List Nat)(k:wpList P ops Q rest (fr N (bV ρ L)) w)
  (h1:((L.take (L.length - js.length)).all λp=>wI ops n p.1)=true:=by exact rfl) (e1:(L.take (L.length - js.length)).map (λp=>look N jw p.1)=(L.take (L.length - js.length)).map (·.2):=by exact rfl)
  (h2:(js.all λj=>Nat.blt j n)=true:=by exact rfl) (e2:js.map (λj=>(dm ops j,V j nm))=(L.drop (L.length - js.length)).map (λp=>(some p.1,p.2)):=by exact rfl):wpList P ops Q rest (fr N ρ) w:=by
 rw [Tx (L:=L) ?_]
 ·exact k
 clear k;intro p hp;rw [←List.take_append_drop (L.length - js.length) L] at hp;generalize L.take (L.length - js.length)=A at*;generalize L.drop (L.length - js.length)=B at*;rcases qag.1 hp with hq | hq
 ·clear hp e2 h2
  induction A with
  | nil=>cases hq
  | cons q A ih=>
   simp only [qb5,List.cons.injEq,List.all_cons,qa4] at e1 h1;rcases qad.1 hq with rfl | hq
   ·exact GU (ba _ h1.1) e1.1
   ·exact ih h1.2 e1.2 hq
 ·clear hp e1 h1
  induction B generalizing js with
  | nil=>cases hq
  | cons q B ih=>
   cases js with
   | nil=>cases e2
   | cons j js=>
    simp only [qb5,List.cons.injEq,List.all_cons,qa4,qcd] at e2 h2;rcases qad.1 hq with rfl | hq
    ·rw [←e2.1.2];exact eE j h2.1 _ e2.1.1
    ·exact ih js h2.2 e2.2 hq
theorem cz{l:List (Nat×Value)}(h:l.map (λp=>ρ p.1)=l.map (·.2)):fr n ρ=fr n (bV ρ l):=by
 refine nZ ?_
 induction l with
 | nil=>trivial
 | cons a l ih=>simp only [qb5,List.cons.injEq] at h;exact ⟨h.1,ih h.2⟩
end
section
variable{S0:BS}{aq σ σ':St}{L R:List Ch}{α:Type}[Rp α]{el lo:Nat}{v:Value}{xs:List α}{b o:Nat}{cs pre tQ:List Value}
theorem Hp.se(H:Hp S0 aq σ L)(ks:List Nat){L':List Ch}(h:Mr L ks=true:=by exact rfl)(e:AD L ks=L':=by exact rfl):Hp S0 aq σ L':=H.Tq ks h e
theorem Hp.fy(H:Hp S0 aq σ L)(i:Nat)(h:nth L i=some (Ch.ro el v xs):=by exact rfl):RS el σ v xs:=H.get h
theorem Hp.gL(H:Hp S0 aq σ L)(i:Nat)(h:nth L i=some (Ch.own lo el v xs):=by exact rfl):Ow σ lo el v xs:=H.get h
theorem Hp.ee(H:Hp S0 aq σ L)(i:Nat)(h:nth L i=some (Ch.bx lo b o cs pre tQ):=by exact rfl): ∀j,(hj:j<cs.length)->iW σ.w.heap b (o+j)=some cs[j]:=H.cells i h
theorem Hp.dQ(H:Hp S0 aq σ L)(i k:Nat){u:Value}{o':Nat}(h:nth L i=some (Ch.bx lo b o cs pre tQ):=by exact rfl)(hu:cs[k]? =some u:=by exact rfl)(ho:o'=o+k:=by exact rfl):iW σ.w.heap b o'=some u:=H.cell i k h hu ho
theorem Hp.tS(H:Hp S0 aq σ L)(i:Nat)(h:pick L i=some (Ch.own lo lo v xs,R):=by exact rfl): ∃σ':St,σ'.w=σ.w/\Hp S0 aq σ' (Ch.ro lo v xs::R)/\Md (λb=>blk v=Option.some b) σ σ':=H.OT i h (qa3 _)
end
end Go.Vs
namespace Go.Vs
open Go
end Go.Vs
namespace Go.Vs
open Go
instance:Rp Value where
 sz:=1
 rp _ _ cs x:=cs=[x]/\plain x=true
 pos:=by decide
 len:=by rintro _ _ _ _ ⟨rfl,_⟩;rfl
 uM:=λ_ h=>h
 low:=λ_ h=>h
 one:=by rintro _ _ _ _ ⟨rfl,h⟩;simpa using h
section
variable{S0:BS}{aq σ:St}{L K R:List Ch}{c:Ch}
theorem Hp.XX(H:Hp S0 aq σ R):Hp S0 aq σ (Ch.vf []::R):=H.add (d:=Ch.vf []) ⟨trivial,trivial⟩ (λ_ h=>h)
theorem Hp.TD(H:Hp S0 aq σ (c::Ch.vf K::R)):Hp S0 aq σ (Ch.vf (c::K)::R):=
 ⟨H.md,⟨⟨⟨H.all.1,H.all.2.1.1⟩,⟨λb hb h=>H.ap.1 b hb (.inl h),H.all.2.1.2⟩⟩,H.all.2.2⟩,
  ⟨λb hb h=>hb.elim (λhb=>H.ap.1 b hb (.inr h)) (λhb=>H.ap.2.1 b hb h),H.ap.2.2⟩,
  λb hb=>H.zf b (hb.elim (λhb=>hb.elim .inl (λhb=> .inr (.inl hb))) (λhb=> .inr (.inr hb)))⟩
theorem Hp.TE(H:Hp S0 aq σ (c::Ch.vf K::R)):Hp S0 aq σ (Ch.vf (K++[c])::R):=
 ⟨H.md,⟨⟨dC.2 ⟨H.all.2.1.1,H.all.1,trivial⟩,dM.2 ⟨H.all.2.1.2,⟨λ_ _ h=>h,trivial⟩,λb hb h=>h.elim (λh=>H.ap.1 b h (.inl hb)) id⟩⟩,H.all.2.2⟩,
  ⟨λb hb h=>(bu.1 hb).elim (λhb=>H.ap.2.1 b hb h) (λhb=>hb.elim (λhb=>H.ap.1 b hb (.inr h)) id),H.ap.2.2⟩,
  λb hb=>H.zf b (hb.elim (λhb=>(bu.1 hb).elim (λhb=> .inr (.inl hb)) (λhb=>hb.elim .inl (λh=>h.elim))) (λhb=> .inr (.inr hb)))⟩
theorem Hp.V5(H:Hp S0 aq σ (Ch.vf (c::K)::R)):Hp S0 aq σ (c::Ch.vf K::R):=
 ⟨H.md,⟨H.all.1.1.1,⟨H.all.1.1.2,H.all.1.2.2⟩,H.all.2⟩,
  ⟨λb hb h=>h.elim (H.all.1.2.1 b hb) (H.ap.1 b (.inl hb)),⟨λb hb h=>H.ap.1 b (.inr hb) h,H.ap.2⟩⟩,
  λb hb=>H.zf b (hb.elim (λhb=> .inl (.inl hb)) (λhb=>hb.elim (λhb=> .inl (.inr hb)) .inr))⟩
end
class Dl(α:Type)(β:outParam Type)[Rp α][Rp β] where
 sh:α->Value->β
 inn:α->List Int
 sz:Rp.sz α=Rp.sz β
 rp: ∀{lo nK:Nat} {σ:St} {cs:List Value} {x:α} {h:Value},Rp.rp lo σ cs (sh x h)->RS nK σ h (inn x)->Rp.rp nK σ cs x
instance:Dl (Int×List Int×Int) (Int×Value×Int) where
 sh x h:=(x.1,h,x.2.2)
 inn x:=x.2.1
 sz:=rfl
 rp:=by
  rintro _ _ _ _ _ _ ⟨_,_,rfl,h1,⟨_,_,rfl,⟨rfl,_⟩,h3⟩⟩ h;exact ⟨_,_,rfl,h1,⟨_,_,rfl,⟨_,rfl,h⟩,h3⟩⟩
section
variable{α β:Type}[Rp α][Rp β][Dl α β]
def R3(p:α×Value):β:=Dl.sh p.1 p.2
def XY(lo:Nat)(p:α×Value):Ch:=Ch.own lo lo p.2 (Dl.inn p.1)
structure Dp(lo:Nat)(v:Value)(xs:List α)(K:List Ch):Prop where
 ex: ∃ps:List (α×Value),xs=ps.map (·.1)/\K=Ch.own lo lo v (ps.map R3)::ps.map (XY lo)
theorem Dv{lo:Nat}: ∀(ps:List (α×Value)) (σ:St),gI σ (ps.map (XY lo))->apart (ps.map (XY lo))->
  ∃σ',Pb (dv (ps.map (XY lo))) σ σ'/\ ∀p∈ps,RS 0 σ' p.2 (Dl.inn p.1)
 | [],σ,_,_=>⟨σ,⟨rfl,rfl,λ_ _=>rfl,λ_=>qa3 _⟩,by simp⟩
 | p::ps,σ,⟨h1,h2⟩,⟨h3,h4⟩=>by
  obtain ⟨nq,p1,hR⟩:=Ow.pb (h1:Ow σ lo lo p.2 (Dl.inn p.1));obtain ⟨ij,p2,h5⟩:=Dv ps nq (gr h2 p1.md (λb hb eU=>h3 b eU hb)) h4;refine ⟨ij,(p1.trans p2).mono (λb hb=>hb), ?_⟩;intro q hq;rcases qad.1 hq with rfl | hq
  ·exact hR.ext p2.md.ext
  ·exact h5 q hq
theorem Dp.G2{lo:Nat}{v:Value}{xs:List α}{K:List Ch}(h:Dp lo v xs K):VW K v xs:=by
 obtain ⟨ps,rfl,rfl⟩:=h.ex;rintro σ ⟨h1,h2⟩ ⟨h3,h4⟩;obtain ⟨nq,p1,hR⟩:=Dv ps σ h2 h4;have Oh:Ow nq lo lo v (ps.map R3):=(Ch.own lo lo v (ps.map R3)).er p1.md (λb hb eU=>h3 b hb eU) h1;have h5:Ow nq lo 0 v (ps.map (·.1)):=by
  rcases Oh with ⟨rfl,hz⟩ | ⟨b,o,c,C,T,rfl,h2,h3,h4,h5,h6,h7⟩
  ·have:ps=[]:=by simpa using hz
   subst this;exact .inl ⟨rfl,rfl⟩
  ·refine .inr ⟨b,o,c,C,T,by simp,h2,h3,by simpa using h4,by rw [Dl.sz (α:=α) (β:=β)];exact h5,h6,λi hi=> ?_⟩;have fz:i<ps.length:=by simpa using hi
   obtain ⟨cs,h8,h9⟩:=h7 i (by simpa using hi);refine ⟨cs, ?_,λj hj=>by rw [Dl.sz (α:=α) (β:=β)];exact h9 j hj⟩;simp only [List.getElem_map] at h8 ⊢;exact Dl.rp h8 (hR _ (qae fz))
 obtain ⟨ij,p2,h6⟩:=Ow.pb h5;exact ⟨ij,(p1.trans p2).mono (λb hb=>hb.elim .inr .inl),h6⟩
end
theorem PU{β:Type}(A:List β)(z e:β)(m:Nat):(A++List.replicate (m+1) z).set A.length e=(A++[e])++List.replicate m z:=by
 rw [qc4 _ _ (qa3 _),Nat.sub_self,List.replicate_succ,List.set_cons_zero];simp
theorem MC{β:Type}(A:List β)(z:β)(m:Nat)(i:Int)(h:i=(A.length:Int)):aZ (A++List.replicate (m+1) z) i=some z:=by
 subst h;unfold aZ;rw [if_pos (by omega)];simp [List.replicate_succ]
theorem Dx{β:Type}{ys:List β}{i:Nat}{e:β}{r:List β}(h:ys.drop i=e::r):aZ ys (i:Int)=some e:=by
 unfold aZ;rw [if_pos (by omega)];have:=congrArg (·[0]?) h;simpa using this
theorem drop_set{β:Type}{ys:List β}{i:Nat}{e e':β}{r:List β}(h:ys.drop i=e::r):(ys.set i e').drop i=e'::r:=by
 have hl:i<ys.length:=by
  have:=congrArg List.length h;simp at this;omega
 rw [List.drop_set,if_neg (by omega),Nat.sub_self,h,List.set_cons_zero]
theorem MD{β:Type}{ys:List β}{i:Nat}{e:β}{r:List β}(h:ys.drop i=e::r):ys.drop (i+1)=r:=by
 rw [←List.drop_drop,h];rfl
end Go.Vs
namespace Go.Vs
open Go
end Go.Vs
namespace Go.Vs
open Go
end Go.Vs
namespace Go.Vs
end Go.Vs
namespace Go.Vs
end Go.Vs
namespace Go.Vs
end Go.Vs
namespace Go.Vs
def If2(A B:Type):Type:=Int×A×B
@[reducible] def If2.mk{A B:Type}(k:Int)(a:A)(b:B):If2 A B:=(k,a,b)
end Go.Vs
namespace Go.Vs
open Go
end Go.Vs
namespace Go.Vs
open Go
end Go.Vs
namespace Go.Vs
open Go
end Go.Vs
namespace Go.Vs
open Go
def XZ(k:Int)(a b:Value):Value:=bif k==1 then a else bif k==2 then b else .nilIface
end Go.Vs
namespace Go.Vs
open Go
theorem Jx{k:Int}{t1 t2:TypeId}{a b:Value}:plain (XZ k (.iface t1 a) (.iface t2 b))=true:=by
 unfold XZ;cases k==1 <;> cases k==2 <;> rfl
@[reducible] def rp2(t1 t2:TypeId){A B:Type}[Rp A][Rp B]:Rp (If2 A B) where
 sz:=1
 rp lo σ cs x:= ∃c1 c2,Rp.rp lo σ c1 x.2.1/\Rp.rp lo σ c2 x.2.2/\cs=[XZ x.1 (.iface t1 (.agg c1.toArray)) (.iface t2 (.agg c2.toArray))]
 pos:=by decide
 len:=by rintro _ _ _ _ ⟨c1,c2,_,_,rfl⟩;rfl
 uM:=by rintro _ _ _ _ _ hE ⟨c1,c2,h1,h2,e⟩;exact ⟨c1,c2,Rp.uM hE h1,Rp.uM hE h2,e⟩
 low:=by rintro _ _ _ _ _ hl ⟨c1,c2,h1,h2,e⟩;exact ⟨c1,c2,Rp.low hl h1,Rp.low hl h2,e⟩
 one:=by
  rintro _ _ _ _ ⟨c1,c2,_,_,rfl⟩ c hc;rw [qaz] at hc;rw [hc];exact Jx
end Go.Vs
namespace Go.Vs
open Go
end Go.Vs
namespace Go.Vs
open Go
def Dy{β:Type}(f:Nat->Option β):Nat->Option (List β)
 | 0=>some []
 | n+1=>(Dy f n).bind λl=>(f n).bind λx=>some (l++[x])
section
variable{α:Type}[Rp α]
def Ch.ra(vs:List Value)(PV:List (List α)):Ch where
 dup:=true
 fp _:=False
 as σ:=vs.length=PV.length/\ ∀i,(h:i<vs.length)->(h':i<PV.length)->RS 0 σ vs[i] PV[i]
 GQ _ _:=id
 bs _ _ h:=h.elim
 er m _ h:=⟨h.1,λi hi fz=>(h.2 i hi fz).ext m.ext⟩
theorem Hp.aea{S0:BS}{aq σ:St}{L:List Ch}{vs:List Value}{PV:List (List α)}{xs:List α}{a:Int}(H:Hp S0 aq σ L)(i:Nat)(h:nth L i=some (Ch.ra vs PV))(hg:aZ PV a=some xs):
  ∃ad c,aZ vs a=some (Sl ad xs c)/\RS 0 σ (Sl ad xs c) xs:=by
 obtain ⟨h1,h2⟩:vs.length=PV.length/\ ∀i,(h:i<vs.length)->(h':i<PV.length)->RS 0 σ vs[i] PV[i]:=H.get h;obtain ⟨h0,hx,rfl⟩:=j9 hg;have hv:a.toNat<vs.length:=by omega
 have hR:=h2 _ hv hx;obtain ⟨ad,c,e⟩:=hR.pI;refine ⟨ad,c, ?_,by rw [show Sl ad PV[a.toNat] c= .slice ad PV[a.toNat].length c from rfl, ←e];exact hR⟩;unfold aZ;rw [if_pos h0,qau hv,e]
end
section
variable{P:Program}{H:Array Obj}{n:Nat}{ρ:Nat->Value}{d:Option Nat}{ty T E:TypeId}{pos:String}{af:Array Edge}{gd:Option (Nat×Bool)}{x y:Operand}{a:Int}{m bt:Nat}{z v:Value}{vs:List Value}
theorem TF{F:TypeId}(hT:P.underlying T=some (.array m E))(hi:TI P E z 1 bt)(hE:P.underlying E=some (.slice F))(hx:ev n ρ x= .agg vs.toArray)(hy:ev n ρ y=I a)(hg:aZ vs a=some v)(hl:vs.length=m):
  ei P H n ρ ⟨d, .index T x y,ty,pos,af,gd⟩ v:=by
 obtain ⟨h0,h1,h2⟩:=j9 hg;intro w _;have h3:a<(m:Int):=by omega
 have xJ:(isAgg E).run P w= .ok false w:=by
  simp only [isAgg,underlying,Sem.run_bind,run_program,Result.andThen_ok,hE,Sem.run_pure]
 have he:vs[a.toNat]? =some v:=by rw [qau h1,h2]
 simp [execOp,hx,hy,Instr.index,asIntOf,underlying,hT,h0,h3,run_typeInfo hi,part,xJ,he]
end
end Go.Vs
namespace Go.Vs
open Go Go.ChangeShapes Go.WideShapes Go.ChangeAt Go.RowKit
theorem TG: ∀b, ¬dv [] b:=λ_ h=>h
theorem Jy{α:Type}[Rp α]{el:Nat}{v:Value}{xs:List α}{L:List Ch}(h: ∀b, ¬dv L b): ∀b, ¬dv (Ch.ro el v xs::L) b:=λb hb=>hb.elim (λh=>h) (h b)
theorem AG{α:Type}[Rp α]{el:Nat}{v:Value}{xs:List α}{L:List Ch}{σ:St}(h:RS el σ v xs)(k:gI σ L):gI σ (Ch.ro el v xs::L):=⟨h,k⟩
theorem tT{α:Type}[Rp α]{el:Nat}{v:Value}{xs:List α}{L:List Ch}(k:apart L):apart (Ch.ro el v xs::L):=⟨λ_ h=>h.elim,k⟩
end Go.Vs
namespace Go.Vs
open Go Go.ChangeShapes Go.WideShapes Go.ChangeAt Go.RowKit
end Go.Vs
namespace Go.Vs
open Go Go.ChangeShapes Go.WideShapes Go.ChangeAt Go.RowKit
end Go.Vs
namespace Go.Vs
open Go Go.ChangeShapes Go.WideShapes Go.ChangeAt Go.RowKit
section
variable{H:Type}{enc:TypeId×Value->H}{P:Program}{w:World}{base:Nat}{spare:Nat->Bool}{held:Bool}
theorem ET{t0 t1 t2 t3 t4:TypeId}{args:Array Value}{ds:List (DataW H)}{ps:List MemPlace}(h:DataW.TrodAll enc P w base spare held [t0,t1,t2,t3,t4] args.toList ds ps):
  ∃v0 v1 v2 v3 v4 d0 d1 d2 d3 d4 p0 p1 p2 p3 p4,args= #[v0,v1,v2,v3,v4]/\ds=[d0,d1,d2,d3,d4]/\ps=p0++p1++p2++p3++p4/\DataW.Trod enc P w base spare held t0 v0 d0 p0/\DataW.Trod enc P w base spare held t1 v1 d1 p1/\DataW.Trod enc P w base spare held t2 v2 d2 p2/\DataW.Trod enc P w base spare held t3 v3 d3 p3/\DataW.Trod enc P w base spare held t4 v4 d4 p4:=by
 obtain ⟨v0,vs,d0,es,p0,q,ha,rfl,rfl,h0,hr⟩:=trodAll_cons h;obtain ⟨v1,v2,v3,v4,d1,d2,d3,d4,p1,p2,p3,p4,e,rfl,rfl,h1,h2,h3,h4⟩:=trodAll_four (args:=vs.toArray) (by simpa using hr);refine ⟨v0,v1,v2,v3,v4,d0,d1,d2,d3,d4,p0,p1,p2,p3,p4, ?_,rfl,by simp,h0,h1,h2,h3,h4⟩;have e':vs=[v1,v2,v3,v4]:=by simpa using congrArg Array.toList e
 subst e';cases args;simp_all
theorem G3{t0 t1 t2 t3 t4:TypeId}{v0 v1 v2 v3 v4:Value}{d0 d1 d2 d3 d4:DataW H}{p0 p1 p2 p3 p4:List MemPlace}(h0:DataW.Trod enc P w base spare held t0 v0 d0 p0)(h1:DataW.Trod enc P w base spare held t1 v1 d1 p1)
  (h2:DataW.Trod enc P w base spare held t2 v2 d2 p2) (h3:DataW.Trod enc P w base spare held t3 v3 d3 p3) (h4:DataW.Trod enc P w base spare held t4 v4 d4 p4):DataW.TrodAll enc P w base spare held [t0,t1,t2,t3,t4] [v0,v1,v2,v3,v4] [d0,d1,d2,d3,d4] (p0++(p1++(p2++(p3++p4)))):=
 ⟨p0,p1++(p2++(p3++p4)),h0,trodAll_mk4 h1 h2 h3 h4,rfl⟩
end
end Go.Vs
