/- What a function of the program does to its memory, step by step. -/
import Derived.Test.YtbpbncjammigdaaGreatAl
import Derived.Test.YtbpbncjammigdaaGreatEng1
import Derived.RangeFuncLeaves
import Derived.RangeFuncSeq
import Derived.TacticsIn
import Derived.Sort.LoopGhostIn
import Derived.KernelRfl
import Derived.LaidEql
import Derived.ProofKit
import Derived.SizedLaws
set_option linter.unusedVariables false
set_option linter.unusedSimpArgs false
namespace Go.Vs
open Go
def abv(x:Operand)(p:Nat->Bool):Bool:=match x with
 | .tmp t=>p t
 | _=>true
def Qq(o:Op):Bool:=match o with
 | .select _ _=>false
 | _=>true
def sqB(ops:Array Oper)(n:Nat):Bool:=(List.range n).all λi=>match ops[i]? with
 | some o=>Qq o.op&&(o.op.operands.toList.all λx=>abv x λt=>xd ops n t || (List.range i).any λj=>waits o j&&(dx ops j==some t))&&(match o.guard with | none=>true | some (j,_)=>waits o j&&Nat.blt j i)
 | none=>false
def zN(P:Program)(ops:Array Oper)(H:Array Obj)(N:Nat)(K:(Nat->Value)->Prop):List Oper->(Nat->Value)->Prop
 | [],ρ=>K ρ
 | o::r,ρ=> ∃v d,o.dst=some d/\((Region.wanted o (yv ops N ρ)=true/\dX P H N ρ o v)\/(Region.wanted o (yv ops N ρ)=false/\v=undef))/\zN P ops H N K r (upd ρ d v)
def env:List Oper->List Value->(Nat->Value)->(Nat->Value)
 | o::r,v::vs,ρ=>env r vs (upd ρ (o.dst.getD 0) v)
 | _,_,ρ=>ρ
section
variable{P:Program}{ops:Array Oper}{H:Array Obj}{N:Nat}{K:(Nat->Value)->Prop}{Q:Exit->Act->World->Prop}
def YD(P:Program)(ops:Array Oper)(H:Array Obj)(N:Nat)(o:Oper)(ρ:Nat->Value)(v:Value):Prop:=
 ∃d,o.dst=some d/\((Region.wanted o (yv ops N ρ)=true/\dX P H N ρ o v)\/(Region.wanted o (yv ops N ρ)=false/\v=undef))
theorem Hg: ∀(l:List Oper) (ρ:Nat->Value),zN P ops H N K l ρ-> ∃vs:List Value,vs.length=l.length/\K (env l vs ρ)/\ ∀i o,l[i]? =some o->YD P ops H N o (env (l.take i) (vs.take i) ρ) (vs.getD i undef)
 | [],ρ,h=>⟨[],rfl,h,λi o ho=>by simp at ho⟩
 | o::r,ρ,⟨v,d,hd,hv,h⟩=>by
  obtain ⟨vs,h1,h2,h3⟩:=Hg r (upd ρ d v) h;refine ⟨v::vs,by simp [h1], ?_,λi o' ho=> ?_⟩
  ·simp only [env,hd,qc7];exact h2
  ·cases i with
   | zero=>
    simp only [qbm,qae] at ho;subst ho;exact ⟨d,hd,by simpa [env] using hv⟩
   | succ i=>
    have:=h3 i o' (by simpa using ho);simpa [env,hd] using this
theorem E0{t:Nat}: ∀(l:List Oper) (vs:List Value) (ρ:Nat->Value),(∀o∈l, ∀d,o.dst=some d->d≠t)->(∀o∈l,o.dst.isSome=true)->env l vs ρ t=ρ t
 | [],vs,ρ,_,_=>by cases vs <;> rfl
 | o::r,[],ρ,_,_=>rfl
 | o::r,v::vs,ρ,h,hs=>by
  rw [env,E0 r vs _ (λo' GQ=>h o' (by simp [GQ])) (λo' GQ=>hs o' (by simp [GQ]))];cases hd:o.dst with
  | none=>have:=hs o (by simp);rw [hd] at this;cases this
  | some d=>
   have:t≠d:=λe=>h o (by simp) d hd e.symm;show (bif Nat.beq t d then v else ρ t)=ρ t;rw [sV this];rfl
theorem Qr{d j:Nat}: ∀(l:List Oper) (vs:List Value) (ρ:Nat->Value),vs.length=l.length->(∀o∈l,o.dst.isSome=true)->(∃o,l[j]? =some o/\o.dst=some d)->(∀k o,j<k->l[k]? =some o->o.dst≠some d)->env l vs ρ d=vs.getD j undef
 | [],vs,ρ,_,_,⟨o,ho,_⟩,_=>by simp at ho
 | o::r,[],ρ,hl,_,_,_=>by simp at hl
 | o::r,v::vs,ρ,hl,hs,⟨o',GQ,IJ⟩,hk=>by
  rw [env];cases j with
  | zero=>
   simp only [qbm,qae] at GQ;subst GQ;rw [IJ,qc7,E0 r vs _ (λo2 YE d2 hd2 e=>by
    obtain ⟨k,yn,he⟩:=qal.1 YE;subst e;exact hk (k+1) o2 (by omega) (by simp [yn,he]) hd2) (λo2 YE=>hs o2 (by simp [YE]))]
   show (bif Nat.beq d d then v else ρ d)=_;rw [Lm];rfl
  | succ j=>
   rw [Qr r vs _ (by simpa using hl) (λo2 YE=>hs o2 (by simp [YE])) ⟨o',by simpa using GQ,IJ⟩ (λk o2 hjk YE=>hk (k+1) o2 (by omega) (by simpa using YE))];simp
theorem JP{ρ qU:Nat->Value}{x:Operand}(h: ∀t,x= .tmp t->look N ρ t=look N qU t):ev N ρ x=ev N qU x:=by
 cases x with
 | tmp t=>exact h t rfl
 | const v=>rfl
 | global g=>rfl
 | func f=>rfl
theorem JQ{ρ qU:Nat->Value}{o:Oper}{v:Value}(hs:Qq o.op=true)(h: ∀x∈o.op.operands,ev N ρ x=ev N qU x)(hr:dX P H N qU o v):dX P H N ρ o v:=by
 intro w hw;rw [execOp_congr o (λcs b e=>by rw [e] at hs;cases hs) h];exact hr w hw
theorem xf{ρ qU:Nat->Value}{o:Oper}(h: ∀j b,o.guard=some (j,b)->yv ops N ρ j=yv ops N qU j):Region.wanted o (yv ops N ρ)=Region.wanted o (yv ops N qU):=by
 unfold Region.wanted;cases hg:o.guard with
 | none=>rfl
 | some p=>obtain ⟨j,b⟩:=p;simp only [h j b hg]
theorem LG{id:Nat}{l:List Oper}{σ:St}{j4:Nat->Value}(n:Nat)(hm:P.follows .mixedOrders=true)(hB:Yw N l.toArray n [] [[]] (List.replicate n [(0,0)]) 0=true)(hS:sqB l.toArray n=true)
  (JI:zN P l.toArray σ.w.heap N (λρ=> ∀σ':St,Md (dD []) σ σ'->wpList P l.toArray Q (l.drop n) (fr N ρ) σ'.w) (l.take n) j4):
  (Code.region id l.toArray true).wp P Q (fr N j4) σ.w:=by
 obtain ⟨vs,hvl,hK,fb⟩:=Hg _ _ JI;have hB':=hB;simp only [Yw,qa4] at hB';obtain ⟨⟨⟨⟨⟨⟨⟨hn,hD⟩,_⟩,_⟩,_⟩,_⟩,_⟩,_⟩:=hB';have XM:n<=l.length:=by simpa using qa5 hn
 rw [qaq,Nat.min_eq_left XM] at hvl;have AY: ∀i,i<n->(l.take n)[i]? =l.toArray[i]? :=λi hi=>by simp [qc4,hi]
 have hex: ∀i,i<n-> ∃o,l.toArray[i]? =some o:=λi hi=>by
  have:i<l.length:=by omega
  exact ⟨l[i],by simp [this]⟩
 have Nd: ∀i,i<n-> ∃d,dx l.toArray i=some d/\d<N/\ ∀j,j<n->j≠i->dx l.toArray j≠some d:=by
  intro i hi;obtain ⟨o,ho⟩:=hex i hi;obtain ⟨d,hd,_⟩:=fb i o (by rw [AY i hi];exact ho);have Qc:dx l.toArray i=some d:=by unfold dx;rw [ho];exact hd
  have:=qab.1 hD i (qas.2 hi);simp only [qa4,Qc] at this;obtain ⟨⟨h1,_⟩,h3⟩:=this;refine ⟨d,Qc, ?_,λj hj j0 e=> ?_⟩
  ·exact qa7 λhc=>by rw [vw hc] at h1;cases h1
  ·have:=qab.1 h3 j (qas.2 hj);rw [sV (qbo j0)] at this;simp [e] at this
 have LC: ∀i,i<=n-> ∀o∈l.take i,o.dst.isSome=true:=by
  intro i hi o ho;obtain ⟨k,hk,he⟩:=qal.1 ho;rw [qaq] at hk;obtain ⟨d,hd,_⟩:=Nd k (by omega);rw [qc9] at he;have JJ:k<l.length:=by omega
  unfold dx at hd;rw [show l.toArray[k]? =some o by simp [JJ,he]] at hd;simp only [qa0] at hd;rw [hd];rfl
 have htt: ∀i,i<=n->(l.take n).take i=l.take i:=λi hi=>by rw [List.take_take,Nat.min_eq_left hi]
 have LI: ∀i t,i<=n->(∀k,k<n->dx l.toArray k≠some t)->env (l.take i) (vs.take i) j4 t=j4 t:=by
  intro i t hi ht;refine E0 _ _ _ (λo ho d hd e=> ?_) (LC i hi);obtain ⟨k,hk,he⟩:=qal.1 ho;rw [qaq] at hk;rw [qc9] at he;have JJ:k<l.length:=by omega
  refine ht k (by omega) ?_;unfold dx;rw [show l.toArray[k]? =some o by simp [JJ,he]];subst e;exact hd
 have Qs: ∀i j d,i<=n->j<i->dx l.toArray j=some d->env (l.take i) (vs.take i) j4 d=vs.getD j undef:=by
  intro i j d hi hj hd;have hjl:j<l.length:=by omega
  rw [Qr (j:=j) _ _ _ (by simp;omega) (LC i hi) ?_ ?_]
  ·simp [List.getD,qc4,hj]
  ·unfold dx at hd;rw [show l.toArray[j]? =some l[j] by simp [hjl]] at hd;exact ⟨l[j],by simp [qc4,hj,hjl],hd⟩
  ·intro k o hjk ho hdo;have JJ:k<i:=by
    refine qa7 λhc=> ?_;rw [qc4,if_neg hc] at ho;cases ho
   rw [qc4,if_pos JJ] at ho;obtain ⟨d',h1,_,h3⟩:=Nd j (by omega);have:d'=d:=by rw [hd] at h1;exact (qaf h1).symm
   subst this;refine h3 k (by omega) (by omega) ?_;unfold dx;rw [show l.toArray[k]? =some o by simpa using ho];exact hdo
 refine abo (Nm:=Unit) (σ:=σ) n [] [[]] (List.replicate n [(0,0)]) 0 [λ_ cD=>cD.w.heap=σ.w.heap/\Md (dD []) σ cD] (vs.map λv _=>v) () hm hB (λpB hh m=>⟨hh,m⟩) ?_ ?_
 ·
  have main: ∀i o,i<n->l.toArray[i]? =some o-> ∀k,Ob (Nm:=Unit) P l.toArray N n j4 (Jl [λ_ cD=>cD.w.heap=σ.w.heap/\Md (dD []) σ cD]) (Vl (vs.map λv _=>v)) i o k k:=by
   intro i o hi ho k nm ρ cD hJ bh aP;have hS1:=qab.1 hS i (qas.2 hi);rw [ho] at hS1;simp only [qa4] at hS1;obtain ⟨⟨aeY,YF⟩,YG⟩:=hS1;have hV: ∀j,j<n->Vl (vs.map λv (_:Unit)=>v) j nm=vs.getD j undef:=by
    intro j hj;unfold Vl;have:j<vs.length:=by omega
    simp [List.getD,this]
   have WW: ∀j d,waits o j=true->j<i->dx l.toArray j=some d->look N ρ d=look N (env (l.take i) (vs.take i) j4) d:=by
    intro j d hw hj hd;obtain ⟨d',h1,hdN,_⟩:=Nd j (by omega);have:d'=d:=by rw [hd] at h1;exact (qaf h1).symm
    subst this;rw [aP j hw (Dq (by omega)) d' hd,hV j (by omega),uN _ hdN,Qs i j d' (by omega) hj hd]
   have sU: ∀x∈o.op.operands,ev N ρ x=ev N (env (l.take i) (vs.take i) j4) x:=by
    intro x hx;refine JP λt ht=> ?_;subst ht;have:=qab.1 YF (.tmp t) (by simpa using hx);simp only [abv,qbz] at this;rcases this with h | h
    ·unfold look;rw [bh t h,LI i t (by omega) (EW h)]
    ·obtain ⟨j,hj,hjw⟩:=List.any_eq_true.1 h;simp only [qa4] at hjw;exact WW j t hjw.1 (qas.1 hj) (by simpa using hjw.2)
   have hyv: ∀j b,o.guard=some (j,b)->yv l.toArray N ρ j=yv l.toArray N (env (l.take i) (vs.take i) j4) j:=by
    intro j b hg;rw [hg] at YG;simp only [qa4] at YG;have hji:j<i:=qa7 λhc=>by rw [vw hc] at YG;cases YG.2
    obtain ⟨d,h1,_,_⟩:=Nd j (by omega);have hl:=WW j d YG.1 hji h1;unfold dx at h1;unfold yv;simp only [h1,hl]
   obtain ⟨d,hd,hor⟩:=fb i o (by rw [AY i hi];exact ho);rw [htt i (by omega)] at hor;have hJ2:cD.w.heap=σ.w.heap:=by
    unfold Jl at hJ;cases k with
    | zero=>exact hJ.1
    | succ k=>simp at hJ
   rcases hor with ⟨hw,hr⟩ | ⟨hw,hv⟩
   ·refine yA (v:=vs.getD i undef) ?_ ?_ (hV i hi) hJ
    ·rw [xf hyv];exact hw
    ·rw [hJ2];exact JQ aeY sU hr
   ·refine EX ?_ (by rw [hV i hi];exact hv) hJ;rw [xf hyv];exact hw
  have build: ∀m k:Nat,k+m=n-> ∀r:List Oper,r=l.drop k->py (λi o=>EV (Ob (Nm:=Unit) P l.toArray N n j4 (Jl [λ_ cD=>cD.w.heap=σ.w.heap/\Md (dD []) σ cD]) (Vl (vs.map λv _=>v)) i o) (SU (List.replicate n [(0,0)]) i)) m k r:=by
   intro m
   induction m with
   | zero=>intro k _ r _;exact all_nil
   | succ m ih=>
    intro k hk r hr;have JJ:k<l.length:=by omega
    rw [qb9 JJ] at hr;subst hr;have SV:SU (List.replicate n [(0,0)]) k=[(0,0)]:=by
     unfold SU;have:k<n:=by omega
     simp [List.getD,this]
    refine all_cons ?_ (ih (k+1) (by omega) _ rfl);simp only [SV];exact ⟨main k l[k] (by omega) (by simp [JJ]) 0,trivial⟩
  exact build n 0 (by omega) l (by simp)
 ·intro nm ρ σ' hJ bh fg;have hJ2:Md (dD []) σ σ':=hJ.2;have qY:fr N ρ=fr N (env (l.take n) vs j4):=by
   refine PT λt ht=> ?_;have hvt:vs.take n=vs:=qbv (by omega);by_cases Qu:xd l.toArray n t=true
   ·have:=LI n t (qa3 _) (EW Qu);rw [hvt] at this;rw [bh t Qu,this]
   ·have: ∃i,i<n/\dx l.toArray i=some t:=by
     refine qa7 λhc=>Qu ?_;unfold xd;rw [qab];intro i hi;have:dx l.toArray i≠some t:=λe=>hc ⟨i,qas.1 hi,e⟩;simpa using this
    obtain ⟨i,hi,hd⟩:=this;have h1:=fg i (Dq hi) t hd;rw [uN _ ht] at h1;have h2:=Qs n i t (qa3 _) hi hd;rw [hvt] at h2;rw [h1,h2];unfold Vl;have:i<vs.length:=by omega
    simp [List.getD,this]
  rw [qY];exact hK σ' hJ2
variable{ρ:Nat->Value}{v:Value}{r:List Oper}{d:Nat}{op:Op}{ty:TypeId}{pos:String}{af:Array Edge}{gd:Option (Nat×Bool)}
theorem sq(hr:dX P H N ρ ⟨some d,op,ty,pos,af,none⟩ v)(k:zN P ops H N K r (upd ρ d v)):zN P ops H N K (⟨some d,op,ty,pos,af,none⟩::r) ρ:=⟨v,d,rfl, .inl ⟨aQ _ rfl _,hr⟩,k⟩
theorem mK{j:Nat}{b:Bool}(hy:yv ops N ρ j=some b)(hr:dX P H N ρ ⟨some d,op,ty,pos,af,some (j,b)⟩ v)(k:zN P ops H N K r (upd ρ d v)):zN P ops H N K (⟨some d,op,ty,pos,af,some (j,b)⟩::r) ρ:=⟨v,d,rfl, .inl ⟨aU rfl hy,hr⟩,k⟩
theorem dL{j:Nat}{b:Bool}(hy:yv ops N ρ j=some (!b))(k:zN P ops H N K r (upd ρ d undef)):zN P ops H N K (⟨some d,op,ty,pos,af,some (j,b)⟩::r) ρ:=⟨undef,d,rfl, .inr ⟨uL rfl hy,rfl⟩,k⟩
theorem kt(h:K ρ):zN P ops H N K [] ρ:=h
end
end Go.Vs
namespace Go.Vs
open Go
abbrev Fz(r:Option Nat):Fence:={ Fence.wide with round:=r }
section
variable{P:Program}{ops:Array Oper}{Q:Exit->Act->World->Prop}{n d:Nat}{ρ:Nat->Value}{σ ar:St}{w:World}{v:Value}{rest:List Oper}{r:Option Nat}
variable{op:Op}{ty:TypeId}{pos:String}{af:Array Edge}{gd:Option (Nat×Bool)}
theorem JR(IM: ∀c,op≠ .defer c)(hr:dX P w.heap n ρ ⟨some d,op,ty,pos,af,none⟩ v)(k:wpListIn (Fz r) 0 P ops Q rest (fr n (upd ρ d v)) w):
  wpListIn (Fz r) 0 P ops Q (⟨some d,op,ty,pos,af,none⟩::rest) (fr n ρ) w:=by
 unfold wpListIn;rw [if_pos (by rw [eM];exact aQ _ rfl _)];refine ⟨λ_ _=>trivial, ?_⟩;rw [Oper.semAt_eq _ _ _ IM,aO,hr w rfl];simp only [Oper.uponIn_value,cV];exact k
theorem Bi{Rz:Value->St->Prop}(IM: ∀c,op≠ .defer c)(he:Ex P σ n ρ ⟨some d,op,ty,pos,af,none⟩ Rz)
  (k: ∀v (σ':St),Rz v σ'->wpListIn (Fz r) 0 P ops Q rest (fr n (upd ρ d v)) σ'.w):wpListIn (Fz r) 0 P ops Q (⟨some d,op,ty,pos,af,none⟩::rest) (fr n ρ) σ.w:=by
 obtain ⟨v,σ',h1,h2⟩:=he;unfold wpListIn;rw [if_pos (by rw [eM];exact aQ _ rfl _)];refine ⟨λ_ _=>trivial, ?_⟩;have O1:(execOp (ev n ρ) ⟨some d,op,ty,pos,af,none⟩).run P σ.w= .ok (.value v) σ'.w:=h1;rw [Oper.semAt_eq _ _ _ IM,aO,O1];simp only [Oper.uponIn_value,cV];exact k v σ' h2
theorem E1{Rs:St->Prop}(IM: ∀c,op≠ .defer c)(he:ExS P σ n ρ ⟨none,op,ty,pos,af,none⟩ Rs)
  (k: ∀(σ':St),Rs σ'->wpListIn (Fz r) 0 P ops Q rest (fr n ρ) σ'.w):wpListIn (Fz r) 0 P ops Q (⟨none,op,ty,pos,af,none⟩::rest) (fr n ρ) σ.w:=by
 obtain ⟨σ',h1,h2⟩:=he;unfold wpListIn;rw [if_pos (by rw [eM];exact aQ _ rfl _)];refine ⟨λ_ _=>trivial, ?_⟩;have O1:(execOp (ev n ρ) ⟨none,op,ty,pos,af,none⟩).run P σ.w= .ok .skip σ'.w:=h1;rw [Oper.semAt_eq _ _ _ IM,aO,O1];simp only [Oper.uponIn_skip,kq];exact k σ' h2
theorem Ni{xs:Array Operand}{Ts:Array TypeId}{y:Operand}{l:Nat}{args:List Value}{R:Ending->World->Prop}(hf:ev n ρ y= .func (.yield l) #[] #[])(hx:xs.toList.map (ev n ρ)=args)(hy:YieldAt Fence.wide 0 P l args.toArray w R)
  (k: ∀e w',R e w'-> ∃v,e= .returned v/\wpListIn (Fz r) 0 P ops Q rest (fr n (upd ρ d v)) w'):
  wpListIn (Fz r) 0 P ops Q (⟨some d, .call ⟨.value y,xs,Ts⟩,ty,pos,af,none⟩::rest) (fr n ρ) w:=by
 obtain ⟨fn,tmps,assign,body,h1,h2⟩:=hy;unfold wpListIn;rw [if_pos (by rw [eM];exact aQ _ rfl _)];refine ⟨λ_ _=>trivial, ?_⟩;rw [Oper.semAt_eq _ _ _ (λc h=>by cases h),aO];have wV:xs.map (ev n ρ)=args.toArray:=by rw [←hx, ←Array.toList_map]
 have h3:(execOp (ev n ρ) ⟨some d, .call ⟨.value y,xs,Ts⟩,ty,pos,af,none⟩).run P w= .ok (.round l fn tmps assign body) w:=by
  simp only [execOp,resolve,hf,Deferred.ofValue,Sem.run_bind,Sem.run_pure,Result.andThen_ok,invoke,wV];simp [h1]
 rw [h3,Oper.uponIn_round];refine ⟨λh=>(by cases h), ?_⟩;have II:RoundIn (Fz r) 0 P l fn tmps assign body w R:=h2;refine II.mono ?_;intro e w' hR;obtain ⟨v,rfl,hk⟩:=k e w' hR;simp only [cV];exact hk
theorem E2(h:Q .normal (fr n ρ) w):wpListIn (Fz r) 0 P ops Q [] (fr n ρ) w:=h
theorem Uo{id:Nat}{l:List Oper}(h:wpListIn (Fz r) 0 P l.toArray Q l (fr n ρ) w):(Code.region id l.toArray false).wpIn (Fz r) 0 P Q (fr n ρ) w:=wpIn_region_lit h
theorem Hh{c:Operand}{x y:Code}(b:Bool)(hc:ev n ρ c= .bool b)(ht:b=true->x.wpIn (Fz r) 0 P Q (fr n ρ) w)(hf:b=false->y.wpIn (Fz r) 0 P Q (fr n ρ) w):
 (Code.cond c x y).wpIn (Fz r) 0 P Q (fr n ρ) w:=wpIn_cond_split (by rw [aO];exact hc) ht hf
end
def Ch.lp(l:Nat)(r:Loop):Ch where
 dup:=false
 fp i:=i=l
 as σ:=σ.w.heap[l]? =some (.loop r)/\σ.fV l=0
 G5 h:=by cases h
 bG h i e:=by subst e;exact lt_of_block h.1
 fb m hd h:=by
  have hb:=lt_of_block h.1;have hS:=hd l rfl;exact ⟨(m.block l hb hS).trans h.1,(m.fV l hb hS).trans h.2⟩
def Ch.df(l:Nat):Ch where
 dup:=false
 fp i:=i=l
 as σ:=σ.w.heap[l]? =some (.deferred (some []))/\σ.fV l=0
 G5 h:=by cases h
 bG h i e:=by subst e;exact lt_of_block h.1
 fb m hd h:=by
  have hb:=lt_of_block h.1;have hS:=hd l rfl;exact ⟨(m.block l hb hS).trans h.1,(m.fV l hb hS).trans h.2⟩
section
variable{P:Program}{S0:BS}{ar σ:St}{L:List Ch}
theorem Hp.abw(H:Hp S0 ar σ L)(r:Loop):Hp S0 ar (σ.new (.loop r) 0) (Ch.lp σ.size r::L):=
 Hp.ER (A':=[Ch.lp σ.size r]) H (Hp.fresh (St.lQ _ _ _) _ ⟨St.sh _ _ _,St.si _ _ _⟩ (λb hb=>qav (Eq.symm hb)))
theorem Hp.abx(H:Hp S0 ar σ L):Hp S0 ar (σ.new (.deferred (some [])) 0) (Ch.df σ.size::L):=
 Hp.ER (A':=[Ch.df σ.size]) H (Hp.fresh (St.lQ _ _ _) _ ⟨St.sh _ _ _,St.si _ _ _⟩ (λb hb=>qav (Eq.symm hb)))
theorem Hp.Qv{l:Nat}{r:Loop}(H:Hp S0 ar σ (Ch.lp l r::L))(r':Loop):Hp S0 ar (σ.put l (.loop r')) (Ch.lp l r'::L):=by
 have h:=H.all.1;refine Hp.Bd (A':=[Ch.lp l r']) H (Hp.one ((St.wZ h.2).md.mono λi hi=> .inl ?_) ⟨World.ue _ (lt_of_block h.1),h.2⟩ (λb hb _=> .inl hb));exact (qaf hi).symm
theorem Hp.aby{l:Nat}(H:Hp S0 ar σ (Ch.df l::L))(o:Obj):Hp S0 ar (σ.put l o) L:=by
 have h:=H.all.1;refine Hp.Bd (A':=[]) H ⟨(St.wZ h.2).md.mono λi hi=> .inl ?_,trivial,trivial,λb hb=>hb.elim⟩;exact (qaf hi).symm
theorem Hp.drop: ∀(R:List Ch) {L:List Ch},Hp S0 ar σ (R++L)->Hp S0 ar σ L
 | [],_,H=>H
 | _::R,_,H=>Hp.drop R H.tail
theorem Nj{g:Operand}{ps:Array Tmp}{assign body:Code}{Q:Exit->Act->World->Prop}{a:Act}{gf:Nat}{lb:Array Value}{N:Nat}{Qw:Nat->Array Value}
  (hg:a.eval g= .func (.func gf) #[] lb) (eg: ∀args w,(callFunc gf args).run P w= .ok (.enter gf args) w) (hps: ∀i,i<N->(Qw i).size=ps.size)
  (K:Nat->List Ch->Prop) (hK:K 0 L) (H:Hp S0 ar σ L)
  (JI: ∀(l:Nat) (J:Nat->St->Prop),(∀{i σ σ'},J i σ->Md (λ_=>False) σ σ'->J i σ')->(∀{i σ},J i σ-> ∃L R,K i L/\Hp S0 ar σ (R++L))->
   (∀i,i<N-> ∀σ,J i σ->YieldAt Fence.wide 0 P l (Qw i) σ.w λe W'=>e= .returned (.bool true)/\ ∃σ',W'=σ'.w/\J (i+1) σ')->
   ∀σ,J 0 σ->CallsIn Fence.wide 0 P gf (#[.func (.yield l) #[] #[]]++lb) σ.w λe W'=>(∃v,e= .returned v)/\ ∃σ',W'=σ'.w/\J N σ')
  (abz: ∀(l D i:Nat) (r r':Loop),i<N-> ∀σ L,K i L->Hp S0 ar σ (Ch.lp l r::Ch.df D::L)->
   assign.wpIn (Fz (some l)) 0 P (Exit.then (λaeZ w₁=> ∃pB L1,w₁=pB.w/\Hp S0 ar pB (Ch.lp l r::Ch.df D::L1)/\ ∀il,Hp S0 ar il (Ch.lp l r'::Ch.df D::L1)->
    body.wpIn (Fz (some l)) 0 P (λe _ w=>e= .normal/\ ∃jk L3,w=jk.w/\K (i+1) L3/\Hp S0 ar jk (Ch.lp l r'::Ch.df D::L3)) aeZ il.w) (λ_ _ _=>False))
    {tmps:=(ps.zip (Qw i)).foldl (λt (p,v)=>t.setIfInBounds p v) a.tmps,defers:=[] } σ.w)
  (abA: ∀(D:Nat) σ' L',K N L'->Hp S0 ar σ' (Ch.df D::L')->Q .normal { a with defers:={ target:= .collected D,args:= #[] }::a.defers } σ'.w):
  (Code.rangeFunc g ps assign body).wpIn (Fz none) 0 P Q a σ.w:=by
 refine wpIn_rangeFunc ?_;intro fn yc;obtain ⟨rec,JS⟩: ∃rec:LoopState->Option Code->Loop,rec=λst pe=>{ state:=st,pending:=pe,fn,tmps:=a.tmps,params:=ps,assign,body,defers:=σ.w.heap.size }:=⟨_,rfl⟩;have H1:=(H.abx).abw (rec .ready none);generalize XW:(σ.new (.deferred (some [])) 0).new (.loop (rec .ready none)) 0=pB at H1;have hs:(σ.new (.deferred (some [])) 0).size=σ.w.heap.size+1:=St.G0 _ _ _;rw [hs] at H1;have mo:σ.size=σ.w.heap.size:=rfl;rw [mo] at H1;generalize hl:σ.w.heap.size+1=l at*;generalize hD:σ.w.heap.size=D at*;refine ⟨l,[{ target:= .collected D,args:= #[] }],pB.w,{ target:= .fn (.func gf) lb,args:= #[.func (.yield l) #[] #[]] },pB.w,gf, #[.func (.yield l) #[] #[]]++lb,pB.w, ?_, ?_, ?_, ?_,λh=>(by cases h), ?_⟩
 ·have:=run_enterLoop_outer (P:=P) (w:=σ.w) fn a.tmps ps assign body;rw [this, ←XW,JS,hD,hl]
  rfl
 ·simp only [resolve,hg];simp [go_sem]
 ·intro f' hf';trivial
 ·simp [invoke,go_sem,eg]
 ·refine (JI l (λi σ=> ∃L,K i L/\Hp S0 ar σ (Ch.lp l (rec .ready none)::Ch.df D::L)) (λ⟨L,h1,h2⟩ m=>⟨L,h1,h2.grow m⟩) (λ⟨L,h1,h2⟩=>⟨L,[_,_],h1,h2⟩) ?_ pB ⟨L,hK,H1⟩).mono ?_
  ·rintro i hi il ⟨L2,P2,H2⟩;have cU:=H2.all.1.1;have hy:=run_yield (P:=P) (args:=Qw i) cU (by rw [JS];exact hps i hi);rw [JS] at hy;refine ⟨fn,_,assign,body,hy,roundIn_of_wpIn yc ?_⟩;refine wpIn_mono (abz l D i (rec .ready none) { rec .ready none with state:= .busy } hi il L2 P2 H2) ?_;intro e a1 w1 hq;cases e with
   | normal=>
    obtain ⟨jk,L3,rfl,H3,hb⟩:=hq;refine ⟨_,run_beginRound H3.all.1.1 (by rw [JS]), ?_⟩;have H4:=H3.Qv { rec .ready none with state:= .busy };refine wpIn_mono (hb _ H4) ?_;rintro e a3 w3 ⟨rfl,CH,L5,rfl,hK5,H5⟩;refine ⟨_,_,run_endRound none H5.all.1.1,rfl,CH.put l (.loop (rec .ready none)), ?_,L5,hK5,H5.Qv _⟩;rw [JS];rfl
   | ret=>exact hq.elim
   | exit id=>exact hq.elim
   | goto t=>exact hq.elim
   | panic ch=>exact hq.elim
   | outgrown=>exact hq.elim
  ·rintro e W2 ⟨⟨v,rfl⟩,il,rfl,L2,P2,H2⟩;refine ⟨none,_, ?_,abA D _ L2 P2 (H2.Qv { rec .ready none with state:= .exhausted }).tail⟩;have:=run_endLoop (P:=P) H2.all.1.1 (by rw [JS];simp);rw [JS] at this ⊢;exact this
end
theorem Up{α:Type}{xs:List α}{i:Nat}(h:i<xs.length):bz xs (i:Int)=some xs[i]:=by
 unfold bz;rw [if_pos (by omega)];simp [h]
noncomputable def M.yr{α:Type}(xs:List α):Option (List α):=if xs.length<=2147483648 then some xs else none
theorem Nk{α:Type}{xs r:List α}(h:M.yr xs=some r):xs.length<=2147483648/\r=xs:=by
 unfold M.yr at h;split at h
 ·exact ⟨by assumption,(qaf h).symm⟩
 ·cases h
theorem Nl{α:Type}{xs:List α}{i:Nat}(h:i<xs.length)(hn:xs.length<=2147483648):oO (xs.take i) [xs[i]]=some (xs.take (i+1)):=by
 unfold oO;rw [if_pos (by simp;omega),qb0 h]
section
variable{P:Program}{ops:Array Oper}{Q:Exit->Act->World->Prop}{n d:Nat}{ρ:Nat->Value}{σ ar:St}{w:World}{v:Value}{rest:List Oper}{r:Option Nat}{S0:BS}{L:List Ch}
variable{op:Op}{ty:TypeId}{pos:String}{af:Array Edge}
def Hi(n:Nat)(ds:List Deferred)(ρ:Nat->Value):Act:={ fr n ρ with defers:=ds }
theorem xg{ds:List Deferred}:(Hi n ds ρ).eval=(fr n ρ).eval:=by funext x;cases x <;> rfl
theorem E3{ds:List Deferred}:(Hi n ds ρ).put (some d) v=Hi n ds (upd ρ d v):=by
 have:=cV n ρ d v;unfold Hi;simp only [Act.put] at this ⊢;rw [←this]
theorem stD{ds:List Deferred}(IM: ∀c,op≠ .defer c)(hr:dX P w.heap n ρ ⟨some d,op,ty,pos,af,none⟩ v)(k:wpListIn (Fz r) 0 P ops Q rest (Hi n ds (upd ρ d v)) w):
  wpListIn (Fz r) 0 P ops Q (⟨some d,op,ty,pos,af,none⟩::rest) (Hi n ds ρ) w:=by
 unfold wpListIn;rw [if_pos (aQ _ rfl _)];refine ⟨λ_ _=>trivial, ?_⟩;rw [Oper.semAt_eq _ _ _ IM,xg,aO,hr w rfl];simp only [Oper.uponIn_value,E3];exact k
theorem ae0{ds:List Deferred}(h:Q .normal (Hi n ds ρ) w):wpListIn (Fz r) 0 P ops Q [] (Hi n ds ρ) w:=h
theorem rgD{id:Nat}{l:List Oper}{ds:List Deferred}(h:wpListIn (Fz r) 0 P l.toArray Q l (Hi n ds ρ) w):(Code.region id l.toArray false).wpIn (Fz r) 0 P Q (Hi n ds ρ) w:=wpIn_region_lit h
theorem Qx{p:Nat}:({ tmps:=(Array.zip #[p] #[v]).foldl (λt (p,v)=>t.setIfInBounds p v) (fr n ρ).tmps,defers:=[] }:Act)=fr n (upd ρ p v):=by
 rw [←cV];have:(Array.zip #[p] #[v])= #[(p,v)]:=by simp
 simp [this,Act.put,fr]
theorem abB{f:FuncId}(hf: ∃fn c,P.funcs[f]? =some fn/\(fn.name== "runtime.NumGoroutine")=false/\fn.body=some c)(args:Array Value)(w:World):(callFunc f args).run P w= .ok (.enter f args) w:=by
 obtain ⟨fn,c,h1,h2,h3⟩:=hf;simp only [callFunc,Sem.run_bind,run_program,Result.andThen_ok,h1,h2,h3];simp
theorem Qy{f:FuncId}{fn:Func}{c:Code}{l:List Value}{R:Ending->World->Prop}(hf:P.funcs[f]? =some fn)(hb:fn.body=some c)(hn:fn.ntmps=n)(hl:Nat.ble l.length n=true)
  (h:c.wpIn (Fz none) 0 P (bodyPostM Fence.wide 0 P fn R) (fr n (eN l)) w):CallsIn Fence.wide 0 P f l.toArray w R:=by
 refine callsIn_of_wp_marks hf hb trivial ?_;have:=oN l n (by simpa using hl);simp only [qbk,hn,this];exact h
theorem JU{fn:Func}{R:Ending->World->Prop}(hr:(results fn (fr n ρ).tmps).run P w= .ok v w)(hp:R (.returned v) w):bodyPostM Fence.wide 0 P fn R .normal (fr n ρ) w:=⟨v,hr,hp⟩
theorem Qz{fn:Func}{R:Ending->World->Prop}{D:Nat}(H:Hp S0 ar σ (Ch.df D::L))(hr:(results fn (fr n ρ).tmps).run P (σ.put D (.deferred none)).w= .ok v (σ.put D (.deferred none)).w)(hp:R (.returned v) (σ.put D (.deferred none)).w):
  bodyPostM Fence.wide 0 P fn R .ret (Hi n [{ target:= .collected D,args:= #[] }] ρ) σ.w:=
 ⟨by simp, .inl ⟨D,_,rfl,run_takeDeferred H.all.1.1,v,hr,hp⟩⟩
end
end Go.Vs
namespace Go.Vs
open Go
section
variable{P:Program}{ops:Array Oper}{Q:Exit->Act->World->Prop}{rest:List Oper}{n:Nat}{ρ:Nat->Value}{w:World}{d:Nat}{x:Operand}{ty:TypeId}{pos:String}{af:Array Edge}
theorem sm(v:Value)(h:ev n ρ x=v)(k:wpList P ops Q rest (fr n (upd ρ d v)) w):wpList P ops Q (⟨some d, .move x,ty,pos,af,none⟩::rest) (fr n ρ) w:=st (ai h) k
theorem sa(v:Value)(h:ev n ρ x=v)(k:wpList P ops Q rest (fr n (upd ρ d v)) w):wpList P ops Q (⟨some d, .assign x,ty,pos,af,none⟩::rest) (fr n ρ) w:=st (uM h) k
theorem br{α β:Type}{o:Option α}{f:α->Option β}{r:β}{p:Prop}(k: ∀x,o=some x->f x=some r->p):o.bind f=some r->p:=λh=>let ⟨x,h1,h2⟩:=bind_some h;k x h1 h2
theorem sj{α:Type}{a b:α}(h:some a=some b):a=b:=qaf h
end
end Go.Vs
namespace Go.Vs
open Go
section
variable{P:Program}{ops:Array Oper}{Q:Exit->Act->World->Prop}{rest r:List Oper}{n N d:Nat}{ρ:Nat->Value}{w:World}{H:Array Obj}{K:(Nat->Value)->Prop}{op:Op}{x:Operand}{ty:TypeId}{pos:String}{af:Array Edge}{σ ar:St}{S0:BS}
theorem sv(v:Value)(hr:dX P w.heap n ρ ⟨some d,op,ty,pos,af,none⟩ v)(k:wpList P ops Q rest (fr n (upd ρ d v)) w):wpList P ops Q (⟨some d,op,ty,pos,af,none⟩::rest) (fr n ρ) w:=st hr k
theorem ei(v:Value)(hr:dX P H N ρ ⟨some d,op,ty,pos,af,none⟩ v)(k:zN P ops H N K r (upd ρ d v)):zN P ops H N K (⟨some d,op,ty,pos,af,none⟩::r) ρ:=sq hr k
theorem fq{fn:Func}{post:Value->List Ch->Prop}{L':List Ch}{t:Nat}(v:Value)(h:fn.results= #[.tmp t])(hv:look n ρ t=v)(hp:post v L')(H:Hp S0 ar σ L'):bodyPost P fn (DD post ar S0) .ret (fr n ρ) σ.w:=lP (dp (rs:=[.tmp t]) h (j6 hv gL) rfl) hp H
theorem eo{fn:Func}{post:Value->List Ch->Prop}{L':List Ch}{t:Nat}{v:Value}(h:fn.results= #[.tmp t])(hp:post v L')(H:Hp S0 ar σ L')(hv:look n ρ t=v:=by exact rfl):bodyPost P fn (DD post ar S0) .ret (fr n ρ) σ.w:=fq v h hv hp H
abbrev Jn(S0:BS)(ar:St)(n:Nat)(L:List (Nat×Value))(C:List Ch)(e:Exit)(a:Act)(w:World):Prop:=e= .normal/\ ∃(ρ:Nat->Value) (σ:St),a=fr n (cu ρ L)/\w=σ.w/\Hp S0 ar σ C
theorem aw(v:Value)(k:wpList P ops Q rest (fr n (upd ρ d v)) w)(h:ev n ρ x=v:=by exact rfl):wpList P ops Q (⟨some d, .move x,ty,pos,af,none⟩::rest) (fr n ρ) w:=sm v h k
theorem aN(v:Value)(k:wpList P ops Q rest (fr n (upd ρ d v)) w)(h:ev n ρ x=v:=by exact rfl):wpList P ops Q (⟨some d, .assign x,ty,pos,af,none⟩::rest) (fr n ρ) w:=sa v h k
theorem cO{f:FuncId}{fn:Func}{c:Code}{l:List Value}{pre:List Ch}{post:Nat->Value->List Ch->Prop}(hf:P.funcs[f]? =some fn)
 (h: ∀(S0:BS) (ar:St) (n0:Nat),n0<=ar.size->Hp S0 ar ar pre->c.wp P (bodyPost P fn (DD (post n0) ar S0)) (fr n (eN l)) ar.w)
 (Pm:(fn.name== "runtime.NumGoroutine")=false:=by exact rfl) (hb:fn.body=some c:=by exact rfl) (hn:fn.ntmps=n:=by exact rfl) (hl:Nat.ble l.length n=true:=by exact rfl):bN P f l pre post:=aeO hf Pm hb hn hl h
theorem bD{α β:Type}{o:Option α}{f:α->Option β}{r:β}{p:Prop}(h:o.bind f=some r)(k: ∀x,o=some x->f x=some r->p):p:=br k h
theorem gr{c:Operand}{x y:Code}{α:Type}{b:Bool}{u v z:α}(h:(bif b then u else v)=z)(ht:b=true->u=z->x.wp P Q (fr n ρ) w)(hf:b=false->v=z->y.wp P Q (fr n ρ) w)(hc:ev n ρ c= .bool b:=by exact rfl):
 (Code.cond c x y).wp P Q (fr n ρ) w:=Am b hc (λe=>ht e (WH e h)) (λe=>hf e (WI e h))
theorem oD{α:Type}{b:Bool}{u v z:α}(h:(bif b then u else v)=z):b=true/\u=z\/b=false/\v=z:=by cases b <;> simp at h <;> simp [h]
theorem cl{f:FuncId}{xs:Array Operand}{Ts:Array TypeId}{args:List Value}{A R:List Ch}{post:Nat->Value->List Ch->Prop}{m:Nat}(hc:bN P f args A post)(hm:m<=ar.size)(H:Hp S0 ar σ (A++R))
 (k: ∀v (σ':St),(∃L',post m v L'/\Hp S0 ar σ' (L'++R))->wpList P ops Q rest (fr n (upd ρ d v)) σ'.w) (hx:xs.toList.map (ev n ρ)=args:=by exact rfl):
 wpList P ops Q (⟨some d, .call ⟨.value (.func f),xs,Ts⟩,ty,pos,af,none⟩::rest) (fr n ρ) σ.w:=bZ (bu hc (dE hc.fn hx) hm H) wn λv σ' ⟨L',a,b,_⟩=>k v σ' ⟨L',a,b⟩
theorem ll{f:FuncId}{xs:Array Operand}{Ts:Array TypeId}{args:List Value}{Ln A B R:List Ch}{post:Nat->Value->List Ch->Prop}(hl:gD Ln A B)(hc:bN P f args B post)(H:Hp S0 ar σ (Ln++(A++R)))(nj: ∀m v L',post m v L'->wX m L')
 (k: ∀v (σ':St),(∃L',post σ.size v L'/\Hp S0 ar σ' (L'++(Ln++R))/\Md (dD A) σ σ'/\ar.size<=σ.size)->wpList P ops Q rest (fr n (upd ρ d v)) σ'.w) (hx:xs.toList.map (ev n ρ)=args:=by exact rfl):
 wpList P ops Q (⟨some d, .call ⟨.value (.func f),xs,Ts⟩,ty,pos,af,none⟩::rest) (fr n ρ) σ.w:=bZ (qu hl hc (dE hc.fn hx) H nj) wn k
theorem k1{id:Nat}{l:List Oper}{y:Code}(h:wpList P l.toArray (Exit.then (y.wp P Q) Q) l (fr n ρ) w):(Code.seq (Code.region id l.toArray false) y).wp P Q (fr n ρ) w:=dC (rg h)
theorem k2{a:Act}{K:Act->World->Prop}(h:K a w):wpList P ops (Exit.then K Q) [] a w:=bo (aD h)
theorem k3{a:Act}{x y:Code}(h:x.wp P (Exit.then (y.wp P Q) Q) a w):wpList P ops (Exit.then ((Code.seq x y).wp P Q) Q) [] a w:=k2 (dC h)
theorem k4{id:Nat}{l:List Oper}{y:Code}(h:wpList P l.toArray (Exit.then (y.wp P Q) Q) l (fr n ρ) w):wpList P ops (Exit.then ((Code.seq (Code.region id l.toArray false) y).wp P Q) Q) [] (fr n ρ) w:=k2 (k1 h)
theorem k5{id:Nat}{l:List Oper}{y z:Code}(h:wpList P l.toArray (Exit.then (y.wp P (Exit.then (z.wp P Q) Q)) (Exit.then (z.wp P Q) Q)) l (fr n ρ) w):wpList P ops (Exit.then ((Code.seq (Code.seq (Code.region id l.toArray false) y) z).wp P Q) Q) [] (fr n ρ) w:=k3 (k1 h)
theorem k6{a:Act}{x y:Code}(h:x.wp P (Exit.then (y.wp P Q) Q) a w):Code.skip.wp P (Exit.then ((Code.seq x y).wp P Q) Q) a w:=eG (aD (dC h))
theorem k7{a:Act}(h:Q .ret a w):wpList P ops (Exit.then (Code.ret.wp P Q) Q) [] a w:=k2 (PC h)
end
section
variable{P:Program}{ops:Array Oper}{N n d i m k:Nat}{ρ j4:Nat->Value}{Nm:Type}{nm qj:Nm}{V:Nat->Nm->Value}{J:Nat->Nm->St->Prop}{σ ar:St}{o:Oper}{op:Op}{ty:TypeId}{pos:String}{af:Array Edge}{r:List Oper}{Al:List (List (Nat×Nat))}{v:Value}{L:List Ch}{S0:BS}{Q:Exit->Act->World->Prop}{rest:List Oper}{w:World}{gd:Option (Nat×Bool)}
theorem lo{v:Value}(h: ∀t,xd ops n t=true->ρ t=j4 t)(t:Nat)(h1:xd ops n t=true:=by exact rfl)(h2:look N j4 t=v:=by exact rfl):look N ρ t=v:=G8 (h t h1) h2
theorem dq(h: ∀j,waits o j=true->Nat.blt j n=true-> ∀d,dx ops j=some d->look N ρ d=V j nm)(j d:Nat)(h1:waits o j=true:=by exact rfl)(h2:Nat.blt j n=true:=by exact rfl)(h3:dx ops j=some d:=by exact rfl):look N ρ d=V j nm:=h j h1 h2 d h3
theorem qk(hr:dX P σ.w.heap N ρ ⟨some d,op,ty,pos,af,none⟩ (V i nm))(hJ:J k nm σ):vx P ops N n J V ρ σ nm i ⟨some d,op,ty,pos,af,none⟩ k:=yA wn hr rfl hJ
abbrev OfC(ops:Array Oper)(n:Nat)(ρ j4:Nat->Value):Prop:= ∀t,xd ops n t=true->ρ t=j4 t
abbrev DpC(ops:Array Oper)(n N:Nat)(ρ:Nat->Value)(V:Nat->Nm->Value)(nm:Nm)(o:Oper):Prop:= ∀j,waits o j=true->Nat.blt j n=true-> ∀d,dx ops j=some d->look N ρ d=V j nm
abbrev EqC(Al:List (List (Nat×Nat)))(k:Nat):Prop:=((SU Al k).all λp=>Nat.beq p.1 p.2)=true
abbrev WY(P:Program)(ops:Array Oper)(N n:Nat)(j4:Nat->Value)(J:Nat->Nm->St->Prop)(V:Nat->Nm->Value)(Al:List (List (Nat×Nat)))(m k:Nat)(l:List Oper):Prop:=py (λi o=>EV (Ob P ops N n j4 J V i o) (SU Al i)) m k l
theorem gH(h: ∀nm ρ (σ:St),OfC ops n ρ j4->DpC ops n N ρ V nm ⟨some d,op,ty,pos,af,none⟩->dX P σ.w.heap N ρ ⟨some d,op,ty,pos,af,none⟩ (V k nm))(t:WY P ops N n j4 J V Al m (k+1) r)(hl:EqC Al k:=by exact rfl):
 WY P ops N n j4 J V Al (m+1) k (⟨some d,op,ty,pos,af,none⟩::r):=ac hl (λ_ nm ρ σ j o d=>qk (h nm ρ σ o d) j) t
theorem nQ{j:Nat}{b:Bool}{e:Nat}(h: ∀nm ρ (σ:St),OfC ops n ρ j4->DpC ops n N ρ V nm ⟨some d,op,ty,pos,af,some (j,b)⟩->look N ρ e=B b/\dX P σ.w.heap N ρ ⟨some d,op,ty,pos,af,some (j,b)⟩ (V k nm))(t:WY P ops N n j4 J V Al m (k+1) r)(hl:EqC Al k:=by exact rfl)(he:dx ops j=some e:=by exact rfl):
 WY P ops N n j4 J V Al (m+1) k (⟨some d,op,ty,pos,af,some (j,b)⟩::r):=ac hl (λ_ nm ρ σ j o d=>yA (aU rfl (qy he (h nm ρ σ o d).1)) (h nm ρ σ o d).2 rfl j) t
theorem WZ{j:Nat}{b:Bool}{e:Nat}{dst:Option Nat}(h: ∀nm ρ (σ:St),OfC ops n ρ j4->DpC ops n N ρ V nm ⟨dst,op,ty,pos,af,some (j,b)⟩->look N ρ e=B (!b))(t:WY P ops N n j4 J V Al m (k+1) r)(hl:EqC Al k:=by exact rfl)(he:dx ops j=some e:=by exact rfl)(hv: ∀nm,V k nm=undef:=by exact λ_=>rfl):
 WY P ops N n j4 J V Al (m+1) k (⟨dst,op,ty,pos,af,some (j,b)⟩::r):=ac hl (λ_ nm ρ σ j o d=>EX (uL rfl (qy he (h nm ρ σ o d))) (hv nm) j) t
theorem acu{j:Nat}{b:Bool}{e:Nat}{dst:Option Nat}(h: ∀nm ρ (σ:St),OfC ops n ρ j4->DpC ops n N ρ V nm ⟨dst,op,ty,pos,af,some (j,b)⟩->look N ρ e=undef)(t:WY P ops N n j4 J V Al m (k+1) r)(hl:EqC Al k:=by exact rfl)(he:dx ops j=some e:=by exact rfl)(hv: ∀nm,V k nm=undef:=by exact λ_=>rfl):
 WY P ops N n j4 J V Al (m+1) k (⟨dst,op,ty,pos,af,some (j,b)⟩::r):=ac hl (λ_ nm ρ σ j o d=>EX (GZ rfl (Qf he (h nm ρ σ o d))) (hv nm) j) t
abbrev rp{α:Type}(n:Nat)(x:α):List α:=List.replicate n x
abbrev ctq{α:Type}(a b:List α):List α:=a++b
theorem DL(H:Hp S0 ar σ L)(pB:St)(m:Md (dD []) σ pB):Hp S0 ar pB L/\Md (dD []) σ pB:=⟨H.grow (m.mono λ_ h=>h.elim),m⟩
theorem wB(l:List Nat)(hb:((List.range n).all λj=> !xa ops n i j || l.contains j)=true:=by kernel_rfl)(h:l.map (V · qj)=l.map (V · nm):=by exact rfl): ∀j,xa ops n i j=true->V j qj=V j nm:=by
 refine aeU l hb ?_;clear hb
 induction l with
 | nil=>trivial
 | cons a l ih=>simp only [qb2,List.cons.injEq] at h;exact ⟨h.1,ih h.2⟩
theorem DN(bh: ∀t,xd ops n t=true->ρ t=j4 t)(fg: ∀i,Nat.blt i n=true-> ∀d,dx ops i=some d->look N ρ d=V i nm)(L:List (Nat×Value))(js:List Nat)(k:wpList P ops Q rest (fr N (cu ρ L)) w)
  (h1:((L.take (L.length - js.length)).all λp=>xd ops n p.1)=true:=by exact rfl) (e1:(L.take (L.length - js.length)).map (λp=>look N j4 p.1)=(L.take (L.length - js.length)).map (·.2):=by exact rfl)
  (h2:(js.all λj=>Nat.blt j n)=true:=by exact rfl) (e2:js.map (λj=>(dx ops j,V j nm))=(L.drop (L.length - js.length)).map (λp=>(some p.1,p.2)):=by exact rfl):wpList P ops Q rest (fr N ρ) w:=by
 rw [Ui (L:=L) ?_]
 ·exact k
 clear k;intro p hp;rw [←List.take_append_drop (L.length - js.length) L] at hp;generalize L.take (L.length - js.length)=A at*;generalize L.drop (L.length - js.length)=B at*;rcases qag.1 hp with hq | hq
 ·clear hp e2 h2
  induction A with
  | nil=>cases hq
  | cons q A ih=>
   simp only [qb2,List.cons.injEq,List.all_cons,qa4] at e1 h1;rcases qa9.1 hq with rfl | hq
   ·exact G8 (bh _ h1.1) e1.1
   ·exact ih h1.2 e1.2 hq
 ·clear hp e1 h1
  induction B generalizing js with
  | nil=>cases hq
  | cons q B ih=>
   cases js with
   | nil=>cases e2
   | cons j js=>
    simp only [qb2,List.cons.injEq,List.all_cons,qa4,Prod.mk.injEq] at e2 h2;rcases qa9.1 hq with rfl | hq
    ·rw [←e2.1.2];exact fg j h2.1 _ e2.1.1
    ·exact ih js h2.2 e2.2 hq
theorem cq{l:List (Nat×Value)}(h:l.map (λp=>ρ p.1)=l.map (·.2)):fr n ρ=fr n (cu ρ l):=by
 refine sr ?_
 induction l with
 | nil=>trivial
 | cons a l ih=>simp only [qb2,List.cons.injEq] at h;exact ⟨h.1,ih h.2⟩
end
section
variable{S0:BS}{ar σ σ':St}{L R:List Ch}{α:Type}[Rp α]{el lo:Nat}{v:Value}{xs:List α}{b o:Nat}{cs pre ug:List Value}
theorem Hp.se(H:Hp S0 ar σ L)(ks:List Nat){L':List Ch}(h:Nc L ks=true:=by exact rfl)(e:Bg L ks=L':=by exact rfl):Hp S0 ar σ L':=H.Ys ks h e
theorem Hp.fB(H:Hp S0 ar σ L)(i:Nat)(h:nth L i=some (Ch.ro el v xs):=by exact rfl):RS el σ v xs:=H.get h
theorem Hp.iB(H:Hp S0 ar σ L)(i:Nat)(h:nth L i=some (Ch.own lo el v xs):=by exact rfl):Ow σ lo el v xs:=H.get h
theorem Hp.dS(H:Hp S0 ar σ L)(i:Nat)(h:nth L i=some (Ch.bx lo b o cs pre ug):=by exact rfl): ∀j,(hj:j<cs.length)->jl σ.w.heap b (o+j)=some cs[j]:=H.cells i h
theorem Hp.eH(H:Hp S0 ar σ L)(i k:Nat){u:Value}{o':Nat}(h:nth L i=some (Ch.bx lo b o cs pre ug):=by exact rfl)(hu:cs[k]? =some u:=by exact rfl)(ho:o'=o+k:=by exact rfl):jl σ.w.heap b o'=some u:=H.cell i k h hu ho
theorem Hp.ku(H:Hp S0 ar σ L)(i:Nat)(h:pick L i=some (Ch.own lo lo v xs,R):=by exact rfl): ∃σ':St,σ'.w=σ.w/\Hp S0 ar σ' (Ch.ro lo v xs::R)/\Md (λb=>blk v=Option.some b) σ σ':=H.PG i h (qa3 _)
end
end Go.Vs
namespace Go.Vs
open Go
end Go.Vs
namespace Go.Vs
open Go
end Go.Vs
namespace Go.Vs
open Go
end Go.Vs
namespace Go.Vs
open Go
end Go.Vs
namespace Go.Vs
end Go.Vs
namespace Go.Vs
end Go.Vs
namespace Go.Vs
end Go.Vs
namespace Go.Vs
def If2(A B:Type):Type:=Int×A×B
@[reducible] def If2.mk{A B:Type}(k:Int)(a:A)(b:B):If2 A B:=(k,a,b)
end Go.Vs
namespace Go.Vs
open Go
end Go.Vs
namespace Go.Vs
open Go
end Go.Vs
namespace Go.Vs
open Go
end Go.Vs
namespace Go.Vs
open Go
def YH(k:Int)(a b:Value):Value:=bif k==1 then a else bif k==2 then b else .nilIface
end Go.Vs
namespace Go.Vs
open Go
theorem JV{k:Int}{t1 t2:TypeId}{a b:Value}:plain (YH k (.iface t1 a) (.iface t2 b))=true:=by
 unfold YH;cases k==1 <;> cases k==2 <;> rfl
@[reducible] def rp2(t1 t2:TypeId){A B:Type}[Rp A][Rp B]:Rp (If2 A B) where
 sz:=1
 rp lo σ cs x:= ∃c1 c2,Rp.rp lo σ c1 x.2.1/\Rp.rp lo σ c2 x.2.2/\cs=[YH x.1 (.iface t1 (.agg c1.toArray)) (.iface t2 (.agg c2.toArray))]
 pos:=by decide
 len:=by rintro _ _ _ _ ⟨c1,c2,_,_,rfl⟩;rfl
 vd:=by rintro _ _ _ _ _ hE ⟨c1,c2,h1,h2,e⟩;exact ⟨c1,c2,Rp.vd hE h1,Rp.vd hE h2,e⟩
 low:=by rintro _ _ _ _ _ hl ⟨c1,c2,h1,h2,e⟩;exact ⟨c1,c2,Rp.low hl h1,Rp.low hl h2,e⟩
 one:=by
  rintro _ _ _ _ ⟨c1,c2,_,_,rfl⟩ c hc;rw [qbc] at hc;rw [hc];exact JV
end Go.Vs
namespace Go.Vs
open Go
end Go.Vs
namespace Go.Vs
open Go
def DO{β:Type}(f:Nat->Option β):Nat->Option (List β)
 | 0=>some []
 | n+1=>(DO f n).bind λl=>(f n).bind λx=>some (l++[x])
section
variable{α:Type}[Rp α]
def Ch.ra(vs:List Value)(QA:List (List α)):Ch where
 dup:=true
 fp _:=False
 as σ:=vs.length=QA.length/\ ∀i,(h:i<vs.length)->(h':i<QA.length)->RS 0 σ vs[i] QA[i]
 G5 _ _:=id
 bG _ _ h:=h.elim
 fb m _ h:=⟨h.1,λi hi fU=>(h.2 i hi fU).ext m.ext⟩
theorem Hp.ae1{S0:BS}{ar σ:St}{L:List Ch}{vs:List Value}{QA:List (List α)}{xs:List α}{a:Int}(H:Hp S0 ar σ L)(i:Nat)(h:nth L i=some (Ch.ra vs QA))(hg:bz QA a=some xs):
  ∃ad c,bz vs a=some (Sl ad xs c)/\RS 0 σ (Sl ad xs c) xs:=by
 obtain ⟨h1,h2⟩:vs.length=QA.length/\ ∀i,(h:i<vs.length)->(h':i<QA.length)->RS 0 σ vs[i] QA[i]:=H.get h;obtain ⟨h0,hx,rfl⟩:=kT hg;have hv:a.toNat<vs.length:=by omega
 have hR:=h2 _ hv hx;obtain ⟨ad,c,e⟩:=hR.sg;refine ⟨ad,c, ?_,by rw [show Sl ad QA[a.toNat] c= .slice ad QA[a.toNat].length c from rfl, ←e];exact hR⟩;unfold bz;rw [if_pos h0,qb3 hv,e]
end
section
variable{P:Program}{H:Array Obj}{n:Nat}{ρ:Nat->Value}{d:Option Nat}{ty T E:TypeId}{pos:String}{af:Array Edge}{gd:Option (Nat×Bool)}{x y:Operand}{a:Int}{m bt:Nat}{z v:Value}{vs:List Value}
theorem Uq{F:TypeId}(hT:P.underlying T=some (.array m E))(hi:TI P E z 1 bt)(hE:P.underlying E=some (.slice F))(hx:ev n ρ x= .agg vs.toArray)(hy:ev n ρ y=I a)(hg:bz vs a=some v)(hl:vs.length=m):
  dX P H n ρ ⟨d, .index T x y,ty,pos,af,gd⟩ v:=by
 obtain ⟨h0,h1,h2⟩:=kT hg;intro w _;have h3:a<(m:Int):=by omega
 have wE:(isAgg E).run P w= .ok false w:=by
  simp only [isAgg,underlying,Sem.run_bind,run_program,Result.andThen_ok,hE,Sem.run_pure]
 have he:vs[a.toNat]? =some v:=by rw [qb3 h1,h2]
 simp [execOp,hx,hy,Instr.index,asIntOf,underlying,hT,h0,h3,run_typeInfo hi,part,wE,he]
end
end Go.Vs
namespace Go.Vs
open Go Go.ChangeShapes Go.WideShapes Go.ChangeAt Go.RowKit
theorem Ur: ∀b, ¬dD [] b:=λ_ h=>h
theorem JW{α:Type}[Rp α]{el:Nat}{v:Value}{xs:List α}{L:List Ch}(h: ∀b, ¬dD L b): ∀b, ¬dD (Ch.ro el v xs::L) b:=λb hb=>hb.elim (λh=>h) (h b)
theorem E4{α:Type}[Rp α]{el:Nat}{v:Value}{xs:List α}{L:List Ch}{σ:St}(h:RS el σ v xs)(k:iQ σ L):iQ σ (Ch.ro el v xs::L):=⟨h,k⟩
theorem xh{α:Type}[Rp α]{el:Nat}{v:Value}{xs:List α}{L:List Ch}(k:apart L):apart (Ch.ro el v xs::L):=⟨λ_ h=>h.elim,k⟩
def bytesOf(zs:List Int):List UInt8:=zs.map λn=>n.toNat.toUInt8
theorem byte_back{n:Int}(h:(Lit.int .u8 n).wf=true):((n.toNat.toUInt8).toNat:Int)=n:=by
 have h1:IntKind.u8.min=0:=rfl;have h2:IntKind.u8.max=255:=rfl;simp only [Lit.wf,qa4,decide_eq_true_eq,h1,h2] at h;have:n.toNat % 256=n.toNat:=Nat.mod_eq_of_lt (by omega);rw [Nat.toUInt8,UInt8.toNat_ofNat',this];omega
theorem QB{W:World}{b off len cap:Nat}{zs:List Int}(hb:b<W.heap.size)(hl:len<=cap)(hz:zs.length=len)
  (hc: ∀i,i<zs.length->W.cell? ⟨b,off+i,none⟩=some (.int .u8 (zs.getD i 0))) (hw: ∀n∈zs,(Lit.int .u8 n).wf=true):
  ∃σ:St,σ.w=W/\RS 0 σ (Sl (some ⟨b,off,none⟩) (bytesOf zs) cap) (bytesOf zs):=by
 refine ⟨⟨W,λc=>if c=b then off+len else 0,λc Pa=>if_neg (by omega),True⟩,rfl, .inr ⟨b,off,cap,rfl,qa8 _,by simp [bytesOf];omega, ?_,λi hi=> ?_⟩⟩
 ·show off+(bytesOf zs).length*1<=(if b=b then off+len else 0);rw [if_pos rfl];simp [bytesOf];omega
 ·have fU:i<zs.length:=by simpa [bytesOf] using hi
  refine ⟨[.int .u8 ((bytesOf zs)[i].toNat)],rfl,λj hj=> ?_⟩;have hj0:j=0:=by simpa using hj
  subst hj0;have:=hc i fU;show W.cell? ⟨b,off+i*1+0,none⟩=_;rw [Nat.mul_one,qcc,this];have hm:zs.getD i 0=zs[i]:=by simp [List.getD,fU]
  simp only [hm,bytesOf,List.getElem_map,List.getElem_cons_zero];rw [byte_back (hw _ (qai _))]
theorem QC(W:World)(a:Option Addr)(c:Nat): ∃σ:St,σ.w=W/\RS 0 σ (Sl a ([]:List UInt8) c) ([]:List UInt8):=⟨⟨W,λ_=>0,λ_ _=>rfl,True⟩,rfl, .inl ⟨⟨a,c,rfl⟩,rfl⟩⟩
end Go.Vs
