/- What a function of the program does to its memory, step by step. -/
import Derived.Test.YtbpbncjammigdaaGreatAl
import Derived.Test.YtbpbncjammigdaaGreatEng1
import Derived.RangeFuncLeaves
import Derived.RangeFuncSeq
import Derived.TacticsIn
import Derived.Sort.LoopGhostIn
import Derived.LaidEql
import Derived.ProofKit
import Derived.SizedLaws
set_option linter.unusedVariables false
set_option linter.unusedSimpArgs false
namespace Go.Vs
open Go
def abX(x:Operand)(p:Nat->Bool):Bool:=match x with
 | .tmp t=>p t
 | _=>true
def QE(o:Op):Bool:=match o with
 | .select _ _=>false
 | _=>true
def sqB(ops:Array Oper)(n:Nat):Bool:=(List.range n).all λi=>match ops[i]? with
 | some o=>QE o.op&&(o.op.operands.toList.all λx=>abX x λt=>D2 ops n t || (List.range i).any λj=>waits o j&&(dS ops j==some t))&&(match o.guard with | none=>true | some (j,_)=>waits o j&&Nat.blt j i)
 | none=>false
def xq(P:Program)(ops:Array Oper)(H:Array Obj)(N:Nat)(K:(Nat->Value)->Prop):List Oper->(Nat->Value)->Prop
 | [],ρ=>K ρ
 | o::r,ρ=> ∃v d,o.dst=some d/\((Region.wanted o (yv ops N ρ)=true/\dR P H N ρ o v)\/(Region.wanted o (yv ops N ρ)=false/\v=undef))/\xq P ops H N K r (upd ρ d v)
def env:List Oper->List Value->(Nat->Value)->(Nat->Value)
 | o::r,v::vs,ρ=>env r vs (upd ρ (o.dst.getD 0) v)
 | _,_,ρ=>ρ
section
variable{P:Program}{ops:Array Oper}{H:Array Obj}{N:Nat}{K:(Nat->Value)->Prop}{Q:Exit->Act->World->Prop}
def Zh(P:Program)(ops:Array Oper)(H:Array Obj)(N:Nat)(o:Oper)(ρ:Nat->Value)(v:Value):Prop:=
 ∃d,o.dst=some d/\((Region.wanted o (yv ops N ρ)=true/\dR P H N ρ o v)\/(Region.wanted o (yv ops N ρ)=false/\v=undef))
theorem HE: ∀(l:List Oper) (ρ:Nat->Value),xq P ops H N K l ρ-> ∃vs:List Value,vs.length=l.length/\K (env l vs ρ)/\ ∀i o,l[i]? =some o->Zh P ops H N o (env (l.take i) (vs.take i) ρ) (vs.getD i undef)
 | [],ρ,h=>⟨[],rfl,h,λi o ho=>by simp at ho⟩
 | o::r,ρ,⟨v,d,hd,hv,h⟩=>by
  obtain ⟨vs,h1,h2,h3⟩:=HE r (upd ρ d v) h;refine ⟨v::vs,by simp [h1], ?_,λi o' ho=> ?_⟩
  ·simp only [env,hd,qc7];exact h2
  ·cases i with
   | zero=>
    simp only [qbn,qaf] at ho;subst ho;exact ⟨d,hd,by simpa [env] using hv⟩
   | succ i=>
    have:=h3 i o' (by simpa using ho);simpa [env,hd] using this
theorem EB{t:Nat}: ∀(l:List Oper) (vs:List Value) (ρ:Nat->Value),(∀o∈l, ∀d,o.dst=some d->d≠t)->(∀o∈l,o.dst.isSome=true)->env l vs ρ t=ρ t
 | [],vs,ρ,_,_=>by cases vs <;> rfl
 | o::r,[],ρ,_,_=>rfl
 | o::r,v::vs,ρ,h,hs=>by
  rw [env,EB r vs _ (λo' Hn=>h o' (by simp [Hn])) (λo' Hn=>hs o' (by simp [Hn]))];cases hd:o.dst with
  | none=>have:=hs o (by simp);rw [hd] at this;cases this
  | some d=>
   have:t≠d:=λe=>h o (by simp) d hd e.symm;show (bif Nat.beq t d then v else ρ t)=ρ t;rw [qj this];rfl
theorem QF{d j:Nat}: ∀(l:List Oper) (vs:List Value) (ρ:Nat->Value),vs.length=l.length->(∀o∈l,o.dst.isSome=true)->(∃o,l[j]? =some o/\o.dst=some d)->(∀k o,j<k->l[k]? =some o->o.dst≠some d)->env l vs ρ d=vs.getD j undef
 | [],vs,ρ,_,_,⟨o,ho,_⟩,_=>by simp at ho
 | o::r,[],ρ,hl,_,_,_=>by simp at hl
 | o::r,v::vs,ρ,hl,hs,⟨o',Hn,Jv⟩,hk=>by
  rw [env];cases j with
  | zero=>
   simp only [qbn,qaf] at Hn;subst Hn;rw [Jv,qc7,EB r vs _ (λo2 Zi d2 hd2 e=>by
    obtain ⟨k,vB,he⟩:=qam.1 Zi;subst e;exact hk (k+1) o2 (by omega) (by simp [vB,he]) hd2) (λo2 Zi=>hs o2 (by simp [Zi]))]
   show (bif Nat.beq d d then v else ρ d)=_;rw [Me];rfl
  | succ j=>
   rw [QF r vs _ (by simpa using hl) (λo2 Zi=>hs o2 (by simp [Zi])) ⟨o',by simpa using Hn,Jv⟩ (λk o2 hjk Zi=>hk (k+1) o2 (by omega) (by simpa using Zi))];simp
theorem Kh{ρ oI:Nat->Value}{x:Operand}(h: ∀t,x= .tmp t->look N ρ t=look N oI t):ev N ρ x=ev N oI x:=by
 cases x with
 | tmp t=>exact h t rfl
 | const v=>rfl
 | global g=>rfl
 | func f=>rfl
theorem Ki{ρ oI:Nat->Value}{o:Oper}{v:Value}(hs:QE o.op=true)(h: ∀x∈o.op.operands,ev N ρ x=ev N oI x)(hr:dR P H N oI o v):dR P H N ρ o v:=by
 intro w hw;rw [execOp_congr o (λcs b e=>by rw [e] at hs;cases hs) h];exact hr w hw
theorem ui{ρ oI:Nat->Value}{o:Oper}(h: ∀j b,o.guard=some (j,b)->yv ops N ρ j=yv ops N oI j):Region.wanted o (yv ops N ρ)=Region.wanted o (yv ops N oI):=by
 unfold Region.wanted;cases hg:o.guard with
 | none=>rfl
 | some p=>obtain ⟨j,b⟩:=p;simp only [h j b hg]
theorem Mw{id:Nat}{l:List Oper}{σ:St}{lG:Nat->Value}(n:Nat)(hm:P.follows .mixedOrders=true)(hB:YU N l.toArray n [] [[]] (List.replicate n [(0,0)]) 0=true)(hS:sqB l.toArray n=true)
  (J0:xq P l.toArray σ.w.heap N (λρ=> ∀σ':St,Md (cH []) σ σ'->wpList P l.toArray Q (l.drop n) (fr N ρ) σ'.w) (l.take n) lG):
  (Code.region id l.toArray true).wp P Q (fr N lG) σ.w:=by
 obtain ⟨vs,hvl,hK,en⟩:=HE _ _ J0;have hB':=hB;simp only [YU,qa5] at hB';obtain ⟨⟨⟨⟨⟨⟨⟨hn,hD⟩,_⟩,_⟩,_⟩,_⟩,_⟩,_⟩:=hB';have YX:n<=l.length:=by simpa using qa6 hn
 rw [qar,Nat.min_eq_left YX] at hvl;have yu: ∀i,i<n->(l.take n)[i]? =l.toArray[i]? :=λi hi=>by simp [qc6,hi]
 have hex: ∀i,i<n-> ∃o,l.toArray[i]? =some o:=λi hi=>by
  have:i<l.length:=by omega
  exact ⟨l[i],by simp [this]⟩
 have NK: ∀i,i<n-> ∃d,dS l.toArray i=some d/\d<N/\ ∀j,j<n->j≠i->dS l.toArray j≠some d:=by
  intro i hi;obtain ⟨o,ho⟩:=hex i hi;obtain ⟨d,hd,_⟩:=en i o (by rw [yu i hi];exact ho);have Qb:dS l.toArray i=some d:=by unfold dS;rw [ho];exact hd
  have:=qad.1 hD i (qat.2 hi);simp only [qa5,Qb] at this;obtain ⟨⟨h1,_⟩,h3⟩:=this;refine ⟨d,Qb, ?_,λj hj iH e=> ?_⟩
  ·exact qa8 λhc=>by rw [sK hc] at h1;cases h1
  ·have:=qad.1 h3 j (qat.2 hj);rw [qj (qbp iH)] at this;simp [e] at this
 have Mr: ∀i,i<=n-> ∀o∈l.take i,o.dst.isSome=true:=by
  intro i hi o ho;obtain ⟨k,hk,he⟩:=qam.1 ho;rw [qar] at hk;obtain ⟨d,hd,_⟩:=NK k (by omega);rw [qca] at he;have J1:k<l.length:=by omega
  unfold dS at hd;rw [show l.toArray[k]? =some o by simp [J1,he]] at hd;simp only [qa0] at hd;rw [hd];rfl
 have htt: ∀i,i<=n->(l.take n).take i=l.take i:=λi hi=>by rw [List.take_take,Nat.min_eq_left hi]
 have Mx: ∀i t,i<=n->(∀k,k<n->dS l.toArray k≠some t)->env (l.take i) (vs.take i) lG t=lG t:=by
  intro i t hi ht;refine EB _ _ _ (λo ho d hd e=> ?_) (Mr i hi);obtain ⟨k,hk,he⟩:=qam.1 ho;rw [qar] at hk;rw [qca] at he;have J1:k<l.length:=by omega
  refine ht k (by omega) ?_;unfold dS;rw [show l.toArray[k]? =some o by simp [J1,he]];subst e;exact hd
 have QG: ∀i j d,i<=n->j<i->dS l.toArray j=some d->env (l.take i) (vs.take i) lG d=vs.getD j undef:=by
  intro i j d hi hj hd;have hjl:j<l.length:=by omega
  rw [QF (j:=j) _ _ _ (by simp;omega) (Mr i hi) ?_ ?_]
  ·simp [List.getD,qc6,hj]
  ·unfold dS at hd;rw [show l.toArray[j]? =some l[j] by simp [hjl]] at hd;exact ⟨l[j],by simp [qc6,hj,hjl],hd⟩
  ·intro k o hjk ho hdo;have J1:k<i:=by
    refine qa8 λhc=> ?_;rw [qc6,if_neg hc] at ho;cases ho
   rw [qc6,if_pos J1] at ho;obtain ⟨d',h1,_,h3⟩:=NK j (by omega);have:d'=d:=by rw [hd] at h1;exact (qaa h1).symm
   subst this;refine h3 k (by omega) (by omega) ?_;unfold dS;rw [show l.toArray[k]? =some o by simpa using ho];exact hdo
 refine abM (Nm:=Unit) (σ:=σ) n [] [[]] (List.replicate n [(0,0)]) 0 [λ_ bG=>bG.w.heap=σ.w.heap/\Md (cH []) σ bG] (vs.map λv _=>v) () hm hB (λot hh m=>⟨hh,m⟩) ?_ ?_
 ·
  have main: ∀i o,i<n->l.toArray[i]? =some o-> ∀k,Ob (Nm:=Unit) P l.toArray N n lG (Jl [λ_ bG=>bG.w.heap=σ.w.heap/\Md (cH []) σ bG]) (Vl (vs.map λv _=>v)) i o k k:=by
   intro i o hi ho k nm ρ bG hJ aH aX;have hS1:=qad.1 hS i (qat.2 hi);rw [ho] at hS1;simp only [qa5] at hS1;obtain ⟨⟨afN,Zj⟩,Zk⟩:=hS1;have hV: ∀j,j<n->Vl (vs.map λv (_:Unit)=>v) j nm=vs.getD j undef:=by
    intro j hj;unfold Vl;have:j<vs.length:=by omega
    simp [List.getD,this]
   have XB: ∀j d,waits o j=true->j<i->dS l.toArray j=some d->look N ρ d=look N (env (l.take i) (vs.take i) lG) d:=by
    intro j d hw hj hd;obtain ⟨d',h1,hdN,_⟩:=NK j (by omega);have:d'=d:=by rw [hd] at h1;exact (qaa h1).symm
    subst this;rw [aX j hw (BK (by omega)) d' hd,hV j (by omega),rP _ hdN,QG i j d' (by omega) hj hd]
   have ql: ∀x∈o.op.operands,ev N ρ x=ev N (env (l.take i) (vs.take i) lG) x:=by
    intro x hx;refine Kh λt ht=> ?_;subst ht;have:=qad.1 Zj (.tmp t) (by simpa using hx);simp only [abX,qc1] at this;rcases this with h | h
    ·unfold look;rw [aH t h,Mx i t (by omega) (D3 h)]
    ·obtain ⟨j,hj,hjw⟩:=List.any_eq_true.1 h;simp only [qa5] at hjw;exact XB j t hjw.1 (qat.1 hj) (by simpa using hjw.2)
   have hyv: ∀j b,o.guard=some (j,b)->yv l.toArray N ρ j=yv l.toArray N (env (l.take i) (vs.take i) lG) j:=by
    intro j b hg;rw [hg] at Zk;simp only [qa5] at Zk;have hji:j<i:=qa8 λhc=>by rw [sK hc] at Zk;cases Zk.2
    obtain ⟨d,h1,_,_⟩:=NK j (by omega);have hl:=XB j d Zk.1 hji h1;unfold dS at h1;unfold yv;simp only [h1,hl]
   obtain ⟨d,hd,hor⟩:=en i o (by rw [yu i hi];exact ho);rw [htt i (by omega)] at hor;have hJ2:bG.w.heap=σ.w.heap:=by
    unfold Jl at hJ;cases k with
    | zero=>exact hJ.1
    | succ k=>simp at hJ
   rcases hor with ⟨hw,hr⟩ | ⟨hw,hv⟩
   ·refine aP (v:=vs.getD i undef) ?_ ?_ (hV i hi) hJ
    ·rw [ui hyv];exact hw
    ·rw [hJ2];exact Ki afN ql hr
   ·refine aU ?_ (by rw [hV i hi];exact hv) hJ;rw [ui hyv];exact hw
  have build: ∀m k:Nat,k+m=n-> ∀r:List Oper,r=l.drop k->oq (λi o=>Hr (Ob (Nm:=Unit) P l.toArray N n lG (Jl [λ_ bG=>bG.w.heap=σ.w.heap/\Md (cH []) σ bG]) (Vl (vs.map λv _=>v)) i o) (Xp (List.replicate n [(0,0)]) i)) m k r:=by
   intro m
   induction m with
   | zero=>intro k _ r _;exact all_nil
   | succ m ih=>
    intro k hk r hr;have J1:k<l.length:=by omega
    rw [qb9 J1] at hr;subst hr;have TY:Xp (List.replicate n [(0,0)]) k=[(0,0)]:=by
     unfold Xp;have:k<n:=by omega
     simp [List.getD,this]
    refine all_cons ?_ (ih (k+1) (by omega) _ rfl);simp only [TY];exact ⟨main k l[k] (by omega) (by simp [J1]) 0,trivial⟩
  exact build n 0 (by omega) l (by simp)
 ·intro nm ρ σ' hJ aH bM;have hJ2:Md (cH []) σ σ':=hJ.2;have oO:fr N ρ=fr N (env (l.take n) vs lG):=by
   refine PQ λt ht=> ?_;have hvt:vs.take n=vs:=qbw (by omega);by_cases QH:D2 l.toArray n t=true
   ·have:=Mx n t (qa3 _) (D3 QH);rw [hvt] at this;rw [aH t QH,this]
   ·have: ∃i,i<n/\dS l.toArray i=some t:=by
     refine qa8 λhc=>QH ?_;unfold D2;rw [qad];intro i hi;have:dS l.toArray i≠some t:=λe=>hc ⟨i,qat.1 hi,e⟩;simpa using this
    obtain ⟨i,hi,hd⟩:=this;have h1:=bM i (BK hi) t hd;rw [rP _ ht] at h1;have h2:=QG n i t (qa3 _) hi hd;rw [hvt] at h2;rw [h1,h2];unfold Vl;have:i<vs.length:=by omega
    simp [List.getD,this]
  rw [oO];exact hK σ' hJ2
variable{ρ:Nat->Value}{v:Value}{r:List Oper}{d:Nat}{op:Op}{ty:TypeId}{pos:String}{af:Array Edge}{gd:Option (Nat×Bool)}
theorem sq(hr:dR P H N ρ ⟨some d,op,ty,pos,af,none⟩ v)(k:xq P ops H N K r (upd ρ d v)):xq P ops H N K (⟨some d,op,ty,pos,af,none⟩::r) ρ:=⟨v,d,rfl, .inl ⟨bg _ rfl _,hr⟩,k⟩
theorem kO{j:Nat}{b:Bool}(hy:yv ops N ρ j=some b)(hr:dR P H N ρ ⟨some d,op,ty,pos,af,some (j,b)⟩ v)(k:xq P ops H N K r (upd ρ d v)):xq P ops H N K (⟨some d,op,ty,pos,af,some (j,b)⟩::r) ρ:=⟨v,d,rfl, .inl ⟨au rfl hy,hr⟩,k⟩
theorem dB{j:Nat}{b:Bool}(hy:yv ops N ρ j=some (!b))(k:xq P ops H N K r (upd ρ d undef)):xq P ops H N K (⟨some d,op,ty,pos,af,some (j,b)⟩::r) ρ:=⟨undef,d,rfl, .inr ⟨bm rfl hy,rfl⟩,k⟩
theorem jb(h:K ρ):xq P ops H N K [] ρ:=h
end
end Go.Vs
namespace Go.Vs
open Go
abbrev Fz(r:Option Nat):Fence:={ Fence.wide with round:=r }
section
variable{P:Program}{ops:Array Oper}{Q:Exit->Act->World->Prop}{n d:Nat}{ρ:Nat->Value}{σ ay:St}{w:World}{v:Value}{rest:List Oper}{r:Option Nat}
variable{op:Op}{ty:TypeId}{pos:String}{af:Array Edge}{gd:Option (Nat×Bool)}
theorem Kj(Jx: ∀c,op≠ .defer c)(hr:dR P w.heap n ρ ⟨some d,op,ty,pos,af,none⟩ v)(k:wpListIn (Fz r) 0 P ops Q rest (fr n (upd ρ d v)) w):
  wpListIn (Fz r) 0 P ops Q (⟨some d,op,ty,pos,af,none⟩::rest) (fr n ρ) w:=by
 unfold wpListIn;rw [if_pos (by rw [dV];exact bg _ rfl _)];refine ⟨λ_ _=>trivial, ?_⟩;rw [Oper.semAt_eq _ _ _ Jx,ba,hr w rfl];simp only [Oper.uponIn_value,cU];exact k
theorem yw{Rz:Value->St->Prop}(Jx: ∀c,op≠ .defer c)(he:Ex P σ n ρ ⟨some d,op,ty,pos,af,none⟩ Rz)
  (k: ∀v (σ':St),Rz v σ'->wpListIn (Fz r) 0 P ops Q rest (fr n (upd ρ d v)) σ'.w):wpListIn (Fz r) 0 P ops Q (⟨some d,op,ty,pos,af,none⟩::rest) (fr n ρ) σ.w:=by
 obtain ⟨v,σ',h1,h2⟩:=he;unfold wpListIn;rw [if_pos (by rw [dV];exact bg _ rfl _)];refine ⟨λ_ _=>trivial, ?_⟩;have QI:(execOp (ev n ρ) ⟨some d,op,ty,pos,af,none⟩).run P σ.w= .ok (.value v) σ'.w:=h1;rw [Oper.semAt_eq _ _ _ Jx,ba,QI];simp only [Oper.uponIn_value,cU];exact k v σ' h2
theorem EC{Rs:St->Prop}(Jx: ∀c,op≠ .defer c)(he:ExS P σ n ρ ⟨none,op,ty,pos,af,none⟩ Rs)
  (k: ∀(σ':St),Rs σ'->wpListIn (Fz r) 0 P ops Q rest (fr n ρ) σ'.w):wpListIn (Fz r) 0 P ops Q (⟨none,op,ty,pos,af,none⟩::rest) (fr n ρ) σ.w:=by
 obtain ⟨σ',h1,h2⟩:=he;unfold wpListIn;rw [if_pos (by rw [dV];exact bg _ rfl _)];refine ⟨λ_ _=>trivial, ?_⟩;have QI:(execOp (ev n ρ) ⟨none,op,ty,pos,af,none⟩).run P σ.w= .ok .skip σ'.w:=h1;rw [Oper.semAt_eq _ _ _ Jx,ba,QI];simp only [Oper.uponIn_skip,iQ];exact k σ' h2
theorem NO{xs:Array Operand}{Ts:Array TypeId}{y:Operand}{l:Nat}{args:List Value}{R:Ending->World->Prop}(hf:ev n ρ y= .func (.yield l) #[] #[])(hx:xs.toList.map (ev n ρ)=args)(hy:YieldAt Fence.wide 0 P l args.toArray w R)
  (k: ∀e w',R e w'-> ∃v,e= .returned v/\wpListIn (Fz r) 0 P ops Q rest (fr n (upd ρ d v)) w'):
  wpListIn (Fz r) 0 P ops Q (⟨some d, .call ⟨.value y,xs,Ts⟩,ty,pos,af,none⟩::rest) (fr n ρ) w:=by
 obtain ⟨fn,tmps,assign,body,h1,h2⟩:=hy;unfold wpListIn;rw [if_pos (by rw [dV];exact bg _ rfl _)];refine ⟨λ_ _=>trivial, ?_⟩;rw [Oper.semAt_eq _ _ _ (λc h=>by cases h),ba];have uf:xs.map (ev n ρ)=args.toArray:=by rw [←hx, ←Array.toList_map]
 have h3:(execOp (ev n ρ) ⟨some d, .call ⟨.value y,xs,Ts⟩,ty,pos,af,none⟩).run P w= .ok (.round l fn tmps assign body) w:=by
  simp only [execOp,resolve,hf,Deferred.ofValue,Sem.run_bind,Sem.run_pure,Result.andThen_ok,invoke,uf];simp [h1]
 rw [h3,Oper.uponIn_round];refine ⟨λh=>(by cases h), ?_⟩;have JB:RoundIn (Fz r) 0 P l fn tmps assign body w R:=h2;refine JB.mono ?_;intro e w' hR;obtain ⟨v,rfl,hk⟩:=k e w' hR;simp only [cU];exact hk
theorem ED(h:Q .normal (fr n ρ) w):wpListIn (Fz r) 0 P ops Q [] (fr n ρ) w:=h
theorem UK{id:Nat}{l:List Oper}(h:wpListIn (Fz r) 0 P l.toArray Q l (fr n ρ) w):(Code.region id l.toArray false).wpIn (Fz r) 0 P Q (fr n ρ) w:=wpIn_region_lit h
theorem HG{c:Operand}{x y:Code}(b:Bool)(hc:ev n ρ c= .bool b)(ht:b=true->x.wpIn (Fz r) 0 P Q (fr n ρ) w)(hf:b=false->y.wpIn (Fz r) 0 P Q (fr n ρ) w):
 (Code.cond c x y).wpIn (Fz r) 0 P Q (fr n ρ) w:=wpIn_cond_split (by rw [ba];exact hc) ht hf
end
def Ch.lp(l:Nat)(r:Loop):Ch where
 dup:=false
 fp i:=i=l
 as σ:=σ.w.heap[l]? =some (.loop r)/\σ.eW l=0
 Hl h:=by cases h
 bJ h i e:=by subst e;exact lt_of_block h.1
 en m hd h:=by
  have hb:=lt_of_block h.1;have hS:=hd l rfl;exact ⟨(m.block l hb hS).trans h.1,(m.eW l hb hS).trans h.2⟩
def Ch.df(l:Nat):Ch where
 dup:=false
 fp i:=i=l
 as σ:=σ.w.heap[l]? =some (.deferred (some []))/\σ.eW l=0
 Hl h:=by cases h
 bJ h i e:=by subst e;exact lt_of_block h.1
 en m hd h:=by
  have hb:=lt_of_block h.1;have hS:=hd l rfl;exact ⟨(m.block l hb hS).trans h.1,(m.eW l hb hS).trans h.2⟩
section
variable{P:Program}{S0:BS}{ay σ:St}{L:List Ch}
theorem Hp.abY(H:Hp S0 ay σ L)(r:Loop):Hp S0 ay (σ.new (.loop r) 0) (Ch.lp σ.size r::L):=
 Hp.DX (A':=[Ch.lp σ.size r]) H (Hp.fresh (St.j4 _ _ _) _ ⟨St.pE _ _ _,St.pF _ _ _⟩ (λb hb=>qav (Eq.symm hb)))
theorem Hp.abZ(H:Hp S0 ay σ L):Hp S0 ay (σ.new (.deferred (some [])) 0) (Ch.df σ.size::L):=
 Hp.DX (A':=[Ch.df σ.size]) H (Hp.fresh (St.j4 _ _ _) _ ⟨St.pE _ _ _,St.pF _ _ _⟩ (λb hb=>qav (Eq.symm hb)))
theorem Hp.QJ{l:Nat}{r:Loop}(H:Hp S0 ay σ (Ch.lp l r::L))(r':Loop):Hp S0 ay (σ.put l (.loop r')) (Ch.lp l r'::L):=by
 have h:=H.all.1;refine Hp.ym (A':=[Ch.lp l r']) H (Hp.one ((St.ub h.2).md.mono λi hi=> .inl ?_) ⟨World.qK _ (lt_of_block h.1),h.2⟩ (λb hb _=> .inl hb));exact (qaa hi).symm
theorem Hp.ab0{l:Nat}(H:Hp S0 ay σ (Ch.df l::L))(o:Obj):Hp S0 ay (σ.put l o) L:=by
 have h:=H.all.1;refine Hp.ym (A':=[]) H ⟨(St.ub h.2).md.mono λi hi=> .inl ?_,trivial,trivial,λb hb=>hb.elim⟩;exact (qaa hi).symm
theorem Hp.drop: ∀(R:List Ch) {L:List Ch},Hp S0 ay σ (R++L)->Hp S0 ay σ L
 | [],_,H=>H
 | _::R,_,H=>Hp.drop R H.tail
theorem NP{g:Operand}{ps:Array Tmp}{assign body:Code}{Q:Exit->Act->World->Prop}{a:Act}{gf:Nat}{lb:Array Value}{N:Nat}{QK:Nat->Array Value}
  (hg:a.eval g= .func (.func gf) #[] lb) (eg: ∀args w,(callFunc gf args).run P w= .ok (.enter gf args) w) (hps: ∀i,i<N->(QK i).size=ps.size)
  (K:Nat->List Ch->Prop) (hK:K 0 L) (H:Hp S0 ay σ L)
  (J0: ∀(l:Nat) (J:Nat->St->Prop),(∀{i σ σ'},J i σ->Md (λ_=>False) σ σ'->J i σ')->(∀{i σ},J i σ-> ∃L R,K i L/\Hp S0 ay σ (R++L))->
   (∀i,i<N-> ∀σ,J i σ->YieldAt Fence.wide 0 P l (QK i) σ.w λe W'=>e= .returned (.bool true)/\ ∃σ',W'=σ'.w/\J (i+1) σ')->
   ∀σ,J 0 σ->CallsIn Fence.wide 0 P gf (#[.func (.yield l) #[] #[]]++lb) σ.w λe W'=>(∃v,e= .returned v)/\ ∃σ',W'=σ'.w/\J N σ')
  (ab1: ∀(l D i:Nat) (r r':Loop),i<N-> ∀σ L,K i L->Hp S0 ay σ (Ch.lp l r::Ch.df D::L)->
   assign.wpIn (Fz (some l)) 0 P (Exit.then (λafO w₁=> ∃ot L1,w₁=ot.w/\Hp S0 ay ot (Ch.lp l r::Ch.df D::L1)/\ ∀fU,Hp S0 ay fU (Ch.lp l r'::Ch.df D::L1)->
    body.wpIn (Fz (some l)) 0 P (λe _ w=>e= .normal/\ ∃fK L3,w=fK.w/\K (i+1) L3/\Hp S0 ay fK (Ch.lp l r'::Ch.df D::L3)) afO fU.w) (λ_ _ _=>False))
    {tmps:=(ps.zip (QK i)).foldl (λt (p,v)=>t.setIfInBounds p v) a.tmps,defers:=[] } σ.w)
  (ab2: ∀(D:Nat) σ' L',K N L'->Hp S0 ay σ' (Ch.df D::L')->Q .normal { a with defers:={ target:= .collected D,args:= #[] }::a.defers } σ'.w):
  (Code.rangeFunc g ps assign body).wpIn (Fz none) 0 P Q a σ.w:=by
 refine wpIn_rangeFunc ?_;intro fn vt;obtain ⟨rec,Kk⟩: ∃rec:LoopState->Option Code->Loop,rec=λst pe=>{ state:=st,pending:=pe,fn,tmps:=a.tmps,params:=ps,assign,body,defers:=σ.w.heap.size }:=⟨_,rfl⟩;have H1:=(H.abZ).abY (rec .ready none);generalize Zl:(σ.new (.deferred (some [])) 0).new (.loop (rec .ready none)) 0=ot at H1;have hs:(σ.new (.deferred (some [])) 0).size=σ.w.heap.size+1:=St.G5 _ _ _;rw [hs] at H1;have kD:σ.size=σ.w.heap.size:=rfl;rw [kD] at H1;generalize hl:σ.w.heap.size+1=l at*;generalize hD:σ.w.heap.size=D at*;refine ⟨l,[{ target:= .collected D,args:= #[] }],ot.w,{ target:= .fn (.func gf) lb,args:= #[.func (.yield l) #[] #[]] },ot.w,gf, #[.func (.yield l) #[] #[]]++lb,ot.w, ?_, ?_, ?_, ?_,λh=>(by cases h), ?_⟩
 ·have:=run_enterLoop_outer (P:=P) (w:=σ.w) fn a.tmps ps assign body;rw [this, ←Zl,Kk,hD,hl]
  rfl
 ·simp only [resolve,hg];simp [go_sem]
 ·intro f' hf';trivial
 ·simp [invoke,go_sem,eg]
 ·refine (J0 l (λi σ=> ∃L,K i L/\Hp S0 ay σ (Ch.lp l (rec .ready none)::Ch.df D::L)) (λ⟨L,h1,h2⟩ m=>⟨L,h1,h2.grow m⟩) (λ⟨L,h1,h2⟩=>⟨L,[_,_],h1,h2⟩) ?_ ot ⟨L,hK,H1⟩).mono ?_
  ·rintro i hi fU ⟨L2,P0,H2⟩;have de:=H2.all.1.1;have hy:=run_yield (P:=P) (args:=QK i) de (by rw [Kk];exact hps i hi);rw [Kk] at hy;refine ⟨fn,_,assign,body,hy,roundIn_of_wpIn vt ?_⟩;refine wpIn_mono (ab1 l D i (rec .ready none) { rec .ready none with state:= .busy } hi fU L2 P0 H2) ?_;intro e a1 w1 hq;cases e with
   | normal=>
    obtain ⟨fK,L3,rfl,H3,hb⟩:=hq;refine ⟨_,run_beginRound H3.all.1.1 (by rw [Kk]), ?_⟩;have H4:=H3.QJ { rec .ready none with state:= .busy };refine wpIn_mono (hb _ H4) ?_;rintro e a3 w3 ⟨rfl,yx,L5,rfl,hK5,H5⟩;refine ⟨_,_,run_endRound none H5.all.1.1,rfl,yx.put l (.loop (rec .ready none)), ?_,L5,hK5,H5.QJ _⟩;rw [Kk];rfl
   | ret=>exact hq.elim
   | exit id=>exact hq.elim
   | goto t=>exact hq.elim
   | panic ch=>exact hq.elim
   | outgrown=>exact hq.elim
  ·rintro e W2 ⟨⟨v,rfl⟩,fU,rfl,L2,P0,H2⟩;refine ⟨none,_, ?_,ab2 D _ L2 P0 (H2.QJ { rec .ready none with state:= .exhausted }).tail⟩;have:=run_endLoop (P:=P) H2.all.1.1 (by rw [Kk];simp);rw [Kk] at this ⊢;exact this
end
theorem UL{α:Type}{xs:List α}{i:Nat}(h:i<xs.length):bF xs (i:Int)=some xs[i]:=by
 unfold bF;rw [if_pos (by omega)];simp [h]
noncomputable def M.vE{α:Type}(xs:List α):Option (List α):=if xs.length<=2147483648 then some xs else none
theorem NQ{α:Type}{xs r:List α}(h:M.vE xs=some r):xs.length<=2147483648/\r=xs:=by
 unfold M.vE at h;split at h
 ·exact ⟨by assumption,(qaa h).symm⟩
 ·cases h
theorem NR{α:Type}{xs:List α}{i:Nat}(h:i<xs.length)(hn:xs.length<=2147483648):mA (xs.take i) [xs[i]]=some (xs.take (i+1)):=by
 unfold mA;rw [if_pos (by simp;omega),qb1 h]
section
variable{P:Program}{ops:Array Oper}{Q:Exit->Act->World->Prop}{n d:Nat}{ρ:Nat->Value}{σ ay:St}{w:World}{v:Value}{rest:List Oper}{r:Option Nat}{S0:BS}{L:List Ch}
variable{op:Op}{ty:TypeId}{pos:String}{af:Array Edge}
def HH(n:Nat)(ds:List Deferred)(ρ:Nat->Value):Act:={ fr n ρ with defers:=ds }
theorem uj{ds:List Deferred}:(HH n ds ρ).eval=(fr n ρ).eval:=by funext x;cases x <;> rfl
theorem EE{ds:List Deferred}:(HH n ds ρ).put (some d) v=HH n ds (upd ρ d v):=by
 have:=cU n ρ d v;unfold HH;simp only [Act.put] at this ⊢;rw [←this]
theorem stD{ds:List Deferred}(Jx: ∀c,op≠ .defer c)(hr:dR P w.heap n ρ ⟨some d,op,ty,pos,af,none⟩ v)(k:wpListIn (Fz r) 0 P ops Q rest (HH n ds (upd ρ d v)) w):
  wpListIn (Fz r) 0 P ops Q (⟨some d,op,ty,pos,af,none⟩::rest) (HH n ds ρ) w:=by
 unfold wpListIn;rw [if_pos (bg _ rfl _)];refine ⟨λ_ _=>trivial, ?_⟩;rw [Oper.semAt_eq _ _ _ Jx,uj,ba,hr w rfl];simp only [Oper.uponIn_value,EE];exact k
theorem afP{ds:List Deferred}(h:Q .normal (HH n ds ρ) w):wpListIn (Fz r) 0 P ops Q [] (HH n ds ρ) w:=h
theorem rgD{id:Nat}{l:List Oper}{ds:List Deferred}(h:wpListIn (Fz r) 0 P l.toArray Q l (HH n ds ρ) w):(Code.region id l.toArray false).wpIn (Fz r) 0 P Q (HH n ds ρ) w:=wpIn_region_lit h
theorem QL{p:Nat}:({ tmps:=(Array.zip #[p] #[v]).foldl (λt (p,v)=>t.setIfInBounds p v) (fr n ρ).tmps,defers:=[] }:Act)=fr n (upd ρ p v):=by
 rw [←cU];have:(Array.zip #[p] #[v])= #[(p,v)]:=by simp
 simp [this,Act.put,fr]
theorem ab3{f:FuncId}(hf: ∃fn c,P.funcs[f]? =some fn/\(fn.name== "runtime.NumGoroutine")=false/\fn.body=some c)(args:Array Value)(w:World):(callFunc f args).run P w= .ok (.enter f args) w:=by
 obtain ⟨fn,c,h1,h2,h3⟩:=hf;simp only [callFunc,Sem.run_bind,run_program,Result.andThen_ok,h1,h2,h3];simp
theorem QM{f:FuncId}{fn:Func}{c:Code}{l:List Value}{R:Ending->World->Prop}(hf:P.funcs[f]? =some fn)(hb:fn.body=some c)(hn:fn.ntmps=n)(hl:Nat.ble l.length n=true)
  (h:c.wpIn (Fz none) 0 P (bodyPostM Fence.wide 0 P fn R) (fr n (eh l)) w):CallsIn Fence.wide 0 P f l.toArray w R:=by
 refine callsIn_of_wp_marks hf hb trivial ?_;have:=mz l n (by simpa using hl);simp only [qbl,hn,this];exact h
theorem Kl{fn:Func}{R:Ending->World->Prop}(hr:(results fn (fr n ρ).tmps).run P w= .ok v w)(hp:R (.returned v) w):bodyPostM Fence.wide 0 P fn R .normal (fr n ρ) w:=⟨v,hr,hp⟩
theorem QN{fn:Func}{R:Ending->World->Prop}{D:Nat}(H:Hp S0 ay σ (Ch.df D::L))(hr:(results fn (fr n ρ).tmps).run P (σ.put D (.deferred none)).w= .ok v (σ.put D (.deferred none)).w)(hp:R (.returned v) (σ.put D (.deferred none)).w):
  bodyPostM Fence.wide 0 P fn R .ret (HH n [{ target:= .collected D,args:= #[] }] ρ) σ.w:=
 ⟨by simp, .inl ⟨D,_,rfl,run_takeDeferred H.all.1.1,v,hr,hp⟩⟩
end
end Go.Vs
namespace Go.Vs
open Go
end Go.Vs
namespace Go.Vs
open Go
end Go.Vs
namespace Go.Vs
open Go
end Go.Vs
namespace Go.Vs
open Go
end Go.Vs
namespace Go.Vs
end Go.Vs
namespace Go.Vs
end Go.Vs
namespace Go.Vs
end Go.Vs
namespace Go.Vs
def If2(A B:Type):Type:=Int×A×B
@[reducible] def If2.mk{A B:Type}(k:Int)(a:A)(b:B):If2 A B:=(k,a,b)
end Go.Vs
namespace Go.Vs
open Go
end Go.Vs
namespace Go.Vs
open Go
end Go.Vs
namespace Go.Vs
open Go
end Go.Vs
namespace Go.Vs
open Go
def Zm(k:Int)(a b:Value):Value:=bif k==1 then a else bif k==2 then b else .nilIface
end Go.Vs
namespace Go.Vs
open Go
theorem Km{k:Int}{t1 t2:TypeId}{a b:Value}:plain (Zm k (.iface t1 a) (.iface t2 b))=true:=by
 unfold Zm;cases k==1 <;> cases k==2 <;> rfl
@[reducible] def rp2(t1 t2:TypeId){A B:Type}[Rp A][Rp B]:Rp (If2 A B) where
 sz:=1
 rp lo σ cs x:= ∃c1 c2,Rp.rp lo σ c1 x.2.1/\Rp.rp lo σ c2 x.2.2/\cs=[Zm x.1 (.iface t1 (.agg c1.toArray)) (.iface t2 (.agg c2.toArray))]
 pos:=by decide
 len:=by rintro _ _ _ _ ⟨c1,c2,_,_,rfl⟩;rfl
 ss:=by rintro _ _ _ _ _ hE ⟨c1,c2,h1,h2,e⟩;exact ⟨c1,c2,Rp.ss hE h1,Rp.ss hE h2,e⟩
 low:=by rintro _ _ _ _ _ hl ⟨c1,c2,h1,h2,e⟩;exact ⟨c1,c2,Rp.low hl h1,Rp.low hl h2,e⟩
 one:=by
  rintro _ _ _ _ ⟨c1,c2,_,_,rfl⟩ c hc;rw [qbc] at hc;rw [hc];exact Km
end Go.Vs
namespace Go.Vs
open Go
end Go.Vs
namespace Go.Vs
open Go
def B5{β:Type}(f:Nat->Option β):Nat->Option (List β)
 | 0=>some []
 | n+1=>(B5 f n).bind λl=>(f n).bind λx=>some (l++[x])
section
variable{α:Type}[Rp α]
def Ch.ra(vs:List Value)(QO:List (List α)):Ch where
 dup:=true
 fp _:=False
 as σ:=vs.length=QO.length/\ ∀i,(h:i<vs.length)->(h':i<QO.length)->RS 0 σ vs[i] QO[i]
 Hl _ _:=id
 bJ _ _ h:=h.elim
 en m _ h:=⟨h.1,λi hi fa=>(h.2 i hi fa).ext m.ext⟩
theorem Hp.afQ{S0:BS}{ay σ:St}{L:List Ch}{vs:List Value}{QO:List (List α)}{xs:List α}{a:Int}(H:Hp S0 ay σ L)(i:Nat)(h:nth L i=some (Ch.ra vs QO))(hg:bF QO a=some xs):
  ∃ad c,bF vs a=some (Sl ad xs c)/\RS 0 σ (Sl ad xs c) xs:=by
 obtain ⟨h1,h2⟩:vs.length=QO.length/\ ∀i,(h:i<vs.length)->(h':i<QO.length)->RS 0 σ vs[i] QO[i]:=H.get h;obtain ⟨h0,hx,rfl⟩:=jr hg;have hv:a.toNat<vs.length:=by omega
 have hR:=h2 _ hv hx;obtain ⟨ad,c,e⟩:=hR.pD;refine ⟨ad,c, ?_,by rw [show Sl ad QO[a.toNat] c= .slice ad QO[a.toNat].length c from rfl, ←e];exact hR⟩;unfold bF;rw [if_pos h0,qb4 hv,e]
end
section
variable{P:Program}{H:Array Obj}{n:Nat}{ρ:Nat->Value}{d:Option Nat}{ty T E:TypeId}{pos:String}{af:Array Edge}{gd:Option (Nat×Bool)}{x y:Operand}{a:Int}{m bt:Nat}{z v:Value}{vs:List Value}
theorem UM{F:TypeId}(hT:P.underlying T=some (.array m E))(hi:TI P E z 1 bt)(hE:P.underlying E=some (.slice F))(hx:ev n ρ x= .agg vs.toArray)(hy:ev n ρ y=I a)(hg:bF vs a=some v)(hl:vs.length=m):
  dR P H n ρ ⟨d, .index T x y,ty,pos,af,gd⟩ v:=by
 obtain ⟨h0,h1,h2⟩:=jr hg;intro w _;have h3:a<(m:Int):=by omega
 have ua:(isAgg E).run P w= .ok false w:=by
  simp only [isAgg,underlying,Sem.run_bind,run_program,Result.andThen_ok,hE,Sem.run_pure]
 have he:vs[a.toNat]? =some v:=by rw [qb4 h1,h2]
 simp [execOp,hx,hy,Instr.index,asIntOf,underlying,hT,h0,h3,run_typeInfo hi,part,ua,he]
end
end Go.Vs
namespace Go.Vs
open Go
section
variable{P:Program}{ops:Array Oper}{Q:Exit->Act->World->Prop}{rest:List Oper}{n:Nat}{ρ:Nat->Value}{w:World}{d:Nat}{x:Operand}{ty:TypeId}{pos:String}{af:Array Edge}
theorem sm(v:Value)(h:ev n ρ x=v)(k:wpList P ops Q rest (fr n (upd ρ d v)) w):wpList P ops Q (⟨some d, .move x,ty,pos,af,none⟩::rest) (fr n ρ) w:=st (aj h) k
theorem sa(v:Value)(h:ev n ρ x=v)(k:wpList P ops Q rest (fr n (upd ρ d v)) w):wpList P ops Q (⟨some d, .assign x,ty,pos,af,none⟩::rest) (fr n ρ) w:=st (dI h) k
theorem br{α β:Type}{o:Option α}{f:α->Option β}{r:β}{p:Prop}(k: ∀x,o=some x->f x=some r->p):o.bind f=some r->p:=λh=>let ⟨x,h1,h2⟩:=bind_some h;k x h1 h2
theorem sj{α:Type}{a b:α}(h:some a=some b):a=b:=qaa h
end
end Go.Vs
namespace Go.Vs
open Go
section
variable{P:Program}{ops:Array Oper}{Q:Exit->Act->World->Prop}{rest r:List Oper}{n N d:Nat}{ρ:Nat->Value}{w:World}{H:Array Obj}{K:(Nat->Value)->Prop}{op:Op}{x:Operand}{ty:TypeId}{pos:String}{af:Array Edge}{σ ay:St}{S0:BS}
theorem sv(v:Value)(hr:dR P w.heap n ρ ⟨some d,op,ty,pos,af,none⟩ v)(k:wpList P ops Q rest (fr n (upd ρ d v)) w):wpList P ops Q (⟨some d,op,ty,pos,af,none⟩::rest) (fr n ρ) w:=st hr k
theorem dL(v:Value)(hr:dR P H N ρ ⟨some d,op,ty,pos,af,none⟩ v)(k:xq P ops H N K r (upd ρ d v)):xq P ops H N K (⟨some d,op,ty,pos,af,none⟩::r) ρ:=sq hr k
theorem fq{fn:Func}{post:Value->List Ch->Prop}{L':List Ch}{t:Nat}(v:Value)(h:fn.results= #[.tmp t])(hv:look n ρ t=v)(hp:post v L')(H:Hp S0 ay σ L'):bodyPost P fn (Mk post ay S0) .ret (fr n ρ) σ.w:=gF (cD (rs:=[.tmp t]) h (fT hv et) rfl) hp H
abbrev Jn(S0:BS)(ay:St)(n:Nat)(L:List (Nat×Value))(C:List Ch)(e:Exit)(a:Act)(w:World):Prop:=e= .normal/\ ∃(ρ:Nat->Value) (σ:St),a=fr n (cv ρ L)/\w=σ.w/\Hp S0 ay σ C
end
end Go.Vs
namespace Go.Vs
open Go Go.ChangeShapes Go.WideShapes Go.ChangeAt Go.RowKit
theorem UN: ∀b, ¬cH [] b:=λ_ h=>h
theorem Ko{α:Type}[Rp α]{el:Nat}{v:Value}{xs:List α}{L:List Ch}(h: ∀b, ¬cH L b): ∀b, ¬cH (Ch.ro el v xs::L) b:=λb hb=>hb.elim (λh=>h) (h b)
theorem EF{α:Type}[Rp α]{el:Nat}{v:Value}{xs:List α}{L:List Ch}{σ:St}(h:RS el σ v xs)(k:gz σ L):gz σ (Ch.ro el v xs::L):=⟨h,k⟩
theorem uk{α:Type}[Rp α]{el:Nat}{v:Value}{xs:List α}{L:List Ch}(k:apart L):apart (Ch.ro el v xs::L):=⟨λ_ h=>h.elim,k⟩
def bytesOf(zs:List Int):List UInt8:=zs.map λn=>n.toNat.toUInt8
theorem byte_back{n:Int}(h:(Lit.int .u8 n).wf=true):((n.toNat.toUInt8).toNat:Int)=n:=by
 have h1:IntKind.u8.min=0:=rfl;have h2:IntKind.u8.max=255:=rfl;simp only [Lit.wf,qa5,decide_eq_true_eq,h1,h2] at h;have:n.toNat % 256=n.toNat:=Nat.mod_eq_of_lt (by omega);rw [Nat.toUInt8,UInt8.toNat_ofNat',this];omega
theorem QP{W:World}{b off len cap:Nat}{zs:List Int}(hb:b<W.heap.size)(hl:len<=cap)(hz:zs.length=len)
  (hc: ∀i,i<zs.length->W.cell? ⟨b,off+i,none⟩=some (.int .u8 (zs.getD i 0))) (hw: ∀n∈zs,(Lit.int .u8 n).wf=true):
  ∃σ:St,σ.w=W/\RS 0 σ (Sl (some ⟨b,off,none⟩) (bytesOf zs) cap) (bytesOf zs):=by
 refine ⟨⟨W,λc=>if c=b then off+len else 0,λc PX=>if_neg (by omega),True⟩,rfl, .inr ⟨b,off,cap,rfl,qa9 _,by simp [bytesOf];omega, ?_,λi hi=> ?_⟩⟩
 ·show off+(bytesOf zs).length*1<=(if b=b then off+len else 0);rw [if_pos rfl];simp [bytesOf];omega
 ·have fa:i<zs.length:=by simpa [bytesOf] using hi
  refine ⟨[.int .u8 ((bytesOf zs)[i].toNat)],rfl,λj hj=> ?_⟩;have hj0:j=0:=by simpa using hj
  subst hj0;have:=hc i fa;show W.cell? ⟨b,off+i*1+0,none⟩=_;rw [Nat.mul_one,qcd,this];have hm:zs.getD i 0=zs[i]:=by simp [List.getD,fa]
  simp only [hm,bytesOf,List.getElem_map,List.getElem_cons_zero];rw [byte_back (hw _ (qai _))]
theorem QQ(W:World)(a:Option Addr)(c:Nat): ∃σ:St,σ.w=W/\RS 0 σ (Sl a ([]:List UInt8) c) ([]:List UInt8):=⟨⟨W,λ_=>0,λ_ _=>rfl,True⟩,rfl, .inl ⟨⟨a,c,rfl⟩,rfl⟩⟩
end Go.Vs
