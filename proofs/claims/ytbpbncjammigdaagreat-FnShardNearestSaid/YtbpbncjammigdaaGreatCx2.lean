/- One program beside another, one goroutine among others. -/
import Derived.Test.YtbpbncjammigdaaGreatAl
import Derived.Test.YtbpbncjammigdaaGreatCx1
import Derived.Calls
import Derived.Conc.CrowdRun
import Derived.Test.YtbpbncjammigdaaGreatSrt1
import Derived.Test.YtbpbncjammigdaaGreatEng1
import Derived.Conc.Own5
import Derived.Conc.Fork
import Derived.Conc.CrowdStepC
import Derived.Listen
import Derived.RunNT
import Derived.Lone
import Derived.Test.YtbpbncjammigdaaGreatEng2
import Derived.Orders
import Derived.Conc.Events
import Derived.Conc.Own4
import Derived.Conc.Own2
import Derived.Conc.DeferLaws
set_option linter.unusedVariables false
set_option linter.unusedSimpArgs false
set_option maxHeartbeats 4000000
namespace Go.Cx
open Go
variable[bq][aR][bs]
def yM(w w1:World)(g1:Goroutine)(T:World->GStep):Prop:=
 w.drawn<=w1.drawn/\w1.tape=w.tape/\(Dw w->Dw w1)/\ ∀τ:Tape,(∀j q,j<w1.drawn->τ j q=w.tape j q)-> ∃es,T (TW w τ)= .go g1 (TW w1 τ) es
section
variable{L C:Program}{Xs:FuncId->Prop}{β:Bj}{t:Frame}{r:List Frame}{w W w1:World}{g1:Goroutine}
theorem uB{α:Type}{RA:Bj->α->α->Prop}{s s':Sem α}(hs:aM L C RA β s s')(hw:cz β w W){f:FuncId}{F:Result α->GStep}{es:Array Event}
  (h:GStep.after (seen L f (s.runT L w #[]).2) (F (s.runT L w #[]).1)= .go g1 w1 es) (hh: ∀q w2 pN,F (.halt q w2)= .go g1 w1 pN->False)
  (qx: ∀bV v v' w2 W2 pN,RA bV v v'->cz bV w2 W2->Le β bV->F (.ok v w2)= .go g1 w1 pN->yM w2 w1 g1 (λw=>F (.ok v w))):
  yM w w1 g1 (λw=>GStep.after (seen L f (s.runT L w #[]).2) (F (s.runT L w #[]).1)):=by
 obtain ⟨pN,h⟩:=rb h;rw [Sem.runT_fst] at h;cases bP:s.run L w with
 | halt q w2=>rw [bP] at h;exact (hh _ _ _ h).elim
 | ok v w2=>
  rw [bP] at h;obtain ⟨⟨v',W2,bV,e1,e2,e3⟩,e4,e5,ed,e6⟩:=hs.tape hw bP;obtain ⟨l1,l2,ld,l3⟩:=qx bV v v' w2 W2 pN e1 e2 e3 h;refine ⟨qac e4 l1,l2.trans e5,λh=>ld (ed h),λτ mI=> ?_⟩;have h1:=e6 τ λj q _ hj=>mI j q (qa4 hj l1);obtain ⟨es3,h3⟩:=l3 τ λj q hj=>(mI j q hj).trans (by rw [e5]);simp only at h3 ⊢;rw [Sem.runT_fst,h1,h3];exact ⟨_,rfl⟩
omit [bq] [aR] [bs] in
theorem iI{T:World->GStep}{g:Goroutine}(hT: ∀w,T w= .go g w){es:Array Event}(h:T w= .go g1 w1 es):yM w w1 g1 T:=by
 rw [hT] at h;cases h;exact ⟨qa3 _,rfl,id,λτ _=>⟨_,hT _⟩⟩
omit [aR] in
theorem MI{a b:Frame}{k k':List Frame}{m:Bool}(eR:cM L C β (a::k) (b::k')){v:Value}{es:Array Event}
  (h:doReturn L m a (k++t::r) none v w= .go g1 w1 es):yM w w1 g1 (doReturn L m a (k++t::r) none v):=by
 have ha:=eR.top;cases eR with
 | one _ hr=>exact iI (g:=fD (t.finish v) r) (λw=>by unfold doReturn;rw [ha.kind.1];rfl) h
 | cons _ hk=>
  cases hk with
  | @one a2 b2 h2 hr=>exact iI (g:=fD (a2.finish v) (t::r)) (λw=>by unfold doReturn;rw [ha.kind.1];rfl) h
  | @cons a2 b2 k2 k2' h2 hk=>exact iI (g:=fD (a2.finish v) (k2++t::r)) (λw=>by unfold doReturn;rw [ha.kind.1];rfl) h
theorem KJ(HF:PF L C Xs){a b:Frame}{k k':List Frame}{m:Bool}(eR:cM L C β (a::k) (b::k')){j:Option Code}(hj: ∀c,j=some c->cG L C c)(hw:cz β w W){es:Array Event}
  (h:Lv L m a (k++t::r) w j= .go g1 w1 es):yM w w1 g1 (λw=>Lv L m a (k++t::r) w j):=by
 have ha:=eR.top;obtain ⟨fn,tm,todo,df,md,kd,ro⟩:=a;obtain ⟨iF,CC,qZ,JD,KE,GY,CE⟩:=b;have tu:=ha.round;simp only at tu;unfold Lv at h ⊢;cases tu with
 | none=>
  simp only at h ⊢;split at h
  all_goals first
   | exact iI (λw=>rfl) h
   | (simp at h)
 | some hl=>
  simp only at h ⊢;refine uB (C:=C) (F:=λq=>match q with
   | .ok v w=>doReturn L m _ (k++t::r) none v w
   | .halt _ w=> .ended (.stuck "range over a function: no such loop" _) w) (tt hl j λc hc=>(HF.code c).2 (hj c hc)) hw h ?_ ?_
  ·intro q w2 pN h;cases h
  ·intro bV v v' w2 W2 pN hv qF hT h;exact MI (eR.mono hT) h
theorem vP(HF:PF L C Xs){a b:Frame}{k k':List Frame}(eR:cM L C β (a::k) (b::k')){s s':Sem Next}(hs:aM L C kQ β s s')(hw:cz β w W){es:Array Event}
  (h:stepG.apply L true a (k++t::r) none s w= .go g1 w1 es) (hp: ¬cY g1):yM w w1 g1 (stepG.apply L true a (k++t::r) none s):=by
 have ha:=eR.top;have Hq:(a.kind== .early)=false:=by rw [ha.kind.1];rfl
 have kA:stepG.apply.match_1 (λ_=>CallKind) a.todo (λd resume saved tail=>CallKind.wrapped) (λx=>CallKind.normal)= .normal:=by
  have:=ha.todo;generalize a.todo=ta at this;generalize b.todo=tb at this;cases this with
  | nil=>rfl
  | cons hi _=>cases hi <;> rfl
 have key: ∀w2:World, ∀v,s.run L w= .ok v w2->yM w w1 g1 (stepG.apply L true a (k++t::r) none s):=by
  intro w2 n bP;obtain ⟨⟨v',W2,bV,e1,e2,e3⟩,e4,e5,ed,e6⟩:=hs.tape hw bP;have hl: ∀(g:Goroutine),(∀w w2:World,s.run L w= .ok n w2-> ∃es,stepG.apply L true a (k++t::r) none s w= .go g w2 es)->yM w w1 g1 (stepG.apply L true a (k++t::r) none s):=by
   intro g hg;obtain ⟨es3,h3⟩:=hg w w2 bP;rw [h3] at h;cases h;exact ⟨e4,e5,ed,λτ mI=>hg _ _ (e6 τ λj q _=>mI j q)⟩
  have MB: ∀w w2:World,s.run L w= .ok n w2-> ∃es,s.runT L w #[]=(.ok n w2,es):=by
   intro w w2 h;exact ⟨(s.runT L w #[]).2,by rw [←h, ←Sem.runT_fst L s w #[]]⟩
  cases e1 with
  | value hv=>
   rename_i v _;refine hl (fD (a.finish v) (k++t::r)) λw w2 hr=> ?_;obtain ⟨es,h⟩:=MB w w2 hr;unfold stepG.apply;simp only [if_true,h,GStep.after];exact ⟨_,rfl⟩
  | skip=>
   refine hl (fD (a.finish undef) (k++t::r)) λw w2 hr=> ?_;obtain ⟨es,h⟩:=MB w w2 hr;unfold stepG.apply;simp only [if_true,h,GStep.after];exact ⟨_,rfl⟩
  | @enter f x x' qx nO hx=>
   refine hl (fD (Frame.enter L f x .normal) (a::(k++t::r))) λw w2 hr=> ?_;obtain ⟨es,h⟩:=MB w w2 hr;unfold stepG.apply;simp only [if_true,h,GStep.after,kA];exact ⟨_,rfl⟩
  | @round l l' f x x' ca cb hca hcb om hx=>
   refine hl (fD (Frame.round l f x ca cb .normal) (a::(k++t::r))) λw w2 hr=> ?_;obtain ⟨es,h⟩:=MB w w2 hr;unfold stepG.apply;simp only [if_true,h,GStep.after];exact ⟨_,rfl⟩
 cases bP:s.run L w with
 | ok n w2=>exact key w2 n bP
 | halt hh w2=>
  exfalso;unfold stepG.apply at h;have hR:s.runT L w #[]=(.halt hh w2,(s.runT L w #[]).2):=by rw [←bP, ←Sem.runT_fst L s w #[]]
  simp only [if_true] at h;rw [hR] at h;obtain ⟨pN,h⟩:=rb h;have wP:=(hs.yz hw bP).1;cases hh with
  | panic v=>cases h;exact hp (mS _ _)
  | stuck s=>cases h
  | unsupported u=>
   cases u with
   | initOrder g=>exact wP g rfl
   | _=>cases h
  | _=>exact wP.elim
theorem Q7(HP:fx L C)(HF:PF L C Xs){a b:Frame}{k k':List Frame}{m:Bool}(eR:cM L C β (a::k) (b::k'))(hm:a.mode= .run)(hw:cz β w W){es:Array Event}
  (h:stepG.exec L m true a (k++t::r) none w= .go g1 w1 es) (hp: ¬cY g1):yM w w1 g1 (stepG.exec L m true a (k++t::r) none):=by
 have ha:=eR.top;obtain ⟨fn,tm,todo,df,md,kd,ro⟩:=a;obtain ⟨iF,CC,qZ,JD,KE,GY,CE⟩:=b;have hT:=ha.todo;have vt:=ha.fn;simp only at hT hm vt;subst vt;subst hm;cases hT with
 | nil=>
  have e: ∀w,stepG.exec L m true _ (k++t::r) none w=Lv L m _ (k++t::r) w none:=λw=>ER _ _ { fn:=iF,tmps:=tm,todo:=[],defers:=df,mode:= .run,kind:=kd,roundOf:=ro } _ _ rfl;rw [e] at h;rw [funext e];exact KJ HF eR (λc h=>by cases h) hw h
 | @cons i_ i_' K K' hi hk=>
  cases hi with
  | inBlock id=>exact iI (λw=>rfl) h
  | inLoop hc=>exact iI (λw=>rfl) h
  | kS hl=>cases h
  | beginRound=>
   have tu:=ha.round;simp only at tu;refine vP (C:=C) (s':=do CE.elim (stuck "beginRound: no round") Instr.beginRound;pure .skip) HF eR ?_ hw h hp;cases tu with
   | none=>exact (bk.ee bk.halt).rel
   | some hl=>exact (pO hl).bd λgA _ _ hl _=> .pure .skip
  | @jT l l' hl=>
   refine uB (C:=C) (F:=λq=>match q with
     | .ok jump w=> .go { frame:={ fn:=iF,tmps:=tm,todo:=(jump.map Item.code).toList++_,defers:=df,mode:= .run,kind:=kd,roundOf:=ro },callers:=k++t::r,status:= .running,dying:=none } w
     | .halt (.panic v) w=> .go { frame:=Frame.raise _ [{ v,recovered:=false }],callers:=k++t::r,status:= .running,dying:=none } w
     | .halt _ w=> .ended (.stuck "range over a function: no such loop" _) w) (vO hl) hw h ?_ ?_
   ·intro q w2 pN h;cases q with
    | panic v=>cases h;exact hp (mS _ _)
    | _=>cases h
   ·intro bV v v' w2 W2 pN hv qF hT h;exact iI (λw=>rfl) h
  | @inRegion ops td ho=>
   cases td with
   | nil=>exact iI (λw=>rfl) h
   | cons i td=>
    simp only [stepG.exec] at h;split at h
    ·rename_i hq;cases cL:ops[i]? with
     | none=>rw [cL] at hq;cases hq
     | some o=>
      have qx:=ho o (qb2 cL);have hd: ∀c,o.op≠ .defer c:=λc q=>by rw [q] at qx;exact qx
      have e: ∀w,stepG.oper L true _ (k++t::r) none w=stepG.apply L true _ (k++t::r) none (execOp _ o) w:=λw=>xW L { fn:=iF,tmps:=tm,todo:= .inRegion ops (i::td)::K,defers:=df,mode:= .run,kind:=kd,roundOf:=ro } (k++t::r) w (by simp only [Frame.oper?];exact cL) hd;rw [e] at h;have e2: ∀w,stepG.exec L m true { fn:=iF,tmps:=tm,todo:= .inRegion ops (i::td)::K,defers:=df,mode:= .run,kind:=kd,roundOf:=ro } (k++t::r) none w=stepG.apply L true { fn:=iF,tmps:=tm,todo:= .inRegion ops (i::td)::K,defers:=df,mode:= .run,kind:=kd,roundOf:=ro } (k++t::r) none (execOp (Frame.eval { fn:=iF,tmps:=tm,todo:= .inRegion ops (i::td)::K,defers:=df,mode:= .run,kind:=kd,roundOf:=ro }) o) w:=by
       intro w;simp only [stepG.exec];rw [if_pos hq];exact e w
      rw [funext e2];exact vP HF eR (KD HP ha.eval o qx) hw h hp
    ·rename_i hq;refine iI (g:=fD (Frame.finish { fn:=iF,tmps:=tm,todo:= .inRegion ops (i::td)::K,defers:=df,mode:= .run,kind:=kd,roundOf:=ro } undef) (k++t::r)) (λw=> ?_) (w:=w) (es:=es) ?_
     ·simp only [stepG.exec];rw [if_neg hq]
     ·simp only [stepG.exec];rw [if_neg hq];exact h
  | code hc=>
   cases hc with
   | skip=>exact iI (λw=>rfl) h
   | label l=>exact iI (λw=>rfl) h
   | ret=>
    have e: ∀w,stepG.exec L m true _ (k++t::r) none w=Lv L m _ (k++t::r) w (some .ret):=λw=>ES _ _ { fn:=iF,tmps:=tm,todo:= .code .ret::K,defers:=df,mode:= .run,kind:=kd,roundOf:=ro } K _ _ rfl;rw [e] at h;rw [funext e];exact KJ HF eR (λc h=>by cases h;exact .ret) hw h
   | seq h1 h2=>exact iI (λw=>rfl) h
   | block id h1=>exact iI (λw=>rfl) h
   | loop h1=>exact iI (λw=>rfl) h
   | exit id=>
    rcases yK id hk with ⟨e1,e2⟩ | ⟨q,q',e1,e2,hq⟩
    ·have e: ∀w,stepG.exec L m true _ (k++t::r) none w=Lv L m _ (k++t::r) w (some (.exit id)):=λw=>xV _ _ { fn:=iF,tmps:=tm,todo:= .code (.exit id)::K,defers:=df,mode:= .run,kind:=kd,roundOf:=ro } id K _ _ rfl e1;rw [e] at h;rw [funext e];exact KJ HF eR (λc h=>by cases h;exact .exit id) hw h
    ·refine iI (g:=fD { fn:=iF,tmps:=tm,todo:=q,defers:=df,mode:= .run,kind:=kd,roundOf:=ro } (k++t::r)) (λw=> ?_) h;simp only [stepG.exec,e1,Option.elim_some]
   | @cond c x y hc h1 h2=>
    have he:=ha.eval c hc;simp only [stepG.exec] at h;have e2: ∀w,stepG.exec L m true { fn:=iF,tmps:=tm,todo:= .code (.cond c x y)::K,defers:=df,mode:= .run,kind:=kd,roundOf:=ro } (k++t::r) none w=(match Frame.eval { fn:=iF,tmps:=tm,todo:= .code (.cond c x y)::K,defers:=df,mode:= .run,kind:=kd,roundOf:=ro } c with
      | .bool b=> .go { frame:={ fn:=iF,tmps:=tm,todo:= .code (if b then x else y)::K,defers:=df,mode:= .run,kind:=kd,roundOf:=ro },callers:=k++t::r,status:= .running,dying:=none } w
      | _=> .ended (.stuck "cond: bool expected" (Frame.pos L { fn:=iF,tmps:=tm,todo:= .code (.cond c x y)::K,defers:=df,mode:= .run,kind:=kd,roundOf:=ro })) w):=λw=>rfl
    rw [funext e2];revert h;generalize Frame.eval _ c=u at he;generalize Frame.eval _ c=u' at he;intro h;cases he with
    | bool q=>exact iI (λw=>rfl) h
    | _=>cases h
   | @region id ops draw ho=>
    cases draw with
    | false=>exact iI (λw=>rfl) h
    | true=>
     have hs:aM L C (fR λ_=>True) β (choose (.order iF id)) (choose (.order iF id)):= .choose λn=> .pure ⟨rfl,trivial⟩;have e2: ∀(w w2:World) n,(choose (.order iF id)).run L w= .ok n w2->stepG.exec L m true { fn:=iF,tmps:=tm,todo:= .code (.region id ops true)::K,defers:=df,mode:= .run,kind:=kd,roundOf:=ro } (k++t::r) none w= .go (fD { fn:=iF,tmps:=tm,todo:= .inRegion ops (Region.schedule (L.follows .mixedOrders) ops n)::K,defers:=df,mode:= .run,kind:=kd,roundOf:=ro } (k++t::r)) w2:=by
      intro w w2 n hr;simp only [stepG.exec,qah,qa7,if_false];rw [hr]
     cases bP:(choose (.order iF id)).run L w with
     | halt q w2=>
      simp only [stepG.exec,qah,qa7,if_false] at h;rw [bP] at h;cases h
     | ok n w2=>
      obtain ⟨⟨n',W2,bV,e1,e3,e4⟩,e5,e6,ed,e7⟩:=hs.tape hw bP;rw [e2 _ _ _ bP] at h;cases h;exact ⟨e5,e6,ed,λτ mI=>⟨#[],e2 _ _ _ (e7 τ λj q _=>mI j q)⟩⟩
   | @rangeFunc f ps x y hf h1 h2=>
    refine uB (C:=C) (F:=λq=>match q with
      | .ok (l,mark) w=>stepG.apply L true { fn:=iF,tmps:=tm,todo:= .inRangeFunc l::_,defers:=mark++df,mode:= .run,kind:=kd,roundOf:=ro } (k++t::r) none (do let d←resolve (Frame.eval { fn:=iF,tmps:=tm,todo:= .inRangeFunc l::_,defers:=mark++df,mode:= .run,kind:=kd,roundOf:=ro }) { callee:= .value f,args:= #[.const (.func (.yield l) #[] #[])],argTypes:= #[] } 0;invoke d.target d.args) w
      | .halt _ w=> .ended (.stuck "range over a function: no such loop" _) w) (re iF ps ha.tmps ((HF.code _).2 h1) ((HF.code _).2 h2) ha.round) hw h ?_ ?_
    ·intro q w2 pN h;cases h
    ·rintro bV ⟨l,mk⟩ ⟨l',mk'⟩ w2 W2 pN ⟨hl,hmk⟩ qF hT h;have oO:=ha.mono hT;have yL:cM L C bV ({ fn:=iF,tmps:=tm,todo:= .inRangeFunc l::K,defers:=mk++df,mode:= .run,kind:=kd,roundOf:=ro }::k) ({ fn:=iF,tmps:=CC,todo:= .inRangeFunc l'::K',defers:=mk'++JD,mode:=KE,kind:=GY,roundOf:=CE }::k'):=
      (eR.mono hT).swap ⟨rfl,oO.tmps, .cons (.kS hl) (hk.mono hT),hmk.append oO.defers,oO.mode,ha.kind,oO.round,oO.vM⟩ rfl
     refine vP HF yL (KH (v':= .func (.yield l') #[] #[]) HP (yL.top.eval f hf) ?_) qF h hp;exact .func (.yield hl) rfl rfl (λi v v' q=>by simp at q) (λi v v' q=>by simp at q)
theorem KL(HP:fx L C){a b:Frame}{k k':List Frame}{m:Bool}(eR:cM L C β (a::k) (b::k'))(hm:a.mode= .returning)(hw:cz β w W){es:Array Event}
  (h:unwind L m a (k++t::r) none w= .go g1 w1 es):yM w w1 g1 (unwind L m a (k++t::r) none):=by
 have ha:=eR.top;obtain ⟨fn,tm,todo,df,md,kd,ro⟩:=a;obtain ⟨iF,CC,qZ,JD,KE,GY,CE⟩:=b;have hD:=ha.defers;have vt:=ha.fn;simp only at hD hm vt;subst vt;subst hm;obtain ⟨Vb,tu⟩:KE= .returning/\ro=none:=by rcases ha.mode with h | h;(cases h.1);exact ⟨h.2.1,h.2.2⟩
 subst Vb;subst tu;unfold unwind at h ⊢;cases hD with
 | @cons q q' ds ds' hq hd=>
  simp only at h ⊢;refine uB (C:=C) (F:=λx=>match x with
    | .ok calls w=> .go { frame:={ fn:=iF,tmps:=tm,todo:=todo,defers:=calls++ds,mode:= .returning,kind:=kd,roundOf:=none },callers:=k++t::r,status:= .running,dying:=none } w
    | .halt _ w=> .ended (.stuck "the deferred calls of a range-over-func loop have been taken" _) w) (np hq) hw h ?_ ?_
  ·intro q w2 pN h;cases h
  ·rintro bV v v' w2 W2 pN hv qF hT h;exact iI (λw=>rfl) h
 | nil=>
  simp only at h ⊢;obtain ⟨f,e1,e2⟩:=ha.vM rfl;simp only at e1;rw [e1] at h ⊢;simp only at h ⊢;refine uB (C:=C) (F:=λx=>match x with
    | .ok v w=>doReturn L m { fn:=iF,tmps:=tm,todo:=todo,defers:=[],mode:= .returning,kind:=kd,roundOf:=none } (k++t::r) none v w
    | .halt (.stuck s) w=> .ended (.stuck s _) w
    | .halt _ w=> .ended (.stuck "return: the result variables cannot be read" _) w) (rW HP f ha.tmps) hw h ?_ ?_
  ·intro q w2 pN h;cases q <;> cases h
  ·rintro bV v v' w2 W2 pN hv qF hT h;exact MI (eR.mono hT) h
theorem uC(HP:fx L C)(HF:PF L C Xs){a b:Frame}{k k':List Frame}{m:Bool}(eR:cM L C β (a::k) (b::k'))(hw:cz β w W){es:Array Event}
  (h:stepG L m (fD a (k++t::r)) w= .go g1 w1 es) (hp: ¬cY g1):yM w w1 g1 (λw=>stepG L m (fD a (k++t::r)) w):=by
 rcases eR.top.mode with ⟨m1,m2⟩ | ⟨m1,m2,_⟩
 ·have e: ∀w,stepG L m (fD a (k++t::r)) w=stepG.exec L m true a (k++t::r) none w:=by
   intro w;unfold stepG fD;simp only [m1]
  rw [e] at h;rw [funext e];exact Q7 HP HF eR m1 hw h hp
 ·have e: ∀w,stepG L m (fD a (k++t::r)) w=unwind L m a (k++t::r) none w:=by
   intro w;unfold stepG fD;simp only [m1]
  rw [e] at h;rw [funext e];exact KL HP eR m1 hw h
end
end Go.Cx
namespace Go.Cx
open Go
variable[bq][aR][bs]
def Q8(ds:List Deferred):Prop:= ∀d∈ds, ∃r x,d={ target:= .collected r,args:=x }
omit [bq] [aR] [bs] in
theorem lP.vE{β:Bj}{x y:List Deferred}(h:lP β x y):Q8 x:=by
 induction h with
 | nil=>intro d hd;simp at hd
 | cons _ _ ih=>
  intro d hd;rcases qab.1 hd with rfl | hd
  ·exact ⟨_,_,rfl⟩
  ·exact ih d hd
def HY(a:Frame)(cs:List Frame)(w:World)(T:GStep):Prop:=
 (∃g1 w1 es,T= .go g1 w1 es/\(cY g1->(Dw w->Dw w1)/\ ∃a2 vs,Q8 a2.defers/\g1=fD (Frame.raise a2 vs) cs))\/ ∃o w1 es,T= .ended o w1 es
omit [bq] [aR] [bs] in
theorem HY.after{a:Frame}{cs:List Frame}{w:World}{T:GStep}(h:HY a cs w T)(es:Array Event):HY a cs w (GStep.after es T):=by
 rcases h with ⟨g1,w1,es1,rfl,hb⟩ | ⟨o,w1,es1,rfl⟩
 ·exact .inl ⟨g1,w1,_,rfl,hb⟩
 ·exact .inr ⟨o,w1,_,rfl⟩
omit [bq] [aR] [bs] in
theorem oz{a:Frame}{cs:List Frame}{g:Goroutine}{w0 w:World}{es:Array Event}(h: ∀ch,g.frame.mode≠ .panicking ch):HY a cs w0 (.go g w es):= .inl ⟨g,w,es,rfl,λ⟨ch,q⟩=>absurd q (h ch)⟩
omit [bq] [aR] [bs] in
theorem kT{a:Frame}{cs:List Frame}{o:Outcome}{w0 w:World}{es:Array Event}:HY a cs w0 (.ended o w es):= .inr ⟨o,w,es,rfl⟩
omit [bq] [aR] [bs] in
theorem jd(a:Frame)(v:Value):(a.finish v).mode=a.mode:=by
 unfold Frame.finish;split <;> rfl
section
variable{L C:Program}{Xs:FuncId->Prop}{β:Bj}{t:Frame}{r:List Frame}{w W:World}
omit [aR] in
theorem iz.calm{a b:Frame}(h:iz L C β a b): ∀ch,a.mode≠ .panicking ch:=λch q=>by
 rcases h.mode with ⟨h,_⟩ | ⟨h,_⟩ <;> rw [h] at q <;> cases q
theorem uD{α:Type}{RA:Bj->α->α->Prop}{s s':Sem α}(hs:aM L C RA β s s')(hw:cz β w W){f:FuncId}{F:Result α->GStep}{a:Frame}{cs:List Frame}
  (hh: ∀q w2,Kr q->(Dw w->Dw w2)->HY a cs w (F (.halt q w2)))
  (qx: ∀bV v v' w2 W2,RA bV v v'->cz bV w2 W2->Le β bV->(Dw w->Dw w2)->HY a cs w (F (.ok v w2))):
  HY a cs w (GStep.after (seen L f (s.runT L w #[]).2) (F (s.runT L w #[]).1)):=by
 refine HY.after ?_ _;rw [Sem.runT_fst];cases bP:s.run L w with
 | halt q w2=>exact hh q w2 (hs.yz hw bP).1 (hs.yz hw bP).2
 | ok v w2=>
  obtain ⟨⟨v',W2,bV,e1,e2,e3⟩,e4,e5,ed,e6⟩:=hs.tape hw bP;exact qx bV v v' w2 W2 e1 e2 e3 ed
omit [aR] in
theorem MJ(ht:t.mode= .run){a b:Frame}{k k':List Frame}{m:Bool}(eR:cM L C β (a::k) (b::k')){v:Value}{w2:World}{a2:Frame}{cs:List Frame}:
  HY a2 cs w (doReturn L m a (k++t::r) none v w2):=by
 have ha:=eR.top;unfold doReturn;rw [ha.kind.1];cases eR with
 | one _ hr=>exact oz λch q=>by rw [show (fD (t.finish v) r).frame.mode=t.mode from jd _ _,ht] at q;cases q
 | cons _ hk=>
  cases hk with
  | @one a3 b3 h2 hr=>exact oz λch q=>by rw [show (fD (a3.finish v) (t::r)).frame.mode=a3.mode from jd _ _] at q;exact h2.calm ch q
  | @cons a3 b3 k3 k3' h2 hk=>exact oz λch q=>by rw [show (fD (a3.finish v) (k3++t::r)).frame.mode=a3.mode from jd _ _] at q;exact h2.calm ch q
theorem KM(ht:t.mode= .run)(HF:PF L C Xs){a b:Frame}{k k':List Frame}{m:Bool}(eR:cM L C β (a::k) (b::k')){j:Option Code}(hj: ∀c,j=some c->cG L C c)(hw:cz β w W){a2:Frame}{cs:List Frame}:
  HY a2 cs w (Lv L m a (k++t::r) w j):=by
 have ha:=eR.top;obtain ⟨fn,tm,todo,df,md,kd,ro⟩:=a;obtain ⟨iF,CC,qZ,JD,KE,GY,CE⟩:=b;have tu:=ha.round;simp only at tu;unfold Lv;cases tu with
 | none=>
  simp only;split
  all_goals simp only [if_true,qa7,if_false]
  all_goals first
   | exact oz λch q=>by cases q
   | exact kT
 | some hl=>
  simp only;refine uD (C:=C) (F:=λq=>match q with
   | .ok v w=>doReturn L m _ (k++t::r) none v w
   | .halt _ w=> .ended (.stuck "range over a function: no such loop" _) w) (tt hl j λc hc=>(HF.code c).2 (hj c hc)) hw ?_ ?_
  ·intro q w2 _ _;exact kT
  ·intro bV v v' w2 W2 hv qF hT _;exact MJ ht (eR.mono hT)
theorem vQ{a b:Frame}{k k':List Frame}(eR:cM L C β (a::k) (b::k')){s s':Sem Next}(hs:aM L C kQ β s s')(hw:cz β w W):
  HY a (k++t::r) w (stepG.apply L true a (k++t::r) none s w):=by
 have ha:=eR.top;unfold stepG.apply;simp only [if_true];rcases hR:s.runT L w #[] with ⟨q,qH⟩
 have bP:s.run L w=q:=by rw [←Sem.runT_fst L s w #[],hR]
 simp only;refine HY.after ?_ _;cases q with
 | halt hh w2=>
  obtain ⟨wP,Om⟩:=hs.yz hw bP;cases hh with
  | panic v=>exact .inl ⟨_,_,_,rfl,λ_=>⟨Om,_,_,ha.defers.vE,rfl⟩⟩
  | stuck s=>exact kT
  | unsupported u=>
   cases u with
   | initOrder g=>exact (wP g rfl).elim
   | _=>exact kT
  | _=>exact wP.elim
 | ok n w2=>
  obtain ⟨⟨v',W2,bV,e1,e2,e3⟩,e4,e5,ed,e6⟩:=hs.tape hw bP;cases e1 with
  | @value v v' hv=>exact oz λch q=>by rw [show (fD (a.finish v) (k++t::r)).frame.mode=a.mode from jd _ _] at q;exact ha.calm ch q
  | skip=>exact oz λch q=>by rw [show (fD (a.finish undef) (k++t::r)).frame.mode=a.mode from jd _ _] at q;exact ha.calm ch q
  | enter f qx nO hx=>exact oz λch q=>by cases q
  | round f ca cb hca hcb om hx=>exact oz λch q=>by cases q
theorem Q9(ht:t.mode= .run)(HP:fx L C)(HF:PF L C Xs){a b:Frame}{k k':List Frame}{m:Bool}(eR:cM L C β (a::k) (b::k'))(hm:a.mode= .run)(hw:cz β w W):
  HY a (k++t::r) w (stepG.exec L m true a (k++t::r) none w):=by
 have ha:=eR.top;obtain ⟨fn,tm,todo,df,md,kd,ro⟩:=a;obtain ⟨iF,CC,qZ,JD,KE,GY,CE⟩:=b;have hT:=ha.todo;have vt:=ha.fn;simp only at hT hm vt;subst vt;subst hm;have calm: ∀{g:Goroutine} {w0 w:World},g.frame.mode= .run->HY { fn:=iF,tmps:=tm,todo:=todo,defers:=df,mode:= .run,kind:=kd,roundOf:=ro } (k++t::r) w0 (.go g w):=λh=>oz λch q=>by rw [h] at q;cases q
 cases hT with
 | nil=>
  rw [ER _ _ _ _ _ rfl];exact KM ht HF eR (λc h=>by cases h) hw
 | @cons i_ i_' K K' hi hk=>
  cases hi with
  | inBlock id=>exact calm rfl
  | inLoop hc=>exact calm rfl
  | kS hl=>exact kT
  | beginRound=>
   have tu:=ha.round;simp only at tu;refine vQ (C:=C) (s':=do CE.elim (stuck "beginRound: no round") Instr.beginRound;pure .skip) eR ?_ hw;cases tu with
   | none=>exact (bk.ee bk.halt).rel
   | some hl=>exact (pO hl).bd λgA _ _ hl _=> .pure .skip
  | @jT l l' hl=>
   refine uD (C:=C) (F:=λq=>match q with
     | .ok jump w=> .go { frame:={ fn:=iF,tmps:=tm,todo:=(jump.map Item.code).toList++_,defers:=df,mode:= .run,kind:=kd,roundOf:=ro },callers:=k++t::r,status:= .running,dying:=none } w
     | .halt (.panic v) w=> .go { frame:=Frame.raise _ [{ v,recovered:=false }],callers:=k++t::r,status:= .running,dying:=none } w
     | .halt _ w=> .ended (.stuck "range over a function: no such loop" _) w) (vO hl) hw ?_ ?_
   ·intro q w2 hq Om;cases q with
    | panic v=>exact .inl ⟨_,_,_,rfl,λ_=>⟨Om,_,_,ha.defers.vE,rfl⟩⟩
    | _=>exact kT
   ·intro bV v v' w2 W2 hv qF hT _;exact calm rfl
  | @inRegion ops td ho=>
   cases td with
   | nil=>exact calm rfl
   | cons i td=>
    simp only [stepG.exec];split
    ·rename_i hq;cases cL:ops[i]? with
     | none=>rw [cL] at hq;cases hq
     | some o=>
      have qx:=ho o (qb2 cL);have hd: ∀c,o.op≠ .defer c:=λc q=>by rw [q] at qx;exact qx
      rw [xW _ _ _ _ (o:=o) (by simp only [Frame.oper?];exact cL) hd];exact vQ eR (KD HP ha.eval o qx) hw
    ·exact calm (jd _ _)
  | code hc=>
   cases hc with
   | skip=>exact calm rfl
   | label l=>exact calm rfl
   | ret=>
    rw [ES _ _ _ _ _ _ rfl];exact KM ht HF eR (λc h=>by cases h;exact .ret) hw
   | seq h1 h2=>exact calm rfl
   | block id h1=>exact calm rfl
   | loop h1=>exact calm rfl
   | exit id=>
    rcases yK id hk with ⟨e1,e2⟩ | ⟨q,q',e1,e2,hq⟩
    ·rw [xV _ _ _ id _ _ _ rfl e1];exact KM ht HF eR (λc h=>by cases h;exact .exit id) hw
    ·simp only [stepG.exec,e1,Option.elim_some];exact calm rfl
   | @cond c x y hc h1 h2=>
    simp only [stepG.exec];split
    ·exact calm rfl
    ·exact kT
   | @region id ops draw ho=>
    cases draw with
    | false=>exact calm rfl
    | true=>
     simp only [stepG.exec,qah,qa7,if_false];split
     ·exact calm rfl
     ·exact kT
   | @rangeFunc f ps x y hf h1 h2=>
    refine uD (C:=C) (F:=λq=>match q with
      | .ok (l,mark) w=>stepG.apply L true { fn:=iF,tmps:=tm,todo:= .inRangeFunc l::_,defers:=mark++df,mode:= .run,kind:=kd,roundOf:=ro } (k++t::r) none (do let d←resolve (Frame.eval { fn:=iF,tmps:=tm,todo:= .inRangeFunc l::_,defers:=mark++df,mode:= .run,kind:=kd,roundOf:=ro }) { callee:= .value f,args:= #[.const (.func (.yield l) #[] #[])],argTypes:= #[] } 0;invoke d.target d.args) w
      | .halt _ w=> .ended (.stuck "range over a function: no such loop" _) w) (re iF ps ha.tmps ((HF.code _).2 h1) ((HF.code _).2 h2) ha.round) hw ?_ ?_
    ·intro q w2 _ _;exact kT
    ·rintro bV ⟨l,mk⟩ ⟨l',mk'⟩ w2 W2 ⟨hl,hmk⟩ qF hT Om;have oO:=ha.mono hT;have yL:cM L C bV ({ fn:=iF,tmps:=tm,todo:= .inRangeFunc l::K,defers:=mk++df,mode:= .run,kind:=kd,roundOf:=ro }::k) ({ fn:=iF,tmps:=CC,todo:= .inRangeFunc l'::K',defers:=mk'++JD,mode:=KE,kind:=GY,roundOf:=CE }::k'):=
      (eR.mono hT).swap ⟨rfl,oO.tmps, .cons (.kS hl) (hk.mono hT),hmk.append oO.defers,oO.mode,ha.kind,oO.round,oO.vM⟩ rfl
     have:=vQ (t:=t) (r:=r) yL (KH (v':= .func (.yield l') #[] #[]) HP (yL.top.eval f hf) (.func (.yield hl) rfl rfl (λi v v' q=>by simp at q) (λi v v' q=>by simp at q))) qF;rcases this with ⟨g1,w1,es,e1,hb⟩ | h
     ·exact .inl ⟨g1,w1,es,e1,λq=>let ⟨h1,a2,vs,h2,h3⟩:=hb q;⟨λh=>h1 (Om h),a2,vs,h2,h3⟩⟩
     ·exact .inr h
theorem KN(ht:t.mode= .run)(HP:fx L C){a b:Frame}{k k':List Frame}{m:Bool}(eR:cM L C β (a::k) (b::k'))(hm:a.mode= .returning)(hw:cz β w W):
  HY a (k++t::r) w (unwind L m a (k++t::r) none w):=by
 have ha:=eR.top;obtain ⟨fn,tm,todo,df,md,kd,ro⟩:=a;obtain ⟨iF,CC,qZ,JD,KE,GY,CE⟩:=b;have hD:=ha.defers;have vt:=ha.fn;simp only at hD hm vt;subst vt;subst hm;obtain ⟨Vb,tu⟩:KE= .returning/\ro=none:=by rcases ha.mode with h | h;(cases h.1);exact ⟨h.2.1,h.2.2⟩
 subst Vb;subst tu;unfold unwind;cases hD with
 | @cons q q' ds ds' hq hd=>
  simp only;refine uD (C:=C) (F:=λx=>match x with
    | .ok calls w=> .go { frame:={ fn:=iF,tmps:=tm,todo:=todo,defers:=calls++ds,mode:= .returning,kind:=kd,roundOf:=none },callers:=k++t::r,status:= .running,dying:=none } w
    | .halt _ w=> .ended (.stuck "the deferred calls of a range-over-func loop have been taken" _) w) (np hq) hw ?_ ?_
  ·intro q w2 _ _;exact kT
  ·intro bV v v' w2 W2 hv qF hT _;exact oz λch q=>by cases q
 | nil=>
  simp only;obtain ⟨f,e1,e2⟩:=ha.vM rfl;simp only at e1;rw [e1];simp only;refine uD (C:=C) (F:=λx=>match x with
    | .ok v w=>doReturn L m { fn:=iF,tmps:=tm,todo:=todo,defers:=[],mode:= .returning,kind:=kd,roundOf:=none } (k++t::r) none v w
    | .halt (.stuck s) w=> .ended (.stuck s _) w
    | .halt _ w=> .ended (.stuck "return: the result variables cannot be read" _) w) (rW HP f ha.tmps) hw ?_ ?_
  ·intro q w2 _ _;cases q <;> exact kT
  ·intro bV v v' w2 W2 hv qF hT _;exact MJ ht (eR.mono hT)
theorem Ra(ht:t.mode= .run)(HP:fx L C)(HF:PF L C Xs){a b:Frame}{k k':List Frame}{m:Bool}(eR:cM L C β (a::k) (b::k'))(hw:cz β w W):
  HY a (k++t::r) w (stepG L m (fD a (k++t::r)) w):=by
 rcases eR.top.mode with ⟨m1,m2⟩ | ⟨m1,m2,_⟩
 ·unfold stepG fD;simp only [m1];exact Q9 ht HP HF eR m1 hw
 ·unfold stepG fD;simp only [m1];exact KN ht HP eR m1 hw
end
end Go.Cx
namespace Go.Cx
open Go
variable[bq][aR][bs]
def cP:Frame:={ fn:=0,tmps:= #[],todo:=[.code (.refuse "")],defers:=[{ target:= .nil,args:= #[] }],mode:= .run,kind:= .normal }
omit [bq] [aR] [bs] in
theorem nY(v:Value):cP.finish v=cP:=rfl
omit [bq] [aR] [bs] in
theorem CG(L:Program)(w:World): ∃o w1,step L (lone cP [] w)= .ended o w1:=by
 exact ⟨_,w,step_lone_ended rfl⟩
omit [bq] [aR] [bs] in
theorem Rb(L:Program)(ch:List PanicEntry)(w:World): ∃o w1,step L (lone (cP.raise ch) [] w)= .ended o w1:=by
 refine ⟨.unsupported (.noEntry "machine/Return: a deferred call of a nil function value, made while the frame is unwinding") (Frame.pos L { cP.raise ch with defers:=[] }),w,step_lone_ended ?_⟩
 rfl
omit [bq] [aR] [bs] in
theorem runN_ended{L:Program}{m:Machine}{o:Outcome}{w:World}(h:step L m= .ended o w){n:Nat}{m':Machine}(hr:runN L n m= .next m'):n=0:=by
 cases n with
 | zero=>rfl
 | succ n=>simp only [runN,h] at hr;cases hr
omit [bq] [aR] [bs] in
theorem Rc{L:Program}{fr:Frame}{cs:List Frame}{w:World}{ch:List PanicEntry}{r:Nat}{x:Array Value}{ds:List Deferred}(hm:fr.mode= .panicking ch)(hd:fr.defers={ target:= .collected r,args:=x }::ds)(hw:Dw w):
  (∃w1,step L (lone fr cs w)= .next (lone { fr with defers:=ds } cs w1)/\Dw w1)\/ ∃o w1,step L (lone fr cs w)= .ended o w1:=by
 cases ho:w.heap[r]? with
 | none=>
  refine .inr ⟨.stuck "the deferred calls of a range-over-func loop have been taken" (fr.pos L),w,step_lone_ended ?_⟩;simp only [stepG,hm,unwind,hd,Instr.takeDeferred,getObj,bind,Sem.bind,Sem.runT,ho]
  rfl
 | some o=>
  by_cases hc: ∃l,o= .deferred (some l)
  ·obtain ⟨l,rfl⟩:=hc;have:l=[]:=hw r l ho;subst this;refine .inl ⟨{ w with heap:=w.heap.setIfInBounds r (.deferred none) },step_lone_go ?_,vI hw λds q=>by cases q⟩;simp only [stepG,hm,unwind,hd,Instr.takeDeferred,getObj,setObj,bind,pure,Sem.bind,Sem.runT,ho,Obj.isChan]
   rfl
  ·refine .inr ⟨.stuck "the deferred calls of a range-over-func loop have been taken" (fr.pos L),w,step_lone_ended ?_⟩;have bP:((Instr.takeDeferred r).runT L w #[]).1= .halt (.stuck "range over a function: the deferred calls have been taken") w\/((Instr.takeDeferred r).runT L w #[]).1= .halt (.stuck "getObj: a row of cells") w:=by
    rw [Sem.runT_fst];unfold Instr.takeDeferred getObj;cases o with
    | cells c e f=>right;simp only [bind,Sem.bind,Sem.run,ho]
    | deferred l=>
     cases l with
     | none=>left;simp only [bind,Sem.bind,Sem.run,ho];rfl
     | some l=>exact absurd ⟨l,rfl⟩ hc
    | _=>left;simp only [bind,Sem.bind,Sem.run,ho];rfl
   simp only [stepG,hm,unwind,hd];rcases hR:(Instr.takeDeferred r).runT L w #[] with ⟨q,es⟩
   rw [hR] at bP;rcases bP with h | h <;> (simp only at h;subst h;rfl)
omit [bq] [aR] [bs] in
theorem Zw{L:Program}: ∀(n:Nat) (k:List Frame) (fr:Frame) (w:World) (XN:Frame) (cs':List Frame) (w':World) (ch:List PanicEntry),fr.mode= .panicking ch->Q8 fr.defers->(∀f∈k,Q8 f.defers)->Dw w->
  runN L n (lone fr (k++[cP]) w)= .next (lone XN cs' w')-> ∃ch,XN.mode= .panicking ch:=by
 intro n
 induction n with
 | zero=>
  intro k fr w XN cs' w' ch hm hd hk hD h;simp only [runN] at h;have:fr=XN:=by simp only [lone] at h;injection h with h;injection h with h1 h2 h3;simp at h2;exact h2.1
  exact this▸⟨ch,hm⟩
 | succ n ih=>
  intro k fr w XN cs' w' ch hm hd hk hD h;cases HZ:fr.defers with
  | cons d ds=>
   obtain ⟨r,x,rfl⟩:=hd d (by rw [HZ];simp);rcases Rc (cs:=k++[cP]) hm HZ hD with ⟨w1,h1,h2⟩ | ⟨o,w1,h1⟩
   ·rw [runN,h1] at h;exact ih k { fr with defers:=ds } w1 XN cs' w' ch hm (λd Jv=>hd d (by rw [HZ];simp [show d∈ds from Jv])) hk h2 h
   ·have:=runN_ended h1 h;cases this
  | nil=>
   by_cases hc:fr.catches L=true
   ·have: ∃o w1,step L (lone fr (k++[cP]) w)= .ended o w1:=by
     refine ⟨_,w,step_lone_ended (o:= .unsupported (.noEntry "a panic or Goexit out of a method that fmt calls behind a cut's door") (fr.pos L)) ?_⟩;simp [stepG,hm,unwind,HZ,hc]
    obtain ⟨o,w1,h1⟩:=this;have:=runN_ended h1 h;cases this
   ·simp only [qbd] at hc;cases k with
    | nil=>
     have h1:step L (lone fr ([]++[cP]) w)= .next (lone (cP.raise ch) [] w):=by
      refine step_lone_go ?_;simp [stepG,hm,unwind,HZ,hc]
     simp only [runN,h1] at h;obtain ⟨o,w1,h2⟩:=Rb L ch w;have:=runN_ended h2 h;subst this;simp only [runN] at h;have:cP.raise ch=XN:=by simp only [lone] at h;injection h with h;injection h with h1 h2 h3;simp at h2;exact h2.1
     exact this▸⟨ch,rfl⟩
    | cons c k=>
     have h1:step L (lone fr (c::k++[cP]) w)= .next (lone (c.raise ch) (k++[cP]) w):=by
      refine step_lone_go ?_;simp [stepG,hm,unwind,HZ,hc]
     simp only [runN,h1] at h;obtain ⟨ch2,YW⟩:=mS c ch;refine ih k (c.raise ch) w XN cs' w' ch2 YW ?_ (λf hf=>hk f (by simp [hf])) hD h;have:=hk c (by simp);unfold Frame.raise;split <;> exact this
end Go.Cx
namespace Go.Cx
open Go
variable[bq][aR][bs]
def Ag(d:Nat)(τ σ:Tape):Prop:= ∀j q,j<d->τ j q=σ j q
inductive vu(L:Program)(Q:Frame->World->Prop):Frame->List Frame->World->Prop
 | done {a:Frame} {w:World}:a.mode= .returning->a.defers=[]->Q a w->vu L Q a [] w
 | step {a:Frame} {k:List Frame} {w:World}:(∀τ,Ag w.drawn τ w.tape-> ∃a1 k1 w1 es,stepG L true (fD a (k++[cP])) (TW w τ)= .go (fD a1 (k1++[cP])) w1 es/\ ∀ch,a1.mode≠ .panicking ch)->
  (∀τ a1 k1 w1 es,Ag w.drawn τ w.tape->stepG L true (fD a (k++[cP])) (TW w τ)= .go (fD a1 (k1++[cP])) w1 es->vu L Q a1 k1 w1)->vu L Q a k w
def Inv(L:Program)(a:Frame)(k:List Frame)(w:World):Prop:= ∃β b k' W,cM L L β (a::k) (b::k')/\cz β w W/\Dw w
theorem cz.tw{β:Bj}{w W:World}(h:cz β w W)(τ σ:Tape):cz β (TW w τ) (TW W σ):=⟨h.obj,h.inj,h.fn⟩
omit [aR] in
theorem cM.vE{L C:Program}{β:Bj}{x y:List Frame}(h:cM L C β x y): ∀f∈x,Q8 f.defers:=by
 induction h with
 | one h _=>intro f hf;simp at hf;exact hf▸h.defers.vE
 | cons h _ ih=>
  intro f hf;rcases qab.1 hf with rfl | hf
  ·exact h.defers.vE
  ·exact ih f hf
omit [bq] [aR] [bs] in
theorem runN_add(L:Program): ∀(n m:Nat) (x y:Machine),runN L n x= .next y->runN L (n+m) x=runN L m y:=by
 intro n
 induction n with
 | zero=>intro m x y h;simp only [runN] at h;cases h;simp
 | succ n ih=>
  intro m x y h;rw [show n+1+m=(n+m)+1 by omega];simp only [runN] at h ⊢;cases hs:step L x with
  | next z=>rw [hs] at h;exact ih m z y h
  | ended o w=>rw [hs] at h;cases h
omit [bq] [aR] [bs] in
theorem Re{L:Program}{x y:Machine}(h:step L x= .next y):runN L 1 x= .next y:=by simp only [runN,h]
omit [bq] [aR] [bs] in
theorem yN{a a':Frame}{k k':List Frame}{w w':World}(h:lone a k w=lone a' k' w'):a=a'/\k=k'/\w=w':=by
 simp only [lone] at h;injection h with h1 h2 h3
 simp at h2;exact ⟨h2.1,h2.2,h1⟩
section
variable{L:Program}{Q:Frame->World->Prop}
def Good(L:Program)(Q:Frame->World->Prop)(n:Nat)(m:Machine):Prop:=
 ∃a' w' v,runN L n m= .next (lone a' [cP] w')/\a'.leaving L w' (.returned v)/\Q a' w'
omit [bq] [aR] [bs] in
theorem CH{n:Nat}{m:Machine}(h:Good L Q n m): ∀(i:Nat) (a:Frame) (k:List Frame) (w:World),runN L (n+i) m= .next (lone a (k++[cP]) w)->(k=[]/\a.mode= .returning/\a.defers=[]/\Q a w):=by
 obtain ⟨a',w',v,h1,h2,h3⟩:=h;intro i a k w hr;rw [runN_add L n i _ _ h1] at hr;cases i with
 | zero=>
  simp only [runN] at hr;injection hr with hr
  obtain ⟨rfl,e2,rfl⟩:=yN hr;have:k=[]:=by
   cases k with
   | nil=>rfl
   | cons c k=>simp at e2
  exact ⟨this,h2.1,h2.2.1,h3⟩
 | succ i=>
  exfalso;have hs:=step_leave_returned (c:=cP) (cs:=[]) h2;rw [nY] at hs;simp only [runN,hs] at hr;obtain ⟨o,w1,h4⟩:=CG L w';have:=runN_ended h4 hr;subst this;simp only [runN] at hr;injection hr with hr
  obtain ⟨_,e2,_⟩:=yN hr;simp at e2
theorem Vd(HP:fx L L)(HF:PF L L (λ_=>False))(hQ: ∀a w τ,Q a (TW w τ)->Q a w){a0:Frame}{k0:List Frame}{w0:World}(H: ∀τ,Ag w0.drawn τ w0.tape-> ∃n,Good L Q n (lone a0 (k0++[cP]) (TW w0 τ)))
  {m:Nat} {a:Frame} {k:List Frame} {w:World} (hI:Inv L a k w) (hn: ¬vu L Q a k w) (hd:w0.drawn<=w.drawn) (ua:Ag w0.drawn w.tape w0.tape)
  (hr: ∀τ,Ag w.drawn τ w.tape->runN L m (lone a0 (k0++[cP]) (TW w0 τ))= .next (lone a (k++[cP]) (TW w τ))):
  ∃a1 k1 w1,Inv L a1 k1 w1/\ ¬vu L Q a1 k1 w1/\w.drawn<=w1.drawn/\Ag w.drawn w1.tape w.tape/\
    ∀τ,Ag w1.drawn τ w1.tape->runN L (m+1) (lone a0 (k0++[cP]) (TW w0 τ))= .next (lone a1 (k1++[cP]) (TW w1 τ)):=by
 have hx: ∃τ,Ag w.drawn τ w.tape/\ ∀a1 k1 w1 es,stepG L true (fD a (k++[cP])) (TW w τ)= .go (fD a1 (k1++[cP])) w1 es->(∀ch,a1.mode≠ .panicking ch)-> ¬vu L Q a1 k1 w1:=by
  apply qa8;intro hc;have j8: ∀τ,Ag w.drawn τ w.tape-> ∃a1 k1 w1 es,stepG L true (fD a (k++[cP])) (TW w τ)= .go (fD a1 (k1++[cP])) w1 es/\(∀ch,a1.mode≠ .panicking ch)/\vu L Q a1 k1 w1:=
    λτ mI=>qa8 λTX=>hc ⟨τ,mI,λa1 k1 w1 es h1 h2 h3=>TX ⟨a1,k1,w1,es,h1,h2,h3⟩⟩
  refine hn (.step (λτ mI=>let ⟨a1,k1,w1,es,h1,h2,_⟩:=j8 τ mI;⟨a1,k1,w1,es,h1,h2⟩) λτ a1 k1 w1 es mI h=> ?_);obtain ⟨a2,k2,w2,pN,h1,h2,h3⟩:=j8 τ mI;rw [h] at h1;injection h1 with h4 h5
  simp only [Goroutine.mk.injEq,List.append_cancel_right_eq] at h4;obtain ⟨rfl,rfl,_⟩:=h4;subst h5;exact h3
 obtain ⟨τ,mI,hx⟩:=hx;obtain ⟨β,b,k',W,eR,hw,hD⟩:=hI;have h0:Ag w0.drawn τ w0.tape:=λj q hj=>(mI j q (qa4 hj hd)).trans (ua j q hj);obtain ⟨n,hg⟩:=H τ h0;have ack:=hr τ mI;have Ur: ¬n<=m:=by
  intro hle;obtain ⟨e1,e2,e3,e4⟩:=CH hg (m - n) a k (TW w τ) (by rw [show n+(m - n)=m by omega];exact ack);subst e1;exact hn (.done e2 e3 (hQ _ _ _ e4))
 obtain ⟨a',w',v,g1,g2,g3⟩:=hg;have sQ:runN L (n - m) (lone a (k++[cP]) (TW w τ))= .next (lone a' [cP] w'):=by
  rw [←runN_add L m (n - m) _ _ ack,show m+(n - m)=n by omega];exact g1
 obtain ⟨p,hp⟩: ∃p,n - m=p+1:=⟨n - m - 1,by omega⟩;rw [hp] at sQ;have Zx:=hw.tw τ (λj q=>τ (j - W.drawn+w.drawn) q);have MK:gp (TW w τ) (TW W (λj q=>τ (j - W.drawn+w.drawn) q)):=λj q=>by
  show τ (W.drawn+j - W.drawn+w.drawn) q=τ (w.drawn+j) q;rw [show W.drawn+j - W.drawn+w.drawn=w.drawn+j by omega]
 rcases Ra (m:=true) (t:=cP) (r:=[]) rfl HP HF eR Zx with ⟨g,w1,es,e1,Zy⟩ | ⟨o,w1,es,e1⟩
 ·by_cases hB:cY g
  · exfalso;obtain ⟨Om,a2,vs,Rf,rfl⟩:=Zy hB;have hs:step L (lone a (k++[cP]) (TW w τ))= .next (lone (a2.raise vs) (k++[cP]) w1):=step_lone_go (by rw [e1];rfl);simp only [runN,hs] at sQ;obtain ⟨ch,DU⟩:=mS a2 vs;have HZ:=eR.vE;obtain ⟨ch2,acm⟩:=Zw p k (a2.raise vs) w1 a' [cP] w' ch DU (by
     unfold Frame.raise;split <;> exact Rf) (λf hf=>HZ f (by simp [hf])) (Om hD) sQ
    rw [g2.1] at acm;cases acm
  · obtain ⟨bV,W1,uA,CF,e2,ho,wQ,hT,_⟩:=ri (m':=true) (bs':=[cP]) HP HF eR (.inl (by simp)) Zx MK e1 hB;obtain ⟨l1,l2,ld,l3⟩:=uC HP HF eR Zx e1 hB;cases ho with
    | back hv hg1 _ ajy=>
     exfalso;rw [hg1,nY] at e1;have hs:step L (lone a (k++[cP]) (TW w τ))= .next (lone cP [] w1):=step_lone_go (by rw [e1];rfl);simp only [runN,hs] at sQ;obtain ⟨o,w2,h4⟩:=CG L w1;have:=runN_ended h4 sQ;subst this;simp only [runN] at sQ;injection sQ with sQ
     obtain ⟨_,e5,_⟩:=yN sQ;simp at e5
    | on en=>
     cases en with
     | enter f hX _ _=>exact hX.elim
     | @on a1 b1 k1 T3 sD=>
      have acn: ∀ch,a1.mode≠ .panicking ch:=sD.top.calm;refine ⟨a1,k1,w1,⟨bV,b1,T3,W1,sD,wQ,ld hD⟩,hx _ _ _ _ e1 acn,l1, ?_,λσ XO=> ?_⟩
      ·intro j q hj;rw [l2];exact mI j q hj
      ·have tk:w.drawn<=w1.drawn:=l1;have Zl:Ag w.drawn σ w.tape:=λj q hj=>(XO j q (qa4 hj tk)).trans (by rw [l2];exact mI j q hj);have afY: ∀j q,j<w1.drawn->σ j q=(TW w τ).tape j q:=λj q hj=>(XO j q hj).trans (by rw [l2]);obtain ⟨pN,e3⟩:=l3 σ afY;have hs:step L (lone a (k++[cP]) (TW w σ))= .next (lone a1 (k1++[cP]) (TW w1 σ)):=step_lone_go (by
        have e4:stepG L true (fD a (k++[cP])) (TW w σ)= .go (fD a1 (k1++[cP])) (TW w1 σ) pN:=e3;rw [e4];rfl)
       rw [runN_add L m 1 _ _ (hr σ Zl)];exact Re hs
 ·exfalso;have hs:step L (lone a (k++[cP]) (TW w τ))= .ended o w1:=step_lone_ended (by rw [e1];rfl);have:=runN_ended hs sQ;omega
theorem tree(HP:fx L L)(HF:PF L L (λ_=>False))(hQ: ∀a w τ,Q a (TW w τ)->Q a w){a0:Frame}{k0:List Frame}{w0:World}(hI:Inv L a0 k0 w0)(H: ∀τ,Ag w0.drawn τ w0.tape-> ∃n,Good L Q n (lone a0 (k0++[cP]) (TW w0 τ))):
  vu L Q a0 k0 w0:=by
 classical
 apply qa8;intro hn
 let S:={ s:Nat×Frame×List Frame×World // Inv L s.2.1 s.2.2.1 s.2.2.2/\ ¬vu L Q s.2.1 s.2.2.1 s.2.2.2/\w0.drawn<=s.2.2.2.drawn/\Ag w0.drawn s.2.2.2.tape w0.tape/\
  ∀τ,Ag s.2.2.2.drawn τ s.2.2.2.tape->runN L s.1 (lone a0 (k0++[cP]) (TW w0 τ))= .next (lone s.2.1 (s.2.2.1++[cP]) (TW s.2.2.2 τ)) }
 have yO: ∀s:S, ∃s':S,s'.1.1=s.1.1+1/\s.1.2.2.2.drawn<=s'.1.2.2.2.drawn/\Ag s.1.2.2.2.drawn s'.1.2.2.2.tape s.1.2.2.2.tape:=by
  rintro ⟨⟨m,a,k,w⟩,h1,h2,h3,h4,h5⟩;obtain ⟨a1,k1,w1,g1,g2,g3,g4,g5⟩:=Vd HP HF hQ H h1 h2 h3 h4 h5;exact ⟨⟨(m+1,a1,k1,w1),g1,g2,qac h3 g3,λj q hj=>(g4 j q (qa4 hj h3)).trans (h4 j q hj),g5⟩,rfl,g3,g4⟩
 let s0:S:=⟨(0,a0,k0,w0),hI,hn,qa3 _,λ_ _ _=>rfl,λτ _=>rfl⟩
 let f:S->S:=λs=>(yO s).choose
 have hf: ∀s,(f s).1.1=s.1.1+1/\s.1.2.2.2.drawn<=(f s).1.2.2.2.drawn/\Ag s.1.2.2.2.drawn (f s).1.2.2.2.tape s.1.2.2.2.tape:=λs=>(yO s).choose_spec
 let c:Nat->S:=λn=>Nat.rec s0 (λ_ s=>f s) n
 have c0:c 0=s0:=rfl;have cs: ∀n,c (n+1)=f (c n):=λn=>rfl;have hlen: ∀n,(c n).1.1=n:=by
  intro n
  induction n with
  | zero=>rfl
  | succ n ih=>rw [cs,(hf _).1,ih]
 have XP: ∀n i,(c n).1.2.2.2.drawn<=(c (n+i)).1.2.2.2.drawn/\Ag (c n).1.2.2.2.drawn (c (n+i)).1.2.2.2.tape (c n).1.2.2.2.tape:=by
  intro n i
  induction i with
  | zero=>exact ⟨qa3 _,λ_ _ _=>rfl⟩
  | succ i ih=>
   rw [show n+(i+1)=(n+i)+1 by omega,cs];obtain ⟨_,h2,h3⟩:=hf (c (n+i));exact ⟨qac ih.1 h2,λj q hj=>(h3 j q (qa4 hj ih.1)).trans (ih.2 j q hj)⟩
 let τ:Tape:=λj q=>if h: ∃n,j<(c n).1.2.2.2.drawn then (c h.choose).1.2.2.2.tape j q else 0
 have mI: ∀n,Ag (c n).1.2.2.2.drawn τ (c n).1.2.2.2.tape:=by
  intro n j q hj;have h: ∃n,j<(c n).1.2.2.2.drawn:=⟨n,hj⟩;show (if h: ∃n,j<(c n).1.2.2.2.drawn then (c h.choose).1.2.2.2.tape j q else 0)=_;rw [dif_pos h];have hc:=h.choose_spec;generalize h.choose=p at hc;rcases Nat.le_total p n with hle | hle
  ·have:=(XP p (n - p)).2 j q hc;rw [show p+(n - p)=n by omega] at this;exact this.symm
  ·have:=(XP n (p - n)).2 j q hj;rw [show n+(p - n)=p by omega] at this;exact this
 obtain ⟨n,hg⟩:=H τ (by
  have:=mI 0;intro j q hj;exact this j q hj)
 obtain ⟨h1,h2,h3,h4,h5⟩:=(c n).2;have hr:=h5 τ (mI n);rw [hlen n] at hr;obtain ⟨e1,e2,e3,e4⟩:=CH hg 0 _ _ _ hr;refine h2 ?_;rw [e1];exact .done e2 e3 (hQ _ _ _ e4)
end
end Go.Cx
namespace Go.Cx
open Go
variable[bq][aR][bs]
def keep:Frame:={ fn:=0,tmps:= #[],todo:=[.extern "" #[]],defers:=[],mode:= .run,kind:= .normal }
omit [bq] [aR] [bs] in
theorem Rg{v u:Value}(h:keep.finish v=keep.finish u):v=u:=by
 simp only [keep,Frame.finish,Frame.mk.injEq] at h;simpa using h.2.1
def vR(d:Nat)(σ:Tape)(D:Nat)(τ:Tape):Tape:=λj q=>if j<d then σ j q else τ (j - d+D) q
omit [bq] [aR] [bs] in
theorem Ve(d:Nat)(σ:Tape)(D:Nat)(τ:Tape):Ag d (vR d σ D τ) σ:=λj q hj=>by unfold vR;rw [if_pos hj]
omit [bq] [aR] [bs] in
theorem CI(w W:World):gp (TW w (vR w.drawn w.tape W.drawn W.tape)) W:=λj q=>by
 show W.tape (W.drawn+j) q=vR w.drawn w.tape W.drawn W.tape (w.drawn+j) q;unfold vR;rw [if_neg (by omega),show w.drawn+j - w.drawn+W.drawn=W.drawn+j by omega]
inductive Path(L:Program)(a0:Frame)(k0:List Frame)(w0:World):Frame->List Frame->World->Prop
 | nil:Path L a0 k0 w0 a0 k0 w0
 | snoc {a:Frame} {k:List Frame} {w:World} {τ:Tape} {a1:Frame} {k1:List Frame} {w1:World} {es:Array Event}:Path L a0 k0 w0 a k w->Ag w.drawn τ w.tape->stepG L true (fD a (k++[cP])) (TW w τ)= .go (fD a1 (k1++[cP])) w1 es->
  (∀ch,a1.mode≠ .panicking ch)->Path L a0 k0 w0 a1 k1 w1
structure Ends(L:Program)(a:Frame)(w:World)(v:Value):Prop where
 mode:a.mode= .returning
 defers:a.defers=[]
 kind:a.kind= .normal
 res: ∃fn,L.funcs[a.fn]? =some fn/\ ∃τ,(results fn a.tmps).run L (TW w τ)= .ok v (TW w τ)
omit [bq] [aR] [bs] in
theorem Ends.of{L:Program}{a:Frame}{w:World}{v:Value}(h:a.leaving L w (.returned v)):Ends L a w v:=⟨h.1,h.2.1,h.2.2.1,let ⟨fn,h1,h2⟩:=h.2.2.2;⟨fn,h1,w.tape,h2⟩⟩
omit [bq] [aR] [bs] in
theorem Ends.tw{L:Program}{a:Frame}{w:World}{v:Value}{τ:Tape}(h:Ends L a (TW w τ) v):Ends L a w v:=⟨h.1,h.2,h.3,let ⟨fn,h1,σ,h2⟩:=h.4;⟨fn,h1,σ,h2⟩⟩
section
variable{L C:Program}{Xs:FuncId->Prop}{β:Bj}{bs':List Frame}{w W:World}{Q:Frame->World->Prop}
inductive Rh(L C:Program)(Xs:FuncId->Prop)(Q:Frame->World->Prop)(bs':List Frame)(β:Bj)(a1:Frame)(k1:List Frame)(w1:World)(uA:Goroutine):Prop
 | on {b1:Frame} {T3:List Frame}:cM L C β (a1::k1) (b1::T3)->uA=fD b1 (T3++bs')->Rh L C Xs Q bs' β a1 k1 w1 uA
 | enter (f:FuncId) {x x':Array Value} {T3:List Frame}:Xs f->aQ β x x'->cM L C β k1 T3->a1=Frame.enter L f x .normal->uA=fD (Frame.enter C f x' .normal) (T3++bs')->Rh L C Xs Q bs' β a1 k1 w1 uA
theorem H0(HP:fx L C)(HF:PF L C Xs){a b:Frame}{k k':List Frame}{m:Bool}(eR:cM L C β (a::k) (b::k'))(hw:cz β w W)
  (h1: ∀τ,Ag w.drawn τ w.tape-> ∃a1 k1 w1 es,stepG L true (fD a (k++[cP])) (TW w τ)= .go (fD a1 (k1++[cP])) w1 es/\ ∀ch,a1.mode≠ .panicking ch)
  (h2: ∀τ a1 k1 w1 es,Ag w.drawn τ w.tape->stepG L true (fD a (k++[cP])) (TW w τ)= .go (fD a1 (k1++[cP])) w1 es->vu L Q a1 k1 w1)
  {a0:Frame} {k0:List Frame} {w0:World} (hp:Path L a0 k0 w0 a k w):
  ∃bV a1 k1 w1 W1 uA es τ,stepG C m (fD b (k'++bs')) W= .go uA W1 es/\Rh L C Xs Q bs' bV a1 k1 w1 uA/\cz bV w1 W1/\vu L Q a1 k1 w1/\Path L a0 k0 w0 a1 k1 w1/\
    kP β bV (TW w τ) w1 W W1/\(∀e∈es,qv bV w1 e)/\Ag w.drawn τ w.tape/\(∃qH,stepG L true (fD a (k++[cP])) (TW w τ)= .go (fD a1 (k1++[cP])) w1 qH)/\(Dw w->Dw w1):=by
 have ua:=Ve w.drawn w.tape W.drawn W.tape;obtain ⟨a1,k1,w1,es,e1,hc⟩:=h1 _ ua;have afZ:=h2 _ _ _ _ _ ua e1;have hB: ¬cY (fD a1 (k1++[cP])):=λ⟨ch,q⟩=>hc ch q;have Px:bs'≠[]\/k≠[]\/a.mode= .run\/a.defers≠[]:=by
  apply qa8;intro hn;simp only [not_or,Decidable.not_not] at hn;obtain ⟨-, rfl,hm,hd⟩:=hn;have oO:=eR.top;have YW:a.mode= .returning:=by rcases oO.mode with ⟨h,_⟩ | ⟨h,_⟩;exact absurd h hm;exact h
  have hk:=oO.kind.1;obtain ⟨fn,tm,todo,df,md,kd,ro⟩:=a;simp only at YW hd hk;subst YW;subst hd;subst hk;have tu:ro=none:=by
    cases eR with
    | one _ h=>exact h
    | cons _ h=>cases h
  obtain ⟨f,q1,q2⟩:=oO.vM tu;simp only at q1;simp only [stepG,unwind,q1,qb7] at e1;obtain ⟨pN,e1⟩:=rb e1;split at e1
  · simp only [doReturn,nY] at e1;injection e1 with e1
    simp only [Goroutine.mk.injEq] at e1;have:=e1.2.1;simp at this
  · cases e1
  · cases e1
 obtain ⟨bV,W1,uA,CF,e2,ho,wQ,hT,ql⟩:=ri (m':=m) (t:=cP) (r:=[]) (bs':=bs') HP HF eR Px (hw.tw _ W.tape) (CI w W) e1 hB;have aco:=hp.snoc ua e1 hc;refine ⟨bV,a1,k1,w1,W1,uA,CF,_,e2, ?_,wQ,afZ,aco,hT,ql,ua,⟨es,e1⟩,(uC HP HF eR (hw.tw _ W.tape) e1 hB).2.2.1⟩;cases ho with
 | back hv hg _ JE=>
  exfalso;simp only [nY,Goroutine.mk.injEq] at hg;have:=hg.2.1;simp at this
 | on en=>
  generalize CJ:fD a1 (k1++[cP])=gg at en;cases en with
  | on sD=>
    simp only [Goroutine.mk.injEq,List.append_cancel_right_eq] at CJ;obtain ⟨rfl,rfl,_⟩:=CJ;exact .on sD rfl
  | enter f hX hx hk=>
    simp only [Goroutine.mk.injEq,List.append_cancel_right_eq] at CJ;obtain ⟨rfl,rfl,_⟩:=CJ;exact .enter f hX hx hk rfl rfl
theorem H6(HP:fx L C)(HF:PF L C Xs){a b:Frame}{k':List Frame}{m:Bool}{t':Frame}{r':List Frame}(eR:cM L C β [a] (b::k'))(hw:cz β w W){v:Value}(hl:Ends L a w v):
  k'=[]/\ ∃bV v' W1 es τ,stepG C m (fD b (k'++t'::r')) W= .go (fD (t'.finish v') r') W1 es/\aF bV v v'/\cz bV w W1/\kP β bV (TW w τ) (TW w τ) W W1/\ ∀e∈es,qv bV (TW w τ) e:=by
 have hk:k'=[]:=by
  cases eR with
  | one _ _=>rfl
  | cons _ h=>cases h
 subst hk;refine ⟨rfl, ?_⟩;obtain ⟨m1,m2,m3,fn,m4,τ0,m5⟩:=hl;have e1: ∃es,stepG L true (fD a ([]++keep::[])) (TW w (vR w.drawn w.tape W.drawn W.tape))= .go (fD (keep.finish v) []) (TW w (vR w.drawn w.tape W.drawn W.tape)) es:=by
  have cC:(results fn a.tmps).run L (TW w (vR w.drawn w.tape W.drawn W.tape))= .ok v (TW w (vR w.drawn w.tape W.drawn W.tape)):=
   ((rW HP fn eR.top.tmps).tape (hw.tw τ0 W.tape) m5).2.2.2.2 _ (λj q h1 h2=>absurd h2 (qcg.2 h1))
  have hR:(results fn a.tmps).runT L (TW w (vR w.drawn w.tape W.drawn W.tape)) #[]=(.ok v (TW w (vR w.drawn w.tape W.drawn W.tape)),((results fn a.tmps).runT L (TW w (vR w.drawn w.tape W.drawn W.tape)) #[]).2):=by
   rw [←cC, ←Sem.runT_fst]
  refine ⟨seen L a.fn ((results fn a.tmps).runT L (TW w (vR w.drawn w.tape W.drawn W.tape)) #[]).2++ #[], ?_⟩;simp only [stepG,m1,unwind,m2,m4];rw [hR];simp only [doReturn,m3,GStep.after,qb7]
 obtain ⟨es,e1⟩:=e1;have hB: ¬cY (fD (keep.finish v) []):=λ⟨ch,q⟩=>by cases q
 obtain ⟨bV,W1,uA,CF,e2,ho,wQ,hT,ql⟩:=ri (m':=m) (t:=keep) (r:=[]) (bs':=t'::r') HP HF eR (.inl (by simp)) (hw.tw _ W.tape) (CI w W) e1 hB;cases ho with
 | @back u u' t2 r2 hv hg hb JE=>
  injection hb with eU Vf
  subst eU;subst Vf;simp only [Goroutine.mk.injEq] at hg;have:=Rg hg.1;subst this;subst JE;exact ⟨bV,u',W1,CF,_,e2,hv,⟨wQ.obj,wQ.inj,wQ.fn⟩,hT,ql⟩
 | on en=>
  exfalso;generalize CJ:fD (keep.finish v) []=gg at en;cases en with
  | on sD=>simp only [Goroutine.mk.injEq] at CJ;have:=CJ.2.1;simp at this
  | enter f hX hx hk=>simp only [Goroutine.mk.injEq] at CJ;have:=CJ.2.1;simp at this
end
end Go.Cx
namespace Go.Cx
open Go
variable[bq][aR][bs]
section
variable{L:Program}
def Left(L:Program)(R:Value->World->Prop)(a:Frame)(w:World):Prop:= ∃v,Ends L a w v/\R v w
end
end Go.Cx
namespace Go.Cx
open Go
def vS:Nat->Value->Bool
 | _, .bool _ | _, .int _ _ | _, .string _ | _, .pointer none | _, .slice none _ _ | _, .nilFunc | _, .nilIface=>true
 | n+1, .agg x | n+1, .tuple x=>x.toList.all (vS n)
 | _,_=>false
theorem CK: ∀(n:Nat) (v:Value),vS n v=true->Plain v:=by
 have key: ∀(n:Nat),(∀v,vS n v=true->Plain v)-> ∀(x:Array Value),x.toList.all (vS n)=true-> ∀(i:Nat) (v:Value),x[i]? =some v->Plain v:=by
  intro n ih x h i v hv;exact ih v (qad.1 h v (by simpa using qb2 hv))
 intro n
 induction n with
 | zero=>
  intro v h;cases v with
  | bool b=>exact .bool b
  | int k n=>exact .int k n
  | string s=>exact .string s
  | nilFunc=>exact .ni
  | nilIface=>exact .gv
  | pointer a=>cases a with
   | none=>exact .mE
   | some a=>cases h
  | slice a l c=>cases a with
   | none=>exact .jc l c
   | some a=>cases h
  | _=>cases h
 | succ n ih=>
  intro v h;cases v with
  | bool b=>exact .bool b
  | int k n=>exact .int k n
  | string s=>exact .string s
  | nilFunc=>exact .ni
  | nilIface=>exact .gv
  | pointer a=>cases a with
   | none=>exact .mE
   | some a=>cases h
  | slice a l c=>cases a with
   | none=>exact .jc l c
   | some a=>cases h
  | agg x=>exact .agg (key n ih x h)
  | tuple x=>exact .tuple (key n ih x h)
  | _=>cases h
@[reducible] def fE(ok qu:FuncId->Bool):bq:=⟨λf=>ok f=true,λf=>qu f=true⟩
section
variable(ok qu:FuncId->Bool)
def vv:Operand->Bool
 | .tmp _=>true
 | .const v=>vS 8 v
 | .global _=>false
 | .func f=>ok f
theorem yP{x:Operand}(h:vv ok x=true): @kg (fE ok qu) x:=by
 cases x with
 | tmp t=>trivial
 | const v=>exact CK 8 v h
 | global g=>cases h
 | func f=>exact h
def eqB(L:Program):Nat->TypeId->Bool
 | 0,_=>false
 | n+1,t=>match L.underlying t with
  | some .bool | some (.int _) | some .string | some (.slice _)=>true
  | some (.struct fs)=> !L.stoodInHeld t&&fs.toList.all λf=>eqB L n f.type
  | _=>false
theorem Zz{L:Program}: ∀(n:Nat) (t:TypeId),eqB L n t=true->N5 L t:=by
 intro n
 induction n with
 | zero=>intro t h;cases h
 | succ n ih=>
  intro t h;unfold eqB at h;split at h
  ·rename_i e;exact .bool e
  ·rename_i e;exact .int e
  ·rename_i e;exact .string e
  ·rename_i e;exact .slice e
  ·rename_i fs e;simp only [qa5,qbh,qad] at h;exact .struct e h.1 λf hf=>ih _ (h.2 f (by simpa using hf))
  ·cases h
def Vg(L:Program)(t:TypeId):Bool:=match L.underlying t with | some (.int _)=>true | _=>false
theorem ML{L:Program}{t:TypeId}(h:Vg L t=true): ∃k,L.underlying t=some (.int k):=by
 unfold Vg at h;split at h
 ·rename_i k e;exact ⟨k,e⟩
 ·cases h
def Ri(L:Program)(s:TypeId)(i:Nat):Bool:=match L.underlying s with
 | some (.struct fs)=>match fs[i]? with
  | some f=>match L.info? f.type with
   | some inf=>inf.size != 0
   | none=>true
  | none=>true
 | _=>true
def zB(L:Program)(t:TypeId):Bool:=match L.info? t with | some i=>(match i.zero with | some v=>vS 8 v | none=>true) | none=>true
theorem MM{L:Program}{t:TypeId}(h:zB L t=true):T1 L t:=by
 intro i v e1 e2;unfold zB at h;rw [e1] at h;simp only [e2] at h;exact CK 8 v h
def zsB(L:Program)(t:TypeId):Bool:=match L.underlying t with | some (.slice e)=>zB L e | _=>true
theorem KO{L:Program}{t:TypeId}(h:zsB L t=true):NU L t:=by
 intro e h1;unfold zsB at h;rw [h1] at h;exact MM h
def MN:Callee->Bool
 | .value f=>vv ok f
 | .invoke r _=>vv ok r
 | .builtin b=>okB b
def JF(L C:Program):Op->Bool
 | .move x | .assign x | .box _ x | .load _ x | .nilCheck x | .unOp _ _ x | .sliceToArrayPointer _ x | .makeInterface _ x | .extract x _ | .panic x=>vv ok x
 | .typeAssert x _ t _=>vv ok x&&zB L t
 | .pick c a b=>vv ok c&&vv ok a&&vv ok b
 | .alloc t=>zB L t
 | .build t ps=>(ps.toList.all λp=>vv ok p.2)&&zB L t
 | .buildSlice t _ ps=>(ps.toList.all λp=>vv ok p.2)&&zsB L t
 | .makeSlice t a x=>vv ok a&&vv ok x&&zsB L t
 | .store _ a x | .indexAddr _ a x | .index _ a x=>vv ok a&&vv ok x
 | .binOp op t x y _=>vv ok x&&vv ok y&&(!(op matches .eql | .neq) || (eqB L 8 t&& !L.eqGuardType L.depth t&& !C.eqGuardType C.depth t))
 | .convert s d x=>vv ok x&&Vg L s&&Vg L d
 | .makeFunc (.func f) xs ys=>xs.toList.all (vv ok)&&ys.toList.all (vv ok)&&ok f
 | .slice _ x l h m=>vv ok x&&l.all (vv ok)&&h.all (vv ok)&&m.all (vv ok)
 | .fieldAddr s x i=>vv ok x&&Ri L s i
 | .call c=>MN ok c.callee&&c.args.toList.all (vv ok)&&c.argTypes.toList.all (zsB L)
 | _=>false
theorem lH{α:Type}{p:α->Bool}{x:Array α}(h:x.toList.all p=true): ∀y∈x,p y=true:=λy hy=>qad.1 h y (by simpa using hy)
theorem ET{α:Type}{p:α->Bool}{x:Option α}(h:x.all p=true): ∀y∈x,p y=true:=λy hy=>by cases hy;exact h
theorem KP{c:Callee}(h:MN ok c=true): @yI (fE ok qu) c:=by
 cases c with
 | value f=>exact yP ok qu h
 | invoke r n=>exact yP ok qu h
 | builtin b=>exact h
theorem ZA{L C:Program}{o:Op}(h:JF ok L C o=true): @Kz (fE ok qu) L C o:=by
 have od:=fun {x:Operand} (h:vv ok x=true)=>yP ok qu h;cases o with
 | move x=>exact od h
 | assign x=>exact od h
 | box t x=>exact od h
 | load t x=>exact od h
 | nilCheck x=>exact od h
 | unOp a t x=>exact od h
 | sliceToArrayPointer t x=>exact od h
 | makeInterface t x=>exact od h
 | extract x i=>exact od h
 | typeAssert x a b c=>simp only [JF,qa5] at h;exact ⟨od h.1,MM h.2⟩
 | panic x=>exact od h
 | pick c a b=>simp only [JF,qa5] at h;exact ⟨od h.1.1,od h.1.2,od h.2⟩
 | alloc t=>exact MM h
 | build t ps=>simp only [JF,qa5] at h;exact ⟨λp hp=>od (lH h.1 p hp),MM h.2⟩
 | buildSlice t n ps=>simp only [JF,qa5] at h;exact ⟨λp hp=>od (lH h.1 p hp),KO h.2⟩
 | store t a x=>simp only [JF,qa5] at h;exact ⟨od h.1,od h.2⟩
 | makeSlice t a x=>simp only [JF,qa5] at h;exact ⟨od h.1.1,od h.1.2,KO h.2⟩
 | indexAddr t a x=>simp only [JF,qa5] at h;exact ⟨od h.1,od h.2⟩
 | index t a x=>simp only [JF,qa5] at h;exact ⟨od h.1,od h.2⟩
 | binOp op t x y u=>
  simp only [JF,qa5] at h;refine ⟨od h.1.1,od h.1.2,λcL=> ?_⟩;have h2:=h.2;rcases cL with rfl | rfl <;>
   (simp only [qah,Bool.false_or,qa5,qbh] at h2;exact ⟨Zz 8 t h2.1.1,h2.1.2,h2.2⟩)
 | convert s d x=>simp only [JF,qa5] at h;exact ⟨od h.1.1,ML h.1.2,ML h.2⟩
 | makeFunc f xs ys=>
  cases f with
  | func f=>simp only [JF,qa5] at h;exact ⟨λx hx=>od (lH h.1.1 x hx),λx hx=>od (lH h.1.2 x hx),h.2⟩
  | _=>cases h
 | slice t x l hh m=>simp only [JF,qa5] at h;exact ⟨od h.1.1.1,λy hy=>od (ET h.1.1.2 y hy),λy hy=>od (ET h.1.2 y hy),λy hy=>od (ET h.2 y hy)⟩
 | fieldAddr s x i=>
  simp only [JF,qa5] at h;refine ⟨od h.1,λfs f inf e1 e2 e3=> ?_⟩;have h2:=h.2;unfold Ri at h2;rw [e1] at h2;simp only [e2,e3] at h2;simpa using h2
 | call c=>simp only [JF,qa5] at h;exact ⟨KP ok qu h.1.1,λx hx=>od (lH h.1.2 x hx),λt ht=>KO (lH h.2 t ht)⟩
 | _=>cases h
def oR(L C:Program):Code->Bool
 | .skip | .exit _ | .label _ | .ret=>true
 | .region _ os _=>os.toList.all λo=>JF ok L C o.op
 | .seq a b=>oR L C a&&oR L C b
 | .cond c a b=>vv ok c&&oR L C a&&oR L C b
 | .block _ a | .loop a=>oR L C a
 | .rangeFunc f _ a b=>vv ok f&&oR L C a&&oR L C b
 | _=>false
theorem yQ{L C:Program}: ∀(c:Code),oR ok L C c=true-> @cG (fE ok qu) L C c:=by
 intro c
 induction c with
 | skip=>intro _;exact @cG.skip (fE ok qu) L C
 | exit id=>intro _;exact @cG.exit (fE ok qu) L C id
 | label l=>intro _;exact @cG.label (fE ok qu) L C l
 | ret=>intro _;exact @cG.ret (fE ok qu) L C
 | region id os dr=>intro h;exact @cG.region (fE ok qu) L C id os dr λo ho=>ZA ok qu (lH h o ho)
 | seq a b ia ib=>intro h;simp only [oR,qa5] at h;exact @cG.seq (fE ok qu) L C a b (ia h.1) (ib h.2)
 | cond c a b ia ib=>intro h;simp only [oR,qa5] at h;exact @cG.cond (fE ok qu) L C c a b (yP ok qu h.1.1) (ia h.1.2) (ib h.2)
 | block id a ia=>intro h;exact @cG.block (fE ok qu) L C id a (ia h)
 | loop a ia=>intro h;exact @cG.loop (fE ok qu) L C a (ia h)
 | rangeFunc f ps a b ia ib=>intro h;simp only [oR,qa5] at h;exact @cG.rangeFunc (fE ok qu) L C f ps a b (yP ok qu h.1.1) (ia h.1.2) (ib h.2)
 | _=>intro h;cases h
end
end Go.Cx
namespace Go.Cx
open Go
theorem EU{info:TypeId->Option TypeInfo}{d:TypeDesc}{i:TypeInfo}(h:Made.reckon info d=some i):i.methods= #[]/\ ∀s n,i.desc≠ .named s n:=by
 have en: ∀fs,Made.reckonStruct info fs=some i->i.methods= #[]/\ ∀s n,i.desc≠ .named s n:=by
  intro fs h;unfold Made.reckonStruct at h;simp only [bind,qan] at h;obtain ⟨r,_,h⟩:=h;split at h
  all_goals (simp only [pure,qaf] at h;subst h;exact ⟨rfl,λs n q=>by cases q⟩)
 unfold Made.reckon at h;cases d with
 | struct fs=>exact en fs h
 | pointer e=>
  simp only [bind,qan] at h;obtain ⟨j,_,h⟩:=h;split at h
  ·cases h
  ·split at h
   ·cases h
   ·simp only [qan,pure,qaf] at h;obtain ⟨_,_,h⟩:=h;subst h;exact ⟨rfl,λs n q=>by cases q⟩
  ·simp only [qan,pure,qaf] at h;obtain ⟨_,_,h⟩:=h;subst h;exact ⟨rfl,λs n q=>by cases q⟩
 | slice e=>
  simp only [bind,qan,pure,qaf] at h;obtain ⟨_,_,_,_,h⟩:=h;subst h;exact ⟨rfl,λs n q=>by cases q⟩
 | map k e=>
  simp only [bind,qan,pure,qaf] at h;obtain ⟨_,_,_,_,_,_,_,_,h⟩:=h;subst h;exact ⟨rfl,λs n q=>by cases q⟩
 | chan dir e=>
  simp only [bind,qan,pure,qaf] at h;obtain ⟨_,_,_,_,h⟩:=h;subst h;exact ⟨rfl,λs n q=>by cases q⟩
 | func ps rs v=>
  simp only [bind,qan,pure,qaf] at h;obtain ⟨_,_,h⟩:=h;subst h;exact ⟨rfl,λs n q=>by cases q⟩
 | array n e=>
  simp only [bind,qan,pure,qaf] at h;obtain ⟨_,_,_,_,h⟩:=h;subst h;exact ⟨rfl,λs n q=>by cases q⟩
 | _=>cases h
theorem EV{T:Tables}{n:Nat}{t:TypeId}{i:TypeInfo}(ht: ¬t<T.types.size)(h:Made.infoAt T n t=some i):i.methods= #[]/\ ∀s n,i.desc≠ .named s n:=by
 cases n with
 | zero=>cases h
 | succ n=>
  unfold Made.infoAt at h;rw [if_neg ht] at h;simp only [qan] at h;obtain ⟨d,_,h⟩:=h;exact EU h
theorem H7{T:Tables}{R:TypeInfo->Prop}(hm: ∀i,i.methods= #[]->(∀s n,i.desc≠ .named s n)->R i)(hT: ∀i∈T.types,R i){t:TypeId}{i:TypeInfo}(h:T.info? t=some i):R i:=by
 unfold Tables.info? at h;split at h
 ·exact hT i (qb2 h)
 ·rename_i ht;obtain ⟨h1,h2⟩:=EV ht h;exact hm i h1 h2
end Go.Cx
namespace Go.Cx
open Go
def blank:Func:={ name:= "",origin:= "",params:= #[],resultTypes:= #[],nfree:=0,ntmps:=0,results:= #[],body:=none,norace:=false,tmpNames:= #[] }
section
variable{p q:Program}(hT:p.toTables=q.toTables)
include hT
theorem nZ(t:TypeId):p.info? t=q.info? t:=by rw [hT]
theorem yR(t:TypeId):p.underlying t=q.underlying t:=by unfold Program.underlying;simp only [nZ hT]
theorem rj(t:TypeId):p.cellsOf t=q.cellsOf t:=by unfold Program.cellsOf;rw [nZ hT]
theorem uE(t:TypeId):p.bytesOf t=q.bytesOf t:=by unfold Program.bytesOf;rw [nZ hT]
theorem uF:p.depth=q.depth:=by unfold Program.depth;rw [hT]
theorem CM: ∀(d:Nat) (t:TypeId) (o:Nat),byteOfCell p d t o=byteOfCell q d t o:=by
 intro d
 induction d with
 | zero=>intro t o;rfl
 | succ d ih=>intro t o;unfold byteOfCell;simp only [yR hT,rj hT,uE hT,ih]
theorem Oq: ∀(d:Nat) (t:TypeId) (o:Nat),cellOfByte p d t o=cellOfByte q d t o:=by
 intro d
 induction d with
 | zero=>intro t o;rfl
 | succ d ih=>intro t o;unfold cellOfByte;simp only [yR hT,rj hT,uE hT,ih]
theorem ZB(d:Nat)(e:TypeId)(n o:Nat)(k:Int):cellAtBytes p d e n o k=cellAtBytes q d e n o k:=by
 unfold cellAtBytes;simp only [rj hT,uE hT,CM hT,Oq hT]
theorem Rj: ∀(d:Nat) (a b:TypeId),p.alikeButTags d a b=q.alikeButTags d a b:=by
 intro d
 induction d with
 | zero=>intro a b;rfl
 | succ d ih=>intro a b;unfold Program.alikeButTags;simp only [nZ hT,ih]
theorem Vh(t:TypeId):p.stoodInHeld t=q.stoodInHeld t:=by
 unfold Program.stoodInHeld Program.stoodInAs Program.underlyingId;simp only [yR hT,nZ hT,Rj hT,uF hT];rw [hT]
end
variable[aR][bs]
section
variable{L C:Program}(ok qu:FuncId->Bool)
def tyB(i:TypeInfo):Bool:=(match i.desc with | .named s _=>s != "sync.copyChecker" | _=>true)&&i.methods.toList.all λm=>m.path.toList.isEmpty&&match m.func with | some (f,_)=>ok f | none=>true
omit [aR] [bs] in
theorem Rm{i:TypeInfo}(h:tyB ok i=true):(∀n,i.desc≠ .named "sync.copyChecker" n)/\ ∀m∈i.methods,m.path.toList=[]/\ ∀f b,m.func=some (f,b)->ok f=true:=by
 simp only [tyB,qa5] at h;refine ⟨λn q=> ?_,λm hm=> ?_⟩
 ·have h1:=h.1;rw [q] at h1;simp at h1
 ·have h2:=lH h.2 m hm;simp only [qa5,List.isEmpty_iff] at h2;refine ⟨h2.1,λf b q=> ?_⟩;have h3:=h2.2;rw [q] at h3;exact h3
omit [aR] [bs] in
theorem KQ [bq]{f:FuncId}(hf:L.funcs[f]? =some blank)(h1:(Extern.findNext blank).isNone=true)(h2:(Extern.find blank).isNone=true)(args:Array Value):bk L (callFunc f args):=by
 unfold callFunc;refine bk.prog ?_;rw [hf];have e1:Extern.findNext blank=none:=by simpa using h1
 have e2:Extern.find blank=none:=by simpa using h2
 have e3:(blank.name== "runtime.NumGoroutine")=false:=rfl;have e4:blank.body.isNone=true:=rfl;simp only [e1,e2,e3,e4,if_true,qa7,if_false];refine bk.bind λ_=> ?_;rw [if_neg (by decide)];exact bk.halt
omit [aR] [bs] in
theorem MO(hT:L.toTables=C.toTables)(hg:C.globals.size=0)(hty:C.types.toList.all (tyB ok)=true)
  (hf: ∀(f:FuncId) (fn:Func),L.funcs[f]? =some fn->fn.body.isNone=false->qu f=true/\(fn.name== "runtime.NumGoroutine")=false/\ ∃iF:Func,C.funcs[f]? =some iF/\iF.body.isNone=false/\(iF.name== "runtime.NumGoroutine")=false)
  (hb: ∀(f:FuncId) (fn:Func),L.funcs[f]? =some fn->fn.body.isNone=true->fn=blank) (h1:(Extern.findNext blank).isNone=true) (h2:(Extern.find blank).isNone=true): @fx (fE ok qu) L C:=
 letI:=fE ok qu
 {info:=λt=>(nZ hT t).symm
  und:=λt=>(yR hT t).symm
  Pz:=by rw [hT]
  fns:=hf
  gl:=by rw [hT];exact hg
  sih:=λt=>(Vh hT t).symm
  cc:=λt i n h=>by
   have h:C.info? t=some i:=(nZ hT t).symm.trans h;exact H7 (R:=λi=> ∀n,i.desc≠ .named "sync.copyChecker" n) (λi _ h n=>h _ n) (λi hi=>(Rm ok (lH hty i hi)).1) h n
  cab:=λe n o k=>by rw [ZB hT,uF hT,rj hT]
  bof:=λe off=>⟨(rj hT e).symm,by rw [CM hT,uF hT],(uE hT e).symm⟩
  mp:=λt i m h hm=>by
   have h:C.info? t=some i:=(nZ hT t).symm.trans h;exact H7 (R:=λi=> ∀m∈i.methods,m.path.toList=[]/\ ∀f b,m.func=some (f,b)->ok f=true) (λi h _ m hm=>by rw [h] at hm;simp at hm) (λi hi=>(Rm ok (lH hty i hi)).2) h m hm
  nob:=λf fn h hn args=>by
   have:=hb f fn h hn;subst this;exact KQ h h1 h2 args }
end
end Go.Cx
namespace Go.Cx
open Go
def Pt(C:Program)(X:FuncId)(fX:Func)(keep:FuncId->Bool):Program:={ C with funcs:=C.funcs.mapIdx λi fn=>if i=X then fX else if keep i then fn else blank }
theorem rm(C:Program)(X:FuncId)(fX:Func)(keep:FuncId->Bool)(f:FuncId):(Pt C X fX keep).funcs[f]? =(C.funcs[f]?).map λfn=>if f=X then fX else if keep f then fn else blank:=by
 show (C.funcs.mapIdx _)[f]? =_;rw [Array.getElem?_mapIdx]
def jU(ok:FuncId->Bool)(L C:Program)(fn:Func):Bool:=fn.name != "runtime.NumGoroutine"&&match fn.body with | some c=>oR ok L C c | none=>false
theorem je{ok:FuncId->Bool}{L C:Program}{fn:Func}(h:jU ok L C fn=true):(fn.name== "runtime.NumGoroutine")=false/\ ∃c,fn.body=some c/\oR ok L C c=true:=by
 simp only [jU,qa5,bne_iff_ne] at h;refine ⟨by simpa using h.1, ?_⟩;have h2:=h.2;split at h2
 ·rename_i c e;exact ⟨c,e,h2⟩
 ·cases h2
@[reducible] def tx(ok qu:FuncId->Bool)(L C:Program):aR:=⟨λc=> @cG (fE ok qu) L C c⟩
section
variable[bs]{C:Program}{X:FuncId}{fX gX:Func}{keep ok:FuncId->Bool}
def mb(X:FuncId)(keep:FuncId->Bool)(n:Nat)(f:FuncId):Bool:=(f==X || keep f)&&decide (f<n)
omit [bs] in
theorem oS{D:Program}(hk:(List.range C.funcs.size).all (λf=> !(keep f) || f==X || match C.funcs[f]? with | some fn=>jU ok (Pt C X fX keep) D fn | none=>true)=true){f:FuncId}{fn:Func}(hf:C.funcs[f]? =some fn)(vB:keep f=true)(hX:f≠X):jU ok (Pt C X fX keep) D fn=true:=by
 have bJ:=(qa1.1 hf).1;have:=qad.1 hk f (by simpa using bJ);rw [hf,vB] at this;simpa [hX] using this
omit [bs] in
theorem ZC(hg:C.globals.size=0)(hty:C.types.toList.all (tyB ok)=true)(h1:(Extern.findNext blank).isNone=true)(h2:(Extern.find blank).isNone=true)
  (hX:jU ok (Pt C X fX keep) (Pt C X fX keep) fX=true) (hgX:C.funcs[X]? =some gX) (hgb:gX.body.isNone=false/\(gX.name== "runtime.NumGoroutine")=false)
  (hk:(List.range C.funcs.size).all (λf=> !(keep f) || f==X || match C.funcs[f]? with | some fn=>jU ok (Pt C X fX keep) C fn | none=>true)=true):
  @fx (fE ok (mb X keep C.funcs.size)) (Pt C X fX keep) C/\ @PF (fE ok (mb X keep C.funcs.size)) (tx ok (mb X keep C.funcs.size) (Pt C X fX keep) C) (Pt C X fX keep) C (λf=>f=X):=by
 letI:aR:=⟨λ_=>True⟩
 constructor
 ·refine MO ok _ rfl hg hty ?_ ?_ h1 h2
  ·intro f fn hf hb;rw [rm] at hf;cases hc:C.funcs[f]? with
   | none=>rw [hc] at hf;cases hf
   | some fc=>
    have bJ:=(qa1.1 hc).1;rw [hc,qae,qaf] at hf;by_cases AQ:f=X
    ·subst AQ;rw [if_pos rfl] at hf;subst hf;obtain ⟨k1,c,k2,k3⟩:=je hX;exact ⟨by simp [mb,bJ],k1,gX,(by rw [←hc];exact hgX),hgb⟩
    ·rw [if_neg AQ] at hf;cases z7:keep f with
     | false=>rw [z7] at hf;simp at hf;subst hf;cases hb
     | true=>
      rw [z7,if_pos rfl] at hf;subst hf;obtain ⟨k1,c,k2,k3⟩:=je (oS hk hc z7 AQ);exact ⟨by simp [mb,z7,bJ],k1,fc,rfl,hb,k1⟩
  ·intro f fn hf hb;rw [rm] at hf;cases hc:C.funcs[f]? with
   | none=>rw [hc] at hf;cases hf
   | some fc=>
    rw [hc,qae,qaf] at hf;by_cases AQ:f=X
    ·rw [if_pos AQ] at hf;subst hf;obtain ⟨k1,c,k2,k3⟩:=je hX;rw [k2] at hb;cases hb
    ·rw [if_neg AQ] at hf;cases z7:keep f with
     | false=>rw [z7] at hf;simpa using hf.symm
     | true=>
      rw [z7,if_pos rfl] at hf;subst hf;obtain ⟨k1,c,k2,k3⟩:=je (oS hk hc z7 AQ);rw [k2] at hb;cases hb
 ·refine @PF.mk (fE ok (mb X keep C.funcs.size)) (tx ok (mb X keep C.funcs.size) (Pt C X fX keep) C) _ _ _ ?_ rfl ?_
  ·intro f qx nO EW;have H8:mb X keep C.funcs.size f=true:=nO;simp only [mb,qa5,qc1,beq_iff_eq,decide_eq_true_eq] at H8;obtain ⟨h | z7,bJ⟩:=H8
   ·exact absurd h EW
   ·have hc:=Array.getElem?_eq_getElem bJ;obtain ⟨k1,c,k2,k3⟩:=je (oS hk hc z7 EW);exact ⟨_,c,by rw [rm,hc,qae,if_neg EW,if_pos z7],hc,k2,yQ ok _ c k3⟩
  ·intro c;exact Iff.rfl
omit [bs] in
theorem Vi(hg:C.globals.size=0)(hty:C.types.toList.all (tyB ok)=true)(h1:(Extern.findNext blank).isNone=true)(h2:(Extern.find blank).isNone=true)
  (hX:jU ok (Pt C X fX keep) (Pt C X fX keep) fX=true) (hgX:X<C.funcs.size)
  (hk:(List.range C.funcs.size).all (λf=> !(keep f) || f==X || match C.funcs[f]? with | some fn=>jU ok (Pt C X fX keep) (Pt C X fX keep) fn | none=>true)=true):
  @fx (fE ok (mb X keep C.funcs.size)) (Pt C X fX keep) (Pt C X fX keep)/\ @PF (fE ok (mb X keep C.funcs.size)) (tx ok (mb X keep C.funcs.size) (Pt C X fX keep) (Pt C X fX keep)) (Pt C X fX keep) (Pt C X fX keep) (λ_=>False):=by
 letI:aR:=⟨λ_=>True⟩;have yu: ∀(f:FuncId) (fn:Func),(Pt C X fX keep).funcs[f]? =some fn->f<C.funcs.size/\((f=X/\fn=fX)\/(f≠X/\keep f=true/\C.funcs[f]? =some fn)\/fn=blank):=by
  intro f fn hf;rw [rm] at hf;cases hc:C.funcs[f]? with
  | none=>rw [hc] at hf;cases hf
  | some fc=>
   have bJ:=(qa1.1 hc).1;rw [hc,qae,qaf] at hf;by_cases AQ:f=X
   ·rw [if_pos AQ] at hf;exact ⟨bJ, .inl ⟨AQ,hf.symm⟩⟩
   ·rw [if_neg AQ] at hf;cases z7:keep f with
    | false=>rw [z7] at hf;exact ⟨bJ, .inr (.inr (by simpa using hf.symm))⟩
    | true=>rw [z7,if_pos rfl] at hf;exact ⟨bJ, .inr (.inl ⟨AQ,rfl,hf▸rfl⟩)⟩
 constructor
 ·refine MO ok _ rfl hg hty ?_ ?_ h1 h2
  ·intro f fn hf hb;obtain ⟨bJ,⟨rfl,rfl⟩ | ⟨AQ,z7,hc⟩ | rfl⟩:=yu f fn hf
   ·obtain ⟨k1,c,k2,k3⟩:=je hX;exact ⟨by simp [mb,bJ],k1,fn,hf,hb,k1⟩
   ·obtain ⟨k1,c,k2,k3⟩:=je (oS hk hc z7 AQ);exact ⟨by simp [mb,z7,bJ],k1,fn,hf,hb,k1⟩
   ·cases hb
  ·intro f fn hf hb;obtain ⟨bJ,⟨rfl,rfl⟩ | ⟨AQ,z7,hc⟩ | rfl⟩:=yu f fn hf
   ·obtain ⟨k1,c,k2,k3⟩:=je hX;rw [k2] at hb;cases hb
   ·obtain ⟨k1,c,k2,k3⟩:=je (oS hk hc z7 AQ);rw [k2] at hb;cases hb
   ·rfl
 ·refine @PF.mk (fE ok (mb X keep C.funcs.size)) (tx ok (mb X keep C.funcs.size) (Pt C X fX keep) (Pt C X fX keep)) _ _ _ ?_ rfl ?_
  ·intro f qx nO _;have H8:mb X keep C.funcs.size f=true:=nO;simp only [mb,qa5,qc1,beq_iff_eq,decide_eq_true_eq] at H8;obtain ⟨h,bJ⟩:=H8;have hc:=Array.getElem?_eq_getElem bJ;by_cases AQ:f=X
   ·obtain ⟨k1,c,k2,k3⟩:=je hX;have e:(Pt C X fX keep).funcs[f]? =some fX:=by rw [rm,hc,qae,if_pos AQ]
    exact ⟨fX,c,e,e,k2,yQ ok _ c k3⟩
   ·have z7:keep f=true:=by rcases h with h | h;exact absurd h AQ;exact h
    obtain ⟨k1,c,k2,k3⟩:=je (oS hk hc z7 AQ);have e:(Pt C X fX keep).funcs[f]? =some C.funcs[f]:=by rw [rm,hc,qae,if_neg AQ,if_pos z7]
    exact ⟨_,c,e,e,k2,yQ ok _ c k3⟩
  ·intro c;exact Iff.rfl
end
end Go.Cx
namespace Go.Cx
open Go
variable[bq][aR][bs]
end Go.Cx
namespace Go.Cx
open Go
variable[bq][aR][bs]
theorem cz.other{β:Bj}{w W W':World}(h:cz β w W)(hs: ∀a b,β a b->W'.heap[b]? =W.heap[b]?):cz β w W':=
 ⟨λa b hb=>let ⟨o,o',h1,h2,h3⟩:=h.obj a b hb;⟨o,o',h1,(hs a b hb).trans h2,h3⟩,h.inj,h.fn⟩
end Go.Cx
namespace Go.Cx
open Go
def kU(S:Nat->Prop):Bj:=λa b=>a=b/\S a
end Go.Cx
namespace Go.Cx
open Go Go.Conc
inductive Rk where
 | leaf
 | node (f:World->Rk)
def Rk.lt(x y:Rk):Prop:= ∃f i,y= .node f/\x=f i
theorem Rk.acc(x:Rk):Acc Rk.lt x:=by
 induction x with
 | leaf=>exact ⟨_,λy ⟨f,i,h,_⟩=>by cases h⟩
 | node f ih=>
  refine ⟨_, ?_⟩;rintro y ⟨g,i,h1,rfl⟩;cases h1;exact ih i
def Ga(n:Nat)(x y:Nat->Rk):Prop:= ∃i,i<n/\Rk.lt (x i) (y i)/\ ∀k,k<n->k≠i->x k=y k
theorem Ga.acc: ∀(n:Nat) (y:Nat->Rk),Acc (Ga n) y
 | 0,y=>⟨_,λx ⟨i,hi,_⟩=>absurd hi (qaq _)⟩
 | n+1,y=>by
  have key: ∀(z:Rk), ∀(y:Nat->Rk),y n=z->Acc (Ga (n+1)) y:=by
   intro z
   induction z.acc with
   | intro z _ ih1=>
    intro y hy;have hA:=Ga.acc n y
    induction hA with
    | intro y _ ih2=>
     refine ⟨_, ?_⟩;rintro x ⟨i,hi,h1,h2⟩;rcases Nat.lt_or_ge i n with bJ | hge
     ·have e:x n=y n:=h2 n (Nat.lt_succ_self n) (by omega);exact ih2 x ⟨i,bJ,h1,λk hk hn=>h2 k (Nat.lt_succ_of_lt hk) hn⟩ (e.trans hy)
     ·obtain rfl:i=n:=by omega
      exact ih1 (x i) (hy▸h1) x rfl
  exact key _ y rfl
theorem Ga.wf(n:Nat):WellFounded (Ga n):=⟨Ga.acc n⟩
structure Ry(Iv:World->Prop)(K:Nat->Prop)(w w₁:World):Prop where
 blk: ∀b,K b->w₁.heap[b]? =w.heap[b]?
 size:w.heap.size<=w₁.heap.size
 iv:Iv w₁
theorem Ry.trans{Iv:World->Prop}{K:Nat->Prop}{a b c:World}(h:Ry Iv K a b)(k:Ry Iv K b c):Ry Iv K a c:=
 ⟨λx hx=>(k.blk x hx).trans (h.blk x hx),qac h.size k.size,k.iv⟩
def Vj(S Ro:Nat->Prop)(e:Event):Prop:=
 (e.sync=false/\((∃ad,e.loc= .cell ad/\(S ad.block\/(Ro ad.block/\e.write=false)))\/(∃r,e.loc= .obj r/\S r)))\/e=⟨.mark .noRoom,false,true⟩
def nw(S:Nat->Prop)(w w':World):Nat->Prop:=λb=>S b\/(w.heap.size<=b/\b<w'.heap.size)
structure Ow(S Ro:Nat->Prop)(w w':World)(es:Array Event):Prop where
 tape:w'.tape=w.tape
 os:w'.os=w.os
 output:w'.output=w.output
 size:w.heap.size<=w'.heap.size
 blk: ∀b,b<w.heap.size-> ¬S b->w'.heap[b]? =w.heap[b]?
 ev: ∀e∈es,Vj (nw S w w') Ro e
theorem Ow.still(S Ro:Nat->Prop)(w:World):Ow S Ro w w #[]:=⟨rfl,rfl,rfl,qa3 _,λ_ _ _=>rfl,λe he=>by simp at he⟩
section
variable(P:Program)(main:Bool)(Iv:World->Prop)(Ro:Nat->Prop)(Stop:(Nat->Prop)->Goroutine->World->Prop)
def Wk:Rk->(Nat->Prop)->Goroutine->World->Prop
 | .leaf,S,g,w=> ∀w₁,Ry Iv (λb=>S b\/Ro b) w w₁->Stop S g w₁
 | .node f,S,g,w=> ∀w₁,Ry Iv (λb=>S b\/Ro b) w w₁->Stop S g w₁\/
  (g.status= .running/\ ∃g' w' es,stepG P main g w₁= .go g' w' es/\Ow S Ro w₁ w' es/\Wk (f w₁) (nw S w₁ w') g' w')
def dM(S:Nat->Prop)(g:Goroutine)(w:World):Prop:= ∃r,Wk P main Iv Ro Stop r S g w
end
section
variable{P:Program}{main:Bool}{Iv:World->Prop}{Ro:Nat->Prop}{Stop:(Nat->Prop)->Goroutine->World->Prop}{S:Nat->Prop}{g:Goroutine}{w w₁:World}
theorem Wk.rely{r:Rk}(h:Wk P main Iv Ro Stop r S g w)(hr:Ry Iv (λb=>S b\/Ro b) w w₁):Wk P main Iv Ro Stop r S g w₁:=by
 cases r with
 | leaf=>exact λZD ZE=>h ZD (hr.trans ZE)
 | node f=>exact λZD ZE=>h ZD (hr.trans ZE)
theorem Ry.refl{K:Nat->Prop}(hi:Iv w):Ry Iv K w w:=⟨λ_ _=>rfl,qa3 _,hi⟩
theorem Wk.cases{r:Rk}(h:Wk P main Iv Ro Stop r S g w)(hi:Iv w):Stop S g w\/(g.status= .running/\ ∃g' w' es r',stepG P main g w= .go g' w' es/\Ow S Ro w w' es/\Rk.lt r' r/\Wk P main Iv Ro Stop r' (nw S w w') g' w'):=by
 cases r with
 | leaf=>exact .inl (h w (.refl hi))
 | node f=>
  rcases h w (.refl hi) with h | ⟨hs,g',w',es,h1,h2,h3⟩
  ·exact .inl h
  ·exact .inr ⟨hs,g',w',es,_,h1,h2,⟨f,w,rfl,rfl⟩,h3⟩
theorem dM.rely(h:dM P main Iv Ro Stop S g w)(hr:Ry Iv (λb=>S b\/Ro b) w w₁):dM P main Iv Ro Stop S g w₁:=let ⟨r,h⟩:=h;⟨r,h.rely hr⟩
open Classical in
theorem dM.mk(h: ∀w₁,Ry Iv (λb=>S b\/Ro b) w w₁->Stop S g w₁\/(g.status= .running/\ ∃g' w' es,stepG P main g w₁= .go g' w' es/\Ow S Ro w₁ w' es/\dM P main Iv Ro Stop (nw S w₁ w') g' w')):dM P main Iv Ro Stop S g w:=by
 have h': ∀w₁, ∃r:Rk,Ry Iv (λb=>S b\/Ro b) w w₁->Stop S g w₁\/(g.status= .running/\ ∃g' w' es,stepG P main g w₁= .go g' w' es/\Ow S Ro w₁ w' es/\Wk P main Iv Ro Stop r (nw S w₁ w') g' w'):=λw₁=>by
  by_cases hw:Ry Iv (λb=>S b\/Ro b) w w₁
  ·rcases h w₁ hw with h1 | ⟨hs,g',w',es,h1,h2,r',h3⟩
   ·exact ⟨.leaf,λ_=> .inl h1⟩
   ·exact ⟨r',λ_=> .inr ⟨hs,g',w',es,h1,h2,h3⟩⟩
  ·exact ⟨.leaf,λq=>absurd q hw⟩
 exact ⟨.node λw₁=>(h' w₁).choose,λw₁ hw=>(h' w₁).choose_spec hw⟩
theorem dM.cases(h:dM P main Iv Ro Stop S g w)(hi:Iv w):Stop S g w\/(g.status= .running/\ ∃g' w' es,stepG P main g w= .go g' w' es/\Ow S Ro w w' es/\dM P main Iv Ro Stop (nw S w w') g' w'):=by
 obtain ⟨r,h⟩:=h;rcases h.cases hi with h | ⟨hs,g',w',es,r',h1,h2,_,h3⟩
 ·exact .inl h
 ·exact .inr ⟨hs,g',w',es,h1,h2,r',h3⟩
theorem dM.now(h: ∀w₁,Ry Iv (λb=>S b\/Ro b) w w₁->dM P main Iv Ro Stop S g w₁):dM P main Iv Ro Stop S g w:=dM.mk λw₁ hw=>(h w₁ hw).cases hw.iv
theorem dM.stop(h: ∀w₁,Ry Iv (λb=>S b\/Ro b) w w₁->Stop S g w₁):dM P main Iv Ro Stop S g w:=⟨.leaf,h⟩
theorem dM.step(hs:g.status= .running)(h: ∀w₁,Ry Iv (λb=>S b\/Ro b) w w₁-> ∃g' w' es,stepG P main g w₁= .go g' w' es/\Ow S Ro w₁ w' es/\dM P main Iv Ro Stop (nw S w₁ w') g' w'):dM P main Iv Ro Stop S g w:=dM.mk λw₁ hw=> .inr ⟨hs,h w₁ hw⟩
theorem dM.bind{H9:(Nat->Prop)->Goroutine->World->Prop}(h:dM P main Iv Ro Stop S g w)(k: ∀S g w,Iv w->Stop S g w->dM P main Iv Ro H9 S g w):dM P main Iv Ro H9 S g w:=by
 obtain ⟨r,h⟩:=h
 induction r generalizing S g w with
 | leaf=>exact dM.now λw₁ hw=>k _ _ _ hw.iv (h w₁ hw)
 | node f ih=>
  refine dM.mk λw₁ hw=> ?_;rcases h w₁ hw with h | ⟨hs,g',w',es,h1,h2,h3⟩
  ·exact (k _ _ _ hw.iv h).cases hw.iv
  ·exact .inr ⟨hs,g',w',es,h1,h2,ih _ h3⟩
end
end Go.Cx
namespace Go.Cx
open Go Go.Conc
variable[bq][aR][bs]
def SO(β:Bj)(w:World)(b:Nat):Prop:=(∃a,β a b)/\ ¬fw β w b
section
variable{β bV:Bj}{w w1 W W1:World}
omit [bq] [aR] [bs] in
theorem kP.oT(hT:kP β bV w w1 W W1)(b:Nat):fw bV w1 b↔fw β w b:=by
 constructor
 ·intro h;have h':=h;obtain ⟨a,c,e,h1,h2,h3⟩:=h;rcases hT.fresh a b h1 with q | ⟨_,_,_,q⟩
  ·exact qa8 λhn=>hT.unlock b ⟨a,q⟩ hn h'
  ·exact (q h').elim
 ·exact hT.B6 b
theorem kP.so(hw:cz β w W)(hT:kP β bV w w1 W W1)(b:Nat):SO bV w1 b↔nw (SO β w) W W1 b:=by
 unfold SO nw;rw [hT.oT];show _↔((∃a,β a b)/\ ¬fw β w b)\/_
 constructor
 ·rintro ⟨⟨a,h1⟩,h2⟩;rcases hT.fresh a b h1 with q | ⟨_,q1,q2,_⟩
  ·exact .inl ⟨⟨a,q⟩,h2⟩
  ·exact .inr ⟨q1,q2⟩
 ·rintro (⟨⟨a,h1⟩,h2⟩ | ⟨h1,h2⟩)
  ·exact ⟨⟨a,hT.le _ _ h1⟩,h2⟩
  ·refine ⟨hT.all b h1 h2, ?_⟩;rintro ⟨a,c,e,q1,q2,q3⟩;exact absurd (hw.Py q1) (qcg.2 h1)
omit [bq] [aR] [bs] in
theorem Rn{S S':Nat->Prop}(h: ∀b,S b↔S' b){b:Nat}:nw S W W1 b↔nw S' W W1 b:=by
 unfold nw;rw [h b]
theorem kP.ow{S Ro:Nat->Prop}(hw:cz β w W)(hT:kP β bV w w1 W W1)(hS: ∀b,S b↔SO β w b)(hR: ∀b,fw β w b->Ro b){es:Array Event}(he: ∀e∈es,qv bV w1 e):Ow S Ro W W1 es where
 tape:=hT.tape
 os:=hT.os
 output:=hT.output
 size:=hT.size
 blk:=λb hb hn=>by
  by_cases h: ∃a,β a b
  ·by_cases hl:fw β w b
   ·exact hT.lock b hl
   ·exact absurd ((hS b).2 ⟨h,hl⟩) hn
  ·exact hT.stay b hb λa ha=>h ⟨a,ha⟩
 ev:=λe q=>by
  have hso: ∀b,SO bV w1 b->nw S W W1 b:=λb hb=>by
   rcases (hT.so hw b).1 hb with h | h
   ·exact .inl ((hS b).2 h)
   ·exact .inr h
  rcases he e q with ⟨h0,⟨ad,a,h1,h2,h3⟩ | ⟨r,a,h1,h2,h3⟩⟩ | h
  ·refine .inl ⟨h0, .inl ⟨ad,h1, ?_⟩⟩;by_cases hl:fw bV w1 ad.block
   ·refine .inr ⟨hR _ ((hT.oT _).1 hl), ?_⟩;cases Xm:e.write with
    | false=>rfl
    | true=>exact absurd hl (h3 Xm)
   ·exact .inl (hso _ ⟨⟨a,h2⟩,hl⟩)
  ·exact .inl ⟨h0, .inr ⟨r,h1,hso _ ⟨⟨a,h2⟩,h3⟩⟩⟩
  ·exact .inr h
end
section
variable{L C:Program}{m:Bool}{Iv:World->Prop}{Ro:Nat->Prop}{c:Frame}{cs:List Frame}{R:Value->World->Prop}
def Vk(L:Program)(β0:Bj)(w0:World)(Ro:Nat->Prop)(R:Value->World->Prop)(c:Frame)(cs:List Frame)(S:Nat->Prop)(g:Goroutine)(W:World):Prop:=
 ∃β w v v',g=fD (c.finish v') cs/\R v w/\aF β v v'/\cz β w W/\Dw w/\Le β0 β/\(∀b,fw β w b↔fw β0 w0 b)/\(∀b,S b↔SO β w b)/\(∀b,fw β w b->Ro b)
theorem Ry.rel{S:Nat->Prop}{β:Bj}{w W KR:World}(hr:Ry Iv (λb=>S b\/Ro b) W KR)(hw:cz β w W)(hS: ∀b,S b↔SO β w b)(hR: ∀b,fw β w b->Ro b):cz β w KR:=
 hw.other λa b lL=>hr.blk b (by
  by_cases hl:fw β w b
  ·exact .inr (hR b hl)
  ·exact .inl ((hS b).2 ⟨⟨a,lL⟩,hl⟩))
theorem Ot{Xs:FuncId->Prop}(HP:fx L C)(HF:PF L C Xs)(hX: ∀f x k w,Xs f-> ¬vu L (Left L R) (Frame.enter L f x .normal) k w)(β0:Bj)(w0:World){a:Frame}{k:List Frame}{w:World}(hW:vu L (Left L R) a k w):
  ∀{β:Bj} {b:Frame} {k':List Frame} {W:World} {S:Nat->Prop},cM L C β (a::k) (b::k')->cz β w W->Dw w->Le β0 β->(∀b,fw β w b↔fw β0 w0 b)->(∀b,S b↔SO β w b)->(∀b,fw β w b->Ro b)->
   dM C m Iv Ro (Vk L β0 w0 Ro R c cs) S (fD b (k'++c::cs)) W:=by
 induction hW with
 | @done a w hm hd hq=>
  intro β b k' W S eR hw hD hle XJ hS hR;obtain ⟨v,hE,hRv⟩:=hq;refine dM.step rfl λKR hr=> ?_;have wQ:=hr.rel hw hS hR;obtain ⟨rfl,bV,v',W2,es,τ,e1,e2,e3,e4,e5⟩:=H6 (m:=m) (t':=c) (r':=cs) HP HF eR wQ hE;have Rq:cz β (TW w τ) KR:=⟨wQ.obj,wQ.inj,wQ.fn⟩;refine ⟨_,_,_,e1,e4.ow (Ro:=Ro) Rq hS hR e5,dM.stop λW3 hr3=> ?_⟩;have JG: ∀b,nw S KR W2 b↔SO bV w b:=λb=>(Rn hS).trans (e4.so Rq b).symm;have hR': ∀b,fw bV w b->Ro b:=λb h=>hR b ((e4.oT b).1 h);exact ⟨bV,w,v,v',rfl,hRv,e2,hr3.rel e3 JG hR',hD,hle.trans e4.le,λb=>(e4.oT b).trans (XJ b),JG,hR'⟩
 | @step a k w h1 h2 ih=>
  intro β b k' W S eR hw hD hle XJ hS hR;refine dM.step rfl λKR hr=> ?_;have wQ:=hr.rel hw hS hR;obtain ⟨bV,a1,k1,w1,W1,uA,es,τ,e1,e2,e3,_,_,e4,e5,e6,⟨qH,e7⟩,e8⟩:=H0 (m:=m) (bs':=c::cs) HP HF eR wQ h1 h2 .nil;have Rq:cz β (TW w τ) KR:=⟨wQ.obj,wQ.inj,wQ.fn⟩;cases e2 with
  | enter f PE _ _ ha _=>exact (hX f _ _ _ PE (ha▸h2 _ _ _ _ _ e6 e7)).elim
  | @on b1 T3 sD hg=>
   subst hg;refine ⟨_,_,_,e1,e4.ow (Ro:=Ro) Rq hS hR e5,ih _ _ _ _ _ e6 e7 sD e3 (e8 hD) (hle.trans e4.le) (λb=>(e4.oT b).trans (XJ b)) (λb=>(Rn hS).trans (e4.so Rq b).symm) λb h=>hR b ((e4.oT b).1 h)⟩
end
end Go.Cx
namespace Go.Cx
open Go Go.Conc
variable[bq][aR][bs]
section
variable{L C:Program}{m:Bool}{Iv:World->Prop}{Ro:Nat->Prop}{c:Frame}{cs:List Frame}{R:Value->World->Prop}
theorem MP{Xs:FuncId->Prop}(HP:fx L C)(HF:PF L C Xs)(hX: ∀f x k w,Xs f-> ¬vu L (Left L R) (Frame.enter L f x .normal) k w){f:FuncId}(qx:bq.ok f)(nO:bq.qu f)(EW: ¬Xs f){x x':Array Value}{β:Bj}{w W:World}{S:Nat->Prop}
  (hW:vu L (Left L R) (Frame.enter L f x .normal) [] w) (hx:aQ β x x') (hw:cz β w W) (hD:Dw w) (hS: ∀b,S b↔SO β w b) (hR: ∀b,fw β w b->Ro b):
  dM C m Iv Ro (Vk L β w Ro R c cs) S (fD (Frame.enter C f x' .normal) (c::cs)) W:=by
 obtain ⟨fn,cd,g1,g2,g3,g4⟩:=HF.same f qx nO EW;have eR:cM L C β [Frame.enter L f x .normal] [Frame.enter C f x' .normal]:= .one (mR g1 g2 g3 g4 hx) rfl;exact Ot HP HF hX β w hW eR hw hD (Le.refl _) (λb=>Iff.rfl) hS hR
end
end Go.Cx
namespace Go.Cx
open Go Go.Conc
instance hU:bs:=⟨λv=> ∀t w,v≠ .iface t w,λt w h=>h t w rfl⟩
section
variable(F:bq)(T:Nat->Prop)
theorem EX(x:Array Value)(h: ∀v∈x, ∃u, @aF F hU (kU T) u v): ∃y:Array Value,y.size=x.size/\ ∀(i:Nat) (u v:Value),y[i]? =some u->x[i]? =some v-> @aF F hU (kU T) u v:=by
 classical
 refine ⟨x.map λv=>if q: ∃u, @aF F hU (kU T) u v then q.choose else v,by simp,λi u v hu hv=> ?_⟩;rw [qc4,hv,qae,qaf] at hu;have q:=h v (qb2 hv);rw [dif_pos q] at hu;exact hu▸q.choose_spec
theorem kV{v:Value}(h:Odd v)(k: ∀t w,v≠ .iface t w): ∃u, @aF F hU (kU T) u v:=⟨_, @aF.hole F hU _ _ h k⟩
theorem rX: ∀(v:Value), ∃u, @aF F hU (kU T) u v
 | .bool b=>⟨_, @aF.bool F hU _ b⟩
 | .int k n=>⟨_, @aF.int F hU _ k n⟩
 | .float k n=>kV F T trivial nofun
 | .complex k n m=>kV F T trivial nofun
 | .string s=>⟨_, @aF.string F hU _ s⟩
 | .pointer none=>⟨_, @aF.mE F hU _⟩
 | .pointer (some a)=>kV F T trivial nofun
 | .slice none n c=>⟨_, @aF.jc F hU _ n c⟩
 | .slice (some a) n c=>kV F T trivial nofun
 | .map r=>kV F T trivial nofun
 | .chan r=>kV F T trivial nofun
 | .func (.func f) x y=>kV F T trivial nofun
 | .func (.yield f) x y=>kV F T trivial nofun
 | .func (.methodOf t n) x y=>kV F T trivial nofun
 | .func (.via t p f q) x y=>kV F T trivial nofun
 | .func (.method n) x y=>by
  obtain ⟨x',h1,h2⟩:=EX F T x λv hv=>rX v;obtain ⟨y',h3,h4⟩:=EX F T y λv hv=>rX v;exact ⟨_, @aF.func F hU _ _ _ _ _ _ _ (@AM.method F _ n) h1 h3 (λi u v a b=>h2 i u v a b) (λi u v a b=>h4 i u v a b)⟩
 | .nilFunc=>⟨_, @aF.ni F hU _⟩
 | .iface t v=>let ⟨u,h⟩:=rX v;⟨_, @aF.iface F hU _ t _ _ h⟩
 | .nilIface=>⟨_, @aF.gv F hU _⟩
 | .agg x=>by
  obtain ⟨x',h1,h2⟩:=EX F T x λv hv=>rX v;exact ⟨_, @aF.agg F hU _ _ _ h1 (λi u v a b=>h2 i u v a b)⟩
 | .tuple x=>kV F T trivial nofun
termination_by v=>SizeOf.sizeOf v
decreasing_by
 all_goals first | (have:=Array.sizeOf_lt_of_mem hv;simp_wf;omega) | (simp_wf;omega)
open Classical in
noncomputable def Rr(v:Value):Value:=if @aF F hU (kU T) v v then v else (rX F T v).choose
theorem MQ(v:Value): @aF F hU (kU T) (Rr F T v) v:=by
 unfold Rr;split
 ·assumption
 ·exact (rX F T v).choose_spec
theorem Ia{v:Value}(h: @aF F hU (kU T) v v):Rr F T v=v:=by
 unfold Rr;rw [if_pos h]
open Classical in
noncomputable def Fw(W:World):World:={ W with heap:=W.heap.mapIdx λb o=>if T b then (match o with | .cells c e _=> .cells (c.map (Rr F T)) e (0,c.size+1) | _=> .cells #[] 0) else .cells #[] 0 }
variable{W:World}
theorem rY:(Fw F T W).heap.size=W.heap.size:=by simp [Fw]
theorem yS{b:Nat}{c:Array Value}{e:TypeId}{f:Nat×Nat}(hT:T b)(h:W.heap[b]? =some (.cells c e f)):(Fw F T W).heap[b]? =some (.cells (c.map (Rr F T)) e (0,c.size+1)):=by
 show (W.heap.mapIdx _)[b]? =_;rw [Array.getElem?_mapIdx,h,qae,if_pos hT]
theorem Rt:Dw (Fw F T W):=by
 intro r ds hr;have hr:(W.heap.mapIdx _)[r]? =_:=hr;rw [Array.getElem?_mapIdx] at hr;cases ho:W.heap[r]? with
 | none=>rw [ho] at hr;cases hr
 | some o=>
  rw [ho,qae,qaf] at hr;split at hr
  ·split at hr <;> cases hr
  ·cases hr
theorem KS(K:aR)(hT: ∀b,T b-> ∃c e f,W.heap[b]? =some (.cells c e f)):
  @cz F K hU (kU T) (Fw F T W) W/\(∀b,T b↔fw (kU T) (Fw F T W) b):=by
 letI:bq:=F;letI:aR:=K;letI:bs:=hU;refine ⟨⟨?_, ?_, ?_⟩,λb=>⟨λh=> ?_,λ⟨a,c,e,h,_⟩=> ?_⟩⟩
 ·rintro a b ⟨rfl,hb⟩;obtain ⟨c,e,f,h1⟩:=hT a hb;refine ⟨_,_,yS F T hb h1,h1, ?_⟩;have:= @pJ.lock F K hU (kU T) (c.map (Rr F T)) c f e ⟨by simp,λi v v' hv GX=> ?_⟩
  ·simpa using this
  ·rw [qc4,GX] at hv;cases hv;exact MQ F T v'
 ·rintro a a' b ⟨rfl,_⟩ ⟨rfl,_⟩;rfl
 ·rintro a b b' ⟨rfl,_⟩ ⟨rfl,_⟩;rfl
 ·obtain ⟨c,e,f,h1⟩:=hT b h;exact ⟨b,c.map (Rr F T),e,⟨rfl,h⟩,trivial,by rw [yS F T h h1,Array.size_map]⟩
 ·obtain ⟨rfl,h⟩:=h;exact h
theorem uG{a:Addr}{v:Value}(hT:T a.block)(h:W.cell? a=some v)(hv: @aF F hU (kU T) v v):(Fw F T W).cell? a=some v:=by
 letI:bq:=F;letI:aR:=⟨λ_=>True⟩;letI:bs:=hU;obtain ⟨c,e,f,h1,h2,h3⟩:=oP h;refine cell_of (yS F T hT h1) h2 ?_;rw [qc4,h3,qae,Ia F T hv]
end
end Go.Cx
namespace Go.Cx
open Go Go.Conc Go.ConcN
def gx:Loc->Nat->Prop
 | .cell a,b=>a.block=b
 | .obj r,b=>r=b
 | _,_=>False
theorem gx.inj{l:Loc}{b c:Nat}(h:gx l b)(k:gx l c):b=c:=by
 cases l <;> first | exact h.symm.trans k | exact h.elim
def sE(A:Nat->Prop)(l:Loc):Prop:= ∃b,gx l b/\A b
structure TI(Sh cY:Loc->Prop)(act live:Nat->Prop)(S Rd:Nat->Nat->Prop)(sz N:Nat)(t:Trace):Prop where
 quiet:Quiet Sh t
 own: ∀k,live k-> ∀l,sE (S k) l->Perm t k l
 rd: ∀k,live k-> ∀l,sE (Rd k) l->PermW t k l
 free: ∀l,l.isMemory=true-> ¬Sh l-> ¬cY l->(∀k,act k-> ¬sE (S k) l/\ ¬sE (Rd k) l)->Perm t 0 l
 mine: ∀l,l.isMemory=true-> ¬Sh l-> ¬cY l->(∀k,act k-> ¬sE (S k) l)->PermW t 0 l
 Ou: ∀i a,touchAt t i=some a->a.loc.isMemory=true-> ¬Sh a.loc-> ¬cY a.loc->Knows t 0 i\/ ∃k,act k/\t.g? i=some k/\a.kind= .plain
 nr: ∀said, ¬Race said t
 gs: ∀(i:Nat) (op:MemOp),t[i]? =some op->op.g<=N
 fresh: ∀i a,touchAt t i=some a-> ∀b,gx a.loc b->b<sz
structure Apr(Sh cY:Loc->Prop)(act live:Nat->Prop)(S Rd:Nat->Nat->Prop):Prop where
 la: ∀k,live k->act k
 own: ∀k k' b,act k->act k'->S k b->S k' b->k=k'
 ownRd: ∀k k' b,act k->act k'->S k b-> ¬Rd k' b
 ownSh: ∀k l,act k->sE (S k) l-> ¬Sh l/\ ¬cY l
 rdSh: ∀k l,act k->sE (Rd k) l-> ¬Sh l/\ ¬cY l
def TOk(Sh cY:Loc->Prop)(act live:Nat->Prop)(S Rd:Nat->Nat->Prop)(g:Nat)(x:Touch):Prop:=
 (Sh x.loc/\x.kind≠ .plain/\(x.kind= .said->g=0))\/
 (¬Sh x.loc/\ ¬cY x.loc/\g=0/\(∀k,act k-> ¬sE (S k) x.loc)/\(x.write=true-> ∀k,act k-> ¬sE (Rd k) x.loc))\/
 (live g/\x.kind= .plain/\sE (S g) x.loc)\/
 (live g/\x.kind= .plain/\sE (Rd g) x.loc/\x.write=false)
section
variable{Sh cY:Loc->Prop}{act live:Nat->Prop}{S S' Rd:Nat->Nat->Prop}{sz XQ N g:Nat}{t u:Trace}
theorem Perm.none{k:Nat}{l:Loc}{b:Nat}(h:TI Sh cY act live S Rd sz N t)(hl:gx l b)(hb:sz<=b):Perm t k l:=by
 intro i a ha e;have:=h.fresh i a ha b (e▸hl);omega
theorem TI.app(h:TI Sh cY act live S Rd sz N t)(hg: ∀op∈u,op.g=g)(hN:g<=N)(h0: ¬live 0)(kD:sz<=XQ)(hS: ∀k b,S k b->S' k b)(JG: ∀k b,S' k b->S k b\/sz<=b)
  (A:Apr Sh cY act live S' Rd) (oO: ∀op∈u, ∀x,op.act.touch? =some x-> ∀b,gx x.loc b->b<XQ) (hu: ∀op∈u, ∀x,op.act.touch? =some x->TOk Sh cY act live S' Rd g x):
  TI Sh cY act live S' Rd XQ N (t++u):=by
 have lin: ∀{k l},sE (S k) l->sE (S' k) l:=λ⟨b,h1,h2⟩=>⟨b,h1,hS _ _ h2⟩;have acp: ∀k,live k-> ∀l,sE (S' k) l->Perm t k l:=λk hk l ⟨b,h1,h2⟩=>by
  rcases JG _ _ h2 with h3 | h3
  ·exact h.own k hk l ⟨b,h1,h3⟩
  ·exact Perm.none h h1 h3
 have XR: ∀l,l.isMemory=true-> ¬Sh l-> ¬cY l->(∀k,act k-> ¬sE (S' k) l/\ ¬sE (Rd k) l)->Perm t 0 l:=λl hm hs hb hk=>h.free l hm hs hb λk ha=>⟨λq=>(hk k ha).1 (lin q),(hk k ha).2⟩;have XS: ∀l,l.isMemory=true-> ¬Sh l-> ¬cY l->(∀k,act k-> ¬sE (S' k) l)->PermW t 0 l:=λl hm hs hb hk=>h.mine l hm hs hb λk ha q=>hk k ha (lin q);refine ⟨?_,λk hk l hl=> ?_,λk hk l hl=> ?_,λl hm hs hb hk=> ?_,λl hm hs hb hk=> ?_,λi a ha hm hs hb=> ?_,λsaid=> ?_,λi op hi=> ?_,λi a ha b hb=> ?_⟩
 ·refine h.quiet.app λop cL x hx hs=> ?_;rcases hu op cL x hx with ⟨_,h2,h3⟩ | ⟨h1,_⟩ | ⟨h1,_,h3⟩ | ⟨h1,_,h3,_⟩
  ·exact ⟨h2,λe=>(hg op cL).trans (h3 e)⟩
  ·exact absurd hs h1
  ·exact absurd hs (A.ownSh g _ (A.la g h1) h3).1
  ·exact absurd hs (A.rdSh g _ (A.la g h1) h3).1
 ·refine (acp k hk l hl).app λop cL x hx e=> ?_;subst e;rcases hu op cL x hx with ⟨h1,_⟩ | ⟨_,_,_,h1,_⟩ | ⟨h1,_,b,h3,h4⟩ | ⟨h1,_,⟨b,h3,h4⟩,_⟩
  ·exact absurd h1 (A.ownSh k _ (A.la k hk) hl).1
  ·exact absurd hl (h1 k (A.la k hk))
  ·obtain ⟨c,h5,h6⟩:=hl;have:=gx.inj h3 h5;subst this;exact (hg op cL).trans (A.own _ _ _ (A.la g h1) (A.la k hk) h4 h6)
  ·obtain ⟨c,h5,h6⟩:=hl;have:=gx.inj h3 h5;subst this;exact absurd h4 (A.ownRd _ _ _ (A.la k hk) (A.la g h1) h6)
 ·refine (h.rd k hk l hl).app λop cL x hx e hw=> ?_;subst e;rcases hu op cL x hx with ⟨h1,_⟩ | ⟨_,_,_,_,h1⟩ | ⟨h1,_,b,h3,h4⟩ | ⟨_,_,_,h1⟩
  ·exact absurd h1 (A.rdSh k _ (A.la k hk) hl).1
  ·exact absurd hl (h1 hw k (A.la k hk))
  ·obtain ⟨c,h5,h6⟩:=hl;have:=gx.inj h3 h5;subst this;exact absurd h6 (A.ownRd _ _ _ (A.la g h1) (A.la k hk) h4)
  ·rw [h1] at hw;cases hw
 ·refine (XR l hm hs hb hk).app λop cL x hx e=> ?_;subst e;rcases hu op cL x hx with ⟨h1,_⟩ | ⟨_,_,h1,_⟩ | ⟨h1,_,h3⟩ | ⟨h1,_,h3,_⟩
  ·exact absurd h1 hs
  ·exact (hg op cL).trans h1
  ·exact absurd h3 (hk g (A.la g h1)).1
  ·exact absurd h3 (hk g (A.la g h1)).2
 ·refine (XS l hm hs hb hk).app λop cL x hx e hw=> ?_;subst e;rcases hu op cL x hx with ⟨h1,_⟩ | ⟨_,_,h1,_⟩ | ⟨h1,_,h3⟩ | ⟨_,_,_,h1⟩
  ·exact absurd h1 hs
  ·exact (hg op cL).trans h1
  ·exact absurd h3 (hk g (A.la g h1))
  ·rw [h1] at hw;cases hw
 ·obtain ⟨x,hx,KT⟩:=touch_of ha;rcases getElem?_append_cases hx with ⟨hi,uf⟩ | ⟨_,ZF⟩
  ·rcases h.Ou i a (by rw [touchAt_of uf];exact KT) hm hs hb with q | ⟨k,h1,h2,h3⟩
   ·exact .inl (q.app u)
   ·exact .inr ⟨k,h1,by rw [g?_old hi];exact h2,h3⟩
  ·have hgx:x.g=g:=hg x ZF;rcases hu x ZF a KT with ⟨h1,_⟩ | ⟨_,_,h1,_⟩ | ⟨h1,h2,_⟩ | ⟨h1,h2,_⟩
   ·exact absurd h1 hs
   ·have:=knows_own hx;rw [hgx,h1] at this;exact .inl this
   ·exact .inr ⟨g,A.la g h1,by simp [Trace.g?, hx,hgx],h2⟩
   ·exact .inr ⟨g,A.la g h1,by simp [Trace.g?, hx,hgx],h2⟩
 ·refine noRace_append (h.nr said) hg λi a ha op cL b hb hc=> ?_;rcases hu op cL b hb with ⟨h1,h2,h3⟩ | ⟨h1,h2,h3,h4,h5⟩ | ⟨h1,_,h3⟩ | ⟨h1,_,h3,h4⟩
  ·exact h.quiet.known h1 h2 h3 i a ha hc
  ·subst h3;cases Vm:b.write with
   | true=>exact XR b.loc (hc.1▸hc.2.1) h1 h2 (λk hk=>⟨h4 k hk,h5 Vm k hk⟩) i a ha hc.1
   | false=>exact XS b.loc (hc.1▸hc.2.1) h1 h2 h4 i a ha hc.1 (hc.2.2.1.resolve_right (by simp [Vm]))
  ·exact acp g h1 b.loc h3 i a ha hc.1
  ·exact h.rd g h1 b.loc h3 i a ha hc.1 (hc.2.2.1.resolve_right (by simp [h4]))
 ·rcases getElem?_append_cases hi with ⟨_,fa⟩ | ⟨_,ZG⟩
  ·exact h.gs i op fa
  ·rw [hg op ZG];exact hN
 ·obtain ⟨x,hx,KT⟩:=touch_of ha;rcases getElem?_append_cases hx with ⟨hi,uf⟩ | ⟨_,ZF⟩
  ·exact qa4 (h.fresh i a (by rw [touchAt_of uf];exact KT) b hb) kD
  ·exact oO x ZF a KT b hb
end
end Go.Cx
namespace Go.Cx
open Go Go.Conc Go.ConcN
section
variable{Sh cY:Loc->Prop}{act live acr XT:Nat->Prop}{S S' Rd Rd':Nat->Nat->Prop}{sz XQ N g:Nat}{t u:Trace}
theorem TI.congr(h:TI Sh cY act live S Rd sz N t)(la: ∀k,live k->act k)(hS: ∀k,act k->S' k=S k)(hR: ∀k,act k->Rd' k=Rd k):TI Sh cY act live S' Rd' sz N t:=
 ⟨h.quiet,λk hk=>by rw [hS k (la k hk)];exact h.own k hk,λk hk=>by rw [hR k (la k hk)];exact h.rd k hk,
  λl hm hs hb hk=>h.free l hm hs hb λk ha=>by have:=hk k ha;rw [hS k ha,hR k ha] at this;exact this,
  λl hm hs hb hk=>h.mine l hm hs hb λk ha=>by have:=hk k ha;rw [hS k ha] at this;exact this,h.Ou,h.nr,h.gs,h.fresh⟩
theorem TI.less(h:TI Sh cY act live S Rd sz N t)(hl: ∀k,XT k->live k):TI Sh cY act XT S Rd sz N t:=
 ⟨h.quiet,λk hk=>h.own k (hl k hk),λk hk=>h.rd k (hl k hk),h.free,h.mine,h.Ou,h.nr,h.gs,h.fresh⟩
theorem mc{x y:MemOp}(hx:x.act.touch? =none)(hy:y.act.touch? =none){i:Nat}{a:Touch}(h:touchAt (t++ #[x,y]) i=some a):touchAt t i=some a/\i<t.size:=by
 obtain ⟨z,hz,Vn⟩:=touch_of h;rcases getElem?_append_cases hz with ⟨hi,hz'⟩ | ⟨_,hzu⟩
 ·exact ⟨by rw [touchAt_of hz'];exact Vn,hi⟩
 ·simp only [List.mem_toArray,qab,qap,or_false] at hzu;rcases hzu with rfl | rfl
  ·rw [hx] at Vn;cases Vn
  ·rw [hy] at Vn;cases Vn
theorem Vo{A:Nat->Prop}{l:Loc}(h:sE A l):l.isMemory=true:=by
 obtain ⟨b,h,_⟩:=h;cases l <;> first | rfl | exact h.elim
theorem TI.fork(h:TI Sh cY act live S Rd sz N t)(la: ∀k,live k->act k)(hN: ∀k,act k->k<=N)(hS: ∀b, ¬S (N+1) b)(hR: ∀l,sE (Rd (N+1)) l-> ¬Sh l/\ ¬cY l/\ ∀k,act k-> ¬sE (S k) l)
  {x y:MemOp} (hx:x.g=0/\x.act= .go (N+1)) (hy:y.g=N+1/\y.act= .start) (h0:Deaf t 0=0):
  TI Sh cY (λk=>act k\/k=N+1) (λk=>live k\/k=N+1) S Rd sz (N+1) (t++ #[x,y]):=by
 have nx:x.act.touch? =none:=by rw [hx.2];rfl
 have ny:y.act.touch? =none:=by rw [hy.2];rfl
 have hk:Deaf t (N+1)=0:=Deaf_absent λi op hi e=>by have:=h.gs i op hi;omega
 have Ib: ∀op∈ #[x,y], ∀b,op.act.touch? =some b->False:=by
  intro op cL b hb;simp only [List.mem_toArray,qab,qap,or_false] at cL;rcases cL with rfl | rfl
  · rw [nx] at hb;cases hb
  · rw [ny] at hb;cases hb
 refine ⟨h.quiet.app λop cL b hb _=>(Ib op cL b hb).elim,λk oC l hl=> ?_,λk oC l hl=> ?_,λl hm hs hb oC=> ?_,λl hm hs hb oC=> ?_,λi a ha hm hs hb=> ?_,λsaid=> ?_,λi op hi=> ?_,λi a ha b hb=> ?_⟩
 ·rcases oC with oC | rfl
  · exact (h.own k oC l hl).app λop cL b hb _=>(Ib op cL b hb).elim
  · obtain ⟨b,_,hb⟩:=hl;exact absurd hb (hS b)
 ·rcases oC with oC | rfl
  · exact (h.rd k oC l hl).app λop cL b hb _ _=>(Ib op cL b hb).elim
  · obtain ⟨q1,q2,q3⟩:=hR l hl;exact λi a ha e hw=>fork_knows hx hy h0 hk (h.mine l (Vo hl) q1 q2 q3 i a (mc nx ny ha).1 e hw)
 ·exact (h.free l hm hs hb λk ha=>oC k (.inl ha)).app λop cL b hb _=>(Ib op cL b hb).elim
 ·exact (h.mine l hm hs hb λk ha=>oC k (.inl ha)).app λop cL b hb _ _=>(Ib op cL b hb).elim
 ·obtain ⟨ha',hi⟩:=mc nx ny ha;rcases h.Ou i a ha' hm hs hb with q | ⟨k,q1,q2,q3⟩
  · exact .inl (q.app _)
  · exact .inr ⟨k, .inl q1,by rw [g?_old hi];exact q2,q3⟩
 ·have e:t++ #[x,y]=(t++ #[x])++ #[y]:=by apply qcf;simp
  rw [e];refine noRace_append (g:=N+1) (noRace_append (g:=0) (h.nr said) (λop cL=>by simp at cL;rw [cL];exact hx.1) (λi a _ op cL b hb _=>(Ib op (by simp at cL ⊢;exact .inl cL) b hb).elim))
    (λop cL=>by simp at cL;rw [cL];exact hy.1) (λi a _ op cL b hb _=>(Ib op (by simp at cL ⊢;exact .inr cL) b hb).elim)
 ·rcases getElem?_append_cases hi with ⟨_,fa⟩ | ⟨_,ZG⟩
  · exact Nat.le_succ_of_le (h.gs i op fa)
  · simp only [List.mem_toArray,qab,qap,or_false] at ZG;rcases ZG with rfl | rfl
    ·rw [hx.1];exact qa9 _
    ·rw [hy.1];exact qa3 _
 ·exact h.fresh i a (mc nx ny ha).1 b hb
def HO(act:Nat->Prop)(t:Trace):Prop:= ∀i g,t.g? i=some g->g≠0-> ¬act g->t.counts i-> ∃j,t.g? j=some 0/\HappensBefore t i j
theorem HO.app(h:HO act t)(hg: ∀op∈u,op.g=g)(hu:g=0\/act g\/ ∀i,t.size<=i-> ¬(t++u).counts i):HO act (t++u):=by
 intro i k hk h0 ha hc;obtain ⟨op,ho,cL⟩:=qbi.1 hk;rcases getElem?_append_cases ho with ⟨hi,Hn⟩ | ⟨hi,Vp⟩
 ·obtain ⟨j,h1,h2⟩:=h i k (by rw [←g?_old (u:=u) hi];exact hk) h0 ha ((counts_old hi).1 hc);have hj:j<t.size:=by
   obtain ⟨z,hz,_⟩:=qbi.1 h1;exact lt_size_of_getElem? hz
  exact ⟨j,by rw [g?_old hj];exact h1,hb_app u h2⟩
 ·have e:g=k:=(hg op Vp).symm.trans cL;subst e;rcases hu with q | q | q
  ·exact absurd q h0
  ·exact absurd q ha
  ·exact absurd hc (q i hi)
theorem HO.more(h:HO act t)(ha: ∀k,act k->acr k):HO acr t:=λi g h1 h2 h3 h4=>h i g h1 h2 (λq=>h3 (ha g q)) h4
theorem KU{a:Addr}{k r i:Nat}(h:RelBy a t k r)(hg:t.g? i=some k)(hc:t.counts i):Before t i r:=by
 have hle:i<=r:=Nat.le_of_not_lt λbJ=>h.after i bJ hg hc;rcases Nat.lt_or_ge i r with bJ | hge
 ·exact .inr (.single (.inl ⟨bJ,k,hg,h.g⟩))
 ·exact .inl (by omega)
theorem TI.acquire(h:TI Sh cY act live S Rd sz N t){a:Addr}{T0:Nat}(bM: ∀k,act k-> ∃r,RelBy a t k r/\T0<=r)(hn: ∀i,T0<=i->t.act? i≠some (.mark (.release a)))(h0:Deaf t 0=0){x:MemOp}(hx:x.g=0/\x.act= .mark (.acquire a))(hO:HO act t)(QT: ∀k,act k->k≠0):
  TI (λ_=>False) (λl=>cY l\/Sh l) (λ_=>False) (λ_=>False) S Rd sz N (t++ #[x])/\HO (λ_=>False) (t++ #[x]):=by
 have nx:x.act.touch? =none:=by rw [hx.2];rfl
 have hxp:(t++ #[x])[t.size]? =some x:=by rw [Array.getElem?_append_right (qa3 _)];simp
 have hxh:(t++ #[x]).heard t.size:=⟨0,by simp [Trace.g?, hx.1],by rw [deaf_old (qa3 _)];exact h0⟩;have old: ∀{i:Nat} {b:Touch},touchAt (t++ #[x]) i=some b->touchAt t i=some b/\i<t.size:=by
  intro i b hb;obtain ⟨z,hz,Vn⟩:=touch_of hb;rcases getElem?_append_cases hz with ⟨hi,hz'⟩ | ⟨_,hzu⟩
  ·exact ⟨by rw [touchAt_of hz'];exact Vn,hi⟩
  ·simp at hzu;subst hzu;rw [nx] at Vn;cases Vn
 have af0: ∀k,act k-> ∀r,RelBy a t k r->T0<=r->HappensBefore (t++ #[x]) r t.size:=λk _ r hr hT=>by
  have hrs:=lt_of_act? hr.act;exact .single (.inr ⟨.marked hrs (.inr (by rw [act?_old hrs];exact hr.act)) (by rw [act?_of hxp,hx.2]) (λj h1 h2=>by rw [act?_old h2];exact hn j (qac hT (Nat.le_of_lt h1))),(heard_old hrs).2 hr.heard,hxh⟩)
 have kn: ∀i k,act k->t.g? i=some k->t.counts i->HappensBefore (t++ #[x]) i t.size:=λi k hk hg hc=>by
  obtain ⟨r,hr,hT⟩:=bM k hk;exact ((KU hr hg hc).app #[x]).hb (af0 k hk r hr hT)
 have perm: ∀l,l.isMemory=true-> ¬cY l-> ¬Sh l->Perm (t++ #[x]) 0 l:=λl hm hb hs i b eT e=>by
  subst e;obtain ⟨h1,hi⟩:=old eT;rcases h.Ou i b h1 hm hs hb with q | ⟨k,q1,q2,q3⟩
  ·exact q.app _
  ·exact ⟨t.size,x,hxp,hx.1, .inr (kn i k q1 q2 ⟨b,h1,hm, .inl (by rw [q3];simp)⟩)⟩
 refine ⟨⟨λ_ _ _ _ _ q=>q.elim,λ_ q=>q.elim,λ_ q=>q.elim,λl hm _ hb _=>perm l hm (λq=>hb (.inl q)) λq=>hb (.inr q),λl hm _ hb _=>PermW.of (perm l hm (λq=>hb (.inl q)) λq=>hb (.inr q)),
  λi b hb hm _ hbd=> .inl (perm b.loc hm (λq=>hbd (.inl q)) (λq=>hbd (.inr q)) i b hb rfl),λsaid=> ?_,λi op hi=> ?_,λi b hb=>h.fresh i b (old hb).1⟩,λi k hk GR _ hc=> ?_⟩
 ·refine noRace_append (g:=0) (h.nr said) (λop cL=>by simp at cL;rw [cL];exact hx.1) λi b _ op cL c hc _=> ?_;simp at cL;subst cL;rw [nx] at hc;cases hc
 ·rcases getElem?_append_cases hi with ⟨_,fa⟩ | ⟨_,ZG⟩
  ·exact h.gs i op fa
  ·simp at ZG;subst ZG;rw [hx.1];exact qa9 _
 ·obtain ⟨op,ho,cL⟩:=qbi.1 hk;rcases getElem?_append_cases ho with ⟨hi,Hn⟩ | ⟨_,Vp⟩
  ·have oC:t.g? i=some k:=by rw [←g?_old (u:= #[x]) hi];exact hk
   have PX:=(counts_old hi).1 hc;by_cases ha:act k
   ·exact ⟨t.size,by simp [Trace.g?, hx.1],kn i k ha oC PX⟩
   ·obtain ⟨j,h1,h2⟩:=hO i k oC GR ha PX;have hj:j<t.size:=by
     obtain ⟨z,hz,_⟩:=qbi.1 h1;exact lt_size_of_getElem? hz
    exact ⟨j,by rw [g?_old hj];exact h1,hb_app _ h2⟩
  ·simp at Vp;subst Vp;exact absurd (cL.symm.trans hx.1) GR
end
end Go.Cx
namespace Go.Cx
open Go Go.Conc
open Go.ConcN (sumTo sumTo_upd sumTo_congr le_sumTo)
structure Wq(W w:World):Prop where
 tape:W.tape=w.tape
 heap:W.heap=w.heap
 os:W.os=w.os
 output:W.output=w.output
theorem Wq.at{W w:World}(h:Wq W w)(d:Nat):Wq (W.at d) w:=⟨h.tape,h.heap,h.os,h.output⟩
theorem Wq.refl(w:World):Wq w w:=⟨rfl,rfl,rfl,rfl⟩
theorem Wq.symm{a b:World}(h:Wq a b):Wq b a:=⟨h.tape.symm,h.heap.symm,h.os.symm,h.output.symm⟩
abbrev no1:Loc->Prop:=λ_=>False
abbrev no0:Nat->Prop:=λ_=>False
abbrev no2:Nat->Nat->Prop:=λ_ _=>False
structure Qt(C:Program)(cY:Loc->Prop)(gs:Array Goroutine)(sz:Nat)(t:Trace)(q:Nat->Nat):Prop where
 wk: ∀k,1<=k->k<gs.size-> ∃g,gs[k]? =some g/\QuitsD C (q k) (Deaf t k) g
 ti:TI no1 cY no0 no0 no2 no2 sz (gs.size - 1) t
 ho:HO no0 t
 d0:Deaf t 0=0
 sT: ∀l b,cY l->gx l b->b<sz
def ie(C:Program)(Φ:Machine->Trace->Prop)(m:Machine)(t:Trace):Prop:= ∃n m' t',runNT C n m t=(.next m',t')/\Φ m' t'
theorem ie.here{C:Program}{Φ:Machine->Trace->Prop}{m:Machine}{t:Trace}(h:Φ m t):ie C Φ m t:=⟨0,m,t,rfl,h⟩
theorem ie.step{C:Program}{Φ:Machine->Trace->Prop}{m m1:Machine}{t:Trace}{ops:Array MemOp}(hs:stepT C m=(.next m1,ops))(h:ie C Φ m1 (t++ops)):ie C Φ m t:=by
 obtain ⟨n,m',t',h1,h2⟩:=h;exact ⟨n+1,m',t',by rw [runNT_succ_next hs];exact h1,h2⟩
def XU(C:Program)(Φ:Machine->Trace->Prop)(gs:Array Goroutine)(W:World)(sl:Option (Nat×Nat))(t:Trace):Prop:= ∃m1 ops,runT C (crowd gs W sl) 0=(.next m1,ops)/\ie C Φ m1 (t++ops)
section
variable{C:Program}{cY:Loc->Prop}{gs:Array Goroutine}{W:World}{sl:Option (Nat×Nat)}{t:Trace}{q:Nat->Nat}{g:Goroutine}{sz:Nat}
theorem Qt.awake(h:Qt C cY gs sz t q)(h0:gs[0]? =some g)(hr:g.status= .running): ∀x∈gs,awake x:=by
 intro x hx;obtain ⟨i,hi⟩:=Array.mem_iff_getElem?.1 hx;cases i with
 | zero=>rw [h0] at hi;cases hi;exact awake_of (.inl hr)
 | succ i=>
  obtain ⟨y,hy,hq⟩:=h.wk (i+1) (by omega) (qa1.1 hi).1;rw [hi] at hy;cases hy;exact awake_of (hq.status.elim .inl λh=> .inr (.inr h))
theorem tz{e:Event}(h:e.mute=true):(MemAct.ofEvent e).touch? =none:=by
 obtain ⟨l,w,s⟩:=e;cases l with
 | mark m=>cases m <;> first | rfl | cases h
 | _=>cases h
theorem rn{t u:Trace}(h: ∀op∈u,op.act.touch? =none): ∀i,t.size<=i-> ¬(t++u).counts i:=by
 rintro i hi ⟨x,hx,_⟩;obtain ⟨op,ho,KT⟩:=touch_of hx;rcases getElem?_append_cases ho with ⟨fa,_⟩ | ⟨_,Vp⟩
 ·omega
 ·rw [h op Vp] at KT;cases KT
theorem Vq:Apr no1 cY no0 no0 no2 no2:=⟨λ_ h=>h,λ_ _ _ h=>h.elim,λ_ _ _ h=>h.elim,λ_ _ h=>h.elim,λ_ _ h=>h.elim⟩
theorem bU{k:Nat}{fn:FuncId}{pos:String}{es:Array Event}: ∀op∈MemOp.ofEvents k fn pos es,op.g=k:=by
 intro op cL;rw [ofEvents_eq] at cL;obtain ⟨e,_,rfl⟩:=Array.mem_map.1 cL
 rfl
theorem eK{k:Nat}{fn:FuncId}{pos:String}{es:Array Event}{op:MemOp}(h:op∈MemOp.ofEvents k fn pos es): ∃e∈es,op.act= .ofEvent e:=by
 rw [ofEvents_eq] at h;obtain ⟨e,he,rfl⟩:=Array.mem_map.1 h;exact ⟨e,he,rfl⟩
theorem Qt.leave(h:Qt C cY gs sz t q)(h0:gs[0]? =some g)(hr:g.status= .running){k:Nat}(hk:1<=k){y:Goroutine}(hy:gs[k]? =some y)(Ic:y.status= .running):
  ∃oD ops q',runT C (crowd gs W sl) k=(.next (crowd oD W sl),ops)/\oD[0]? =some g/\oD.size=gs.size/\Qt C cY oD sz (t++ops) q'/\sumTo gs.size q'<sumTo gs.size q:=by
 have bJ:=(qa1.1 hy).1;obtain ⟨y',Y1,hq⟩:=h.wk k hk bJ;rw [hy] at Y1;cases Y1;obtain ⟨n,hn⟩: ∃n,q k=n+1:=by
  cases hqk:q k with
  | zero=>rw [hqk] at hq;rw [hq.1] at Ic;cases Ic
  | succ n=>exact ⟨n,rfl⟩
 rw [hn] at hq;rcases hq with ⟨hf,_⟩ | ⟨_,g',es,hm,en,Vr⟩
 ·rw [hf] at Ic;cases Ic
 have iH:(k==0)=false:=by simp;omega
 have bP:=runT_crowd_go (P:=C) (sl:=sl) hy (by rw [iH];exact en W);have Ib: ∀op∈MemOp.ofEvents k y.frame.fn y.frame.place es,op.act.touch? =none:=λop cL=>by
  obtain ⟨e,he,ha⟩:=eK cL;rw [ha];exact tz (hm e he)
 have kD:((gs.map (woken C y g' W)).setIfInBounds k g').size=gs.size:=by simp
 refine ⟨_,_,ConcN.upd q k n,bP, ?_,kD,⟨λj hj1 YP=> ?_, ?_, ?_, ?_,h.sT⟩, ?_⟩
 ·rw [ConcN.get_map_set _ _ _ _ (by omega),h0,qae];unfold woken;split
  ·rw [again_running _ (.inl hr)]
  ·rfl
 ·rw [kD] at YP;by_cases e:j=k
  ·subst e;refine ⟨g',ConcN.get_map_set_same _ _ _ bJ, ?_⟩;rw [ConcN.upd_same,Deaf_own];exact Vr
  ·obtain ⟨z,hz,uH⟩:=h.wk j hj1 YP;refine ⟨z, ?_, ?_⟩
   ·rw [ConcN.get_map_set _ _ _ _ (λq=>e q.symm),hz,qae,woken_quitsD uH]
   ·rw [ConcN.upd_ne _ _ e,Deaf_other t (qbp e) _ bU];exact uH
 ·rw [kD];exact h.ti.app bU (by omega) id (qa3 _) (λ_ _ h=>h) (λ_ _ h=> .inl h) Vq (λop cL x hx=>by rw [Ib op cL] at hx;cases hx) λop cL x hx=>by rw [Ib op cL] at hx;cases hx
 ·exact h.ho.app bU (.inr (.inr (rn Ib)))
 ·rw [Deaf_other t (by omega) _ bU];exact h.d0
 ·have:sumTo gs.size (ConcN.upd q k n)+q k=sumTo gs.size q+n:=sumTo_upd q n (λx=>x) bJ;rw [hn] at this;omega
theorem rZ{Φ:Machine->Trace->Prop}{w:World}(hr:g.status= .running)
  (K: ∀gs W sl t q,gs[0]? =some g->Wq W w->Qt C cY gs sz t q->XU C Φ gs W sl t):
  ∀(r:Nat) (gs:Array Goroutine) (W:World) (sl:Option (Nat×Nat)) (t:Trace) (q:Nat->Nat),sumTo gs.size q=r->gs[0]? =some g->Wq W w->Qt C cY gs sz t q->ie C Φ (crowd gs W sl) t:=by
 intro r
 induction r using Nat.strongRecOn with
 | _ r ih=>
  intro gs W sl t q Ru h0 hw hq;obtain ⟨i,y,d,tZ,hy,Ic,hs⟩:=crowd_pick (P:=C) (w:=W) (sl:=sl) (hq.awake h0 hr) ⟨0,g,h0,hr⟩;cases i with
  | zero=>
   obtain ⟨m1,ops,h1,h2⟩:=K gs (W.at d) tZ t q h0 (hw.at d) hq;exact ie.step (hs.trans h1) h2
  | succ i=>
   obtain ⟨oD,ops,q',h1,h2,h3,h4,h5⟩:=hq.leave (W:=W.at d) (sl:=tZ) h0 hr (k:=i+1) (by omega) hy Ic;exact ie.step (hs.trans h1) (ih _ (by rw [←Ru];exact h5) oD (W.at d) tZ (t++ops) q' (by rw [h3]) h2 (hw.at d) h4)
end
end Go.Cx
namespace Go.Cx
open Go Go.Conc
open Go.ConcN (sumTo)
variable[bq][aR][bs]
structure Mn(L C:Program)(cY:Loc->Prop)(W0:World)(β:Bj)(fs XV:List Frame)(u W:World):Prop where
 sk:cM L C β fs XV
 wr:cz β u W
 dw:Dw u
 bad: ∀a b l,β a b->gx l b-> ¬cY l
 tape:W.tape=W0.tape
 os:W.os=W0.os
 output:W.output=W0.output
 old: ∀a b,β a b->b<W0.heap.size->fw β u b
 keep: ∀b,b<W0.heap.size->W.heap[b]? =W0.heap[b]?
section
variable{L C:Program}{Xs:FuncId->Prop}{cY:Loc->Prop}{W0:World}{β:Bj}{Φ:Machine->Trace->Prop}
theorem cz.heap{β:Bj}{w W w' W':World}(h:cz β w W)(e:w'.heap=w.heap)(e':W'.heap=W.heap):cz β w' W':=⟨λa b q=>by rw [e,e'];exact h.obj a b q,h.inj,h.fn⟩
omit [bq] [aR] [bs] in
theorem Dw.heap{w w':World}(h:Dw w)(e:w'.heap=w.heap):Dw w':=λr ds q=>h r ds (by rw [←e];exact q)
omit [bq] [aR] [bs] in
theorem fw.heap{β:Bj}{w w':World}{b:Nat}(h:fw β w b)(e:w'.heap=w.heap):fw β w' b:=let ⟨a,c,t,h1,h2,h3⟩:=h;⟨a,c,t,h1,h2,by rw [e];exact h3⟩
theorem Mn.heap{fs XV:List Frame}{u u' W W':World}(h:Mn L C cY W0 β fs XV u W)(e:u'.heap=u.heap)(e':Wq W' W):Mn L C cY W0 β fs XV u' W':=
 ⟨h.sk,h.wr.heap e e'.heap,h.dw.heap e,h.bad,e'.tape.trans h.tape,e'.os.trans h.os,e'.output.trans h.output,λa b q r=>(h.old a b q r).heap e,λb q=>by rw [e'.heap];exact h.keep b q⟩
theorem Mn.fs{fs XV gs oD:List Frame}{u W:World}(h:Mn L C cY W0 β fs XV u W)(k:cM L C β gs oD):Mn L C cY W0 β gs oD u W:=⟨k,h.wr,h.dw,h.bad,h.tape,h.os,h.output,h.old,h.keep⟩
theorem Mn.lh{fs XV gs oD:List Frame}{u u1 W W1:World}{bV:Bj}{sz:Nat}(h:Mn L C cY W0 β fs XV u W)(hB: ∀l b,cY l->gx l b->b<W.heap.size)(hT:kP β bV u u1 W W1)(k:cM L C bV gs oD)(hw:cz bV u1 W1)(hd:Dw u1):Mn L C cY W0 bV gs oD u1 W1:=by
 have kD:W0.heap.size<=W.heap.size:=by
  apply qa8;intro hn;have bJ:W.heap.size<W0.heap.size:=Nat.lt_of_not_le hn;have h1:=h.keep _ bJ;rw [qbb (qa3 _),Array.getElem?_eq_getElem bJ] at h1;cases h1
 refine ⟨k,hw,hd,λa b l q hl hbd=> ?_,hT.tape.trans h.tape,hT.os.trans h.os,hT.output.trans h.output,λa b q r=> ?_,λb q=> ?_⟩
 ·rcases hT.fresh a b q with q | ⟨_,q,_⟩
  ·exact h.bad a b l q hl hbd
  ·exact absurd (hB l b hbd hl) (qcg.2 q)
 ·rcases hT.fresh a b q with q | ⟨_,q,_⟩
  ·exact hT.B6 b (h.old a b q r)
  ·omega
 ·rw [←h.keep b q];by_cases hb: ∃a,β a b
  ·obtain ⟨a,lL⟩:=hb;exact hT.lock b (h.old a b lL q)
  ·exact hT.stay b (by omega) λa lL=>hb ⟨a,lL⟩
def Co(L C:Program)(W0:World)(Φ:Machine->Trace->Prop)(a:Frame)(k:List Frame)(u:World):Prop:=
 ∀(gs:Array Goroutine) (W:World) (sl:Option (Nat×Nat)) (t:Trace) (q:Nat->Nat) (cY:Loc->Prop) (β:Bj) (b:Frame) (k':List Frame),
  gs[0]? =some (fD b k')->Qt C cY gs W.heap.size t q->Mn L C cY W0 β (a::k) (b::k') u W->ie C Φ (crowd gs W sl) t
theorem MR{gs:Array Goroutine}{W U V W1:World}{sl:Option (Nat×Nat)}{t:Trace}{q:Nat->Nat}{g g1:Goroutine}{bV:Bj}{es:Array Event}(h0:gs[0]? =some g)(hq:Qt C cY gs W.heap.size t q)(Zy: ∀a b l,β a b->gx l b-> ¬cY l)
  (en:stepG C true g W= .go g1 W1 es) (hT:kP β bV U V W W1) (hw:cz bV V W1) (ql: ∀e∈es,qv bV V e):
  ∃xX ops,runT C (crowd gs W sl) 0=(.next (crowd xX W1 sl),ops)/\xX[0]? =some g1/\Qt C cY xX W1.heap.size (t++ops) q:=by
 have bP:=runT_crowd_go (P:=C) (sl:=sl) (i:=0) h0 (by simpa using en);have bJ:=(qa1.1 h0).1;have acs: ∀a b l,bV a b->gx l b-> ¬cY l:=λa b l hb hl hB=>by
  rcases hT.fresh a b hb with h | ⟨_,h,_⟩
  ·exact Zy a b l h hl hB
  ·exact absurd (hq.sT l b hB hl) (qcg.2 h)
 have touch: ∀op∈MemOp.ofEvents 0 g.frame.fn g.frame.place es, ∀x,op.act.touch? =some x-> ∃a b,gx x.loc b/\bV a b:=by
  intro op cL x hx;obtain ⟨e,he,ha⟩:=eK cL;rw [ha] at hx;have key: ∀b,gx e.loc b->(∃a,bV a b)->e.sync=false-> ∃a b,gx x.loc b/\bV a b:=λb hl ⟨a,lL⟩ hs=>by
   refine ⟨a,b, ?_,lL⟩;have uf:x.loc=e.loc:=by
    obtain ⟨l,wr,sy⟩:=e;simp only at hs;subst hs;cases l <;> first | (cases hx;rfl) | (cases wr <;> (cases hx;rfl)) | exact False.elim hl
   rw [uf];exact hl
  rcases ql e he with ⟨hs,⟨ad,a,h1,h2,_⟩ | ⟨r,a,h1,h2,_⟩⟩ | h
  ·exact key ad.block (by rw [h1];rfl) ⟨a,h2⟩ hs
  ·exact key r (by rw [h1];rfl) ⟨a,h2⟩ hs
  ·subst h;cases hx
 have ZH: ∀e∈es,e.loc≠ .mark .disable/\e.loc≠ .mark .enable:=λe he=>by
  rcases ql e he with ⟨_,⟨ad,a,h1,_⟩ | ⟨r,a,h1,_⟩⟩ | h
  ·rw [h1];exact ⟨by simp,by simp⟩
  ·rw [h1];exact ⟨by simp,by simp⟩
  ·subst h;exact ⟨by simp,by simp⟩
 have kD:((gs.map (woken C g g1 W1)).setIfInBounds 0 g1).size=gs.size:=by simp
 refine ⟨_,_,bP,ConcN.get_map_set_same _ _ _ bJ,⟨λk Hq vB=> ?_, ?_, ?_, ?_,λl b hB hl=>qa4 (hq.sT l b hB hl) hT.size⟩⟩
 ·rw [kD] at vB;obtain ⟨z,hz,uH⟩:=hq.wk k Hq vB;refine ⟨z, ?_, ?_⟩
  ·rw [ConcN.get_map_set _ _ _ _ (by omega),hz,qae,woken_quitsD uH]
  ·rw [Deaf_other t (by omega) _ bU];exact uH
 ·rw [kD];refine hq.ti.app bU (qa9 _) id hT.size (λ_ _ h=>h) (λ_ _ h=> .inl h) Vq (λop cL x hx b hb=> ?_) λop cL x hx=> ?_
  ·obtain ⟨a,c,h1,h2⟩:=touch op cL x hx;have:=gx.inj h1 hb;subst this;exact hw.Py h2
  ·obtain ⟨a,c,h1,h2⟩:=touch op cL x hx;exact .inr (.inl ⟨id,acs a c _ h2 h1,rfl,λ_ h=>h.elim,λ_ _ h=>h.elim⟩)
 ·exact hq.ho.app bU (.inl rfl)
 ·rw [Deaf_own,hq.d0];exact ConcN.deafBehind_idle ZH 0
def On(u W:World):World:={ W with heap:=u.heap }
theorem kW(HP:fx L C)(HF:PF L C Xs){a:Frame}{k:List Frame}{u:World}(hk:k≠[]\/a.mode= .run)
  (h: ∀U:World,U.heap=u.heap->U.os=W0.os->U.output=W0.output-> ∃a1 k1 U1 es,stepG L true (fD a (k++[cP])) U= .go (fD a1 (k1++[cP])) U1 es/\(∀ch,a1.mode≠ .panicking ch)/\ ¬Xs a1.fn/\Co L C W0 Φ a1 k1 U1):Co L C W0 Φ a k u:=by
 intro gs W sl t q cY β b k' h0 hq hM;have hr:(fD b k').status= .running:=rfl;refine rZ (w:=W) (g:=fD b k') hr ?_ _ gs W sl t q rfl h0 (.refl W) hq;clear h0 hq;intro gs W2 sl t q h0 ig hq;rw [←ig.heap] at hq;have tD:=hM.heap (u':=On u W2) rfl ig;obtain ⟨a1,k1,V,es,e1,e2,e3,e4⟩:=h (On u W2) rfl tD.os tD.output;have hB: ¬Go.Cx.cY (fD a1 (k1++[cP])):=λ⟨ch,x⟩=>e2 ch x;have Px:([]:List Frame)≠[]\/k≠[]\/a.mode= .run\/a.defers≠[]:=hk.elim (λh=> .inr (.inl h)) λh=> .inr (.inr (.inl h));obtain ⟨bV,W1,uA,CF,c1,ho,c2,c3,c4⟩:=ri (m':=true) (t:=cP) (r:=[]) (bs':=[]) HP HF tD.sk Px tD.wr (λj x=>rfl) e1 hB;rw [List.append_nil] at c1;have hD:=(uC HP HF tD.sk tD.wr e1 hB).2.2.1 tD.dw;obtain ⟨xX,ops,r1,r2,r3⟩:=MR (sl:=sl) h0 hq tD.bad c1 c3 c2 c4;refine ⟨_,_,r1, ?_⟩;cases ho with
 | back _ _ hb _=>cases hb
 | on en=>
  generalize CJ:fD a1 (k1++[cP])=gg at en;cases en with
  | enter f hX hx Hq=>
   simp only [Goroutine.mk.injEq] at CJ;exact absurd hX (by have:=CJ.1;subst this;exact e3)
  | @on x y kx ky sD=>
   simp only [Goroutine.mk.injEq,List.append_cancel_right_eq] at CJ;obtain ⟨rfl,rfl,_⟩:=CJ;rw [List.append_nil] at r2;exact e4 xX W1 sl (t++ops) q cY bV y ky r2 r3 (tD.lh (sz:=0) hq.sT c3 sD c2 hD)
theorem MT{Q:Frame->World->Prop}(HP:fx L C)(HF:PF L C Xs)(hX: ∀f x k w,Xs f-> ¬vu L Q (Frame.enter L f x .normal) k w){cs:List Frame}
  (hQ: ∀a w,a.mode= .returning->a.defers=[]->a.roundOf=none->Q a w->Co L C W0 Φ a cs w) {a:Frame} {ks:List Frame} {w:World} (hW:vu L Q a ks w):
  ∀(gs:Array Goroutine) (W:World) (sl:Option (Nat×Nat)) (t:Trace) (q:Nat->Nat) (cY:Loc->Prop) (β:Bj) (b:Frame) (ks' cs':List Frame),
  gs[0]? =some (fD b (ks'++cs'))->Qt C cY gs W.heap.size t q->(cs=[]/\cs'=[]\/cM L C β cs cs')->Mn L C cY W0 β (a::ks) (b::ks') w W->ie C Φ (crowd gs W sl) t:=by
 induction hW with
 | @done a w hm hd hq0=>
  intro gs W sl t q cY β b ks' cs' h0 hq hb hM;obtain ⟨rfl,hr⟩:ks'=[]/\a.roundOf=none:=by
   have:=hM.sk;cases this with
   | one _ hr=>exact ⟨rfl,hr⟩
   | cons _ h=>cases h
  refine hQ a w hm hd hr hq0 gs W sl t q cY β b cs' h0 hq (hM.fs ?_);rcases hb with ⟨rfl,rfl⟩ | hb
  ·exact hM.sk
  ·have eR:=hM.sk;cases eR with
   | one hf _=>exact .cons hf hb
   | cons hf hk=>exact .cons hf hb
 | @step a k w h1 h2 ih=>
  intro gs W sl t q cY β b ks' cs' h0 hq hb hM;refine rZ (w:=W) (g:=fD b (ks'++cs')) rfl ?_ _ gs W sl t q rfl h0 (.refl W) hq;clear h0 hq;intro gs W2 sl t q h0 ig hq;rw [←ig.heap] at hq;have tD:=hM.heap (u':=w) rfl ig;obtain ⟨bV,a1,k1,V,W1,uA,es,τ,e1,e2,e3,_,_,e4,e5,e6,⟨qH,e7⟩,e8⟩:=H0 (m:=true) (bs':=cs') HP HF tD.sk tD.wr h1 h2 .nil;obtain ⟨xX,ops,r1,r2,r3⟩:=MR (sl:=sl) h0 hq tD.bad e1 e4 e3 e5;refine ⟨_,_,r1, ?_⟩;cases e2 with
  | enter f PE _ _ ha _=>exact (hX f _ _ _ PE (ha▸h2 _ _ _ _ _ e6 e7)).elim
  | @on b1 T3 sD hg=>
   subst hg;refine ih _ _ _ _ _ e6 e7 xX W1 sl (t++ops) q cY bV b1 T3 cs' r2 r3 ?_ ((tD.heap (u':=TW w τ) rfl (.refl W2)).lh (sz:=0) hq.sT e4 sD e3 (e8 tD.dw));rcases hb with hb | hb
   ·exact .inl hb
   ·exact .inr (hb.mono e4.le)
theorem Vt(HP:fx L C)(HF:PF L C Xs){a c:Frame}{cs:List Frame}{w:World}{v:Value}(hra:a.roundOf=none)(hE:Ends L a w v)(hco:Co L C W0 Φ (c.finish v) cs w):Co L C W0 Φ a (c::cs) w:=by
 intro gs W sl t q cY β b k' h0 hq hM;obtain ⟨c',cs',rfl⟩: ∃c' cs',k'=c'::cs':=by
  have:=hM.sk;cases this with
  | cons _ h=>cases h with
   | one _ _=>exact ⟨_,_,rfl⟩
   | cons _ _=>exact ⟨_,_,rfl⟩
 refine rZ (w:=W) (g:=fD b (c'::cs')) rfl ?_ _ gs W sl t q rfl h0 (.refl W) hq;clear h0 hq;intro gs W2 sl t q h0 ig hq;rw [←ig.heap] at hq;have tD:=hM.heap (u':=w) rfl ig;have eR:=tD.sk;have hr:a.roundOf=none/\cM L C β (c::cs) (c'::cs')/\iz L C β a b:=by
  cases eR with
  | cons hf hk=>exact ⟨hra,hk,hf⟩
 obtain ⟨_,bV,v',W1,es,τ,e1,e2,e3,e4,e5⟩:=H6 (m:=true) (t':=c') (r':=cs') HP HF (.one hr.2.2 hr.1) tD.wr hE;obtain ⟨xX,ops,r1,r2,r3⟩:=MR (sl:=sl) h0 hq tD.bad (by simpa using e1) e4 (e3.heap (w':=TW w τ) rfl rfl) e5;refine ⟨_,_,r1,hco xX W1 sl (t++ops) q cY bV _ _ r2 r3 ?_⟩;have yL:=hr.2.1.mono e4.le;exact ((tD.heap (u':=TW w τ) rfl (.refl W2)).lh (sz:=0) hq.sT e4 (yL.swap (yL.top.finish e2) (jB _ _)) (e3.heap rfl rfl) (tD.dw.heap rfl)).heap rfl (.refl W1)
end
end Go.Cx
namespace Go.Cx
open Go Go.Conc
section
variable[bq]
theorem Kz.imp{L C C':Program}(h: ∀t,C.eqGuardType C.depth t=false->C'.eqGuardType C'.depth t=false){o:Op}(k:Kz L C o):Kz L C' o:=by
 cases o <;> try exact k
 case makeFunc fn xs ys=>cases fn <;> exact k
 case binOp op t x y u=>exact ⟨k.1,k.2.1,λq=>⟨(k.2.2 q).1,(k.2.2 q).2.1,h t (k.2.2 q).2.2⟩⟩
theorem cG.imp{L C C':Program}(h: ∀t,C.eqGuardType C.depth t=false->C'.eqGuardType C'.depth t=false){c:Code}(k:cG L C c):cG L C' c:=by
 induction k with
 | skip=>exact .skip
 | region id dr ho=>exact .region id dr λo q=>(ho o q).imp h
 | seq _ _ i1 i2=>exact .seq i1 i2
 | cond hc _ _ i1 i2=>exact .cond hc i1 i2
 | block id _ i=>exact .block id i
 | loop _ i=>exact .loop i
 | rangeFunc ps hf _ _ i1 i2=>exact .rangeFunc ps hf i1 i2
 | exit id=>exact .exit id
 | label l=>exact .label l
 | ret=>exact .ret
end
variable[bq][aR][bs]
section
variable{L C:Program}{β:Bj}
omit [aR] [bs] in
theorem nW.self(h: ∀t,C.eqGuardType C.depth t=false->L.eqGuardType L.depth t=false){a b:Item}(k:nW L C β a b):nW L L β a b:=by
 cases k with
 | code k=>exact .code (k.imp h)
 | inBlock id=>exact .inBlock id
 | inLoop k=>exact .inLoop (k.imp h)
 | inRegion t k=>exact .inRegion t λo q=>(k o q).imp h
 | kS k=>exact .kS k
 | jT k=>exact .jT k
 | beginRound=>exact .beginRound
omit [aR] [bs] in
theorem nk.self(h: ∀t,C.eqGuardType C.depth t=false->L.eqGuardType L.depth t=false){a b:List Item}(k:nk L C β a b):nk L L β a b:=by
 induction k with
 | nil=>exact .nil
 | cons k _ ih=>exact .cons (k.self h) ih
omit [aR] in
theorem iz.self(h: ∀t,C.eqGuardType C.depth t=false->L.eqGuardType L.depth t=false){a b:Frame}(k:iz L C β a b):iz L L β a b:=
 ⟨k.fn,k.tmps,k.todo.self h,k.defers,k.mode,k.kind,k.round,λq=>let ⟨fn,h1,_⟩:=k.vM q;⟨fn,h1,h1⟩⟩
omit [aR] in
theorem cM.self(h: ∀t,C.eqGuardType C.depth t=false->L.eqGuardType L.depth t=false){a b:List Frame}(k:cM L C β a b):cM L L β a b:=by
 induction k with
 | one k hr=>exact .one (k.self h) hr
 | cons k _ ih=>exact .cons (k.self h) ih
end
section
variable{L C:Program}{Xs:FuncId->Prop}{W0:World}{Φ:Machine->Trace->Prop}{R:Value->World->Prop}
theorem EY(HP:fx L L)(HF:PF L L (λ_=>False)){f:FuncId}{x:Array Value}{w:World}(hR: ∀v w τ,R v (TW w τ)->R v w)
  (H: ∀τ,Ag w.drawn τ w.tape->Calls L f x (TW w τ) fun | .returned v,w'=>R v w' | _,_=>False) (hI:Inv L (Frame.enter L f x .normal) [] w):vu L (Left L R) (Frame.enter L f x .normal) [] w:=by
 refine tree HP HF ?_ hI λτ mI=> ?_
 ·rintro a w τ ⟨v,h1,h2⟩;exact ⟨v,h1.tw,hR v w τ h2⟩
 ·obtain ⟨e,w',fr,h1,h2,h3,h4⟩:=H τ mI [cP];cases e with
  | returned v=>
   obtain ⟨n,hn⟩:=(show Steps L _ _ from h2);exact ⟨n,fr,w',v,hn,h4,v,Ends.of h4,h1⟩
  | _=>exact h1.elim
theorem xY(HP:fx L C)(HF:PF L C Xs)(HPs:fx L L)(HFs:PF L L λ_=>False)(he: ∀t,C.eqGuardType C.depth t=false->L.eqGuardType L.depth t=false)
  (hX: ∀f x k w,Xs f-> ¬vu L (Left L R) (Frame.enter L f x .normal) k w) (hR: ∀v w τ,R v (TW w τ)->R v w)
  {f:FuncId} {x:Array Value} {c:Frame} {cs:List Frame} {u:World} (H: ∀U:World,U.heap=u.heap->U.os=W0.os->U.output=W0.output->Calls L f x U fun | .returned v,w'=>R v w' | _,_=>False) (K: ∀v w',R v w'->Co L C W0 Φ (c.finish v) cs w'):
  Co L C W0 Φ (Frame.enter L f x .normal) (c::cs) u:=by
 intro gs W sl t q cY β b k' h0 hq hM;have eR:=hM.sk;cases eR with
 | @cons _ _ _ _ hf hk=>
  have sD:cM L C β [Frame.enter L f x .normal] [b]:= .one hf rfl;have hW:vu L (Left L R) (Frame.enter L f x .normal) [] (On u W):=EY HPs HFs hR (λτ _=>H (TW (On u W) τ) rfl hM.os hM.output) ⟨β,_,[],W,sD.self he,hM.wr.heap rfl rfl,hM.dw.heap rfl⟩;exact MT (cs:=c::cs) HP HF hX (λa w' _ _ hr ⟨v,h1,h2⟩=>Vt HP HF hr h1 (K v w' h2)) hW gs W sl t q cY β b [] _ h0 hq (.inr hk) ((hM.heap (u':=On u W) rfl (.refl W)).fs sD)
end
end Go.Cx
namespace Go.Vc
open Go Go.Proofs Go.Vs
open Go.Conc (G base stepG_skip stepG_seq stepG_cond stepG_block stepG_inBlock stepG_loop stepG_inLoop stepG_exit stepG_region stepG_region_end stepG_end stepG_oper stepG_value stepG_none stepG_enter stepG_unwanted stepG_ret' enter_at)
open Go.Cx (bq aR bs fx PF kW xY vu cP fD Left TW)
structure AR [bq][aR][bs] where
 L:Program
 C:Program
 Xs:FuncId->Prop
 W0:World
 Φ:Machine->Trace->Prop
 HP:fx L C
 HF:PF L C Xs
 HPs:fx L L
 HFs:PF L L λ_=>False
 he: ∀t,C.eqGuardType C.depth t=false->L.eqGuardType L.depth t=false
 hX: ∀Q f x k w,Xs f-> ¬vu L Q (Frame.enter L f x .normal) k w
 hC: ∀(f:FuncId) (x:Array Value) (w:World) (R:Value->World->Prop),Xs f-> ¬Calls L f x w fun | .returned v,w'=>R v w' | _,_=>False
section
variable[bq][aR][bs]
abbrev AR.o(K:AR):Os:=K.W0.os
abbrev AR.out(K:AR):Array (Nat×ByteArray):=K.W0.output
abbrev AR.Co(K:AR)(a:Frame)(k:List Frame)(w:World):Prop:=Go.Cx.Co K.L K.C K.W0 K.Φ a k w
variable{K:AR}{f:FuncId}{b:Frame}{a a':Act}{t t' k:List Item}{cs:List Frame}{w w':World}{Q:Exit->Act->World->Prop}
theorem pP{a:Frame}{k:List Frame}(h:K.Co a k w)(e:w'.heap=w.heap):K.Co a k w':=λgs W sl t q cY β b k' h0 hq hM=>h gs W sl t q cY β b k' h0 hq (hM.heap e.symm (.refl W))
theorem co_go(hx: ¬K.Xs b.fn)(h: ∀W:World,W.heap=w.heap->W.os=K.o->W.output=K.out-> ∃W1 es,stepG K.L true (G (b.at a t) (cs++[cP])) W= .go (G (b.at a' t') (cs++[cP])) W1 es/\K.Co (b.at a' t') cs W1):K.Co (b.at a t) cs w:=
 kW K.HP K.HF (.inr rfl) λW h1 h2 h3=>let ⟨W1,es,e1,e2⟩:=h W h1 h2 h3;⟨_,cs,W1,es,e1,nofun,hx,e2⟩
theorem kX(hx: ¬K.Xs b.fn)(h: ∀W:World, ∃es,stepG K.L true (G (b.at a t) (cs++[cP])) W= .go (G (b.at a' t') (cs++[cP])) W es)(k:K.Co (b.at a' t') cs w):K.Co (b.at a t) cs w:=
 co_go hx λW h1 _ _=>let ⟨es,e⟩:=h W;⟨W,es,e,pP k h1⟩
def Arr(K:AR)(b:Frame)(k:List Item)(cs:List Frame):Exit->Act->World->Prop
 | .normal,a,w=>K.Co (b.at a k) cs w
 | .exit id,a,w=> ∃k',exitTo id k=some k'/\K.Co (b.at a k') cs w
 | .ret,a,w=> ∀todo,K.Co { b.at a todo with mode:= .returning } cs w
 | _,_,_=>False
def wpC(K:AR)(f:FuncId)(c:Code)(Q:Exit->Act->World->Prop)(a:Act)(w:World):Prop:=
 ∀(b:Frame) (k:List Item) (cs:List Frame),(b.kind= .normal/\b.fn=f)-> ¬K.Xs b.fn->(∀e a' w',Q e a' w'->Arr K b k cs e a' w')->K.Co (b.at a (.code c::k)) cs w
def EZ(K:AR)(f:FuncId)(ops:Array Oper)(Q:Exit->Act->World->Prop)(l:List Oper)(a:Act)(w:World):Prop:=
 ∀(b:Frame) (k:List Item) (cs:List Frame) (i:Nat),(b.kind= .normal/\b.fn=f)-> ¬K.Xs b.fn->(∀j,l[j]? =ops[i+j]?)->(∀e a' w',Q e a' w'->Arr K b k cs e a' w')->K.Co (b.at a (.inRegion ops (List.range' i l.length)::k)) cs w
theorem ck{c:Code}(J:Exit->Act->World->Prop)(h:wpC K f c J a w)(q: ∀e a w,J e a w->Q e a w):wpC K f c Q a w:=λb k cs h1 h2 h3=>h b k cs h1 h2 λe a' w' hj=>h3 e a' w' (q e a' w' hj)
theorem bb(h:Q .normal a w):wpC K f .skip Q a w:=λb k cs _ h2 h3=>kX h2 (λW=>⟨_,stepG_skip⟩) (h3 _ _ _ h)
theorem aL(h:Q .ret a w):wpC K f .ret Q a w:=λb k cs _ h2 h3=>by
 refine kW K.HP K.HF (.inr rfl) λW h1 _ _=>⟨_,cs,W,_,stepG_ret',nofun,h2,pP (h3 _ _ _ h (.code .ret::k)) h1⟩
theorem dF{i:Nat}(h:Q (.exit i) a w):wpC K f (.exit i) Q a w:=λb k cs _ h2 h3=>by
 obtain ⟨k',e1,e2⟩:=h3 _ _ _ h;exact kX h2 (λW=>⟨_,stepG_exit e1⟩) e2
theorem ag{x y:Code}(h:wpC K f x (Exit.then (wpC K f y Q) Q) a w):wpC K f (.seq x y) Q a w:=λb k cs h1 h2 h3=>by
 refine kX h2 (λW=>⟨_,stepG_seq⟩) (h b _ cs h1 h2 λe a' w' he=> ?_);cases e with
 | normal=>exact he b k cs h1 h2 h3
 | exit id=>obtain ⟨k',e1,e2⟩:=h3 _ _ _ he;exact ⟨k',by simpa [exitTo] using e1,e2⟩
 | ret=>exact h3 _ _ _ he
 | goto l=>exact (h3 _ _ _ he:False).elim
 | panic c=>exact (h3 _ _ _ he:False).elim
 | outgrown=>exact (h3 _ _ _ he:False).elim
theorem bZ{id:Nat}{c:Code}(h:wpC K f c (Exit.inBlock id Q) a w):wpC K f (.block id c) Q a w:=λb k cs h1 h2 h3=>by
 refine kX h2 (λW=>⟨_,stepG_block⟩) (h b _ cs h1 h2 λe a' w' he=> ?_);cases e with
 | normal=>exact kX h2 (λW=>⟨_,stepG_inBlock⟩) (h3 .normal _ _ he)
 | exit i=>
  by_cases hi:i=id
  ·subst hi;have:Q .normal a' w':=by simpa [Exit.inBlock] using he
   exact ⟨k,by simp [exitTo],h3 _ _ _ this⟩
  ·have:Q (.exit i) a' w':=by simpa [Exit.inBlock,hi] using he
   obtain ⟨k',e1,e2⟩:=h3 _ _ _ this;exact ⟨k',by simpa [exitTo,hi,qbp hi] using e1,e2⟩
 | ret=>exact h3 .ret _ _ he
 | goto l=>exact (h3 (.goto l) _ _ he:False).elim
 | panic c=>exact (h3 (.panic c) _ _ he:False).elim
 | outgrown=>exact (h3 .outgrown _ _ he:False).elim
theorem cq{S R:Type}{c:Code}(g:S->Option (S⊕R)){s0:S}{r:R}(hr:cA g s0=some r)(J:S->Act->World->Prop)(h0:J s0 a w)
  (round: ∀s a w o,J s a w->g s=some o->(∀t,o= .inr t->t=r)->wpC K f c (Exit.then (λa' w'=> ∃s',o= .inl s'/\J s' a' w') Q) a w):wpC K f (.loop c) Q a w:=by
 intro b k cs h1 h2 h3;obtain ⟨n,hn⟩:=na hr;refine kX h2 (λW=>⟨_,stepG_loop⟩) ?_;clear hr
 induction n generalizing s0 a w with
 | zero=>cases hn
 | succ n ih=>
  obtain ⟨o,ho,hk⟩:=bind_some hn;refine round s0 a w o h0 ho (by rintro t rfl;exact qaa hk) b _ cs h1 h2 λe a' w' he=> ?_;cases e with
  | normal=>
   obtain ⟨s',rfl,hJ⟩:=he;exact kX h2 (λW=>⟨_,stepG_inLoop⟩) (ih hJ hk)
  | exit id=>obtain ⟨k',e1,e2⟩:=h3 _ _ _ he;exact ⟨k',by simpa [exitTo] using e1,e2⟩
  | ret=>exact h3 _ _ _ he
  | goto l=>exact (h3 _ _ _ he:False).elim
  | panic c=>exact (h3 _ _ _ he:False).elim
  | outgrown=>exact (h3 _ _ _ he:False).elim
section
variable{n:Nat}{ρ:Nat->Value}
theorem aC{c:Operand}{x y:Code}(u:Bool)(hc:ev n ρ c= .bool u)(ht:u=true->wpC K f x Q (fr n ρ) w)(hf:u=false->wpC K f y Q (fr n ρ) w):wpC K f (.cond c x y) Q (fr n ρ) w:=λb k cs h1 h2 h3=>by
 refine kX (a':=fr n ρ) (t':= .code (if u then x else y)::k) h2 (λW=>⟨_,stepG_cond (by rw [ba];exact hc)⟩) ?_;cases u with
 | true=>exact ht rfl b k cs h1 h2 h3
 | false=>exact hf rfl b k cs h1 h2 h3
theorem rg{id:Nat}{l:List Oper}(h:EZ K f l.toArray Q l (fr n ρ) w):wpC K f (.region id l.toArray false) Q (fr n ρ) w:=λb k cs h1 h2 h3=>by
 refine kX h2 (λW=>⟨_,stepG_region⟩) ?_;have:=h b k cs 0 h1 h2 (by simp) h3;rw [List.range_eq_range',qbl];exact this
theorem ah{ops:Array Oper}(h:Q .normal a w):EZ K f ops Q [] a w:=λb k cs i h1 h2 _ h3=>kX h2 (λW=>⟨_,stepG_region_end⟩) (h3 _ _ _ h)
variable{ops:Array Oper}{d:Nat}{v:Value}{rest:List Oper}{op:Op}{ty:TypeId}{pos:String}{af:Array Edge}{gd:Option (Nat×Bool)}
omit [bq] [aR] [bs] in
theorem XW{o:Oper}{i:Nat}(h: ∀j,(o::rest)[j]? =ops[i+j]?):ops[i]? =some o:=by simpa using (h 0).symm
omit [bq] [aR] [bs] in
theorem at1{o:Oper}{i:Nat}(h: ∀j,(o::rest)[j]? =ops[i+j]?): ∀j,rest[j]? =ops[(i+1)+j]? :=λj=>by have:=h (j+1);simpa [Nat.add_assoc,Nat.add_comm 1 j] using this
theorem yh(hw:Region.wanted ⟨some d,op,ty,pos,af,gd⟩ (yv ops n ρ)=true)(hr:dR K.L w.heap n ρ ⟨some d,op,ty,pos,af,gd⟩ v)(h:EZ K f ops Q rest (fr n (upd ρ d v)) w):
  EZ K f ops Q (⟨some d,op,ty,pos,af,gd⟩::rest) (fr n ρ) w:=λb k cs i h1 h2 hl h3=>by
 rw [qb6,List.range'_succ];refine co_go (a':=fr n (upd ρ d v)) (t':= .inRegion ops (List.range' (i+1) rest.length)::k) h2 λW e1 _ _=> ?_;have hs:=stepG_value (P:=K.L) (main:=true) (b:=b) (k:=k) (cs:=cs++[cP]) (rest:=List.range' (i+1) rest.length) (XW hl) (a:=fr n ρ) (by rw [dV];exact hw) (by rw [h1.1];simp) (by rw [ba];exact hr W e1);rw [cU] at hs;exact ⟨W,_,hs,pP (h b k cs (i+1) h1 h2 (at1 hl) h3) e1⟩
theorem st(hr:dR K.L w.heap n ρ ⟨some d,op,ty,pos,af,none⟩ v)(k:EZ K f ops Q rest (fr n (upd ρ d v)) w):EZ K f ops Q (⟨some d,op,ty,pos,af,none⟩::rest) (fr n ρ) w:=yh rfl hr k
theorem bX{j:Nat}{u:Bool}(hy:yv ops n ρ j=some u)(hr:dR K.L w.heap n ρ ⟨some d,op,ty,pos,af,some (j,u)⟩ v)(k:EZ K f ops Q rest (fr n (upd ρ d v)) w):EZ K f ops Q (⟨some d,op,ty,pos,af,some (j,u)⟩::rest) (fr n ρ) w:=
 yh (au rfl hy) hr k
theorem acu{o:Oper}(hw:Region.wanted o (yv ops n ρ)=false)(h:EZ K f ops Q rest ((fr n ρ).put o.dst undef) w):EZ K f ops Q (o::rest) (fr n ρ) w:=λb k cs i h1 h2 hl h3=>by
 rw [qb6,List.range'_succ];exact kX h2 (λW=>⟨_,stepG_unwanted (XW hl) (by rw [dV];exact hw)⟩) (h b k cs (i+1) h1 h2 (at1 hl) h3)
theorem an{j:Nat}{u:Bool}(hy:yv ops n ρ j=some (!u))(k:EZ K f ops Q rest (fr n (upd ρ d undef)) w):EZ K f ops Q (⟨some d,op,ty,pos,af,some (j,u)⟩::rest) (fr n ρ) w:=acu (bm rfl hy) (by rw [cU];exact k)
end
end
end Go.Vc
namespace Go.Vc
open Go Go.Proofs Go.Vs
open Go.Conc (G base stepG_skip stepG_seq stepG_cond stepG_block stepG_inBlock stepG_loop stepG_inLoop stepG_exit stepG_region stepG_region_end stepG_end stepG_oper stepG_value stepG_none stepG_enter stepG_unwanted stepG_ret' enter_at)
open Go.Cx (bq aR bs fx PF kW xY vu cP fD Left TW)
section
variable[bq][aR][bs]
variable{K:AR}{f0:FuncId}{ay σ:St}{S0:BS}{A B R Ln L':List Ch}{n:Nat}{ρ:Nat->Value}{Rz:Value->St->Prop}{Q:Exit->Act->World->Prop}{w:World}
variable{ops:Array Oper}{d:Nat}{v:Value}{rest:List Oper}{op:Op}{ty:TypeId}{pos:String}{af:Array Edge}{gd:Option (Nat×Bool)}{dst:Option Nat}
def Lo(K:AR)(σ:St):Prop:=σ.dE/\σ.w.os=K.o/\σ.w.output=K.out
theorem Lo.on(h:Lo K ay)(H:Hp S0 ay σ L'):Lo K σ:=⟨by rw [H.md.dE];exact h.1,H.md.os.trans h.2.1,H.md.output.trans h.2.2⟩
def St.at(σ:St)(W:World)(h:W.heap=σ.w.heap):St:=⟨W,σ.eW,λb hb=>σ.ok b (by rw [←h];exact hb),σ.dE⟩
theorem acv(h:Lo K σ){W:World}(e:W.heap=σ.w.heap)(e1:W.os=K.o)(e2:W.output=K.out):Md (λ_=>False) σ (St.at σ W e):=
 ⟨e1.trans h.2.1.symm, .inl h.1,e2.trans h.2.2.symm, .inl h.1,rfl,⟨qav (by simp only [St.size,St.at,e]),λb _=>by simp only [St.at,e],λb=>qa3 _⟩,λb _ _=>by simp only [St.at,e],λ_ _ _=>rfl⟩
theorem Lo.to(h:Lo K ay)(H:Hp S0 ay σ L'){W:World}(e:W.heap=σ.w.heap)(e1:W.os=K.o)(e2:W.output=K.out):Hp S0 ay (St.at σ W e) L':=H.grow (acv (h.on H) e e1 e2)
def Cxc(K:AR)(σ:St)(n:Nat)(ρ:Nat->Value)(o:Oper)(Rz:Value->St->Prop):Prop:=
 ∃f args,(∀W:World,W.heap=σ.w.heap->W.os=K.o->W.output=K.out->Enters K.L n ρ o f args W/\Calls K.L f args.toArray W λe w'=> ∃v σ',e= .returned v/\w'=σ'.w/\Rz v σ')/\
  (∀v σ' τ (w:World),σ'.w=TW w τ->Rz v σ'-> ∃iS,w=iS.w/\Rz v iS)
theorem Ie(hL:Lo K ay){v:Value}{σ':St}{τ:Tape}{w:World}(e:σ'.w=TW w τ)(H:Hp S0 ay σ' L'): ∃iS:St,w=iS.w/\iS.size=σ'.size/\Hp S0 ay iS L':=by
 have h1:w.heap=σ'.w.heap:=by rw [e]
 have h2:w.os=σ'.w.os:=by rw [e]
 have h3:w.output=σ'.w.output:=by rw [e]
 have hl:=hL.on H;exact ⟨St.at σ' w h1,rfl,by simp only [St.size,St.at,h1],hL.to H h1 (h2.trans hl.2.1) (h3.trans hl.2.2)⟩
theorem ar{f:FuncId}{args:List Value}{post:Nat->Value->List Ch->Prop}{o:Oper}(hL:Lo K ay)(hc:bR K.L f args A post)(he: ∀w,Enters K.L n ρ o f args w){m:Nat}(hm:m<=ay.size)(H:Hp S0 ay σ (A++R)):
  Cxc K σ n ρ o λv σ'=> ∃L',post m v L'/\Hp S0 ay σ' (L'++R)/\True:=by
 refine ⟨f,args,λW e e1 e2=>⟨he W, ?_⟩, ?_⟩
 ·have H1:=hL.to H e e1 e2;refine (hc.frame H1 (qac hm H1.size)).mono ?_;rintro _ w' ⟨v,σ',L',rfl,rfl,hp,H',_⟩;exact ⟨v,σ',rfl,rfl,L',hp,H',trivial⟩
 ·rintro v σ' τ w e ⟨L',hp,H',_⟩;obtain ⟨iS,h1,_,h2⟩:=Ie (v:=v) hL e H';exact ⟨iS,h1,L',hp,h2,trivial⟩
theorem kJ{f:FuncId}{args:List Value}{post:Nat->Value->List Ch->Prop}{o:Oper}(hL:Lo K ay)(hl:fJ Ln A B)(hc:bR K.L f args B post)(he: ∀w,Enters K.L n ρ o f args w)(H:Hp S0 ay σ (Ln++(A++R)))(lL: ∀m v L',post m v L'->yp m L'):
  Cxc K σ n ρ o λv σ'=> ∃L',post σ.size v L'/\Hp S0 ay σ' (L'++(Ln++R))/\True/\ay.size<=σ.size:=by
 refine ⟨f,args,λW e e1 e2=>⟨he W, ?_⟩, ?_⟩
 ·have H1:=hL.to H e e1 e2;refine (hc.pH hl H1 lL).mono ?_;rintro _ w' ⟨v,σ',L',rfl,rfl,hp,H',_⟩;have hs:(St.at σ W e).size=σ.size:=by simp only [St.size,St.at,e]
  rw [hs] at hp;exact ⟨v,σ',rfl,rfl,L',hp,H',trivial,H.size⟩
 ·rintro v σ' τ w e ⟨L',hp,H',_,h3⟩;obtain ⟨iS,h1,_,h2⟩:=Ie (v:=v) hL e H';exact ⟨iS,h1,L',hp,h2,trivial,h3⟩
theorem aw(hc:Cxc K σ n ρ ⟨some d,op,ty,pos,af,gd⟩ Rz)(hw:Region.wanted ⟨some d,op,ty,pos,af,gd⟩ (yv ops n ρ)=true)
  (k: ∀v (σ':St),Rz v σ'->EZ K f0 ops Q rest (fr n (upd ρ d v)) σ'.w):EZ K f0 ops Q (⟨some d,op,ty,pos,af,gd⟩::rest) (fr n ρ) σ.w:=by
 obtain ⟨f,args,hc,hR⟩:=hc;intro b kk cs i h1 h2 hl h3;rw [qb6,List.range'_succ];refine kW K.HP K.HF (.inr rfl) λW e e1 e2=> ?_;obtain ⟨he,hC⟩:=hc W e e1 e2;have hC': ∀W:World,W.heap=σ.w.heap->W.os=K.o->W.output=K.out->Calls K.L f args.toArray W fun | .returned v,w'=> ∃σ',w'=σ'.w/\Rz v σ' | _,_=>False:=λW e e1 e2=>by
  refine (hc W e e1 e2).2.mono ?_;rintro _ w' ⟨v,σ',rfl,rfl,h⟩;exact ⟨σ',rfl,h⟩
 have hs:=stepG_enter (P:=K.L) (main:=true) (b:=b) (k:=kk) (cs:=cs++[cP]) (rest:=List.range' (i+1) rest.length) (XW hl) (a:=fr n ρ) (by rw [dV];exact hw) (by rw [h1.1];simp) (by rw [ba];exact he);refine ⟨_,_::cs,W,_,hs,nofun,λhx=>K.hC f _ W (λv w'=> ∃σ',w'=σ'.w/\Rz v σ') hx (hC' W e e1 e2), ?_⟩;refine xY (R:=λv w'=> ∃σ',w'=σ'.w/\Rz v σ') K.HP K.HF K.HPs K.HFs K.he (K.hX _) (λv w τ ⟨σ',q1,q2⟩=>hR v σ' τ w q1.symm q2) (λW' q q1 q2=>hC' W' (q.trans e) q1 q2) λv w' ⟨σ',q1,q2⟩=> ?_;subst q1;rw [Frame.finish_at,XW hl];have:=k v σ' q2 b kk cs (i+1) h1 h2 (at1 hl) h3;rw [←cU] at this;exact this
structure Ig(K:AR)(f:FuncId)(args:List Value)(pre:List Ch)(K0:World->Prop)(post:Nat->Value->List Ch->Prop):Prop where
 fn: ∃fn c,K.L.funcs[f]? =some fn/\(fn.name== "runtime.NumGoroutine")=false/\fn.body=some c
 co: ∀(σ:St) (m:Nat),m<=σ.size->Lo K σ->Hp (cH pre) σ σ pre->K0 σ.w-> ∀(a:Frame) (cs:List Frame),a.mode= .run-> ¬K.Xs a.fn->
  (∀W:World,W.heap=σ.w.heap->W.os=K.o->W.output=K.out-> ∃es,stepG K.L true (fD a (cs++[cP])) W= .go (fD (Frame.enter K.L f args.toArray .normal) (a::(cs++[cP]))) W es)->
  (∀v σ' L',post m v L'->Hp (cH pre) σ σ' L'->K.Co (a.finish v) cs σ'.w)->K.Co a cs σ.w
theorem Ih{f:FuncId}{args:List Value}{o:Oper}{W:World}{b:Frame}{k:List Item}{cs:List Frame}{i:Nat}{Rv:List Nat}(he:Enters K.L n ρ o f args W)(ho:ops[i]? =some o)(hw:Region.wanted o (yv ops n ρ)=true)(h1:b.kind= .normal/\b.fn=f0):
  ∃es,stepG K.L true (fD (b.at (fr n ρ) (.inRegion ops (i::Rv)::k)) cs) W= .go (fD (Frame.enter K.L f args.toArray .normal) (b.at (fr n ρ) (.inRegion ops (i::Rv)::k)::cs)) W es:=
 ⟨_,stepG_enter (P:=K.L) (main:=true) (b:=b) (k:=k) (cs:=cs) (rest:=Rv) ho (a:=fr n ρ) (by rw [dV];exact hw) (by rw [h1.1];simp) (by rw [ba];exact he)⟩
theorem Rw{f:FuncId}{args:List Value}{K0:World->Prop}{post:Nat->Value->List Ch->Prop}(hc:Ig K f args A K0 post)(he: ∀w,Enters K.L n ρ ⟨some d,op,ty,pos,af,gd⟩ f args w)(hL:Lo K ay){m:Nat}(hm:m<=ay.size)(H:Hp S0 ay σ (A++R))(h0:K0 σ.w)
  (hw:Region.wanted ⟨some d,op,ty,pos,af,gd⟩ (yv ops n ρ)=true) (k: ∀v (σ':St),(∃L',post m v L'/\Hp S0 ay σ' (L'++R)/\True)->EZ K f0 ops Q rest (fr n (upd ρ d v)) σ'.w):EZ K f0 ops Q (⟨some d,op,ty,pos,af,gd⟩::rest) (fr n ρ) σ.w:=by
 intro b kk cs i h1 h2 hl h3;rw [qb6,List.range'_succ];refine hc.co σ m (qac hm H.size) (hL.on H) (Hp.begin (dJ.1 H.all).1 (dU.1 H.ap).1) h0 _ cs rfl h2 (λW _ _ _=>Ih (he W) (XW hl) hw h1) λv σ' L' hp H'=> ?_;rw [Frame.finish_at,XW hl];have:=k v σ' ⟨L',hp,H.frame H',trivial⟩ b kk cs (i+1) h1 h2 (at1 hl) h3;rw [←cU] at this;exact this
omit [bq] [aR] [bs] in
theorem ZI(hl:fJ Ln A B)(H:Hp S0 ay σ (Ln++(A++R))): ∃py:St,py.w=σ.w/\py.dE=σ.dE/\Hp (cH B) py py B/\
  ∀fU L',yp σ.size L'->Hp (cH B) py fU L'-> ∃fK:St,fK.w=fU.w/\Hp S0 ay fK (L'++(Ln++R)):=by
 classical
 obtain ⟨a1,a23⟩:=dJ.1 H.all;obtain ⟨a2,a3⟩:=dJ.1 a23;obtain ⟨p1,p23,p4⟩:=dU.1 H.ap;obtain ⟨p2,p3,p5⟩:=dU.1 p23;have pA: ∀b,cH A b-> ¬cH Ln b:=λb hb h=>p4 b h (bL.2 (.inl hb));have pR: ∀b,cH R b-> ¬cH Ln b:=λb hb h=>p4 b h (bL.2 (.inr hb));obtain ⟨py,pp,aB⟩:=hl.nJ a1 p1 a2 pA;have kD:py.size=σ.size:=by unfold St.size;rw [pp.w]
 have Hb:Hp (cH B) py py B:=Hp.begin aB (hl.apart p2);refine ⟨py,pp.w,pp.dE,Hb,λfU L' lL H'=> ?_⟩;have Ux:=hl.cH;have hle:σ.size<=fU.size:=kD▸H'.md.size
 let fK:St:=⟨fU.w,λc=>if cH Ln c then σ.eW c else fU.eW c,λb hb=>by
  have: ¬cH Ln b:=λh=>absurd (qa4 (jM a1 b h) hle) (qcg.2 hb);rw [if_neg this];exact fU.ok b hb,fU.dE⟩
 have Qi: ∀b,cH Ln b->fK.eW b=σ.eW b:=λb h=>if_pos h;have th: ∀b, ¬cH Ln b->fK.eW b=fU.eW b:=λb h=>if_neg h;have m3:Md (cH A) σ fK:=by
  refine ⟨?_, ?_, ?_, ?_,H'.md.dE.trans pp.dE,⟨hle,λb ho=> ?_,λb=> ?_⟩,λb hb hn=> ?_,λb hb hn=> ?_⟩
  ·exact H'.md.os.trans (by rw [pp.w])
  ·have:=H'.md.tape;rw [pp.w,pp.dE] at this;exact this
  ·exact H'.md.output.trans (by rw [pp.w])
  ·have:=H'.md.dr;rw [pp.w,pp.dE] at this;exact this
  ·have h1:fU.w.heap[b]? =py.w.heap[b]? :=H'.md.ext.block b (qa4 ho (pp.le b));show fU.w.heap[b]? =_;rw [h1,pp.w]
  ·by_cases h:cH Ln b
   ·exact qav (Qi b h).symm
   ·rw [th b h];exact qac (pp.le b) (H'.md.ext.eW b)
  ·have:=H'.md.block b (by rw [kD];exact hb) (λh=>hn ((Ux b).1 h));rw [pp.w] at this;exact this
  ·by_cases h:cH Ln b
   ·exact Qi b h
   ·rw [th b h,H'.md.eW b (by rw [kD];exact hb) (λh=>hn ((Ux b).1 h)),pp.eW b h]
 have D5: ∀b,cH L' b->b<σ.size->cH A b:=λb hb bJ=>(Ux b).1 (H'.zY b hb (by rw [kD];exact bJ));have aL':gz fK L':=yq (σ:=fU) (σ':=fK) rfl lL (λb hb=>by
  refine th b λh=> ?_;have bJ:=jM a1 b h;rcases hb with hb | hb
  ·omega
  ·exact pA b (D5 b hb bJ) h) H'.all
 refine ⟨fK,rfl,⟨H.md.step m3 (λi hi h=>H.zY i (bL.2 (.inr (bL.2 (.inl h)))) hi),dJ.2 ⟨aL',dJ.2 ⟨gj a1 m3 (λb hb h=>pA b h hb),gj a3 m3 (λb hb h=>p5 b h hb)⟩⟩,
  dU.2 ⟨H'.ap,dU.2 ⟨p1,p3,λb hb h=>pR b h hb⟩,λb hb eT=> ?_⟩,λb hb bJ=> ?_⟩⟩
 ·rcases bL.1 eT with h | h
  ·exact pA b (D5 b hb (jM a1 b h)) h
  ·exact p5 b (D5 b hb (jM a3 b h)) h
 ·rcases bL.1 hb with hb | hb
  ·exact H.zY b (bL.2 (.inr (bL.2 (.inl (D5 b hb (qa4 bJ H.md.size)))))) bJ
  ·rcases bL.1 hb with hb | hb
   ·exact H.zY b (bL.2 (.inl hb)) bJ
   ·exact H.zY b (bL.2 (.inr (bL.2 (.inr hb)))) bJ
theorem Rx{f:FuncId}{args:List Value}{K0:World->Prop}{post:Nat->Value->List Ch->Prop}(hl:fJ Ln A B)(hc:Ig K f args B K0 post)(he: ∀w,Enters K.L n ρ ⟨some d,op,ty,pos,af,gd⟩ f args w)(hL:Lo K ay)(H:Hp S0 ay σ (Ln++(A++R)))(h0:K0 σ.w)(lL: ∀m v L',post m v L'->yp m L')
  (hw:Region.wanted ⟨some d,op,ty,pos,af,gd⟩ (yv ops n ρ)=true) (k: ∀v (σ':St),(∃L',post σ.size v L'/\Hp S0 ay σ' (L'++(Ln++R))/\True/\ay.size<=σ.size)->EZ K f0 ops Q rest (fr n (upd ρ d v)) σ'.w):EZ K f0 ops Q (⟨some d,op,ty,pos,af,gd⟩::rest) (fr n ρ) σ.w:=by
 intro b kk cs i h1 h2 hll h3;rw [qb6,List.range'_succ];obtain ⟨py,q1,q2,Hb,hk⟩:=ZI hl H;have kD:py.size=σ.size:=by unfold St.size;rw [q1]
 have hLp:Lo K py:=⟨by rw [q2];exact (hL.on H).1,by rw [q1];exact (hL.on H).2.1,by rw [q1];exact (hL.on H).2.2⟩;have:=hc.co py σ.size (qav kD.symm) hLp Hb (by rw [q1];exact h0) (b.at (fr n ρ) (.inRegion ops (i::List.range' (i+1) rest.length)::kk)) cs rfl h2 (λW _ _ _=>Ih (he W) (XW hll) hw h1) λv σ' L' hp H'=> ?_
 ·rw [q1] at this;exact this
 ·obtain ⟨fK,r1,r2⟩:=hk σ' L' (lL _ _ _ hp) H';rw [Frame.finish_at,XW hll, ←r1];have:=k v fK ⟨L',hp,r2,trivial,H.size⟩ b kk cs (i+1) h1 h2 (at1 hll) h3;rw [←cU] at this;exact this
def BpC(K:AR)(fn:Func)(uI:Value->World->Prop):Exit->Act->World->Prop
 | .normal,a,w | .ret,a,w=>a.defers=[]/\ ∃v,(∀W,(results fn a.tmps).run K.L W= .ok v W)/\uI v w
 | _,_,_=>False
def CN(post:Value->List Ch->Prop)(ay:St)(S0:BS)(v:Value)(w':World):Prop:= ∃σ' L',w'=σ'.w/\post v L'/\Hp S0 ay σ' L'
theorem gF{fn:Func}{post:Value->List Ch->Prop}(hr: ∀W,(results fn (fr n ρ).tmps).run K.L W= .ok v W)(hp:post v L')(H:Hp S0 ay σ L'):BpC K fn (CN post ay S0) .ret (fr n ρ) σ.w:=⟨rfl,v,hr,σ,L',rfl,hp,H⟩
omit [bq] [aR] [bs] in
theorem RD{P:Program}{b:Frame}{a:Act}{todo:List Item}{c:Frame}{cs:List Frame}{fn:Func}(hn:b.kind= .normal)(hd:a.defers=[])(hf:P.funcs[b.fn]? =some fn)(hr:(results fn a.tmps).run P w= .ok v w):
  ∃es,stepG P true (fD { b.at a todo with mode:= .returning } (c::cs)) w= .go (fD (c.finish v) cs) w es:=by
 simp [stepG,unwind,doReturn,Frame.at,hn,hd,hf,hr,GStep.after]
theorem af1{f:FuncId}{fn:Func}{c:Code}{l:List Value}{pre:List Ch}{K0:World->Prop}{post:Nat->Value->List Ch->Prop}(PE: ¬K.Xs f)(hf:K.L.funcs[f]? =some fn)(Ur:(fn.name== "runtime.NumGoroutine")=false)(hb:fn.body=some c)(hn:fn.ntmps=n)(hlen:Nat.ble l.length n=true)
  (h: ∀(S0:BS) (ay:St) (n0:Nat),n0<=ay.size->Lo K ay->K0 ay.w->S0=cH pre->Hp S0 ay ay pre->wpC K f c (BpC K fn (CN (post n0) ay S0)) (fr n (eh l)) ay.w):Ig K f l pre K0 post:=by
 refine ⟨⟨fn,c,hf,Ur,hb⟩,λσ m hm hL H h0 a cs ha KT he hk=> ?_⟩;refine kW K.HP K.HF (.inr ha) λW e e1 e2=> ?_;obtain ⟨es,hs⟩:=he W e e1 e2;have vt:(Frame.enter K.L f l.toArray .normal).fn=f:=by rw [enter_at _ hf hb];rfl
 refine ⟨_,a::cs,W,es,hs,by rw [enter_at _ hf hb];nofun,by rw [vt];exact PE,pP ?_ e⟩;have oO:=mz l n (by simpa using hlen);rw [enter_at _ hf hb,qbl,hn,oO];have NA: ∀a' w' todo,(a'.defers=[]/\ ∃v,(∀W,(results fn a'.tmps).run K.L W= .ok v W)/\CN (post m) σ (cH pre) v w')->K.Co { (base f).at a' todo with mode:= .returning } (a::cs) w':=by
  rintro a' w' todo ⟨hd,v,hr,σ',L',rfl,hp,H'⟩;refine kW K.HP K.HF (.inl (by simp)) λW e _ _=> ?_;obtain ⟨es,hs⟩:=RD (P:=K.L) (b:=base f) (a:=a') (todo:=todo) (c:=a) (cs:=cs++[cP]) rfl hd hf (hr W);have Vb:(a.finish v).mode= .run:=(Go.Cx.jd a v).trans ha;have af2:(a.finish v).fn=a.fn:=by unfold Frame.finish;split <;> rfl
  exact ⟨a.finish v,cs,W,es,hs,λch=>(by rw [Vb];nofun),by rw [af2];exact KT,pP (hk v σ' L' hp H') e⟩
 refine h (cH pre) σ m hm hL h0 rfl H (base f) [] (a::cs) ⟨rfl,rfl⟩ PE λe a' w' q=> ?_;cases e with
 | normal=>exact kW K.HP K.HF (.inr rfl) λW e _ _=>⟨_,a::cs,W,_,stepG_end,nofun,PE,pP (NA a' w' [] q) e⟩
 | ret=>exact λtodo=>NA a' w' todo q
 | exit id=>exact q.elim
 | goto l=>exact q.elim
 | panic ch=>exact q.elim
 | outgrown=>exact q.elim
end
end Go.Vc
namespace Go.Vc
open Go Go.Proofs Go.Vs
open Go.Conc (G base stepG_end enter_at)
open Go.Cx (bq aR bs fx PF kW xY vu cP fD Left TW)
section
variable[bq][aR][bs]
variable{K:AR}{ay σ:St}{S0:BS}{n:Nat}{ρ:Nat->Value}{Q:Exit->Act->World->Prop}{w:World}
def wR(K:AR)(f:FuncId)(l:List Value)(pre:List Ch)(K0:World->Prop)(post:Nat->Value->List Ch->Prop):Prop:=
 ∃fn c n,K.L.funcs[f]? =some fn/\(fn.name== "runtime.NumGoroutine")=false/\fn.body=some c/\fn.ntmps=n/\Nat.ble l.length n=true/\
  ∀(S0:BS) (ay:St) (n0:Nat),n0<=ay.size->Lo K ay->K0 ay.w->S0=cH pre->Hp S0 ay ay pre->wpC K f c (BpC K fn (CN (post n0) ay S0)) (fr n (eh l)) ay.w
variable{f:FuncId}{l:List Value}{pre:List Ch}{K0:World->Prop}{post:Nat->Value->List Ch->Prop}
theorem XX{fn:Func}{c:Code}(hf:K.L.funcs[f]? =some fn)(Ur:(fn.name== "runtime.NumGoroutine")=false)(hb:fn.body=some c)(hn:fn.ntmps=n)(hlen:Nat.ble l.length n=true)
 (h: ∀(S0:BS) (ay:St) (n0:Nat),n0<=ay.size->Lo K ay->K0 ay.w->S0=cH pre->Hp S0 ay ay pre->wpC K f c (BpC K fn (CN (post n0) ay S0)) (fr n (eh l)) ay.w):wR K f l pre K0 post:=⟨fn,c,n,hf,Ur,hb,hn,hlen,h⟩
theorem wR.cal(PE: ¬K.Xs f)(h:wR K f l pre K0 post):Ig K f l pre K0 post:=by
 obtain ⟨fn,c,n,h1,h2,h3,h4,h5,h6⟩:=h;exact af1 PE h1 h2 h3 h4 h5 h6
def Fin(K:AR)(f:FuncId)(post:Value->List Ch->Prop)(σ:St)(S0:BS):Prop:=
 ∀(fn:Func) (a:Act) (todo:List Item) (v:Value) (w:World),K.L.funcs[f]? =some fn->a.defers=[]->(∀W,(results fn a.tmps).run K.L W= .ok v W)->CN post σ S0 v w->K.Co { (base f).at a todo with mode:= .returning } [] w
theorem wR.top(PE: ¬K.Xs f)(h:wR K f l pre K0 post){m:Nat}(hm:m<=σ.size)(hL:Lo K σ)(H:Hp (cH pre) σ σ pre)(h0:K0 σ.w)(hF:Fin K f (post m) σ (cH pre)):K.Co (Frame.enter K.L f l.toArray .normal) [] σ.w:=by
 obtain ⟨fn,c,n,hf,Ur,hb,hn,hlen,h⟩:=h;have oO:=mz l n (by simpa using hlen);rw [enter_at _ hf hb,qbl,hn,oO];refine h (cH pre) σ m hm hL h0 rfl H (base f) [] [] ⟨rfl,rfl⟩ PE λe a' w' q=> ?_;cases e with
 | normal=>exact kW K.HP K.HF (.inr rfl) λW e _ _=>⟨_,[],W,_,stepG_end,nofun,PE,pP (let ⟨hd,v,hr,hp⟩:=q;hF fn a' [] v w' hf hd hr hp) e⟩
 | ret=>exact λtodo=>let ⟨hd,v,hr,hp⟩:=q;hF fn a' todo v w' hf hd hr hp
 | exit id=>exact q.elim
 | goto l=>exact q.elim
 | panic ch=>exact q.elim
 | outgrown=>exact q.elim
def Cb(v:Value)(w:World):Prop:= ∀b,blk v=some b-> ∃cs T e,w.heap[b]? =some (.cells cs T e)
omit [bq] [aR] [bs] in
theorem Cb.own{α:Type}[Rp α]{lo el:Nat}{v:Value}{xs:List α}(h:Ow σ lo el v xs):Cb v σ.w:=by
 intro b hb;rcases h with ⟨rfl,_⟩ | ⟨b',o,c,C,T,rfl,_,h3,_⟩
 ·cases hb
 ·cases hb;exact ⟨C,T,_,h3⟩
omit [bq] [aR] [bs] in
theorem Cb.to{v:Value}{L:List Ch}(h:Cb v ay.w)(H:Hp S0 ay σ L)(hS: ∀b, ¬S0 b):Cb v σ.w:=by
 intro b hb;obtain ⟨cs,T,e,hq⟩:=h b hb;have bJ:b<ay.size:=(qa1.1 hq).1;exact ⟨cs,T,e,by rw [H.md.block b bJ (hS b)];exact hq⟩
end
end Go.Vc
namespace Go.Vc
open Go Go.Proofs Go.Vs
open Go.Cx (bq aR bs fx PF MT vu cP fD Left TW tree cM Mn On)
end Go.Vc
namespace Go.Cx
open Go Go.Conc
open Go.ConcN (sumTo)
def wS(C:Program)(uI:Value->World->Prop)(m:Machine)(t:Trace):Prop:= ∃o w' ops,stepT C m=(.ended o w',ops)/\Conc.Good C uI m o w' (t++ops)
section
variable{C:Program}{cY:Loc->Prop}{g:Goroutine}{sz:Nat}{uI:Value->World->Prop}{w:World}
theorem CO(hr:g.status= .running)(K: ∀W:World,Wq W w-> ∃v w',stepG C true g W= .ended (.done v) w' #[]/\uI v w'):
  ∀(r:Nat) (gs:Array Goroutine) (W:World) (sl:Option (Nat×Nat)) (t:Trace) (q:Nat->Nat),sumTo gs.size q=r->gs[0]? =some g->Wq W w->Qt C cY gs sz t q->ie C (wS C uI) (crowd gs W sl) t:=by
 intro r
 induction r using Nat.strongRecOn with
 | _ r ih=>
  intro gs W sl t q Ru h0 hw hq;obtain ⟨i,y,d,tZ,hy,Ic,hs⟩:=crowd_pick (P:=C) (w:=W) (sl:=sl) (hq.awake h0 hr) ⟨0,g,h0,hr⟩;cases i with
  | zero=>
   obtain ⟨v,w',h1,h2⟩:=K (W.at d) (hw.at d);have bP:=ConcN.runT_crowd_ended (P:=C) (sl:=tZ) h0 (w:=W.at d) (by simpa using h1);have he:MemOp.ofEvents 0 g.frame.fn g.frame.place #[]= #[]:=rfl;refine ie.here ⟨_,_,_,hs.trans bP,v,rfl,h2, ?_, ?_,⟨?_,rfl⟩, ?_⟩
   ·rw [he,Array.append_empty];exact hq.ti.nr
   ·rw [he,Array.append_empty];exact λi g h1 h2 h3=>hq.ho i g h1 h2 id h3
   ·intro x hx;obtain ⟨j,hj⟩:=List.mem_iff_getElem?.1 hx;rw [List.getElem?_drop] at hj;have XF:gs[1+j]? =some x:=by simpa [crowd] using hj
    obtain ⟨z,hz,uH⟩:=hq.wk (1+j) (by omega) (qa1.1 XF).1;rw [XF] at hz;cases hz;exact ⟨_,uH.leaves⟩
   ·intro j x hj hj0;rw [he,Array.append_empty];obtain ⟨z,hz,uH⟩:=hq.wk j (by omega) (qa1.1 hj).1;rw [show gs[j]? =some x from hj] at hz;cases hz;exact ⟨_,uH.hears _⟩
  | succ i=>
   obtain ⟨oD,ops,q',h1,h2,h3,h4,h5⟩:=hq.leave (W:=W.at d) (sl:=tZ) h0 hr (k:=i+1) (by omega) hy Ic;exact ie.step (hs.trans h1) (ih _ (by rw [←Ru];exact h5) oD (W.at d) tZ (t++ops) q' (by rw [h3]) h2 (hw.at d) h4)
theorem Ii(g:Goroutine)(W:World):Qt C no1 #[g] W.heap.size #[] (λ_=>0) where
 wk:=λk h1 h2=>by simp at h2;omega
 ti:=by
  have no: ∀i a,touchAt #[] i=some a->False:=λi a h=>by simp [touchAt,Trace.act?] at h
  exact ⟨λi op x h=>by simp at h,λk h=>h.elim,λk h=>h.elim,λl _ _ _ _ i a h=>(no i a h).elim,λl _ _ _ _ i a h=>(no i a h).elim,λi a h=>(no i a h).elim,ConcN.noRace_nil,λi op h=>by simp at h,λi a h=>(no i a h).elim⟩
 ho:=λi g h=>by simp [Trace.g?] at h
 d0:=rfl
 sT:=λl b h=>h.elim
theorem CP{g:Goroutine}{W:World}(h:ie C (wS C uI) (solo g W) #[]):
  ∃M last o w' t',runNT C (M+1) (solo g W) #[]=(.ended o w',t')/\runN C M (solo g W)= .next last/\step C last= .ended o w'/\Conc.Good C uI last o w' t':=by
 obtain ⟨n,m,t,h1,o,w',ops,h2,h3⟩:=h;have h4:runN C n (solo g W)= .next m:=by rw [←runNT_fst _ _ _ #[],h1]
 have h5:step C m= .ended o w':=by rw [←stepT_fst C m true,h2]
 have h6:=runNT_succ C n _ _ _ _ h1;rw [h2] at h6;have h7:(runNT C (n+1) (solo g W) #[]).1= .ended o w':=by rw [runNT_fst];rw [_root_.Go.runN_add,h4];simp [runN,h5]
 exact ⟨n,m,o,w',t++ops,Prod.ext h7 h6,h4,h5,h3⟩
end
end Go.Cx
namespace Go.Vc
open Go Go.Proofs Go.Vs
open Go.Conc (G base solo)
open Go.Cx (bq aR bs fx PF kW vu cP fD TW cM iz Mn On wS CO Ii ie aQ aF cz fw Dw Bj mR no1 Wq)
section
variable[bq][aR][bs]
variable{K:AR}{σ:St}{S0:BS}{f:FuncId}{post:Value->List Ch->Prop}{uI:Value->World->Prop}
omit [bq] [aR] [bs] in
theorem ZJ{β:Bj}{x y:List Deferred}(h:Go.Cx.lP β x y)(hx:x=[]):y=[]:=by
 subst hx;cases h
 rfl
omit [bq] [aR] [bs] in
theorem Ov{P:Program}{b:Frame}{fn:Func}{t:Nat}{W:World}(hm:b.mode= .returning)(hd:b.defers=[])(hk:b.kind= .normal)(hf:P.funcs[b.fn]? =some fn)(hi:P.inits.idxOf? b.fn=none)(hr:fn.results= #[.tmp t]):
  stepG P true (fD b []) W= .ended (.done (b.tmps.getD t undef)) W #[]:=by
 have h1:=results_tmp hr b.tmps P W;have h2:=Conc.events_results_tmp (P:=P) (w:=W) hr b.tmps #[];simp [stepG,unwind,doReturn,hm,hd,hk,hf,hi,h1,h2,seen,GStep.after]
theorem Vu(qx:bq.ok f)(nO:bq.qu f)(EW: ¬K.Xs f)(ZK:K.C.inits.idxOf? f=none)(hΦ:K.Φ=wS K.C uI)(cC: ∀fn,K.L.funcs[f]? =some fn-> ∃t,fn.results= #[.tmp t])(RE: ∀v L,post v L->v=B true)
  (hP: ∀W':World,W'.tape=K.W0.tape->W'.os=K.W0.os->W'.output=K.W0.output->(∀b,b<K.W0.heap.size->W'.heap[b]? =K.W0.heap[b]?)->uI (B true) W'):Fin K f post σ S0:=by
 intro fn a todo v w hf hd hr ⟨σ',L',hw,hp,H'⟩ gs W sl t q cY β b k' h0 hq hM;obtain ⟨iF,c,g1,g2,g3,g4⟩:=K.HF.same f qx nO EW;have e:iF=fn:=qaa (g1.symm.trans hf);subst e;obtain ⟨rfl,hF⟩:k'=[]/\iz K.L K.C β { (base f).at a todo with mode:= .returning } b:=by
  have:=hM.sk;cases this with
  | one h _=>exact ⟨rfl,h⟩
  | cons _ h=>cases h
 obtain rfl:=RE v L' hp;obtain ⟨tm,ht⟩:=cC _ hf;have hv:a.tmps.getD tm undef=B true:=by
  have:=hr w;rw [results_tmp ht] at this;injection this
 have GX:b.tmps.getD tm undef=B true:=by
  have hT:aQ β a.tmps b.tmps:=hF.tmps;cases h1:a.tmps[tm]? with
  | none=>
   rw [qak, h1] at hv;cases hv
  | some u=>
   obtain ⟨u',h2,h3⟩:=hT.get h1;rw [qak, h1,qc7] at hv;subst hv;rw [qak, h2,qc7];cases h3
   rfl
 have iA: ∀W',stepG K.C true (fD b []) W'= .ended (.done (B true)) W' #[]:=λW'=>by
  have:=Ov (P:=K.C) (b:=b) (fn:=iF) (t:=tm) (W:=W') (hF.mode.elim (λh=>by cases h.1) λh=>h.2.1) (ZJ hF.defers hd) hF.kind.2 (by rw [hF.fn];exact g2) (by rw [hF.fn];exact ZK) ht;rw [this,GX]
 rw [hΦ];exact CO (g:=fD b []) rfl (λW' XY=>⟨B true,W',iA W',hP W' (XY.tape.trans hM.tape) (XY.os.trans hM.os) (XY.output.trans hM.output) λb hb=>by rw [XY.heap];exact hM.keep b hb⟩) _ gs W sl t q rfl h0 (.refl W) hq
theorem Vv{l l':List Value}{pre:List Ch}{post:Nat->Value->List Ch->Prop}(hb:wR K f l pre (λ_=>True) post)(qx:bq.ok f)(nO:bq.qu f)(EW: ¬K.Xs f)(ZK:K.C.inits.idxOf? f=none)(hΦ:K.Φ=wS K.C uI)(cC: ∀fn,K.L.funcs[f]? =some fn-> ∃t,fn.results= #[.tmp t])
  (RE: ∀m v L,post m v L->v=B true) (hP: ∀W':World,W'.tape=K.W0.tape->W'.os=K.W0.os->W'.output=K.W0.output->(∀b,b<K.W0.heap.size->W'.heap[b]? =K.W0.heap[b]?)->uI (B true) W')
  (hL:Lo K σ) (H:Hp (cH pre) σ σ pre) {β:Bj} (hx:aQ β l.toArray l'.toArray) (hw:cz β σ.w K.W0) (hd:Dw σ.w) (hold: ∀a b,β a b->fw β σ.w b):
  ie K.C (wS K.C uI) (solo (G (Frame.enter K.C f l'.toArray .normal) []) K.W0) #[]:=by
 have hco:=hb.top EW (m:=0) (qa9 _) hL H trivial (Vu qx nO EW ZK hΦ cC (RE 0) hP);obtain ⟨fn,c,g1,g2,g3,g4⟩:=K.HF.same f qx nO EW;have:=hco #[fD (Frame.enter K.C f l'.toArray .normal) []] K.W0 none #[] (λ_=>0) no1 β _ [] rfl (Ii _ _) ⟨.one (mR g1 g2 g3 g4 hx) rfl,hw,hd,λ_ _ _ _ _ h=>h,rfl,rfl,rfl,λa b q _=>hold a b q,λ_ _=>rfl⟩;rw [hΦ] at this;exact this
end
end Go.Vc
namespace Go.Vc
open Go Go.Proofs Go.Vs Go.ChangeShapes Go.WideShapes Go.ChangeAt Go.RowKit
open Go.Cx (hU kU Fw rY uG aF)
def Ij(W:World)(b:Nat):Prop:= ∃c e f,W.heap[b]? =some (.cells c e f)
theorem MU{P:Program}{W:World}{base:Nat}{t e:TypeId}{a:Addr}{len cap:Nat}(hu:P.underlying t=some (.slice e))(h:Value.okWide P W .any base t (.slice (some a) len cap)):Ij W a.block/\a.spot=none:=by
 simp only [Value.okWide,hu,Cell.okWide,Cell.ok] at h;obtain ⟨_,_,_,h1,row,cells,hs,_⟩:=h;refine ⟨?_,h1⟩;unfold World.shape? at hs;split at hs
 ·rename_i c e f h2;exact ⟨c,e,f,h2⟩
 ·cases hs
theorem RF{W W':World}(h1:W'.tape=W.tape)(h2:W'.os=W.os)(h3:W'.output=W.output)(h4: ∀b,b<W.heap.size->W'.heap[b]? =W.heap[b]?):Below W.heap.size W W':=by
 refine ⟨h2,h1,h3, ?_,h4⟩;apply qa8;intro hn;have bJ:W'.heap.size<W.heap.size:=Nat.lt_of_not_le hn;have:=h4 _ bJ;rw [qbb (qa3 _),Array.getElem?_eq_getElem bJ] at this;cases this
def St.RH(σ:St):St:=⟨σ.w,σ.eW,σ.ok,True⟩
theorem Ox(σ:St):Ext σ (St.RH σ):=⟨qa3 _,λ_ _=>rfl,λ_=>qa3 _⟩
end Go.Vc
namespace Go.Vc
open Go Go.Proofs Go.Vs
open Go.Cx (bq aR hU kU Fw rY uG aF cz Bj aQ oP cell_of pJ)
section
variable{F:bq}{K:aR}{β:Bj}{σ τ:St}{W:World}{T:Nat->Prop}
structure Wt(F:bq)(T:Nat->Prop)(W:World)(τ:St):Prop where
 w:τ.w=Fw F T W
 eW: ∀b c e f,W.heap[b]? =some (.cells c e f)->τ.eW b=c.size
theorem MV(hw: @cz F K hU β σ.w W){b b' o:Nat}(hb:β b b'){v:Value}(h:σ.cell b o=some v):
  ∃v',W.cell? ⟨b',o,none⟩=some v'/\ @aF F hU β v v'/\ ∃c e f,W.heap[b']? =some (.cells c e f)/\o<c.size:=by
 letI:=F;letI:=K;letI:=hU;obtain ⟨c,e,f,h1,_,h3⟩:=oP (h:σ.w.cell? ⟨b,o,none⟩=some v);obtain ⟨x,x',q1,q2,q3⟩:=hw.obj b b' hb;rw [h1] at q1;cases q1;have key: ∀c' e' f',W.heap[b']? =some (.cells c' e' f')->aQ β c c'-> ∃v',W.cell? ⟨b',o,none⟩=some v'/\aF β v v'/\ ∃c e f,W.heap[b']? =some (.cells c e f)/\o<c.size:=λc' e' f' r1 r2=>by
  obtain ⟨v',r3,r4⟩:=r2.get h3;exact ⟨v',cell_of r1 rfl r3,r4,c',e',f',r1,(qa1.1 r3).1⟩
 cases q3 with
 | cells e h=>exact key _ _ _ q2 h
 | lock e h=>exact key _ _ _ q2 h
def Tr{α:Type}[Rp α](F:bq)(β:Bj)(T:Nat->Prop)(σ τ:St)(af3:α->Prop):Prop:=
 ∀(cs cs':List Value) (x:α),af3 x->Rp.rp 0 σ cs x->cs'.length=cs.length->(∀(j:Nat) (v v':Value),cs[j]? =some v->cs'[j]? =some v'-> @aF F hU β v v')->Rp.rp 0 τ cs' x/\ ∀v'∈cs', @aF F hU (kU T) v' v'
theorem vT:Tr F β T σ τ (λ_:Int=>True):=by
 rintro cs cs' x - rfl hl h
 match cs',hl with
 | [v'],_=>
  have:=h 0 _ v' rfl rfl;cases this;exact ⟨rfl,λv hv=>by rw [qbc] at hv;subst hv;exact @aF.int F hU _ _ _⟩
theorem xZ{α α':Type}[Rp α][Rp α']{g:α->Prop}{g':α'->Prop}(h1:Tr F β T σ τ g)(h2:Tr F β T σ τ g'):Tr F β T σ τ (λx:α×α'=>g x.1/\g' x.2):=by
 rintro cs cs' x ⟨hg,JE⟩ ⟨c1,c2,rfl,r1,r2⟩ hl h;rw [qau] at hl;have e:cs'=cs'.take c1.length++cs'.drop c1.length:=(List.take_append_drop _ _).symm;obtain ⟨a1,a2⟩:=h1 c1 (cs'.take c1.length) x.1 hg r1 (by simp;omega) λj v v' q q'=>by
  have hj:j<c1.length:=(qbf.1 q).1;rw [qc6,if_pos hj] at q';exact h j v v' (by rw [qbg hj];exact q) q'
 obtain ⟨b1,b2⟩:=h2 c2 (cs'.drop c1.length) x.2 JE r2 (by simp;omega) λj v v' q q'=>by
  rw [List.getElem?_drop] at q';exact h (c1.length+j) v v' (by rw [qbu (by omega)];simpa using q) q'
 refine ⟨⟨_,_,e,a1,b1⟩,λv hv=> ?_⟩;rw [e] at hv;rcases qaj.1 hv with hv | hv
 ·exact a2 v hv
 ·exact b2 v hv
theorem Ik{α:Type}[Rp α]{g:α->Prop}(hw: @cz F K hU β σ.w W)(T4: ∀a b,β a b->Ij W b->T b)(mI:Wt F T W τ)(hg:Tr F β T σ τ g){v v':Value}{xs:List α}(h:RS 0 σ v xs)(hv: @aF F hU β v v')(hx: ∀x∈xs,g x):
  RS 0 τ v' xs/\(xs≠[]-> @aF F hU (kU T) v' v'):=by
 rcases h with ⟨⟨ad,c,rfl⟩,rfl⟩ | ⟨b,o,c,rfl,_,h2,h3,h4⟩
 ·refine ⟨.inl ⟨?_,rfl⟩,λh=>(h rfl).elim⟩;cases hv with
  | jc _ _=>exact ⟨_,_,rfl⟩
  | slice _ _ _=>exact ⟨_,_,rfl⟩
 ·by_cases hn:xs=[]
  ·subst hn;refine ⟨.inl ⟨?_,rfl⟩,λh=>(h rfl).elim⟩;cases hv with
   | slice _ _ _=>exact ⟨_,_,rfl⟩
  cases hv with
  | @slice _ a' _ _ ha=>
   obtain ⟨b',o',s'⟩:=a';obtain ⟨Vw,ha2,ha3⟩:=ha;simp only at Vw ha2 ha3;obtain rfl:o=o':=ha2.symm;subst ha3;have hp:=Rp.pos (α:=α);have hlen:0<xs.length:=List.length_pos_iff.2 hn;have row: ∀i,(hi:i<xs.length)-> ∀j,j<Rp.sz α-> ∃u,W.cell? ⟨b',o+i*Rp.sz α+j,none⟩=some u/\ ∃c e f,W.heap[b']? =some (.cells c e f)/\o+i*Rp.sz α+j<c.size:=λi hi j hj=>by
    obtain ⟨cs,r1,r2⟩:=h4 i hi;obtain ⟨u,q1,_,q2⟩:=MV hw Vw (r2 j (by rw [Rp.len r1];exact hj));exact ⟨u,q1,q2⟩
   obtain ⟨_,_,c0,e0,f0,JY,_⟩:=row 0 hlen 0 hp;have hT:T b':=T4 _ _ Vw ⟨_,_,_,JY⟩;have ZL:o+xs.length*Rp.sz α<=τ.eW b':=by
    rw [mI.eW _ _ _ _ JY];obtain ⟨_,_,c1,e1,f1,XZ,bJ⟩:=row (xs.length - 1) (by omega) (Rp.sz α - 1) (by omega);rw [JY] at XZ;cases XZ;have:xs.length*Rp.sz α=(xs.length - 1)*Rp.sz α+Rp.sz α:=by
     rw [←Nat.succ_mul];congr 1;omega
    omega
   refine ⟨.inr ⟨b',o,c,rfl,qa9 _,h2,ZL,λi hi=> ?_⟩,λ_=> @aF.slice F hU _ _ _ _ _ ⟨⟨rfl,hT⟩,rfl,rfl⟩⟩;obtain ⟨cs,r1,r2⟩:=h4 i hi;have hcl:=Rp.len r1
   classical
   have hex: ∀j:_root_.Fin cs.length, ∃u,W.cell? ⟨b',o+i*Rp.sz α+j.1,none⟩=some u/\ @aF F hU β cs[j] u:=λj=>by
    obtain ⟨u,q1,q2,_⟩:=MV hw Vw (r2 j.1 j.2);exact ⟨u,q1,q2⟩
   let cs':List Value:=List.ofFn λj=>(hex j).choose
   have om:cs'.length=cs.length:=by simp [cs']
   have yu: ∀(j:Nat) (hj:j<cs.length),cs'[j]? =some (hex ⟨j,hj⟩).choose:=λj hj=>by simp [cs',hj]
   obtain ⟨k1,k2⟩:=hg cs cs' xs[i] (hx _ (qai hi)) r1 om λj v u q q'=>by
    have hj:j<cs.length:=(qbf.1 q).1;rw [yu j hj] at q';cases q';have:=(hex ⟨j,hj⟩).choose_spec.2;rw [qb4 hj] at q;cases q;exact this
   refine ⟨cs',k1,λj hj=> ?_⟩;have XF:j<cs.length:=by rw [←om];exact hj
   have e1:=(hex ⟨j,XF⟩).choose_spec.1;have e2:cs'[j]=(hex ⟨j,XF⟩).choose:=qaa ((qb4 hj).symm.trans (yu j XF));show τ.w.cell? _=_;rw [mI.w,e2];exact uG F T hT e1 (by rw [←e2];exact k2 _ (qai hj))
theorem E0{α:Type}[Rp α]{g:α->Prop}(hw: @cz F K hU β σ.w W)(T4: ∀a b,β a b->Ij W b->T b)(mI:Wt F T W τ)(hg:Tr F β T σ τ g):Tr F β T σ τ (λxs:List α=>xs≠[]/\ ∀x∈xs,g x):=by
 rintro cs cs' xs ⟨hn,hx⟩ ⟨v,rfl,hr⟩ hl h
 match cs',hl with
 | [v'],_=>
  obtain ⟨h1,h2⟩:=Ik hw T4 mI hg hr (h 0 _ v' rfl rfl) hx;exact ⟨⟨v',rfl,h1⟩,λu hu=>by rw [qbc] at hu;subst hu;exact h2 hn⟩
theorem RI(F:bq)(T:Nat->Prop)(W:World): ∃τ:St,Wt F T W τ/\τ.dE:=by
 classical
 refine ⟨⟨Fw F T W,λb=>match W.heap[b]? with | some (.cells c _ _)=>c.size | _=>0,λb hb=> ?_,True⟩,⟨rfl,λb c e f h=> ?_⟩,trivial⟩
 ·have:W.heap.size<=b:=by rw [←rY F T (W:=W)];exact hb
  rw [qbb this]
 ·show (match W.heap[b]? with | some (.cells c _ _)=>c.size | _=>0)=_;rw [h]
end
end Go.Vc
namespace Go.Vc
open Go Go.Proofs Go.Vs
open Go.Cx (bq aR bs fx PF vu EY MP dM Vk cP fD Left TW cM Bj aQ cz Dw fw SO mR)
section
variable[bq][aR][bs]
variable{K:AR}{ay σ:St}{S0:BS}{A R L':List Ch}
omit [bq] [aR] [bs] in
theorem acw(hl:ay.dE){τ:Tape}{w:World}{σ':St}(e:σ'.w=TW w τ)(H:Hp S0 ay σ' L'): ∃iS:St,w=iS.w/\Hp S0 ay iS L':=by
 have h1:w.heap=σ'.w.heap:=by rw [e]
 have om:σ'.dE:=by rw [H.md.dE];exact hl
 have h2:w.os=σ'.w.os:=by rw [e]
 have h3:w.output=σ'.w.output:=by rw [e]
 refine ⟨⟨w,σ'.eW,λb hb=>σ'.ok b (by rw [←h1];exact hb),σ'.dE⟩,rfl,H.grow ?_⟩;exact ⟨h2, .inl om,h3, .inl om,rfl,⟨qav (by simp only [St.size,h1]),λb _=>by simp only [h1],λb=>qa3 _⟩,λb _ _=>by simp only [h1],λ_ _ _=>rfl⟩
omit [bq] [aR] [bs] in
theorem acx(hl:ay.dE)(τ:Tape)(H:Hp S0 ay σ L'): ∃iS:St,TW σ.w τ=iS.w/\iS.size=σ.size/\Hp S0 ay iS L':=by
 have om:σ.dE:=by rw [H.md.dE];exact hl
 refine ⟨⟨TW σ.w τ,σ.eW,σ.ok,σ.dE⟩,rfl,rfl,H.grow ?_⟩;exact ⟨rfl, .inl om,rfl, .inl om,rfl,⟨qa3 _,λb _=>rfl,λb=>qa3 _⟩,λb _ _=>rfl,λ_ _ _=>rfl⟩
def RC(post:Value->List Ch->Prop)(ay:St)(S0:BS)(R:List Ch)(v:Value)(w:World):Prop:= ∃σ' L',w=σ'.w/\post v L'/\Hp S0 ay σ' (L'++R)
theorem RJ{f:FuncId}{args:List Value}{post:Nat->Value->List Ch->Prop}(hc:bR K.L f args A post)(qx:bq.ok f)(nO:bq.qu f)(EW: ¬K.Xs f)(hl:ay.dE)(H:Hp S0 ay σ (A++R)){n:Nat}(hn:n<=ay.size)
  {β:Bj} {W:World} {S Ro:Nat->Prop} {Iv:World->Prop} {m:Bool} {x':Array Value} {c:Frame} {cs:List Frame} (hx:aQ β args.toArray x') (hw:cz β σ.w W) (hD:Dw σ.w) (hS: ∀b,S b↔SO β σ.w b) (hR: ∀b,fw β σ.w b->Ro b):
  dM K.C m Iv Ro (Vk K.L β σ.w Ro (RC (post n) ay S0 R) c cs) S (fD (Frame.enter K.C f x' .normal) (c::cs)) W:=by
 obtain ⟨fn,cd,g1,g2,g3,g4⟩:=K.HF.same f qx nO EW;have eR:cM K.L K.C β [Frame.enter K.L f args.toArray .normal] [Frame.enter K.C f x' .normal]:= .one (mR g1 g2 g3 g4 hx) rfl;refine MP K.HP K.HF (K.hX _) qx nO EW (EY K.HPs K.HFs ?_ (λτ _=> ?_) ⟨β,_,[],W,eR.self K.he,hw,hD⟩) hx hw hD hS hR
 ·rintro v w τ ⟨σ',L',q1,q2,q3⟩;obtain ⟨iS,r1,r2⟩:=acw hl q1.symm q3;exact ⟨iS,L',r1,q2,r2⟩
 ·obtain ⟨iS,r1,r2,r3⟩:=acx hl τ H;rw [r1];refine (hc.frame r3 (qac hn r3.size)).mono ?_;rintro _ w' ⟨v,σ',L',rfl,rfl,hp,H',_⟩;exact ⟨σ',L',rfl,hp,H'⟩
end
end Go.Vc
namespace Go.Cx
open Go Go.Conc
section
variable{P:Program}{m:Bool}{Iv:World->Prop}{Ro:Nat->Prop}{Stop:(Nat->Prop)->Goroutine->World->Prop}{b:Frame}{k:List Item}{cs:List Frame}{ops:Array Oper}{md:Region.Mode}
theorem RL{J:Nat->Array Bool->Act->(Nat->Prop)->World->Prop}(h0: ∀l a S W, ¬J 0 l a S W)(hr: ∀n l a S W,J n l a S W->Region.ready md ops l≠[])(hJ: ∀n l a S W W1,J n l a S W->Ry Iv (λb=>S b\/Ro b) W W1->J n l a S W1)(hS: ∀S g W W1,Stop S g W->Ry Iv (λb=>S b\/Ro b) W W1->Stop S g W1)
  (iA: ∀n l a S W i rest,Iv W->(n=0->rest=[])->J (n+1) l a S W->i∈Region.ready md ops l->dM P m Iv Ro (λS' g' W'=>Stop S' g' W'\/ ∃a',g'=G (b.at a' (.inRegion ops rest::k)) cs/\J n (l.setIfInBounds i true) a' S' W') S (G (b.at a (.inRegion ops (i::rest)::k)) cs) W):
  ∀(n t:Nat) (l:Array Bool) (a:Act) (S:Nat->Prop) (W:World),J n l a S W->dM P m Iv Ro Stop S (G (b.at a (.inRegion ops (Region.linearise.go md ops n t l [])::k)) cs) W:=by
 intro n
 induction n with
 | zero=>intro t l a S W h;exact (h0 _ _ _ _ h).elim
 | succ n ih=>
  intro t l a S W hj;refine dM.now λW1 oU=> ?_;have hJ1:=hJ _ _ _ _ _ _ hj oU;simp only [Region.linearise.go];change dM P m Iv Ro Stop S (G (b.at a (.inRegion ops (match (Region.ready md ops l)[t % (Region.ready md ops l).length]? with
   | some i=>Region.linearise.go md ops n (t / (Region.ready md ops l).length) (l.setIfInBounds i true) [i]
   | none=>[].reverse)::k)) cs) W1
  cases hi:(Region.ready md ops l)[t % (Region.ready md ops l).length]? with
  | none=>
   exfalso;have iH:=hr _ _ _ _ _ hj;have AB:0<(Region.ready md ops l).length:=List.length_pos_iff.2 iH;have:=Nat.mod_lt t AB;rw [List.getElem?_eq_none_iff] at hi;omega
  | some i=>
   simp only;rw [linearise_go_acc,List.reverse_singleton,List.singleton_append];refine (iA n l a S W1 i _ oU.iv (λe=>by subst e;rfl) hJ1 (List.mem_of_getElem? hi)).bind λS' g' W' hI hs=> ?_;rcases hs with hs | ⟨a',rfl,NJ⟩
   ·exact dM.stop λw1 h=>hS _ _ _ _ hs h
   ·exact ih _ _ _ _ _ NJ
theorem ya{S:Nat->Prop}{a:Act}{W:World}{i:Nat}{rest:List Nat}{o:Oper}{v:Value}{J:(Nat->Prop)->Act->World->Prop}(ho:ops[i]? =some o)(hw:Region.wanted o (yielded ops a.tmps)=true)(hk:b.kind≠ .early)
  (h: ∀W1,Ry Iv (λb=>S b\/Ro b) W W1->(execOp a.eval o).run P W1= .ok (.value v) W1/\(∀e∈(execOp a.eval o).events P W1 #[],e.sync=false/\e.write=false/\ ∃ad,e.loc= .cell ad/\Ro ad.block)/\ ∀W2,Ry Iv (λb=>S b\/Ro b) W1 W2->J S (a.put o.dst v) W2):
  dM P m Iv Ro (λS' g' W'=> ∃a',g'=G (b.at a' (.inRegion ops rest::k)) cs/\J S' a' W') S (G (b.at a (.inRegion ops (i::rest)::k)) cs) W:=by
 refine dM.step rfl λW1 oU=> ?_;obtain ⟨h1,h2,h3⟩:=h W1 oU;have hS:nw S W1 W1=S:=by
  funext x;apply propext;exact ⟨λq=>q.elim id λq=>by omega, .inl⟩
 refine ⟨_,W1,_,stepG_value ho hw hk h1,⟨rfl,rfl,rfl,qa3 _,λ_ _ _=>rfl,λe he=> ?_⟩, ?_⟩
 ·obtain ⟨q1,q2,ad,q3,q4⟩:=h2 e (mem_listed he);exact .inl ⟨q1, .inl ⟨ad,q3, .inr ⟨q4,q2⟩⟩⟩
 ·rw [hS];exact dM.stop λW2 ig=>⟨_,rfl,h3 W2 ig⟩
theorem jf{P:Program}{ev:Operand->Value}{d:Option Nat}{T ty:TypeId}{x:Operand}{pos:String}{af:Array Edge}{gd:Option (Nat×Bool)}{bl o:Nat}{D:TypeDesc}(hT:P.underlying T=some D)(hD:(match D with | .struct _=>false | .array _ _=>false | _=>true)=true)
  (hx:ev x= .pointer (some ⟨bl,o,none⟩)) {w:World} {v:Value} (hc:w.cell? ⟨bl,o,none⟩=some v):(execOp ev ⟨d, .load T x,ty,pos,af,gd⟩).events P w #[]= #[⟨.cell ⟨bl,o,none⟩,false,false⟩]:=by
 have h1:(isAgg T).run P w= .ok false w:=by
  simp only [isAgg,underlying,Sem.run_bind,run_program,Result.andThen_ok,hT,Sem.run_pure];cases D <;> simp_all
 have h2:(isAgg T).events P w #[]= #[]:=by
  simp [isAgg,underlying,hT];cases D <;> rfl
 simp [execOp,hx,Instr.loadAt,Instr.sureAddr,loadVar,h1,h2,hc]
end
end Go.Cx
namespace Go.Cx
open Go Go.Conc
section
variable{P:Program}{m:Bool}{Iv:World->Prop}{Ro:Nat->Prop}{Stop:(Nat->Prop)->Goroutine->World->Prop}{b:Frame}{k:List Item}{cs:List Frame}{ops:Array Oper}{S:Nat->Prop}{a:Act}{W:World}{i:Nat}{rest:List Nat}{o:Oper}
theorem pQ(S:Nat->Prop)(W:World):nw S W W=S:=by
 funext x;apply propext;exact ⟨λq=>q.elim id λq=>by omega, .inl⟩
theorem aN{g g':Goroutine}(hs:g.status= .running)(h: ∀W1:World,stepG P m g W1= .go g' W1)(hk:dM P m Iv Ro Stop S g' W):dM P m Iv Ro Stop S g W:=by
 refine dM.step hs λW1 oU=>⟨g',W1, #[],h W1, .still _ _ _, ?_⟩;rw [pQ];exact hk.rely oU
theorem Vx{g:Goroutine}{g':World->Goroutine}{W':World->World}(hs:g.status= .running)(h: ∀W1:World,stepG P m g W1= .go (g' W1) (W' W1))(hW: ∀W1,(W' W1).heap=W1.heap/\(W' W1).tape=W1.tape/\(W' W1).os=W1.os/\(W' W1).output=W1.output)
  (hk: ∀W1,Ry Iv (λb=>S b\/Ro b) W W1->dM P m Iv Ro Stop S (g' W1) (W' W1)):dM P m Iv Ro Stop S g W:=by
 refine dM.step hs λW1 oU=>⟨g' W1,W' W1, #[],h W1, ?_, ?_⟩
 ·obtain ⟨q1,q2,q3,q4⟩:=hW W1;exact ⟨q2,q3,q4,by rw [q1];exact qa3 _,λb _ _=>by rw [q1],λe he=>by simp at he⟩
 ·have:nw S W1 (W' W1)=S:=by
   funext x;apply propext;refine ⟨λq=>q.elim id λq=> ?_, .inl⟩;rw [(hW W1).1] at q;omega
  rw [this];exact hk W1 oU
theorem lx{f:FuncId}{fn:Func}{args:Array Operand}{ZM:Array TypeId}(ho:ops[i]? =some o)(hw:Region.wanted o (yielded ops a.tmps)=true)(hk:b.kind≠ .early)(cL:o.op= .call { callee:= .value (.func f),args,argTypes:=ZM })
  (hf:P.funcs[f]? =some fn) (wT:(fn.name== "runtime.NumGoroutine")=false) (hb:fn.body.isNone=false) (h:dM P m Iv Ro Stop S (G (Frame.enter P f (args.map a.eval) .normal) (b.at a (.inRegion ops (i::rest)::k)::cs)) W):
  dM P m Iv Ro Stop S (G (b.at a (.inRegion ops (i::rest)::k)) cs) W:=by
 refine dM.step rfl λW1 oU=>⟨_,W1,_,stepG_enter ho hw hk (run_call_body cL hf wT hb),⟨rfl,rfl,rfl,qa3 _,λ_ _ _=>rfl,λe he=> ?_⟩, ?_⟩
 ·have:=mem_listed he;rw [events_call_body cL hf wT hb] at this;simp at this
 ·rw [pQ];exact h.rely oU
def Sd(Ro:Nat->Prop)(W0:World)(S:Nat->Prop)(W:World):Prop:= ∀b,Ro b-> ¬S b/\b<W.heap.size/\W.heap[b]? =W0.heap[b]?
theorem Sd.rely{W0 W1:World}(hd:Sd Ro W0 S W)(hr:Ry Iv (λb=>S b\/Ro b) W W1):Sd Ro W0 S W1:=λb hb=>
 let ⟨q1,q2,q3⟩:=hd b hb
 ⟨q1,qa4 q2 hr.size,(hr.blk b (.inr hb)).trans q3⟩
theorem dM.keep{g:Goroutine}{W0:World}(h:dM P m Iv Ro Stop S g W)(hd:Sd Ro W0 S W):
  dM P m Iv Ro (λS' g' W'=>Stop S' g' W'/\Sd Ro W0 S' W') S g W:=by
 obtain ⟨r,h⟩:=h
 induction r generalizing S g W with
 | leaf=>exact dM.stop λw₁ hw=>⟨h w₁ hw,hd.rely hw⟩
 | node f ih=>
  refine dM.mk λw₁ hw=> ?_;have hd1:=hd.rely hw;rcases h w₁ hw with hs | ⟨hs,g',w',es,h1,h2,h3⟩
  ·exact .inl ⟨hs,hd1⟩
  ·refine .inr ⟨hs,g',w',es,h1,h2,ih w₁ (λb hb=> ?_) h3⟩;obtain ⟨q1,q2,q3⟩:=hd1 b hb;exact ⟨λq=>q.elim q1 λq=>by omega,qa4 q2 h2.size,(h2.blk b q2 q1).trans q3⟩
theorem dM.mono{H9:(Nat->Prop)->Goroutine->World->Prop}{g:Goroutine}(h:dM P m Iv Ro Stop S g W)(hs: ∀S g w,Stop S g w->H9 S g w):dM P m Iv Ro H9 S g W:=by
 obtain ⟨r,h⟩:=h;refine ⟨r, ?_⟩
 induction r generalizing S g W with
 | leaf=>exact λw₁ hw=>hs _ _ _ (h w₁ hw)
 | node f ih=>exact λw₁ hw=>(h w₁ hw).imp (hs _ _ _) λ⟨q,g',w',es,h1,h2,h3⟩=>⟨q,g',w',es,h1,h2,ih w₁ h3⟩
end
end Go.Cx
namespace Go.Cx
open Go Go.Conc
section
variable{P:Program}{m:Bool}{Iv:World->Prop}{Ro:Nat->Prop}{Stop:(Nat->Prop)->Goroutine->World->Prop}{b:Frame}{k:List Item}{cs:List Frame}{ops:Array Oper}{S:Nat->Prop}{a:Act}{W:World}{i:Nat}{rest:List Nat}{o:Oper}
def iL(P:Program):Frame:={ (default:Frame) with fn:=P.funcs.size,defers:=[],mode:= .panicking [goexitEntry] }
theorem Oy{f:FuncId}{fn:Func}{cap args:Array Value}(hf:P.funcs[f]? =some fn)(wT:(fn.name== "runtime.NumGoroutine")=false)(hb:fn.body.isNone=false)(w:World):
  stepG P false (born P { target:= .fn (.func f) cap,args:=args }) w= .go (G (Frame.enter P f (args++cap) .deferred) [iL P]) w:=by
 have h1: ¬fn.name= "runtime.NumGoroutine":=by simpa using wT
 have h2: ¬fn.body=none:=by cases hx:fn.body <;> simp_all
 simp [born,stepG,unwind,callDeferred,invoke,callFunc,hf,h1,h2,GStep.after,G,iL,seen_none]
theorem RM{f:FuncId}{fn:Func}{x:Operand}{cap:Array Value}{ZM:Array TypeId}(ho:ops[i]? =some o)(hw:Region.wanted o (yielded ops a.tmps)=true)(hk:b.kind≠ .early)(cL:o.op= .call { callee:= .value x,args:= #[],argTypes:=ZM })(hx:a.eval x= .func (.func f) #[] cap)
  (hf:P.funcs[f]? =some fn) (wT:(fn.name== "runtime.NumGoroutine")=false) (hb:fn.body.isNone=false) (h:dM P m Iv Ro Stop S (G (Frame.enter P f cap .normal) (b.at a (.inRegion ops (i::rest)::k)::cs)) W):
  dM P m Iv Ro Stop S (G (b.at a (.inRegion ops (i::rest)::k)) cs) W:=by
 have h1: ¬fn.name= "runtime.NumGoroutine":=by simpa using wT
 have h2: ¬fn.body=none:=by cases hx:fn.body <;> simp_all
 have hr: ∀w,(execOp a.eval o).run P w= .ok (.enter f cap) w:=λw=>by
  unfold execOp;simp [cL,resolve,Deferred.ofValue,invoke,callFunc,hx,hf,h1,h2]
 have he: ∀w,(execOp a.eval o).events P w #[]= #[]:=λw=>by
  unfold execOp;simp [cL,resolve,Deferred.ofValue,invoke,callFunc,hx,hf,h1,h2]
 refine dM.step rfl λW1 oU=>⟨_,W1,_,stepG_enter ho hw hk (hr W1),⟨rfl,rfl,rfl,qa3 _,λ_ _ _=>rfl,λe yT=> ?_⟩, ?_⟩
 ·have:=mem_listed yT;rw [he] at this;simp at this
 ·rw [pQ];exact h.rely oU
theorem RN{f:FuncId}{x:Operand}{cap:Array Value}{ZM:Array TypeId}(ho:ops[i]? =some o)(hw:Region.wanted o (yielded ops a.tmps)=true)(hk:b.kind≠ .early)(cL:o.op= .defer { callee:= .value x,args:= #[],argTypes:=ZM })(hx:a.eval x= .func (.func f) #[] cap)
  (h:dM P m Iv Ro Stop S (G (b.at (Act.put ⟨a.tmps,{ target:= .fn (.func f) cap,args:= #[] }::a.defers⟩ o.dst undef) (.inRegion ops rest::k)) cs) W):
  dM P m Iv Ro Stop S (G (b.at a (.inRegion ops (i::rest)::k)) cs) W:=by
 refine aN rfl (λW1=> ?_) h;have hr:(execOp a.eval o).run P W1= .ok (.defer { target:= .fn (.func f) cap,args:= #[] }) W1:=by
  unfold execOp;simp [cL,resolve,Deferred.ofValue,hx]
 have he:(execOp a.eval o).events P W1 #[]= #[]:=by
  unfold execOp;simp [cL,resolve,Deferred.ofValue,hx]
 have E1:(b.at ⟨a.tmps,{ target:= .fn (.func f) cap,args:= #[] }::a.defers⟩ (.inRegion ops (i::rest)::k)).finish undef=b.at (Act.put ⟨a.tmps,{ target:= .fn (.func f) cap,args:= #[] }::a.defers⟩ o.dst undef) (.inRegion ops rest::k):=by rw [Frame.finish_at,ho];rfl
 have oC:(b.kind==CallKind.early)=false:=by simpa using hk
 rw [stepG_oper ho hw, ←E1];simp [stepG.apply,hr,he,G,Frame.at,oC,GStep.after,seen_none]
theorem rq{v:Value}(ho:ops[i]? =some o)(hw:Region.wanted o (yielded ops a.tmps)=true)(hk:b.kind≠ .early)(hr: ∀w:World,(execOp a.eval o).run P w= .ok (.value v) w)(he: ∀w:World,(execOp a.eval o).events P w #[]= #[])
  (h:dM P m Iv Ro Stop S (G (b.at (a.put o.dst v) (.inRegion ops rest::k)) cs) W):dM P m Iv Ro Stop S (G (b.at a (.inRegion ops (i::rest)::k)) cs) W:=by
 refine dM.step rfl λW1 oU=>⟨_,W1,_,stepG_value ho hw hk (hr W1),⟨rfl,rfl,rfl,qa3 _,λ_ _ _=>rfl,λe yT=> ?_⟩, ?_⟩
 ·have:=mem_listed yT;rw [he] at this;simp at this
 ·rw [pQ];exact h.rely oU
end
end Go.Cx
namespace Go.Cx
open Go Go.Conc
section
variable{P:Program}{m:Bool}{Iv:World->Prop}{Ro:Nat->Prop}{Stop:(Nat->Prop)->Goroutine->World->Prop}{b:Frame}{k:List Item}{cs:List Frame}{ops:Array Oper}{S:Nat->Prop}{a:Act}{W:World}{i:Nat}{rest:List Nat}{o:Oper}
theorem KV{f:FuncId}{fn:Func}{cap:Array Value}{todo:List Item}{ds:List Deferred}(hd:a.defers={ target:= .fn (.func f) cap,args:= #[] }::ds)(hf:P.funcs[f]? =some fn)(wT:(fn.name== "runtime.NumGoroutine")=false)(hb:fn.body.isNone=false)(w:World):
  stepG P m (G { b.at a todo with mode:= .returning } cs) w= .go (G (Frame.enter P f cap .deferred) ({ b.at ⟨a.tmps,ds⟩ todo with mode:= .returning }::cs)) w:=by
 have h1: ¬fn.name= "runtime.NumGoroutine":=by simpa using wT
 have h2: ¬fn.body=none:=by cases hx:fn.body <;> simp_all
 simp [G,stepG,unwind,callDeferred,Frame.at,hd,invoke,callFunc,hf,h1,h2,GStep.after,seen_none]
theorem E2{c:Frame}(ho:ops[i]? =some o)(hw:Region.wanted o (yielded ops a.tmps)=true)(hk:b.kind= .deferred){ZM:Array TypeId}(cL:o.op= .call { callee:= .builtin .recover,args:= #[],argTypes:=ZM })(hc:c.mode= .returning)(w:World):
  stepG P m (G (b.at a (.inRegion ops (i::rest)::k)) (c::cs)) w= .go (G (b.at (a.put o.dst .nilIface) (.inRegion ops rest::k)) (c::cs)) w:=by
 have hr:(execOp a.eval o).run P w= .ok .recover w:=by
  unfold execOp;simp [cL,resolve,invoke,builtin]
 have he:(execOp a.eval o).events P w #[]= #[]:=by
  unfold execOp;simp [cL,resolve,invoke,builtin]
 have E1:(b.at a (.inRegion ops (i::rest)::k)).finish .nilIface=b.at (a.put o.dst .nilIface) (.inRegion ops rest::k):=by rw [Frame.finish_at,ho];rfl
 rw [stepG_oper ho hw, ←E1];have ht:tryRecover (b.at a (.inRegion ops (i::rest)::k)) (c::cs)=none:=by
  simp [tryRecover,Frame.at,hk,hc]
 simp [stepG.apply,hr,he,G,Frame.at,hk,GStep.after,seen_none] at ht ⊢;rw [ht]
end
end Go.Cx
