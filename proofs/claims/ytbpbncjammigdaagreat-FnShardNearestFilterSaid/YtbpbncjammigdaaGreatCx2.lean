/- One program beside another, one goroutine among others. -/
import Derived.Test.YtbpbncjammigdaaGreatAl
import Derived.Test.YtbpbncjammigdaaGreatCx1
import Derived.Calls
import Derived.Conc.CrowdRun
import Derived.Test.YtbpbncjammigdaaGreatSrt1
import Derived.Test.YtbpbncjammigdaaGreatEng1
import Derived.Conc.Own5
import Derived.Test.YtbpbncjammigdaaGreatEng2
import Derived.Conc.Fork
import Derived.Conc.CrowdStepC
import Derived.Listen
import Derived.RunNT
import Derived.Lone
import Derived.Orders
import Derived.Conc.Events
import Derived.Conc.Own4
import Derived.Conc.Own2
import Derived.Conc.DeferLaws
set_option linter.unusedVariables false
set_option linter.unusedSimpArgs false
set_option maxHeartbeats 4000000
namespace Go.Cx
open Go
variable[bg][aM][bk]
def B8(w w1:World)(g1:Goroutine)(T:World->GStep):Prop:=
 w.drawn<=w1.drawn/\w1.tape=w.tape/\(Dw w->Dw w1)/\ ∀τ:Tape,(∀j q,j<w1.drawn->τ j q=w.tape j q)-> ∃es,T (TW w τ)= .go g1 (TW w1 τ) es
section
variable{L C:Program}{Xs:FuncId->Prop}{β:Bj}{t:Frame}{r:List Frame}{w W w1:World}{g1:Goroutine}
theorem xU{α:Type}{RA:Bj->α->α->Prop}{s s':Sem α}(hs:aD L C RA β s s')(hw:cH β w W){f:FuncId}{F:Result α->GStep}{es:Array Event}
  (h:GStep.after (seen L f (s.runT L w #[]).2) (F (s.runT L w #[]).1)= .go g1 w1 es) (hh: ∀q w2 tt,F (.halt q w2)= .go g1 w1 tt->False)
  (ur: ∀cq v v' w2 W2 tt,RA cq v v'->cH cq w2 W2->Le β cq->F (.ok v w2)= .go g1 w1 tt->B8 w2 w1 g1 (λw=>F (.ok v w))):
  B8 w w1 g1 (λw=>GStep.after (seen L f (s.runT L w #[]).2) (F (s.runT L w #[]).1)):=by
 obtain ⟨tt,h⟩:=uT h;rw [Sem.runT_fst] at h;cases bU:s.run L w with
 | halt q w2=>rw [bU] at h;exact (hh _ _ _ h).elim
 | ok v w2=>
  rw [bU] at h;obtain ⟨⟨v',W2,cq,e1,e2,e3⟩,e4,e5,ed,e6⟩:=hs.tape hw bU;obtain ⟨l1,l2,ld,l3⟩:=ur cq v v' w2 W2 tt e1 e2 e3 h;refine ⟨qaa e4 l1,l2.trans e5,λh=>ld (ed h),λτ pG=> ?_⟩;have h1:=e6 τ λj q _ hj=>pG j q (qa3 hj l1);obtain ⟨es3,h3⟩:=l3 τ λj q hj=>(pG j q hj).trans (by rw [e5]);simp only at h3 ⊢;rw [Sem.runT_fst,h1,h3];exact ⟨_,rfl⟩
omit [bg] [aM] [bk] in
theorem kI{T:World->GStep}{g:Goroutine}(hT: ∀w,T w= .go g w){es:Array Event}(h:T w= .go g1 w1 es):B8 w w1 g1 T:=by
 rw [hT] at h;cases h;exact ⟨qa2 _,rfl,id,λτ _=>⟨_,hT _⟩⟩
omit [aM] in
theorem ME{a b:Frame}{k k':List Frame}{m:Bool}(gr:cM L C β (a::k) (b::k')){v:Value}{es:Array Event}
  (h:doReturn L m a (k++t::r) none v w= .go g1 w1 es):B8 w w1 g1 (doReturn L m a (k++t::r) none v):=by
 have ha:=gr.top;cases gr with
 | one _ hr=>exact kI (g:=ig (t.finish v) r) (λw=>by unfold doReturn;rw [ha.kind.1];rfl) h
 | cons _ hk=>
  cases hk with
  | @one a2 b2 h2 hr=>exact kI (g:=ig (a2.finish v) (t::r)) (λw=>by unfold doReturn;rw [ha.kind.1];rfl) h
  | @cons a2 b2 k2 k2' h2 hk=>exact kI (g:=ig (a2.finish v) (k2++t::r)) (λw=>by unfold doReturn;rw [ha.kind.1];rfl) h
theorem KJ(HF:PF L C Xs){a b:Frame}{k k':List Frame}{m:Bool}(gr:cM L C β (a::k) (b::k')){j:Option Code}(hj: ∀c,j=some c->cN L C c)(hw:cH β w W){es:Array Event}
  (h:Lv L m a (k++t::r) w j= .go g1 w1 es):B8 w w1 g1 (λw=>Lv L m a (k++t::r) w j):=by
 have ha:=gr.top;obtain ⟨fn,tm,todo,df,md,kd,ro⟩:=a;obtain ⟨kl,Ey,uS,Kb,KE,HB,Ez⟩:=b;have wY:=ha.round;simp only at wY;unfold Lv at h ⊢;cases wY with
 | none=>
  simp only at h ⊢;split at h
  all_goals first
   | exact kI (λw=>rfl) h
   | (simp at h)
 | some hl=>
  simp only at h ⊢;refine xU (C:=C) (F:=λq=>match q with
   | .ok v w=>doReturn L m _ (k++t::r) none v w
   | .halt _ w=> .ended (.stuck "range over a function: no such loop" _) w) (wX hl j λc hc=>(HF.code c).2 (hj c hc)) hw h ?_ ?_
  ·intro q w2 tt h;cases h
  ·intro cq v v' w2 W2 tt hv uI hT h;exact ME (gr.mono hT) h
theorem zq(HF:PF L C Xs){a b:Frame}{k k':List Frame}(gr:cM L C β (a::k) (b::k')){s s':Sem Next}(hs:aD L C mZ β s s')(hw:cH β w W){es:Array Event}
  (h:stepG.apply L true a (k++t::r) none s w= .go g1 w1 es) (hp: ¬dm g1):B8 w w1 g1 (stepG.apply L true a (k++t::r) none s):=by
 have ha:=gr.top;have HY:(a.kind== .early)=false:=by rw [ha.kind.1];rfl
 have kA:stepG.apply.match_1 (λ_=>CallKind) a.todo (λd resume saved tail=>CallKind.wrapped) (λx=>CallKind.normal)= .normal:=by
  have:=ha.todo;generalize a.todo=ta at this;generalize b.todo=tb at this;cases this with
  | nil=>rfl
  | cons hi _=>cases hi <;> rfl
 have key: ∀w2:World, ∀v,s.run L w= .ok v w2->B8 w w1 g1 (stepG.apply L true a (k++t::r) none s):=by
  intro w2 n bU;obtain ⟨⟨v',W2,cq,e1,e2,e3⟩,e4,e5,ed,e6⟩:=hs.tape hw bU;have hl: ∀(g:Goroutine),(∀w w2:World,s.run L w= .ok n w2-> ∃es,stepG.apply L true a (k++t::r) none s w= .go g w2 es)->B8 w w1 g1 (stepG.apply L true a (k++t::r) none s):=by
   intro g hg;obtain ⟨es3,h3⟩:=hg w w2 bU;rw [h3] at h;cases h;exact ⟨e4,e5,ed,λτ pG=>hg _ _ (e6 τ λj q _=>pG j q)⟩
  have Mx: ∀w w2:World,s.run L w= .ok n w2-> ∃es,s.runT L w #[]=(.ok n w2,es):=by
   intro w w2 h;exact ⟨(s.runT L w #[]).2,by rw [←h, ←Sem.runT_fst L s w #[]]⟩
  cases e1 with
  | value hv=>
   rename_i v _;refine hl (ig (a.finish v) (k++t::r)) λw w2 hr=> ?_;obtain ⟨es,h⟩:=Mx w w2 hr;unfold stepG.apply;simp only [if_true,h,GStep.after];exact ⟨_,rfl⟩
  | skip=>
   refine hl (ig (a.finish undef) (k++t::r)) λw w2 hr=> ?_;obtain ⟨es,h⟩:=Mx w w2 hr;unfold stepG.apply;simp only [if_true,h,GStep.after];exact ⟨_,rfl⟩
  | @enter f x x' ur qX hx=>
   refine hl (ig (Frame.enter L f x .normal) (a::(k++t::r))) λw w2 hr=> ?_;obtain ⟨es,h⟩:=Mx w w2 hr;unfold stepG.apply;simp only [if_true,h,GStep.after,kA];exact ⟨_,rfl⟩
  | @round l l' f x x' ca cb hca ZJ rD hx=>
   refine hl (ig (Frame.round l f x ca cb .normal) (a::(k++t::r))) λw w2 hr=> ?_;obtain ⟨es,h⟩:=Mx w w2 hr;unfold stepG.apply;simp only [if_true,h,GStep.after];exact ⟨_,rfl⟩
 cases bU:s.run L w with
 | ok n w2=>exact key w2 n bU
 | halt hh w2=>
  exfalso;unfold stepG.apply at h;have hR:s.runT L w #[]=(.halt hh w2,(s.runT L w #[]).2):=by rw [←bU, ←Sem.runT_fst L s w #[]]
  simp only [if_true] at h;rw [hR] at h;obtain ⟨tt,h⟩:=uT h;have Ax:=(hs.BV hw bU).1;cases hh with
  | panic v=>cases h;exact hp (pV _ _)
  | stuck s=>cases h
  | unsupported u=>
   cases u with
   | initOrder g=>exact Ax g rfl
   | _=>cases h
  | _=>exact Ax.elim
theorem QH(HP:gV L C)(HF:PF L C Xs){a b:Frame}{k k':List Frame}{m:Bool}(gr:cM L C β (a::k) (b::k'))(hm:a.mode= .run)(hw:cH β w W){es:Array Event}
  (h:stepG.exec L m true a (k++t::r) none w= .go g1 w1 es) (hp: ¬dm g1):B8 w w1 g1 (stepG.exec L m true a (k++t::r) none):=by
 have ha:=gr.top;obtain ⟨fn,tm,todo,df,md,kd,ro⟩:=a;obtain ⟨kl,Ey,uS,Kb,KE,HB,Ez⟩:=b;have hT:=ha.todo;have za:=ha.fn;simp only at hT hm za;subst za;subst hm;cases hT with
 | nil=>
  have e: ∀w,stepG.exec L m true _ (k++t::r) none w=Lv L m _ (k++t::r) w none:=λw=>FK _ _ { fn:=kl,tmps:=tm,todo:=[],defers:=df,mode:= .run,kind:=kd,roundOf:=ro } _ _ rfl;rw [e] at h;rw [funext e];exact KJ HF gr (λc h=>by cases h) hw h
 | @cons i_ i_' K K' hi hk=>
  cases hi with
  | inBlock id=>exact kI (λw=>rfl) h
  | inLoop hc=>exact kI (λw=>rfl) h
  | nb hl=>cases h
  | beginRound=>
   have wY:=ha.round;simp only at wY;refine zq (C:=C) (s':=do Ez.elim (stuck "beginRound: no round") Instr.beginRound;pure .skip) HF gr ?_ hw h hp;cases wY with
   | none=>exact (aT.eM aT.halt).rel
   | some hl=>exact (tu hl).bd λjc _ _ hl _=> .pure .skip
  | @mg l l' hl=>
   refine xU (C:=C) (F:=λq=>match q with
     | .ok jump w=> .go { frame:={ fn:=kl,tmps:=tm,todo:=(jump.map Item.code).toList++_,defers:=df,mode:= .run,kind:=kd,roundOf:=ro },callers:=k++t::r,status:= .running,dying:=none } w
     | .halt (.panic v) w=> .go { frame:=Frame.raise _ [{ v,recovered:=false }],callers:=k++t::r,status:= .running,dying:=none } w
     | .halt _ w=> .ended (.stuck "range over a function: no such loop" _) w) (zp hl) hw h ?_ ?_
   ·intro q w2 tt h;cases q with
    | panic v=>cases h;exact hp (pV _ _)
    | _=>cases h
   ·intro cq v v' w2 W2 tt hv uI hT h;exact kI (λw=>rfl) h
  | @inRegion ops td ho=>
   cases td with
   | nil=>exact kI (λw=>rfl) h
   | cons i td=>
    simp only [stepG.exec] at h;split at h
    ·rename_i hq;cases cU:ops[i]? with
     | none=>rw [cU] at hq;cases hq
     | some o=>
      have ur:=ho o (qb5 cU);have hd: ∀c,o.op≠ .defer c:=λc q=>by rw [q] at ur;exact ur
      have e: ∀w,stepG.oper L true _ (k++t::r) none w=stepG.apply L true _ (k++t::r) none (execOp _ o) w:=λw=>Bv L { fn:=kl,tmps:=tm,todo:= .inRegion ops (i::td)::K,defers:=df,mode:= .run,kind:=kd,roundOf:=ro } (k++t::r) w (by simp only [Frame.oper?];exact cU) hd;rw [e] at h;have e2: ∀w,stepG.exec L m true { fn:=kl,tmps:=tm,todo:= .inRegion ops (i::td)::K,defers:=df,mode:= .run,kind:=kd,roundOf:=ro } (k++t::r) none w=stepG.apply L true { fn:=kl,tmps:=tm,todo:= .inRegion ops (i::td)::K,defers:=df,mode:= .run,kind:=kd,roundOf:=ro } (k++t::r) none (execOp (Frame.eval { fn:=kl,tmps:=tm,todo:= .inRegion ops (i::td)::K,defers:=df,mode:= .run,kind:=kd,roundOf:=ro }) o) w:=by
       intro w;simp only [stepG.exec];rw [if_pos hq];exact e w
      rw [funext e2];exact zq HF gr (KD HP ha.eval o ur) hw h hp
    ·rename_i hq;refine kI (g:=ig (Frame.finish { fn:=kl,tmps:=tm,todo:= .inRegion ops (i::td)::K,defers:=df,mode:= .run,kind:=kd,roundOf:=ro } undef) (k++t::r)) (λw=> ?_) (w:=w) (es:=es) ?_
     ·simp only [stepG.exec];rw [if_neg hq]
     ·simp only [stepG.exec];rw [if_neg hq];exact h
  | code hc=>
   cases hc with
   | skip=>exact kI (λw=>rfl) h
   | label l=>exact kI (λw=>rfl) h
   | ret=>
    have e: ∀w,stepG.exec L m true _ (k++t::r) none w=Lv L m _ (k++t::r) w (some .ret):=λw=>FL _ _ { fn:=kl,tmps:=tm,todo:= .code .ret::K,defers:=df,mode:= .run,kind:=kd,roundOf:=ro } K _ _ rfl;rw [e] at h;rw [funext e];exact KJ HF gr (λc h=>by cases h;exact .ret) hw h
   | seq h1 h2=>exact kI (λw=>rfl) h
   | block id h1=>exact kI (λw=>rfl) h
   | loop h1=>exact kI (λw=>rfl) h
   | exit id=>
    rcases B6 id hk with ⟨e1,e2⟩ | ⟨q,q',e1,e2,hq⟩
    ·have e: ∀w,stepG.exec L m true _ (k++t::r) none w=Lv L m _ (k++t::r) w (some (.exit id)):=λw=>Bu _ _ { fn:=kl,tmps:=tm,todo:= .code (.exit id)::K,defers:=df,mode:= .run,kind:=kd,roundOf:=ro } id K _ _ rfl e1;rw [e] at h;rw [funext e];exact KJ HF gr (λc h=>by cases h;exact .exit id) hw h
    ·refine kI (g:=ig { fn:=kl,tmps:=tm,todo:=q,defers:=df,mode:= .run,kind:=kd,roundOf:=ro } (k++t::r)) (λw=> ?_) h;simp only [stepG.exec,e1,Option.elim_some]
   | @cond c x y hc h1 h2=>
    have he:=ha.eval c hc;simp only [stepG.exec] at h;have e2: ∀w,stepG.exec L m true { fn:=kl,tmps:=tm,todo:= .code (.cond c x y)::K,defers:=df,mode:= .run,kind:=kd,roundOf:=ro } (k++t::r) none w=(match Frame.eval { fn:=kl,tmps:=tm,todo:= .code (.cond c x y)::K,defers:=df,mode:= .run,kind:=kd,roundOf:=ro } c with
      | .bool b=> .go { frame:={ fn:=kl,tmps:=tm,todo:= .code (if b then x else y)::K,defers:=df,mode:= .run,kind:=kd,roundOf:=ro },callers:=k++t::r,status:= .running,dying:=none } w
      | _=> .ended (.stuck "cond: bool expected" (Frame.pos L { fn:=kl,tmps:=tm,todo:= .code (.cond c x y)::K,defers:=df,mode:= .run,kind:=kd,roundOf:=ro })) w):=λw=>rfl
    rw [funext e2];revert h;generalize Frame.eval _ c=u at he;generalize Frame.eval _ c=u' at he;intro h;cases he with
    | bool q=>exact kI (λw=>rfl) h
    | _=>cases h
   | @region id ops draw ho=>
    cases draw with
    | false=>exact kI (λw=>rfl) h
    | true=>
     have hs:aD L C (gG λ_=>True) β (choose (.order kl id)) (choose (.order kl id)):= .choose λn=> .pure ⟨rfl,trivial⟩;have e2: ∀(w w2:World) n,(choose (.order kl id)).run L w= .ok n w2->stepG.exec L m true { fn:=kl,tmps:=tm,todo:= .code (.region id ops true)::K,defers:=df,mode:= .run,kind:=kd,roundOf:=ro } (k++t::r) none w= .go (ig { fn:=kl,tmps:=tm,todo:= .inRegion ops (Region.schedule (L.follows .mixedOrders) ops n)::K,defers:=df,mode:= .run,kind:=kd,roundOf:=ro } (k++t::r)) w2:=by
      intro w w2 n hr;simp only [stepG.exec,qae,qa6,if_false];rw [hr]
     cases bU:(choose (.order kl id)).run L w with
     | halt q w2=>
      simp only [stepG.exec,qae,qa6,if_false] at h;rw [bU] at h;cases h
     | ok n w2=>
      obtain ⟨⟨n',W2,cq,e1,e3,e4⟩,e5,e6,ed,e7⟩:=hs.tape hw bU;rw [e2 _ _ _ bU] at h;cases h;exact ⟨e5,e6,ed,λτ pG=>⟨#[],e2 _ _ _ (e7 τ λj q _=>pG j q)⟩⟩
   | @rangeFunc f ps x y hf h1 h2=>
    refine xU (C:=C) (F:=λq=>match q with
      | .ok (l,mark) w=>stepG.apply L true { fn:=kl,tmps:=tm,todo:= .inRangeFunc l::_,defers:=mark++df,mode:= .run,kind:=kd,roundOf:=ro } (k++t::r) none (do let d←resolve (Frame.eval { fn:=kl,tmps:=tm,todo:= .inRangeFunc l::_,defers:=mark++df,mode:= .run,kind:=kd,roundOf:=ro }) { callee:= .value f,args:= #[.const (.func (.yield l) #[] #[])],argTypes:= #[] } 0;invoke d.target d.args) w
      | .halt _ w=> .ended (.stuck "range over a function: no such loop" _) w) (uU kl ps ha.tmps ((HF.code _).2 h1) ((HF.code _).2 h2) ha.round) hw h ?_ ?_
    ·intro q w2 tt h;cases h
    ·rintro cq ⟨l,mk⟩ ⟨l',mk'⟩ w2 W2 tt ⟨hl,hmk⟩ uI hT h;have rZ:=ha.mono hT;have B7:cM L C cq ({ fn:=kl,tmps:=tm,todo:= .inRangeFunc l::K,defers:=mk++df,mode:= .run,kind:=kd,roundOf:=ro }::k) ({ fn:=kl,tmps:=Ey,todo:= .inRangeFunc l'::K',defers:=mk'++Kb,mode:=KE,kind:=HB,roundOf:=Ez }::k'):=
      (gr.mono hT).swap ⟨rfl,rZ.tmps, .cons (.nb hl) (hk.mono hT),hmk.append rZ.defers,rZ.mode,ha.kind,rZ.round,rZ.zm⟩ rfl
     refine zq HF B7 (KH (v':= .func (.yield l') #[] #[]) HP (B7.top.eval f hf) ?_) uI h hp;exact .func (.yield hl) rfl rfl (λi v v' q=>by simp at q) (λi v v' q=>by simp at q)
theorem KL(HP:gV L C){a b:Frame}{k k':List Frame}{m:Bool}(gr:cM L C β (a::k) (b::k'))(hm:a.mode= .returning)(hw:cH β w W){es:Array Event}
  (h:unwind L m a (k++t::r) none w= .go g1 w1 es):B8 w w1 g1 (unwind L m a (k++t::r) none):=by
 have ha:=gr.top;obtain ⟨fn,tm,todo,df,md,kd,ro⟩:=a;obtain ⟨kl,Ey,uS,Kb,KE,HB,Ez⟩:=b;have hD:=ha.defers;have za:=ha.fn;simp only at hD hm za;subst za;subst hm;obtain ⟨VF,wY⟩:KE= .returning/\ro=none:=by rcases ha.mode with h | h;(cases h.1);exact ⟨h.2.1,h.2.2⟩
 subst VF;subst wY;unfold unwind at h ⊢;cases hD with
 | @cons q q' ds ds' hq hd=>
  simp only at h ⊢;refine xU (C:=C) (F:=λx=>match x with
    | .ok calls w=> .go { frame:={ fn:=kl,tmps:=tm,todo:=todo,defers:=calls++ds,mode:= .returning,kind:=kd,roundOf:=none },callers:=k++t::r,status:= .running,dying:=none } w
    | .halt _ w=> .ended (.stuck "the deferred calls of a range-over-func loop have been taken" _) w) (qg hq) hw h ?_ ?_
  ·intro q w2 tt h;cases h
  ·rintro cq v v' w2 W2 tt hv uI hT h;exact kI (λw=>rfl) h
 | nil=>
  simp only at h ⊢;obtain ⟨f,e1,e2⟩:=ha.zm rfl;simp only at e1;rw [e1] at h ⊢;simp only at h ⊢;refine xU (C:=C) (F:=λx=>match x with
    | .ok v w=>doReturn L m { fn:=kl,tmps:=tm,todo:=todo,defers:=[],mode:= .returning,kind:=kd,roundOf:=none } (k++t::r) none v w
    | .halt (.stuck s) w=> .ended (.stuck s _) w
    | .halt _ w=> .ended (.stuck "return: the result variables cannot be read" _) w) (vI HP f ha.tmps) hw h ?_ ?_
  ·intro q w2 tt h;cases q <;> cases h
  ·rintro cq v v' w2 W2 tt hv uI hT h;exact ME (gr.mono hT) h
theorem xV(HP:gV L C)(HF:PF L C Xs){a b:Frame}{k k':List Frame}{m:Bool}(gr:cM L C β (a::k) (b::k'))(hw:cH β w W){es:Array Event}
  (h:stepG L m (ig a (k++t::r)) w= .go g1 w1 es) (hp: ¬dm g1):B8 w w1 g1 (λw=>stepG L m (ig a (k++t::r)) w):=by
 rcases gr.top.mode with ⟨m1,m2⟩ | ⟨m1,m2,_⟩
 ·have e: ∀w,stepG L m (ig a (k++t::r)) w=stepG.exec L m true a (k++t::r) none w:=by
   intro w;unfold stepG ig;simp only [m1]
  rw [e] at h;rw [funext e];exact QH HP HF gr m1 hw h hp
 ·have e: ∀w,stepG L m (ig a (k++t::r)) w=unwind L m a (k++t::r) none w:=by
   intro w;unfold stepG ig;simp only [m1]
  rw [e] at h;rw [funext e];exact KL HP gr m1 hw h
end
end Go.Cx
namespace Go.Cx
open Go
variable[bg][aM][bk]
def QI(ds:List Deferred):Prop:= ∀d∈ds, ∃r x,d={ target:= .collected r,args:=x }
omit [bg] [aM] [bk] in
theorem oD.zr{β:Bj}{x y:List Deferred}(h:oD β x y):QI x:=by
 induction h with
 | nil=>intro d hd;simp at hd
 | cons _ _ ih=>
  intro d hd;rcases qa8.1 hd with rfl | hd
  ·exact ⟨_,_,rfl⟩
  ·exact ih d hd
def H0(a:Frame)(cs:List Frame)(w:World)(T:GStep):Prop:=
 (∃g1 w1 es,T= .go g1 w1 es/\(dm g1->(Dw w->Dw w1)/\ ∃a2 vs,QI a2.defers/\g1=ig (Frame.raise a2 vs) cs))\/ ∃o w1 es,T= .ended o w1 es
omit [bg] [aM] [bk] in
theorem H0.after{a:Frame}{cs:List Frame}{w:World}{T:GStep}(h:H0 a cs w T)(es:Array Event):H0 a cs w (GStep.after es T):=by
 rcases h with ⟨g1,w1,es1,rfl,hb⟩ | ⟨o,w1,es1,rfl⟩
 ·exact .inl ⟨g1,w1,_,rfl,hb⟩
 ·exact .inr ⟨o,w1,_,rfl⟩
omit [bg] [aM] [bk] in
theorem rF{a:Frame}{cs:List Frame}{g:Goroutine}{w0 w:World}{es:Array Event}(h: ∀ch,g.frame.mode≠ .panicking ch):H0 a cs w0 (.go g w es):= .inl ⟨g,w,es,rfl,λ⟨ch,q⟩=>absurd q (h ch)⟩
omit [bg] [aM] [bk] in
theorem nc{a:Frame}{cs:List Frame}{o:Outcome}{w0 w:World}{es:Array Event}:H0 a cs w0 (.ended o w es):= .inr ⟨o,w,es,rfl⟩
omit [bg] [aM] [bk] in
theorem kX(a:Frame)(v:Value):(a.finish v).mode=a.mode:=by
 unfold Frame.finish;split <;> rfl
section
variable{L C:Program}{Xs:FuncId->Prop}{β:Bj}{t:Frame}{r:List Frame}{w W:World}
omit [aM] in
theorem j5.calm{a b:Frame}(h:j5 L C β a b): ∀ch,a.mode≠ .panicking ch:=λch q=>by
 rcases h.mode with ⟨h,_⟩ | ⟨h,_⟩ <;> rw [h] at q <;> cases q
theorem xW{α:Type}{RA:Bj->α->α->Prop}{s s':Sem α}(hs:aD L C RA β s s')(hw:cH β w W){f:FuncId}{F:Result α->GStep}{a:Frame}{cs:List Frame}
  (hh: ∀q w2,Ks q->(Dw w->Dw w2)->H0 a cs w (F (.halt q w2)))
  (ur: ∀cq v v' w2 W2,RA cq v v'->cH cq w2 W2->Le β cq->(Dw w->Dw w2)->H0 a cs w (F (.ok v w2))):
  H0 a cs w (GStep.after (seen L f (s.runT L w #[]).2) (F (s.runT L w #[]).1)):=by
 refine H0.after ?_ _;rw [Sem.runT_fst];cases bU:s.run L w with
 | halt q w2=>exact hh q w2 (hs.BV hw bU).1 (hs.BV hw bU).2
 | ok v w2=>
  obtain ⟨⟨v',W2,cq,e1,e2,e3⟩,e4,e5,ed,e6⟩:=hs.tape hw bU;exact ur cq v v' w2 W2 e1 e2 e3 ed
omit [aM] in
theorem MF(ht:t.mode= .run){a b:Frame}{k k':List Frame}{m:Bool}(gr:cM L C β (a::k) (b::k')){v:Value}{w2:World}{a2:Frame}{cs:List Frame}:
  H0 a2 cs w (doReturn L m a (k++t::r) none v w2):=by
 have ha:=gr.top;unfold doReturn;rw [ha.kind.1];cases gr with
 | one _ hr=>exact rF λch q=>by rw [show (ig (t.finish v) r).frame.mode=t.mode from kX _ _,ht] at q;cases q
 | cons _ hk=>
  cases hk with
  | @one a3 b3 h2 hr=>exact rF λch q=>by rw [show (ig (a3.finish v) (t::r)).frame.mode=a3.mode from kX _ _] at q;exact h2.calm ch q
  | @cons a3 b3 k3 k3' h2 hk=>exact rF λch q=>by rw [show (ig (a3.finish v) (k3++t::r)).frame.mode=a3.mode from kX _ _] at q;exact h2.calm ch q
theorem KM(ht:t.mode= .run)(HF:PF L C Xs){a b:Frame}{k k':List Frame}{m:Bool}(gr:cM L C β (a::k) (b::k')){j:Option Code}(hj: ∀c,j=some c->cN L C c)(hw:cH β w W){a2:Frame}{cs:List Frame}:
  H0 a2 cs w (Lv L m a (k++t::r) w j):=by
 have ha:=gr.top;obtain ⟨fn,tm,todo,df,md,kd,ro⟩:=a;obtain ⟨kl,Ey,uS,Kb,KE,HB,Ez⟩:=b;have wY:=ha.round;simp only at wY;unfold Lv;cases wY with
 | none=>
  simp only;split
  all_goals simp only [if_true,qa6,if_false]
  all_goals first
   | exact rF λch q=>by cases q
   | exact nc
 | some hl=>
  simp only;refine xW (C:=C) (F:=λq=>match q with
   | .ok v w=>doReturn L m _ (k++t::r) none v w
   | .halt _ w=> .ended (.stuck "range over a function: no such loop" _) w) (wX hl j λc hc=>(HF.code c).2 (hj c hc)) hw ?_ ?_
  ·intro q w2 _ _;exact nc
  ·intro cq v v' w2 W2 hv uI hT _;exact MF ht (gr.mono hT)
theorem zt{a b:Frame}{k k':List Frame}(gr:cM L C β (a::k) (b::k')){s s':Sem Next}(hs:aD L C mZ β s s')(hw:cH β w W):
  H0 a (k++t::r) w (stepG.apply L true a (k++t::r) none s w):=by
 have ha:=gr.top;unfold stepG.apply;simp only [if_true];rcases hR:s.runT L w #[] with ⟨q,uH⟩
 have bU:s.run L w=q:=by rw [←Sem.runT_fst L s w #[],hR]
 simp only;refine H0.after ?_ _;cases q with
 | halt hh w2=>
  obtain ⟨Ax,Oj⟩:=hs.BV hw bU;cases hh with
  | panic v=>exact .inl ⟨_,_,_,rfl,λ_=>⟨Oj,_,_,ha.defers.zr,rfl⟩⟩
  | stuck s=>exact nc
  | unsupported u=>
   cases u with
   | initOrder g=>exact (Ax g rfl).elim
   | _=>exact nc
  | _=>exact Ax.elim
 | ok n w2=>
  obtain ⟨⟨v',W2,cq,e1,e2,e3⟩,e4,e5,ed,e6⟩:=hs.tape hw bU;cases e1 with
  | @value v v' hv=>exact rF λch q=>by rw [show (ig (a.finish v) (k++t::r)).frame.mode=a.mode from kX _ _] at q;exact ha.calm ch q
  | skip=>exact rF λch q=>by rw [show (ig (a.finish undef) (k++t::r)).frame.mode=a.mode from kX _ _] at q;exact ha.calm ch q
  | enter f ur qX hx=>exact rF λch q=>by cases q
  | round f ca cb hca ZJ rD hx=>exact rF λch q=>by cases q
theorem QJ(ht:t.mode= .run)(HP:gV L C)(HF:PF L C Xs){a b:Frame}{k k':List Frame}{m:Bool}(gr:cM L C β (a::k) (b::k'))(hm:a.mode= .run)(hw:cH β w W):
  H0 a (k++t::r) w (stepG.exec L m true a (k++t::r) none w):=by
 have ha:=gr.top;obtain ⟨fn,tm,todo,df,md,kd,ro⟩:=a;obtain ⟨kl,Ey,uS,Kb,KE,HB,Ez⟩:=b;have hT:=ha.todo;have za:=ha.fn;simp only at hT hm za;subst za;subst hm;have calm: ∀{g:Goroutine} {w0 w:World},g.frame.mode= .run->H0 { fn:=kl,tmps:=tm,todo:=todo,defers:=df,mode:= .run,kind:=kd,roundOf:=ro } (k++t::r) w0 (.go g w):=λh=>rF λch q=>by rw [h] at q;cases q
 cases hT with
 | nil=>
  rw [FK _ _ _ _ _ rfl];exact KM ht HF gr (λc h=>by cases h) hw
 | @cons i_ i_' K K' hi hk=>
  cases hi with
  | inBlock id=>exact calm rfl
  | inLoop hc=>exact calm rfl
  | nb hl=>exact nc
  | beginRound=>
   have wY:=ha.round;simp only at wY;refine zt (C:=C) (s':=do Ez.elim (stuck "beginRound: no round") Instr.beginRound;pure .skip) gr ?_ hw;cases wY with
   | none=>exact (aT.eM aT.halt).rel
   | some hl=>exact (tu hl).bd λjc _ _ hl _=> .pure .skip
  | @mg l l' hl=>
   refine xW (C:=C) (F:=λq=>match q with
     | .ok jump w=> .go { frame:={ fn:=kl,tmps:=tm,todo:=(jump.map Item.code).toList++_,defers:=df,mode:= .run,kind:=kd,roundOf:=ro },callers:=k++t::r,status:= .running,dying:=none } w
     | .halt (.panic v) w=> .go { frame:=Frame.raise _ [{ v,recovered:=false }],callers:=k++t::r,status:= .running,dying:=none } w
     | .halt _ w=> .ended (.stuck "range over a function: no such loop" _) w) (zp hl) hw ?_ ?_
   ·intro q w2 hq Oj;cases q with
    | panic v=>exact .inl ⟨_,_,_,rfl,λ_=>⟨Oj,_,_,ha.defers.zr,rfl⟩⟩
    | _=>exact nc
   ·intro cq v v' w2 W2 hv uI hT _;exact calm rfl
  | @inRegion ops td ho=>
   cases td with
   | nil=>exact calm rfl
   | cons i td=>
    simp only [stepG.exec];split
    ·rename_i hq;cases cU:ops[i]? with
     | none=>rw [cU] at hq;cases hq
     | some o=>
      have ur:=ho o (qb5 cU);have hd: ∀c,o.op≠ .defer c:=λc q=>by rw [q] at ur;exact ur
      rw [Bv _ _ _ _ (o:=o) (by simp only [Frame.oper?];exact cU) hd];exact zt gr (KD HP ha.eval o ur) hw
    ·exact calm (kX _ _)
  | code hc=>
   cases hc with
   | skip=>exact calm rfl
   | label l=>exact calm rfl
   | ret=>
    rw [FL _ _ _ _ _ _ rfl];exact KM ht HF gr (λc h=>by cases h;exact .ret) hw
   | seq h1 h2=>exact calm rfl
   | block id h1=>exact calm rfl
   | loop h1=>exact calm rfl
   | exit id=>
    rcases B6 id hk with ⟨e1,e2⟩ | ⟨q,q',e1,e2,hq⟩
    ·rw [Bu _ _ _ id _ _ _ rfl e1];exact KM ht HF gr (λc h=>by cases h;exact .exit id) hw
    ·simp only [stepG.exec,e1,Option.elim_some];exact calm rfl
   | @cond c x y hc h1 h2=>
    simp only [stepG.exec];split
    ·exact calm rfl
    ·exact nc
   | @region id ops draw ho=>
    cases draw with
    | false=>exact calm rfl
    | true=>
     simp only [stepG.exec,qae,qa6,if_false];split
     ·exact calm rfl
     ·exact nc
   | @rangeFunc f ps x y hf h1 h2=>
    refine xW (C:=C) (F:=λq=>match q with
      | .ok (l,mark) w=>stepG.apply L true { fn:=kl,tmps:=tm,todo:= .inRangeFunc l::_,defers:=mark++df,mode:= .run,kind:=kd,roundOf:=ro } (k++t::r) none (do let d←resolve (Frame.eval { fn:=kl,tmps:=tm,todo:= .inRangeFunc l::_,defers:=mark++df,mode:= .run,kind:=kd,roundOf:=ro }) { callee:= .value f,args:= #[.const (.func (.yield l) #[] #[])],argTypes:= #[] } 0;invoke d.target d.args) w
      | .halt _ w=> .ended (.stuck "range over a function: no such loop" _) w) (uU kl ps ha.tmps ((HF.code _).2 h1) ((HF.code _).2 h2) ha.round) hw ?_ ?_
    ·intro q w2 _ _;exact nc
    ·rintro cq ⟨l,mk⟩ ⟨l',mk'⟩ w2 W2 ⟨hl,hmk⟩ uI hT Oj;have rZ:=ha.mono hT;have B7:cM L C cq ({ fn:=kl,tmps:=tm,todo:= .inRangeFunc l::K,defers:=mk++df,mode:= .run,kind:=kd,roundOf:=ro }::k) ({ fn:=kl,tmps:=Ey,todo:= .inRangeFunc l'::K',defers:=mk'++Kb,mode:=KE,kind:=HB,roundOf:=Ez }::k'):=
      (gr.mono hT).swap ⟨rfl,rZ.tmps, .cons (.nb hl) (hk.mono hT),hmk.append rZ.defers,rZ.mode,ha.kind,rZ.round,rZ.zm⟩ rfl
     have:=zt (t:=t) (r:=r) B7 (KH (v':= .func (.yield l') #[] #[]) HP (B7.top.eval f hf) (.func (.yield hl) rfl rfl (λi v v' q=>by simp at q) (λi v v' q=>by simp at q))) uI;rcases this with ⟨g1,w1,es,e1,hb⟩ | h
     ·exact .inl ⟨g1,w1,es,e1,λq=>let ⟨h1,a2,vs,h2,h3⟩:=hb q;⟨λh=>h1 (Oj h),a2,vs,h2,h3⟩⟩
     ·exact .inr h
theorem KN(ht:t.mode= .run)(HP:gV L C){a b:Frame}{k k':List Frame}{m:Bool}(gr:cM L C β (a::k) (b::k'))(hm:a.mode= .returning)(hw:cH β w W):
  H0 a (k++t::r) w (unwind L m a (k++t::r) none w):=by
 have ha:=gr.top;obtain ⟨fn,tm,todo,df,md,kd,ro⟩:=a;obtain ⟨kl,Ey,uS,Kb,KE,HB,Ez⟩:=b;have hD:=ha.defers;have za:=ha.fn;simp only at hD hm za;subst za;subst hm;obtain ⟨VF,wY⟩:KE= .returning/\ro=none:=by rcases ha.mode with h | h;(cases h.1);exact ⟨h.2.1,h.2.2⟩
 subst VF;subst wY;unfold unwind;cases hD with
 | @cons q q' ds ds' hq hd=>
  simp only;refine xW (C:=C) (F:=λx=>match x with
    | .ok calls w=> .go { frame:={ fn:=kl,tmps:=tm,todo:=todo,defers:=calls++ds,mode:= .returning,kind:=kd,roundOf:=none },callers:=k++t::r,status:= .running,dying:=none } w
    | .halt _ w=> .ended (.stuck "the deferred calls of a range-over-func loop have been taken" _) w) (qg hq) hw ?_ ?_
  ·intro q w2 _ _;exact nc
  ·intro cq v v' w2 W2 hv uI hT _;exact rF λch q=>by cases q
 | nil=>
  simp only;obtain ⟨f,e1,e2⟩:=ha.zm rfl;simp only at e1;rw [e1];simp only;refine xW (C:=C) (F:=λx=>match x with
    | .ok v w=>doReturn L m { fn:=kl,tmps:=tm,todo:=todo,defers:=[],mode:= .returning,kind:=kd,roundOf:=none } (k++t::r) none v w
    | .halt (.stuck s) w=> .ended (.stuck s _) w
    | .halt _ w=> .ended (.stuck "return: the result variables cannot be read" _) w) (vI HP f ha.tmps) hw ?_ ?_
  ·intro q w2 _ _;cases q <;> exact nc
  ·intro cq v v' w2 W2 hv uI hT _;exact MF ht (gr.mono hT)
theorem QK(ht:t.mode= .run)(HP:gV L C)(HF:PF L C Xs){a b:Frame}{k k':List Frame}{m:Bool}(gr:cM L C β (a::k) (b::k'))(hw:cH β w W):
  H0 a (k++t::r) w (stepG L m (ig a (k++t::r)) w):=by
 rcases gr.top.mode with ⟨m1,m2⟩ | ⟨m1,m2,_⟩
 ·unfold stepG ig;simp only [m1];exact QJ ht HP HF gr m1 hw
 ·unfold stepG ig;simp only [m1];exact KN ht HP gr m1 hw
end
end Go.Cx
namespace Go.Cx
open Go
variable[bg][aM][bk]
def cT:Frame:={ fn:=0,tmps:= #[],todo:=[.code (.refuse "")],defers:=[{ target:= .nil,args:= #[] }],mode:= .run,kind:= .normal }
omit [bg] [aM] [bk] in
theorem ri(v:Value):cT.finish v=cT:=rfl
omit [bg] [aM] [bk] in
theorem EB(L:Program)(w:World): ∃o w1,step L (lone cT [] w)= .ended o w1:=by
 exact ⟨_,w,step_lone_ended rfl⟩
omit [bg] [aM] [bk] in
theorem QL(L:Program)(ch:List PanicEntry)(w:World): ∃o w1,step L (lone (cT.raise ch) [] w)= .ended o w1:=by
 refine ⟨.unsupported (.noEntry "machine/Return: a deferred call of a nil function value, made while the frame is unwinding") (Frame.pos L { cT.raise ch with defers:=[] }),w,step_lone_ended ?_⟩
 rfl
omit [bg] [aM] [bk] in
theorem runN_ended{L:Program}{m:Machine}{o:Outcome}{w:World}(h:step L m= .ended o w){n:Nat}{m':Machine}(hr:runN L n m= .next m'):n=0:=by
 cases n with
 | zero=>rfl
 | succ n=>simp only [runN,h] at hr;cases hr
omit [bg] [aM] [bk] in
theorem QM{L:Program}{fr:Frame}{cs:List Frame}{w:World}{ch:List PanicEntry}{r:Nat}{x:Array Value}{ds:List Deferred}(hm:fr.mode= .panicking ch)(hd:fr.defers={ target:= .collected r,args:=x }::ds)(hw:Dw w):
  (∃w1,step L (lone fr cs w)= .next (lone { fr with defers:=ds } cs w1)/\Dw w1)\/ ∃o w1,step L (lone fr cs w)= .ended o w1:=by
 cases ho:w.heap[r]? with
 | none=>
  refine .inr ⟨.stuck "the deferred calls of a range-over-func loop have been taken" (fr.pos L),w,step_lone_ended ?_⟩;simp only [stepG,hm,unwind,hd,Instr.takeDeferred,getObj,bind,Sem.bind,Sem.runT,ho]
  rfl
 | some o=>
  by_cases hc: ∃l,o= .deferred (some l)
  ·obtain ⟨l,rfl⟩:=hc;have:l=[]:=hw r l ho;subst this;refine .inl ⟨{ w with heap:=w.heap.setIfInBounds r (.deferred none) },step_lone_go ?_,zk hw λds q=>by cases q⟩;simp only [stepG,hm,unwind,hd,Instr.takeDeferred,getObj,setObj,bind,pure,Sem.bind,Sem.runT,ho,Obj.isChan]
   rfl
  ·refine .inr ⟨.stuck "the deferred calls of a range-over-func loop have been taken" (fr.pos L),w,step_lone_ended ?_⟩;have bU:((Instr.takeDeferred r).runT L w #[]).1= .halt (.stuck "range over a function: the deferred calls have been taken") w\/((Instr.takeDeferred r).runT L w #[]).1= .halt (.stuck "getObj: a row of cells") w:=by
    rw [Sem.runT_fst];unfold Instr.takeDeferred getObj;cases o with
    | cells c e f=>right;simp only [bind,Sem.bind,Sem.run,ho]
    | deferred l=>
     cases l with
     | none=>left;simp only [bind,Sem.bind,Sem.run,ho];rfl
     | some l=>exact absurd ⟨l,rfl⟩ hc
    | _=>left;simp only [bind,Sem.bind,Sem.run,ho];rfl
   simp only [stepG,hm,unwind,hd];rcases hR:(Instr.takeDeferred r).runT L w #[] with ⟨q,es⟩
   rw [hR] at bU;rcases bU with h | h <;> (simp only at h;subst h;rfl)
omit [bg] [aM] [bk] in
theorem ZK{L:Program}: ∀(n:Nat) (k:List Frame) (fr:Frame) (w:World) (UQ:Frame) (cs':List Frame) (w':World) (ch:List PanicEntry),fr.mode= .panicking ch->QI fr.defers->(∀f∈k,QI f.defers)->Dw w->
  runN L n (lone fr (k++[cT]) w)= .next (lone UQ cs' w')-> ∃ch,UQ.mode= .panicking ch:=by
 intro n
 induction n with
 | zero=>
  intro k fr w UQ cs' w' ch hm hd hk hD h;simp only [runN] at h;have:fr=UQ:=by simp only [lone] at h;injection h with h;injection h with h1 h2 h3;simp at h2;exact h2.1
  exact this▸⟨ch,hm⟩
 | succ n ih=>
  intro k fr w UQ cs' w' ch hm hd hk hD h;cases H6:fr.defers with
  | cons d ds=>
   obtain ⟨r,x,rfl⟩:=hd d (by rw [H6];simp);rcases QM (cs:=k++[cT]) hm H6 hD with ⟨w1,h1,h2⟩ | ⟨o,w1,h1⟩
   ·rw [runN,h1] at h;exact ih k { fr with defers:=ds } w1 UQ cs' w' ch hm (λd Kd=>hd d (by rw [H6];simp [show d∈ds from Kd])) hk h2 h
   ·have:=runN_ended h1 h;cases this
  | nil=>
   by_cases hc:fr.catches L=true
   ·have: ∃o w1,step L (lone fr (k++[cT]) w)= .ended o w1:=by
     refine ⟨_,w,step_lone_ended (o:= .unsupported (.noEntry "a panic or Goexit out of a method that fmt calls behind a cut's door") (fr.pos L)) ?_⟩;simp [stepG,hm,unwind,H6,hc]
    obtain ⟨o,w1,h1⟩:=this;have:=runN_ended h1 h;cases this
   ·simp only [qbg] at hc;cases k with
    | nil=>
     have h1:step L (lone fr ([]++[cT]) w)= .next (lone (cT.raise ch) [] w):=by
      refine step_lone_go ?_;simp [stepG,hm,unwind,H6,hc]
     simp only [runN,h1] at h;obtain ⟨o,w1,h2⟩:=QL L ch w;have:=runN_ended h2 h;subst this;simp only [runN] at h;have:cT.raise ch=UQ:=by simp only [lone] at h;injection h with h;injection h with h1 h2 h3;simp at h2;exact h2.1
     exact this▸⟨ch,rfl⟩
    | cons c k=>
     have h1:step L (lone fr (c::k++[cT]) w)= .next (lone (c.raise ch) (k++[cT]) w):=by
      refine step_lone_go ?_;simp [stepG,hm,unwind,H6,hc]
     simp only [runN,h1] at h;obtain ⟨ch2,Qr⟩:=pV c ch;refine ih k (c.raise ch) w UQ cs' w' ch2 Qr ?_ (λf hf=>hk f (by simp [hf])) hD h;have:=hk c (by simp);unfold Frame.raise;split <;> exact this
end Go.Cx
namespace Go.Cx
open Go
variable[bg][aM][bk]
def Ag(d:Nat)(τ σ:Tape):Prop:= ∀j q,j<d->τ j q=σ j q
inductive xX(L:Program)(Q:Frame->World->Prop):Frame->List Frame->World->Prop
 | done {a:Frame} {w:World}:a.mode= .returning->a.defers=[]->Q a w->xX L Q a [] w
 | step {a:Frame} {k:List Frame} {w:World}:(∀τ,Ag w.drawn τ w.tape-> ∃a1 k1 w1 es,stepG L true (ig a (k++[cT])) (TW w τ)= .go (ig a1 (k1++[cT])) w1 es/\ ∀ch,a1.mode≠ .panicking ch)->
  (∀τ a1 k1 w1 es,Ag w.drawn τ w.tape->stepG L true (ig a (k++[cT])) (TW w τ)= .go (ig a1 (k1++[cT])) w1 es->xX L Q a1 k1 w1)->xX L Q a k w
def Inv(L:Program)(a:Frame)(k:List Frame)(w:World):Prop:= ∃β b k' W,cM L L β (a::k) (b::k')/\cH β w W/\Dw w
theorem cH.tw{β:Bj}{w W:World}(h:cH β w W)(τ σ:Tape):cH β (TW w τ) (TW W σ):=⟨h.obj,h.inj,h.fn⟩
omit [aM] in
theorem cM.zr{L C:Program}{β:Bj}{x y:List Frame}(h:cM L C β x y): ∀f∈x,QI f.defers:=by
 induction h with
 | one h _=>intro f hf;simp at hf;exact hf▸h.defers.zr
 | cons h _ ih=>
  intro f hf;rcases qa8.1 hf with rfl | hf
  ·exact h.defers.zr
  ·exact ih f hf
omit [bg] [aM] [bk] in
theorem runN_add(L:Program): ∀(n m:Nat) (x y:Machine),runN L n x= .next y->runN L (n+m) x=runN L m y:=by
 intro n
 induction n with
 | zero=>intro m x y h;simp only [runN] at h;cases h;simp
 | succ n ih=>
  intro m x y h;rw [show n+1+m=(n+m)+1 by omega];simp only [runN] at h ⊢;cases hs:step L x with
  | next z=>rw [hs] at h;exact ih m z y h
  | ended o w=>rw [hs] at h;cases h
omit [bg] [aM] [bk] in
theorem QN{L:Program}{x y:Machine}(h:step L x= .next y):runN L 1 x= .next y:=by simp only [runN,h]
omit [bg] [aM] [bk] in
theorem B9{a a':Frame}{k k':List Frame}{w w':World}(h:lone a k w=lone a' k' w'):a=a'/\k=k'/\w=w':=by
 simp only [lone] at h;injection h with h1 h2 h3
 simp at h2;exact ⟨h2.1,h2.2,h1⟩
section
variable{L:Program}{Q:Frame->World->Prop}
def Good(L:Program)(Q:Frame->World->Prop)(n:Nat)(m:Machine):Prop:=
 ∃a' w' v,runN L n m= .next (lone a' [cT] w')/\a'.leaving L w' (.returned v)/\Q a' w'
omit [bg] [aM] [bk] in
theorem EC{n:Nat}{m:Machine}(h:Good L Q n m): ∀(i:Nat) (a:Frame) (k:List Frame) (w:World),runN L (n+i) m= .next (lone a (k++[cT]) w)->(k=[]/\a.mode= .returning/\a.defers=[]/\Q a w):=by
 obtain ⟨a',w',v,h1,h2,h3⟩:=h;intro i a k w hr;rw [runN_add L n i _ _ h1] at hr;cases i with
 | zero=>
  simp only [runN] at hr;injection hr with hr
  obtain ⟨rfl,e2,rfl⟩:=B9 hr;have:k=[]:=by
   cases k with
   | nil=>rfl
   | cons c k=>simp at e2
  exact ⟨this,h2.1,h2.2.1,h3⟩
 | succ i=>
  exfalso;have hs:=step_leave_returned (c:=cT) (cs:=[]) h2;rw [ri] at hs;simp only [runN,hs] at hr;obtain ⟨o,w1,h4⟩:=EB L w';have:=runN_ended h4 hr;subst this;simp only [runN] at hr;injection hr with hr
  obtain ⟨_,e2,_⟩:=B9 hr;simp at e2
theorem VG(HP:gV L L)(HF:PF L L (λ_=>False))(hQ: ∀a w τ,Q a (TW w τ)->Q a w){a0:Frame}{k0:List Frame}{w0:World}(H: ∀τ,Ag w0.drawn τ w0.tape-> ∃n,Good L Q n (lone a0 (k0++[cT]) (TW w0 τ)))
  {m:Nat} {a:Frame} {k:List Frame} {w:World} (hI:Inv L a k w) (hn: ¬xX L Q a k w) (hd:w0.drawn<=w.drawn) (xJ:Ag w0.drawn w.tape w0.tape)
  (hr: ∀τ,Ag w.drawn τ w.tape->runN L m (lone a0 (k0++[cT]) (TW w0 τ))= .next (lone a (k++[cT]) (TW w τ))):
  ∃a1 k1 w1,Inv L a1 k1 w1/\ ¬xX L Q a1 k1 w1/\w.drawn<=w1.drawn/\Ag w.drawn w1.tape w.tape/\
    ∀τ,Ag w1.drawn τ w1.tape->runN L (m+1) (lone a0 (k0++[cT]) (TW w0 τ))= .next (lone a1 (k1++[cT]) (TW w1 τ)):=by
 have hx: ∃τ,Ag w.drawn τ w.tape/\ ∀a1 k1 w1 es,stepG L true (ig a (k++[cT])) (TW w τ)= .go (ig a1 (k1++[cT])) w1 es->(∀ch,a1.mode≠ .panicking ch)-> ¬xX L Q a1 k1 w1:=by
  apply qa9;intro hc;have lV: ∀τ,Ag w.drawn τ w.tape-> ∃a1 k1 w1 es,stepG L true (ig a (k++[cT])) (TW w τ)= .go (ig a1 (k1++[cT])) w1 es/\(∀ch,a1.mode≠ .panicking ch)/\xX L Q a1 k1 w1:=
    λτ pG=>qa9 λUR=>hc ⟨τ,pG,λa1 k1 w1 es h1 h2 h3=>UR ⟨a1,k1,w1,es,h1,h2,h3⟩⟩
  refine hn (.step (λτ pG=>let ⟨a1,k1,w1,es,h1,h2,_⟩:=lV τ pG;⟨a1,k1,w1,es,h1,h2⟩) λτ a1 k1 w1 es pG h=> ?_);obtain ⟨a2,k2,w2,tt,h1,h2,h3⟩:=lV τ pG;rw [h] at h1;injection h1 with h4 h5
  simp only [Goroutine.mk.injEq,List.append_cancel_right_eq] at h4;obtain ⟨rfl,rfl,_⟩:=h4;subst h5;exact h3
 obtain ⟨τ,pG,hx⟩:=hx;obtain ⟨β,b,k',W,gr,hw,hD⟩:=hI;have h0:Ag w0.drawn τ w0.tape:=λj q hj=>(pG j q (qa3 hj hd)).trans (xJ j q hj);obtain ⟨n,hg⟩:=H τ h0;have acA:=hr τ pG;have QO: ¬n<=m:=by
  intro hle;obtain ⟨e1,e2,e3,e4⟩:=EC hg (m - n) a k (TW w τ) (by rw [show n+(m - n)=m by omega];exact acA);subst e1;exact hn (.done e2 e3 (hQ _ _ _ e4))
 obtain ⟨a',w',v,g1,g2,g3⟩:=hg;have wF:runN L (n - m) (lone a (k++[cT]) (TW w τ))= .next (lone a' [cT] w'):=by
  rw [←runN_add L m (n - m) _ _ acA,show m+(n - m)=n by omega];exact g1
 obtain ⟨p,hp⟩: ∃p,n - m=p+1:=⟨n - m - 1,by omega⟩;rw [hp] at wF;have ZL:=hw.tw τ (λj q=>τ (j - W.drawn+w.drawn) q);have ED:iS (TW w τ) (TW W (λj q=>τ (j - W.drawn+w.drawn) q)):=λj q=>by
  show τ (W.drawn+j - W.drawn+w.drawn) q=τ (w.drawn+j) q;rw [show W.drawn+j - W.drawn+w.drawn=w.drawn+j by omega]
 rcases QK (m:=true) (t:=cT) (r:=[]) rfl HP HF gr ZL with ⟨g,w1,es,e1,ZM⟩ | ⟨o,w1,es,e1⟩
 ·by_cases hB:dm g
  · exfalso;obtain ⟨Oj,a2,vs,QP,rfl⟩:=ZM hB;have hs:step L (lone a (k++[cT]) (TW w τ))= .next (lone (a2.raise vs) (k++[cT]) w1):=step_lone_go (by rw [e1];rfl);simp only [runN,hs] at wF;obtain ⟨ch,FM⟩:=pV a2 vs;have H6:=gr.zr;obtain ⟨ch2,acB⟩:=ZK p k (a2.raise vs) w1 a' [cT] w' ch FM (by
     unfold Frame.raise;split <;> exact QP) (λf hf=>H6 f (by simp [hf])) (Oj hD) wF
    rw [g2.1] at acB;cases acB
  · obtain ⟨cq,W1,xS,EA,e2,ho,Ay,hT,_⟩:=uW (m':=true) (bs':=[cT]) HP HF gr (.inl (by simp)) ZL ED e1 hB;obtain ⟨l1,l2,ld,l3⟩:=xV HP HF gr ZL e1 hB;cases ho with
    | back hv hg1 _ akw=>
     exfalso;rw [hg1,ri] at e1;have hs:step L (lone a (k++[cT]) (TW w τ))= .next (lone cT [] w1):=step_lone_go (by rw [e1];rfl);simp only [runN,hs] at wF;obtain ⟨o,w2,h4⟩:=EB L w1;have:=runN_ended h4 wF;subst this;simp only [runN] at wF;injection wF with wF
     obtain ⟨_,e5,_⟩:=B9 wF;simp at e5
    | on fu=>
     cases fu with
     | enter f hX _ _=>exact hX.elim
     | @on a1 b1 k1 US tv=>
      have acC: ∀ch,a1.mode≠ .panicking ch:=tv.top.calm;refine ⟨a1,k1,w1,⟨cq,b1,US,W1,tv,Ay,ld hD⟩,hx _ _ _ _ e1 acC,l1, ?_,λσ Yw=> ?_⟩
      ·intro j q hj;rw [l2];exact pG j q hj
      ·have wV:w.drawn<=w1.drawn:=l1;have ZN:Ag w.drawn σ w.tape:=λj q hj=>(Yw j q (qa3 hj wV)).trans (by rw [l2];exact pG j q hj);have af6: ∀j q,j<w1.drawn->σ j q=(TW w τ).tape j q:=λj q hj=>(Yw j q hj).trans (by rw [l2]);obtain ⟨tt,e3⟩:=l3 σ af6;have hs:step L (lone a (k++[cT]) (TW w σ))= .next (lone a1 (k1++[cT]) (TW w1 σ)):=step_lone_go (by
        have e4:stepG L true (ig a (k++[cT])) (TW w σ)= .go (ig a1 (k1++[cT])) (TW w1 σ) tt:=e3;rw [e4];rfl)
       rw [runN_add L m 1 _ _ (hr σ ZN)];exact QN hs
 ·exfalso;have hs:step L (lone a (k++[cT]) (TW w τ))= .ended o w1:=step_lone_ended (by rw [e1];rfl);have:=runN_ended hs wF;omega
theorem tree(HP:gV L L)(HF:PF L L (λ_=>False))(hQ: ∀a w τ,Q a (TW w τ)->Q a w){a0:Frame}{k0:List Frame}{w0:World}(hI:Inv L a0 k0 w0)(H: ∀τ,Ag w0.drawn τ w0.tape-> ∃n,Good L Q n (lone a0 (k0++[cT]) (TW w0 τ))):
  xX L Q a0 k0 w0:=by
 classical
 apply qa9;intro hn
 let S:={ s:Nat×Frame×List Frame×World // Inv L s.2.1 s.2.2.1 s.2.2.2/\ ¬xX L Q s.2.1 s.2.2.1 s.2.2.2/\w0.drawn<=s.2.2.2.drawn/\Ag w0.drawn s.2.2.2.tape w0.tape/\
  ∀τ,Ag s.2.2.2.drawn τ s.2.2.2.tape->runN L s.1 (lone a0 (k0++[cT]) (TW w0 τ))= .next (lone s.2.1 (s.2.2.1++[cT]) (TW s.2.2.2 τ)) }
 have wG: ∀s:S, ∃s':S,s'.1.1=s.1.1+1/\s.1.2.2.2.drawn<=s'.1.2.2.2.drawn/\Ag s.1.2.2.2.drawn s'.1.2.2.2.tape s.1.2.2.2.tape:=by
  rintro ⟨⟨m,a,k,w⟩,h1,h2,h3,h4,h5⟩;obtain ⟨a1,k1,w1,g1,g2,g3,g4,g5⟩:=VG HP HF hQ H h1 h2 h3 h4 h5;exact ⟨⟨(m+1,a1,k1,w1),g1,g2,qaa h3 g3,λj q hj=>(g4 j q (qa3 hj h3)).trans (h4 j q hj),g5⟩,rfl,g3,g4⟩
 let s0:S:=⟨(0,a0,k0,w0),hI,hn,qa2 _,λ_ _ _=>rfl,λτ _=>rfl⟩
 let f:S->S:=λs=>(wG s).choose
 have hf: ∀s,(f s).1.1=s.1.1+1/\s.1.2.2.2.drawn<=(f s).1.2.2.2.drawn/\Ag s.1.2.2.2.drawn (f s).1.2.2.2.tape s.1.2.2.2.tape:=λs=>(wG s).choose_spec
 let c:Nat->S:=λn=>Nat.rec s0 (λ_ s=>f s) n
 have c0:c 0=s0:=rfl;have cs: ∀n,c (n+1)=f (c n):=λn=>rfl;have hlen: ∀n,(c n).1.1=n:=by
  intro n
  induction n with
  | zero=>rfl
  | succ n ih=>rw [cs,(hf _).1,ih]
 have Yx: ∀n i,(c n).1.2.2.2.drawn<=(c (n+i)).1.2.2.2.drawn/\Ag (c n).1.2.2.2.drawn (c (n+i)).1.2.2.2.tape (c n).1.2.2.2.tape:=by
  intro n i
  induction i with
  | zero=>exact ⟨qa2 _,λ_ _ _=>rfl⟩
  | succ i ih=>
   rw [show n+(i+1)=(n+i)+1 by omega,cs];obtain ⟨_,h2,h3⟩:=hf (c (n+i));exact ⟨qaa ih.1 h2,λj q hj=>(h3 j q (qa3 hj ih.1)).trans (ih.2 j q hj)⟩
 let τ:Tape:=λj q=>if h: ∃n,j<(c n).1.2.2.2.drawn then (c h.choose).1.2.2.2.tape j q else 0
 have pG: ∀n,Ag (c n).1.2.2.2.drawn τ (c n).1.2.2.2.tape:=by
  intro n j q hj;have h: ∃n,j<(c n).1.2.2.2.drawn:=⟨n,hj⟩;show (if h: ∃n,j<(c n).1.2.2.2.drawn then (c h.choose).1.2.2.2.tape j q else 0)=_;rw [dif_pos h];have hc:=h.choose_spec;generalize h.choose=p at hc;rcases Nat.le_total p n with hle | hle
  ·have:=(Yx p (n - p)).2 j q hc;rw [show p+(n - p)=n by omega] at this;exact this.symm
  ·have:=(Yx n (p - n)).2 j q hj;rw [show n+(p - n)=p by omega] at this;exact this
 obtain ⟨n,hg⟩:=H τ (by
  have:=pG 0;intro j q hj;exact this j q hj)
 obtain ⟨h1,h2,h3,h4,h5⟩:=(c n).2;have hr:=h5 τ (pG n);rw [hlen n] at hr;obtain ⟨e1,e2,e3,e4⟩:=EC hg 0 _ _ _ hr;refine h2 ?_;rw [e1];exact .done e2 e3 (hQ _ _ _ e4)
end
end Go.Cx
namespace Go.Cx
open Go
variable[bg][aM][bk]
def keep:Frame:={ fn:=0,tmps:= #[.nilFunc],todo:=[.inRegion #[⟨some 0, .alloc 0,0,"", #[],none⟩] [0]],defers:=[],mode:= .run,kind:= .normal }
omit [bg] [aM] [bk] in
theorem QQ{v u:Value}(h:keep.finish v=keep.finish u):v=u:=by
 simp only [keep,Frame.finish,Frame.mk.injEq] at h;simpa using h.2.1
def zu(d:Nat)(σ:Tape)(D:Nat)(τ:Tape):Tape:=λj q=>if j<d then σ j q else τ (j - d+D) q
omit [bg] [aM] [bk] in
theorem VH(d:Nat)(σ:Tape)(D:Nat)(τ:Tape):Ag d (zu d σ D τ) σ:=λj q hj=>by unfold zu;rw [if_pos hj]
omit [bg] [aM] [bk] in
theorem EE(w W:World):iS (TW w (zu w.drawn w.tape W.drawn W.tape)) W:=λj q=>by
 show W.tape (W.drawn+j) q=zu w.drawn w.tape W.drawn W.tape (w.drawn+j) q;unfold zu;rw [if_neg (by omega),show w.drawn+j - w.drawn+W.drawn=W.drawn+j by omega]
inductive Path(L:Program)(a0:Frame)(k0:List Frame)(w0:World):Frame->List Frame->World->Prop
 | nil:Path L a0 k0 w0 a0 k0 w0
 | snoc {a:Frame} {k:List Frame} {w:World} {τ:Tape} {a1:Frame} {k1:List Frame} {w1:World} {es:Array Event}:Path L a0 k0 w0 a k w->Ag w.drawn τ w.tape->stepG L true (ig a (k++[cT])) (TW w τ)= .go (ig a1 (k1++[cT])) w1 es->
  (∀ch,a1.mode≠ .panicking ch)->Path L a0 k0 w0 a1 k1 w1
structure Ends(L:Program)(a:Frame)(w:World)(v:Value):Prop where
 mode:a.mode= .returning
 defers:a.defers=[]
 kind:a.kind= .normal
 res: ∃fn,L.funcs[a.fn]? =some fn/\ ∃τ,(results fn a.tmps).run L (TW w τ)= .ok v (TW w τ)
omit [bg] [aM] [bk] in
theorem Ends.of{L:Program}{a:Frame}{w:World}{v:Value}(h:a.leaving L w (.returned v)):Ends L a w v:=⟨h.1,h.2.1,h.2.2.1,let ⟨fn,h1,h2⟩:=h.2.2.2;⟨fn,h1,w.tape,h2⟩⟩
omit [bg] [aM] [bk] in
theorem Ends.tw{L:Program}{a:Frame}{w:World}{v:Value}{τ:Tape}(h:Ends L a (TW w τ) v):Ends L a w v:=⟨h.1,h.2,h.3,let ⟨fn,h1,σ,h2⟩:=h.4;⟨fn,h1,σ,h2⟩⟩
section
variable{L C:Program}{Xs:FuncId->Prop}{β:Bj}{bs':List Frame}{w W:World}{Q:Frame->World->Prop}
inductive QR(L C:Program)(Xs:FuncId->Prop)(Q:Frame->World->Prop)(bs':List Frame)(β:Bj)(a1:Frame)(k1:List Frame)(w1:World)(xS:Goroutine):Prop
 | on {b1:Frame} {US:List Frame}:cM L C β (a1::k1) (b1::US)->xS=ig b1 (US++bs')->QR L C Xs Q bs' β a1 k1 w1 xS
 | enter (f:FuncId) {x x':Array Value} {US:List Frame}:Xs f->aL β x x'->cM L C β k1 US->a1=Frame.enter L f x .normal->xS=ig (Frame.enter C f x' .normal) (US++bs')->QR L C Xs Q bs' β a1 k1 w1 xS
theorem H7(HP:gV L C)(HF:PF L C Xs){a b:Frame}{k k':List Frame}{m:Bool}(gr:cM L C β (a::k) (b::k'))(hw:cH β w W)
  (h1: ∀τ,Ag w.drawn τ w.tape-> ∃a1 k1 w1 es,stepG L true (ig a (k++[cT])) (TW w τ)= .go (ig a1 (k1++[cT])) w1 es/\ ∀ch,a1.mode≠ .panicking ch)
  (h2: ∀τ a1 k1 w1 es,Ag w.drawn τ w.tape->stepG L true (ig a (k++[cT])) (TW w τ)= .go (ig a1 (k1++[cT])) w1 es->xX L Q a1 k1 w1)
  {a0:Frame} {k0:List Frame} {w0:World} (hp:Path L a0 k0 w0 a k w):
  ∃cq a1 k1 w1 W1 xS es τ,stepG C m (ig b (k'++bs')) W= .go xS W1 es/\QR L C Xs Q bs' cq a1 k1 w1 xS/\cH cq w1 W1/\xX L Q a1 k1 w1/\Path L a0 k0 w0 a1 k1 w1/\
    mY β cq (TW w τ) w1 W W1/\(∀e∈es,uq cq w1 e)/\Ag w.drawn τ w.tape/\(∃uH,stepG L true (ig a (k++[cT])) (TW w τ)= .go (ig a1 (k1++[cT])) w1 uH)/\(Dw w->Dw w1):=by
 have xJ:=VH w.drawn w.tape W.drawn W.tape;obtain ⟨a1,k1,w1,es,e1,hc⟩:=h1 _ xJ;have ZO:=h2 _ _ _ _ _ xJ e1;have hB: ¬dm (ig a1 (k1++[cT])):=λ⟨ch,q⟩=>hc ch q;have P0:bs'≠[]\/k≠[]\/a.mode= .run\/a.defers≠[]:=by
  apply qa9;intro hn;simp only [not_or,Decidable.not_not] at hn;obtain ⟨-, rfl,hm,hd⟩:=hn;have rZ:=gr.top;have Qr:a.mode= .returning:=by rcases rZ.mode with ⟨h,_⟩ | ⟨h,_⟩;exact absurd h hm;exact h
  have hk:=rZ.kind.1;obtain ⟨fn,tm,todo,df,md,kd,ro⟩:=a;simp only at Qr hd hk;subst Qr;subst hd;subst hk;have wY:ro=none:=by
    cases gr with
    | one _ h=>exact h
    | cons _ h=>cases h
  obtain ⟨f,q1,q2⟩:=rZ.zm wY;simp only at q1;simp only [stepG,unwind,q1,qba] at e1;obtain ⟨tt,e1⟩:=uT e1;split at e1
  · simp only [doReturn,ri] at e1;injection e1 with e1
    simp only [Goroutine.mk.injEq] at e1;have:=e1.2.1;simp at this
  · cases e1
  · cases e1
 obtain ⟨cq,W1,xS,EA,e2,ho,Ay,hT,tZ⟩:=uW (m':=m) (t:=cT) (r:=[]) (bs':=bs') HP HF gr P0 (hw.tw _ W.tape) (EE w W) e1 hB;have acD:=hp.snoc xJ e1 hc;refine ⟨cq,a1,k1,w1,W1,xS,EA,_,e2, ?_,Ay,ZO,acD,hT,tZ,xJ,⟨es,e1⟩,(xV HP HF gr (hw.tw _ W.tape) e1 hB).2.2.1⟩;cases ho with
 | back hv hg _ Ke=>
  exfalso;simp only [ri,Goroutine.mk.injEq] at hg;have:=hg.2.1;simp at this
 | on fu=>
  generalize EF:ig a1 (k1++[cT])=gg at fu;cases fu with
  | on tv=>
    simp only [Goroutine.mk.injEq,List.append_cancel_right_eq] at EF;obtain ⟨rfl,rfl,_⟩:=EF;exact .on tv rfl
  | enter f hX hx hk=>
    simp only [Goroutine.mk.injEq,List.append_cancel_right_eq] at EF;obtain ⟨rfl,rfl,_⟩:=EF;exact .enter f hX hx hk rfl rfl
theorem H8(HP:gV L C)(HF:PF L C Xs){a b:Frame}{k':List Frame}{m:Bool}{t':Frame}{r':List Frame}(gr:cM L C β [a] (b::k'))(hw:cH β w W){v:Value}(hl:Ends L a w v):
  k'=[]/\ ∃cq v' W1 es τ,stepG C m (ig b (k'++t'::r')) W= .go (ig (t'.finish v') r') W1 es/\ay cq v v'/\cH cq w W1/\mY β cq (TW w τ) (TW w τ) W W1/\ ∀e∈es,uq cq (TW w τ) e:=by
 have hk:k'=[]:=by
  cases gr with
  | one _ _=>rfl
  | cons _ h=>cases h
 subst hk;refine ⟨rfl, ?_⟩;obtain ⟨m1,m2,m3,fn,m4,τ0,m5⟩:=hl;have e1: ∃es,stepG L true (ig a ([]++keep::[])) (TW w (zu w.drawn w.tape W.drawn W.tape))= .go (ig (keep.finish v) []) (TW w (zu w.drawn w.tape W.drawn W.tape)) es:=by
  have cE:(results fn a.tmps).run L (TW w (zu w.drawn w.tape W.drawn W.tape))= .ok v (TW w (zu w.drawn w.tape W.drawn W.tape)):=
   ((vI HP fn gr.top.tmps).tape (hw.tw τ0 W.tape) m5).2.2.2.2 _ (λj q h1 h2=>absurd h2 (qcm.2 h1))
  have hR:(results fn a.tmps).runT L (TW w (zu w.drawn w.tape W.drawn W.tape)) #[]=(.ok v (TW w (zu w.drawn w.tape W.drawn W.tape)),((results fn a.tmps).runT L (TW w (zu w.drawn w.tape W.drawn W.tape)) #[]).2):=by
   rw [←cE, ←Sem.runT_fst]
  refine ⟨seen L a.fn ((results fn a.tmps).runT L (TW w (zu w.drawn w.tape W.drawn W.tape)) #[]).2++ #[], ?_⟩;simp only [stepG,m1,unwind,m2,m4];rw [hR];simp only [doReturn,m3,GStep.after,qba]
 obtain ⟨es,e1⟩:=e1;have hB: ¬dm (ig (keep.finish v) []):=λ⟨ch,q⟩=>by cases q
 obtain ⟨cq,W1,xS,EA,e2,ho,Ay,hT,tZ⟩:=uW (m':=m) (t:=keep) (r:=[]) (bs':=t'::r') HP HF gr (.inl (by simp)) (hw.tw _ W.tape) (EE w W) e1 hB;cases ho with
 | @back u u' t2 r2 hv hg hb Ke=>
  injection hb with jm ZP
  subst jm;subst ZP;simp only [Goroutine.mk.injEq] at hg;have:=QQ hg.1;subst this;subst Ke;exact ⟨cq,u',W1,EA,_,e2,hv,⟨Ay.obj,Ay.inj,Ay.fn⟩,hT,tZ⟩
 | on fu=>
  exfalso;generalize EF:ig (keep.finish v) []=gg at fu;cases fu with
  | on tv=>simp only [Goroutine.mk.injEq] at EF;have:=EF.2.1;simp at this
  | enter f hX hx hk=>simp only [Goroutine.mk.injEq] at EF;have:=EF.2.1;simp at this
end
end Go.Cx
namespace Go.Cx
open Go
variable[bg][aM][bk]
section
variable{L:Program}
def Left(L:Program)(R:Value->World->Prop)(a:Frame)(w:World):Prop:= ∃v,Ends L a w v/\R v w
end
end Go.Cx
namespace Go.Cx
open Go
def zv:Nat->Value->Bool
 | _, .bool _ | _, .int _ _ | _, .string _ | _, .pointer none | _, .slice none _ _ | _, .nilFunc | _, .nilIface=>true
 | n+1, .agg x | n+1, .tuple x=>x.toList.all (zv n)
 | _,_=>false
theorem EG: ∀(n:Nat) (v:Value),zv n v=true->Plain v:=by
 have key: ∀(n:Nat),(∀v,zv n v=true->Plain v)-> ∀(x:Array Value),x.toList.all (zv n)=true-> ∀(i:Nat) (v:Value),x[i]? =some v->Plain v:=by
  intro n ih x h i v hv;exact ih v (qab.1 h v (by simpa using qb5 hv))
 intro n
 induction n with
 | zero=>
  intro v h;cases v with
  | bool b=>exact .bool b
  | int k n=>exact .int k n
  | string s=>exact .string s
  | nilFunc=>exact .qa
  | nilIface=>exact .jd
  | pointer a=>cases a with
   | none=>exact .pB
   | some a=>cases h
  | slice a l c=>cases a with
   | none=>exact .kT l c
   | some a=>cases h
  | _=>cases h
 | succ n ih=>
  intro v h;cases v with
  | bool b=>exact .bool b
  | int k n=>exact .int k n
  | string s=>exact .string s
  | nilFunc=>exact .qa
  | nilIface=>exact .jd
  | pointer a=>cases a with
   | none=>exact .pB
   | some a=>cases h
  | slice a l c=>cases a with
   | none=>exact .kT l c
   | some a=>cases h
  | agg x=>exact .agg (key n ih x h)
  | tuple x=>exact .tuple (key n ih x h)
  | _=>cases h
@[reducible] def ij(ok uo:FuncId->Bool):bg:=⟨λf=>ok f=true,λf=>uo f=true⟩
section
variable(ok uo:FuncId->Bool)
def xY:Operand->Bool
 | .tmp _=>true
 | .const v=>zv 8 v
 | .global _=>false
 | .func f=>ok f
theorem Ca{x:Operand}(h:xY ok x=true): @mf (ij ok uo) x:=by
 cases x with
 | tmp t=>trivial
 | const v=>exact EG 8 v h
 | global g=>cases h
 | func f=>exact h
def eqB(L:Program):Nat->TypeId->Bool
 | 0,_=>false
 | n+1,t=>match L.underlying t with
  | some .bool | some (.int _) | some .string | some (.slice _)=>true
  | some (.struct fs)=> !L.stoodInHeld t&&fs.toList.all λf=>eqB L n f.type
  | _=>false
theorem ZQ{L:Program}: ∀(n:Nat) (t:TypeId),eqB L n t=true->N2 L t:=by
 intro n
 induction n with
 | zero=>intro t h;cases h
 | succ n ih=>
  intro t h;unfold eqB at h;split at h
  ·rename_i e;exact .bool e
  ·rename_i e;exact .int e
  ·rename_i e;exact .string e
  ·rename_i e;exact .slice e
  ·rename_i fs e;simp only [qa4,qbh,qab] at h;exact .struct e h.1 λf hf=>ih _ (h.2 f (by simpa using hf))
  ·cases h
def VI(L:Program)(t:TypeId):Bool:=match L.underlying t with | some (.int _)=>true | _=>false
theorem MG{L:Program}{t:TypeId}(h:VI L t=true): ∃k,L.underlying t=some (.int k):=by
 unfold VI at h;split at h
 ·rename_i k e;exact ⟨k,e⟩
 ·cases h
def QS(L:Program)(s:TypeId)(i:Nat):Bool:=match L.underlying s with
 | some (.struct fs)=>match fs[i]? with
  | some f=>match L.info? f.type with
   | some inf=>inf.size != 0
   | none=>true
  | none=>true
 | _=>true
def zB(L:Program)(t:TypeId):Bool:=match L.info? t with | some i=>(match i.zero with | some v=>zv 8 v | none=>true) | none=>true
theorem MH{L:Program}{t:TypeId}(h:zB L t=true):UP L t:=by
 intro i v e1 e2;unfold zB at h;rw [e1] at h;simp only [e2] at h;exact EG 8 v h
def zsB(L:Program)(t:TypeId):Bool:=match L.underlying t with | some (.slice e)=>zB L e | _=>true
theorem KO{L:Program}{t:TypeId}(h:zsB L t=true):NS L t:=by
 intro e h1;unfold zsB at h;rw [h1] at h;exact MH h
def arB(L:Program)(t:TypeId):Bool:=match L.underlying t with | some (.array n _)=>n != 0 | _=>true
theorem ZR{L:Program}{t:TypeId}(h:arB L t=true): ∀n e,L.underlying t=some (.array n e)->n≠0:=λn e q=>by
 unfold arB at h;rw [q] at h;simpa using h
def MI:Callee->Bool
 | .value f=>xY ok f
 | .invoke r _=>xY ok r
 | .builtin b=>okB b
def H9(L C:Program):Op->Bool
 | .move x | .assign x | .box _ x | .load _ x | .nilCheck x | .unOp _ _ x | .makeInterface _ x | .extract x _ | .panic x=>xY ok x
 | .typeAssert x _ t _=>xY ok x&&zB L t
 | .sliceToArrayPointer t x=>xY ok x&&arB L t
 | .pick c a b=>xY ok c&&xY ok a&&xY ok b
 | .alloc t=>zB L t
 | .build t ps=>(ps.toList.all λp=>xY ok p.2)&&zB L t
 | .buildSlice t _ ps=>(ps.toList.all λp=>xY ok p.2)&&zsB L t
 | .makeSlice t a x=>xY ok a&&xY ok x&&zsB L t
 | .store _ a x | .indexAddr _ a x | .index _ a x=>xY ok a&&xY ok x
 | .binOp op t x y _=>xY ok x&&xY ok y&&(!(op matches .eql | .neq) || (eqB L 8 t&& !L.eqGuardType L.depth t&& !C.eqGuardType C.depth t))
 | .convert s d x=>xY ok x&&VI L s&&VI L d
 | .makeFunc (.func f) xs ys=>xs.toList.all (xY ok)&&ys.toList.all (xY ok)&&ok f
 | .slice _ x l h m=>xY ok x&&l.all (xY ok)&&h.all (xY ok)&&m.all (xY ok)
 | .fieldAddr s x i=>xY ok x&&QS L s i
 | .call c=>MI ok c.callee&&c.args.toList.all (xY ok)&&c.argTypes.toList.all (zsB L)
 | _=>false
theorem ou{α:Type}{p:α->Bool}{x:Array α}(h:x.toList.all p=true): ∀y∈x,p y=true:=λy hy=>qab.1 h y (by simpa using hy)
theorem FN{α:Type}{p:α->Bool}{x:Option α}(h:x.all p=true): ∀y∈x,p y=true:=λy hy=>by cases hy;exact h
theorem KP{c:Callee}(h:MI ok c=true): @B4 (ij ok uo) c:=by
 cases c with
 | value f=>exact Ca ok uo h
 | invoke r n=>exact Ca ok uo h
 | builtin b=>exact h
theorem ZS{L C:Program}{o:Op}(h:H9 ok L C o=true): @Kz (ij ok uo) L C o:=by
 have od:=fun {x:Operand} (h:xY ok x=true)=>Ca ok uo h;cases o with
 | move x=>exact od h
 | assign x=>exact od h
 | box t x=>exact od h
 | load t x=>exact od h
 | nilCheck x=>exact od h
 | unOp a t x=>exact od h
 | sliceToArrayPointer t x=>simp only [H9,qa4] at h;exact ⟨od h.1,ZR h.2⟩
 | makeInterface t x=>exact od h
 | extract x i=>exact od h
 | typeAssert x a b c=>simp only [H9,qa4] at h;exact ⟨od h.1,MH h.2⟩
 | panic x=>exact od h
 | pick c a b=>simp only [H9,qa4] at h;exact ⟨od h.1.1,od h.1.2,od h.2⟩
 | alloc t=>exact MH h
 | build t ps=>simp only [H9,qa4] at h;exact ⟨λp hp=>od (ou h.1 p hp),MH h.2⟩
 | buildSlice t n ps=>simp only [H9,qa4] at h;exact ⟨λp hp=>od (ou h.1 p hp),KO h.2⟩
 | store t a x=>simp only [H9,qa4] at h;exact ⟨od h.1,od h.2⟩
 | makeSlice t a x=>simp only [H9,qa4] at h;exact ⟨od h.1.1,od h.1.2,KO h.2⟩
 | indexAddr t a x=>simp only [H9,qa4] at h;exact ⟨od h.1,od h.2⟩
 | index t a x=>simp only [H9,qa4] at h;exact ⟨od h.1,od h.2⟩
 | binOp op t x y u=>
  simp only [H9,qa4] at h;refine ⟨od h.1.1,od h.1.2,λcU=> ?_⟩;have h2:=h.2;rcases cU with rfl | rfl <;>
   (simp only [qae,qck,qa4,qbh] at h2;exact ⟨ZQ 8 t h2.1.1,h2.1.2,h2.2⟩)
 | convert s d x=>simp only [H9,qa4] at h;exact ⟨od h.1.1,MG h.1.2,MG h.2⟩
 | makeFunc f xs ys=>
  cases f with
  | func f=>simp only [H9,qa4] at h;exact ⟨λx hx=>od (ou h.1.1 x hx),λx hx=>od (ou h.1.2 x hx),h.2⟩
  | _=>cases h
 | slice t x l hh m=>simp only [H9,qa4] at h;exact ⟨od h.1.1.1,λy hy=>od (FN h.1.1.2 y hy),λy hy=>od (FN h.1.2 y hy),λy hy=>od (FN h.2 y hy)⟩
 | fieldAddr s x i=>
  simp only [H9,qa4] at h;refine ⟨od h.1,λfs f inf e1 e2 e3=> ?_⟩;have h2:=h.2;unfold QS at h2;rw [e1] at h2;simp only [e2,e3] at h2;simpa using h2
 | call c=>simp only [H9,qa4] at h;exact ⟨KP ok uo h.1.1,λx hx=>od (ou h.1.2 x hx),λt ht=>KO (ou h.2 t ht)⟩
 | _=>cases h
def sb(L C:Program):Code->Bool
 | .skip | .exit _ | .label _ | .ret=>true
 | .region _ os _=>os.toList.all λo=>H9 ok L C o.op
 | .seq a b=>sb L C a&&sb L C b
 | .cond c a b=>xY ok c&&sb L C a&&sb L C b
 | .block _ a | .loop a=>sb L C a
 | .rangeFunc f _ a b=>xY ok f&&sb L C a&&sb L C b
 | _=>false
theorem Cc{L C:Program}: ∀(c:Code),sb ok L C c=true-> @cN (ij ok uo) L C c:=by
 intro c
 induction c with
 | skip=>intro _;exact @cN.skip (ij ok uo) L C
 | exit id=>intro _;exact @cN.exit (ij ok uo) L C id
 | label l=>intro _;exact @cN.label (ij ok uo) L C l
 | ret=>intro _;exact @cN.ret (ij ok uo) L C
 | region id os dr=>intro h;exact @cN.region (ij ok uo) L C id os dr λo ho=>ZS ok uo (ou h o ho)
 | seq a b ia ib=>intro h;simp only [sb,qa4] at h;exact @cN.seq (ij ok uo) L C a b (ia h.1) (ib h.2)
 | cond c a b ia ib=>intro h;simp only [sb,qa4] at h;exact @cN.cond (ij ok uo) L C c a b (Ca ok uo h.1.1) (ia h.1.2) (ib h.2)
 | block id a ia=>intro h;exact @cN.block (ij ok uo) L C id a (ia h)
 | loop a ia=>intro h;exact @cN.loop (ij ok uo) L C a (ia h)
 | rangeFunc f ps a b ia ib=>intro h;simp only [sb,qa4] at h;exact @cN.rangeFunc (ij ok uo) L C f ps a b (Ca ok uo h.1.1) (ia h.1.2) (ib h.2)
 | _=>intro h;cases h
end
end Go.Cx
namespace Go.Cx
open Go
theorem FO{info:TypeId->Option TypeInfo}{d:TypeDesc}{i:TypeInfo}(h:Made.reckon info d=some i):i.methods= #[]/\ ∀s n,i.desc≠ .named s n:=by
 have fu: ∀fs,Made.reckonStruct info fs=some i->i.methods= #[]/\ ∀s n,i.desc≠ .named s n:=by
  intro fs h;unfold Made.reckonStruct at h;simp only [bind,qam] at h;obtain ⟨r,_,h⟩:=h;split at h
  all_goals (simp only [pure,qah] at h;subst h;exact ⟨rfl,λs n q=>by cases q⟩)
 unfold Made.reckon at h;cases d with
 | struct fs=>exact fu fs h
 | pointer e=>
  simp only [bind,qam] at h;obtain ⟨j,_,h⟩:=h;split at h
  ·cases h
  ·split at h
   ·cases h
   ·simp only [qam,pure,qah] at h;obtain ⟨_,_,h⟩:=h;subst h;exact ⟨rfl,λs n q=>by cases q⟩
  ·simp only [qam,pure,qah] at h;obtain ⟨_,_,h⟩:=h;subst h;exact ⟨rfl,λs n q=>by cases q⟩
 | slice e=>
  simp only [bind,qam,pure,qah] at h;obtain ⟨_,_,_,_,h⟩:=h;subst h;exact ⟨rfl,λs n q=>by cases q⟩
 | map k e=>
  simp only [bind,qam,pure,qah] at h;obtain ⟨_,_,_,_,_,_,_,_,h⟩:=h;subst h;exact ⟨rfl,λs n q=>by cases q⟩
 | chan dir e=>
  simp only [bind,qam,pure,qah] at h;obtain ⟨_,_,_,_,h⟩:=h;subst h;exact ⟨rfl,λs n q=>by cases q⟩
 | func ps rs v=>
  simp only [bind,qam,pure,qah] at h;obtain ⟨_,_,h⟩:=h;subst h;exact ⟨rfl,λs n q=>by cases q⟩
 | array n e=>
  simp only [bind,qam,pure,qah] at h;obtain ⟨_,_,_,_,h⟩:=h;subst h;exact ⟨rfl,λs n q=>by cases q⟩
 | _=>cases h
theorem FP{T:Tables}{n:Nat}{t:TypeId}{i:TypeInfo}(ht: ¬t<T.types.size)(h:Made.infoAt T n t=some i):i.methods= #[]/\ ∀s n,i.desc≠ .named s n:=by
 cases n with
 | zero=>cases h
 | succ n=>
  unfold Made.infoAt at h;rw [if_neg ht] at h;simp only [qam] at h;obtain ⟨d,_,h⟩:=h;exact FO h
theorem Ia{T:Tables}{R:TypeInfo->Prop}(hm: ∀i,i.methods= #[]->(∀s n,i.desc≠ .named s n)->R i)(hT: ∀i∈T.types,R i){t:TypeId}{i:TypeInfo}(h:T.info? t=some i):R i:=by
 unfold Tables.info? at h;split at h
 ·exact hT i (qb5 h)
 ·rename_i ht;obtain ⟨h1,h2⟩:=FP ht h;exact hm i h1 h2
end Go.Cx
namespace Go.Cx
open Go
def blank:Func:={ name:= "",origin:= "",params:= #[],resultTypes:= #[],nfree:=0,ntmps:=0,results:= #[],body:=none,norace:=false,tmpNames:= #[] }
section
variable{p q:Program}(hT:p.toTables=q.toTables)
include hT
theorem rj(t:TypeId):p.info? t=q.info? t:=by rw [hT]
theorem Cd(t:TypeId):p.underlying t=q.underlying t:=by unfold Program.underlying;simp only [rj hT]
theorem uX(t:TypeId):p.cellsOf t=q.cellsOf t:=by unfold Program.cellsOf;rw [rj hT]
theorem xZ(t:TypeId):p.bytesOf t=q.bytesOf t:=by unfold Program.bytesOf;rw [rj hT]
theorem ya:p.depth=q.depth:=by unfold Program.depth;rw [hT]
theorem EH: ∀(d:Nat) (t:TypeId) (o:Nat),byteOfCell p d t o=byteOfCell q d t o:=by
 intro d
 induction d with
 | zero=>intro t o;rfl
 | succ d ih=>intro t o;unfold byteOfCell;simp only [Cd hT,uX hT,xZ hT,ih]
theorem Ol: ∀(d:Nat) (t:TypeId) (o:Nat),cellOfByte p d t o=cellOfByte q d t o:=by
 intro d
 induction d with
 | zero=>intro t o;rfl
 | succ d ih=>intro t o;unfold cellOfByte;simp only [Cd hT,uX hT,xZ hT,ih]
theorem ZT(d:Nat)(e:TypeId)(n o:Nat)(k:Int):cellAtBytes p d e n o k=cellAtBytes q d e n o k:=by
 unfold cellAtBytes;simp only [uX hT,xZ hT,EH hT,Ol hT]
theorem QT: ∀(d:Nat) (a b:TypeId),p.alikeButTags d a b=q.alikeButTags d a b:=by
 intro d
 induction d with
 | zero=>intro a b;rfl
 | succ d ih=>intro a b;unfold Program.alikeButTags;simp only [rj hT,ih]
theorem VJ(t:TypeId):p.stoodInHeld t=q.stoodInHeld t:=by
 unfold Program.stoodInHeld Program.stoodInAs Program.underlyingId;simp only [Cd hT,rj hT,QT hT,ya hT];rw [hT]
end
variable[aM][bk]
section
variable{L C:Program}(ok uo:FuncId->Bool)
def tyB(i:TypeInfo):Bool:=(match i.desc with | .named s _=>s != "sync.copyChecker" | _=>true)&&i.methods.toList.all λm=>m.path.toList.isEmpty&&match m.func with | some (f,_)=>ok f | none=>true
omit [aM] [bk] in
theorem QU{i:TypeInfo}(h:tyB ok i=true):(∀n,i.desc≠ .named "sync.copyChecker" n)/\ ∀m∈i.methods,m.path.toList=[]/\ ∀f b,m.func=some (f,b)->ok f=true:=by
 simp only [tyB,qa4] at h;refine ⟨λn q=> ?_,λm hm=> ?_⟩
 ·have h1:=h.1;rw [q] at h1;simp at h1
 ·have h2:=ou h.2 m hm;simp only [qa4,List.isEmpty_iff] at h2;refine ⟨h2.1,λf b q=> ?_⟩;have h3:=h2.2;rw [q] at h3;exact h3
omit [aM] [bk] in
theorem KQ [bg]{f:FuncId}(hf:L.funcs[f]? =some blank)(h1:(Extern.findNext blank).isNone=true)(h2:(Extern.find blank).isNone=true)(args:Array Value):aT L (callFunc f args):=by
 unfold callFunc;refine aT.prog ?_;rw [hf];have e1:Extern.findNext blank=none:=by simpa using h1
 have e2:Extern.find blank=none:=by simpa using h2
 have e3:(blank.name== "runtime.NumGoroutine")=false:=rfl;have e4:blank.body.isNone=true:=rfl;simp only [e1,e2,e3,e4,if_true,qa6,if_false];refine aT.bind λ_=> ?_;rw [if_neg (by decide)];exact aT.halt
omit [aM] [bk] in
theorem MJ(hT:L.toTables=C.toTables)(hg:C.globals.size=0)(hty:C.types.toList.all (tyB ok)=true)
  (hf: ∀(f:FuncId) (fn:Func),L.funcs[f]? =some fn->fn.body.isNone=false->uo f=true/\(fn.name== "runtime.NumGoroutine")=false/\ ∃kl:Func,C.funcs[f]? =some kl/\kl.body.isNone=false/\(kl.name== "runtime.NumGoroutine")=false)
  (hb: ∀(f:FuncId) (fn:Func),L.funcs[f]? =some fn->fn.body.isNone=true->fn=blank) (h1:(Extern.findNext blank).isNone=true) (h2:(Extern.find blank).isNone=true): @gV (ij ok uo) L C:=
 letI:=ij ok uo
 {info:=λt=>(rj hT t).symm
  und:=λt=>(Cd hT t).symm
  PY:=by rw [hT]
  fns:=hf
  gl:=by rw [hT];exact hg
  sih:=λt=>(VJ hT t).symm
  cc:=λt i n h=>by
   have h:C.info? t=some i:=(rj hT t).symm.trans h;exact Ia (R:=λi=> ∀n,i.desc≠ .named "sync.copyChecker" n) (λi _ h n=>h _ n) (λi hi=>(QU ok (ou hty i hi)).1) h n
  cab:=λe n o k=>by rw [ZT hT,ya hT,uX hT]
  bof:=λe off=>⟨(uX hT e).symm,by rw [EH hT,ya hT],(xZ hT e).symm⟩
  mp:=λt i m h hm=>by
   have h:C.info? t=some i:=(rj hT t).symm.trans h;exact Ia (R:=λi=> ∀m∈i.methods,m.path.toList=[]/\ ∀f b,m.func=some (f,b)->ok f=true) (λi h _ m hm=>by rw [h] at hm;simp at hm) (λi hi=>(QU ok (ou hty i hi)).2) h m hm
  nob:=λf fn h hn args=>by
   have:=hb f fn h hn;subst this;exact KQ h h1 h2 args }
end
end Go.Cx
namespace Go.Cx
open Go
def Pt(C:Program)(X:FuncId)(fX:Func)(keep:FuncId->Bool):Program:={ C with funcs:=C.funcs.mapIdx λi fn=>if i=X then fX else if keep i then fn else blank }
theorem uY(C:Program)(X:FuncId)(fX:Func)(keep:FuncId->Bool)(f:FuncId):(Pt C X fX keep).funcs[f]? =(C.funcs[f]?).map λfn=>if f=X then fX else if keep f then fn else blank:=by
 show (C.funcs.mapIdx _)[f]? =_;rw [Array.getElem?_mapIdx]
def mh(ok:FuncId->Bool)(L C:Program)(fn:Func):Bool:=fn.name != "runtime.NumGoroutine"&&match fn.body with | some c=>sb ok L C c | none=>false
theorem kY{ok:FuncId->Bool}{L C:Program}{fn:Func}(h:mh ok L C fn=true):(fn.name== "runtime.NumGoroutine")=false/\ ∃c,fn.body=some c/\sb ok L C c=true:=by
 simp only [mh,qa4,bne_iff_ne] at h;refine ⟨by simpa using h.1, ?_⟩;have h2:=h.2;split at h2
 ·rename_i c e;exact ⟨c,e,h2⟩
 ·cases h2
@[reducible] def xa(ok uo:FuncId->Bool)(L C:Program):aM:=⟨λc=> @cN (ij ok uo) L C c⟩
section
variable[bk]{C:Program}{X:FuncId}{fX gX:Func}{keep ok:FuncId->Bool}
def oT(X:FuncId)(keep:FuncId->Bool)(n:Nat)(f:FuncId):Bool:=(f==X || keep f)&&decide (f<n)
omit [bk] in
theorem sd{D:Program}(hk:(List.range C.funcs.size).all (λf=> !(keep f) || f==X || match C.funcs[f]? with | some fn=>mh ok (Pt C X fX keep) D fn | none=>true)=true){f:FuncId}{fn:Func}(hf:C.funcs[f]? =some fn)(zn:keep f=true)(hX:f≠X):mh ok (Pt C X fX keep) D fn=true:=by
 have bG:=(qa1.1 hf).1;have:=qab.1 hk f (by simpa using bG);rw [hf,zn] at this;simpa [hX] using this
omit [bk] in
theorem ZU(hg:C.globals.size=0)(hty:C.types.toList.all (tyB ok)=true)(h1:(Extern.findNext blank).isNone=true)(h2:(Extern.find blank).isNone=true)
  (hX:mh ok (Pt C X fX keep) (Pt C X fX keep) fX=true) (hgX:C.funcs[X]? =some gX) (hgb:gX.body.isNone=false/\(gX.name== "runtime.NumGoroutine")=false)
  (hk:(List.range C.funcs.size).all (λf=> !(keep f) || f==X || match C.funcs[f]? with | some fn=>mh ok (Pt C X fX keep) C fn | none=>true)=true):
  @gV (ij ok (oT X keep C.funcs.size)) (Pt C X fX keep) C/\ @PF (ij ok (oT X keep C.funcs.size)) (xa ok (oT X keep C.funcs.size) (Pt C X fX keep) C) (Pt C X fX keep) C (λf=>f=X):=by
 letI:aM:=⟨λ_=>True⟩
 constructor
 ·refine MJ ok _ rfl hg hty ?_ ?_ h1 h2
  ·intro f fn hf hb;rw [uY] at hf;cases hc:C.funcs[f]? with
   | none=>rw [hc] at hf;cases hf
   | some fc=>
    have bG:=(qa1.1 hc).1;rw [hc,qac,qah] at hf;by_cases DX:f=X
    ·subst DX;rw [if_pos rfl] at hf;subst hf;obtain ⟨k1,c,k2,k3⟩:=kY hX;exact ⟨by simp [oT,bG],k1,gX,(by rw [←hc];exact hgX),hgb⟩
    ·rw [if_neg DX] at hf;cases DK:keep f with
     | false=>rw [DK] at hf;simp at hf;subst hf;cases hb
     | true=>
      rw [DK,if_pos rfl] at hf;subst hf;obtain ⟨k1,c,k2,k3⟩:=kY (sd hk hc DK DX);exact ⟨by simp [oT,DK,bG],k1,fc,rfl,hb,k1⟩
  ·intro f fn hf hb;rw [uY] at hf;cases hc:C.funcs[f]? with
   | none=>rw [hc] at hf;cases hf
   | some fc=>
    rw [hc,qac,qah] at hf;by_cases DX:f=X
    ·rw [if_pos DX] at hf;subst hf;obtain ⟨k1,c,k2,k3⟩:=kY hX;rw [k2] at hb;cases hb
    ·rw [if_neg DX] at hf;cases DK:keep f with
     | false=>rw [DK] at hf;simpa using hf.symm
     | true=>
      rw [DK,if_pos rfl] at hf;subst hf;obtain ⟨k1,c,k2,k3⟩:=kY (sd hk hc DK DX);rw [k2] at hb;cases hb
 ·refine @PF.mk (ij ok (oT X keep C.funcs.size)) (xa ok (oT X keep C.funcs.size) (Pt C X fX keep) C) _ _ _ ?_ rfl ?_
  ·intro f ur qX FR;have Ib:oT X keep C.funcs.size f=true:=qX;simp only [oT,qa4,qc3,beq_iff_eq,decide_eq_true_eq] at Ib;obtain ⟨h | DK,bG⟩:=Ib
   ·exact absurd h FR
   ·have hc:=Array.getElem?_eq_getElem bG;obtain ⟨k1,c,k2,k3⟩:=kY (sd hk hc DK FR);exact ⟨_,c,by rw [uY,hc,qac,if_neg FR,if_pos DK],hc,k2,Cc ok _ c k3⟩
  ·intro c;exact Iff.rfl
omit [bk] in
theorem VK(hg:C.globals.size=0)(hty:C.types.toList.all (tyB ok)=true)(h1:(Extern.findNext blank).isNone=true)(h2:(Extern.find blank).isNone=true)
  (hX:mh ok (Pt C X fX keep) (Pt C X fX keep) fX=true) (hgX:X<C.funcs.size)
  (hk:(List.range C.funcs.size).all (λf=> !(keep f) || f==X || match C.funcs[f]? with | some fn=>mh ok (Pt C X fX keep) (Pt C X fX keep) fn | none=>true)=true):
  @gV (ij ok (oT X keep C.funcs.size)) (Pt C X fX keep) (Pt C X fX keep)/\ @PF (ij ok (oT X keep C.funcs.size)) (xa ok (oT X keep C.funcs.size) (Pt C X fX keep) (Pt C X fX keep)) (Pt C X fX keep) (Pt C X fX keep) (λ_=>False):=by
 letI:aM:=⟨λ_=>True⟩;have Ce: ∀(f:FuncId) (fn:Func),(Pt C X fX keep).funcs[f]? =some fn->f<C.funcs.size/\((f=X/\fn=fX)\/(f≠X/\keep f=true/\C.funcs[f]? =some fn)\/fn=blank):=by
  intro f fn hf;rw [uY] at hf;cases hc:C.funcs[f]? with
  | none=>rw [hc] at hf;cases hf
  | some fc=>
   have bG:=(qa1.1 hc).1;rw [hc,qac,qah] at hf;by_cases DX:f=X
   ·rw [if_pos DX] at hf;exact ⟨bG, .inl ⟨DX,hf.symm⟩⟩
   ·rw [if_neg DX] at hf;cases DK:keep f with
    | false=>rw [DK] at hf;exact ⟨bG, .inr (.inr (by simpa using hf.symm))⟩
    | true=>rw [DK,if_pos rfl] at hf;exact ⟨bG, .inr (.inl ⟨DX,rfl,hf▸rfl⟩)⟩
 constructor
 ·refine MJ ok _ rfl hg hty ?_ ?_ h1 h2
  ·intro f fn hf hb;obtain ⟨bG,⟨rfl,rfl⟩ | ⟨DX,DK,hc⟩ | rfl⟩:=Ce f fn hf
   ·obtain ⟨k1,c,k2,k3⟩:=kY hX;exact ⟨by simp [oT,bG],k1,fn,hf,hb,k1⟩
   ·obtain ⟨k1,c,k2,k3⟩:=kY (sd hk hc DK DX);exact ⟨by simp [oT,DK,bG],k1,fn,hf,hb,k1⟩
   ·cases hb
  ·intro f fn hf hb;obtain ⟨bG,⟨rfl,rfl⟩ | ⟨DX,DK,hc⟩ | rfl⟩:=Ce f fn hf
   ·obtain ⟨k1,c,k2,k3⟩:=kY hX;rw [k2] at hb;cases hb
   ·obtain ⟨k1,c,k2,k3⟩:=kY (sd hk hc DK DX);rw [k2] at hb;cases hb
   ·rfl
 ·refine @PF.mk (ij ok (oT X keep C.funcs.size)) (xa ok (oT X keep C.funcs.size) (Pt C X fX keep) (Pt C X fX keep)) _ _ _ ?_ rfl ?_
  ·intro f ur qX _;have Ib:oT X keep C.funcs.size f=true:=qX;simp only [oT,qa4,qc3,beq_iff_eq,decide_eq_true_eq] at Ib;obtain ⟨h,bG⟩:=Ib;have hc:=Array.getElem?_eq_getElem bG;by_cases DX:f=X
   ·obtain ⟨k1,c,k2,k3⟩:=kY hX;have e:(Pt C X fX keep).funcs[f]? =some fX:=by rw [uY,hc,qac,if_pos DX]
    exact ⟨fX,c,e,e,k2,Cc ok _ c k3⟩
   ·have DK:keep f=true:=by rcases h with h | h;exact absurd h DX;exact h
    obtain ⟨k1,c,k2,k3⟩:=kY (sd hk hc DK DX);have e:(Pt C X fX keep).funcs[f]? =some C.funcs[f]:=by rw [uY,hc,qac,if_neg DX,if_pos DK]
    exact ⟨_,c,e,e,k2,Cc ok _ c k3⟩
  ·intro c;exact Iff.rfl
end
end Go.Cx
namespace Go.Cx
open Go
variable[bg][aM][bk]
end Go.Cx
namespace Go.Cx
open Go
variable[bg][aM][bk]
theorem cH.other{β:Bj}{w W W':World}(h:cH β w W)(hs: ∀a b,β a b->W'.heap[b]? =W.heap[b]?):cH β w W':=
 ⟨λa b hb=>let ⟨o,o',h1,h2,h3⟩:=h.obj a b hb;⟨o,o',h1,(hs a b hb).trans h2,h3⟩,h.inj,h.fn⟩
end Go.Cx
namespace Go.Cx
open Go
def nf(S:Nat->Prop):Bj:=λa b=>a=b/\S a
end Go.Cx
namespace Go.Cx
open Go Go.Conc
inductive Rk where
 | leaf
 | node (f:World->Rk)
def Rk.lt(x y:Rk):Prop:= ∃f i,y= .node f/\x=f i
theorem Rk.acc(x:Rk):Acc Rk.lt x:=by
 induction x with
 | leaf=>exact ⟨_,λy ⟨f,i,h,_⟩=>by cases h⟩
 | node f ih=>
  refine ⟨_, ?_⟩;rintro y ⟨g,i,h1,rfl⟩;cases h1;exact ih i
def Ga(n:Nat)(x y:Nat->Rk):Prop:= ∃i,i<n/\Rk.lt (x i) (y i)/\ ∀k,k<n->k≠i->x k=y k
theorem Ga.acc: ∀(n:Nat) (y:Nat->Rk),Acc (Ga n) y
 | 0,y=>⟨_,λx ⟨i,hi,_⟩=>absurd hi (qar _)⟩
 | n+1,y=>by
  have key: ∀(z:Rk), ∀(y:Nat->Rk),y n=z->Acc (Ga (n+1)) y:=by
   intro z
   induction z.acc with
   | intro z _ ih1=>
    intro y hy;have hA:=Ga.acc n y
    induction hA with
    | intro y _ ih2=>
     refine ⟨_, ?_⟩;rintro x ⟨i,hi,h1,h2⟩;rcases Nat.lt_or_ge i n with bG | hge
     ·have e:x n=y n:=h2 n (Nat.lt_succ_self n) (by omega);exact ih2 x ⟨i,bG,h1,λk hk hn=>h2 k (Nat.lt_succ_of_lt hk) hn⟩ (e.trans hy)
     ·obtain rfl:i=n:=by omega
      exact ih1 (x i) (hy▸h1) x rfl
  exact key _ y rfl
theorem Ga.wf(n:Nat):WellFounded (Ga n):=⟨Ga.acc n⟩
structure Ry(Iv:World->Prop)(K:Nat->Prop)(w w₁:World):Prop where
 blk: ∀b,K b->w₁.heap[b]? =w.heap[b]?
 size:w.heap.size<=w₁.heap.size
 iv:Iv w₁
theorem Ry.trans{Iv:World->Prop}{K:Nat->Prop}{a b c:World}(h:Ry Iv K a b)(k:Ry Iv K b c):Ry Iv K a c:=
 ⟨λx hx=>(k.blk x hx).trans (h.blk x hx),qaa h.size k.size,k.iv⟩
def VL(S Ro:Nat->Prop)(e:Event):Prop:=
 (e.sync=false/\((∃ad,e.loc= .cell ad/\(S ad.block\/(Ro ad.block/\e.write=false)))\/(∃r,e.loc= .obj r/\S r)))\/e=⟨.mark .noRoom,false,true⟩
def nw(S:Nat->Prop)(w w':World):Nat->Prop:=λb=>S b\/(w.heap.size<=b/\b<w'.heap.size)
structure Ow(S Ro:Nat->Prop)(w w':World)(es:Array Event):Prop where
 tape:w'.tape=w.tape
 os:w'.os=w.os
 output:w'.output=w.output
 size:w.heap.size<=w'.heap.size
 blk: ∀b,b<w.heap.size-> ¬S b->w'.heap[b]? =w.heap[b]?
 ev: ∀e∈es,VL (nw S w w') Ro e
theorem Ow.still(S Ro:Nat->Prop)(w:World):Ow S Ro w w #[]:=⟨rfl,rfl,rfl,qa2 _,λ_ _ _=>rfl,λe he=>by simp at he⟩
section
variable(P:Program)(main:Bool)(Iv:World->Prop)(Ro:Nat->Prop)(Stop:(Nat->Prop)->Goroutine->World->Prop)
def Wk:Rk->(Nat->Prop)->Goroutine->World->Prop
 | .leaf,S,g,w=> ∀w₁,Ry Iv (λb=>S b\/Ro b) w w₁->Stop S g w₁
 | .node f,S,g,w=> ∀w₁,Ry Iv (λb=>S b\/Ro b) w w₁->Stop S g w₁\/
  (g.status= .running/\ ∃g' w' es,stepG P main g w₁= .go g' w' es/\Ow S Ro w₁ w' es/\Wk (f w₁) (nw S w₁ w') g' w')
def eO(S:Nat->Prop)(g:Goroutine)(w:World):Prop:= ∃r,Wk P main Iv Ro Stop r S g w
end
section
variable{P:Program}{main:Bool}{Iv:World->Prop}{Ro:Nat->Prop}{Stop:(Nat->Prop)->Goroutine->World->Prop}{S:Nat->Prop}{g:Goroutine}{w w₁:World}
theorem Wk.rely{r:Rk}(h:Wk P main Iv Ro Stop r S g w)(hr:Ry Iv (λb=>S b\/Ro b) w w₁):Wk P main Iv Ro Stop r S g w₁:=by
 cases r with
 | leaf=>exact λZV ZW=>h ZV (hr.trans ZW)
 | node f=>exact λZV ZW=>h ZV (hr.trans ZW)
theorem Ry.refl{K:Nat->Prop}(hi:Iv w):Ry Iv K w w:=⟨λ_ _=>rfl,qa2 _,hi⟩
theorem Wk.cases{r:Rk}(h:Wk P main Iv Ro Stop r S g w)(hi:Iv w):Stop S g w\/(g.status= .running/\ ∃g' w' es r',stepG P main g w= .go g' w' es/\Ow S Ro w w' es/\Rk.lt r' r/\Wk P main Iv Ro Stop r' (nw S w w') g' w'):=by
 cases r with
 | leaf=>exact .inl (h w (.refl hi))
 | node f=>
  rcases h w (.refl hi) with h | ⟨hs,g',w',es,h1,h2,h3⟩
  ·exact .inl h
  ·exact .inr ⟨hs,g',w',es,_,h1,h2,⟨f,w,rfl,rfl⟩,h3⟩
theorem eO.rely(h:eO P main Iv Ro Stop S g w)(hr:Ry Iv (λb=>S b\/Ro b) w w₁):eO P main Iv Ro Stop S g w₁:=let ⟨r,h⟩:=h;⟨r,h.rely hr⟩
open Classical in
theorem eO.mk(h: ∀w₁,Ry Iv (λb=>S b\/Ro b) w w₁->Stop S g w₁\/(g.status= .running/\ ∃g' w' es,stepG P main g w₁= .go g' w' es/\Ow S Ro w₁ w' es/\eO P main Iv Ro Stop (nw S w₁ w') g' w')):eO P main Iv Ro Stop S g w:=by
 have h': ∀w₁, ∃r:Rk,Ry Iv (λb=>S b\/Ro b) w w₁->Stop S g w₁\/(g.status= .running/\ ∃g' w' es,stepG P main g w₁= .go g' w' es/\Ow S Ro w₁ w' es/\Wk P main Iv Ro Stop r (nw S w₁ w') g' w'):=λw₁=>by
  by_cases hw:Ry Iv (λb=>S b\/Ro b) w w₁
  ·rcases h w₁ hw with h1 | ⟨hs,g',w',es,h1,h2,r',h3⟩
   ·exact ⟨.leaf,λ_=> .inl h1⟩
   ·exact ⟨r',λ_=> .inr ⟨hs,g',w',es,h1,h2,h3⟩⟩
  ·exact ⟨.leaf,λq=>absurd q hw⟩
 exact ⟨.node λw₁=>(h' w₁).choose,λw₁ hw=>(h' w₁).choose_spec hw⟩
theorem eO.cases(h:eO P main Iv Ro Stop S g w)(hi:Iv w):Stop S g w\/(g.status= .running/\ ∃g' w' es,stepG P main g w= .go g' w' es/\Ow S Ro w w' es/\eO P main Iv Ro Stop (nw S w w') g' w'):=by
 obtain ⟨r,h⟩:=h;rcases h.cases hi with h | ⟨hs,g',w',es,r',h1,h2,_,h3⟩
 ·exact .inl h
 ·exact .inr ⟨hs,g',w',es,h1,h2,r',h3⟩
theorem eO.now(h: ∀w₁,Ry Iv (λb=>S b\/Ro b) w w₁->eO P main Iv Ro Stop S g w₁):eO P main Iv Ro Stop S g w:=eO.mk λw₁ hw=>(h w₁ hw).cases hw.iv
theorem eO.stop(h: ∀w₁,Ry Iv (λb=>S b\/Ro b) w w₁->Stop S g w₁):eO P main Iv Ro Stop S g w:=⟨.leaf,h⟩
theorem eO.step(hs:g.status= .running)(h: ∀w₁,Ry Iv (λb=>S b\/Ro b) w w₁-> ∃g' w' es,stepG P main g w₁= .go g' w' es/\Ow S Ro w₁ w' es/\eO P main Iv Ro Stop (nw S w₁ w') g' w'):eO P main Iv Ro Stop S g w:=eO.mk λw₁ hw=> .inr ⟨hs,h w₁ hw⟩
theorem eO.bind{Ic:(Nat->Prop)->Goroutine->World->Prop}(h:eO P main Iv Ro Stop S g w)(k: ∀S g w,Iv w->Stop S g w->eO P main Iv Ro Ic S g w):eO P main Iv Ro Ic S g w:=by
 obtain ⟨r,h⟩:=h
 induction r generalizing S g w with
 | leaf=>exact eO.now λw₁ hw=>k _ _ _ hw.iv (h w₁ hw)
 | node f ih=>
  refine eO.mk λw₁ hw=> ?_;rcases h w₁ hw with h | ⟨hs,g',w',es,h1,h2,h3⟩
  ·exact (k _ _ _ hw.iv h).cases hw.iv
  ·exact .inr ⟨hs,g',w',es,h1,h2,ih _ h3⟩
end
end Go.Cx
namespace Go.Cx
open Go Go.Conc
variable[bg][aM][bk]
def SO(β:Bj)(w:World)(b:Nat):Prop:=(∃a,β a b)/\ ¬gU β w b
section
variable{β cq:Bj}{w w1 W W1:World}
omit [bg] [aM] [bk] in
theorem mY.sf(hT:mY β cq w w1 W W1)(b:Nat):gU cq w1 b↔gU β w b:=by
 constructor
 ·intro h;have h':=h;obtain ⟨a,c,e,h1,h2,h3⟩:=h;rcases hT.fresh a b h1 with q | ⟨_,_,_,q⟩
  ·exact qa9 λhn=>hT.unlock b ⟨a,q⟩ hn h'
  ·exact (q h').elim
 ·exact hT.Es b
theorem mY.so(hw:cH β w W)(hT:mY β cq w w1 W W1)(b:Nat):SO cq w1 b↔nw (SO β w) W W1 b:=by
 unfold SO nw;rw [hT.sf];show _↔((∃a,β a b)/\ ¬gU β w b)\/_
 constructor
 ·rintro ⟨⟨a,h1⟩,h2⟩;rcases hT.fresh a b h1 with q | ⟨_,q1,q2,_⟩
  ·exact .inl ⟨⟨a,q⟩,h2⟩
  ·exact .inr ⟨q1,q2⟩
 ·rintro (⟨⟨a,h1⟩,h2⟩ | ⟨h1,h2⟩)
  ·exact ⟨⟨a,hT.le _ _ h1⟩,h2⟩
  ·refine ⟨hT.all b h1 h2, ?_⟩;rintro ⟨a,c,e,q1,q2,q3⟩;exact absurd (hw.PX q1) (qcm.2 h1)
omit [bg] [aM] [bk] in
theorem QV{S S':Nat->Prop}(h: ∀b,S b↔S' b){b:Nat}:nw S W W1 b↔nw S' W W1 b:=by
 unfold nw;rw [h b]
theorem mY.ow{S Ro:Nat->Prop}(hw:cH β w W)(hT:mY β cq w w1 W W1)(hS: ∀b,S b↔SO β w b)(hR: ∀b,gU β w b->Ro b){es:Array Event}(he: ∀e∈es,uq cq w1 e):Ow S Ro W W1 es where
 tape:=hT.tape
 os:=hT.os
 output:=hT.output
 size:=hT.size
 blk:=λb hb hn=>by
  by_cases h: ∃a,β a b
  ·by_cases hl:gU β w b
   ·exact hT.lock b hl
   ·exact absurd ((hS b).2 ⟨h,hl⟩) hn
  ·exact hT.stay b hb λa ha=>h ⟨a,ha⟩
 ev:=λe q=>by
  have hso: ∀b,SO cq w1 b->nw S W W1 b:=λb hb=>by
   rcases (hT.so hw b).1 hb with h | h
   ·exact .inl ((hS b).2 h)
   ·exact .inr h
  rcases he e q with ⟨h0,⟨ad,a,h1,h2,h3⟩ | ⟨r,a,h1,h2,h3⟩⟩ | h
  ·refine .inl ⟨h0, .inl ⟨ad,h1, ?_⟩⟩;by_cases hl:gU cq w1 ad.block
   ·refine .inr ⟨hR _ ((hT.sf _).1 hl), ?_⟩;cases Yy:e.write with
    | false=>rfl
    | true=>exact absurd hl (h3 Yy)
   ·exact .inl (hso _ ⟨⟨a,h2⟩,hl⟩)
  ·exact .inl ⟨h0, .inr ⟨r,h1,hso _ ⟨⟨a,h2⟩,h3⟩⟩⟩
  ·exact .inr h
end
section
variable{L C:Program}{m:Bool}{Iv:World->Prop}{Ro:Nat->Prop}{c:Frame}{cs:List Frame}{R:Value->World->Prop}
def VM(L:Program)(β0:Bj)(w0:World)(Ro:Nat->Prop)(R:Value->World->Prop)(c:Frame)(cs:List Frame)(S:Nat->Prop)(g:Goroutine)(W:World):Prop:=
 ∃β w v v',g=ig (c.finish v') cs/\R v w/\ay β v v'/\cH β w W/\Dw w/\Le β0 β/\(∀b,gU β w b↔gU β0 w0 b)/\(∀b,S b↔SO β w b)/\(∀b,gU β w b->Ro b)
theorem Ry.rel{S:Nat->Prop}{β:Bj}{w W KR:World}(hr:Ry Iv (λb=>S b\/Ro b) W KR)(hw:cH β w W)(hS: ∀b,S b↔SO β w b)(hR: ∀b,gU β w b->Ro b):cH β w KR:=
 hw.other λa b nW=>hr.blk b (by
  by_cases hl:gU β w b
  ·exact .inr (hR b hl)
  ·exact .inl ((hS b).2 ⟨⟨a,nW⟩,hl⟩))
theorem Om{Xs:FuncId->Prop}(HP:gV L C)(HF:PF L C Xs)(hX: ∀f x k w,Xs f-> ¬xX L (Left L R) (Frame.enter L f x .normal) k w)(β0:Bj)(w0:World){a:Frame}{k:List Frame}{w:World}(hW:xX L (Left L R) a k w):
  ∀{β:Bj} {b:Frame} {k':List Frame} {W:World} {S:Nat->Prop},cM L C β (a::k) (b::k')->cH β w W->Dw w->Le β0 β->(∀b,gU β w b↔gU β0 w0 b)->(∀b,S b↔SO β w b)->(∀b,gU β w b->Ro b)->
   eO C m Iv Ro (VM L β0 w0 Ro R c cs) S (ig b (k'++c::cs)) W:=by
 induction hW with
 | @done a w hm hd hq=>
  intro β b k' W S gr hw hD hle Ys hS hR;obtain ⟨v,hE,hRv⟩:=hq;refine eO.step rfl λKR hr=> ?_;have Ay:=hr.rel hw hS hR;obtain ⟨rfl,cq,v',W2,es,τ,e1,e2,e3,e4,e5⟩:=H8 (m:=m) (t':=c) (r':=cs) HP HF gr Ay hE;have QW:cH β (TW w τ) KR:=⟨Ay.obj,Ay.inj,Ay.fn⟩;refine ⟨_,_,_,e1,e4.ow (Ro:=Ro) QW hS hR e5,eO.stop λW3 hr3=> ?_⟩;have Kf: ∀b,nw S KR W2 b↔SO cq w b:=λb=>(QV hS).trans (e4.so QW b).symm;have hR': ∀b,gU cq w b->Ro b:=λb h=>hR b ((e4.sf b).1 h);exact ⟨cq,w,v,v',rfl,hRv,e2,hr3.rel e3 Kf hR',hD,hle.trans e4.le,λb=>(e4.sf b).trans (Ys b),Kf,hR'⟩
 | @step a k w h1 h2 ih=>
  intro β b k' W S gr hw hD hle Ys hS hR;refine eO.step rfl λKR hr=> ?_;have Ay:=hr.rel hw hS hR;obtain ⟨cq,a1,k1,w1,W1,xS,es,τ,e1,e2,e3,_,_,e4,e5,e6,⟨uH,e7⟩,e8⟩:=H7 (m:=m) (bs':=c::cs) HP HF gr Ay h1 h2 .nil;have QW:cH β (TW w τ) KR:=⟨Ay.obj,Ay.inj,Ay.fn⟩;cases e2 with
  | enter f P2 _ _ ha _=>exact (hX f _ _ _ P2 (ha▸h2 _ _ _ _ _ e6 e7)).elim
  | @on b1 US tv hg=>
   subst hg;refine ⟨_,_,_,e1,e4.ow (Ro:=Ro) QW hS hR e5,ih _ _ _ _ _ e6 e7 tv e3 (e8 hD) (hle.trans e4.le) (λb=>(e4.sf b).trans (Ys b)) (λb=>(QV hS).trans (e4.so QW b).symm) λb h=>hR b ((e4.sf b).1 h)⟩
end
end Go.Cx
namespace Go.Cx
open Go Go.Conc
variable[bg][aM][bk]
section
variable{L C:Program}{m:Bool}{Iv:World->Prop}{Ro:Nat->Prop}{c:Frame}{cs:List Frame}{R:Value->World->Prop}
theorem MK{Xs:FuncId->Prop}(HP:gV L C)(HF:PF L C Xs)(hX: ∀f x k w,Xs f-> ¬xX L (Left L R) (Frame.enter L f x .normal) k w){f:FuncId}(ur:bg.ok f)(qX:bg.uo f)(FR: ¬Xs f){x x':Array Value}{β:Bj}{w W:World}{S:Nat->Prop}
  (hW:xX L (Left L R) (Frame.enter L f x .normal) [] w) (hx:aL β x x') (hw:cH β w W) (hD:Dw w) (hS: ∀b,S b↔SO β w b) (hR: ∀b,gU β w b->Ro b):
  eO C m Iv Ro (VM L β w Ro R c cs) S (ig (Frame.enter C f x' .normal) (c::cs)) W:=by
 obtain ⟨fn,cd,g1,g2,g3,g4⟩:=HF.same f ur qX FR;have gr:cM L C β [Frame.enter L f x .normal] [Frame.enter C f x' .normal]:= .one (pU g1 g2 g3 g4 hx) rfl;exact Om HP HF hX β w hW gr hw hD (Le.refl _) (λb=>Iff.rfl) hS hR
end
end Go.Cx
namespace Go.Cx
open Go Go.Conc
instance hU:bk:=⟨λv=> ∀t w,v≠ .iface t w,λt w h=>h t w rfl⟩
section
variable(F:bg)(T:Nat->Prop)
theorem FT(x:Array Value)(h: ∀v∈x, ∃u, @ay F hU (nf T) u v): ∃y:Array Value,y.size=x.size/\ ∀(i:Nat) (u v:Value),y[i]? =some u->x[i]? =some v-> @ay F hU (nf T) u v:=by
 classical
 refine ⟨x.map λv=>if q: ∃u, @ay F hU (nf T) u v then q.choose else v,by simp,λi u v hu hv=> ?_⟩;rw [qc8,hv,qac,qah] at hu;have q:=h v (qb5 hv);rw [dif_pos q] at hu;exact hu▸q.choose_spec
theorem ng{v:Value}(h:Odd v)(k: ∀t w,v≠ .iface t w): ∃u, @ay F hU (nf T) u v:=⟨_, @ay.hole F hU _ _ h k⟩
theorem vJ: ∀(v:Value), ∃u, @ay F hU (nf T) u v
 | .bool b=>⟨_, @ay.bool F hU _ b⟩
 | .int k n=>⟨_, @ay.int F hU _ k n⟩
 | .float k n=>ng F T trivial nofun
 | .complex k n m=>ng F T trivial nofun
 | .string s=>⟨_, @ay.string F hU _ s⟩
 | .pointer none=>⟨_, @ay.pB F hU _⟩
 | .pointer (some a)=>ng F T trivial nofun
 | .slice none n c=>⟨_, @ay.kT F hU _ n c⟩
 | .slice (some a) n c=>ng F T trivial nofun
 | .map r=>ng F T trivial nofun
 | .chan r=>ng F T trivial nofun
 | .func (.func f) x y=>ng F T trivial nofun
 | .func (.yield f) x y=>ng F T trivial nofun
 | .func (.methodOf t n) x y=>ng F T trivial nofun
 | .func (.via t p f q) x y=>ng F T trivial nofun
 | .func (.method n) x y=>by
  obtain ⟨x',h1,h2⟩:=FT F T x λv hv=>vJ v;obtain ⟨y',h3,h4⟩:=FT F T y λv hv=>vJ v;exact ⟨_, @ay.func F hU _ _ _ _ _ _ _ (@DU.method F _ n) h1 h3 (λi u v a b=>h2 i u v a b) (λi u v a b=>h4 i u v a b)⟩
 | .nilFunc=>⟨_, @ay.qa F hU _⟩
 | .iface t v=>let ⟨u,h⟩:=vJ v;⟨_, @ay.iface F hU _ t _ _ h⟩
 | .nilIface=>⟨_, @ay.jd F hU _⟩
 | .agg x=>by
  obtain ⟨x',h1,h2⟩:=FT F T x λv hv=>vJ v;exact ⟨_, @ay.agg F hU _ _ _ h1 (λi u v a b=>h2 i u v a b)⟩
 | .tuple x=>ng F T trivial nofun
termination_by v=>SizeOf.sizeOf v
decreasing_by
 all_goals first | (have:=Array.sizeOf_lt_of_mem hv;simp_wf;omega) | (simp_wf;omega)
open Classical in
noncomputable def QX(v:Value):Value:=if @ay F hU (nf T) v v then v else (vJ F T v).choose
theorem ML(v:Value): @ay F hU (nf T) (QX F T v) v:=by
 unfold QX;split
 ·assumption
 ·exact (vJ F T v).choose_spec
theorem Ie{v:Value}(h: @ay F hU (nf T) v v):QX F T v=v:=by
 unfold QX;rw [if_pos h]
open Classical in
noncomputable def Fw(W:World):World:={ W with heap:=W.heap.mapIdx λb o=>if T b then (match o with | .cells c e _=> .cells (c.map (QX F T)) e (0,c.size+1) | _=> .cells #[] 0) else .cells #[] 0 }
variable{W:World}
theorem vK:(Fw F T W).heap.size=W.heap.size:=by simp [Fw]
theorem Cf{b:Nat}{c:Array Value}{e:TypeId}{f:Nat×Nat}(hT:T b)(h:W.heap[b]? =some (.cells c e f)):(Fw F T W).heap[b]? =some (.cells (c.map (QX F T)) e (0,c.size+1)):=by
 show (W.heap.mapIdx _)[b]? =_;rw [Array.getElem?_mapIdx,h,qac,if_pos hT]
theorem QY:Dw (Fw F T W):=by
 intro r ds hr;have hr:(W.heap.mapIdx _)[r]? =_:=hr;rw [Array.getElem?_mapIdx] at hr;cases ho:W.heap[r]? with
 | none=>rw [ho] at hr;cases hr
 | some o=>
  rw [ho,qac,qah] at hr;split at hr
  ·split at hr <;> cases hr
  ·cases hr
theorem KS(K:aM)(hT: ∀b,T b-> ∃c e f,W.heap[b]? =some (.cells c e f)):
  @cH F K hU (nf T) (Fw F T W) W/\(∀b,T b↔gU (nf T) (Fw F T W) b):=by
 letI:bg:=F;letI:aM:=K;letI:bk:=hU;refine ⟨⟨?_, ?_, ?_⟩,λb=>⟨λh=> ?_,λ⟨a,c,e,h,_⟩=> ?_⟩⟩
 ·rintro a b ⟨rfl,hb⟩;obtain ⟨c,e,f,h1⟩:=hT a hb;refine ⟨_,_,Cf F T hb h1,h1, ?_⟩;have:= @tn.lock F K hU (nf T) (c.map (QX F T)) c f e ⟨by simp,λi v v' hv Hz=> ?_⟩
  ·simpa using this
  ·rw [qc8,Hz] at hv;cases hv;exact ML F T v'
 ·rintro a a' b ⟨rfl,_⟩ ⟨rfl,_⟩;rfl
 ·rintro a b b' ⟨rfl,_⟩ ⟨rfl,_⟩;rfl
 ·obtain ⟨c,e,f,h1⟩:=hT b h;exact ⟨b,c.map (QX F T),e,⟨rfl,h⟩,trivial,by rw [Cf F T h h1,Array.size_map]⟩
 ·obtain ⟨rfl,h⟩:=h;exact h
theorem yb{a:Addr}{v:Value}(hT:T a.block)(h:W.cell? a=some v)(hv: @ay F hU (nf T) v v):(Fw F T W).cell? a=some v:=by
 letI:bg:=F;letI:aM:=⟨λ_=>True⟩;letI:bk:=hU;obtain ⟨c,e,f,h1,h2,h3⟩:=rW h;refine cell_of (Cf F T hT h1) h2 ?_;rw [qc8,h3,qac,Ie F T hv]
end
end Go.Cx
namespace Go.Cx
open Go Go.Conc Go.ConcN
def jf:Loc->Nat->Prop
 | .cell a,b=>a.block=b
 | .obj r,b=>r=b
 | _,_=>False
theorem jf.inj{l:Loc}{b c:Nat}(h:jf l b)(k:jf l c):b=c:=by
 cases l <;> first | exact h.symm.trans k | exact h.elim
def wj(A:Nat->Prop)(l:Loc):Prop:= ∃b,jf l b/\A b
structure TI(Sh dm:Loc->Prop)(act live:Nat->Prop)(S Rd:Nat->Nat->Prop)(sz N:Nat)(t:Trace):Prop where
 quiet:Quiet Sh t
 own: ∀k,live k-> ∀l,wj (S k) l->Perm t k l
 rd: ∀k,live k-> ∀l,wj (Rd k) l->PermW t k l
 free: ∀l,l.isMemory=true-> ¬Sh l-> ¬dm l->(∀k,act k-> ¬wj (S k) l/\ ¬wj (Rd k) l)->Perm t 0 l
 mine: ∀l,l.isMemory=true-> ¬Sh l-> ¬dm l->(∀k,act k-> ¬wj (S k) l)->PermW t 0 l
 Oq: ∀i a,touchAt t i=some a->a.loc.isMemory=true-> ¬Sh a.loc-> ¬dm a.loc->Knows t 0 i\/ ∃k,act k/\t.g? i=some k/\a.kind= .plain
 nr: ∀said, ¬Race said t
 gs: ∀(i:Nat) (op:MemOp),t[i]? =some op->op.g<=N
 fresh: ∀i a,touchAt t i=some a-> ∀b,jf a.loc b->b<sz
structure Apr(Sh dm:Loc->Prop)(act live:Nat->Prop)(S Rd:Nat->Nat->Prop):Prop where
 la: ∀k,live k->act k
 own: ∀k k' b,act k->act k'->S k b->S k' b->k=k'
 ownRd: ∀k k' b,act k->act k'->S k b-> ¬Rd k' b
 ownSh: ∀k l,act k->wj (S k) l-> ¬Sh l/\ ¬dm l
 rdSh: ∀k l,act k->wj (Rd k) l-> ¬Sh l/\ ¬dm l
def TOk(Sh dm:Loc->Prop)(act live:Nat->Prop)(S Rd:Nat->Nat->Prop)(g:Nat)(x:Touch):Prop:=
 (Sh x.loc/\x.kind≠ .plain/\(x.kind= .said->g=0))\/
 (¬Sh x.loc/\ ¬dm x.loc/\g=0/\(∀k,act k-> ¬wj (S k) x.loc)/\(x.write=true-> ∀k,act k-> ¬wj (Rd k) x.loc))\/
 (live g/\x.kind= .plain/\wj (S g) x.loc)\/
 (live g/\x.kind= .plain/\wj (Rd g) x.loc/\x.write=false)
section
variable{Sh dm:Loc->Prop}{act live:Nat->Prop}{S S' Rd:Nat->Nat->Prop}{sz Yz N g:Nat}{t u:Trace}
theorem Perm.none{k:Nat}{l:Loc}{b:Nat}(h:TI Sh dm act live S Rd sz N t)(hl:jf l b)(hb:sz<=b):Perm t k l:=by
 intro i a ha e;have:=h.fresh i a ha b (e▸hl);omega
theorem TI.app(h:TI Sh dm act live S Rd sz N t)(hg: ∀op∈u,op.g=g)(hN:g<=N)(h0: ¬live 0)(mS:sz<=Yz)(hS: ∀k b,S k b->S' k b)(Kf: ∀k b,S' k b->S k b\/sz<=b)
  (A:Apr Sh dm act live S' Rd) (rZ: ∀op∈u, ∀x,op.act.touch? =some x-> ∀b,jf x.loc b->b<Yz) (hu: ∀op∈u, ∀x,op.act.touch? =some x->TOk Sh dm act live S' Rd g x):
  TI Sh dm act live S' Rd Yz N (t++u):=by
 have lin: ∀{k l},wj (S k) l->wj (S' k) l:=λ⟨b,h1,h2⟩=>⟨b,h1,hS _ _ h2⟩;have acE: ∀k,live k-> ∀l,wj (S' k) l->Perm t k l:=λk hk l ⟨b,h1,h2⟩=>by
  rcases Kf _ _ h2 with h3 | h3
  ·exact h.own k hk l ⟨b,h1,h3⟩
  ·exact Perm.none h h1 h3
 have YA: ∀l,l.isMemory=true-> ¬Sh l-> ¬dm l->(∀k,act k-> ¬wj (S' k) l/\ ¬wj (Rd k) l)->Perm t 0 l:=λl hm hs hb hk=>h.free l hm hs hb λk ha=>⟨λq=>(hk k ha).1 (lin q),(hk k ha).2⟩;have YB: ∀l,l.isMemory=true-> ¬Sh l-> ¬dm l->(∀k,act k-> ¬wj (S' k) l)->PermW t 0 l:=λl hm hs hb hk=>h.mine l hm hs hb λk ha q=>hk k ha (lin q);refine ⟨?_,λk hk l hl=> ?_,λk hk l hl=> ?_,λl hm hs hb hk=> ?_,λl hm hs hb hk=> ?_,λi a ha hm hs hb=> ?_,λsaid=> ?_,λi op hi=> ?_,λi a ha b hb=> ?_⟩
 ·refine h.quiet.app λop cU x hx hs=> ?_;rcases hu op cU x hx with ⟨_,h2,h3⟩ | ⟨h1,_⟩ | ⟨h1,_,h3⟩ | ⟨h1,_,h3,_⟩
  ·exact ⟨h2,λe=>(hg op cU).trans (h3 e)⟩
  ·exact absurd hs h1
  ·exact absurd hs (A.ownSh g _ (A.la g h1) h3).1
  ·exact absurd hs (A.rdSh g _ (A.la g h1) h3).1
 ·refine (acE k hk l hl).app λop cU x hx e=> ?_;subst e;rcases hu op cU x hx with ⟨h1,_⟩ | ⟨_,_,_,h1,_⟩ | ⟨h1,_,b,h3,h4⟩ | ⟨h1,_,⟨b,h3,h4⟩,_⟩
  ·exact absurd h1 (A.ownSh k _ (A.la k hk) hl).1
  ·exact absurd hl (h1 k (A.la k hk))
  ·obtain ⟨c,h5,h6⟩:=hl;have:=jf.inj h3 h5;subst this;exact (hg op cU).trans (A.own _ _ _ (A.la g h1) (A.la k hk) h4 h6)
  ·obtain ⟨c,h5,h6⟩:=hl;have:=jf.inj h3 h5;subst this;exact absurd h4 (A.ownRd _ _ _ (A.la k hk) (A.la g h1) h6)
 ·refine (h.rd k hk l hl).app λop cU x hx e hw=> ?_;subst e;rcases hu op cU x hx with ⟨h1,_⟩ | ⟨_,_,_,_,h1⟩ | ⟨h1,_,b,h3,h4⟩ | ⟨_,_,_,h1⟩
  ·exact absurd h1 (A.rdSh k _ (A.la k hk) hl).1
  ·exact absurd hl (h1 hw k (A.la k hk))
  ·obtain ⟨c,h5,h6⟩:=hl;have:=jf.inj h3 h5;subst this;exact absurd h6 (A.ownRd _ _ _ (A.la g h1) (A.la k hk) h4)
  ·rw [h1] at hw;cases hw
 ·refine (YA l hm hs hb hk).app λop cU x hx e=> ?_;subst e;rcases hu op cU x hx with ⟨h1,_⟩ | ⟨_,_,h1,_⟩ | ⟨h1,_,h3⟩ | ⟨h1,_,h3,_⟩
  ·exact absurd h1 hs
  ·exact (hg op cU).trans h1
  ·exact absurd h3 (hk g (A.la g h1)).1
  ·exact absurd h3 (hk g (A.la g h1)).2
 ·refine (YB l hm hs hb hk).app λop cU x hx e hw=> ?_;subst e;rcases hu op cU x hx with ⟨h1,_⟩ | ⟨_,_,h1,_⟩ | ⟨h1,_,h3⟩ | ⟨_,_,_,h1⟩
  ·exact absurd h1 hs
  ·exact (hg op cU).trans h1
  ·exact absurd h3 (hk g (A.la g h1))
  ·rw [h1] at hw;cases hw
 ·obtain ⟨x,hx,KT⟩:=touch_of ha;rcases getElem?_append_cases hx with ⟨hi,yc⟩ | ⟨_,ZX⟩
  ·rcases h.Oq i a (by rw [touchAt_of yc];exact KT) hm hs hb with q | ⟨k,h1,h2,h3⟩
   ·exact .inl (q.app u)
   ·exact .inr ⟨k,h1,by rw [g?_old hi];exact h2,h3⟩
  ·have hgx:x.g=g:=hg x ZX;rcases hu x ZX a KT with ⟨h1,_⟩ | ⟨_,_,h1,_⟩ | ⟨h1,h2,_⟩ | ⟨h1,h2,_⟩
   ·exact absurd h1 hs
   ·have:=knows_own hx;rw [hgx,h1] at this;exact .inl this
   ·exact .inr ⟨g,A.la g h1,by simp [Trace.g?, hx,hgx],h2⟩
   ·exact .inr ⟨g,A.la g h1,by simp [Trace.g?, hx,hgx],h2⟩
 ·refine noRace_append (h.nr said) hg λi a ha op cU b hb hc=> ?_;rcases hu op cU b hb with ⟨h1,h2,h3⟩ | ⟨h1,h2,h3,h4,h5⟩ | ⟨h1,_,h3⟩ | ⟨h1,_,h3,h4⟩
  ·exact h.quiet.known h1 h2 h3 i a ha hc
  ·subst h3;cases VN:b.write with
   | true=>exact YA b.loc (hc.1▸hc.2.1) h1 h2 (λk hk=>⟨h4 k hk,h5 VN k hk⟩) i a ha hc.1
   | false=>exact YB b.loc (hc.1▸hc.2.1) h1 h2 h4 i a ha hc.1 (hc.2.2.1.resolve_right (by simp [VN]))
  ·exact acE g h1 b.loc h3 i a ha hc.1
  ·exact h.rd g h1 b.loc h3 i a ha hc.1 (hc.2.2.1.resolve_right (by simp [h4]))
 ·rcases getElem?_append_cases hi with ⟨_,gA⟩ | ⟨_,ZY⟩
  ·exact h.gs i op gA
  ·rw [hg op ZY];exact hN
 ·obtain ⟨x,hx,KT⟩:=touch_of ha;rcases getElem?_append_cases hx with ⟨hi,yc⟩ | ⟨_,ZX⟩
  ·exact qa3 (h.fresh i a (by rw [touchAt_of yc];exact KT) b hb) mS
  ·exact rZ x ZX a KT b hb
end
end Go.Cx
namespace Go.Cx
open Go Go.Conc Go.ConcN
section
variable{Sh dm:Loc->Prop}{act live acF YC:Nat->Prop}{S S' Rd Rd':Nat->Nat->Prop}{sz Yz N g:Nat}{t u:Trace}
theorem TI.congr(h:TI Sh dm act live S Rd sz N t)(la: ∀k,live k->act k)(hS: ∀k,act k->S' k=S k)(hR: ∀k,act k->Rd' k=Rd k):TI Sh dm act live S' Rd' sz N t:=
 ⟨h.quiet,λk hk=>by rw [hS k (la k hk)];exact h.own k hk,λk hk=>by rw [hR k (la k hk)];exact h.rd k hk,
  λl hm hs hb hk=>h.free l hm hs hb λk ha=>by have:=hk k ha;rw [hS k ha,hR k ha] at this;exact this,
  λl hm hs hb hk=>h.mine l hm hs hb λk ha=>by have:=hk k ha;rw [hS k ha] at this;exact this,h.Oq,h.nr,h.gs,h.fresh⟩
theorem TI.less(h:TI Sh dm act live S Rd sz N t)(hl: ∀k,YC k->live k):TI Sh dm act YC S Rd sz N t:=
 ⟨h.quiet,λk hk=>h.own k (hl k hk),λk hk=>h.rd k (hl k hk),h.free,h.mine,h.Oq,h.nr,h.gs,h.fresh⟩
theorem oU{x y:MemOp}(hx:x.act.touch? =none)(hy:y.act.touch? =none){i:Nat}{a:Touch}(h:touchAt (t++ #[x,y]) i=some a):touchAt t i=some a/\i<t.size:=by
 obtain ⟨z,hz,VO⟩:=touch_of h;rcases getElem?_append_cases hz with ⟨hi,ZZ⟩ | ⟨_,hzu⟩
 ·exact ⟨by rw [touchAt_of ZZ];exact VO,hi⟩
 ·simp only [List.mem_toArray,qa8,qap,or_false] at hzu;rcases hzu with rfl | rfl
  ·rw [hx] at VO;cases VO
  ·rw [hy] at VO;cases VO
theorem VP{A:Nat->Prop}{l:Loc}(h:wj A l):l.isMemory=true:=by
 obtain ⟨b,h,_⟩:=h;cases l <;> first | rfl | exact h.elim
theorem TI.fork(h:TI Sh dm act live S Rd sz N t)(la: ∀k,live k->act k)(hN: ∀k,act k->k<=N)(hS: ∀b, ¬S (N+1) b)(hR: ∀l,wj (Rd (N+1)) l-> ¬Sh l/\ ¬dm l/\ ∀k,act k-> ¬wj (S k) l)
  {x y:MemOp} (hx:x.g=0/\x.act= .go (N+1)) (hy:y.g=N+1/\y.act= .start) (h0:Deaf t 0=0):
  TI Sh dm (λk=>act k\/k=N+1) (λk=>live k\/k=N+1) S Rd sz (N+1) (t++ #[x,y]):=by
 have nx:x.act.touch? =none:=by rw [hx.2];rfl
 have ny:y.act.touch? =none:=by rw [hy.2];rfl
 have hk:Deaf t (N+1)=0:=Deaf_absent λi op hi e=>by have:=h.gs i op hi;omega
 have Ig: ∀op∈ #[x,y], ∀b,op.act.touch? =some b->False:=by
  intro op cU b hb;simp only [List.mem_toArray,qa8,qap,or_false] at cU;rcases cU with rfl | rfl
  · rw [nx] at hb;cases hb
  · rw [ny] at hb;cases hb
 refine ⟨h.quiet.app λop cU b hb _=>(Ig op cU b hb).elim,λk rG l hl=> ?_,λk rG l hl=> ?_,λl hm hs hb rG=> ?_,λl hm hs hb rG=> ?_,λi a ha hm hs hb=> ?_,λsaid=> ?_,λi op hi=> ?_,λi a ha b hb=> ?_⟩
 ·rcases rG with rG | rfl
  · exact (h.own k rG l hl).app λop cU b hb _=>(Ig op cU b hb).elim
  · obtain ⟨b,_,hb⟩:=hl;exact absurd hb (hS b)
 ·rcases rG with rG | rfl
  · exact (h.rd k rG l hl).app λop cU b hb _ _=>(Ig op cU b hb).elim
  · obtain ⟨q1,q2,q3⟩:=hR l hl;exact λi a ha e hw=>fork_knows hx hy h0 hk (h.mine l (VP hl) q1 q2 q3 i a (oU nx ny ha).1 e hw)
 ·exact (h.free l hm hs hb λk ha=>rG k (.inl ha)).app λop cU b hb _=>(Ig op cU b hb).elim
 ·exact (h.mine l hm hs hb λk ha=>rG k (.inl ha)).app λop cU b hb _ _=>(Ig op cU b hb).elim
 ·obtain ⟨ha',hi⟩:=oU nx ny ha;rcases h.Oq i a ha' hm hs hb with q | ⟨k,q1,q2,q3⟩
  · exact .inl (q.app _)
  · exact .inr ⟨k, .inl q1,by rw [g?_old hi];exact q2,q3⟩
 ·have e:t++ #[x,y]=(t++ #[x])++ #[y]:=by apply qcn;simp
  rw [e];refine noRace_append (g:=N+1) (noRace_append (g:=0) (h.nr said) (λop cU=>by simp at cU;rw [cU];exact hx.1) (λi a _ op cU b hb _=>(Ig op (by simp at cU ⊢;exact .inl cU) b hb).elim))
    (λop cU=>by simp at cU;rw [cU];exact hy.1) (λi a _ op cU b hb _=>(Ig op (by simp at cU ⊢;exact .inr cU) b hb).elim)
 ·rcases getElem?_append_cases hi with ⟨_,gA⟩ | ⟨_,ZY⟩
  · exact Nat.le_succ_of_le (h.gs i op gA)
  · simp only [List.mem_toArray,qa8,qap,or_false] at ZY;rcases ZY with rfl | rfl
    ·rw [hx.1];exact qa7 _
    ·rw [hy.1];exact qa2 _
 ·exact h.fresh i a (oU nx ny ha).1 b hb
def HO(act:Nat->Prop)(t:Trace):Prop:= ∀i g,t.g? i=some g->g≠0-> ¬act g->t.counts i-> ∃j,t.g? j=some 0/\HappensBefore t i j
theorem HO.app(h:HO act t)(hg: ∀op∈u,op.g=g)(hu:g=0\/act g\/ ∀i,t.size<=i-> ¬(t++u).counts i):HO act (t++u):=by
 intro i k hk h0 ha hc;obtain ⟨op,ho,cU⟩:=qbl.1 hk;rcases getElem?_append_cases ho with ⟨hi,Ih⟩ | ⟨hi,VQ⟩
 ·obtain ⟨j,h1,h2⟩:=h i k (by rw [←g?_old (u:=u) hi];exact hk) h0 ha ((counts_old hi).1 hc);have hj:j<t.size:=by
   obtain ⟨z,hz,_⟩:=qbl.1 h1;exact lt_size_of_getElem? hz
  exact ⟨j,by rw [g?_old hj];exact h1,hb_app u h2⟩
 ·have e:g=k:=(hg op VQ).symm.trans cU;subst e;rcases hu with q | q | q
  ·exact absurd q h0
  ·exact absurd q ha
  ·exact absurd hc (q i hi)
theorem HO.more(h:HO act t)(ha: ∀k,act k->acF k):HO acF t:=λi g h1 h2 h3 h4=>h i g h1 h2 (λq=>h3 (ha g q)) h4
theorem KU{a:Addr}{k r i:Nat}(h:RelBy a t k r)(hg:t.g? i=some k)(hc:t.counts i):Before t i r:=by
 have hle:i<=r:=Nat.le_of_not_lt λbG=>h.after i bG hg hc;rcases Nat.lt_or_ge i r with bG | hge
 ·exact .inr (.single (.inl ⟨bG,k,hg,h.g⟩))
 ·exact .inl (by omega)
theorem TI.acquire(h:TI Sh dm act live S Rd sz N t){a:Addr}{T0:Nat}(eN: ∀k,act k-> ∃r,RelBy a t k r/\T0<=r)(hn: ∀i,T0<=i->t.act? i≠some (.mark (.release a)))(h0:Deaf t 0=0){x:MemOp}(hx:x.g=0/\x.act= .mark (.acquire a))(hO:HO act t)(NQ: ∀k,act k->k≠0):
  TI (λ_=>False) (λl=>dm l\/Sh l) (λ_=>False) (λ_=>False) S Rd sz N (t++ #[x])/\HO (λ_=>False) (t++ #[x]):=by
 have nx:x.act.touch? =none:=by rw [hx.2];rfl
 have hxp:(t++ #[x])[t.size]? =some x:=by rw [Array.getElem?_append_right (qa2 _)];simp
 have hxh:(t++ #[x]).heard t.size:=⟨0,by simp [Trace.g?, hx.1],by rw [deaf_old (qa2 _)];exact h0⟩;have old: ∀{i:Nat} {b:Touch},touchAt (t++ #[x]) i=some b->touchAt t i=some b/\i<t.size:=by
  intro i b hb;obtain ⟨z,hz,VO⟩:=touch_of hb;rcases getElem?_append_cases hz with ⟨hi,ZZ⟩ | ⟨_,hzu⟩
  ·exact ⟨by rw [touchAt_of ZZ];exact VO,hi⟩
  ·simp at hzu;subst hzu;rw [nx] at VO;cases VO
 have af7: ∀k,act k-> ∀r,RelBy a t k r->T0<=r->HappensBefore (t++ #[x]) r t.size:=λk _ r hr hT=>by
  have hrs:=lt_of_act? hr.act;exact .single (.inr ⟨.marked hrs (.inr (by rw [act?_old hrs];exact hr.act)) (by rw [act?_of hxp,hx.2]) (λj h1 h2=>by rw [act?_old h2];exact hn j (qaa hT (Nat.le_of_lt h1))),(heard_old hrs).2 hr.heard,hxh⟩)
 have kn: ∀i k,act k->t.g? i=some k->t.counts i->HappensBefore (t++ #[x]) i t.size:=λi k hk hg hc=>by
  obtain ⟨r,hr,hT⟩:=eN k hk;exact ((KU hr hg hc).app #[x]).hb (af7 k hk r hr hT)
 have perm: ∀l,l.isMemory=true-> ¬dm l-> ¬Sh l->Perm (t++ #[x]) 0 l:=λl hm hb hs i b fS e=>by
  subst e;obtain ⟨h1,hi⟩:=old fS;rcases h.Oq i b h1 hm hs hb with q | ⟨k,q1,q2,q3⟩
  ·exact q.app _
  ·exact ⟨t.size,x,hxp,hx.1, .inr (kn i k q1 q2 ⟨b,h1,hm, .inl (by rw [q3];simp)⟩)⟩
 refine ⟨⟨λ_ _ _ _ _ q=>q.elim,λ_ q=>q.elim,λ_ q=>q.elim,λl hm _ hb _=>perm l hm (λq=>hb (.inl q)) λq=>hb (.inr q),λl hm _ hb _=>PermW.of (perm l hm (λq=>hb (.inl q)) λq=>hb (.inr q)),
  λi b hb hm _ hbd=> .inl (perm b.loc hm (λq=>hbd (.inl q)) (λq=>hbd (.inr q)) i b hb rfl),λsaid=> ?_,λi op hi=> ?_,λi b hb=>h.fresh i b (old hb).1⟩,λi k hk HA _ hc=> ?_⟩
 ·refine noRace_append (g:=0) (h.nr said) (λop cU=>by simp at cU;rw [cU];exact hx.1) λi b _ op cU c hc _=> ?_;simp at cU;subst cU;rw [nx] at hc;cases hc
 ·rcases getElem?_append_cases hi with ⟨_,gA⟩ | ⟨_,ZY⟩
  ·exact h.gs i op gA
  ·simp at ZY;subst ZY;rw [hx.1];exact qa7 _
 ·obtain ⟨op,ho,cU⟩:=qbl.1 hk;rcases getElem?_append_cases ho with ⟨hi,Ih⟩ | ⟨_,VQ⟩
  ·have rG:t.g? i=some k:=by rw [←g?_old (u:= #[x]) hi];exact hk
   have QG:=(counts_old hi).1 hc;by_cases ha:act k
   ·exact ⟨t.size,by simp [Trace.g?, hx.1],kn i k ha rG QG⟩
   ·obtain ⟨j,h1,h2⟩:=hO i k rG HA ha QG;have hj:j<t.size:=by
     obtain ⟨z,hz,_⟩:=qbl.1 h1;exact lt_size_of_getElem? hz
    exact ⟨j,by rw [g?_old hj];exact h1,hb_app _ h2⟩
  ·simp at VQ;subst VQ;exact absurd (cU.symm.trans hx.1) HA
end
end Go.Cx
namespace Go.Cx
open Go Go.Conc
open Go.ConcN (sumTo sumTo_upd sumTo_congr le_sumTo)
structure Wq(W w:World):Prop where
 tape:W.tape=w.tape
 heap:W.heap=w.heap
 os:W.os=w.os
 output:W.output=w.output
theorem Wq.at{W w:World}(h:Wq W w)(d:Nat):Wq (W.at d) w:=⟨h.tape,h.heap,h.os,h.output⟩
theorem Wq.refl(w:World):Wq w w:=⟨rfl,rfl,rfl,rfl⟩
theorem Wq.symm{a b:World}(h:Wq a b):Wq b a:=⟨h.tape.symm,h.heap.symm,h.os.symm,h.output.symm⟩
abbrev no1:Loc->Prop:=λ_=>False
abbrev no0:Nat->Prop:=λ_=>False
abbrev no2:Nat->Nat->Prop:=λ_ _=>False
structure Qt(C:Program)(dm:Loc->Prop)(gs:Array Goroutine)(sz:Nat)(t:Trace)(q:Nat->Nat):Prop where
 wk: ∀k,1<=k->k<gs.size-> ∃g,gs[k]? =some g/\QuitsD C (q k) (Deaf t k) g
 ti:TI no1 dm no0 no0 no2 no2 sz (gs.size - 1) t
 ho:HO no0 t
 d0:Deaf t 0=0
 wH: ∀l b,dm l->jf l b->b<sz
def jO(C:Program)(Φ:Machine->Trace->Prop)(m:Machine)(t:Trace):Prop:= ∃n m' t',runNT C n m t=(.next m',t')/\Φ m' t'
theorem jO.here{C:Program}{Φ:Machine->Trace->Prop}{m:Machine}{t:Trace}(h:Φ m t):jO C Φ m t:=⟨0,m,t,rfl,h⟩
theorem jO.step{C:Program}{Φ:Machine->Trace->Prop}{m m1:Machine}{t:Trace}{ops:Array MemOp}(hs:stepT C m=(.next m1,ops))(h:jO C Φ m1 (t++ops)):jO C Φ m t:=by
 obtain ⟨n,m',t',h1,h2⟩:=h;exact ⟨n+1,m',t',by rw [runNT_succ_next hs];exact h1,h2⟩
def YD(C:Program)(Φ:Machine->Trace->Prop)(gs:Array Goroutine)(W:World)(sl:Option (Nat×Nat))(t:Trace):Prop:= ∃m1 ops,runT C (crowd gs W sl) 0=(.next m1,ops)/\jO C Φ m1 (t++ops)
section
variable{C:Program}{dm:Loc->Prop}{gs:Array Goroutine}{W:World}{sl:Option (Nat×Nat)}{t:Trace}{q:Nat->Nat}{g:Goroutine}{sz:Nat}
theorem Qt.awake(h:Qt C dm gs sz t q)(h0:gs[0]? =some g)(hr:g.status= .running): ∀x∈gs,awake x:=by
 intro x hx;obtain ⟨i,hi⟩:=Array.mem_iff_getElem?.1 hx;cases i with
 | zero=>rw [h0] at hi;cases hi;exact awake_of (.inl hr)
 | succ i=>
  obtain ⟨y,hy,hq⟩:=h.wk (i+1) (by omega) (qa1.1 hi).1;rw [hi] at hy;cases hy;exact awake_of (hq.status.elim .inl λh=> .inr (.inr h))
theorem xb{e:Event}(h:e.mute=true):(MemAct.ofEvent e).touch? =none:=by
 obtain ⟨l,w,s⟩:=e;cases l with
 | mark m=>cases m <;> first | rfl | cases h
 | _=>cases h
theorem uZ{t u:Trace}(h: ∀op∈u,op.act.touch? =none): ∀i,t.size<=i-> ¬(t++u).counts i:=by
 rintro i hi ⟨x,hx,_⟩;obtain ⟨op,ho,KT⟩:=touch_of hx;rcases getElem?_append_cases ho with ⟨gA,_⟩ | ⟨_,VQ⟩
 ·omega
 ·rw [h op VQ] at KT;cases KT
theorem VR:Apr no1 dm no0 no0 no2 no2:=⟨λ_ h=>h,λ_ _ _ h=>h.elim,λ_ _ _ h=>h.elim,λ_ _ h=>h.elim,λ_ _ h=>h.elim⟩
theorem cm{k:Nat}{fn:FuncId}{pos:String}{es:Array Event}: ∀op∈MemOp.ofEvents k fn pos es,op.g=k:=by
 intro op cU;rw [ofEvents_eq] at cU;obtain ⟨e,_,rfl⟩:=Array.mem_map.1 cU
 rfl
theorem fU{k:Nat}{fn:FuncId}{pos:String}{es:Array Event}{op:MemOp}(h:op∈MemOp.ofEvents k fn pos es): ∃e∈es,op.act= .ofEvent e:=by
 rw [ofEvents_eq] at h;obtain ⟨e,he,rfl⟩:=Array.mem_map.1 h;exact ⟨e,he,rfl⟩
theorem Qt.leave(h:Qt C dm gs sz t q)(h0:gs[0]? =some g)(hr:g.status= .running){k:Nat}(hk:1<=k){y:Goroutine}(hy:gs[k]? =some y)(Ii:y.status= .running):
  ∃rH ops q',runT C (crowd gs W sl) k=(.next (crowd rH W sl),ops)/\rH[0]? =some g/\rH.size=gs.size/\Qt C dm rH sz (t++ops) q'/\sumTo gs.size q'<sumTo gs.size q:=by
 have bG:=(qa1.1 hy).1;obtain ⟨y',Z1,hq⟩:=h.wk k hk bG;rw [hy] at Z1;cases Z1;obtain ⟨n,hn⟩: ∃n,q k=n+1:=by
  cases hqk:q k with
  | zero=>rw [hqk] at hq;rw [hq.1] at Ii;cases Ii
  | succ n=>exact ⟨n,rfl⟩
 rw [hn] at hq;rcases hq with ⟨hf,_⟩ | ⟨_,g',es,hm,fu,VS⟩
 ·rw [hf] at Ii;cases Ii
 have jF:(k==0)=false:=by simp;omega
 have bU:=runT_crowd_go (P:=C) (sl:=sl) hy (by rw [jF];exact fu W);have Ig: ∀op∈MemOp.ofEvents k y.frame.fn y.frame.place es,op.act.touch? =none:=λop cU=>by
  obtain ⟨e,he,ha⟩:=fU cU;rw [ha];exact xb (hm e he)
 have mS:((gs.map (woken C y g' W)).setIfInBounds k g').size=gs.size:=by simp
 refine ⟨_,_,ConcN.upd q k n,bU, ?_,mS,⟨λj hj1 Z2=> ?_, ?_, ?_, ?_,h.wH⟩, ?_⟩
 ·rw [ConcN.get_map_set _ _ _ _ (by omega),h0,qac];unfold woken;split
  ·rw [again_running _ (.inl hr)]
  ·rfl
 ·rw [mS] at Z2;by_cases e:j=k
  ·subst e;refine ⟨g',ConcN.get_map_set_same _ _ _ bG, ?_⟩;rw [ConcN.upd_same,Deaf_own];exact VS
  ·obtain ⟨z,hz,yd⟩:=h.wk j hj1 Z2;refine ⟨z, ?_, ?_⟩
   ·rw [ConcN.get_map_set _ _ _ _ (λq=>e q.symm),hz,qac,woken_quitsD yd]
   ·rw [ConcN.upd_ne _ _ e,Deaf_other t (qbq e) _ cm];exact yd
 ·rw [mS];exact h.ti.app cm (by omega) id (qa2 _) (λ_ _ h=>h) (λ_ _ h=> .inl h) VR (λop cU x hx=>by rw [Ig op cU] at hx;cases hx) λop cU x hx=>by rw [Ig op cU] at hx;cases hx
 ·exact h.ho.app cm (.inr (.inr (uZ Ig)))
 ·rw [Deaf_other t (by omega) _ cm];exact h.d0
 ·have:sumTo gs.size (ConcN.upd q k n)+q k=sumTo gs.size q+n:=sumTo_upd q n (λx=>x) bG;rw [hn] at this;omega
theorem vM{Φ:Machine->Trace->Prop}{w:World}(hr:g.status= .running)
  (K: ∀gs W sl t q,gs[0]? =some g->Wq W w->Qt C dm gs sz t q->YD C Φ gs W sl t):
  ∀(r:Nat) (gs:Array Goroutine) (W:World) (sl:Option (Nat×Nat)) (t:Trace) (q:Nat->Nat),sumTo gs.size q=r->gs[0]? =some g->Wq W w->Qt C dm gs sz t q->jO C Φ (crowd gs W sl) t:=by
 intro r
 induction r using Nat.strongRecOn with
 | _ r ih=>
  intro gs W sl t q QZ h0 hw hq;obtain ⟨i,y,d,xG,hy,Ii,hs⟩:=crowd_pick (P:=C) (w:=W) (sl:=sl) (hq.awake h0 hr) ⟨0,g,h0,hr⟩;cases i with
  | zero=>
   obtain ⟨m1,ops,h1,h2⟩:=K gs (W.at d) xG t q h0 (hw.at d) hq;exact jO.step (hs.trans h1) h2
  | succ i=>
   obtain ⟨rH,ops,q',h1,h2,h3,h4,h5⟩:=hq.leave (W:=W.at d) (sl:=xG) h0 hr (k:=i+1) (by omega) hy Ii;exact jO.step (hs.trans h1) (ih _ (by rw [←QZ];exact h5) rH (W.at d) xG (t++ops) q' (by rw [h3]) h2 (hw.at d) h4)
end
end Go.Cx
namespace Go.Cx
open Go Go.Conc
open Go.ConcN (sumTo)
variable[bg][aM][bk]
structure Mn(L C:Program)(dm:Loc->Prop)(W0:World)(β:Bj)(fs YE:List Frame)(u W:World):Prop where
 sk:cM L C β fs YE
 wr:cH β u W
 dw:Dw u
 bad: ∀a b l,β a b->jf l b-> ¬dm l
 tape:W.tape=W0.tape
 os:W.os=W0.os
 output:W.output=W0.output
 old: ∀a b,β a b->b<W0.heap.size->gU β u b
 keep: ∀b,b<W0.heap.size->W.heap[b]? =W0.heap[b]?
section
variable{L C:Program}{Xs:FuncId->Prop}{dm:Loc->Prop}{W0:World}{β:Bj}{Φ:Machine->Trace->Prop}
theorem cH.heap{β:Bj}{w W w' W':World}(h:cH β w W)(e:w'.heap=w.heap)(e':W'.heap=W.heap):cH β w' W':=⟨λa b q=>by rw [e,e'];exact h.obj a b q,h.inj,h.fn⟩
omit [bg] [aM] [bk] in
theorem Dw.heap{w w':World}(h:Dw w)(e:w'.heap=w.heap):Dw w':=λr ds q=>h r ds (by rw [←e];exact q)
omit [bg] [aM] [bk] in
theorem gU.heap{β:Bj}{w w':World}{b:Nat}(h:gU β w b)(e:w'.heap=w.heap):gU β w' b:=let ⟨a,c,t,h1,h2,h3⟩:=h;⟨a,c,t,h1,h2,by rw [e];exact h3⟩
theorem Mn.heap{fs YE:List Frame}{u u' W W':World}(h:Mn L C dm W0 β fs YE u W)(e:u'.heap=u.heap)(e':Wq W' W):Mn L C dm W0 β fs YE u' W':=
 ⟨h.sk,h.wr.heap e e'.heap,h.dw.heap e,h.bad,e'.tape.trans h.tape,e'.os.trans h.os,e'.output.trans h.output,λa b q r=>(h.old a b q r).heap e,λb q=>by rw [e'.heap];exact h.keep b q⟩
theorem Mn.fs{fs YE gs rH:List Frame}{u W:World}(h:Mn L C dm W0 β fs YE u W)(k:cM L C β gs rH):Mn L C dm W0 β gs rH u W:=⟨k,h.wr,h.dw,h.bad,h.tape,h.os,h.output,h.old,h.keep⟩
theorem Mn.nN{fs YE gs rH:List Frame}{u u1 W W1:World}{cq:Bj}{sz:Nat}(h:Mn L C dm W0 β fs YE u W)(hB: ∀l b,dm l->jf l b->b<W.heap.size)(hT:mY β cq u u1 W W1)(k:cM L C cq gs rH)(hw:cH cq u1 W1)(hd:Dw u1):Mn L C dm W0 cq gs rH u1 W1:=by
 have mS:W0.heap.size<=W.heap.size:=by
  apply qa9;intro hn;have bG:W.heap.size<W0.heap.size:=Nat.lt_of_not_le hn;have h1:=h.keep _ bG;rw [qbd (qa2 _),Array.getElem?_eq_getElem bG] at h1;cases h1
 refine ⟨k,hw,hd,λa b l q hl hbd=> ?_,hT.tape.trans h.tape,hT.os.trans h.os,hT.output.trans h.output,λa b q r=> ?_,λb q=> ?_⟩
 ·rcases hT.fresh a b q with q | ⟨_,q,_⟩
  ·exact h.bad a b l q hl hbd
  ·exact absurd (hB l b hbd hl) (qcm.2 q)
 ·rcases hT.fresh a b q with q | ⟨_,q,_⟩
  ·exact hT.Es b (h.old a b q r)
  ·omega
 ·rw [←h.keep b q];by_cases hb: ∃a,β a b
  ·obtain ⟨a,nW⟩:=hb;exact hT.lock b (h.old a b nW q)
  ·exact hT.stay b (by omega) λa nW=>hb ⟨a,nW⟩
def Co(L C:Program)(W0:World)(Φ:Machine->Trace->Prop)(a:Frame)(k:List Frame)(u:World):Prop:=
 ∀(gs:Array Goroutine) (W:World) (sl:Option (Nat×Nat)) (t:Trace) (q:Nat->Nat) (dm:Loc->Prop) (β:Bj) (b:Frame) (k':List Frame),
  gs[0]? =some (ig b k')->Qt C dm gs W.heap.size t q->Mn L C dm W0 β (a::k) (b::k') u W->jO C Φ (crowd gs W sl) t
theorem MM{gs:Array Goroutine}{W U V W1:World}{sl:Option (Nat×Nat)}{t:Trace}{q:Nat->Nat}{g g1:Goroutine}{cq:Bj}{es:Array Event}(h0:gs[0]? =some g)(hq:Qt C dm gs W.heap.size t q)(ZM: ∀a b l,β a b->jf l b-> ¬dm l)
  (fu:stepG C true g W= .go g1 W1 es) (hT:mY β cq U V W W1) (hw:cH cq V W1) (tZ: ∀e∈es,uq cq V e):
  ∃Bw ops,runT C (crowd gs W sl) 0=(.next (crowd Bw W1 sl),ops)/\Bw[0]? =some g1/\Qt C dm Bw W1.heap.size (t++ops) q:=by
 have bU:=runT_crowd_go (P:=C) (sl:=sl) (i:=0) h0 (by simpa using fu);have bG:=(qa1.1 h0).1;have acG: ∀a b l,cq a b->jf l b-> ¬dm l:=λa b l hb hl hB=>by
  rcases hT.fresh a b hb with h | ⟨_,h,_⟩
  ·exact ZM a b l h hl hB
  ·exact absurd (hq.wH l b hB hl) (qcm.2 h)
 have touch: ∀op∈MemOp.ofEvents 0 g.frame.fn g.frame.place es, ∀x,op.act.touch? =some x-> ∃a b,jf x.loc b/\cq a b:=by
  intro op cU x hx;obtain ⟨e,he,ha⟩:=fU cU;rw [ha] at hx;have key: ∀b,jf e.loc b->(∃a,cq a b)->e.sync=false-> ∃a b,jf x.loc b/\cq a b:=λb hl ⟨a,nW⟩ hs=>by
   refine ⟨a,b, ?_,nW⟩;have yc:x.loc=e.loc:=by
    obtain ⟨l,wr,sy⟩:=e;simp only at hs;subst hs;cases l <;> first | (cases hx;rfl) | (cases wr <;> (cases hx;rfl)) | exact False.elim hl
   rw [yc];exact hl
  rcases tZ e he with ⟨hs,⟨ad,a,h1,h2,_⟩ | ⟨r,a,h1,h2,_⟩⟩ | h
  ·exact key ad.block (by rw [h1];rfl) ⟨a,h2⟩ hs
  ·exact key r (by rw [h1];rfl) ⟨a,h2⟩ hs
  ·subst h;cases hx
 have Z6: ∀e∈es,e.loc≠ .mark .disable/\e.loc≠ .mark .enable:=λe he=>by
  rcases tZ e he with ⟨_,⟨ad,a,h1,_⟩ | ⟨r,a,h1,_⟩⟩ | h
  ·rw [h1];exact ⟨by simp,by simp⟩
  ·rw [h1];exact ⟨by simp,by simp⟩
  ·subst h;exact ⟨by simp,by simp⟩
 have mS:((gs.map (woken C g g1 W1)).setIfInBounds 0 g1).size=gs.size:=by simp
 refine ⟨_,_,bU,ConcN.get_map_set_same _ _ _ bG,⟨λk HY zn=> ?_, ?_, ?_, ?_,λl b hB hl=>qa3 (hq.wH l b hB hl) hT.size⟩⟩
 ·rw [mS] at zn;obtain ⟨z,hz,yd⟩:=hq.wk k HY zn;refine ⟨z, ?_, ?_⟩
  ·rw [ConcN.get_map_set _ _ _ _ (by omega),hz,qac,woken_quitsD yd]
  ·rw [Deaf_other t (by omega) _ cm];exact yd
 ·rw [mS];refine hq.ti.app cm (qa7 _) id hT.size (λ_ _ h=>h) (λ_ _ h=> .inl h) VR (λop cU x hx b hb=> ?_) λop cU x hx=> ?_
  ·obtain ⟨a,c,h1,h2⟩:=touch op cU x hx;have:=jf.inj h1 hb;subst this;exact hw.PX h2
  ·obtain ⟨a,c,h1,h2⟩:=touch op cU x hx;exact .inr (.inl ⟨id,acG a c _ h2 h1,rfl,λ_ h=>h.elim,λ_ _ h=>h.elim⟩)
 ·exact hq.ho.app cm (.inl rfl)
 ·rw [Deaf_own,hq.d0];exact ConcN.deafBehind_idle Z6 0
def On(u W:World):World:={ W with heap:=u.heap }
theorem nh(HP:gV L C)(HF:PF L C Xs){a:Frame}{k:List Frame}{u:World}(hk:k≠[]\/a.mode= .run)
  (h: ∀U:World,U.heap=u.heap->U.os=W0.os->U.output=W0.output-> ∃a1 k1 U1 es,stepG L true (ig a (k++[cT])) U= .go (ig a1 (k1++[cT])) U1 es/\(∀ch,a1.mode≠ .panicking ch)/\ ¬Xs a1.fn/\Co L C W0 Φ a1 k1 U1):Co L C W0 Φ a k u:=by
 intro gs W sl t q dm β b k' h0 hq hM;have hr:(ig b k').status= .running:=rfl;refine vM (w:=W) (g:=ig b k') hr ?_ _ gs W sl t q rfl h0 (.refl W) hq;clear h0 hq;intro gs W2 sl t q h0 jP hq;rw [←jP.heap] at hq;have xd:=hM.heap (u':=On u W2) rfl jP;obtain ⟨a1,k1,V,es,e1,e2,e3,e4⟩:=h (On u W2) rfl xd.os xd.output;have hB: ¬Go.Cx.dm (ig a1 (k1++[cT])):=λ⟨ch,x⟩=>e2 ch x;have P0:([]:List Frame)≠[]\/k≠[]\/a.mode= .run\/a.defers≠[]:=hk.elim (λh=> .inr (.inl h)) λh=> .inr (.inr (.inl h));obtain ⟨cq,W1,xS,EA,c1,ho,c2,c3,c4⟩:=uW (m':=true) (t:=cT) (r:=[]) (bs':=[]) HP HF xd.sk P0 xd.wr (λj x=>rfl) e1 hB;rw [List.append_nil] at c1;have hD:=(xV HP HF xd.sk xd.wr e1 hB).2.2.1 xd.dw;obtain ⟨Bw,ops,r1,r2,r3⟩:=MM (sl:=sl) h0 hq xd.bad c1 c3 c2 c4;refine ⟨_,_,r1, ?_⟩;cases ho with
 | back _ _ hb _=>cases hb
 | on fu=>
  generalize EF:ig a1 (k1++[cT])=gg at fu;cases fu with
  | enter f hX hx HY=>
   simp only [Goroutine.mk.injEq] at EF;exact absurd hX (by have:=EF.1;subst this;exact e3)
  | @on x y kx ky tv=>
   simp only [Goroutine.mk.injEq,List.append_cancel_right_eq] at EF;obtain ⟨rfl,rfl,_⟩:=EF;rw [List.append_nil] at r2;exact e4 Bw W1 sl (t++ops) q dm cq y ky r2 r3 (xd.nN (sz:=0) hq.wH c3 tv c2 hD)
theorem FU{Q:Frame->World->Prop}(HP:gV L C)(HF:PF L C Xs)(hX: ∀f x k w,Xs f-> ¬xX L Q (Frame.enter L f x .normal) k w){cs:List Frame}
  (hQ: ∀a w,a.mode= .returning->a.defers=[]->a.roundOf=none->Q a w->Co L C W0 Φ a cs w) {a:Frame} {ks:List Frame} {w:World} (hW:xX L Q a ks w):
  ∀(gs:Array Goroutine) (W:World) (sl:Option (Nat×Nat)) (t:Trace) (q:Nat->Nat) (dm:Loc->Prop) (β:Bj) (b:Frame) (ks' cs':List Frame),
  gs[0]? =some (ig b (ks'++cs'))->Qt C dm gs W.heap.size t q->(cs=[]/\cs'=[]\/cM L C β cs cs')->Mn L C dm W0 β (a::ks) (b::ks') w W->jO C Φ (crowd gs W sl) t:=by
 induction hW with
 | @done a w hm hd hq0=>
  intro gs W sl t q dm β b ks' cs' h0 hq hb hM;obtain ⟨rfl,hr⟩:ks'=[]/\a.roundOf=none:=by
   have:=hM.sk;cases this with
   | one _ hr=>exact ⟨rfl,hr⟩
   | cons _ h=>cases h
  refine hQ a w hm hd hr hq0 gs W sl t q dm β b cs' h0 hq (hM.fs ?_);rcases hb with ⟨rfl,rfl⟩ | hb
  ·exact hM.sk
  ·have gr:=hM.sk;cases gr with
   | one hf _=>exact .cons hf hb
   | cons hf hk=>exact .cons hf hb
 | @step a k w h1 h2 ih=>
  intro gs W sl t q dm β b ks' cs' h0 hq hb hM;refine vM (w:=W) (g:=ig b (ks'++cs')) rfl ?_ _ gs W sl t q rfl h0 (.refl W) hq;clear h0 hq;intro gs W2 sl t q h0 jP hq;rw [←jP.heap] at hq;have xd:=hM.heap (u':=w) rfl jP;obtain ⟨cq,a1,k1,V,W1,xS,es,τ,e1,e2,e3,_,_,e4,e5,e6,⟨uH,e7⟩,e8⟩:=H7 (m:=true) (bs':=cs') HP HF xd.sk xd.wr h1 h2 .nil;obtain ⟨Bw,ops,r1,r2,r3⟩:=MM (sl:=sl) h0 hq xd.bad e1 e4 e3 e5;refine ⟨_,_,r1, ?_⟩;cases e2 with
  | enter f P2 _ _ ha _=>exact (hX f _ _ _ P2 (ha▸h2 _ _ _ _ _ e6 e7)).elim
  | @on b1 US tv hg=>
   subst hg;refine ih _ _ _ _ _ e6 e7 Bw W1 sl (t++ops) q dm cq b1 US cs' r2 r3 ?_ ((xd.heap (u':=TW w τ) rfl (.refl W2)).nN (sz:=0) hq.wH e4 tv e3 (e8 xd.dw));rcases hb with hb | hb
   ·exact .inl hb
   ·exact .inr (hb.mono e4.le)
theorem VT(HP:gV L C)(HF:PF L C Xs){a c:Frame}{cs:List Frame}{w:World}{v:Value}(hra:a.roundOf=none)(hE:Ends L a w v)(hco:Co L C W0 Φ (c.finish v) cs w):Co L C W0 Φ a (c::cs) w:=by
 intro gs W sl t q dm β b k' h0 hq hM;obtain ⟨c',cs',rfl⟩: ∃c' cs',k'=c'::cs':=by
  have:=hM.sk;cases this with
  | cons _ h=>cases h with
   | one _ _=>exact ⟨_,_,rfl⟩
   | cons _ _=>exact ⟨_,_,rfl⟩
 refine vM (w:=W) (g:=ig b (c'::cs')) rfl ?_ _ gs W sl t q rfl h0 (.refl W) hq;clear h0 hq;intro gs W2 sl t q h0 jP hq;rw [←jP.heap] at hq;have xd:=hM.heap (u':=w) rfl jP;have gr:=xd.sk;have hr:a.roundOf=none/\cM L C β (c::cs) (c'::cs')/\j5 L C β a b:=by
  cases gr with
  | cons hf hk=>exact ⟨hra,hk,hf⟩
 obtain ⟨_,cq,v',W1,es,τ,e1,e2,e3,e4,e5⟩:=H8 (m:=true) (t':=c') (r':=cs') HP HF (.one hr.2.2 hr.1) xd.wr hE;obtain ⟨Bw,ops,r1,r2,r3⟩:=MM (sl:=sl) h0 hq xd.bad (by simpa using e1) e4 (e3.heap (w':=TW w τ) rfl rfl) e5;refine ⟨_,_,r1,hco Bw W1 sl (t++ops) q dm cq _ _ r2 r3 ?_⟩;have B7:=hr.2.1.mono e4.le;exact ((xd.heap (u':=TW w τ) rfl (.refl W2)).nN (sz:=0) hq.wH e4 (B7.swap (B7.top.finish e2) (lG _ _)) (e3.heap rfl rfl) (xd.dw.heap rfl)).heap rfl (.refl W1)
end
end Go.Cx
namespace Go.Cx
open Go Go.Conc
section
variable[bg]
theorem Kz.imp{L C C':Program}(h: ∀t,C.eqGuardType C.depth t=false->C'.eqGuardType C'.depth t=false){o:Op}(k:Kz L C o):Kz L C' o:=by
 cases o <;> try exact k
 case makeFunc fn xs ys=>cases fn <;> exact k
 case binOp op t x y u=>exact ⟨k.1,k.2.1,λq=>⟨(k.2.2 q).1,(k.2.2 q).2.1,h t (k.2.2 q).2.2⟩⟩
theorem cN.imp{L C C':Program}(h: ∀t,C.eqGuardType C.depth t=false->C'.eqGuardType C'.depth t=false){c:Code}(k:cN L C c):cN L C' c:=by
 induction k with
 | skip=>exact .skip
 | region id dr ho=>exact .region id dr λo q=>(ho o q).imp h
 | seq _ _ i1 i2=>exact .seq i1 i2
 | cond hc _ _ i1 i2=>exact .cond hc i1 i2
 | block id _ i=>exact .block id i
 | loop _ i=>exact .loop i
 | rangeFunc ps hf _ _ i1 i2=>exact .rangeFunc ps hf i1 i2
 | exit id=>exact .exit id
 | label l=>exact .label l
 | ret=>exact .ret
end
variable[bg][aM][bk]
section
variable{L C:Program}{β:Bj}
omit [aM] [bk] in
theorem re.self(h: ∀t,C.eqGuardType C.depth t=false->L.eqGuardType L.depth t=false){a b:Item}(k:re L C β a b):re L L β a b:=by
 cases k with
 | code k=>exact .code (k.imp h)
 | inBlock id=>exact .inBlock id
 | inLoop k=>exact .inLoop (k.imp h)
 | inRegion t k=>exact .inRegion t λo q=>(k o q).imp h
 | nb k=>exact .nb k
 | mg k=>exact .mg k
 | beginRound=>exact .beginRound
omit [aM] [bk] in
theorem qe.self(h: ∀t,C.eqGuardType C.depth t=false->L.eqGuardType L.depth t=false){a b:List Item}(k:qe L C β a b):qe L L β a b:=by
 induction k with
 | nil=>exact .nil
 | cons k _ ih=>exact .cons (k.self h) ih
omit [aM] in
theorem j5.self(h: ∀t,C.eqGuardType C.depth t=false->L.eqGuardType L.depth t=false){a b:Frame}(k:j5 L C β a b):j5 L L β a b:=
 ⟨k.fn,k.tmps,k.todo.self h,k.defers,k.mode,k.kind,k.round,λq=>let ⟨fn,h1,_⟩:=k.zm q;⟨fn,h1,h1⟩⟩
omit [aM] in
theorem cM.self(h: ∀t,C.eqGuardType C.depth t=false->L.eqGuardType L.depth t=false){a b:List Frame}(k:cM L C β a b):cM L L β a b:=by
 induction k with
 | one k hr=>exact .one (k.self h) hr
 | cons k _ ih=>exact .cons (k.self h) ih
end
section
variable{L C:Program}{Xs:FuncId->Prop}{W0:World}{Φ:Machine->Trace->Prop}{R:Value->World->Prop}
theorem FV(HP:gV L L)(HF:PF L L (λ_=>False)){f:FuncId}{x:Array Value}{w:World}(hR: ∀v w τ,R v (TW w τ)->R v w)
  (H: ∀τ,Ag w.drawn τ w.tape->Calls L f x (TW w τ) fun | .returned v,w'=>R v w' | _,_=>False) (hI:Inv L (Frame.enter L f x .normal) [] w):xX L (Left L R) (Frame.enter L f x .normal) [] w:=by
 refine tree HP HF ?_ hI λτ pG=> ?_
 ·rintro a w τ ⟨v,h1,h2⟩;exact ⟨v,h1.tw,hR v w τ h2⟩
 ·obtain ⟨e,w',fr,h1,h2,h3,h4⟩:=H τ pG [cT];cases e with
  | returned v=>
   obtain ⟨n,hn⟩:=(show Steps L _ _ from h2);exact ⟨n,fr,w',v,hn,h4,v,Ends.of h4,h1⟩
  | _=>exact h1.elim
theorem By(HP:gV L C)(HF:PF L C Xs)(HPs:gV L L)(HFs:PF L L λ_=>False)(he: ∀t,C.eqGuardType C.depth t=false->L.eqGuardType L.depth t=false)
  (hX: ∀f x k w,Xs f-> ¬xX L (Left L R) (Frame.enter L f x .normal) k w) (hR: ∀v w τ,R v (TW w τ)->R v w)
  {f:FuncId} {x:Array Value} {c:Frame} {cs:List Frame} {u:World} (H: ∀U:World,U.heap=u.heap->U.os=W0.os->U.output=W0.output->Calls L f x U fun | .returned v,w'=>R v w' | _,_=>False) (K: ∀v w',R v w'->Co L C W0 Φ (c.finish v) cs w'):
  Co L C W0 Φ (Frame.enter L f x .normal) (c::cs) u:=by
 intro gs W sl t q dm β b k' h0 hq hM;have gr:=hM.sk;cases gr with
 | @cons _ _ _ _ hf hk=>
  have tv:cM L C β [Frame.enter L f x .normal] [b]:= .one hf rfl;have hW:xX L (Left L R) (Frame.enter L f x .normal) [] (On u W):=FV HPs HFs hR (λτ _=>H (TW (On u W) τ) rfl hM.os hM.output) ⟨β,_,[],W,tv.self he,hM.wr.heap rfl rfl,hM.dw.heap rfl⟩;exact FU (cs:=c::cs) HP HF hX (λa w' _ _ hr ⟨v,h1,h2⟩=>VT HP HF hr h1 (K v w' h2)) hW gs W sl t q dm β b [] _ h0 hq (.inr hk) ((hM.heap (u':=On u W) rfl (.refl W)).fs tv)
end
end Go.Cx
namespace Go.Vc
open Go Go.Proofs Go.Vs
open Go.Conc (G base stepG_skip stepG_seq stepG_cond stepG_block stepG_inBlock stepG_loop stepG_inLoop stepG_exit stepG_region stepG_region_end stepG_end stepG_oper stepG_value stepG_none stepG_enter stepG_unwanted stepG_ret' enter_at)
open Go.Cx (bg aM bk gV PF nh By xX cT ig Left TW)
structure Bz [bg][aM][bk] where
 L:Program
 C:Program
 Xs:FuncId->Prop
 W0:World
 Φ:Machine->Trace->Prop
 HP:gV L C
 HF:PF L C Xs
 HPs:gV L L
 HFs:PF L L λ_=>False
 he: ∀t,C.eqGuardType C.depth t=false->L.eqGuardType L.depth t=false
 hX: ∀Q f x k w,Xs f-> ¬xX L Q (Frame.enter L f x .normal) k w
 hC: ∀(f:FuncId) (x:Array Value) (w:World) (R:Value->World->Prop),Xs f-> ¬Calls L f x w fun | .returned v,w'=>R v w' | _,_=>False
section
variable[bg][aM][bk]
abbrev Bz.o(K:Bz):Os:=K.W0.os
abbrev Bz.out(K:Bz):Array (Nat×ByteArray):=K.W0.output
abbrev Bz.Co(K:Bz)(a:Frame)(k:List Frame)(w:World):Prop:=Go.Cx.Co K.L K.C K.W0 K.Φ a k w
variable{K:Bz}{f:FuncId}{b:Frame}{a a':Act}{t t' k:List Item}{cs:List Frame}{w w':World}{Q:Exit->Act->World->Prop}
theorem tx{a:Frame}{k:List Frame}(h:K.Co a k w)(e:w'.heap=w.heap):K.Co a k w':=λgs W sl t q dm β b k' h0 hq hM=>h gs W sl t q dm β b k' h0 hq (hM.heap e.symm (.refl W))
theorem co_go(hx: ¬K.Xs b.fn)(h: ∀W:World,W.heap=w.heap->W.os=K.o->W.output=K.out-> ∃W1 es,stepG K.L true (G (b.at a t) (cs++[cT])) W= .go (G (b.at a' t') (cs++[cT])) W1 es/\K.Co (b.at a' t') cs W1):K.Co (b.at a t) cs w:=
 nh K.HP K.HF (.inr rfl) λW h1 h2 h3=>let ⟨W1,es,e1,e2⟩:=h W h1 h2 h3;⟨_,cs,W1,es,e1,nofun,hx,e2⟩
theorem ni(hx: ¬K.Xs b.fn)(h: ∀W:World, ∃es,stepG K.L true (G (b.at a t) (cs++[cT])) W= .go (G (b.at a' t') (cs++[cT])) W es)(k:K.Co (b.at a' t') cs w):K.Co (b.at a t) cs w:=
 co_go hx λW h1 _ _=>let ⟨es,e⟩:=h W;⟨W,es,e,tx k h1⟩
def Arr(K:Bz)(b:Frame)(k:List Item)(cs:List Frame):Exit->Act->World->Prop
 | .normal,a,w=>K.Co (b.at a k) cs w
 | .exit id,a,w=> ∃k',exitTo id k=some k'/\K.Co (b.at a k') cs w
 | .ret,a,w=> ∀todo,K.Co { b.at a todo with mode:= .returning } cs w
 | _,_,_=>False
def wpC(K:Bz)(f:FuncId)(c:Code)(Q:Exit->Act->World->Prop)(a:Act)(w:World):Prop:=
 ∀(b:Frame) (k:List Item) (cs:List Frame),(b.kind= .normal/\b.fn=f)-> ¬K.Xs b.fn->(∀e a' w',Q e a' w'->Arr K b k cs e a' w')->K.Co (b.at a (.code c::k)) cs w
def ua(K:Bz)(f:FuncId)(ops:Array Oper)(Q:Exit->Act->World->Prop)(l:List Oper)(a:Act)(w:World):Prop:=
 ∀(b:Frame) (k:List Item) (cs:List Frame) (i:Nat),(b.kind= .normal/\b.fn=f)-> ¬K.Xs b.fn->(∀j,l[j]? =ops[i+j]?)->(∀e a' w',Q e a' w'->Arr K b k cs e a' w')->K.Co (b.at a (.inRegion ops (List.range' i l.length)::k)) cs w
theorem cj{c:Code}(J:Exit->Act->World->Prop)(h:wpC K f c J a w)(q: ∀e a w,J e a w->Q e a w):wpC K f c Q a w:=λb k cs h1 h2 h3=>h b k cs h1 h2 λe a' w' hj=>h3 e a' w' (q e a' w' hj)
theorem eF(h:Q .normal a w):wpC K f .skip Q a w:=λb k cs _ h2 h3=>ni h2 (λW=>⟨_,stepG_skip⟩) (h3 _ _ _ h)
theorem Q0(h:Q .ret a w):wpC K f .ret Q a w:=λb k cs _ h2 h3=>by
 refine nh K.HP K.HF (.inr rfl) λW h1 _ _=>⟨_,cs,W,_,stepG_ret',nofun,h2,tx (h3 _ _ _ h (.code .ret::k)) h1⟩
theorem dH{i:Nat}(h:Q (.exit i) a w):wpC K f (.exit i) Q a w:=λb k cs _ h2 h3=>by
 obtain ⟨k',e1,e2⟩:=h3 _ _ _ h;exact ni h2 (λW=>⟨_,stepG_exit e1⟩) e2
theorem dz{x y:Code}(h:wpC K f x (Exit.then (wpC K f y Q) Q) a w):wpC K f (.seq x y) Q a w:=λb k cs h1 h2 h3=>by
 refine ni h2 (λW=>⟨_,stepG_seq⟩) (h b _ cs h1 h2 λe a' w' he=> ?_);cases e with
 | normal=>exact he b k cs h1 h2 h3
 | exit id=>obtain ⟨k',e1,e2⟩:=h3 _ _ _ he;exact ⟨k',by simpa [exitTo] using e1,e2⟩
 | ret=>exact h3 _ _ _ he
 | goto l=>exact (h3 _ _ _ he:False).elim
 | panic c=>exact (h3 _ _ _ he:False).elim
 | outgrown=>exact (h3 _ _ _ he:False).elim
theorem bV{id:Nat}{c:Code}(h:wpC K f c (Exit.inBlock id Q) a w):wpC K f (.block id c) Q a w:=λb k cs h1 h2 h3=>by
 refine ni h2 (λW=>⟨_,stepG_block⟩) (h b _ cs h1 h2 λe a' w' he=> ?_);cases e with
 | normal=>exact ni h2 (λW=>⟨_,stepG_inBlock⟩) (h3 .normal _ _ he)
 | exit i=>
  by_cases hi:i=id
  ·subst hi;have:Q .normal a' w':=by simpa [Exit.inBlock] using he
   exact ⟨k,by simp [exitTo],h3 _ _ _ this⟩
  ·have:Q (.exit i) a' w':=by simpa [Exit.inBlock,hi] using he
   obtain ⟨k',e1,e2⟩:=h3 _ _ _ this;exact ⟨k',by simpa [exitTo,hi,qbq hi] using e1,e2⟩
 | ret=>exact h3 .ret _ _ he
 | goto l=>exact (h3 (.goto l) _ _ he:False).elim
 | panic c=>exact (h3 (.panic c) _ _ he:False).elim
 | outgrown=>exact (h3 .outgrown _ _ he:False).elim
theorem bZ{S R:Type}{c:Code}(g:S->Option (S⊕R)){s0:S}{r:R}(hr:cu g s0=some r)(J:S->Act->World->Prop)(h0:J s0 a w)
  (round: ∀s a w o,J s a w->g s=some o->(∀t,o= .inr t->t=r)->wpC K f c (Exit.then (λa' w'=> ∃s',o= .inl s'/\J s' a' w') Q) a w):wpC K f (.loop c) Q a w:=by
 intro b k cs h1 h2 h3;obtain ⟨n,hn⟩:=qh hr;refine ni h2 (λW=>⟨_,stepG_loop⟩) ?_;clear hr
 induction n generalizing s0 a w with
 | zero=>cases hn
 | succ n ih=>
  obtain ⟨o,ho,hk⟩:=bind_some hn;refine round s0 a w o h0 ho (by rintro t rfl;exact qai hk) b _ cs h1 h2 λe a' w' he=> ?_;cases e with
  | normal=>
   obtain ⟨s',rfl,hJ⟩:=he;exact ni h2 (λW=>⟨_,stepG_inLoop⟩) (ih hJ hk)
  | exit id=>obtain ⟨k',e1,e2⟩:=h3 _ _ _ he;exact ⟨k',by simpa [exitTo] using e1,e2⟩
  | ret=>exact h3 _ _ _ he
  | goto l=>exact (h3 _ _ _ he:False).elim
  | panic c=>exact (h3 _ _ _ he:False).elim
  | outgrown=>exact (h3 _ _ _ he:False).elim
section
variable{n:Nat}{ρ:Nat->Value}
theorem BA{c:Operand}{x y:Code}(u:Bool)(hc:ev n ρ c= .bool u)(ht:u=true->wpC K f x Q (fr n ρ) w)(hf:u=false->wpC K f y Q (fr n ρ) w):wpC K f (.cond c x y) Q (fr n ρ) w:=λb k cs h1 h2 h3=>by
 refine ni (a':=fr n ρ) (t':= .code (if u then x else y)::k) h2 (λW=>⟨_,stepG_cond (by rw [aR];exact hc)⟩) ?_;cases u with
 | true=>exact ht rfl b k cs h1 h2 h3
 | false=>exact hf rfl b k cs h1 h2 h3
theorem rg{id:Nat}{l:List Oper}(h:ua K f l.toArray Q l (fr n ρ) w):wpC K f (.region id l.toArray false) Q (fr n ρ) w:=λb k cs h1 h2 h3=>by
 refine ni h2 (λW=>⟨_,stepG_region⟩) ?_;have:=h b k cs 0 h1 h2 (by simp) h3;rw [List.range_eq_range',qbn];exact this
theorem bp{ops:Array Oper}(h:Q .normal a w):ua K f ops Q [] a w:=λb k cs i h1 h2 _ h3=>ni h2 (λW=>⟨_,stepG_region_end⟩) (h3 _ _ _ h)
variable{ops:Array Oper}{d:Nat}{v:Value}{rest:List Oper}{op:Op}{ty:TypeId}{pos:String}{af:Array Edge}{gd:Option (Nat×Bool)}
omit [bg] [aM] [bk] in
theorem YF{o:Oper}{i:Nat}(h: ∀j,(o::rest)[j]? =ops[i+j]?):ops[i]? =some o:=by simpa using (h 0).symm
omit [bg] [aM] [bk] in
theorem at1{o:Oper}{i:Nat}(h: ∀j,(o::rest)[j]? =ops[i+j]?): ∀j,rest[j]? =ops[(i+1)+j]? :=λj=>by have:=h (j+1);simpa [Nat.add_assoc,Nat.add_comm 1 j] using this
theorem Cg(hw:Region.wanted ⟨some d,op,ty,pos,af,gd⟩ (yv ops n ρ)=true)(hr:dX K.L w.heap n ρ ⟨some d,op,ty,pos,af,gd⟩ v)(h:ua K f ops Q rest (fr n (upd ρ d v)) w):
  ua K f ops Q (⟨some d,op,ty,pos,af,gd⟩::rest) (fr n ρ) w:=λb k cs i h1 h2 hl h3=>by
 rw [qb2,List.range'_succ];refine co_go (a':=fr n (upd ρ d v)) (t':= .inRegion ops (List.range' (i+1) rest.length)::k) h2 λW e1 _ _=> ?_;have hs:=stepG_value (P:=K.L) (main:=true) (b:=b) (k:=k) (cs:=cs++[cT]) (rest:=List.range' (i+1) rest.length) (YF hl) (a:=fr n ρ) (by rw [eR];exact hw) (by rw [h1.1];simp) (by rw [aR];exact hr W e1);rw [de] at hs;exact ⟨W,_,hs,tx (h b k cs (i+1) h1 h2 (at1 hl) h3) e1⟩
theorem st(hr:dX K.L w.heap n ρ ⟨some d,op,ty,pos,af,none⟩ v)(k:ua K f ops Q rest (fr n (upd ρ d v)) w):ua K f ops Q (⟨some d,op,ty,pos,af,none⟩::rest) (fr n ρ) w:=Cg rfl hr k
theorem bW{j:Nat}{u:Bool}(hy:yv ops n ρ j=some u)(hr:dX K.L w.heap n ρ ⟨some d,op,ty,pos,af,some (j,u)⟩ v)(k:ua K f ops Q rest (fr n (upd ρ d v)) w):ua K f ops Q (⟨some d,op,ty,pos,af,some (j,u)⟩::rest) (fr n ρ) w:=
 Cg (aA rfl hy) hr k
theorem acH{o:Oper}(hw:Region.wanted o (yv ops n ρ)=false)(h:ua K f ops Q rest ((fr n ρ).put o.dst undef) w):ua K f ops Q (o::rest) (fr n ρ) w:=λb k cs i h1 h2 hl h3=>by
 rw [qb2,List.range'_succ];exact ni h2 (λW=>⟨_,stepG_unwanted (YF hl) (by rw [eR];exact hw)⟩) (h b k cs (i+1) h1 h2 (at1 hl) h3)
theorem ak{j:Nat}{u:Bool}(hy:yv ops n ρ j=some (!u))(k:ua K f ops Q rest (fr n (upd ρ d undef)) w):ua K f ops Q (⟨some d,op,ty,pos,af,some (j,u)⟩::rest) (fr n ρ) w:=acH (vN rfl hy) (by rw [de];exact k)
end
end
end Go.Vc
namespace Go.Vc
open Go Go.Proofs Go.Vs
open Go.Conc (G base stepG_skip stepG_seq stepG_cond stepG_block stepG_inBlock stepG_loop stepG_inLoop stepG_exit stepG_region stepG_region_end stepG_end stepG_oper stepG_value stepG_none stepG_enter stepG_unwanted stepG_ret' enter_at)
open Go.Cx (bg aM bk gV PF nh By xX cT ig Left TW)
section
variable[bg][aM][bk]
variable{K:Bz}{f0:FuncId}{aq σ:St}{S0:BS}{A B R Ln L':List Ch}{n:Nat}{ρ:Nat->Value}{Rz:Value->St->Prop}{Q:Exit->Act->World->Prop}{w:World}
variable{ops:Array Oper}{d:Nat}{v:Value}{rest:List Oper}{op:Op}{ty:TypeId}{pos:String}{af:Array Edge}{gd:Option (Nat×Bool)}{dst:Option Nat}
def Lo(K:Bz)(σ:St):Prop:=σ.ef/\σ.w.os=K.o/\σ.w.output=K.out
theorem Lo.on(h:Lo K aq)(H:Hp S0 aq σ L'):Lo K σ:=⟨by rw [H.md.ef];exact h.1,H.md.os.trans h.2.1,H.md.output.trans h.2.2⟩
def St.at(σ:St)(W:World)(h:W.heap=σ.w.heap):St:=⟨W,σ.gB,λb hb=>σ.ok b (by rw [←h];exact hb),σ.ef⟩
theorem acI(h:Lo K σ){W:World}(e:W.heap=σ.w.heap)(e1:W.os=K.o)(e2:W.output=K.out):Md (λ_=>False) σ (St.at σ W e):=
 ⟨e1.trans h.2.1.symm, .inl h.1,e2.trans h.2.2.symm, .inl h.1,rfl,⟨qay (by simp only [St.size,St.at,e]),λb _=>by simp only [St.at,e],λb=>qa2 _⟩,λb _ _=>by simp only [St.at,e],λ_ _ _=>rfl⟩
theorem Lo.to(h:Lo K aq)(H:Hp S0 aq σ L'){W:World}(e:W.heap=σ.w.heap)(e1:W.os=K.o)(e2:W.output=K.out):Hp S0 aq (St.at σ W e) L':=H.grow (acI (h.on H) e e1 e2)
def Cxc(K:Bz)(σ:St)(n:Nat)(ρ:Nat->Value)(o:Oper)(Rz:Value->St->Prop):Prop:=
 ∃f args,(∀W:World,W.heap=σ.w.heap->W.os=K.o->W.output=K.out->Enters K.L n ρ o f args W/\Calls K.L f args.toArray W λe w'=> ∃v σ',e= .returned v/\w'=σ'.w/\Rz v σ')/\
  (∀v σ' τ (w:World),σ'.w=TW w τ->Rz v σ'-> ∃kJ,w=kJ.w/\Rz v kJ)
theorem Ci(hL:Lo K aq){v:Value}{σ':St}{τ:Tape}{w:World}(e:σ'.w=TW w τ)(H:Hp S0 aq σ' L'): ∃kJ:St,w=kJ.w/\kJ.size=σ'.size/\Hp S0 aq kJ L':=by
 have h1:w.heap=σ'.w.heap:=by rw [e]
 have h2:w.os=σ'.w.os:=by rw [e]
 have h3:w.output=σ'.w.output:=by rw [e]
 have hl:=hL.on H;exact ⟨St.at σ' w h1,rfl,by simp only [St.size,St.at,h1],hL.to H h1 (h2.trans hl.2.1) (h3.trans hl.2.2)⟩
theorem bh{f:FuncId}{args:List Value}{post:Nat->Value->List Ch->Prop}{o:Oper}(hL:Lo K aq)(hc:bL K.L f args A post)(he: ∀w,Enters K.L n ρ o f args w){m:Nat}(hm:m<=aq.size)(H:Hp S0 aq σ (A++R)):
  Cxc K σ n ρ o λv σ'=> ∃L',post m v L'/\Hp S0 aq σ' (L'++R)/\True:=by
 refine ⟨f,args,λW e e1 e2=>⟨he W, ?_⟩, ?_⟩
 ·have H1:=hL.to H e e1 e2;refine (hc.frame H1 (qaa hm H1.size)).mono ?_;rintro _ w' ⟨v,σ',L',rfl,rfl,hp,H',_⟩;exact ⟨v,σ',rfl,rfl,L',hp,H',trivial⟩
 ·rintro v σ' τ w e ⟨L',hp,H',_⟩;obtain ⟨kJ,h1,_,h2⟩:=Ci (v:=v) hL e H';exact ⟨kJ,h1,L',hp,h2,trivial⟩
theorem rm{f:FuncId}{args:List Value}{post:Nat->Value->List Ch->Prop}{o:Oper}(hL:Lo K aq)(hl:gW Ln A B)(hc:bL K.L f args B post)(he: ∀w,Enters K.L n ρ o f args w)(H:Hp S0 aq σ (Ln++(A++R)))(nW: ∀m v L',post m v L'->ye m L'):
  Cxc K σ n ρ o λv σ'=> ∃L',post σ.size v L'/\Hp S0 aq σ' (L'++(Ln++R))/\True/\aq.size<=σ.size:=by
 refine ⟨f,args,λW e e1 e2=>⟨he W, ?_⟩, ?_⟩
 ·have H1:=hL.to H e e1 e2;refine (hc.tz hl H1 nW).mono ?_;rintro _ w' ⟨v,σ',L',rfl,rfl,hp,H',_⟩;have hs:(St.at σ W e).size=σ.size:=by simp only [St.size,St.at,e]
  rw [hs] at hp;exact ⟨v,σ',rfl,rfl,L',hp,H',trivial,H.size⟩
 ·rintro v σ' τ w e ⟨L',hp,H',_,h3⟩;obtain ⟨kJ,h1,_,h2⟩:=Ci (v:=v) hL e H';exact ⟨kJ,h1,L',hp,h2,trivial,h3⟩
theorem bY(hc:Cxc K σ n ρ ⟨some d,op,ty,pos,af,gd⟩ Rz)(hw:Region.wanted ⟨some d,op,ty,pos,af,gd⟩ (yv ops n ρ)=true)
  (k: ∀v (σ':St),Rz v σ'->ua K f0 ops Q rest (fr n (upd ρ d v)) σ'.w):ua K f0 ops Q (⟨some d,op,ty,pos,af,gd⟩::rest) (fr n ρ) σ.w:=by
 obtain ⟨f,args,hc,hR⟩:=hc;intro b kk cs i h1 h2 hl h3;rw [qb2,List.range'_succ];refine nh K.HP K.HF (.inr rfl) λW e e1 e2=> ?_;obtain ⟨he,hC⟩:=hc W e e1 e2;have hC': ∀W:World,W.heap=σ.w.heap->W.os=K.o->W.output=K.out->Calls K.L f args.toArray W fun | .returned v,w'=> ∃σ',w'=σ'.w/\Rz v σ' | _,_=>False:=λW e e1 e2=>by
  refine (hc W e e1 e2).2.mono ?_;rintro _ w' ⟨v,σ',rfl,rfl,h⟩;exact ⟨σ',rfl,h⟩
 have hs:=stepG_enter (P:=K.L) (main:=true) (b:=b) (k:=kk) (cs:=cs++[cT]) (rest:=List.range' (i+1) rest.length) (YF hl) (a:=fr n ρ) (by rw [eR];exact hw) (by rw [h1.1];simp) (by rw [aR];exact he);refine ⟨_,_::cs,W,_,hs,nofun,λhx=>K.hC f _ W (λv w'=> ∃σ',w'=σ'.w/\Rz v σ') hx (hC' W e e1 e2), ?_⟩;refine By (R:=λv w'=> ∃σ',w'=σ'.w/\Rz v σ') K.HP K.HF K.HPs K.HFs K.he (K.hX _) (λv w τ ⟨σ',q1,q2⟩=>hR v σ' τ w q1.symm q2) (λW' q q1 q2=>hC' W' (q.trans e) q1 q2) λv w' ⟨σ',q1,q2⟩=> ?_;subst q1;rw [Frame.finish_at,YF hl];have:=k v σ' q2 b kk cs (i+1) h1 h2 (at1 hl) h3;rw [←de] at this;exact this
structure Ij(K:Bz)(f:FuncId)(args:List Value)(pre:List Ch)(K0:World->Prop)(post:Nat->Value->List Ch->Prop):Prop where
 fn: ∃fn c,K.L.funcs[f]? =some fn/\(fn.name== "runtime.NumGoroutine")=false/\fn.body=some c
 co: ∀(σ:St) (m:Nat),m<=σ.size->Lo K σ->Hp (dx pre) σ σ pre->K0 σ.w-> ∀(a:Frame) (cs:List Frame),a.mode= .run-> ¬K.Xs a.fn->
  (∀W:World,W.heap=σ.w.heap->W.os=K.o->W.output=K.out-> ∃es,stepG K.L true (ig a (cs++[cT])) W= .go (ig (Frame.enter K.L f args.toArray .normal) (a::(cs++[cT]))) W es)->
  (∀v σ' L',post m v L'->Hp (dx pre) σ σ' L'->K.Co (a.finish v) cs σ'.w)->K.Co a cs σ.w
theorem Ik{f:FuncId}{args:List Value}{o:Oper}{W:World}{b:Frame}{k:List Item}{cs:List Frame}{i:Nat}{Q1:List Nat}(he:Enters K.L n ρ o f args W)(ho:ops[i]? =some o)(hw:Region.wanted o (yv ops n ρ)=true)(h1:b.kind= .normal/\b.fn=f0):
  ∃es,stepG K.L true (ig (b.at (fr n ρ) (.inRegion ops (i::Q1)::k)) cs) W= .go (ig (Frame.enter K.L f args.toArray .normal) (b.at (fr n ρ) (.inRegion ops (i::Q1)::k)::cs)) W es:=
 ⟨_,stepG_enter (P:=K.L) (main:=true) (b:=b) (k:=k) (cs:=cs) (rest:=Q1) ho (a:=fr n ρ) (by rw [eR];exact hw) (by rw [h1.1];simp) (by rw [aR];exact he)⟩
theorem Cj{f:FuncId}{args:List Value}{K0:World->Prop}{post:Nat->Value->List Ch->Prop}(hc:Ij K f args A K0 post)(he: ∀w,Enters K.L n ρ ⟨some d,op,ty,pos,af,gd⟩ f args w)(hL:Lo K aq){m:Nat}(hm:m<=aq.size)(H:Hp S0 aq σ (A++R))(h0:K0 σ.w)
  (hw:Region.wanted ⟨some d,op,ty,pos,af,gd⟩ (yv ops n ρ)=true) (k: ∀v (σ':St),(∃L',post m v L'/\Hp S0 aq σ' (L'++R)/\True)->ua K f0 ops Q rest (fr n (upd ρ d v)) σ'.w):ua K f0 ops Q (⟨some d,op,ty,pos,af,gd⟩::rest) (fr n ρ) σ.w:=by
 intro b kk cs i h1 h2 hl h3;rw [qb2,List.range'_succ];refine hc.co σ m (qaa hm H.size) (hL.on H) (Hp.begin (eG.1 H.all).1 (fi.1 H.ap).1) h0 _ cs rfl h2 (λW _ _ _=>Ik (he W) (YF hl) hw h1) λv σ' L' hp H'=> ?_;rw [Frame.finish_at,YF hl];have:=k v σ' ⟨L',hp,H.frame H',trivial⟩ b kk cs (i+1) h1 h2 (at1 hl) h3;rw [←de] at this;exact this
omit [bg] [aM] [bk] in
theorem Z7(hl:gW Ln A B)(H:Hp S0 aq σ (Ln++(A++R))): ∃tl:St,tl.w=σ.w/\tl.ef=σ.ef/\Hp (dx B) tl tl B/\
  ∀iL L',ye σ.size L'->Hp (dx B) tl iL L'-> ∃ji:St,ji.w=iL.w/\Hp S0 aq ji (L'++(Ln++R)):=by
 classical
 obtain ⟨a1,a23⟩:=eG.1 H.all;obtain ⟨a2,a3⟩:=eG.1 a23;obtain ⟨p1,p23,p4⟩:=fi.1 H.ap;obtain ⟨p2,p3,p5⟩:=fi.1 p23;have pA: ∀b,dx A b-> ¬dx Ln b:=λb hb h=>p4 b h (bM.2 (.inl hb));have pR: ∀b,dx R b-> ¬dx Ln b:=λb hb h=>p4 b h (bM.2 (.inr hb));obtain ⟨tl,pp,aB⟩:=hl.P3 a1 p1 a2 pA;have mS:tl.size=σ.size:=by unfold St.size;rw [pp.w]
 have Hb:Hp (dx B) tl tl B:=Hp.begin aB (hl.apart p2);refine ⟨tl,pp.w,pp.ef,Hb,λiL L' nW H'=> ?_⟩;have VU:=hl.dx;have hle:σ.size<=iL.size:=mS▸H'.md.size
 let ji:St:=⟨iL.w,λc=>if dx Ln c then σ.gB c else iL.gB c,λb hb=>by
  have: ¬dx Ln b:=λh=>absurd (qa3 (mi a1 b h) hle) (qcm.2 hb);rw [if_neg this];exact iL.ok b hb,iL.ef⟩
 have QB: ∀b,dx Ln b->ji.gB b=σ.gB b:=λb h=>if_pos h;have wU: ∀b, ¬dx Ln b->ji.gB b=iL.gB b:=λb h=>if_neg h;have m3:Md (dx A) σ ji:=by
  refine ⟨?_, ?_, ?_, ?_,H'.md.ef.trans pp.ef,⟨hle,λb ho=> ?_,λb=> ?_⟩,λb hb hn=> ?_,λb hb hn=> ?_⟩
  ·exact H'.md.os.trans (by rw [pp.w])
  ·have:=H'.md.tape;rw [pp.w,pp.ef] at this;exact this
  ·exact H'.md.output.trans (by rw [pp.w])
  ·have:=H'.md.dr;rw [pp.w,pp.ef] at this;exact this
  ·have h1:iL.w.heap[b]? =tl.w.heap[b]? :=H'.md.ext.block b (qa3 ho (pp.le b));show iL.w.heap[b]? =_;rw [h1,pp.w]
  ·by_cases h:dx Ln b
   ·exact qay (QB b h).symm
   ·rw [wU b h];exact qaa (pp.le b) (H'.md.ext.gB b)
  ·have:=H'.md.block b (by rw [mS];exact hb) (λh=>hn ((VU b).1 h));rw [pp.w] at this;exact this
  ·by_cases h:dx Ln b
   ·exact QB b h
   ·rw [wU b h,H'.md.gB b (by rw [mS];exact hb) (λh=>hn ((VU b).1 h)),pp.gB b h]
 have FW: ∀b,dx L' b->b<σ.size->dx A b:=λb hb bG=>(VU b).1 (H'.DL b hb (by rw [mS];exact bG));have aL':jj ji L':=Ck (σ:=iL) (σ':=ji) rfl nW (λb hb=>by
  refine wU b λh=> ?_;have bG:=mi a1 b h;rcases hb with hb | hb
  ·omega
  ·exact pA b (FW b hb bG) h) H'.all
 refine ⟨ji,rfl,⟨H.md.step m3 (λi hi h=>H.DL i (bM.2 (.inr (bM.2 (.inl h)))) hi),eG.2 ⟨aL',eG.2 ⟨iT a1 m3 (λb hb h=>pA b h hb),iT a3 m3 (λb hb h=>p5 b h hb)⟩⟩,
  fi.2 ⟨H'.ap,fi.2 ⟨p1,p3,λb hb h=>pR b h hb⟩,λb hb fS=> ?_⟩,λb hb bG=> ?_⟩⟩
 ·rcases bM.1 fS with h | h
  ·exact pA b (FW b hb (mi a1 b h)) h
  ·exact p5 b (FW b hb (mi a3 b h)) h
 ·rcases bM.1 hb with hb | hb
  ·exact H.DL b (bM.2 (.inr (bM.2 (.inl (FW b hb (qa3 bG H.md.size)))))) bG
  ·rcases bM.1 hb with hb | hb
   ·exact H.DL b (bM.2 (.inl hb)) bG
   ·exact H.DL b (bM.2 (.inr (bM.2 (.inr hb)))) bG
theorem Il{f:FuncId}{args:List Value}{K0:World->Prop}{post:Nat->Value->List Ch->Prop}(hl:gW Ln A B)(hc:Ij K f args B K0 post)(he: ∀w,Enters K.L n ρ ⟨some d,op,ty,pos,af,gd⟩ f args w)(hL:Lo K aq)(H:Hp S0 aq σ (Ln++(A++R)))(h0:K0 σ.w)(nW: ∀m v L',post m v L'->ye m L')
  (hw:Region.wanted ⟨some d,op,ty,pos,af,gd⟩ (yv ops n ρ)=true) (k: ∀v (σ':St),(∃L',post σ.size v L'/\Hp S0 aq σ' (L'++(Ln++R))/\True/\aq.size<=σ.size)->ua K f0 ops Q rest (fr n (upd ρ d v)) σ'.w):ua K f0 ops Q (⟨some d,op,ty,pos,af,gd⟩::rest) (fr n ρ) σ.w:=by
 intro b kk cs i h1 h2 hll h3;rw [qb2,List.range'_succ];obtain ⟨tl,q1,q2,Hb,hk⟩:=Z7 hl H;have mS:tl.size=σ.size:=by unfold St.size;rw [q1]
 have hLp:Lo K tl:=⟨by rw [q2];exact (hL.on H).1,by rw [q1];exact (hL.on H).2.1,by rw [q1];exact (hL.on H).2.2⟩;have:=hc.co tl σ.size (qay mS.symm) hLp Hb (by rw [q1];exact h0) (b.at (fr n ρ) (.inRegion ops (i::List.range' (i+1) rest.length)::kk)) cs rfl h2 (λW _ _ _=>Ik (he W) (YF hll) hw h1) λv σ' L' hp H'=> ?_
 ·rw [q1] at this;exact this
 ·obtain ⟨ji,r1,r2⟩:=hk σ' L' (nW _ _ _ hp) H';rw [Frame.finish_at,YF hll, ←r1];have:=k v ji ⟨L',hp,r2,trivial,H.size⟩ b kk cs (i+1) h1 h2 (at1 hll) h3;rw [←de] at this;exact this
def BpC(K:Bz)(fn:Func)(wm:Value->World->Prop):Exit->Act->World->Prop
 | .normal,a,w | .ret,a,w=>a.defers=[]/\ ∃v,(∀W,(results fn a.tmps).run K.L W= .ok v W)/\wm v w
 | _,_,_=>False
def ub(post:Value->List Ch->Prop)(aq:St)(S0:BS)(v:Value)(w':World):Prop:= ∃σ' L',w'=σ'.w/\post v L'/\Hp S0 aq σ' L'
theorem iM{fn:Func}{post:Value->List Ch->Prop}(hr: ∀W,(results fn (fr n ρ).tmps).run K.L W= .ok v W)(hp:post v L')(H:Hp S0 aq σ L'):BpC K fn (ub post aq S0) .ret (fr n ρ) σ.w:=⟨rfl,v,hr,σ,L',rfl,hp,H⟩
omit [bg] [aM] [bk] in
theorem Q2{P:Program}{b:Frame}{a:Act}{todo:List Item}{c:Frame}{cs:List Frame}{fn:Func}(hn:b.kind= .normal)(hd:a.defers=[])(hf:P.funcs[b.fn]? =some fn)(hr:(results fn a.tmps).run P w= .ok v w):
  ∃es,stepG P true (ig { b.at a todo with mode:= .returning } (c::cs)) w= .go (ig (c.finish v) cs) w es:=by
 simp [stepG,unwind,doReturn,Frame.at,hn,hd,hf,hr,GStep.after]
theorem af8{f:FuncId}{fn:Func}{c:Code}{l:List Value}{pre:List Ch}{K0:World->Prop}{post:Nat->Value->List Ch->Prop}(P2: ¬K.Xs f)(hf:K.L.funcs[f]? =some fn)(QO:(fn.name== "runtime.NumGoroutine")=false)(hb:fn.body=some c)(hn:fn.ntmps=n)(hlen:Nat.ble l.length n=true)
  (h: ∀(S0:BS) (aq:St) (n0:Nat),n0<=aq.size->Lo K aq->K0 aq.w->S0=dx pre->Hp S0 aq aq pre->wpC K f c (BpC K fn (ub (post n0) aq S0)) (fr n (fo l)) aq.w):Ij K f l pre K0 post:=by
 refine ⟨⟨fn,c,hf,QO,hb⟩,λσ m hm hL H h0 a cs ha KT he hk=> ?_⟩;refine nh K.HP K.HF (.inr ha) λW e e1 e2=> ?_;obtain ⟨es,hs⟩:=he W e e1 e2;have za:(Frame.enter K.L f l.toArray .normal).fn=f:=by rw [enter_at _ hf hb];rfl
 refine ⟨_,a::cs,W,es,hs,by rw [enter_at _ hf hb];nofun,by rw [za];exact P2,tx ?_ e⟩;have rZ:=pH l n (by simpa using hlen);rw [enter_at _ hf hb,qbn,hn,rZ];have Im: ∀a' w' todo,(a'.defers=[]/\ ∃v,(∀W,(results fn a'.tmps).run K.L W= .ok v W)/\ub (post m) σ (dx pre) v w')->K.Co { (base f).at a' todo with mode:= .returning } (a::cs) w':=by
  rintro a' w' todo ⟨hd,v,hr,σ',L',rfl,hp,H'⟩;refine nh K.HP K.HF (.inl (by simp)) λW e _ _=> ?_;obtain ⟨es,hs⟩:=Q2 (P:=K.L) (b:=base f) (a:=a') (todo:=todo) (c:=a) (cs:=cs++[cT]) rfl hd hf (hr W);have VF:(a.finish v).mode= .run:=(Go.Cx.kX a v).trans ha;have af9:(a.finish v).fn=a.fn:=by unfold Frame.finish;split <;> rfl
  exact ⟨a.finish v,cs,W,es,hs,λch=>(by rw [VF];nofun),by rw [af9];exact KT,tx (hk v σ' L' hp H') e⟩
 refine h (dx pre) σ m hm hL h0 rfl H (base f) [] (a::cs) ⟨rfl,rfl⟩ P2 λe a' w' q=> ?_;cases e with
 | normal=>exact nh K.HP K.HF (.inr rfl) λW e _ _=>⟨_,a::cs,W,_,stepG_end,nofun,P2,tx (Im a' w' [] q) e⟩
 | ret=>exact λtodo=>Im a' w' todo q
 | exit id=>exact q.elim
 | goto l=>exact q.elim
 | panic ch=>exact q.elim
 | outgrown=>exact q.elim
end
end Go.Vc
namespace Go.Vc
open Go Go.Proofs Go.Vs
open Go.Conc (G base stepG_end enter_at)
open Go.Cx (bg aM bk gV PF nh By xX cT ig Left TW)
section
variable[bg][aM][bk]
variable{K:Bz}{aq σ:St}{S0:BS}{n:Nat}{ρ:Nat->Value}{Q:Exit->Act->World->Prop}{w:World}
def yf(K:Bz)(f:FuncId)(l:List Value)(pre:List Ch)(K0:World->Prop)(post:Nat->Value->List Ch->Prop):Prop:=
 ∃fn c n,K.L.funcs[f]? =some fn/\(fn.name== "runtime.NumGoroutine")=false/\fn.body=some c/\fn.ntmps=n/\Nat.ble l.length n=true/\
  ∀(S0:BS) (aq:St) (n0:Nat),n0<=aq.size->Lo K aq->K0 aq.w->S0=dx pre->Hp S0 aq aq pre->wpC K f c (BpC K fn (ub (post n0) aq S0)) (fr n (fo l)) aq.w
variable{f:FuncId}{l:List Value}{pre:List Ch}{K0:World->Prop}{post:Nat->Value->List Ch->Prop}
theorem Q3{fn:Func}{c:Code}(hf:K.L.funcs[f]? =some fn)(QO:(fn.name== "runtime.NumGoroutine")=false)(hb:fn.body=some c)(hn:fn.ntmps=n)(hlen:Nat.ble l.length n=true)
 (h: ∀(S0:BS) (aq:St) (n0:Nat),n0<=aq.size->Lo K aq->K0 aq.w->S0=dx pre->Hp S0 aq aq pre->wpC K f c (BpC K fn (ub (post n0) aq S0)) (fr n (fo l)) aq.w):yf K f l pre K0 post:=⟨fn,c,n,hf,QO,hb,hn,hlen,h⟩
theorem yf.cal(P2: ¬K.Xs f)(h:yf K f l pre K0 post):Ij K f l pre K0 post:=by
 obtain ⟨fn,c,n,h1,h2,h3,h4,h5,h6⟩:=h;exact af8 P2 h1 h2 h3 h4 h5 h6
def Fin(K:Bz)(f:FuncId)(post:Value->List Ch->Prop)(σ:St)(S0:BS):Prop:=
 ∀(fn:Func) (a:Act) (todo:List Item) (v:Value) (w:World),K.L.funcs[f]? =some fn->a.defers=[]->(∀W,(results fn a.tmps).run K.L W= .ok v W)->ub post σ S0 v w->K.Co { (base f).at a todo with mode:= .returning } [] w
theorem yf.top(P2: ¬K.Xs f)(h:yf K f l pre K0 post){m:Nat}(hm:m<=σ.size)(hL:Lo K σ)(H:Hp (dx pre) σ σ pre)(h0:K0 σ.w)(hF:Fin K f (post m) σ (dx pre)):K.Co (Frame.enter K.L f l.toArray .normal) [] σ.w:=by
 obtain ⟨fn,c,n,hf,QO,hb,hn,hlen,h⟩:=h;have rZ:=pH l n (by simpa using hlen);rw [enter_at _ hf hb,qbn,hn,rZ];refine h (dx pre) σ m hm hL h0 rfl H (base f) [] [] ⟨rfl,rfl⟩ P2 λe a' w' q=> ?_;cases e with
 | normal=>exact nh K.HP K.HF (.inr rfl) λW e _ _=>⟨_,[],W,_,stepG_end,nofun,P2,tx (let ⟨hd,v,hr,hp⟩:=q;hF fn a' [] v w' hf hd hr hp) e⟩
 | ret=>exact λtodo=>let ⟨hd,v,hr,hp⟩:=q;hF fn a' todo v w' hf hd hr hp
 | exit id=>exact q.elim
 | goto l=>exact q.elim
 | panic ch=>exact q.elim
 | outgrown=>exact q.elim
def Cb(v:Value)(w:World):Prop:= ∀b,blk v=some b-> ∃cs T e,w.heap[b]? =some (.cells cs T e)
omit [bg] [aM] [bk] in
theorem Cb.own{α:Type}[Rp α]{lo el:Nat}{v:Value}{xs:List α}(h:Ow σ lo el v xs):Cb v σ.w:=by
 intro b hb;rcases h with ⟨rfl,_⟩ | ⟨b',o,c,C,T,rfl,_,h3,_⟩
 ·cases hb
 ·cases hb;exact ⟨C,T,_,h3⟩
omit [bg] [aM] [bk] in
theorem Cb.to{v:Value}{L:List Ch}(h:Cb v aq.w)(H:Hp S0 aq σ L)(hS: ∀b, ¬S0 b):Cb v σ.w:=by
 intro b hb;obtain ⟨cs,T,e,hq⟩:=h b hb;have bG:b<aq.size:=(qa1.1 hq).1;exact ⟨cs,T,e,by rw [H.md.block b bG (hS b)];exact hq⟩
end
end Go.Vc
namespace Go.Vc
open Go Go.Proofs Go.Vs
open Go.Cx (bg aM bk gV PF FU xX cT ig Left TW tree cM Mn On)
section
variable[bg][aM][bk]
variable{K:Bz}{aq σ:St}{S0:BS}{n:Nat}{ρ:Nat->Value}{L':List Ch}{f:FuncId}{fn:Func}{c:Code}{post:Value->List Ch->Prop}
def Q4(K:Bz)(fn:Func)(wm:Value->World->Prop)(e:Exit)(a:Act)(w:World):Prop:=e= .ret/\a.defers=[]/\ ∃v,(∀W,(results fn a.tmps).run K.L W= .ok v W)/\wm v w
theorem Q5{v:Value}(hr: ∀W,(results fn (fr n ρ).tmps).run K.L W= .ok v W)(hp:post v L')(H:Hp S0 aq σ L'):Q4 K fn (ub post aq S0) .ret (fr n ρ) σ.w:=⟨rfl,rfl,v,hr,σ,L',rfl,hp,H⟩
theorem Q6(hL:Lo K aq)(H:Hp S0 aq σ L')(hf:K.L.funcs[f]? =some fn)(h: ∀σ:St,Hp S0 aq σ L'->c.wp K.L (Q4 K fn (ub post aq S0)) (fr n ρ) σ.w):wpC K f c (BpC K fn (ub post aq S0)) (fr n ρ) σ.w:=by
 intro b k cs h1 hx h3 gs W sl t q dm β b' k' h0 hq hM
 let Q:Frame->World->Prop:=λUQ w'=> ∃a' todo,UQ={ b.at a' todo with mode:= .returning }/\a'.defers=[]/\ ∃v,(∀W,(results fn a'.tmps).run K.L W= .ok v W)/\ub post aq S0 v w'
 have hb:cs=[]/\k'=[]\/cM K.L K.C β cs k':=by
  have:=hM.sk;cases this with
  | one _ _=>exact .inl ⟨rfl,rfl⟩
  | cons _ hk=>exact .inr hk
 have tv:cM K.L K.C β [b.at (fr n ρ) (.code c::k)] [b']:=by
  have:=hM.sk;cases this with
  | one hf hr=>exact .one hf hr
  | cons hf hk=>exact .one hf rfl
 have hM1:=(hM.heap (u':=On σ.w W) rfl (.refl W)).fs tv;have ZO:xX K.L Q (b.at (fr n ρ) (.code c::k)) [] (On σ.w W):=by
  refine tree K.HPs K.HFs ?_ ⟨β,_,[],W,tv.self K.he,hM1.wr,hM1.dw⟩ λτ _=> ?_
  ·rintro a w τ ⟨a',todo,q1,q2,v,q3,σ',L2,q4,q5,q6⟩;obtain ⟨kJ,r1,_,r2⟩:=Ci (v:=v) hL q4.symm q6;exact ⟨a',todo,q1,q2,v,q3,kJ,L2,r1,q5,r2⟩
  ·have H1:=hL.to H (W:=TW (On σ.w W) τ) rfl hM.os hM.output;obtain ⟨e,a',w',⟨rfl,q2,v,q3,q4⟩,todo,m,hm⟩:=h _ H1 b k [cT];refine ⟨m,{ b.at a' todo with mode:= .returning },w',v,hm,⟨rfl,q2,h1.1,fn,by rw [←hf, ←h1.2];rfl,q3 w'⟩,a',todo,rfl,q2,v,q3,q4⟩
 refine FU (cs:=cs) K.HP K.HF (K.hX Q) (λa w _ _ _ hQ=> ?_) ZO gs W sl t q dm β b' [] k' h0 hq hb hM1;obtain ⟨a',todo,rfl,q2,v,q3,q4⟩:=hQ;exact h3 .ret a' w ⟨q2,v,q3,q4⟩ todo
end
end Go.Vc
namespace Go.Vc
open Go Go.Proofs Go.Vs
open Go.Cx (bg aM bk)
section
variable[bg][aM][bk]
variable{K:Bz}{f0:FuncId}{aq σ:St}{S0:BS}{A B R Ln L':List Ch}{n:Nat}{ρ:Nat->Value}{Q:Exit->Act->World->Prop}{w:World}
variable{ops:Array Oper}{d:Nat}{v:Value}{rest:List Oper}{op:Op}{x:Operand}{ty:TypeId}{pos:String}{af:Array Edge}
theorem sv(v:Value)(hr:dX K.L w.heap n ρ ⟨some d,op,ty,pos,af,none⟩ v)(k:ua K f0 ops Q rest (fr n (upd ρ d v)) w):ua K f0 ops Q (⟨some d,op,ty,pos,af,none⟩::rest) (fr n ρ) w:=st hr k
theorem av(v:Value)(k:ua K f0 ops Q rest (fr n (upd ρ d v)) w)(h:ev n ρ x=v:=by exact rfl):ua K f0 ops Q (⟨some d, .move x,ty,pos,af,none⟩::rest) (fr n ρ) w:=st (ai h) k
theorem aJ(v:Value)(k:ua K f0 ops Q rest (fr n (upd ρ d v)) w)(h:ev n ρ x=v:=by exact rfl):ua K f0 ops Q (⟨some d, .assign x,ty,pos,af,none⟩::rest) (fr n ρ) w:=st (vO h) k
theorem gC{c:Operand}{x y:Code}{α:Type}{b:Bool}{u v z:α}(h:(bif b then u else v)=z)(ht:b=true->u=z->wpC K f0 x Q (fr n ρ) w)(hf:b=false->v=z->wpC K f0 y Q (fr n ρ) w)(hc:ev n ρ c= .bool b:=by exact rfl):
 wpC K f0 (.cond c x y) Q (fr n ρ) w:=BA b hc (λe=>ht e (YG e h)) (λe=>hf e (YH e h))
theorem cl{f:FuncId}{xs:Array Operand}{Ts:Array TypeId}{args:List Value}{post:Nat->Value->List Ch->Prop}{m:Nat}(hL:Lo K aq)(hc:bL K.L f args A post)(hm:m<=aq.size)(H:Hp S0 aq σ (A++R))
 (k: ∀v (σ':St),(∃L',post m v L'/\Hp S0 aq σ' (L'++R))->ua K f0 ops Q rest (fr n (upd ρ d v)) σ'.w) (hx:xs.toList.map (ev n ρ)=args:=by exact rfl):
 ua K f0 ops Q (⟨some d, .call ⟨.value (.func f),xs,Ts⟩,ty,pos,af,none⟩::rest) (fr n ρ) σ.w:=bY (bh hL hc (λ_=>cY hc.fn hx) hm H) wn λv σ' ⟨L',a,b,_⟩=>k v σ' ⟨L',a,b⟩
theorem ll{f:FuncId}{xs:Array Operand}{Ts:Array TypeId}{args:List Value}{post:Nat->Value->List Ch->Prop}(hL:Lo K aq)(hl:gW Ln A B)(hc:bL K.L f args B post)(H:Hp S0 aq σ (Ln++(A++R)))(nW: ∀m v L',post m v L'->ye m L')
 (k: ∀v (σ':St),(∃L',post σ.size v L'/\Hp S0 aq σ' (L'++(Ln++R))/\True/\aq.size<=σ.size)->ua K f0 ops Q rest (fr n (upd ρ d v)) σ'.w) (hx:xs.toList.map (ev n ρ)=args:=by exact rfl):
 ua K f0 ops Q (⟨some d, .call ⟨.value (.func f),xs,Ts⟩,ty,pos,af,none⟩::rest) (fr n ρ) σ.w:=bY (rm hL hl hc (λ_=>cY hc.fn hx) H nW) wn k
theorem en{fn:Func}{post:Value->List Ch->Prop}{t:Nat}(h:fn.results= #[.tmp t])(hp:post v L')(H:Hp S0 aq σ L')(hv:Vs.look n ρ t=v:=by exact rfl):BpC K fn (ub post aq S0) .ret (fr n ρ) σ.w:=iM (λ_=>cv (rs:=[.tmp t]) h (eH hv eW) rfl) hp H
theorem fqt{fn:Func}{post:Value->List Ch->Prop}{t:Nat}(h:fn.results= #[.tmp t])(hp:post v L')(H:Hp S0 aq σ L')(hv:Vs.look n ρ t=v:=by exact rfl):Q4 K fn (ub post aq S0) .ret (fr n ρ) σ.w:=Q5 (λ_=>cv (rs:=[.tmp t]) h (eH hv eW) rfl) hp H
theorem k1{id:Nat}{l:List Oper}{y:Code}(h:ua K f0 l.toArray (Exit.then (wpC K f0 y Q) Q) l (fr n ρ) w):wpC K f0 (.seq (.region id l.toArray false) y) Q (fr n ρ) w:=dz (rg h)
theorem k2{a:Act}{G:Act->World->Prop}(h:G a w):ua K f0 ops (Exit.then G Q) [] a w:=bp (az h)
theorem k3{a:Act}{x y:Code}(h:wpC K f0 x (Exit.then (wpC K f0 y Q) Q) a w):ua K f0 ops (Exit.then (wpC K f0 (.seq x y) Q) Q) [] a w:=k2 (dz h)
theorem k4{id:Nat}{l:List Oper}{y:Code}(h:ua K f0 l.toArray (Exit.then (wpC K f0 y Q) Q) l (fr n ρ) w):ua K f0 ops (Exit.then (wpC K f0 (.seq (.region id l.toArray false) y) Q) Q) [] (fr n ρ) w:=k2 (k1 h)
theorem k5{id:Nat}{l:List Oper}{y z:Code}(h:ua K f0 l.toArray (Exit.then (wpC K f0 y (Exit.then (wpC K f0 z Q) Q)) (Exit.then (wpC K f0 z Q) Q)) l (fr n ρ) w):ua K f0 ops (Exit.then (wpC K f0 (.seq (.seq (.region id l.toArray false) y) z) Q) Q) [] (fr n ρ) w:=k3 (k1 h)
theorem k6{a:Act}{x y:Code}(h:wpC K f0 x (Exit.then (wpC K f0 y Q) Q) a w):wpC K f0 .skip (Exit.then (wpC K f0 (.seq x y) Q) Q) a w:=eF (az (dz h))
theorem k7{a:Act}(h:Q .ret a w):ua K f0 ops (Exit.then (wpC K f0 .ret Q) Q) [] a w:=k2 (Q0 h)
end
end Go.Vc
namespace Go.Cx
open Go Go.Conc
open Go.ConcN (sumTo)
def Az(C:Program)(wm:Value->World->Prop)(m:Machine)(t:Trace):Prop:= ∃o w' ops,stepT C m=(.ended o w',ops)/\Conc.Good C wm m o w' (t++ops)
section
variable{C:Program}{dm:Loc->Prop}{g:Goroutine}{sz:Nat}{wm:Value->World->Prop}{w:World}
theorem EI(hr:g.status= .running)(K: ∀W:World,Wq W w-> ∃v w',stepG C true g W= .ended (.done v) w' #[]/\wm v w'):
  ∀(r:Nat) (gs:Array Goroutine) (W:World) (sl:Option (Nat×Nat)) (t:Trace) (q:Nat->Nat),sumTo gs.size q=r->gs[0]? =some g->Wq W w->Qt C dm gs sz t q->jO C (Az C wm) (crowd gs W sl) t:=by
 intro r
 induction r using Nat.strongRecOn with
 | _ r ih=>
  intro gs W sl t q QZ h0 hw hq;obtain ⟨i,y,d,xG,hy,Ii,hs⟩:=crowd_pick (P:=C) (w:=W) (sl:=sl) (hq.awake h0 hr) ⟨0,g,h0,hr⟩;cases i with
  | zero=>
   obtain ⟨v,w',h1,h2⟩:=K (W.at d) (hw.at d);have bU:=ConcN.runT_crowd_ended (P:=C) (sl:=xG) h0 (w:=W.at d) (by simpa using h1);have he:MemOp.ofEvents 0 g.frame.fn g.frame.place #[]= #[]:=rfl;refine jO.here ⟨_,_,_,hs.trans bU,v,rfl,h2, ?_, ?_,⟨?_,rfl⟩, ?_⟩
   ·rw [he,Array.append_empty];exact hq.ti.nr
   ·rw [he,Array.append_empty];exact λi g h1 h2 h3=>hq.ho i g h1 h2 id h3
   ·intro x hx;obtain ⟨j,hj⟩:=List.mem_iff_getElem?.1 hx;rw [List.getElem?_drop] at hj;have YI:gs[1+j]? =some x:=by simpa [crowd] using hj
    obtain ⟨z,hz,yd⟩:=hq.wk (1+j) (by omega) (qa1.1 YI).1;rw [YI] at hz;cases hz;exact ⟨_,yd.leaves⟩
   ·intro j x hj hj0;rw [he,Array.append_empty];obtain ⟨z,hz,yd⟩:=hq.wk j (by omega) (qa1.1 hj).1;rw [show gs[j]? =some x from hj] at hz;cases hz;exact ⟨_,yd.hears _⟩
  | succ i=>
   obtain ⟨rH,ops,q',h1,h2,h3,h4,h5⟩:=hq.leave (W:=W.at d) (sl:=xG) h0 hr (k:=i+1) (by omega) hy Ii;exact jO.step (hs.trans h1) (ih _ (by rw [←QZ];exact h5) rH (W.at d) xG (t++ops) q' (by rw [h3]) h2 (hw.at d) h4)
theorem Io(g:Goroutine)(W:World):Qt C no1 #[g] W.heap.size #[] (λ_=>0) where
 wk:=λk h1 h2=>by simp at h2;omega
 ti:=by
  have no: ∀i a,touchAt #[] i=some a->False:=λi a h=>by simp [touchAt,Trace.act?] at h
  exact ⟨λi op x h=>by simp at h,λk h=>h.elim,λk h=>h.elim,λl _ _ _ _ i a h=>(no i a h).elim,λl _ _ _ _ i a h=>(no i a h).elim,λi a h=>(no i a h).elim,ConcN.noRace_nil,λi op h=>by simp at h,λi a h=>(no i a h).elim⟩
 ho:=λi g h=>by simp [Trace.g?] at h
 d0:=rfl
 wH:=λl b h=>h.elim
theorem EJ{g:Goroutine}{W:World}(h:jO C (Az C wm) (solo g W) #[]):
  ∃M last o w' t',runNT C (M+1) (solo g W) #[]=(.ended o w',t')/\runN C M (solo g W)= .next last/\step C last= .ended o w'/\Conc.Good C wm last o w' t':=by
 obtain ⟨n,m,t,h1,o,w',ops,h2,h3⟩:=h;have h4:runN C n (solo g W)= .next m:=by rw [←runNT_fst _ _ _ #[],h1]
 have h5:step C m= .ended o w':=by rw [←stepT_fst C m true,h2]
 have h6:=runNT_succ C n _ _ _ _ h1;rw [h2] at h6;have h7:(runNT C (n+1) (solo g W) #[]).1= .ended o w':=by rw [runNT_fst];rw [_root_.Go.runN_add,h4];simp [runN,h5]
 exact ⟨n,m,o,w',t++ops,Prod.ext h7 h6,h4,h5,h3⟩
end
end Go.Cx
namespace Go.Vc
open Go Go.Proofs Go.Vs
open Go.Conc (G base solo)
open Go.Cx (bg aM bk gV PF nh xX cT ig TW cM j5 Mn On Az EI Io jO aL ay cH gU Dw Bj pU no1 Wq)
section
variable[bg][aM][bk]
variable{K:Bz}{σ:St}{S0:BS}{f:FuncId}{post:Value->List Ch->Prop}{wm:Value->World->Prop}
omit [bg] [aM] [bk] in
theorem Z8{β:Bj}{x y:List Deferred}(h:Go.Cx.oD β x y)(hx:x=[]):y=[]:=by
 subst hx;cases h
 rfl
omit [bg] [aM] [bk] in
theorem Ot{P:Program}{b:Frame}{fn:Func}{t:Nat}{W:World}(hm:b.mode= .returning)(hd:b.defers=[])(hk:b.kind= .normal)(hf:P.funcs[b.fn]? =some fn)(hi:P.inits.idxOf? b.fn=none)(hr:fn.results= #[.tmp t]):
  stepG P true (ig b []) W= .ended (.done (b.tmps.getD t undef)) W #[]:=by
 have h1:=results_tmp hr b.tmps P W;have h2:=Conc.events_results_tmp (P:=P) (w:=W) hr b.tmps #[];simp [stepG,unwind,doReturn,hm,hd,hk,hf,hi,h1,h2,seen,GStep.after]
theorem VV(ur:bg.ok f)(qX:bg.uo f)(FR: ¬K.Xs f)(aaa:K.C.inits.idxOf? f=none)(hΦ:K.Φ=Az K.C wm)(cE: ∀fn,K.L.funcs[f]? =some fn-> ∃t,fn.results= #[.tmp t])(Q7: ∀v L,post v L->v=B true)
  (hP: ∀W':World,W'.tape=K.W0.tape->W'.os=K.W0.os->W'.output=K.W0.output->(∀b,b<K.W0.heap.size->W'.heap[b]? =K.W0.heap[b]?)->wm (B true) W'):Fin K f post σ S0:=by
 intro fn a todo v w hf hd hr ⟨σ',L',hw,hp,H'⟩ gs W sl t q dm β b k' h0 hq hM;obtain ⟨kl,c,g1,g2,g3,g4⟩:=K.HF.same f ur qX FR;have e:kl=fn:=qai (g1.symm.trans hf);subst e;obtain ⟨rfl,hF⟩:k'=[]/\j5 K.L K.C β { (base f).at a todo with mode:= .returning } b:=by
  have:=hM.sk;cases this with
  | one h _=>exact ⟨rfl,h⟩
  | cons _ h=>cases h
 obtain rfl:=Q7 v L' hp;obtain ⟨tm,ht⟩:=cE _ hf;have hv:a.tmps.getD tm undef=B true:=by
  have:=hr w;rw [results_tmp ht] at this;injection this
 have Hz:b.tmps.getD tm undef=B true:=by
  have hT:aL β a.tmps b.tmps:=hF.tmps;cases h1:a.tmps[tm]? with
  | none=>
   rw [qak, h1] at hv;cases hv
  | some u=>
   obtain ⟨u',h2,h3⟩:=hT.get h1;rw [qak, h1,qcb] at hv;subst hv;rw [qak, h2,qcb];cases h3
   rfl
 have j6: ∀W',stepG K.C true (ig b []) W'= .ended (.done (B true)) W' #[]:=λW'=>by
  have:=Ot (P:=K.C) (b:=b) (fn:=kl) (t:=tm) (W:=W') (hF.mode.elim (λh=>by cases h.1) λh=>h.2.1) (Z8 hF.defers hd) hF.kind.2 (by rw [hF.fn];exact g2) (by rw [hF.fn];exact aaa) ht;rw [this,Hz]
 rw [hΦ];exact EI (g:=ig b []) rfl (λW' YJ=>⟨B true,W',j6 W',hP W' (YJ.tape.trans hM.tape) (YJ.os.trans hM.os) (YJ.output.trans hM.output) λb hb=>by rw [YJ.heap];exact hM.keep b hb⟩) _ gs W sl t q rfl h0 (.refl W) hq
theorem VW{l l':List Value}{pre:List Ch}{post:Nat->Value->List Ch->Prop}(hb:yf K f l pre (λ_=>True) post)(ur:bg.ok f)(qX:bg.uo f)(FR: ¬K.Xs f)(aaa:K.C.inits.idxOf? f=none)(hΦ:K.Φ=Az K.C wm)(cE: ∀fn,K.L.funcs[f]? =some fn-> ∃t,fn.results= #[.tmp t])
  (Q7: ∀m v L,post m v L->v=B true) (hP: ∀W':World,W'.tape=K.W0.tape->W'.os=K.W0.os->W'.output=K.W0.output->(∀b,b<K.W0.heap.size->W'.heap[b]? =K.W0.heap[b]?)->wm (B true) W')
  (hL:Lo K σ) (H:Hp (dx pre) σ σ pre) {β:Bj} (hx:aL β l.toArray l'.toArray) (hw:cH β σ.w K.W0) (hd:Dw σ.w) (hold: ∀a b,β a b->gU β σ.w b):
  jO K.C (Az K.C wm) (solo (G (Frame.enter K.C f l'.toArray .normal) []) K.W0) #[]:=by
 have hco:=hb.top FR (m:=0) (qa7 _) hL H trivial (VV ur qX FR aaa hΦ cE (Q7 0) hP);obtain ⟨fn,c,g1,g2,g3,g4⟩:=K.HF.same f ur qX FR;have:=hco #[ig (Frame.enter K.C f l'.toArray .normal) []] K.W0 none #[] (λ_=>0) no1 β _ [] rfl (Io _ _) ⟨.one (pU g1 g2 g3 g4 hx) rfl,hw,hd,λ_ _ _ _ _ h=>h,rfl,rfl,rfl,λa b q _=>hold a b q,λ_ _=>rfl⟩;rw [hΦ] at this;exact this
end
end Go.Vc
namespace Go.Vc
open Go Go.Proofs Go.Vs Go.ChangeShapes Go.WideShapes Go.ChangeAt Go.RowKit
open Go.Cx (hU nf Fw vK yb ay)
def Ip(W:World)(b:Nat):Prop:= ∃c e f,W.heap[b]? =some (.cells c e f)
theorem MN{P:Program}{W:World}{base:Nat}{t e:TypeId}{a:Addr}{len cap:Nat}(hu:P.underlying t=some (.slice e))(h:Value.okWide P W .any base t (.slice (some a) len cap)):Ip W a.block/\a.spot=none:=by
 simp only [Value.okWide,hu,Cell.okWide,Cell.ok] at h;obtain ⟨_,_,_,h1,row,cells,hs,_⟩:=h;refine ⟨?_,h1⟩;unfold World.shape? at hs;split at hs
 ·rename_i c e f h2;exact ⟨c,e,f,h2⟩
 ·cases hs
theorem Q8{W W':World}(h1:W'.tape=W.tape)(h2:W'.os=W.os)(h3:W'.output=W.output)(h4: ∀b,b<W.heap.size->W'.heap[b]? =W.heap[b]?):Below W.heap.size W W':=by
 refine ⟨h2,h1,h3, ?_,h4⟩;apply qa9;intro hn;have bG:W'.heap.size<W.heap.size:=Nat.lt_of_not_le hn;have:=h4 _ bG;rw [qbd (qa2 _),Array.getElem?_eq_getElem bG] at this;cases this
def St.Q9(σ:St):St:=⟨σ.w,σ.gB,σ.ok,True⟩
theorem Ou(σ:St):Ext σ (St.Q9 σ):=⟨qa2 _,λ_ _=>rfl,λ_=>qa2 _⟩
end Go.Vc
namespace Go.Vc
open Go Go.Proofs Go.Vs
open Go.Cx (bg aM hU nf Fw vK yb ay cH Bj aL rW cell_of tn)
section
variable{F:bg}{K:aM}{β:Bj}{σ τ:St}{W:World}{T:Nat->Prop}
structure Wt(F:bg)(T:Nat->Prop)(W:World)(τ:St):Prop where
 w:τ.w=Fw F T W
 gB: ∀b c e f,W.heap[b]? =some (.cells c e f)->τ.gB b=c.size
theorem MO(hw: @cH F K hU β σ.w W){b b' o:Nat}(hb:β b b'){v:Value}(h:σ.cell b o=some v):
  ∃v',W.cell? ⟨b',o,none⟩=some v'/\ @ay F hU β v v'/\ ∃c e f,W.heap[b']? =some (.cells c e f)/\o<c.size:=by
 letI:=F;letI:=K;letI:=hU;obtain ⟨c,e,f,h1,_,h3⟩:=rW (h:σ.w.cell? ⟨b,o,none⟩=some v);obtain ⟨x,x',q1,q2,q3⟩:=hw.obj b b' hb;rw [h1] at q1;cases q1;have key: ∀c' e' f',W.heap[b']? =some (.cells c' e' f')->aL β c c'-> ∃v',W.cell? ⟨b',o,none⟩=some v'/\ay β v v'/\ ∃c e f,W.heap[b']? =some (.cells c e f)/\o<c.size:=λc' e' f' r1 r2=>by
  obtain ⟨v',r3,r4⟩:=r2.get h3;exact ⟨v',cell_of r1 rfl r3,r4,c',e',f',r1,(qa1.1 r3).1⟩
 cases q3 with
 | cells e h=>exact key _ _ _ q2 h
 | lock e h=>exact key _ _ _ q2 h
def Tr{α:Type}[Rp α](F:bg)(β:Bj)(T:Nat->Prop)(σ τ:St)(aga:α->Prop):Prop:=
 ∀(cs cs':List Value) (x:α),aga x->Rp.rp 0 σ cs x->cs'.length=cs.length->(∀(j:Nat) (v v':Value),cs[j]? =some v->cs'[j]? =some v'-> @ay F hU β v v')->Rp.rp 0 τ cs' x/\ ∀v'∈cs', @ay F hU (nf T) v' v'
theorem zw:Tr F β T σ τ (λ_:Int=>True):=by
 rintro cs cs' x - rfl hl h
 match cs',hl with
 | [v'],_=>
  have:=h 0 _ v' rfl rfl;cases this;exact ⟨rfl,λv hv=>by rw [qbe] at hv;subst hv;exact @ay.int F hU _ _ _⟩
theorem BB{α α':Type}[Rp α][Rp α']{g:α->Prop}{g':α'->Prop}(h1:Tr F β T σ τ g)(h2:Tr F β T σ τ g'):Tr F β T σ τ (λx:α×α'=>g x.1/\g' x.2):=by
 rintro cs cs' x ⟨hg,Ke⟩ ⟨c1,c2,rfl,r1,r2⟩ hl h;rw [qat] at hl;have e:cs'=cs'.take c1.length++cs'.drop c1.length:=(List.take_append_drop _ _).symm;obtain ⟨a1,a2⟩:=h1 c1 (cs'.take c1.length) x.1 hg r1 (by simp;omega) λj v v' q q'=>by
  have hj:j<c1.length:=(qbi.1 q).1;rw [qc9,if_pos hj] at q';exact h j v v' (by rw [qbj hj];exact q) q'
 obtain ⟨b1,b2⟩:=h2 c2 (cs'.drop c1.length) x.2 Ke r2 (by simp;omega) λj v v' q q'=>by
  rw [List.getElem?_drop] at q';exact h (c1.length+j) v v' (by rw [qbw (by omega)];simpa using q) q'
 refine ⟨⟨_,_,e,a1,b1⟩,λv hv=> ?_⟩;rw [e] at hv;rcases qaf.1 hv with hv | hv
 ·exact a2 v hv
 ·exact b2 v hv
theorem Iq{α:Type}[Rp α]{g:α->Prop}(hw: @cH F K hU β σ.w W)(UT: ∀a b,β a b->Ip W b->T b)(pG:Wt F T W τ)(hg:Tr F β T σ τ g){v v':Value}{xs:List α}(h:RS 0 σ v xs)(hv: @ay F hU β v v')(hx: ∀x∈xs,g x):
  RS 0 τ v' xs/\(xs≠[]-> @ay F hU (nf T) v' v'):=by
 rcases h with ⟨⟨ad,c,rfl⟩,rfl⟩ | ⟨b,o,c,rfl,_,h2,h3,h4⟩
 ·refine ⟨.inl ⟨?_,rfl⟩,λh=>(h rfl).elim⟩;cases hv with
  | kT _ _=>exact ⟨_,_,rfl⟩
  | y8 _ _=>exact ⟨_,_,rfl⟩
  | slice _ _ _=>exact ⟨_,_,rfl⟩
 ·by_cases hn:xs=[]
  ·subst hn;refine ⟨.inl ⟨?_,rfl⟩,λh=>(h rfl).elim⟩;cases hv with
   | y8 _ _=>exact ⟨_,_,rfl⟩
   | slice _ _ _=>exact ⟨_,_,rfl⟩
  have akf:0<xs.length:=List.length_pos_iff.2 hn;generalize hlx:xs.length=lx at hv;cases hv with
  | y8 _ _=>omega
  | @slice _ a' _ _ ha=>
   subst hlx;obtain ⟨b',o',s'⟩:=a';obtain ⟨VX,ha2,ha3⟩:=ha;simp only at VX ha2 ha3;obtain rfl:o=o':=ha2.symm;subst ha3;have hp:=Rp.pos (α:=α);have hlen:0<xs.length:=List.length_pos_iff.2 hn;have row: ∀i,(hi:i<xs.length)-> ∀j,j<Rp.sz α-> ∃u,W.cell? ⟨b',o+i*Rp.sz α+j,none⟩=some u/\ ∃c e f,W.heap[b']? =some (.cells c e f)/\o+i*Rp.sz α+j<c.size:=λi hi j hj=>by
    obtain ⟨cs,r1,r2⟩:=h4 i hi;obtain ⟨u,q1,_,q2⟩:=MO hw VX (r2 j (by rw [Rp.len r1];exact hj));exact ⟨u,q1,q2⟩
   obtain ⟨_,_,c0,e0,f0,KV,_⟩:=row 0 hlen 0 hp;have hT:T b':=UT _ _ VX ⟨_,_,_,KV⟩;have aab:o+xs.length*Rp.sz α<=τ.gB b':=by
    rw [pG.gB _ _ _ _ KV];obtain ⟨_,_,c1,e1,f1,YK,bG⟩:=row (xs.length - 1) (by omega) (Rp.sz α - 1) (by omega);rw [KV] at YK;cases YK;have:xs.length*Rp.sz α=(xs.length - 1)*Rp.sz α+Rp.sz α:=by
     rw [←Nat.succ_mul];congr 1;omega
    omega
   refine ⟨.inr ⟨b',o,c,rfl,qa7 _,h2,aab,λi hi=> ?_⟩,λ_=> @ay.slice F hU _ _ _ _ _ ⟨⟨rfl,hT⟩,rfl,rfl⟩⟩;obtain ⟨cs,r1,r2⟩:=h4 i hi;have hcl:=Rp.len r1
   classical
   have hex: ∀j:_root_.Fin cs.length, ∃u,W.cell? ⟨b',o+i*Rp.sz α+j.1,none⟩=some u/\ @ay F hU β cs[j] u:=λj=>by
    obtain ⟨u,q1,q2,_⟩:=MO hw VX (r2 j.1 j.2);exact ⟨u,q1,q2⟩
   let cs':List Value:=List.ofFn λj=>(hex j).choose
   have rD:cs'.length=cs.length:=by simp [cs']
   have Ce: ∀(j:Nat) (hj:j<cs.length),cs'[j]? =some (hex ⟨j,hj⟩).choose:=λj hj=>by simp [cs',hj]
   obtain ⟨k1,k2⟩:=hg cs cs' xs[i] (hx _ (qad hi)) r1 rD λj v u q q'=>by
    have hj:j<cs.length:=(qbi.1 q).1;rw [Ce j hj] at q';cases q';have:=(hex ⟨j,hj⟩).choose_spec.2;rw [qb6 hj] at q;cases q;exact this
   refine ⟨cs',k1,λj hj=> ?_⟩;have YI:j<cs.length:=by rw [←rD];exact hj
   have e1:=(hex ⟨j,YI⟩).choose_spec.1;have e2:cs'[j]=(hex ⟨j,YI⟩).choose:=qai ((qb6 hj).symm.trans (Ce j YI));show τ.w.cell? _=_;rw [pG.w,e2];exact yb F T hT e1 (by rw [←e2];exact k2 _ (qad hj))
theorem FY{α:Type}[Rp α]{g:α->Prop}(hw: @cH F K hU β σ.w W)(UT: ∀a b,β a b->Ip W b->T b)(pG:Wt F T W τ)(hg:Tr F β T σ τ g):Tr F β T σ τ (λxs:List α=>xs≠[]/\ ∀x∈xs,g x):=by
 rintro cs cs' xs ⟨hn,hx⟩ ⟨v,rfl,hr⟩ hl h
 match cs',hl with
 | [v'],_=>
  obtain ⟨h1,h2⟩:=Iq hw UT pG hg hr (h 0 _ v' rfl rfl) hx;exact ⟨⟨v',rfl,h1⟩,λu hu=>by rw [qbe] at hu;subst hu;exact h2 hn⟩
theorem Ra(F:bg)(T:Nat->Prop)(W:World): ∃τ:St,Wt F T W τ/\τ.ef:=by
 classical
 refine ⟨⟨Fw F T W,λb=>match W.heap[b]? with | some (.cells c _ _)=>c.size | _=>0,λb hb=> ?_,True⟩,⟨rfl,λb c e f h=> ?_⟩,trivial⟩
 ·have:W.heap.size<=b:=by rw [←vK F T (W:=W)];exact hb
  rw [qbd this]
 ·show (match W.heap[b]? with | some (.cells c _ _)=>c.size | _=>0)=_;rw [h]
end
end Go.Vc
namespace Go.Vc
open Go Go.Proofs Go.Vs
open Go.Cx (bg aM bk gV PF xX FV MK eO VM cT ig Left TW cM Bj aL cH Dw gU SO pU)
section
variable[bg][aM][bk]
variable{K:Bz}{aq σ:St}{S0:BS}{A R L':List Ch}
omit [bg] [aM] [bk] in
theorem acJ(hl:aq.ef){τ:Tape}{w:World}{σ':St}(e:σ'.w=TW w τ)(H:Hp S0 aq σ' L'): ∃kJ:St,w=kJ.w/\Hp S0 aq kJ L':=by
 have h1:w.heap=σ'.w.heap:=by rw [e]
 have rD:σ'.ef:=by rw [H.md.ef];exact hl
 have h2:w.os=σ'.w.os:=by rw [e]
 have h3:w.output=σ'.w.output:=by rw [e]
 refine ⟨⟨w,σ'.gB,λb hb=>σ'.ok b (by rw [←h1];exact hb),σ'.ef⟩,rfl,H.grow ?_⟩;exact ⟨h2, .inl rD,h3, .inl rD,rfl,⟨qay (by simp only [St.size,h1]),λb _=>by simp only [h1],λb=>qa2 _⟩,λb _ _=>by simp only [h1],λ_ _ _=>rfl⟩
omit [bg] [aM] [bk] in
theorem acK(hl:aq.ef)(τ:Tape)(H:Hp S0 aq σ L'): ∃kJ:St,TW σ.w τ=kJ.w/\kJ.size=σ.size/\Hp S0 aq kJ L':=by
 have rD:σ.ef:=by rw [H.md.ef];exact hl
 refine ⟨⟨TW σ.w τ,σ.gB,σ.ok,σ.ef⟩,rfl,rfl,H.grow ?_⟩;exact ⟨rfl, .inl rD,rfl, .inl rD,rfl,⟨qa2 _,λb _=>rfl,λb=>qa2 _⟩,λb _ _=>rfl,λ_ _ _=>rfl⟩
def RC(post:Value->List Ch->Prop)(aq:St)(S0:BS)(R:List Ch)(v:Value)(w:World):Prop:= ∃σ' L',w=σ'.w/\post v L'/\Hp S0 aq σ' (L'++R)
theorem Rb{f:FuncId}{args:List Value}{post:Nat->Value->List Ch->Prop}(hc:bL K.L f args A post)(ur:bg.ok f)(qX:bg.uo f)(FR: ¬K.Xs f)(hl:aq.ef)(H:Hp S0 aq σ (A++R)){n:Nat}(hn:n<=aq.size)
  {β:Bj} {W:World} {S Ro:Nat->Prop} {Iv:World->Prop} {m:Bool} {x':Array Value} {c:Frame} {cs:List Frame} (hx:aL β args.toArray x') (hw:cH β σ.w W) (hD:Dw σ.w) (hS: ∀b,S b↔SO β σ.w b) (hR: ∀b,gU β σ.w b->Ro b):
  eO K.C m Iv Ro (VM K.L β σ.w Ro (RC (post n) aq S0 R) c cs) S (ig (Frame.enter K.C f x' .normal) (c::cs)) W:=by
 obtain ⟨fn,cd,g1,g2,g3,g4⟩:=K.HF.same f ur qX FR;have gr:cM K.L K.C β [Frame.enter K.L f args.toArray .normal] [Frame.enter K.C f x' .normal]:= .one (pU g1 g2 g3 g4 hx) rfl;refine MK K.HP K.HF (K.hX _) ur qX FR (FV K.HPs K.HFs ?_ (λτ _=> ?_) ⟨β,_,[],W,gr.self K.he,hw,hD⟩) hx hw hD hS hR
 ·rintro v w τ ⟨σ',L',q1,q2,q3⟩;obtain ⟨kJ,r1,r2⟩:=acJ hl q1.symm q3;exact ⟨kJ,L',r1,q2,r2⟩
 ·obtain ⟨kJ,r1,r2,r3⟩:=acK hl τ H;rw [r1];refine (hc.frame r3 (qaa hn r3.size)).mono ?_;rintro _ w' ⟨v,σ',L',rfl,rfl,hp,H',_⟩;exact ⟨σ',L',rfl,hp,H'⟩
end
end Go.Vc
namespace Go.Cx
open Go Go.Conc
section
variable{P:Program}{m:Bool}{Iv:World->Prop}{Ro:Nat->Prop}{Stop:(Nat->Prop)->Goroutine->World->Prop}{b:Frame}{k:List Item}{cs:List Frame}{ops:Array Oper}{md:Region.Mode}
theorem Rc{J:Nat->Array Bool->Act->(Nat->Prop)->World->Prop}(h0: ∀l a S W, ¬J 0 l a S W)(hr: ∀n l a S W,J n l a S W->Region.ready md ops l≠[])(hJ: ∀n l a S W W1,J n l a S W->Ry Iv (λb=>S b\/Ro b) W W1->J n l a S W1)(hS: ∀S g W W1,Stop S g W->Ry Iv (λb=>S b\/Ro b) W W1->Stop S g W1)
  (j6: ∀n l a S W i rest,Iv W->(n=0->rest=[])->J (n+1) l a S W->i∈Region.ready md ops l->eO P m Iv Ro (λS' g' W'=>Stop S' g' W'\/ ∃a',g'=G (b.at a' (.inRegion ops rest::k)) cs/\J n (l.setIfInBounds i true) a' S' W') S (G (b.at a (.inRegion ops (i::rest)::k)) cs) W):
  ∀(n t:Nat) (l:Array Bool) (a:Act) (S:Nat->Prop) (W:World),J n l a S W->eO P m Iv Ro Stop S (G (b.at a (.inRegion ops (Region.linearise.go md ops n t l [])::k)) cs) W:=by
 intro n
 induction n with
 | zero=>intro t l a S W h;exact (h0 _ _ _ _ h).elim
 | succ n ih=>
  intro t l a S W hj;refine eO.now λW1 sg=> ?_;have hJ1:=hJ _ _ _ _ _ _ hj sg;simp only [Region.linearise.go];change eO P m Iv Ro Stop S (G (b.at a (.inRegion ops (match (Region.ready md ops l)[t % (Region.ready md ops l).length]? with
   | some i=>Region.linearise.go md ops n (t / (Region.ready md ops l).length) (l.setIfInBounds i true) [i]
   | none=>[].reverse)::k)) cs) W1
  cases hi:(Region.ready md ops l)[t % (Region.ready md ops l).length]? with
  | none=>
   exfalso;have jF:=hr _ _ _ _ _ hj;have u0:0<(Region.ready md ops l).length:=List.length_pos_iff.2 jF;have:=Nat.mod_lt t u0;rw [List.getElem?_eq_none_iff] at hi;omega
  | some i=>
   simp only;rw [linearise_go_acc,List.reverse_singleton,List.singleton_append];refine (j6 n l a S W1 i _ sg.iv (λe=>by subst e;rfl) hJ1 (List.mem_of_getElem? hi)).bind λS' g' W' hI hs=> ?_;rcases hs with hs | ⟨a',rfl,Ov⟩
   ·exact eO.stop λw1 h=>hS _ _ _ _ hs h
   ·exact ih _ _ _ _ _ Ov
theorem BC{S:Nat->Prop}{a:Act}{W:World}{i:Nat}{rest:List Nat}{o:Oper}{v:Value}{J:(Nat->Prop)->Act->World->Prop}(ho:ops[i]? =some o)(hw:Region.wanted o (yielded ops a.tmps)=true)(hk:b.kind≠ .early)
  (h: ∀W1,Ry Iv (λb=>S b\/Ro b) W W1->(execOp a.eval o).run P W1= .ok (.value v) W1/\(∀e∈(execOp a.eval o).events P W1 #[],e.sync=false/\e.write=false/\ ∃ad,e.loc= .cell ad/\Ro ad.block)/\ ∀W2,Ry Iv (λb=>S b\/Ro b) W1 W2->J S (a.put o.dst v) W2):
  eO P m Iv Ro (λS' g' W'=> ∃a',g'=G (b.at a' (.inRegion ops rest::k)) cs/\J S' a' W') S (G (b.at a (.inRegion ops (i::rest)::k)) cs) W:=by
 refine eO.step rfl λW1 sg=> ?_;obtain ⟨h1,h2,h3⟩:=h W1 sg;have hS:nw S W1 W1=S:=by
  funext x;apply propext;exact ⟨λq=>q.elim id λq=>by omega, .inl⟩
 refine ⟨_,W1,_,stepG_value ho hw hk h1,⟨rfl,rfl,rfl,qa2 _,λ_ _ _=>rfl,λe he=> ?_⟩, ?_⟩
 ·obtain ⟨q1,q2,ad,q3,q4⟩:=h2 e (mem_listed he);exact .inl ⟨q1, .inl ⟨ad,q3, .inr ⟨q4,q2⟩⟩⟩
 ·rw [hS];exact eO.stop λW2 jP=>⟨_,rfl,h3 W2 jP⟩
theorem kZ{P:Program}{ev:Operand->Value}{d:Option Nat}{T ty:TypeId}{x:Operand}{pos:String}{af:Array Edge}{gd:Option (Nat×Bool)}{bl o:Nat}{D:TypeDesc}(hT:P.underlying T=some D)(hD:(match D with | .struct _=>false | .array _ _=>false | _=>true)=true)
  (hx:ev x= .pointer (some ⟨bl,o,none⟩)) {w:World} {v:Value} (hc:w.cell? ⟨bl,o,none⟩=some v):(execOp ev ⟨d, .load T x,ty,pos,af,gd⟩).events P w #[]= #[⟨.cell ⟨bl,o,none⟩,false,false⟩]:=by
 have h1:(isAgg T).run P w= .ok false w:=by
  simp only [isAgg,underlying,Sem.run_bind,run_program,Result.andThen_ok,hT,Sem.run_pure];cases D <;> simp_all
 have h2:(isAgg T).events P w #[]= #[]:=by
  simp [isAgg,underlying,hT];cases D <;> rfl
 simp [execOp,hx,Instr.loadAt,Instr.sureAddr,loadVar,h1,h2,hc]
end
end Go.Cx
namespace Go.Cx
open Go Go.Conc
section
variable{P:Program}{m:Bool}{Iv:World->Prop}{Ro:Nat->Prop}{Stop:(Nat->Prop)->Goroutine->World->Prop}{b:Frame}{k:List Item}{cs:List Frame}{ops:Array Oper}{S:Nat->Prop}{a:Act}{W:World}{i:Nat}{rest:List Nat}{o:Oper}
theorem tD(S:Nat->Prop)(W:World):nw S W W=S:=by
 funext x;apply propext;exact ⟨λq=>q.elim id λq=>by omega, .inl⟩
theorem aI{g g':Goroutine}(hs:g.status= .running)(h: ∀W1:World,stepG P m g W1= .go g' W1)(hk:eO P m Iv Ro Stop S g' W):eO P m Iv Ro Stop S g W:=by
 refine eO.step hs λW1 sg=>⟨g',W1, #[],h W1, .still _ _ _, ?_⟩;rw [tD];exact hk.rely sg
theorem VY{g:Goroutine}{g':World->Goroutine}{W':World->World}(hs:g.status= .running)(h: ∀W1:World,stepG P m g W1= .go (g' W1) (W' W1))(hW: ∀W1,(W' W1).heap=W1.heap/\(W' W1).tape=W1.tape/\(W' W1).os=W1.os/\(W' W1).output=W1.output)
  (hk: ∀W1,Ry Iv (λb=>S b\/Ro b) W W1->eO P m Iv Ro Stop S (g' W1) (W' W1)):eO P m Iv Ro Stop S g W:=by
 refine eO.step hs λW1 sg=>⟨g' W1,W' W1, #[],h W1, ?_, ?_⟩
 ·obtain ⟨q1,q2,q3,q4⟩:=hW W1;exact ⟨q2,q3,q4,by rw [q1];exact qa2 _,λb _ _=>by rw [q1],λe he=>by simp at he⟩
 ·have:nw S W1 (W' W1)=S:=by
   funext x;apply propext;refine ⟨λq=>q.elim id λq=> ?_, .inl⟩;rw [(hW W1).1] at q;omega
  rw [this];exact hk W1 sg
theorem nX{f:FuncId}{fn:Func}{args:Array Operand}{ats:Array TypeId}(ho:ops[i]? =some o)(hw:Region.wanted o (yielded ops a.tmps)=true)(hk:b.kind≠ .early)(cU:o.op= .call { callee:= .value (.func f),args,argTypes:=ats })
  (hf:P.funcs[f]? =some fn) (AA:(fn.name== "runtime.NumGoroutine")=false) (hb:fn.body.isNone=false) (h:eO P m Iv Ro Stop S (G (Frame.enter P f (args.map a.eval) .normal) (b.at a (.inRegion ops (i::rest)::k)::cs)) W):
  eO P m Iv Ro Stop S (G (b.at a (.inRegion ops (i::rest)::k)) cs) W:=by
 refine eO.step rfl λW1 sg=>⟨_,W1,_,stepG_enter ho hw hk (run_call_body cU hf AA hb),⟨rfl,rfl,rfl,qa2 _,λ_ _ _=>rfl,λe he=> ?_⟩, ?_⟩
 ·have:=mem_listed he;rw [events_call_body cU hf AA hb] at this;simp at this
 ·rw [tD];exact h.rely sg
def Sd(Ro:Nat->Prop)(W0:World)(S:Nat->Prop)(W:World):Prop:= ∀b,Ro b-> ¬S b/\b<W.heap.size/\W.heap[b]? =W0.heap[b]?
theorem Sd.rely{W0 W1:World}(hd:Sd Ro W0 S W)(hr:Ry Iv (λb=>S b\/Ro b) W W1):Sd Ro W0 S W1:=λb hb=>
 let ⟨q1,q2,q3⟩:=hd b hb
 ⟨q1,qa3 q2 hr.size,(hr.blk b (.inr hb)).trans q3⟩
theorem eO.keep{g:Goroutine}{W0:World}(h:eO P m Iv Ro Stop S g W)(hd:Sd Ro W0 S W):
  eO P m Iv Ro (λS' g' W'=>Stop S' g' W'/\Sd Ro W0 S' W') S g W:=by
 obtain ⟨r,h⟩:=h
 induction r generalizing S g W with
 | leaf=>exact eO.stop λw₁ hw=>⟨h w₁ hw,hd.rely hw⟩
 | node f ih=>
  refine eO.mk λw₁ hw=> ?_;have hd1:=hd.rely hw;rcases h w₁ hw with hs | ⟨hs,g',w',es,h1,h2,h3⟩
  ·exact .inl ⟨hs,hd1⟩
  ·refine .inr ⟨hs,g',w',es,h1,h2,ih w₁ (λb hb=> ?_) h3⟩;obtain ⟨q1,q2,q3⟩:=hd1 b hb;exact ⟨λq=>q.elim q1 λq=>by omega,qa3 q2 h2.size,(h2.blk b q2 q1).trans q3⟩
theorem eO.mono{Ic:(Nat->Prop)->Goroutine->World->Prop}{g:Goroutine}(h:eO P m Iv Ro Stop S g W)(hs: ∀S g w,Stop S g w->Ic S g w):eO P m Iv Ro Ic S g W:=by
 obtain ⟨r,h⟩:=h;refine ⟨r, ?_⟩
 induction r generalizing S g W with
 | leaf=>exact λw₁ hw=>hs _ _ _ (h w₁ hw)
 | node f ih=>exact λw₁ hw=>(h w₁ hw).imp (hs _ _ _) λ⟨q,g',w',es,h1,h2,h3⟩=>⟨q,g',w',es,h1,h2,ih w₁ h3⟩
end
end Go.Cx
namespace Go.Cx
open Go Go.Conc
section
variable{P:Program}{m:Bool}{Iv:World->Prop}{Ro:Nat->Prop}{Stop:(Nat->Prop)->Goroutine->World->Prop}{b:Frame}{k:List Item}{cs:List Frame}{ops:Array Oper}{S:Nat->Prop}{a:Act}{W:World}{i:Nat}{rest:List Nat}{o:Oper}
def kO(P:Program):Frame:={ (default:Frame) with fn:=P.funcs.size,defers:=[],mode:= .panicking [goexitEntry] }
theorem Ox{f:FuncId}{fn:Func}{cap args:Array Value}(hf:P.funcs[f]? =some fn)(AA:(fn.name== "runtime.NumGoroutine")=false)(hb:fn.body.isNone=false)(w:World):
  stepG P false (born P { target:= .fn (.func f) cap,args:=args }) w= .go (G (Frame.enter P f (args++cap) .deferred) [kO P]) w:=by
 have h1: ¬fn.name= "runtime.NumGoroutine":=by simpa using AA
 have h2: ¬fn.body=none:=by cases hx:fn.body <;> simp_all
 simp [born,stepG,unwind,callDeferred,invoke,callFunc,hf,h1,h2,GStep.after,G,kO,seen_none]
theorem Re{f:FuncId}{fn:Func}{x:Operand}{cap:Array Value}{ats:Array TypeId}(ho:ops[i]? =some o)(hw:Region.wanted o (yielded ops a.tmps)=true)(hk:b.kind≠ .early)(cU:o.op= .call { callee:= .value x,args:= #[],argTypes:=ats })(hx:a.eval x= .func (.func f) #[] cap)
  (hf:P.funcs[f]? =some fn) (AA:(fn.name== "runtime.NumGoroutine")=false) (hb:fn.body.isNone=false) (h:eO P m Iv Ro Stop S (G (Frame.enter P f cap .normal) (b.at a (.inRegion ops (i::rest)::k)::cs)) W):
  eO P m Iv Ro Stop S (G (b.at a (.inRegion ops (i::rest)::k)) cs) W:=by
 have h1: ¬fn.name= "runtime.NumGoroutine":=by simpa using AA
 have h2: ¬fn.body=none:=by cases hx:fn.body <;> simp_all
 have hr: ∀w,(execOp a.eval o).run P w= .ok (.enter f cap) w:=λw=>by
  unfold execOp;simp [cU,resolve,Deferred.ofValue,invoke,callFunc,hx,hf,h1,h2]
 have he: ∀w,(execOp a.eval o).events P w #[]= #[]:=λw=>by
  unfold execOp;simp [cU,resolve,Deferred.ofValue,invoke,callFunc,hx,hf,h1,h2]
 refine eO.step rfl λW1 sg=>⟨_,W1,_,stepG_enter ho hw hk (hr W1),⟨rfl,rfl,rfl,qa2 _,λ_ _ _=>rfl,λe Cl=> ?_⟩, ?_⟩
 ·have:=mem_listed Cl;rw [he] at this;simp at this
 ·rw [tD];exact h.rely sg
theorem Rf{f:FuncId}{x:Operand}{cap:Array Value}{ats:Array TypeId}(ho:ops[i]? =some o)(hw:Region.wanted o (yielded ops a.tmps)=true)(hk:b.kind≠ .early)(cU:o.op= .defer { callee:= .value x,args:= #[],argTypes:=ats })(hx:a.eval x= .func (.func f) #[] cap)
  (h:eO P m Iv Ro Stop S (G (b.at (Act.put ⟨a.tmps,{ target:= .fn (.func f) cap,args:= #[] }::a.defers⟩ o.dst undef) (.inRegion ops rest::k)) cs) W):
  eO P m Iv Ro Stop S (G (b.at a (.inRegion ops (i::rest)::k)) cs) W:=by
 refine aI rfl (λW1=> ?_) h;have hr:(execOp a.eval o).run P W1= .ok (.defer { target:= .fn (.func f) cap,args:= #[] }) W1:=by
  unfold execOp;simp [cU,resolve,Deferred.ofValue,hx]
 have he:(execOp a.eval o).events P W1 #[]= #[]:=by
  unfold execOp;simp [cU,resolve,Deferred.ofValue,hx]
 have FZ:(b.at ⟨a.tmps,{ target:= .fn (.func f) cap,args:= #[] }::a.defers⟩ (.inRegion ops (i::rest)::k)).finish undef=b.at (Act.put ⟨a.tmps,{ target:= .fn (.func f) cap,args:= #[] }::a.defers⟩ o.dst undef) (.inRegion ops rest::k):=by rw [Frame.finish_at,ho];rfl
 have rG:(b.kind==CallKind.early)=false:=by simpa using hk
 rw [stepG_oper ho hw, ←FZ];simp [stepG.apply,hr,he,G,Frame.at,rG,GStep.after,seen_none]
theorem u5{v:Value}(ho:ops[i]? =some o)(hw:Region.wanted o (yielded ops a.tmps)=true)(hk:b.kind≠ .early)(hr: ∀w:World,(execOp a.eval o).run P w= .ok (.value v) w)(he: ∀w:World,(execOp a.eval o).events P w #[]= #[])
  (h:eO P m Iv Ro Stop S (G (b.at (a.put o.dst v) (.inRegion ops rest::k)) cs) W):eO P m Iv Ro Stop S (G (b.at a (.inRegion ops (i::rest)::k)) cs) W:=by
 refine eO.step rfl λW1 sg=>⟨_,W1,_,stepG_value ho hw hk (hr W1),⟨rfl,rfl,rfl,qa2 _,λ_ _ _=>rfl,λe Cl=> ?_⟩, ?_⟩
 ·have:=mem_listed Cl;rw [he] at this;simp at this
 ·rw [tD];exact h.rely sg
end
end Go.Cx
namespace Go.Cx
open Go Go.Conc
section
variable{P:Program}{m:Bool}{Iv:World->Prop}{Ro:Nat->Prop}{Stop:(Nat->Prop)->Goroutine->World->Prop}{b:Frame}{k:List Item}{cs:List Frame}{ops:Array Oper}{S:Nat->Prop}{a:Act}{W:World}{i:Nat}{rest:List Nat}{o:Oper}
theorem KW{f:FuncId}{fn:Func}{cap:Array Value}{todo:List Item}{ds:List Deferred}(hd:a.defers={ target:= .fn (.func f) cap,args:= #[] }::ds)(hf:P.funcs[f]? =some fn)(AA:(fn.name== "runtime.NumGoroutine")=false)(hb:fn.body.isNone=false)(w:World):
  stepG P m (G { b.at a todo with mode:= .returning } cs) w= .go (G (Frame.enter P f cap .deferred) ({ b.at ⟨a.tmps,ds⟩ todo with mode:= .returning }::cs)) w:=by
 have h1: ¬fn.name= "runtime.NumGoroutine":=by simpa using AA
 have h2: ¬fn.body=none:=by cases hx:fn.body <;> simp_all
 simp [G,stepG,unwind,callDeferred,Frame.at,hd,invoke,callFunc,hf,h1,h2,GStep.after,seen_none]
theorem F0{c:Frame}(ho:ops[i]? =some o)(hw:Region.wanted o (yielded ops a.tmps)=true)(hk:b.kind= .deferred){ats:Array TypeId}(cU:o.op= .call { callee:= .builtin .recover,args:= #[],argTypes:=ats })(hc:c.mode= .returning)(w:World):
  stepG P m (G (b.at a (.inRegion ops (i::rest)::k)) (c::cs)) w= .go (G (b.at (a.put o.dst .nilIface) (.inRegion ops rest::k)) (c::cs)) w:=by
 have hr:(execOp a.eval o).run P w= .ok .recover w:=by
  unfold execOp;simp [cU,resolve,invoke,builtin]
 have he:(execOp a.eval o).events P w #[]= #[]:=by
  unfold execOp;simp [cU,resolve,invoke,builtin]
 have FZ:(b.at a (.inRegion ops (i::rest)::k)).finish .nilIface=b.at (a.put o.dst .nilIface) (.inRegion ops rest::k):=by rw [Frame.finish_at,ho];rfl
 rw [stepG_oper ho hw, ←FZ];have ht:tryRecover (b.at a (.inRegion ops (i::rest)::k)) (c::cs)=none:=by
  simp [tryRecover,Frame.at,hk,hc]
 simp [stepG.apply,hr,he,G,Frame.at,hk,GStep.after,seen_none] at ht ⊢;rw [ht]
end
end Go.Cx
