/- One program beside another, one goroutine among others. -/
import Derived.Test.YtbpbncjammigdaaGreatAl
import Derived.Test.YtbpbncjammigdaaGreatCx1
import Derived.Calls
import Derived.Conc.CrowdRun
import Derived.Test.YtbpbncjammigdaaGreatSrt1
import Derived.Test.YtbpbncjammigdaaGreatEng1
import Derived.Conc.Own5
import Derived.Test.YtbpbncjammigdaaGreatEng2
import Derived.Conc.Fork
import Derived.Conc.CrowdStepC
import Derived.Listen
import Derived.RunNT
import Derived.Lone
import Derived.Orders
import Derived.Conc.Events
import Derived.Conc.Own4
import Derived.Conc.Own2
import Derived.Conc.DeferLaws
set_option linter.unusedVariables false
set_option linter.unusedSimpArgs false
set_option maxHeartbeats 4000000
namespace Go.Cx
open Go
variable[ba][aH][bg]
def AS(w w1:World)(g1:Goroutine)(T:World->GStep):Prop:=
 w.drawn<=w1.drawn/\w1.tape=w.tape/\(Dw w->Dw w1)/\ ∀τ:Tape,(∀j q,j<w1.drawn->τ j q=w.tape j q)-> ∃es,T (TW w τ)= .go g1 (TW w1 τ) es
section
variable{L C:Program}{Xs:FuncId->Prop}{β:Bj}{t:Frame}{r:List Frame}{w W w1:World}{g1:Goroutine}
theorem wO{α:Type}{RA:Bj->α->α->Prop}{s s':Sem α}(hs:ay L C RA β s s')(hw:cn β w W){f:FuncId}{F:Result α->GStep}{es:Array Event}
  (h:GStep.after (seen L f (s.runT L w #[]).2) (F (s.runT L w #[]).1)= .go g1 w1 es) (hh: ∀q w2 rX,F (.halt q w2)= .go g1 w1 rX->False)
  (tk: ∀bS v v' w2 W2 rX,RA bS v v'->cn bS w2 W2->Le β bS->F (.ok v w2)= .go g1 w1 rX->AS w2 w1 g1 (λw=>F (.ok v w))):
  AS w w1 g1 (λw=>GStep.after (seen L f (s.runT L w #[]).2) (F (s.runT L w #[]).1)):=by
 obtain ⟨rX,h⟩:=tW h;rw [Sem.runT_fst] at h;cases bM:s.run L w with
 | halt q w2=>rw [bM] at h;exact (hh _ _ _ h).elim
 | ok v w2=>
  rw [bM] at h;obtain ⟨⟨v',W2,bS,e1,e2,e3⟩,e4,e5,ed,e6⟩:=hs.tape hw bM;obtain ⟨l1,l2,ld,l3⟩:=tk bS v v' w2 W2 rX e1 e2 e3 h;refine ⟨qaa e4 l1,l2.trans e5,λh=>ld (ed h),λτ oM=> ?_⟩;have h1:=e6 τ λj q _ hj=>oM j q (qa2 hj l1);obtain ⟨es3,h3⟩:=l3 τ λj q hj=>(oM j q hj).trans (by rw [e5]);simp only at h3 ⊢;rw [Sem.runT_fst,h1,h3];exact ⟨_,rfl⟩
omit [ba] [aH] [bg] in
theorem jZ{T:World->GStep}{g:Goroutine}(hT: ∀w,T w= .go g w){es:Array Event}(h:T w= .go g1 w1 es):AS w w1 g1 T:=by
 rw [hT] at h;cases h;exact ⟨qa3 _,rfl,id,λτ _=>⟨_,hT _⟩⟩
omit [aH] in
theorem K7{a b:Frame}{k k':List Frame}{m:Bool}(fM:cL L C β (a::k) (b::k')){v:Value}{es:Array Event}
  (h:doReturn L m a (k++t::r) none v w= .go g1 w1 es):AS w w1 g1 (doReturn L m a (k++t::r) none v):=by
 have ha:=fM.top;cases fM with
 | one _ hr=>exact jZ (g:=gJ (t.finish v) r) (λw=>by unfold doReturn;rw [ha.kind.1];rfl) h
 | cons _ hk=>
  cases hk with
  | @one a2 b2 h2 hr=>exact jZ (g:=gJ (a2.finish v) (t::r)) (λw=>by unfold doReturn;rw [ha.kind.1];rfl) h
  | @cons a2 b2 k2 k2' h2 hk=>exact jZ (g:=gJ (a2.finish v) (k2++t::r)) (λw=>by unfold doReturn;rw [ha.kind.1];rfl) h
theorem Jj(HF:PF L C Xs){a b:Frame}{k k':List Frame}{m:Bool}(fM:cL L C β (a::k) (b::k')){j:Option Code}(hj: ∀c,j=some c->cG L C c)(hw:cn β w W){es:Array Event}
  (h:Lv L m a (k++t::r) w j= .go g1 w1 es):AS w w1 g1 (λw=>Lv L m a (k++t::r) w j):=by
 have ha:=fM.top;obtain ⟨fn,tm,todo,df,md,kd,ro⟩:=a;obtain ⟨jN,Dd,tV,IH,Je,Gh,De⟩:=b;have vN:=ha.round;simp only at vN;unfold Lv at h ⊢;cases vN with
 | none=>
  simp only at h ⊢;split at h
  all_goals first
   | exact jZ (λw=>rfl) h
   | (simp at h)
 | some hl=>
  simp only at h ⊢;refine wO (C:=C) (F:=λq=>match q with
   | .ok v w=>doReturn L m _ (k++t::r) none v w
   | .halt _ w=> .ended (.stuck "range over a function: no such loop" _) w) (vM hl j λc hc=>(HF.code c).2 (hj c hc)) hw h ?_ ?_
  ·intro q w2 rX h;cases h
  ·intro bS v v' w2 W2 rX hv tK hT h;exact K7 (fM.mono hT) h
theorem yq(HF:PF L C Xs){a b:Frame}{k k':List Frame}(fM:cL L C β (a::k) (b::k')){s s':Sem Next}(hs:ay L C mC β s s')(hw:cn β w W){es:Array Event}
  (h:stepG.apply L true a (k++t::r) none s w= .go g1 w1 es) (hp: ¬cX g1):AS w w1 g1 (stepG.apply L true a (k++t::r) none s):=by
 have ha:=fM.top;have GD:(a.kind== .early)=false:=by rw [ha.kind.1];rfl
 have kA:stepG.apply.match_1 (λ_=>CallKind) a.todo (λd resume saved tail=>CallKind.wrapped) (λx=>CallKind.normal)= .normal:=by
  have:=ha.todo;generalize a.todo=ta at this;generalize b.todo=tb at this;cases this with
  | nil=>rfl
  | cons hi _=>cases hi <;> rfl
 have key: ∀w2:World, ∀v,s.run L w= .ok v w2->AS w w1 g1 (stepG.apply L true a (k++t::r) none s):=by
  intro w2 n bM;obtain ⟨⟨v',W2,bS,e1,e2,e3⟩,e4,e5,ed,e6⟩:=hs.tape hw bM;have hl: ∀(g:Goroutine),(∀w w2:World,s.run L w= .ok n w2-> ∃es,stepG.apply L true a (k++t::r) none s w= .go g w2 es)->AS w w1 g1 (stepG.apply L true a (k++t::r) none s):=by
   intro g hg;obtain ⟨es3,h3⟩:=hg w w2 bM;rw [h3] at h;cases h;exact ⟨e4,e5,ed,λτ oM=>hg _ _ (e6 τ λj q _=>oM j q)⟩
  have KZ: ∀w w2:World,s.run L w= .ok n w2-> ∃es,s.runT L w #[]=(.ok n w2,es):=by
   intro w w2 h;exact ⟨(s.runT L w #[]).2,by rw [←h, ←Sem.runT_fst L s w #[]]⟩
  cases e1 with
  | value hv=>
   rename_i v _;refine hl (gJ (a.finish v) (k++t::r)) λw w2 hr=> ?_;obtain ⟨es,h⟩:=KZ w w2 hr;unfold stepG.apply;simp only [if_true,h,GStep.after];exact ⟨_,rfl⟩
  | skip=>
   refine hl (gJ (a.finish undef) (k++t::r)) λw w2 hr=> ?_;obtain ⟨es,h⟩:=KZ w w2 hr;unfold stepG.apply;simp only [if_true,h,GStep.after];exact ⟨_,rfl⟩
  | @enter f x x' tk qm hx=>
   refine hl (gJ (Frame.enter L f x .normal) (a::(k++t::r))) λw w2 hr=> ?_;obtain ⟨es,h⟩:=KZ w w2 hr;unfold stepG.apply;simp only [if_true,h,GStep.after,kA];exact ⟨_,rfl⟩
  | @round l l' f x x' ca cb hca hcb qI hx=>
   refine hl (gJ (Frame.round l f x ca cb .normal) (a::(k++t::r))) λw w2 hr=> ?_;obtain ⟨es,h⟩:=KZ w w2 hr;unfold stepG.apply;simp only [if_true,h,GStep.after];exact ⟨_,rfl⟩
 cases bM:s.run L w with
 | ok n w2=>exact key w2 n bM
 | halt hh w2=>
  exfalso;unfold stepG.apply at h;have hR:s.runT L w #[]=(.halt hh w2,(s.runT L w #[]).2):=by rw [←bM, ←Sem.runT_fst L s w #[]]
  simp only [if_true] at h;rw [hR] at h;obtain ⟨rX,h⟩:=tW h;have zk:=(hs.AG hw bM).1;cases hh with
  | panic v=>cases h;exact hp (oX _ _)
  | stuck s=>cases h
  | unsupported u=>
   cases u with
   | initOrder g=>exact zk g rfl
   | _=>cases h
  | _=>exact zk.elim
theorem Pd(HP:gC L C)(HF:PF L C Xs){a b:Frame}{k k':List Frame}{m:Bool}(fM:cL L C β (a::k) (b::k'))(hm:a.mode= .run)(hw:cn β w W){es:Array Event}
  (h:stepG.exec L m true a (k++t::r) none w= .go g1 w1 es) (hp: ¬cX g1):AS w w1 g1 (stepG.exec L m true a (k++t::r) none):=by
 have ha:=fM.top;obtain ⟨fn,tm,todo,df,md,kd,ro⟩:=a;obtain ⟨jN,Dd,tV,IH,Je,Gh,De⟩:=b;have hT:=ha.todo;have yc:=ha.fn;simp only at hT hm yc;subst yc;subst hm;cases hT with
 | nil=>
  have e: ∀w,stepG.exec L m true _ (k++t::r) none w=Lv L m _ (k++t::r) w none:=λw=>Er _ _ { fn:=jN,tmps:=tm,todo:=[],defers:=df,mode:= .run,kind:=kd,roundOf:=ro } _ _ rfl;rw [e] at h;rw [funext e];exact Jj HF fM (λc h=>by cases h) hw h
 | @cons i_ i_' K K' hi hk=>
  cases hi with
  | inBlock id=>exact jZ (λw=>rfl) h
  | inLoop hc=>exact jZ (λw=>rfl) h
  | mE hl=>cases h
  | beginRound=>
   have vN:=ha.round;simp only at vN;refine yq (C:=C) (s':=do De.elim (stuck "beginRound: no round") Instr.beginRound;pure .skip) HF fM ?_ hw h hp;cases vN with
   | none=>exact (aR.eh aR.halt).rel
   | some hl=>exact (rY hl).bd λiJ _ _ hl _=> .pure .skip
  | @lB l l' hl=>
   refine wO (C:=C) (F:=λq=>match q with
     | .ok jump w=> .go { frame:={ fn:=jN,tmps:=tm,todo:=(jump.map Item.code).toList++_,defers:=df,mode:= .run,kind:=kd,roundOf:=ro },callers:=k++t::r,status:= .running,dying:=none } w
     | .halt (.panic v) w=> .go { frame:=Frame.raise _ [{ v,recovered:=false }],callers:=k++t::r,status:= .running,dying:=none } w
     | .halt _ w=> .ended (.stuck "range over a function: no such loop" _) w) (yp hl) hw h ?_ ?_
   ·intro q w2 rX h;cases q with
    | panic v=>cases h;exact hp (oX _ _)
    | _=>cases h
   ·intro bS v v' w2 W2 rX hv tK hT h;exact jZ (λw=>rfl) h
  | @inRegion ops td ho=>
   cases td with
   | nil=>exact jZ (λw=>rfl) h
   | cons i td=>
    simp only [stepG.exec] at h;split at h
    ·rename_i hq;cases cM:ops[i]? with
     | none=>rw [cM] at hq;cases hq
     | some o=>
      have tk:=ho o (qb1 cM);have hd: ∀c,o.op≠ .defer c:=λc q=>by rw [q] at tk;exact tk
      have e: ∀w,stepG.oper L true _ (k++t::r) none w=stepG.apply L true _ (k++t::r) none (execOp _ o) w:=λw=>Ai L { fn:=jN,tmps:=tm,todo:= .inRegion ops (i::td)::K,defers:=df,mode:= .run,kind:=kd,roundOf:=ro } (k++t::r) w (by simp only [Frame.oper?];exact cM) hd;rw [e] at h;have e2: ∀w,stepG.exec L m true { fn:=jN,tmps:=tm,todo:= .inRegion ops (i::td)::K,defers:=df,mode:= .run,kind:=kd,roundOf:=ro } (k++t::r) none w=stepG.apply L true { fn:=jN,tmps:=tm,todo:= .inRegion ops (i::td)::K,defers:=df,mode:= .run,kind:=kd,roundOf:=ro } (k++t::r) none (execOp (Frame.eval { fn:=jN,tmps:=tm,todo:= .inRegion ops (i::td)::K,defers:=df,mode:= .run,kind:=kd,roundOf:=ro }) o) w:=by
       intro w;simp only [stepG.exec];rw [if_pos hq];exact e w
      rw [funext e2];exact yq HF fM (Jd HP ha.eval o tk) hw h hp
    ·rename_i hq;refine jZ (g:=gJ (Frame.finish { fn:=jN,tmps:=tm,todo:= .inRegion ops (i::td)::K,defers:=df,mode:= .run,kind:=kd,roundOf:=ro } undef) (k++t::r)) (λw=> ?_) (w:=w) (es:=es) ?_
     ·simp only [stepG.exec];rw [if_neg hq]
     ·simp only [stepG.exec];rw [if_neg hq];exact h
  | code hc=>
   cases hc with
   | skip=>exact jZ (λw=>rfl) h
   | label l=>exact jZ (λw=>rfl) h
   | ret=>
    have e: ∀w,stepG.exec L m true _ (k++t::r) none w=Lv L m _ (k++t::r) w (some .ret):=λw=>Es _ _ { fn:=jN,tmps:=tm,todo:= .code .ret::K,defers:=df,mode:= .run,kind:=kd,roundOf:=ro } K _ _ rfl;rw [e] at h;rw [funext e];exact Jj HF fM (λc h=>by cases h;exact .ret) hw h
   | seq h1 h2=>exact jZ (λw=>rfl) h
   | block id h1=>exact jZ (λw=>rfl) h
   | loop h1=>exact jZ (λw=>rfl) h
   | exit id=>
    rcases AQ id hk with ⟨e1,e2⟩ | ⟨q,q',e1,e2,hq⟩
    ·have e: ∀w,stepG.exec L m true _ (k++t::r) none w=Lv L m _ (k++t::r) w (some (.exit id)):=λw=>Ah _ _ { fn:=jN,tmps:=tm,todo:= .code (.exit id)::K,defers:=df,mode:= .run,kind:=kd,roundOf:=ro } id K _ _ rfl e1;rw [e] at h;rw [funext e];exact Jj HF fM (λc h=>by cases h;exact .exit id) hw h
    ·refine jZ (g:=gJ { fn:=jN,tmps:=tm,todo:=q,defers:=df,mode:= .run,kind:=kd,roundOf:=ro } (k++t::r)) (λw=> ?_) h;simp only [stepG.exec,e1,Option.elim_some]
   | @cond c x y hc h1 h2=>
    have he:=ha.eval c hc;simp only [stepG.exec] at h;have e2: ∀w,stepG.exec L m true { fn:=jN,tmps:=tm,todo:= .code (.cond c x y)::K,defers:=df,mode:= .run,kind:=kd,roundOf:=ro } (k++t::r) none w=(match Frame.eval { fn:=jN,tmps:=tm,todo:= .code (.cond c x y)::K,defers:=df,mode:= .run,kind:=kd,roundOf:=ro } c with
      | .bool b=> .go { frame:={ fn:=jN,tmps:=tm,todo:= .code (if b then x else y)::K,defers:=df,mode:= .run,kind:=kd,roundOf:=ro },callers:=k++t::r,status:= .running,dying:=none } w
      | _=> .ended (.stuck "cond: bool expected" (Frame.pos L { fn:=jN,tmps:=tm,todo:= .code (.cond c x y)::K,defers:=df,mode:= .run,kind:=kd,roundOf:=ro })) w):=λw=>rfl
    rw [funext e2];revert h;generalize Frame.eval _ c=u at he;generalize Frame.eval _ c=u' at he;intro h;cases he with
    | bool q=>exact jZ (λw=>rfl) h
    | _=>cases h
   | @region id ops draw ho=>
    cases draw with
    | false=>exact jZ (λw=>rfl) h
    | true=>
     have hs:ay L C (gb λ_=>True) β (choose (.order jN id)) (choose (.order jN id)):= .choose λn=> .pure ⟨rfl,trivial⟩;have e2: ∀(w w2:World) n,(choose (.order jN id)).run L w= .ok n w2->stepG.exec L m true { fn:=jN,tmps:=tm,todo:= .code (.region id ops true)::K,defers:=df,mode:= .run,kind:=kd,roundOf:=ro } (k++t::r) none w= .go (gJ { fn:=jN,tmps:=tm,todo:= .inRegion ops (Region.schedule (L.follows .mixedOrders) ops n)::K,defers:=df,mode:= .run,kind:=kd,roundOf:=ro } (k++t::r)) w2:=by
      intro w w2 n hr;simp only [stepG.exec,qah,qa6,if_false];rw [hr]
     cases bM:(choose (.order jN id)).run L w with
     | halt q w2=>
      simp only [stepG.exec,qah,qa6,if_false] at h;rw [bM] at h;cases h
     | ok n w2=>
      obtain ⟨⟨n',W2,bS,e1,e3,e4⟩,e5,e6,ed,e7⟩:=hs.tape hw bM;rw [e2 _ _ _ bM] at h;cases h;exact ⟨e5,e6,ed,λτ oM=>⟨#[],e2 _ _ _ (e7 τ λj q _=>oM j q)⟩⟩
   | @rangeFunc f ps x y hf h1 h2=>
    refine wO (C:=C) (F:=λq=>match q with
      | .ok (l,mark) w=>stepG.apply L true { fn:=jN,tmps:=tm,todo:= .inRangeFunc l::_,defers:=mark++df,mode:= .run,kind:=kd,roundOf:=ro } (k++t::r) none (do let d←resolve (Frame.eval { fn:=jN,tmps:=tm,todo:= .inRangeFunc l::_,defers:=mark++df,mode:= .run,kind:=kd,roundOf:=ro }) { callee:= .value f,args:= #[.const (.func (.yield l) #[] #[])],argTypes:= #[] } 0;invoke d.target d.args) w
      | .halt _ w=> .ended (.stuck "range over a function: no such loop" _) w) (tX jN ps ha.tmps ((HF.code _).2 h1) ((HF.code _).2 h2) ha.round) hw h ?_ ?_
    ·intro q w2 rX h;cases h
    ·rintro bS ⟨l,mk⟩ ⟨l',mk'⟩ w2 W2 rX ⟨hl,hmk⟩ tK hT h;have qY:=ha.mono hT;have AR:cL L C bS ({ fn:=jN,tmps:=tm,todo:= .inRangeFunc l::K,defers:=mk++df,mode:= .run,kind:=kd,roundOf:=ro }::k) ({ fn:=jN,tmps:=Dd,todo:= .inRangeFunc l'::K',defers:=mk'++IH,mode:=Je,kind:=Gh,roundOf:=De }::k'):=
      (fM.mono hT).swap ⟨rfl,qY.tmps, .cons (.mE hl) (hk.mono hT),hmk.append qY.defers,qY.mode,ha.kind,qY.round,qY.ym⟩ rfl
     refine yq HF AR (Jh (v':= .func (.yield l') #[] #[]) HP (AR.top.eval f hf) ?_) tK h hp;exact .func (.yield hl) rfl rfl (λi v v' q=>by simp at q) (λi v v' q=>by simp at q)
theorem Jk(HP:gC L C){a b:Frame}{k k':List Frame}{m:Bool}(fM:cL L C β (a::k) (b::k'))(hm:a.mode= .returning)(hw:cn β w W){es:Array Event}
  (h:unwind L m a (k++t::r) none w= .go g1 w1 es):AS w w1 g1 (unwind L m a (k++t::r) none):=by
 have ha:=fM.top;obtain ⟨fn,tm,todo,df,md,kd,ro⟩:=a;obtain ⟨jN,Dd,tV,IH,Je,Gh,De⟩:=b;have hD:=ha.defers;have yc:=ha.fn;simp only at hD hm yc;subst yc;subst hm;obtain ⟨TF,vN⟩:Je= .returning/\ro=none:=by rcases ha.mode with h | h;(cases h.1);exact ⟨h.2.1,h.2.2⟩
 subst TF;subst vN;unfold unwind at h ⊢;cases hD with
 | @cons q q' ds ds' hq hd=>
  simp only at h ⊢;refine wO (C:=C) (F:=λx=>match x with
    | .ok calls w=> .go { frame:={ fn:=jN,tmps:=tm,todo:=todo,defers:=calls++ds,mode:= .returning,kind:=kd,roundOf:=none },callers:=k++t::r,status:= .running,dying:=none } w
    | .halt _ w=> .ended (.stuck "the deferred calls of a range-over-func loop have been taken" _) w) (po hq) hw h ?_ ?_
  ·intro q w2 rX h;cases h
  ·rintro bS v v' w2 W2 rX hv tK hT h;exact jZ (λw=>rfl) h
 | nil=>
  simp only at h ⊢;obtain ⟨f,e1,e2⟩:=ha.ym rfl;simp only at e1;rw [e1] at h ⊢;simp only at h ⊢;refine wO (C:=C) (F:=λx=>match x with
    | .ok v w=>doReturn L m { fn:=jN,tmps:=tm,todo:=todo,defers:=[],mode:= .returning,kind:=kd,roundOf:=none } (k++t::r) none v w
    | .halt (.stuck s) w=> .ended (.stuck s _) w
    | .halt _ w=> .ended (.stuck "return: the result variables cannot be read" _) w) (uH HP f ha.tmps) hw h ?_ ?_
  ·intro q w2 rX h;cases q <;> cases h
  ·rintro bS v v' w2 W2 rX hv tK hT h;exact K7 (fM.mono hT) h
theorem wP(HP:gC L C)(HF:PF L C Xs){a b:Frame}{k k':List Frame}{m:Bool}(fM:cL L C β (a::k) (b::k'))(hw:cn β w W){es:Array Event}
  (h:stepG L m (gJ a (k++t::r)) w= .go g1 w1 es) (hp: ¬cX g1):AS w w1 g1 (λw=>stepG L m (gJ a (k++t::r)) w):=by
 rcases fM.top.mode with ⟨m1,m2⟩ | ⟨m1,m2,_⟩
 ·have e: ∀w,stepG L m (gJ a (k++t::r)) w=stepG.exec L m true a (k++t::r) none w:=by
   intro w;unfold stepG gJ;simp only [m1]
  rw [e] at h;rw [funext e];exact Pd HP HF fM m1 hw h hp
 ·have e: ∀w,stepG L m (gJ a (k++t::r)) w=unwind L m a (k++t::r) none w:=by
   intro w;unfold stepG gJ;simp only [m1]
  rw [e] at h;rw [funext e];exact Jk HP fM m1 hw h
end
end Go.Cx
namespace Go.Cx
open Go
variable[ba][aH][bg]
def Pe(ds:List Deferred):Prop:= ∀d∈ds, ∃r x,d={ target:= .collected r,args:=x }
omit [ba] [aH] [bg] in
theorem nM.yr{β:Bj}{x y:List Deferred}(h:nM β x y):Pe x:=by
 induction h with
 | nil=>intro d hd;simp at hd
 | cons _ _ ih=>
  intro d hd;rcases qa9.1 hd with rfl | hd
  ·exact ⟨_,_,rfl⟩
  ·exact ih d hd
def GG(a:Frame)(cs:List Frame)(w:World)(T:GStep):Prop:=
 (∃g1 w1 es,T= .go g1 w1 es/\(cX g1->(Dw w->Dw w1)/\ ∃a2 vs,Pe a2.defers/\g1=gJ (Frame.raise a2 vs) cs))\/ ∃o w1 es,T= .ended o w1 es
omit [ba] [aH] [bg] in
theorem GG.after{a:Frame}{cs:List Frame}{w:World}{T:GStep}(h:GG a cs w T)(es:Array Event):GG a cs w (GStep.after es T):=by
 rcases h with ⟨g1,w1,es1,rfl,hb⟩ | ⟨o,w1,es1,rfl⟩
 ·exact .inl ⟨g1,w1,_,rfl,hb⟩
 ·exact .inr ⟨o,w1,_,rfl⟩
omit [ba] [aH] [bg] in
theorem qL{a:Frame}{cs:List Frame}{g:Goroutine}{w0 w:World}{es:Array Event}(h: ∀ch,g.frame.mode≠ .panicking ch):GG a cs w0 (.go g w es):= .inl ⟨g,w,es,rfl,λ⟨ch,q⟩=>absurd q (h ch)⟩
omit [ba] [aH] [bg] in
theorem mF{a:Frame}{cs:List Frame}{o:Outcome}{w0 w:World}{es:Array Event}:GG a cs w0 (.ended o w es):= .inr ⟨o,w,es,rfl⟩
omit [ba] [aH] [bg] in
theorem kj(a:Frame)(v:Value):(a.finish v).mode=a.mode:=by
 unfold Frame.finish;split <;> rfl
section
variable{L C:Program}{Xs:FuncId->Prop}{β:Bj}{t:Frame}{r:List Frame}{w W:World}
omit [aH] in
theorem jE.calm{a b:Frame}(h:jE L C β a b): ∀ch,a.mode≠ .panicking ch:=λch q=>by
 rcases h.mode with ⟨h,_⟩ | ⟨h,_⟩ <;> rw [h] at q <;> cases q
theorem wQ{α:Type}{RA:Bj->α->α->Prop}{s s':Sem α}(hs:ay L C RA β s s')(hw:cn β w W){f:FuncId}{F:Result α->GStep}{a:Frame}{cs:List Frame}
  (hh: ∀q w2,I2 q->(Dw w->Dw w2)->GG a cs w (F (.halt q w2)))
  (tk: ∀bS v v' w2 W2,RA bS v v'->cn bS w2 W2->Le β bS->(Dw w->Dw w2)->GG a cs w (F (.ok v w2))):
  GG a cs w (GStep.after (seen L f (s.runT L w #[]).2) (F (s.runT L w #[]).1)):=by
 refine GG.after ?_ _;rw [Sem.runT_fst];cases bM:s.run L w with
 | halt q w2=>exact hh q w2 (hs.AG hw bM).1 (hs.AG hw bM).2
 | ok v w2=>
  obtain ⟨⟨v',W2,bS,e1,e2,e3⟩,e4,e5,ed,e6⟩:=hs.tape hw bM;exact tk bS v v' w2 W2 e1 e2 e3 ed
omit [aH] in
theorem K8(ht:t.mode= .run){a b:Frame}{k k':List Frame}{m:Bool}(fM:cL L C β (a::k) (b::k')){v:Value}{w2:World}{a2:Frame}{cs:List Frame}:
  GG a2 cs w (doReturn L m a (k++t::r) none v w2):=by
 have ha:=fM.top;unfold doReturn;rw [ha.kind.1];cases fM with
 | one _ hr=>exact qL λch q=>by rw [show (gJ (t.finish v) r).frame.mode=t.mode from kj _ _,ht] at q;cases q
 | cons _ hk=>
  cases hk with
  | @one a3 b3 h2 hr=>exact qL λch q=>by rw [show (gJ (a3.finish v) (t::r)).frame.mode=a3.mode from kj _ _] at q;exact h2.calm ch q
  | @cons a3 b3 k3 k3' h2 hk=>exact qL λch q=>by rw [show (gJ (a3.finish v) (k3++t::r)).frame.mode=a3.mode from kj _ _] at q;exact h2.calm ch q
theorem Jm(ht:t.mode= .run)(HF:PF L C Xs){a b:Frame}{k k':List Frame}{m:Bool}(fM:cL L C β (a::k) (b::k')){j:Option Code}(hj: ∀c,j=some c->cG L C c)(hw:cn β w W){a2:Frame}{cs:List Frame}:
  GG a2 cs w (Lv L m a (k++t::r) w j):=by
 have ha:=fM.top;obtain ⟨fn,tm,todo,df,md,kd,ro⟩:=a;obtain ⟨jN,Dd,tV,IH,Je,Gh,De⟩:=b;have vN:=ha.round;simp only at vN;unfold Lv;cases vN with
 | none=>
  simp only;split
  all_goals simp only [if_true,qa6,if_false]
  all_goals first
   | exact qL λch q=>by cases q
   | exact mF
 | some hl=>
  simp only;refine wQ (C:=C) (F:=λq=>match q with
   | .ok v w=>doReturn L m _ (k++t::r) none v w
   | .halt _ w=> .ended (.stuck "range over a function: no such loop" _) w) (vM hl j λc hc=>(HF.code c).2 (hj c hc)) hw ?_ ?_
  ·intro q w2 _ _;exact mF
  ·intro bS v v' w2 W2 hv tK hT _;exact K8 ht (fM.mono hT)
theorem yt{a b:Frame}{k k':List Frame}(fM:cL L C β (a::k) (b::k')){s s':Sem Next}(hs:ay L C mC β s s')(hw:cn β w W):
  GG a (k++t::r) w (stepG.apply L true a (k++t::r) none s w):=by
 have ha:=fM.top;unfold stepG.apply;simp only [if_true];rcases hR:s.runT L w #[] with ⟨q,tJ⟩
 have bM:s.run L w=q:=by rw [←Sem.runT_fst L s w #[],hR]
 simp only;refine GG.after ?_ _;cases q with
 | halt hh w2=>
  obtain ⟨zk,MT⟩:=hs.AG hw bM;cases hh with
  | panic v=>exact .inl ⟨_,_,_,rfl,λ_=>⟨MT,_,_,ha.defers.yr,rfl⟩⟩
  | stuck s=>exact mF
  | unsupported u=>
   cases u with
   | initOrder g=>exact (zk g rfl).elim
   | _=>exact mF
  | _=>exact zk.elim
 | ok n w2=>
  obtain ⟨⟨v',W2,bS,e1,e2,e3⟩,e4,e5,ed,e6⟩:=hs.tape hw bM;cases e1 with
  | @value v v' hv=>exact qL λch q=>by rw [show (gJ (a.finish v) (k++t::r)).frame.mode=a.mode from kj _ _] at q;exact ha.calm ch q
  | skip=>exact qL λch q=>by rw [show (gJ (a.finish undef) (k++t::r)).frame.mode=a.mode from kj _ _] at q;exact ha.calm ch q
  | enter f tk qm hx=>exact qL λch q=>by cases q
  | round f ca cb hca hcb qI hx=>exact qL λch q=>by cases q
theorem Pf(ht:t.mode= .run)(HP:gC L C)(HF:PF L C Xs){a b:Frame}{k k':List Frame}{m:Bool}(fM:cL L C β (a::k) (b::k'))(hm:a.mode= .run)(hw:cn β w W):
  GG a (k++t::r) w (stepG.exec L m true a (k++t::r) none w):=by
 have ha:=fM.top;obtain ⟨fn,tm,todo,df,md,kd,ro⟩:=a;obtain ⟨jN,Dd,tV,IH,Je,Gh,De⟩:=b;have hT:=ha.todo;have yc:=ha.fn;simp only at hT hm yc;subst yc;subst hm;have calm: ∀{g:Goroutine} {w0 w:World},g.frame.mode= .run->GG { fn:=jN,tmps:=tm,todo:=todo,defers:=df,mode:= .run,kind:=kd,roundOf:=ro } (k++t::r) w0 (.go g w):=λh=>qL λch q=>by rw [h] at q;cases q
 cases hT with
 | nil=>
  rw [Er _ _ _ _ _ rfl];exact Jm ht HF fM (λc h=>by cases h) hw
 | @cons i_ i_' K K' hi hk=>
  cases hi with
  | inBlock id=>exact calm rfl
  | inLoop hc=>exact calm rfl
  | mE hl=>exact mF
  | beginRound=>
   have vN:=ha.round;simp only at vN;refine yt (C:=C) (s':=do De.elim (stuck "beginRound: no round") Instr.beginRound;pure .skip) fM ?_ hw;cases vN with
   | none=>exact (aR.eh aR.halt).rel
   | some hl=>exact (rY hl).bd λiJ _ _ hl _=> .pure .skip
  | @lB l l' hl=>
   refine wQ (C:=C) (F:=λq=>match q with
     | .ok jump w=> .go { frame:={ fn:=jN,tmps:=tm,todo:=(jump.map Item.code).toList++_,defers:=df,mode:= .run,kind:=kd,roundOf:=ro },callers:=k++t::r,status:= .running,dying:=none } w
     | .halt (.panic v) w=> .go { frame:=Frame.raise _ [{ v,recovered:=false }],callers:=k++t::r,status:= .running,dying:=none } w
     | .halt _ w=> .ended (.stuck "range over a function: no such loop" _) w) (yp hl) hw ?_ ?_
   ·intro q w2 hq MT;cases q with
    | panic v=>exact .inl ⟨_,_,_,rfl,λ_=>⟨MT,_,_,ha.defers.yr,rfl⟩⟩
    | _=>exact mF
   ·intro bS v v' w2 W2 hv tK hT _;exact calm rfl
  | @inRegion ops td ho=>
   cases td with
   | nil=>exact calm rfl
   | cons i td=>
    simp only [stepG.exec];split
    ·rename_i hq;cases cM:ops[i]? with
     | none=>rw [cM] at hq;cases hq
     | some o=>
      have tk:=ho o (qb1 cM);have hd: ∀c,o.op≠ .defer c:=λc q=>by rw [q] at tk;exact tk
      rw [Ai _ _ _ _ (o:=o) (by simp only [Frame.oper?];exact cM) hd];exact yt fM (Jd HP ha.eval o tk) hw
    ·exact calm (kj _ _)
  | code hc=>
   cases hc with
   | skip=>exact calm rfl
   | label l=>exact calm rfl
   | ret=>
    rw [Es _ _ _ _ _ _ rfl];exact Jm ht HF fM (λc h=>by cases h;exact .ret) hw
   | seq h1 h2=>exact calm rfl
   | block id h1=>exact calm rfl
   | loop h1=>exact calm rfl
   | exit id=>
    rcases AQ id hk with ⟨e1,e2⟩ | ⟨q,q',e1,e2,hq⟩
    ·rw [Ah _ _ _ id _ _ _ rfl e1];exact Jm ht HF fM (λc h=>by cases h;exact .exit id) hw
    ·simp only [stepG.exec,e1,Option.elim_some];exact calm rfl
   | @cond c x y hc h1 h2=>
    simp only [stepG.exec];split
    ·exact calm rfl
    ·exact mF
   | @region id ops draw ho=>
    cases draw with
    | false=>exact calm rfl
    | true=>
     simp only [stepG.exec,qah,qa6,if_false];split
     ·exact calm rfl
     ·exact mF
   | @rangeFunc f ps x y hf h1 h2=>
    refine wQ (C:=C) (F:=λq=>match q with
      | .ok (l,mark) w=>stepG.apply L true { fn:=jN,tmps:=tm,todo:= .inRangeFunc l::_,defers:=mark++df,mode:= .run,kind:=kd,roundOf:=ro } (k++t::r) none (do let d←resolve (Frame.eval { fn:=jN,tmps:=tm,todo:= .inRangeFunc l::_,defers:=mark++df,mode:= .run,kind:=kd,roundOf:=ro }) { callee:= .value f,args:= #[.const (.func (.yield l) #[] #[])],argTypes:= #[] } 0;invoke d.target d.args) w
      | .halt _ w=> .ended (.stuck "range over a function: no such loop" _) w) (tX jN ps ha.tmps ((HF.code _).2 h1) ((HF.code _).2 h2) ha.round) hw ?_ ?_
    ·intro q w2 _ _;exact mF
    ·rintro bS ⟨l,mk⟩ ⟨l',mk'⟩ w2 W2 ⟨hl,hmk⟩ tK hT MT;have qY:=ha.mono hT;have AR:cL L C bS ({ fn:=jN,tmps:=tm,todo:= .inRangeFunc l::K,defers:=mk++df,mode:= .run,kind:=kd,roundOf:=ro }::k) ({ fn:=jN,tmps:=Dd,todo:= .inRangeFunc l'::K',defers:=mk'++IH,mode:=Je,kind:=Gh,roundOf:=De }::k'):=
      (fM.mono hT).swap ⟨rfl,qY.tmps, .cons (.mE hl) (hk.mono hT),hmk.append qY.defers,qY.mode,ha.kind,qY.round,qY.ym⟩ rfl
     have:=yt (t:=t) (r:=r) AR (Jh (v':= .func (.yield l') #[] #[]) HP (AR.top.eval f hf) (.func (.yield hl) rfl rfl (λi v v' q=>by simp at q) (λi v v' q=>by simp at q))) tK;rcases this with ⟨g1,w1,es,e1,hb⟩ | h
     ·exact .inl ⟨g1,w1,es,e1,λq=>let ⟨h1,a2,vs,h2,h3⟩:=hb q;⟨λh=>h1 (MT h),a2,vs,h2,h3⟩⟩
     ·exact .inr h
theorem Jo(ht:t.mode= .run)(HP:gC L C){a b:Frame}{k k':List Frame}{m:Bool}(fM:cL L C β (a::k) (b::k'))(hm:a.mode= .returning)(hw:cn β w W):
  GG a (k++t::r) w (unwind L m a (k++t::r) none w):=by
 have ha:=fM.top;obtain ⟨fn,tm,todo,df,md,kd,ro⟩:=a;obtain ⟨jN,Dd,tV,IH,Je,Gh,De⟩:=b;have hD:=ha.defers;have yc:=ha.fn;simp only at hD hm yc;subst yc;subst hm;obtain ⟨TF,vN⟩:Je= .returning/\ro=none:=by rcases ha.mode with h | h;(cases h.1);exact ⟨h.2.1,h.2.2⟩
 subst TF;subst vN;unfold unwind;cases hD with
 | @cons q q' ds ds' hq hd=>
  simp only;refine wQ (C:=C) (F:=λx=>match x with
    | .ok calls w=> .go { frame:={ fn:=jN,tmps:=tm,todo:=todo,defers:=calls++ds,mode:= .returning,kind:=kd,roundOf:=none },callers:=k++t::r,status:= .running,dying:=none } w
    | .halt _ w=> .ended (.stuck "the deferred calls of a range-over-func loop have been taken" _) w) (po hq) hw ?_ ?_
  ·intro q w2 _ _;exact mF
  ·intro bS v v' w2 W2 hv tK hT _;exact qL λch q=>by cases q
 | nil=>
  simp only;obtain ⟨f,e1,e2⟩:=ha.ym rfl;simp only at e1;rw [e1];simp only;refine wQ (C:=C) (F:=λx=>match x with
    | .ok v w=>doReturn L m { fn:=jN,tmps:=tm,todo:=todo,defers:=[],mode:= .returning,kind:=kd,roundOf:=none } (k++t::r) none v w
    | .halt (.stuck s) w=> .ended (.stuck s _) w
    | .halt _ w=> .ended (.stuck "return: the result variables cannot be read" _) w) (uH HP f ha.tmps) hw ?_ ?_
  ·intro q w2 _ _;cases q <;> exact mF
  ·intro bS v v' w2 W2 hv tK hT _;exact K8 ht (fM.mono hT)
theorem Pg(ht:t.mode= .run)(HP:gC L C)(HF:PF L C Xs){a b:Frame}{k k':List Frame}{m:Bool}(fM:cL L C β (a::k) (b::k'))(hw:cn β w W):
  GG a (k++t::r) w (stepG L m (gJ a (k++t::r)) w):=by
 rcases fM.top.mode with ⟨m1,m2⟩ | ⟨m1,m2,_⟩
 ·unfold stepG gJ;simp only [m1];exact Pf ht HP HF fM m1 hw
 ·unfold stepG gJ;simp only [m1];exact Jo ht HP fM m1 hw
end
end Go.Cx
namespace Go.Cx
open Go
variable[ba][aH][bg]
def cN:Frame:={ fn:=0,tmps:= #[],todo:=[.code (.refuse "")],defers:=[{ target:= .nil,args:= #[] }],mode:= .run,kind:= .normal }
omit [ba] [aH] [bg] in
theorem qs(v:Value):cN.finish v=cN:=rfl
omit [ba] [aH] [bg] in
theorem Dg(L:Program)(w:World): ∃o w1,step L (lone cN [] w)= .ended o w1:=by
 exact ⟨_,w,step_lone_ended rfl⟩
omit [ba] [aH] [bg] in
theorem Ph(L:Program)(ch:List PanicEntry)(w:World): ∃o w1,step L (lone (cN.raise ch) [] w)= .ended o w1:=by
 refine ⟨.unsupported (.noEntry "machine/Return: a deferred call of a nil function value, made while the frame is unwinding") (Frame.pos L { cN.raise ch with defers:=[] }),w,step_lone_ended ?_⟩
 rfl
omit [ba] [aH] [bg] in
theorem runN_ended{L:Program}{m:Machine}{o:Outcome}{w:World}(h:step L m= .ended o w){n:Nat}{m':Machine}(hr:runN L n m= .next m'):n=0:=by
 cases n with
 | zero=>rfl
 | succ n=>simp only [runN,h] at hr;cases hr
omit [ba] [aH] [bg] in
theorem Pj{L:Program}{fr:Frame}{cs:List Frame}{w:World}{ch:List PanicEntry}{r:Nat}{x:Array Value}{ds:List Deferred}(hm:fr.mode= .panicking ch)(hd:fr.defers={ target:= .collected r,args:=x }::ds)(hw:Dw w):
  (∃w1,step L (lone fr cs w)= .next (lone { fr with defers:=ds } cs w1)/\Dw w1)\/ ∃o w1,step L (lone fr cs w)= .ended o w1:=by
 cases ho:w.heap[r]? with
 | none=>
  refine .inr ⟨.stuck "the deferred calls of a range-over-func loop have been taken" (fr.pos L),w,step_lone_ended ?_⟩;simp only [stepG,hm,unwind,hd,Instr.takeDeferred,getObj,bind,Sem.bind,Sem.runT,ho]
  rfl
 | some o=>
  by_cases hc: ∃l,o= .deferred (some l)
  ·obtain ⟨l,rfl⟩:=hc;have:l=[]:=hw r l ho;subst this;refine .inl ⟨{ w with heap:=w.heap.setIfInBounds r (.deferred none) },step_lone_go ?_,yj hw λds q=>by cases q⟩;simp only [stepG,hm,unwind,hd,Instr.takeDeferred,getObj,setObj,bind,pure,Sem.bind,Sem.runT,ho,Obj.isChan]
   rfl
  ·refine .inr ⟨.stuck "the deferred calls of a range-over-func loop have been taken" (fr.pos L),w,step_lone_ended ?_⟩;have bM:((Instr.takeDeferred r).runT L w #[]).1= .halt (.stuck "range over a function: the deferred calls have been taken") w\/((Instr.takeDeferred r).runT L w #[]).1= .halt (.stuck "getObj: a row of cells") w:=by
    rw [Sem.runT_fst];unfold Instr.takeDeferred getObj;cases o with
    | cells c e f=>right;simp only [bind,Sem.bind,Sem.run,ho]
    | deferred l=>
     cases l with
     | none=>left;simp only [bind,Sem.bind,Sem.run,ho];rfl
     | some l=>exact absurd ⟨l,rfl⟩ hc
    | _=>left;simp only [bind,Sem.bind,Sem.run,ho];rfl
   simp only [stepG,hm,unwind,hd];rcases hR:(Instr.takeDeferred r).runT L w #[] with ⟨q,es⟩
   rw [hR] at bM;rcases bM with h | h <;> (simp only at h;subst h;rfl)
omit [ba] [aH] [bg] in
theorem XT{L:Program}: ∀(n:Nat) (k:List Frame) (fr:Frame) (w:World) (Wp:Frame) (cs':List Frame) (w':World) (ch:List PanicEntry),fr.mode= .panicking ch->Pe fr.defers->(∀f∈k,Pe f.defers)->Dw w->
  runN L n (lone fr (k++[cN]) w)= .next (lone Wp cs' w')-> ∃ch,Wp.mode= .panicking ch:=by
 intro n
 induction n with
 | zero=>
  intro k fr w Wp cs' w' ch hm hd hk hD h;simp only [runN] at h;have:fr=Wp:=by simp only [lone] at h;injection h with h;injection h with h1 h2 h3;simp at h2;exact h2.1
  exact this▸⟨ch,hm⟩
 | succ n ih=>
  intro k fr w Wp cs' w' ch hm hd hk hD h;cases GH:fr.defers with
  | cons d ds=>
   obtain ⟨r,x,rfl⟩:=hd d (by rw [GH];simp);rcases Pj (cs:=k++[cN]) hm GH hD with ⟨w1,h1,h2⟩ | ⟨o,w1,h1⟩
   ·rw [runN,h1] at h;exact ih k { fr with defers:=ds } w1 Wp cs' w' ch hm (λd IJ=>hd d (by rw [GH];simp [show d∈ds from IJ])) hk h2 h
   ·have:=runN_ended h1 h;cases this
  | nil=>
   by_cases hc:fr.catches L=true
   ·have: ∃o w1,step L (lone fr (k++[cN]) w)= .ended o w1:=by
     refine ⟨_,w,step_lone_ended (o:= .unsupported (.noEntry "a panic or Goexit out of a method that fmt calls behind a cut's door") (fr.pos L)) ?_⟩;simp [stepG,hm,unwind,GH,hc]
    obtain ⟨o,w1,h1⟩:=this;have:=runN_ended h1 h;cases this
   ·simp only [qbd] at hc;cases k with
    | nil=>
     have h1:step L (lone fr ([]++[cN]) w)= .next (lone (cN.raise ch) [] w):=by
      refine step_lone_go ?_;simp [stepG,hm,unwind,GH,hc]
     simp only [runN,h1] at h;obtain ⟨o,w1,h2⟩:=Ph L ch w;have:=runN_ended h2 h;subst this;simp only [runN] at h;have:cN.raise ch=Wp:=by simp only [lone] at h;injection h with h;injection h with h1 h2 h3;simp at h2;exact h2.1
     exact this▸⟨ch,rfl⟩
    | cons c k=>
     have h1:step L (lone fr (c::k++[cN]) w)= .next (lone (c.raise ch) (k++[cN]) w):=by
      refine step_lone_go ?_;simp [stepG,hm,unwind,GH,hc]
     simp only [runN,h1] at h;obtain ⟨ch2,OW⟩:=oX c ch;refine ih k (c.raise ch) w Wp cs' w' ch2 OW ?_ (λf hf=>hk f (by simp [hf])) hD h;have:=hk c (by simp);unfold Frame.raise;split <;> exact this
end Go.Cx
namespace Go.Cx
open Go
variable[ba][aH][bg]
def Ag(d:Nat)(τ σ:Tape):Prop:= ∀j q,j<d->τ j q=σ j q
inductive yd(L:Program)(Q:Frame->World->Prop):Frame->List Frame->World->Prop
 | done {a:Frame} {w:World}:a.mode= .returning->a.defers=[]->Q a w->yd L Q a [] w
 | step {a:Frame} {k:List Frame} {w:World}:(∀τ,Ag w.drawn τ w.tape-> ∃a1 k1 w1 es,stepG L true (gJ a (k++[cN])) (TW w τ)= .go (gJ a1 (k1++[cN])) w1 es/\ ∀ch,a1.mode≠ .panicking ch)->
  (∀τ a1 k1 w1 es,Ag w.drawn τ w.tape->stepG L true (gJ a (k++[cN])) (TW w τ)= .go (gJ a1 (k1++[cN])) w1 es->yd L Q a1 k1 w1)->yd L Q a k w
def Inv(L:Program)(a:Frame)(k:List Frame)(w:World):Prop:= ∃β b k' W,cL L L β (a::k) (b::k')/\cn β w W/\Dw w
theorem cn.tw{β:Bj}{w W:World}(h:cn β w W)(τ σ:Tape):cn β (TW w τ) (TW W σ):=⟨h.obj,h.inj,h.fn⟩
omit [aH] in
theorem cL.yr{L C:Program}{β:Bj}{x y:List Frame}(h:cL L C β x y): ∀f∈x,Pe f.defers:=by
 induction h with
 | one h _=>intro f hf;simp at hf;exact hf▸h.defers.yr
 | cons h _ ih=>
  intro f hf;rcases qa9.1 hf with rfl | hf
  ·exact h.defers.yr
  ·exact ih f hf
omit [ba] [aH] [bg] in
theorem runN_add(L:Program): ∀(n m:Nat) (x y:Machine),runN L n x= .next y->runN L (n+m) x=runN L m y:=by
 intro n
 induction n with
 | zero=>intro m x y h;simp only [runN] at h;cases h;simp
 | succ n ih=>
  intro m x y h;rw [show n+1+m=(n+m)+1 by omega];simp only [runN] at h ⊢;cases hs:step L x with
  | next z=>rw [hs] at h;exact ih m z y h
  | ended o w=>rw [hs] at h;cases h
omit [ba] [aH] [bg] in
theorem Pk{L:Program}{x y:Machine}(h:step L x= .next y):runN L 1 x= .next y:=by simp only [runN,h]
omit [ba] [aH] [bg] in
theorem AT{a a':Frame}{k k':List Frame}{w w':World}(h:lone a k w=lone a' k' w'):a=a'/\k=k'/\w=w':=by
 simp only [lone] at h;injection h with h1 h2 h3
 simp at h2;exact ⟨h2.1,h2.2,h1⟩
section
variable{L:Program}{Q:Frame->World->Prop}
def Good(L:Program)(Q:Frame->World->Prop)(n:Nat)(m:Machine):Prop:=
 ∃a' w' v,runN L n m= .next (lone a' [cN] w')/\a'.leaving L w' (.returned v)/\Q a' w'
omit [ba] [aH] [bg] in
theorem Dh{n:Nat}{m:Machine}(h:Good L Q n m): ∀(i:Nat) (a:Frame) (k:List Frame) (w:World),runN L (n+i) m= .next (lone a (k++[cN]) w)->(k=[]/\a.mode= .returning/\a.defers=[]/\Q a w):=by
 obtain ⟨a',w',v,h1,h2,h3⟩:=h;intro i a k w hr;rw [runN_add L n i _ _ h1] at hr;cases i with
 | zero=>
  simp only [runN] at hr;injection hr with hr
  obtain ⟨rfl,e2,rfl⟩:=AT hr;have:k=[]:=by
   cases k with
   | nil=>rfl
   | cons c k=>simp at e2
  exact ⟨this,h2.1,h2.2.1,h3⟩
 | succ i=>
  exfalso;have hs:=step_leave_returned (c:=cN) (cs:=[]) h2;rw [qs] at hs;simp only [runN,hs] at hr;obtain ⟨o,w1,h4⟩:=Dg L w';have:=runN_ended h4 hr;subst this;simp only [runN] at hr;injection hr with hr
  obtain ⟨_,e2,_⟩:=AT hr;simp at e2
theorem TG(HP:gC L L)(HF:PF L L (λ_=>False))(hQ: ∀a w τ,Q a (TW w τ)->Q a w){a0:Frame}{k0:List Frame}{w0:World}(H: ∀τ,Ag w0.drawn τ w0.tape-> ∃n,Good L Q n (lone a0 (k0++[cN]) (TW w0 τ)))
  {m:Nat} {a:Frame} {k:List Frame} {w:World} (hI:Inv L a k w) (hn: ¬yd L Q a k w) (hd:w0.drawn<=w.drawn) (wE:Ag w0.drawn w.tape w0.tape)
  (hr: ∀τ,Ag w.drawn τ w.tape->runN L m (lone a0 (k0++[cN]) (TW w0 τ))= .next (lone a (k++[cN]) (TW w τ))):
  ∃a1 k1 w1,Inv L a1 k1 w1/\ ¬yd L Q a1 k1 w1/\w.drawn<=w1.drawn/\Ag w.drawn w1.tape w.tape/\
    ∀τ,Ag w1.drawn τ w1.tape->runN L (m+1) (lone a0 (k0++[cN]) (TW w0 τ))= .next (lone a1 (k1++[cN]) (TW w1 τ)):=by
 have hx: ∃τ,Ag w.drawn τ w.tape/\ ∀a1 k1 w1 es,stepG L true (gJ a (k++[cN])) (TW w τ)= .go (gJ a1 (k1++[cN])) w1 es->(∀ch,a1.mode≠ .panicking ch)-> ¬yd L Q a1 k1 w1:=by
  apply qa7;intro hc;have lS: ∀τ,Ag w.drawn τ w.tape-> ∃a1 k1 w1 es,stepG L true (gJ a (k++[cN])) (TW w τ)= .go (gJ a1 (k1++[cN])) w1 es/\(∀ch,a1.mode≠ .panicking ch)/\yd L Q a1 k1 w1:=
    λτ oM=>qa7 λSQ=>hc ⟨τ,oM,λa1 k1 w1 es h1 h2 h3=>SQ ⟨a1,k1,w1,es,h1,h2,h3⟩⟩
  refine hn (.step (λτ oM=>let ⟨a1,k1,w1,es,h1,h2,_⟩:=lS τ oM;⟨a1,k1,w1,es,h1,h2⟩) λτ a1 k1 w1 es oM h=> ?_);obtain ⟨a2,k2,w2,rX,h1,h2,h3⟩:=lS τ oM;rw [h] at h1;injection h1 with h4 h5
  simp only [Goroutine.mk.injEq,List.append_cancel_right_eq] at h4;obtain ⟨rfl,rfl,_⟩:=h4;subst h5;exact h3
 obtain ⟨τ,oM,hx⟩:=hx;obtain ⟨β,b,k',W,fM,hw,hD⟩:=hI;have h0:Ag w0.drawn τ w0.tape:=λj q hj=>(oM j q (qa2 hj hd)).trans (wE j q hj);obtain ⟨n,hg⟩:=H τ h0;have aa3:=hr τ oM;have Pm: ¬n<=m:=by
  intro hle;obtain ⟨e1,e2,e3,e4⟩:=Dh hg (m - n) a k (TW w τ) (by rw [show n+(m - n)=m by omega];exact aa3);subst e1;exact hn (.done e2 e3 (hQ _ _ _ e4))
 obtain ⟨a',w',v,g1,g2,g3⟩:=hg;have vu:runN L (n - m) (lone a (k++[cN]) (TW w τ))= .next (lone a' [cN] w'):=by
  rw [←runN_add L m (n - m) _ _ aa3,show m+(n - m)=n by omega];exact g1
 obtain ⟨p,hp⟩: ∃p,n - m=p+1:=⟨n - m - 1,by omega⟩;rw [hp] at vu;have XU:=hw.tw τ (λj q=>τ (j - W.drawn+w.drawn) q);have K9:iy (TW w τ) (TW W (λj q=>τ (j - W.drawn+w.drawn) q)):=λj q=>by
  show τ (W.drawn+j - W.drawn+w.drawn) q=τ (w.drawn+j) q;rw [show W.drawn+j - W.drawn+w.drawn=w.drawn+j by omega]
 rcases Pg (m:=true) (t:=cN) (r:=[]) rfl HP HF fM XU with ⟨g,w1,es,e1,XV⟩ | ⟨o,w1,es,e1⟩
 ·by_cases hB:cX g
  · exfalso;obtain ⟨MT,a2,vs,Pn,rfl⟩:=XV hB;have hs:step L (lone a (k++[cN]) (TW w τ))= .next (lone (a2.raise vs) (k++[cN]) w1):=step_lone_go (by rw [e1];rfl);simp only [runN,hs] at vu;obtain ⟨ch,Et⟩:=oX a2 vs;have GH:=fM.yr;obtain ⟨ch2,aa4⟩:=XT p k (a2.raise vs) w1 a' [cN] w' ch Et (by
     unfold Frame.raise;split <;> exact Pn) (λf hf=>GH f (by simp [hf])) (MT hD) vu
    rw [g2.1] at aa4;cases aa4
  · obtain ⟨bS,W1,wN,Df,e2,ho,zl,hT,_⟩:=tZ (m':=true) (bs':=[cN]) HP HF fM (.inl (by simp)) XU K9 e1 hB;obtain ⟨l1,l2,ld,l3⟩:=wP HP HF fM XU e1 hB;cases ho with
    | back hv hg1 _ aiW=>
     exfalso;rw [hg1,qs] at e1;have hs:step L (lone a (k++[cN]) (TW w τ))= .next (lone cN [] w1):=step_lone_go (by rw [e1];rfl);simp only [runN,hs] at vu;obtain ⟨o,w2,h4⟩:=Dg L w1;have:=runN_ended h4 vu;subst this;simp only [runN] at vu;injection vu with vu
     obtain ⟨_,e5,_⟩:=AT vu;simp at e5
    | on fb=>
     cases fb with
     | enter f hX _ _=>exact hX.elim
     | @on a1 b1 k1 SR u7=>
      have aa5: ∀ch,a1.mode≠ .panicking ch:=u7.top.calm;refine ⟨a1,k1,w1,⟨bS,b1,SR,W1,u7,zl,ld hD⟩,hx _ _ _ _ e1 aa5,l1, ?_,λσ Wr=> ?_⟩
      ·intro j q hj;rw [l2];exact oM j q hj
      ·have vJ:w.drawn<=w1.drawn:=l1;have XW:Ag w.drawn σ w.tape:=λj q hj=>(Wr j q (qa2 hj vJ)).trans (by rw [l2];exact oM j q hj);have aeE: ∀j q,j<w1.drawn->σ j q=(TW w τ).tape j q:=λj q hj=>(Wr j q hj).trans (by rw [l2]);obtain ⟨rX,e3⟩:=l3 σ aeE;have hs:step L (lone a (k++[cN]) (TW w σ))= .next (lone a1 (k1++[cN]) (TW w1 σ)):=step_lone_go (by
        have e4:stepG L true (gJ a (k++[cN])) (TW w σ)= .go (gJ a1 (k1++[cN])) (TW w1 σ) rX:=e3;rw [e4];rfl)
       rw [runN_add L m 1 _ _ (hr σ XW)];exact Pk hs
 ·exfalso;have hs:step L (lone a (k++[cN]) (TW w τ))= .ended o w1:=step_lone_ended (by rw [e1];rfl);have:=runN_ended hs vu;omega
theorem tree(HP:gC L L)(HF:PF L L (λ_=>False))(hQ: ∀a w τ,Q a (TW w τ)->Q a w){a0:Frame}{k0:List Frame}{w0:World}(hI:Inv L a0 k0 w0)(H: ∀τ,Ag w0.drawn τ w0.tape-> ∃n,Good L Q n (lone a0 (k0++[cN]) (TW w0 τ))):
  yd L Q a0 k0 w0:=by
 classical
 apply qa7;intro hn
 let S:={ s:Nat×Frame×List Frame×World // Inv L s.2.1 s.2.2.1 s.2.2.2/\ ¬yd L Q s.2.1 s.2.2.1 s.2.2.2/\w0.drawn<=s.2.2.2.drawn/\Ag w0.drawn s.2.2.2.tape w0.tape/\
  ∀τ,Ag s.2.2.2.drawn τ s.2.2.2.tape->runN L s.1 (lone a0 (k0++[cN]) (TW w0 τ))= .next (lone s.2.1 (s.2.2.1++[cN]) (TW s.2.2.2 τ)) }
 have AU: ∀s:S, ∃s':S,s'.1.1=s.1.1+1/\s.1.2.2.2.drawn<=s'.1.2.2.2.drawn/\Ag s.1.2.2.2.drawn s'.1.2.2.2.tape s.1.2.2.2.tape:=by
  rintro ⟨⟨m,a,k,w⟩,h1,h2,h3,h4,h5⟩;obtain ⟨a1,k1,w1,g1,g2,g3,g4,g5⟩:=TG HP HF hQ H h1 h2 h3 h4 h5;exact ⟨⟨(m+1,a1,k1,w1),g1,g2,qaa h3 g3,λj q hj=>(g4 j q (qa2 hj h3)).trans (h4 j q hj),g5⟩,rfl,g3,g4⟩
 let s0:S:=⟨(0,a0,k0,w0),hI,hn,qa3 _,λ_ _ _=>rfl,λτ _=>rfl⟩
 let f:S->S:=λs=>(AU s).choose
 have hf: ∀s,(f s).1.1=s.1.1+1/\s.1.2.2.2.drawn<=(f s).1.2.2.2.drawn/\Ag s.1.2.2.2.drawn (f s).1.2.2.2.tape s.1.2.2.2.tape:=λs=>(AU s).choose_spec
 let c:Nat->S:=λn=>Nat.rec s0 (λ_ s=>f s) n
 have c0:c 0=s0:=rfl;have cs: ∀n,c (n+1)=f (c n):=λn=>rfl;have hlen: ∀n,(c n).1.1=n:=by
  intro n
  induction n with
  | zero=>rfl
  | succ n ih=>rw [cs,(hf _).1,ih]
 have Ws: ∀n i,(c n).1.2.2.2.drawn<=(c (n+i)).1.2.2.2.drawn/\Ag (c n).1.2.2.2.drawn (c (n+i)).1.2.2.2.tape (c n).1.2.2.2.tape:=by
  intro n i
  induction i with
  | zero=>exact ⟨qa3 _,λ_ _ _=>rfl⟩
  | succ i ih=>
   rw [show n+(i+1)=(n+i)+1 by omega,cs];obtain ⟨_,h2,h3⟩:=hf (c (n+i));exact ⟨qaa ih.1 h2,λj q hj=>(h3 j q (qa2 hj ih.1)).trans (ih.2 j q hj)⟩
 let τ:Tape:=λj q=>if h: ∃n,j<(c n).1.2.2.2.drawn then (c h.choose).1.2.2.2.tape j q else 0
 have oM: ∀n,Ag (c n).1.2.2.2.drawn τ (c n).1.2.2.2.tape:=by
  intro n j q hj;have h: ∃n,j<(c n).1.2.2.2.drawn:=⟨n,hj⟩;show (if h: ∃n,j<(c n).1.2.2.2.drawn then (c h.choose).1.2.2.2.tape j q else 0)=_;rw [dif_pos h];have hc:=h.choose_spec;generalize h.choose=p at hc;rcases Nat.le_total p n with hle | hle
  ·have:=(Ws p (n - p)).2 j q hc;rw [show p+(n - p)=n by omega] at this;exact this.symm
  ·have:=(Ws n (p - n)).2 j q hj;rw [show n+(p - n)=p by omega] at this;exact this
 obtain ⟨n,hg⟩:=H τ (by
  have:=oM 0;intro j q hj;exact this j q hj)
 obtain ⟨h1,h2,h3,h4,h5⟩:=(c n).2;have hr:=h5 τ (oM n);rw [hlen n] at hr;obtain ⟨e1,e2,e3,e4⟩:=Dh hg 0 _ _ _ hr;refine h2 ?_;rw [e1];exact .done e2 e3 (hQ _ _ _ e4)
end
end Go.Cx
namespace Go.Cx
open Go
variable[ba][aH][bg]
def keep:Frame:={ fn:=0,tmps:= #[.nilFunc],todo:=[.inRegion #[⟨some 0, .alloc 0,0,"", #[],none⟩] [0]],defers:=[],mode:= .run,kind:= .normal }
omit [ba] [aH] [bg] in
theorem Po{v u:Value}(h:keep.finish v=keep.finish u):v=u:=by
 simp only [keep,Frame.finish,Frame.mk.injEq] at h;simpa using h.2.1
def yu(d:Nat)(σ:Tape)(D:Nat)(τ:Tape):Tape:=λj q=>if j<d then σ j q else τ (j - d+D) q
omit [ba] [aH] [bg] in
theorem TH(d:Nat)(σ:Tape)(D:Nat)(τ:Tape):Ag d (yu d σ D τ) σ:=λj q hj=>by unfold yu;rw [if_pos hj]
omit [ba] [aH] [bg] in
theorem Di(w W:World):iy (TW w (yu w.drawn w.tape W.drawn W.tape)) W:=λj q=>by
 show W.tape (W.drawn+j) q=yu w.drawn w.tape W.drawn W.tape (w.drawn+j) q;unfold yu;rw [if_neg (by omega),show w.drawn+j - w.drawn+W.drawn=W.drawn+j by omega]
inductive Path(L:Program)(a0:Frame)(k0:List Frame)(w0:World):Frame->List Frame->World->Prop
 | nil:Path L a0 k0 w0 a0 k0 w0
 | snoc {a:Frame} {k:List Frame} {w:World} {τ:Tape} {a1:Frame} {k1:List Frame} {w1:World} {es:Array Event}:Path L a0 k0 w0 a k w->Ag w.drawn τ w.tape->stepG L true (gJ a (k++[cN])) (TW w τ)= .go (gJ a1 (k1++[cN])) w1 es->
  (∀ch,a1.mode≠ .panicking ch)->Path L a0 k0 w0 a1 k1 w1
structure Ends(L:Program)(a:Frame)(w:World)(v:Value):Prop where
 mode:a.mode= .returning
 defers:a.defers=[]
 kind:a.kind= .normal
 res: ∃fn,L.funcs[a.fn]? =some fn/\ ∃τ,(results fn a.tmps).run L (TW w τ)= .ok v (TW w τ)
omit [ba] [aH] [bg] in
theorem Ends.of{L:Program}{a:Frame}{w:World}{v:Value}(h:a.leaving L w (.returned v)):Ends L a w v:=⟨h.1,h.2.1,h.2.2.1,let ⟨fn,h1,h2⟩:=h.2.2.2;⟨fn,h1,w.tape,h2⟩⟩
omit [ba] [aH] [bg] in
theorem Ends.tw{L:Program}{a:Frame}{w:World}{v:Value}{τ:Tape}(h:Ends L a (TW w τ) v):Ends L a w v:=⟨h.1,h.2,h.3,let ⟨fn,h1,σ,h2⟩:=h.4;⟨fn,h1,σ,h2⟩⟩
section
variable{L C:Program}{Xs:FuncId->Prop}{β:Bj}{bs':List Frame}{w W:World}{Q:Frame->World->Prop}
inductive Pp(L C:Program)(Xs:FuncId->Prop)(Q:Frame->World->Prop)(bs':List Frame)(β:Bj)(a1:Frame)(k1:List Frame)(w1:World)(wN:Goroutine):Prop
 | on {b1:Frame} {SR:List Frame}:cL L C β (a1::k1) (b1::SR)->wN=gJ b1 (SR++bs')->Pp L C Xs Q bs' β a1 k1 w1 wN
 | enter (f:FuncId) {x x':Array Value} {SR:List Frame}:Xs f->aF β x x'->cL L C β k1 SR->a1=Frame.enter L f x .normal->wN=gJ (Frame.enter C f x' .normal) (SR++bs')->Pp L C Xs Q bs' β a1 k1 w1 wN
theorem GI(HP:gC L C)(HF:PF L C Xs){a b:Frame}{k k':List Frame}{m:Bool}(fM:cL L C β (a::k) (b::k'))(hw:cn β w W)
  (h1: ∀τ,Ag w.drawn τ w.tape-> ∃a1 k1 w1 es,stepG L true (gJ a (k++[cN])) (TW w τ)= .go (gJ a1 (k1++[cN])) w1 es/\ ∀ch,a1.mode≠ .panicking ch)
  (h2: ∀τ a1 k1 w1 es,Ag w.drawn τ w.tape->stepG L true (gJ a (k++[cN])) (TW w τ)= .go (gJ a1 (k1++[cN])) w1 es->yd L Q a1 k1 w1)
  {a0:Frame} {k0:List Frame} {w0:World} (hp:Path L a0 k0 w0 a k w):
  ∃bS a1 k1 w1 W1 wN es τ,stepG C m (gJ b (k'++bs')) W= .go wN W1 es/\Pp L C Xs Q bs' bS a1 k1 w1 wN/\cn bS w1 W1/\yd L Q a1 k1 w1/\Path L a0 k0 w0 a1 k1 w1/\
    mB β bS (TW w τ) w1 W W1/\(∀e∈es,tj bS w1 e)/\Ag w.drawn τ w.tape/\(∃tJ,stepG L true (gJ a (k++[cN])) (TW w τ)= .go (gJ a1 (k1++[cN])) w1 tJ)/\(Dw w->Dw w1):=by
 have wE:=TH w.drawn w.tape W.drawn W.tape;obtain ⟨a1,k1,w1,es,e1,hc⟩:=h1 _ wE;have aeF:=h2 _ _ _ _ _ wE e1;have hB: ¬cX (gJ a1 (k1++[cN])):=λ⟨ch,q⟩=>hc ch q;have Ov:bs'≠[]\/k≠[]\/a.mode= .run\/a.defers≠[]:=by
  apply qa7;intro hn;simp only [not_or,Decidable.not_not] at hn;obtain ⟨-, rfl,hm,hd⟩:=hn;have qY:=fM.top;have OW:a.mode= .returning:=by rcases qY.mode with ⟨h,_⟩ | ⟨h,_⟩;exact absurd h hm;exact h
  have hk:=qY.kind.1;obtain ⟨fn,tm,todo,df,md,kd,ro⟩:=a;simp only at OW hd hk;subst OW;subst hd;subst hk;have vN:ro=none:=by
    cases fM with
    | one _ h=>exact h
    | cons _ h=>cases h
  obtain ⟨f,q1,q2⟩:=qY.ym vN;simp only at q1;simp only [stepG,unwind,q1,qb7] at e1;obtain ⟨rX,e1⟩:=tW e1;split at e1
  · simp only [doReturn,qs] at e1;injection e1 with e1
    simp only [Goroutine.mk.injEq] at e1;have:=e1.2.1;simp at this
  · cases e1
  · cases e1
 obtain ⟨bS,W1,wN,Df,e2,ho,zl,hT,sU⟩:=tZ (m':=m) (t:=cN) (r:=[]) (bs':=bs') HP HF fM Ov (hw.tw _ W.tape) (Di w W) e1 hB;have aa6:=hp.snoc wE e1 hc;refine ⟨bS,a1,k1,w1,W1,wN,Df,_,e2, ?_,zl,aeF,aa6,hT,sU,wE,⟨es,e1⟩,(wP HP HF fM (hw.tw _ W.tape) e1 hB).2.2.1⟩;cases ho with
 | back hv hg _ IK=>
  exfalso;simp only [qs,Goroutine.mk.injEq] at hg;have:=hg.2.1;simp at this
 | on fb=>
  generalize Dj:gJ a1 (k1++[cN])=gg at fb;cases fb with
  | on u7=>
    simp only [Goroutine.mk.injEq,List.append_cancel_right_eq] at Dj;obtain ⟨rfl,rfl,_⟩:=Dj;exact .on u7 rfl
  | enter f hX hx hk=>
    simp only [Goroutine.mk.injEq,List.append_cancel_right_eq] at Dj;obtain ⟨rfl,rfl,_⟩:=Dj;exact .enter f hX hx hk rfl rfl
theorem GJ(HP:gC L C)(HF:PF L C Xs){a b:Frame}{k':List Frame}{m:Bool}{t':Frame}{r':List Frame}(fM:cL L C β [a] (b::k'))(hw:cn β w W){v:Value}(hl:Ends L a w v):
  k'=[]/\ ∃bS v' W1 es τ,stepG C m (gJ b (k'++t'::r')) W= .go (gJ (t'.finish v') r') W1 es/\ax bS v v'/\cn bS w W1/\mB β bS (TW w τ) (TW w τ) W W1/\ ∀e∈es,tj bS (TW w τ) e:=by
 have hk:k'=[]:=by
  cases fM with
  | one _ _=>rfl
  | cons _ h=>cases h
 subst hk;refine ⟨rfl, ?_⟩;obtain ⟨m1,m2,m3,fn,m4,τ0,m5⟩:=hl;have e1: ∃es,stepG L true (gJ a ([]++keep::[])) (TW w (yu w.drawn w.tape W.drawn W.tape))= .go (gJ (keep.finish v) []) (TW w (yu w.drawn w.tape W.drawn W.tape)) es:=by
  have cC:(results fn a.tmps).run L (TW w (yu w.drawn w.tape W.drawn W.tape))= .ok v (TW w (yu w.drawn w.tape W.drawn W.tape)):=
   ((uH HP fn fM.top.tmps).tape (hw.tw τ0 W.tape) m5).2.2.2.2 _ (λj q h1 h2=>absurd h2 (qce.2 h1))
  have hR:(results fn a.tmps).runT L (TW w (yu w.drawn w.tape W.drawn W.tape)) #[]=(.ok v (TW w (yu w.drawn w.tape W.drawn W.tape)),((results fn a.tmps).runT L (TW w (yu w.drawn w.tape W.drawn W.tape)) #[]).2):=by
   rw [←cC, ←Sem.runT_fst]
  refine ⟨seen L a.fn ((results fn a.tmps).runT L (TW w (yu w.drawn w.tape W.drawn W.tape)) #[]).2++ #[], ?_⟩;simp only [stepG,m1,unwind,m2,m4];rw [hR];simp only [doReturn,m3,GStep.after,qb7]
 obtain ⟨es,e1⟩:=e1;have hB: ¬cX (gJ (keep.finish v) []):=λ⟨ch,q⟩=>by cases q
 obtain ⟨bS,W1,wN,Df,e2,ho,zl,hT,sU⟩:=tZ (m':=m) (t:=keep) (r:=[]) (bs':=t'::r') HP HF fM (.inl (by simp)) (hw.tw _ W.tape) (Di w W) e1 hB;cases ho with
 | @back u u' t2 r2 hv hg hb IK=>
  injection hb with iT XX
  subst iT;subst XX;simp only [Goroutine.mk.injEq] at hg;have:=Po hg.1;subst this;subst IK;exact ⟨bS,u',W1,Df,_,e2,hv,⟨zl.obj,zl.inj,zl.fn⟩,hT,sU⟩
 | on fb=>
  exfalso;generalize Dj:gJ (keep.finish v) []=gg at fb;cases fb with
  | on u7=>simp only [Goroutine.mk.injEq] at Dj;have:=Dj.2.1;simp at this
  | enter f hX hx hk=>simp only [Goroutine.mk.injEq] at Dj;have:=Dj.2.1;simp at this
end
end Go.Cx
namespace Go.Cx
open Go
variable[ba][aH][bg]
section
variable{L:Program}
def Left(L:Program)(R:Value->World->Prop)(a:Frame)(w:World):Prop:= ∃v,Ends L a w v/\R v w
end
end Go.Cx
namespace Go.Cx
open Go
def yw:Nat->Value->Bool
 | _, .bool _ | _, .int _ _ | _, .string _ | _, .pointer none | _, .slice none _ _ | _, .nilFunc | _, .nilIface=>true
 | n+1, .agg x | n+1, .tuple x=>x.toList.all (yw n)
 | _,_=>false
theorem Dk: ∀(n:Nat) (v:Value),yw n v=true->Plain v:=by
 have key: ∀(n:Nat),(∀v,yw n v=true->Plain v)-> ∀(x:Array Value),x.toList.all (yw n)=true-> ∀(i:Nat) (v:Value),x[i]? =some v->Plain v:=by
  intro n ih x h i v hv;exact ih v (qab.1 h v (by simpa using qb1 hv))
 intro n
 induction n with
 | zero=>
  intro v h;cases v with
  | bool b=>exact .bool b
  | int k n=>exact .int k n
  | string s=>exact .string s
  | nilFunc=>exact .pg
  | nilIface=>exact .iK
  | pointer a=>cases a with
   | none=>exact .oH
   | some a=>cases h
  | slice a l c=>cases a with
   | none=>exact .kg l c
   | some a=>cases h
  | _=>cases h
 | succ n ih=>
  intro v h;cases v with
  | bool b=>exact .bool b
  | int k n=>exact .int k n
  | string s=>exact .string s
  | nilFunc=>exact .pg
  | nilIface=>exact .iK
  | pointer a=>cases a with
   | none=>exact .oH
   | some a=>cases h
  | slice a l c=>cases a with
   | none=>exact .kg l c
   | some a=>cases h
  | agg x=>exact .agg (key n ih x h)
  | tuple x=>exact .tuple (key n ih x h)
  | _=>cases h
@[reducible] def gK(ok th:FuncId->Bool):ba:=⟨λf=>ok f=true,λf=>th f=true⟩
section
variable(ok th:FuncId->Bool)
def wR:Operand->Bool
 | .tmp _=>true
 | .const v=>yw 8 v
 | .global _=>false
 | .func f=>ok f
theorem AV{x:Operand}(h:wR ok x=true): @lz (gK ok th) x:=by
 cases x with
 | tmp t=>trivial
 | const v=>exact Dk 8 v h
 | global g=>cases h
 | func f=>exact h
def eqB(L:Program):Nat->TypeId->Bool
 | 0,_=>false
 | n+1,t=>match L.underlying t with
  | some .bool | some (.int _) | some .string | some (.slice _)=>true
  | some (.struct fs)=> !L.stoodInHeld t&&fs.toList.all λf=>eqB L n f.type
  | _=>false
theorem XY{L:Program}: ∀(n:Nat) (t:TypeId),eqB L n t=true->MH L t:=by
 intro n
 induction n with
 | zero=>intro t h;cases h
 | succ n ih=>
  intro t h;unfold eqB at h;split at h
  ·rename_i e;exact .bool e
  ·rename_i e;exact .int e
  ·rename_i e;exact .string e
  ·rename_i e;exact .slice e
  ·rename_i fs e;simp only [qa4,qbe,qab] at h;exact .struct e h.1 λf hf=>ih _ (h.2 f (by simpa using hf))
  ·cases h
def TJ(L:Program)(t:TypeId):Bool:=match L.underlying t with | some (.int _)=>true | _=>false
theorem La{L:Program}{t:TypeId}(h:TJ L t=true): ∃k,L.underlying t=some (.int k):=by
 unfold TJ at h;split at h
 ·rename_i k e;exact ⟨k,e⟩
 ·cases h
def Pq(L:Program)(s:TypeId)(i:Nat):Bool:=match L.underlying s with
 | some (.struct fs)=>match fs[i]? with
  | some f=>match L.info? f.type with
   | some inf=>inf.size != 0
   | none=>true
  | none=>true
 | _=>true
def zB(L:Program)(t:TypeId):Bool:=match L.info? t with | some i=>(match i.zero with | some v=>yw 8 v | none=>true) | none=>true
theorem Lb{L:Program}{t:TypeId}(h:zB L t=true):SP L t:=by
 intro i v e1 e2;unfold zB at h;rw [e1] at h;simp only [e2] at h;exact Dk 8 v h
def zsB(L:Program)(t:TypeId):Bool:=match L.underlying t with | some (.slice e)=>zB L e | _=>true
theorem Jp{L:Program}{t:TypeId}(h:zsB L t=true):Mx L t:=by
 intro e h1;unfold zsB at h;rw [h1] at h;exact Lb h
def arB(L:Program)(t:TypeId):Bool:=match L.underlying t with | some (.array n _)=>n != 0 | _=>true
theorem XZ{L:Program}{t:TypeId}(h:arB L t=true): ∀n e,L.underlying t=some (.array n e)->n≠0:=λn e q=>by
 unfold arB at h;rw [q] at h;simpa using h
def Ld:Callee->Bool
 | .value f=>wR ok f
 | .invoke r _=>wR ok r
 | .builtin b=>okB b
def GK(L C:Program):Op->Bool
 | .move x | .assign x | .box _ x | .load _ x | .nilCheck x | .unOp _ _ x | .makeInterface _ x | .extract x _ | .panic x=>wR ok x
 | .typeAssert x _ t _=>wR ok x&&zB L t
 | .sliceToArrayPointer t x=>wR ok x&&arB L t
 | .pick c a b=>wR ok c&&wR ok a&&wR ok b
 | .alloc t=>zB L t
 | .build t ps=>(ps.toList.all λp=>wR ok p.2)&&zB L t
 | .buildSlice t _ ps=>(ps.toList.all λp=>wR ok p.2)&&zsB L t
 | .makeSlice t a x=>wR ok a&&wR ok x&&zsB L t
 | .store _ a x | .indexAddr _ a x | .index _ a x=>wR ok a&&wR ok x
 | .binOp op t x y _=>wR ok x&&wR ok y&&(!(op matches .eql | .neq) || (eqB L 8 t&& !L.eqGuardType L.depth t&& !C.eqGuardType C.depth t))
 | .convert s d x=>wR ok x&&TJ L s&&TJ L d
 | .makeFunc (.func f) xs ys=>xs.toList.all (wR ok)&&ys.toList.all (wR ok)&&ok f
 | .slice _ x l h m=>wR ok x&&l.all (wR ok)&&h.all (wR ok)&&m.all (wR ok)
 | .fieldAddr s x i=>wR ok x&&Pq L s i
 | .call c=>Ld ok c.callee&&c.args.toList.all (wR ok)&&c.argTypes.toList.all (zsB L)
 | _=>false
theorem nJ{α:Type}{p:α->Bool}{x:Array α}(h:x.toList.all p=true): ∀y∈x,p y=true:=λy hy=>qab.1 h y (by simpa using hy)
theorem Eu{α:Type}{p:α->Bool}{x:Option α}(h:x.all p=true): ∀y∈x,p y=true:=λy hy=>by cases hy;exact h
theorem Jq{c:Callee}(h:Ld ok c=true): @AO (gK ok th) c:=by
 cases c with
 | value f=>exact AV ok th h
 | invoke r n=>exact AV ok th h
 | builtin b=>exact h
theorem X0{L C:Program}{o:Op}(h:GK ok L C o=true): @I9 (gK ok th) L C o:=by
 have od:=fun {x:Operand} (h:wR ok x=true)=>AV ok th h;cases o with
 | move x=>exact od h
 | assign x=>exact od h
 | box t x=>exact od h
 | load t x=>exact od h
 | nilCheck x=>exact od h
 | unOp a t x=>exact od h
 | sliceToArrayPointer t x=>simp only [GK,qa4] at h;exact ⟨od h.1,XZ h.2⟩
 | makeInterface t x=>exact od h
 | extract x i=>exact od h
 | typeAssert x a b c=>simp only [GK,qa4] at h;exact ⟨od h.1,Lb h.2⟩
 | panic x=>exact od h
 | pick c a b=>simp only [GK,qa4] at h;exact ⟨od h.1.1,od h.1.2,od h.2⟩
 | alloc t=>exact Lb h
 | build t ps=>simp only [GK,qa4] at h;exact ⟨λp hp=>od (nJ h.1 p hp),Lb h.2⟩
 | buildSlice t n ps=>simp only [GK,qa4] at h;exact ⟨λp hp=>od (nJ h.1 p hp),Jp h.2⟩
 | store t a x=>simp only [GK,qa4] at h;exact ⟨od h.1,od h.2⟩
 | makeSlice t a x=>simp only [GK,qa4] at h;exact ⟨od h.1.1,od h.1.2,Jp h.2⟩
 | indexAddr t a x=>simp only [GK,qa4] at h;exact ⟨od h.1,od h.2⟩
 | index t a x=>simp only [GK,qa4] at h;exact ⟨od h.1,od h.2⟩
 | binOp op t x y u=>
  simp only [GK,qa4] at h;refine ⟨od h.1.1,od h.1.2,λcM=> ?_⟩;have h2:=h.2;rcases cM with rfl | rfl <;>
   (simp only [qah,Bool.false_or,qa4,qbe] at h2;exact ⟨XY 8 t h2.1.1,h2.1.2,h2.2⟩)
 | convert s d x=>simp only [GK,qa4] at h;exact ⟨od h.1.1,La h.1.2,La h.2⟩
 | makeFunc f xs ys=>
  cases f with
  | func f=>simp only [GK,qa4] at h;exact ⟨λx hx=>od (nJ h.1.1 x hx),λx hx=>od (nJ h.1.2 x hx),h.2⟩
  | _=>cases h
 | slice t x l hh m=>simp only [GK,qa4] at h;exact ⟨od h.1.1.1,λy hy=>od (Eu h.1.1.2 y hy),λy hy=>od (Eu h.1.2 y hy),λy hy=>od (Eu h.2 y hy)⟩
 | fieldAddr s x i=>
  simp only [GK,qa4] at h;refine ⟨od h.1,λfs f inf e1 e2 e3=> ?_⟩;have h2:=h.2;unfold Pq at h2;rw [e1] at h2;simp only [e2,e3] at h2;simpa using h2
 | call c=>simp only [GK,qa4] at h;exact ⟨Jq ok th h.1.1,λx hx=>od (nJ h.1.2 x hx),λt ht=>Jp (nJ h.2 t ht)⟩
 | _=>cases h
def qZ(L C:Program):Code->Bool
 | .skip | .exit _ | .label _ | .ret=>true
 | .region _ os _=>os.toList.all λo=>GK ok L C o.op
 | .seq a b=>qZ L C a&&qZ L C b
 | .cond c a b=>wR ok c&&qZ L C a&&qZ L C b
 | .block _ a | .loop a=>qZ L C a
 | .rangeFunc f _ a b=>wR ok f&&qZ L C a&&qZ L C b
 | _=>false
theorem AW{L C:Program}: ∀(c:Code),qZ ok L C c=true-> @cG (gK ok th) L C c:=by
 intro c
 induction c with
 | skip=>intro _;exact @cG.skip (gK ok th) L C
 | exit id=>intro _;exact @cG.exit (gK ok th) L C id
 | label l=>intro _;exact @cG.label (gK ok th) L C l
 | ret=>intro _;exact @cG.ret (gK ok th) L C
 | region id os dr=>intro h;exact @cG.region (gK ok th) L C id os dr λo ho=>X0 ok th (nJ h o ho)
 | seq a b ia ib=>intro h;simp only [qZ,qa4] at h;exact @cG.seq (gK ok th) L C a b (ia h.1) (ib h.2)
 | cond c a b ia ib=>intro h;simp only [qZ,qa4] at h;exact @cG.cond (gK ok th) L C c a b (AV ok th h.1.1) (ia h.1.2) (ib h.2)
 | block id a ia=>intro h;exact @cG.block (gK ok th) L C id a (ia h)
 | loop a ia=>intro h;exact @cG.loop (gK ok th) L C a (ia h)
 | rangeFunc f ps a b ia ib=>intro h;simp only [qZ,qa4] at h;exact @cG.rangeFunc (gK ok th) L C f ps a b (AV ok th h.1.1) (ia h.1.2) (ib h.2)
 | _=>intro h;cases h
end
end Go.Cx
namespace Go.Cx
open Go
theorem Ev{info:TypeId->Option TypeInfo}{d:TypeDesc}{i:TypeInfo}(h:Made.reckon info d=some i):i.methods= #[]/\ ∀s n,i.desc≠ .named s n:=by
 have fb: ∀fs,Made.reckonStruct info fs=some i->i.methods= #[]/\ ∀s n,i.desc≠ .named s n:=by
  intro fs h;unfold Made.reckonStruct at h;simp only [bind,qam] at h;obtain ⟨r,_,h⟩:=h;split at h
  all_goals (simp only [pure,qae] at h;subst h;exact ⟨rfl,λs n q=>by cases q⟩)
 unfold Made.reckon at h;cases d with
 | struct fs=>exact fb fs h
 | pointer e=>
  simp only [bind,qam] at h;obtain ⟨j,_,h⟩:=h;split at h
  ·cases h
  ·split at h
   ·cases h
   ·simp only [qam,pure,qae] at h;obtain ⟨_,_,h⟩:=h;subst h;exact ⟨rfl,λs n q=>by cases q⟩
  ·simp only [qam,pure,qae] at h;obtain ⟨_,_,h⟩:=h;subst h;exact ⟨rfl,λs n q=>by cases q⟩
 | slice e=>
  simp only [bind,qam,pure,qae] at h;obtain ⟨_,_,_,_,h⟩:=h;subst h;exact ⟨rfl,λs n q=>by cases q⟩
 | map k e=>
  simp only [bind,qam,pure,qae] at h;obtain ⟨_,_,_,_,_,_,_,_,h⟩:=h;subst h;exact ⟨rfl,λs n q=>by cases q⟩
 | chan dir e=>
  simp only [bind,qam,pure,qae] at h;obtain ⟨_,_,_,_,h⟩:=h;subst h;exact ⟨rfl,λs n q=>by cases q⟩
 | func ps rs v=>
  simp only [bind,qam,pure,qae] at h;obtain ⟨_,_,h⟩:=h;subst h;exact ⟨rfl,λs n q=>by cases q⟩
 | array n e=>
  simp only [bind,qam,pure,qae] at h;obtain ⟨_,_,_,_,h⟩:=h;subst h;exact ⟨rfl,λs n q=>by cases q⟩
 | _=>cases h
theorem Ew{T:Tables}{n:Nat}{t:TypeId}{i:TypeInfo}(ht: ¬t<T.types.size)(h:Made.infoAt T n t=some i):i.methods= #[]/\ ∀s n,i.desc≠ .named s n:=by
 cases n with
 | zero=>cases h
 | succ n=>
  unfold Made.infoAt at h;rw [if_neg ht] at h;simp only [qam] at h;obtain ⟨d,_,h⟩:=h;exact Ev h
theorem GL{T:Tables}{R:TypeInfo->Prop}(hm: ∀i,i.methods= #[]->(∀s n,i.desc≠ .named s n)->R i)(hT: ∀i∈T.types,R i){t:TypeId}{i:TypeInfo}(h:T.info? t=some i):R i:=by
 unfold Tables.info? at h;split at h
 ·exact hT i (qb1 h)
 ·rename_i ht;obtain ⟨h1,h2⟩:=Ew ht h;exact hm i h1 h2
end Go.Cx
namespace Go.Cx
open Go
def blank:Func:={ name:= "",origin:= "",params:= #[],resultTypes:= #[],nfree:=0,ntmps:=0,results:= #[],body:=none,norace:=false,tmpNames:= #[] }
section
variable{p q:Program}(hT:p.toTables=q.toTables)
include hT
theorem qt(t:TypeId):p.info? t=q.info? t:=by rw [hT]
theorem AX(t:TypeId):p.underlying t=q.underlying t:=by unfold Program.underlying;simp only [qt hT]
theorem ua(t:TypeId):p.cellsOf t=q.cellsOf t:=by unfold Program.cellsOf;rw [qt hT]
theorem wS(t:TypeId):p.bytesOf t=q.bytesOf t:=by unfold Program.bytesOf;rw [qt hT]
theorem wT:p.depth=q.depth:=by unfold Program.depth;rw [hT]
theorem Dl: ∀(d:Nat) (t:TypeId) (o:Nat),byteOfCell p d t o=byteOfCell q d t o:=by
 intro d
 induction d with
 | zero=>intro t o;rfl
 | succ d ih=>intro t o;unfold byteOfCell;simp only [AX hT,ua hT,wS hT,ih]
theorem MU: ∀(d:Nat) (t:TypeId) (o:Nat),cellOfByte p d t o=cellOfByte q d t o:=by
 intro d
 induction d with
 | zero=>intro t o;rfl
 | succ d ih=>intro t o;unfold cellOfByte;simp only [AX hT,ua hT,wS hT,ih]
theorem X2(d:Nat)(e:TypeId)(n o:Nat)(k:Int):cellAtBytes p d e n o k=cellAtBytes q d e n o k:=by
 unfold cellAtBytes;simp only [ua hT,wS hT,Dl hT,MU hT]
theorem Pr: ∀(d:Nat) (a b:TypeId),p.alikeButTags d a b=q.alikeButTags d a b:=by
 intro d
 induction d with
 | zero=>intro a b;rfl
 | succ d ih=>intro a b;unfold Program.alikeButTags;simp only [qt hT,ih]
theorem TK(t:TypeId):p.stoodInHeld t=q.stoodInHeld t:=by
 unfold Program.stoodInHeld Program.stoodInAs Program.underlyingId;simp only [AX hT,qt hT,Pr hT,wT hT];rw [hT]
end
variable[aH][bg]
section
variable{L C:Program}(ok th:FuncId->Bool)
def tyB(i:TypeInfo):Bool:=(match i.desc with | .named s _=>s != "sync.copyChecker" | _=>true)&&i.methods.toList.all λm=>m.path.toList.isEmpty&&match m.func with | some (f,_)=>ok f | none=>true
omit [aH] [bg] in
theorem Pu{i:TypeInfo}(h:tyB ok i=true):(∀n,i.desc≠ .named "sync.copyChecker" n)/\ ∀m∈i.methods,m.path.toList=[]/\ ∀f b,m.func=some (f,b)->ok f=true:=by
 simp only [tyB,qa4] at h;refine ⟨λn q=> ?_,λm hm=> ?_⟩
 ·have h1:=h.1;rw [q] at h1;simp at h1
 ·have h2:=nJ h.2 m hm;simp only [qa4,List.isEmpty_iff] at h2;refine ⟨h2.1,λf b q=> ?_⟩;have h3:=h2.2;rw [q] at h3;exact h3
omit [aH] [bg] in
theorem Jr [ba]{f:FuncId}(hf:L.funcs[f]? =some blank)(h1:(Extern.findNext blank).isNone=true)(h2:(Extern.find blank).isNone=true)(args:Array Value):aR L (callFunc f args):=by
 unfold callFunc;refine aR.prog ?_;rw [hf];have e1:Extern.findNext blank=none:=by simpa using h1
 have e2:Extern.find blank=none:=by simpa using h2
 have e3:(blank.name== "runtime.NumGoroutine")=false:=rfl;have e4:blank.body.isNone=true:=rfl;simp only [e1,e2,e3,e4,if_true,qa6,if_false];refine aR.bind λ_=> ?_;rw [if_neg (by decide)];exact aR.halt
omit [aH] [bg] in
theorem Lf(hT:L.toTables=C.toTables)(hg:C.globals.size=0)(hty:C.types.toList.all (tyB ok)=true)
  (hf: ∀(f:FuncId) (fn:Func),L.funcs[f]? =some fn->fn.body.isNone=false->th f=true/\(fn.name== "runtime.NumGoroutine")=false/\ ∃jN:Func,C.funcs[f]? =some jN/\jN.body.isNone=false/\(jN.name== "runtime.NumGoroutine")=false)
  (hb: ∀(f:FuncId) (fn:Func),L.funcs[f]? =some fn->fn.body.isNone=true->fn=blank) (h1:(Extern.findNext blank).isNone=true) (h2:(Extern.find blank).isNone=true): @gC (gK ok th) L C:=
 letI:=gK ok th
 {info:=λt=>(qt hT t).symm
  und:=λt=>(AX hT t).symm
  Ot:=by rw [hT]
  fns:=hf
  gl:=by rw [hT];exact hg
  sih:=λt=>(TK hT t).symm
  cc:=λt i n h=>by
   have h:C.info? t=some i:=(qt hT t).symm.trans h;exact GL (R:=λi=> ∀n,i.desc≠ .named "sync.copyChecker" n) (λi _ h n=>h _ n) (λi hi=>(Pu ok (nJ hty i hi)).1) h n
  cab:=λe n o k=>by rw [X2 hT,wT hT,ua hT]
  bof:=λe off=>⟨(ua hT e).symm,by rw [Dl hT,wT hT],(wS hT e).symm⟩
  mp:=λt i m h hm=>by
   have h:C.info? t=some i:=(qt hT t).symm.trans h;exact GL (R:=λi=> ∀m∈i.methods,m.path.toList=[]/\ ∀f b,m.func=some (f,b)->ok f=true) (λi h _ m hm=>by rw [h] at hm;simp at hm) (λi hi=>(Pu ok (nJ hty i hi)).2) h m hm
  nob:=λf fn h hn args=>by
   have:=hb f fn h hn;subst this;exact Jr h h1 h2 args }
end
end Go.Cx
namespace Go.Cx
open Go
def Pt(C:Program)(X:FuncId)(fX:Func)(keep:FuncId->Bool):Program:={ C with funcs:=C.funcs.mapIdx λi fn=>if i=X then fX else if keep i then fn else blank }
theorem ub(C:Program)(X:FuncId)(fX:Func)(keep:FuncId->Bool)(f:FuncId):(Pt C X fX keep).funcs[f]? =(C.funcs[f]?).map λfn=>if f=X then fX else if keep f then fn else blank:=by
 show (C.funcs.mapIdx _)[f]? =_;rw [Array.getElem?_mapIdx]
def lC(ok:FuncId->Bool)(L C:Program)(fn:Func):Bool:=fn.name != "runtime.NumGoroutine"&&match fn.body with | some c=>qZ ok L C c | none=>false
theorem kl{ok:FuncId->Bool}{L C:Program}{fn:Func}(h:lC ok L C fn=true):(fn.name== "runtime.NumGoroutine")=false/\ ∃c,fn.body=some c/\qZ ok L C c=true:=by
 simp only [lC,qa4,bne_iff_ne] at h;refine ⟨by simpa using h.1, ?_⟩;have h2:=h.2;split at h2
 ·rename_i c e;exact ⟨c,e,h2⟩
 ·cases h2
@[reducible] def vP(ok th:FuncId->Bool)(L C:Program):aH:=⟨λc=> @cG (gK ok th) L C c⟩
section
variable[bg]{C:Program}{X:FuncId}{fX gX:Func}{keep ok:FuncId->Bool}
def oc(X:FuncId)(keep:FuncId->Bool)(n:Nat)(f:FuncId):Bool:=(f==X || keep f)&&decide (f<n)
omit [bg] in
theorem rb{D:Program}(hk:(List.range C.funcs.size).all (λf=> !(keep f) || f==X || match C.funcs[f]? with | some fn=>lC ok (Pt C X fX keep) D fn | none=>true)=true){f:FuncId}{fn:Func}(hf:C.funcs[f]? =some fn)(yn:keep f=true)(hX:f≠X):lC ok (Pt C X fX keep) D fn=true:=by
 have bG:=(qa1.1 hf).1;have:=qab.1 hk f (by simpa using bG);rw [hf,yn] at this;simpa [hX] using this
omit [bg] in
theorem X3(hg:C.globals.size=0)(hty:C.types.toList.all (tyB ok)=true)(h1:(Extern.findNext blank).isNone=true)(h2:(Extern.find blank).isNone=true)
  (hX:lC ok (Pt C X fX keep) (Pt C X fX keep) fX=true) (hgX:C.funcs[X]? =some gX) (hgb:gX.body.isNone=false/\(gX.name== "runtime.NumGoroutine")=false)
  (hk:(List.range C.funcs.size).all (λf=> !(keep f) || f==X || match C.funcs[f]? with | some fn=>lC ok (Pt C X fX keep) C fn | none=>true)=true):
  @gC (gK ok (oc X keep C.funcs.size)) (Pt C X fX keep) C/\ @PF (gK ok (oc X keep C.funcs.size)) (vP ok (oc X keep C.funcs.size) (Pt C X fX keep) C) (Pt C X fX keep) C (λf=>f=X):=by
 letI:aH:=⟨λ_=>True⟩
 constructor
 ·refine Lf ok _ rfl hg hty ?_ ?_ h1 h2
  ·intro f fn hf hb;rw [ub] at hf;cases hc:C.funcs[f]? with
   | none=>rw [hc] at hf;cases hf
   | some fc=>
    have bG:=(qa1.1 hc).1;rw [hc,qac,qae] at hf;by_cases Cy:f=X
    ·subst Cy;rw [if_pos rfl] at hf;subst hf;obtain ⟨k1,c,k2,k3⟩:=kl hX;exact ⟨by simp [oc,bG],k1,gX,(by rw [←hc];exact hgX),hgb⟩
    ·rw [if_neg Cy] at hf;cases Cp:keep f with
     | false=>rw [Cp] at hf;simp at hf;subst hf;cases hb
     | true=>
      rw [Cp,if_pos rfl] at hf;subst hf;obtain ⟨k1,c,k2,k3⟩:=kl (rb hk hc Cp Cy);exact ⟨by simp [oc,Cp,bG],k1,fc,rfl,hb,k1⟩
  ·intro f fn hf hb;rw [ub] at hf;cases hc:C.funcs[f]? with
   | none=>rw [hc] at hf;cases hf
   | some fc=>
    rw [hc,qac,qae] at hf;by_cases Cy:f=X
    ·rw [if_pos Cy] at hf;subst hf;obtain ⟨k1,c,k2,k3⟩:=kl hX;rw [k2] at hb;cases hb
    ·rw [if_neg Cy] at hf;cases Cp:keep f with
     | false=>rw [Cp] at hf;simpa using hf.symm
     | true=>
      rw [Cp,if_pos rfl] at hf;subst hf;obtain ⟨k1,c,k2,k3⟩:=kl (rb hk hc Cp Cy);rw [k2] at hb;cases hb
 ·refine @PF.mk (gK ok (oc X keep C.funcs.size)) (vP ok (oc X keep C.funcs.size) (Pt C X fX keep) C) _ _ _ ?_ rfl ?_
  ·intro f tk qm Ey;have GM:oc X keep C.funcs.size f=true:=qm;simp only [oc,qa4,qbz,beq_iff_eq,decide_eq_true_eq] at GM;obtain ⟨h | Cp,bG⟩:=GM
   ·exact absurd h Ey
   ·have hc:=Array.getElem?_eq_getElem bG;obtain ⟨k1,c,k2,k3⟩:=kl (rb hk hc Cp Ey);exact ⟨_,c,by rw [ub,hc,qac,if_neg Ey,if_pos Cp],hc,k2,AW ok _ c k3⟩
  ·intro c;exact Iff.rfl
omit [bg] in
theorem TL(hg:C.globals.size=0)(hty:C.types.toList.all (tyB ok)=true)(h1:(Extern.findNext blank).isNone=true)(h2:(Extern.find blank).isNone=true)
  (hX:lC ok (Pt C X fX keep) (Pt C X fX keep) fX=true) (hgX:X<C.funcs.size)
  (hk:(List.range C.funcs.size).all (λf=> !(keep f) || f==X || match C.funcs[f]? with | some fn=>lC ok (Pt C X fX keep) (Pt C X fX keep) fn | none=>true)=true):
  @gC (gK ok (oc X keep C.funcs.size)) (Pt C X fX keep) (Pt C X fX keep)/\ @PF (gK ok (oc X keep C.funcs.size)) (vP ok (oc X keep C.funcs.size) (Pt C X fX keep) (Pt C X fX keep)) (Pt C X fX keep) (Pt C X fX keep) (λ_=>False):=by
 letI:aH:=⟨λ_=>True⟩;have AY: ∀(f:FuncId) (fn:Func),(Pt C X fX keep).funcs[f]? =some fn->f<C.funcs.size/\((f=X/\fn=fX)\/(f≠X/\keep f=true/\C.funcs[f]? =some fn)\/fn=blank):=by
  intro f fn hf;rw [ub] at hf;cases hc:C.funcs[f]? with
  | none=>rw [hc] at hf;cases hf
  | some fc=>
   have bG:=(qa1.1 hc).1;rw [hc,qac,qae] at hf;by_cases Cy:f=X
   ·rw [if_pos Cy] at hf;exact ⟨bG, .inl ⟨Cy,hf.symm⟩⟩
   ·rw [if_neg Cy] at hf;cases Cp:keep f with
    | false=>rw [Cp] at hf;exact ⟨bG, .inr (.inr (by simpa using hf.symm))⟩
    | true=>rw [Cp,if_pos rfl] at hf;exact ⟨bG, .inr (.inl ⟨Cy,rfl,hf▸rfl⟩)⟩
 constructor
 ·refine Lf ok _ rfl hg hty ?_ ?_ h1 h2
  ·intro f fn hf hb;obtain ⟨bG,⟨rfl,rfl⟩ | ⟨Cy,Cp,hc⟩ | rfl⟩:=AY f fn hf
   ·obtain ⟨k1,c,k2,k3⟩:=kl hX;exact ⟨by simp [oc,bG],k1,fn,hf,hb,k1⟩
   ·obtain ⟨k1,c,k2,k3⟩:=kl (rb hk hc Cp Cy);exact ⟨by simp [oc,Cp,bG],k1,fn,hf,hb,k1⟩
   ·cases hb
  ·intro f fn hf hb;obtain ⟨bG,⟨rfl,rfl⟩ | ⟨Cy,Cp,hc⟩ | rfl⟩:=AY f fn hf
   ·obtain ⟨k1,c,k2,k3⟩:=kl hX;rw [k2] at hb;cases hb
   ·obtain ⟨k1,c,k2,k3⟩:=kl (rb hk hc Cp Cy);rw [k2] at hb;cases hb
   ·rfl
 ·refine @PF.mk (gK ok (oc X keep C.funcs.size)) (vP ok (oc X keep C.funcs.size) (Pt C X fX keep) (Pt C X fX keep)) _ _ _ ?_ rfl ?_
  ·intro f tk qm _;have GM:oc X keep C.funcs.size f=true:=qm;simp only [oc,qa4,qbz,beq_iff_eq,decide_eq_true_eq] at GM;obtain ⟨h,bG⟩:=GM;have hc:=Array.getElem?_eq_getElem bG;by_cases Cy:f=X
   ·obtain ⟨k1,c,k2,k3⟩:=kl hX;have e:(Pt C X fX keep).funcs[f]? =some fX:=by rw [ub,hc,qac,if_pos Cy]
    exact ⟨fX,c,e,e,k2,AW ok _ c k3⟩
   ·have Cp:keep f=true:=by rcases h with h | h;exact absurd h Cy;exact h
    obtain ⟨k1,c,k2,k3⟩:=kl (rb hk hc Cp Cy);have e:(Pt C X fX keep).funcs[f]? =some C.funcs[f]:=by rw [ub,hc,qac,if_neg Cy,if_pos Cp]
    exact ⟨_,c,e,e,k2,AW ok _ c k3⟩
  ·intro c;exact Iff.rfl
end
end Go.Cx
namespace Go.Cx
open Go
variable[ba][aH][bg]
end Go.Cx
namespace Go.Cx
open Go
variable[ba][aH][bg]
theorem cn.other{β:Bj}{w W W':World}(h:cn β w W)(hs: ∀a b,β a b->W'.heap[b]? =W.heap[b]?):cn β w W':=
 ⟨λa b hb=>let ⟨o,o',h1,h2,h3⟩:=h.obj a b hb;⟨o,o',h1,(hs a b hb).trans h2,h3⟩,h.inj,h.fn⟩
end Go.Cx
namespace Go.Cx
open Go
def mG(S:Nat->Prop):Bj:=λa b=>a=b/\S a
end Go.Cx
namespace Go.Cx
open Go Go.Conc
inductive Rk where
 | leaf
 | node (f:World->Rk)
def Rk.lt(x y:Rk):Prop:= ∃f i,y= .node f/\x=f i
theorem Rk.acc(x:Rk):Acc Rk.lt x:=by
 induction x with
 | leaf=>exact ⟨_,λy ⟨f,i,h,_⟩=>by cases h⟩
 | node f ih=>
  refine ⟨_, ?_⟩;rintro y ⟨g,i,h1,rfl⟩;cases h1;exact ih i
def Ga(n:Nat)(x y:Nat->Rk):Prop:= ∃i,i<n/\Rk.lt (x i) (y i)/\ ∀k,k<n->k≠i->x k=y k
theorem Ga.acc: ∀(n:Nat) (y:Nat->Rk),Acc (Ga n) y
 | 0,y=>⟨_,λx ⟨i,hi,_⟩=>absurd hi (qap _)⟩
 | n+1,y=>by
  have key: ∀(z:Rk), ∀(y:Nat->Rk),y n=z->Acc (Ga (n+1)) y:=by
   intro z
   induction z.acc with
   | intro z _ ih1=>
    intro y hy;have hA:=Ga.acc n y
    induction hA with
    | intro y _ ih2=>
     refine ⟨_, ?_⟩;rintro x ⟨i,hi,h1,h2⟩;rcases Nat.lt_or_ge i n with bG | hge
     ·have e:x n=y n:=h2 n (Nat.lt_succ_self n) (by omega);exact ih2 x ⟨i,bG,h1,λk hk hn=>h2 k (Nat.lt_succ_of_lt hk) hn⟩ (e.trans hy)
     ·obtain rfl:i=n:=by omega
      exact ih1 (x i) (hy▸h1) x rfl
  exact key _ y rfl
theorem Ga.wf(n:Nat):WellFounded (Ga n):=⟨Ga.acc n⟩
structure Ry(Iv:World->Prop)(K:Nat->Prop)(w w₁:World):Prop where
 blk: ∀b,K b->w₁.heap[b]? =w.heap[b]?
 size:w.heap.size<=w₁.heap.size
 iv:Iv w₁
theorem Ry.trans{Iv:World->Prop}{K:Nat->Prop}{a b c:World}(h:Ry Iv K a b)(k:Ry Iv K b c):Ry Iv K a c:=
 ⟨λx hx=>(k.blk x hx).trans (h.blk x hx),qaa h.size k.size,k.iv⟩
def TN(S Ro:Nat->Prop)(e:Event):Prop:=
 (e.sync=false/\((∃ad,e.loc= .cell ad/\(S ad.block\/(Ro ad.block/\e.write=false)))\/(∃r,e.loc= .obj r/\S r)))\/e=⟨.mark .noRoom,false,true⟩
def nw(S:Nat->Prop)(w w':World):Nat->Prop:=λb=>S b\/(w.heap.size<=b/\b<w'.heap.size)
structure Ow(S Ro:Nat->Prop)(w w':World)(es:Array Event):Prop where
 tape:w'.tape=w.tape
 os:w'.os=w.os
 output:w'.output=w.output
 size:w.heap.size<=w'.heap.size
 blk: ∀b,b<w.heap.size-> ¬S b->w'.heap[b]? =w.heap[b]?
 ev: ∀e∈es,TN (nw S w w') Ro e
theorem Ow.still(S Ro:Nat->Prop)(w:World):Ow S Ro w w #[]:=⟨rfl,rfl,rfl,qa3 _,λ_ _ _=>rfl,λe he=>by simp at he⟩
section
variable(P:Program)(main:Bool)(Iv:World->Prop)(Ro:Nat->Prop)(Stop:(Nat->Prop)->Goroutine->World->Prop)
def Wk:Rk->(Nat->Prop)->Goroutine->World->Prop
 | .leaf,S,g,w=> ∀w₁,Ry Iv (λb=>S b\/Ro b) w w₁->Stop S g w₁
 | .node f,S,g,w=> ∀w₁,Ry Iv (λb=>S b\/Ro b) w w₁->Stop S g w₁\/
  (g.status= .running/\ ∃g' w' es,stepG P main g w₁= .go g' w' es/\Ow S Ro w₁ w' es/\Wk (f w₁) (nw S w₁ w') g' w')
def en(S:Nat->Prop)(g:Goroutine)(w:World):Prop:= ∃r,Wk P main Iv Ro Stop r S g w
end
section
variable{P:Program}{main:Bool}{Iv:World->Prop}{Ro:Nat->Prop}{Stop:(Nat->Prop)->Goroutine->World->Prop}{S:Nat->Prop}{g:Goroutine}{w w₁:World}
theorem Wk.rely{r:Rk}(h:Wk P main Iv Ro Stop r S g w)(hr:Ry Iv (λb=>S b\/Ro b) w w₁):Wk P main Iv Ro Stop r S g w₁:=by
 cases r with
 | leaf=>exact λX4 X5=>h X4 (hr.trans X5)
 | node f=>exact λX4 X5=>h X4 (hr.trans X5)
theorem Ry.refl{K:Nat->Prop}(hi:Iv w):Ry Iv K w w:=⟨λ_ _=>rfl,qa3 _,hi⟩
theorem Wk.cases{r:Rk}(h:Wk P main Iv Ro Stop r S g w)(hi:Iv w):Stop S g w\/(g.status= .running/\ ∃g' w' es r',stepG P main g w= .go g' w' es/\Ow S Ro w w' es/\Rk.lt r' r/\Wk P main Iv Ro Stop r' (nw S w w') g' w'):=by
 cases r with
 | leaf=>exact .inl (h w (.refl hi))
 | node f=>
  rcases h w (.refl hi) with h | ⟨hs,g',w',es,h1,h2,h3⟩
  ·exact .inl h
  ·exact .inr ⟨hs,g',w',es,_,h1,h2,⟨f,w,rfl,rfl⟩,h3⟩
theorem en.rely(h:en P main Iv Ro Stop S g w)(hr:Ry Iv (λb=>S b\/Ro b) w w₁):en P main Iv Ro Stop S g w₁:=let ⟨r,h⟩:=h;⟨r,h.rely hr⟩
open Classical in
theorem en.mk(h: ∀w₁,Ry Iv (λb=>S b\/Ro b) w w₁->Stop S g w₁\/(g.status= .running/\ ∃g' w' es,stepG P main g w₁= .go g' w' es/\Ow S Ro w₁ w' es/\en P main Iv Ro Stop (nw S w₁ w') g' w')):en P main Iv Ro Stop S g w:=by
 have h': ∀w₁, ∃r:Rk,Ry Iv (λb=>S b\/Ro b) w w₁->Stop S g w₁\/(g.status= .running/\ ∃g' w' es,stepG P main g w₁= .go g' w' es/\Ow S Ro w₁ w' es/\Wk P main Iv Ro Stop r (nw S w₁ w') g' w'):=λw₁=>by
  by_cases hw:Ry Iv (λb=>S b\/Ro b) w w₁
  ·rcases h w₁ hw with h1 | ⟨hs,g',w',es,h1,h2,r',h3⟩
   ·exact ⟨.leaf,λ_=> .inl h1⟩
   ·exact ⟨r',λ_=> .inr ⟨hs,g',w',es,h1,h2,h3⟩⟩
  ·exact ⟨.leaf,λq=>absurd q hw⟩
 exact ⟨.node λw₁=>(h' w₁).choose,λw₁ hw=>(h' w₁).choose_spec hw⟩
theorem en.cases(h:en P main Iv Ro Stop S g w)(hi:Iv w):Stop S g w\/(g.status= .running/\ ∃g' w' es,stepG P main g w= .go g' w' es/\Ow S Ro w w' es/\en P main Iv Ro Stop (nw S w w') g' w'):=by
 obtain ⟨r,h⟩:=h;rcases h.cases hi with h | ⟨hs,g',w',es,r',h1,h2,_,h3⟩
 ·exact .inl h
 ·exact .inr ⟨hs,g',w',es,h1,h2,r',h3⟩
theorem en.now(h: ∀w₁,Ry Iv (λb=>S b\/Ro b) w w₁->en P main Iv Ro Stop S g w₁):en P main Iv Ro Stop S g w:=en.mk λw₁ hw=>(h w₁ hw).cases hw.iv
theorem en.stop(h: ∀w₁,Ry Iv (λb=>S b\/Ro b) w w₁->Stop S g w₁):en P main Iv Ro Stop S g w:=⟨.leaf,h⟩
theorem en.step(hs:g.status= .running)(h: ∀w₁,Ry Iv (λb=>S b\/Ro b) w w₁-> ∃g' w' es,stepG P main g w₁= .go g' w' es/\Ow S Ro w₁ w' es/\en P main Iv Ro Stop (nw S w₁ w') g' w'):en P main Iv Ro Stop S g w:=en.mk λw₁ hw=> .inr ⟨hs,h w₁ hw⟩
theorem en.bind{GN:(Nat->Prop)->Goroutine->World->Prop}(h:en P main Iv Ro Stop S g w)(k: ∀S g w,Iv w->Stop S g w->en P main Iv Ro GN S g w):en P main Iv Ro GN S g w:=by
 obtain ⟨r,h⟩:=h
 induction r generalizing S g w with
 | leaf=>exact en.now λw₁ hw=>k _ _ _ hw.iv (h w₁ hw)
 | node f ih=>
  refine en.mk λw₁ hw=> ?_;rcases h w₁ hw with h | ⟨hs,g',w',es,h1,h2,h3⟩
  ·exact (k _ _ _ hw.iv h).cases hw.iv
  ·exact .inr ⟨hs,g',w',es,h1,h2,ih _ h3⟩
end
end Go.Cx
namespace Go.Cx
open Go Go.Conc
variable[ba][aH][bg]
def SO(β:Bj)(w:World)(b:Nat):Prop:=(∃a,β a b)/\ ¬gB β w b
section
variable{β bS:Bj}{w w1 W W1:World}
omit [ba] [aH] [bg] in
theorem mB.re(hT:mB β bS w w1 W W1)(b:Nat):gB bS w1 b↔gB β w b:=by
 constructor
 ·intro h;have h':=h;obtain ⟨a,c,e,h1,h2,h3⟩:=h;rcases hT.fresh a b h1 with q | ⟨_,_,_,q⟩
  ·exact qa7 λhn=>hT.unlock b ⟨a,q⟩ hn h'
  ·exact (q h').elim
 ·exact hT.C7 b
theorem mB.so(hw:cn β w W)(hT:mB β bS w w1 W W1)(b:Nat):SO bS w1 b↔nw (SO β w) W W1 b:=by
 unfold SO nw;rw [hT.re];show _↔((∃a,β a b)/\ ¬gB β w b)\/_
 constructor
 ·rintro ⟨⟨a,h1⟩,h2⟩;rcases hT.fresh a b h1 with q | ⟨_,q1,q2,_⟩
  ·exact .inl ⟨⟨a,q⟩,h2⟩
  ·exact .inr ⟨q1,q2⟩
 ·rintro (⟨⟨a,h1⟩,h2⟩ | ⟨h1,h2⟩)
  ·exact ⟨⟨a,hT.le _ _ h1⟩,h2⟩
  ·refine ⟨hT.all b h1 h2, ?_⟩;rintro ⟨a,c,e,q1,q2,q3⟩;exact absurd (hw.Oq q1) (qce.2 h1)
omit [ba] [aH] [bg] in
theorem Pv{S S':Nat->Prop}(h: ∀b,S b↔S' b){b:Nat}:nw S W W1 b↔nw S' W W1 b:=by
 unfold nw;rw [h b]
theorem mB.ow{S Ro:Nat->Prop}(hw:cn β w W)(hT:mB β bS w w1 W W1)(hS: ∀b,S b↔SO β w b)(hR: ∀b,gB β w b->Ro b){es:Array Event}(he: ∀e∈es,tj bS w1 e):Ow S Ro W W1 es where
 tape:=hT.tape
 os:=hT.os
 output:=hT.output
 size:=hT.size
 blk:=λb hb hn=>by
  by_cases h: ∃a,β a b
  ·by_cases hl:gB β w b
   ·exact hT.lock b hl
   ·exact absurd ((hS b).2 ⟨h,hl⟩) hn
  ·exact hT.stay b hb λa ha=>h ⟨a,ha⟩
 ev:=λe q=>by
  have hso: ∀b,SO bS w1 b->nw S W W1 b:=λb hb=>by
   rcases (hT.so hw b).1 hb with h | h
   ·exact .inl ((hS b).2 h)
   ·exact .inr h
  rcases he e q with ⟨h0,⟨ad,a,h1,h2,h3⟩ | ⟨r,a,h1,h2,h3⟩⟩ | h
  ·refine .inl ⟨h0, .inl ⟨ad,h1, ?_⟩⟩;by_cases hl:gB bS w1 ad.block
   ·refine .inr ⟨hR _ ((hT.re _).1 hl), ?_⟩;cases Wu:e.write with
    | false=>rfl
    | true=>exact absurd hl (h3 Wu)
   ·exact .inl (hso _ ⟨⟨a,h2⟩,hl⟩)
  ·exact .inl ⟨h0, .inr ⟨r,h1,hso _ ⟨⟨a,h2⟩,h3⟩⟩⟩
  ·exact .inr h
end
section
variable{L C:Program}{m:Bool}{Iv:World->Prop}{Ro:Nat->Prop}{c:Frame}{cs:List Frame}{R:Value->World->Prop}
def TO(L:Program)(β0:Bj)(w0:World)(Ro:Nat->Prop)(R:Value->World->Prop)(c:Frame)(cs:List Frame)(S:Nat->Prop)(g:Goroutine)(W:World):Prop:=
 ∃β w v v',g=gJ (c.finish v') cs/\R v w/\ax β v v'/\cn β w W/\Dw w/\Le β0 β/\(∀b,gB β w b↔gB β0 w0 b)/\(∀b,S b↔SO β w b)/\(∀b,gB β w b->Ro b)
theorem Ry.rel{S:Nat->Prop}{β:Bj}{w W Jt:World}(hr:Ry Iv (λb=>S b\/Ro b) W Jt)(hw:cn β w W)(hS: ∀b,S b↔SO β w b)(hR: ∀b,gB β w b->Ro b):cn β w Jt:=
 hw.other λa b nj=>hr.blk b (by
  by_cases hl:gB β w b
  ·exact .inr (hR b hl)
  ·exact .inl ((hS b).2 ⟨⟨a,nj⟩,hl⟩))
theorem MV{Xs:FuncId->Prop}(HP:gC L C)(HF:PF L C Xs)(hX: ∀f x k w,Xs f-> ¬yd L (Left L R) (Frame.enter L f x .normal) k w)(β0:Bj)(w0:World){a:Frame}{k:List Frame}{w:World}(hW:yd L (Left L R) a k w):
  ∀{β:Bj} {b:Frame} {k':List Frame} {W:World} {S:Nat->Prop},cL L C β (a::k) (b::k')->cn β w W->Dw w->Le β0 β->(∀b,gB β w b↔gB β0 w0 b)->(∀b,S b↔SO β w b)->(∀b,gB β w b->Ro b)->
   en C m Iv Ro (TO L β0 w0 Ro R c cs) S (gJ b (k'++c::cs)) W:=by
 induction hW with
 | @done a w hm hd hq=>
  intro β b k' W S fM hw hD hle Wl hS hR;obtain ⟨v,hE,hRv⟩:=hq;refine en.step rfl λJt hr=> ?_;have zl:=hr.rel hw hS hR;obtain ⟨rfl,bS,v',W2,es,τ,e1,e2,e3,e4,e5⟩:=GJ (m:=m) (t':=c) (r':=cs) HP HF fM zl hE;have Pw:cn β (TW w τ) Jt:=⟨zl.obj,zl.inj,zl.fn⟩;refine ⟨_,_,_,e1,e4.ow (Ro:=Ro) Pw hS hR e5,en.stop λW3 hr3=> ?_⟩;have IL: ∀b,nw S Jt W2 b↔SO bS w b:=λb=>(Pv hS).trans (e4.so Pw b).symm;have hR': ∀b,gB bS w b->Ro b:=λb h=>hR b ((e4.re b).1 h);exact ⟨bS,w,v,v',rfl,hRv,e2,hr3.rel e3 IL hR',hD,hle.trans e4.le,λb=>(e4.re b).trans (Wl b),IL,hR'⟩
 | @step a k w h1 h2 ih=>
  intro β b k' W S fM hw hD hle Wl hS hR;refine en.step rfl λJt hr=> ?_;have zl:=hr.rel hw hS hR;obtain ⟨bS,a1,k1,w1,W1,wN,es,τ,e1,e2,e3,_,_,e4,e5,e6,⟨tJ,e7⟩,e8⟩:=GI (m:=m) (bs':=c::cs) HP HF fM zl h1 h2 .nil;have Pw:cn β (TW w τ) Jt:=⟨zl.obj,zl.inj,zl.fn⟩;cases e2 with
  | enter f Oy _ _ ha _=>exact (hX f _ _ _ Oy (ha▸h2 _ _ _ _ _ e6 e7)).elim
  | @on b1 SR u7 hg=>
   subst hg;refine ⟨_,_,_,e1,e4.ow (Ro:=Ro) Pw hS hR e5,ih _ _ _ _ _ e6 e7 u7 e3 (e8 hD) (hle.trans e4.le) (λb=>(e4.re b).trans (Wl b)) (λb=>(Pv hS).trans (e4.so Pw b).symm) λb h=>hR b ((e4.re b).1 h)⟩
end
end Go.Cx
namespace Go.Cx
open Go Go.Conc
variable[ba][aH][bg]
section
variable{L C:Program}{m:Bool}{Iv:World->Prop}{Ro:Nat->Prop}{c:Frame}{cs:List Frame}{R:Value->World->Prop}
theorem Lg{Xs:FuncId->Prop}(HP:gC L C)(HF:PF L C Xs)(hX: ∀f x k w,Xs f-> ¬yd L (Left L R) (Frame.enter L f x .normal) k w){f:FuncId}(tk:ba.ok f)(qm:ba.th f)(Ey: ¬Xs f){x x':Array Value}{β:Bj}{w W:World}{S:Nat->Prop}
  (hW:yd L (Left L R) (Frame.enter L f x .normal) [] w) (hx:aF β x x') (hw:cn β w W) (hD:Dw w) (hS: ∀b,S b↔SO β w b) (hR: ∀b,gB β w b->Ro b):
  en C m Iv Ro (TO L β w Ro R c cs) S (gJ (Frame.enter C f x' .normal) (c::cs)) W:=by
 obtain ⟨fn,cd,g1,g2,g3,g4⟩:=HF.same f tk qm Ey;have fM:cL L C β [Frame.enter L f x .normal] [Frame.enter C f x' .normal]:= .one (oW g1 g2 g3 g4 hx) rfl;exact MV HP HF hX β w hW fM hw hD (Le.refl _) (λb=>Iff.rfl) hS hR
end
end Go.Cx
namespace Go.Cx
open Go Go.Conc
instance hU:bg:=⟨λv=> ∀t w,v≠ .iface t w,λt w h=>h t w rfl⟩
section
variable(F:ba)(T:Nat->Prop)
theorem Ez(x:Array Value)(h: ∀v∈x, ∃u, @ax F hU (mG T) u v): ∃y:Array Value,y.size=x.size/\ ∀(i:Nat) (u v:Value),y[i]? =some u->x[i]? =some v-> @ax F hU (mG T) u v:=by
 classical
 refine ⟨x.map λv=>if q: ∃u, @ax F hU (mG T) u v then q.choose else v,by simp,λi u v hu hv=> ?_⟩;rw [qc3,hv,qac,qae] at hu;have q:=h v (qb1 hv);rw [dif_pos q] at hu;exact hu▸q.choose_spec
theorem mH{v:Value}(h:Odd v)(k: ∀t w,v≠ .iface t w): ∃u, @ax F hU (mG T) u v:=⟨_, @ax.hole F hU _ _ h k⟩
theorem uI: ∀(v:Value), ∃u, @ax F hU (mG T) u v
 | .bool b=>⟨_, @ax.bool F hU _ b⟩
 | .int k n=>⟨_, @ax.int F hU _ k n⟩
 | .float k n=>mH F T trivial nofun
 | .complex k n m=>mH F T trivial nofun
 | .string s=>⟨_, @ax.string F hU _ s⟩
 | .pointer none=>⟨_, @ax.oH F hU _⟩
 | .pointer (some a)=>mH F T trivial nofun
 | .slice none n c=>⟨_, @ax.kg F hU _ n c⟩
 | .slice (some a) n c=>mH F T trivial nofun
 | .map r=>mH F T trivial nofun
 | .chan r=>mH F T trivial nofun
 | .func (.func f) x y=>mH F T trivial nofun
 | .func (.yield f) x y=>mH F T trivial nofun
 | .func (.methodOf t n) x y=>mH F T trivial nofun
 | .func (.via t p f q) x y=>mH F T trivial nofun
 | .func (.method n) x y=>by
  obtain ⟨x',h1,h2⟩:=Ez F T x λv hv=>uI v;obtain ⟨y',h3,h4⟩:=Ez F T y λv hv=>uI v;exact ⟨_, @ax.func F hU _ _ _ _ _ _ _ (@Cu.method F _ n) h1 h3 (λi u v a b=>h2 i u v a b) (λi u v a b=>h4 i u v a b)⟩
 | .nilFunc=>⟨_, @ax.pg F hU _⟩
 | .iface t v=>let ⟨u,h⟩:=uI v;⟨_, @ax.iface F hU _ t _ _ h⟩
 | .nilIface=>⟨_, @ax.iK F hU _⟩
 | .agg x=>by
  obtain ⟨x',h1,h2⟩:=Ez F T x λv hv=>uI v;exact ⟨_, @ax.agg F hU _ _ _ h1 (λi u v a b=>h2 i u v a b)⟩
 | .tuple x=>mH F T trivial nofun
termination_by v=>SizeOf.sizeOf v
decreasing_by
 all_goals first | (have:=Array.sizeOf_lt_of_mem hv;simp_wf;omega) | (simp_wf;omega)
open Classical in
noncomputable def Px(v:Value):Value:=if @ax F hU (mG T) v v then v else (uI F T v).choose
theorem Lh(v:Value): @ax F hU (mG T) (Px F T v) v:=by
 unfold Px;split
 ·assumption
 ·exact (uI F T v).choose_spec
theorem GO{v:Value}(h: @ax F hU (mG T) v v):Px F T v=v:=by
 unfold Px;rw [if_pos h]
open Classical in
noncomputable def Fw(W:World):World:={ W with heap:=W.heap.mapIdx λb o=>if T b then (match o with | .cells c e _=> .cells (c.map (Px F T)) e (0,c.size+1) | _=> .cells #[] 0) else .cells #[] 0 }
variable{W:World}
theorem uJ:(Fw F T W).heap.size=W.heap.size:=by simp [Fw]
theorem A1{b:Nat}{c:Array Value}{e:TypeId}{f:Nat×Nat}(hT:T b)(h:W.heap[b]? =some (.cells c e f)):(Fw F T W).heap[b]? =some (.cells (c.map (Px F T)) e (0,c.size+1)):=by
 show (W.heap.mapIdx _)[b]? =_;rw [Array.getElem?_mapIdx,h,qac,if_pos hT]
theorem Py:Dw (Fw F T W):=by
 intro r ds hr;have hr:(W.heap.mapIdx _)[r]? =_:=hr;rw [Array.getElem?_mapIdx] at hr;cases ho:W.heap[r]? with
 | none=>rw [ho] at hr;cases hr
 | some o=>
  rw [ho,qac,qae] at hr;split at hr
  ·split at hr <;> cases hr
  ·cases hr
theorem Ju(K:aH)(hT: ∀b,T b-> ∃c e f,W.heap[b]? =some (.cells c e f)):
  @cn F K hU (mG T) (Fw F T W) W/\(∀b,T b↔gB (mG T) (Fw F T W) b):=by
 letI:ba:=F;letI:aH:=K;letI:bg:=hU;refine ⟨⟨?_, ?_, ?_⟩,λb=>⟨λh=> ?_,λ⟨a,c,e,h,_⟩=> ?_⟩⟩
 ·rintro a b ⟨rfl,hb⟩;obtain ⟨c,e,f,h1⟩:=hT a hb;refine ⟨_,_,A1 F T hb h1,h1, ?_⟩;have:= @rV.lock F K hU (mG T) (c.map (Px F T)) c f e ⟨by simp,λi v v' hv Gf=> ?_⟩
  ·simpa using this
  ·rw [qc3,Gf] at hv;cases hv;exact Lh F T v'
 ·rintro a a' b ⟨rfl,_⟩ ⟨rfl,_⟩;rfl
 ·rintro a b b' ⟨rfl,_⟩ ⟨rfl,_⟩;rfl
 ·obtain ⟨c,e,f,h1⟩:=hT b h;exact ⟨b,c.map (Px F T),e,⟨rfl,h⟩,trivial,by rw [A1 F T h h1,Array.size_map]⟩
 ·obtain ⟨rfl,h⟩:=h;exact h
theorem wU{a:Addr}{v:Value}(hT:T a.block)(h:W.cell? a=some v)(hv: @ax F hU (mG T) v v):(Fw F T W).cell? a=some v:=by
 letI:ba:=F;letI:aH:=⟨λ_=>True⟩;letI:bg:=hU;obtain ⟨c,e,f,h1,h2,h3⟩:=qV h;refine cell_of (A1 F T hT h1) h2 ?_;rw [qc3,h3,qac,GO F T hv]
end
end Go.Cx
namespace Go.Cx
open Go Go.Conc Go.ConcN
def iM:Loc->Nat->Prop
 | .cell a,b=>a.block=b
 | .obj r,b=>r=b
 | _,_=>False
theorem iM.inj{l:Loc}{b c:Nat}(h:iM l b)(k:iM l c):b=c:=by
 cases l <;> first | exact h.symm.trans k | exact h.elim
def u9(A:Nat->Prop)(l:Loc):Prop:= ∃b,iM l b/\A b
structure TI(Sh cX:Loc->Prop)(act live:Nat->Prop)(S Rd:Nat->Nat->Prop)(sz N:Nat)(t:Trace):Prop where
 quiet:Quiet Sh t
 own: ∀k,live k-> ∀l,u9 (S k) l->Perm t k l
 rd: ∀k,live k-> ∀l,u9 (Rd k) l->PermW t k l
 free: ∀l,l.isMemory=true-> ¬Sh l-> ¬cX l->(∀k,act k-> ¬u9 (S k) l/\ ¬u9 (Rd k) l)->Perm t 0 l
 mine: ∀l,l.isMemory=true-> ¬Sh l-> ¬cX l->(∀k,act k-> ¬u9 (S k) l)->PermW t 0 l
 MW: ∀i a,touchAt t i=some a->a.loc.isMemory=true-> ¬Sh a.loc-> ¬cX a.loc->Knows t 0 i\/ ∃k,act k/\t.g? i=some k/\a.kind= .plain
 nr: ∀said, ¬Race said t
 gs: ∀(i:Nat) (op:MemOp),t[i]? =some op->op.g<=N
 fresh: ∀i a,touchAt t i=some a-> ∀b,iM a.loc b->b<sz
structure Apr(Sh cX:Loc->Prop)(act live:Nat->Prop)(S Rd:Nat->Nat->Prop):Prop where
 la: ∀k,live k->act k
 own: ∀k k' b,act k->act k'->S k b->S k' b->k=k'
 ownRd: ∀k k' b,act k->act k'->S k b-> ¬Rd k' b
 ownSh: ∀k l,act k->u9 (S k) l-> ¬Sh l/\ ¬cX l
 rdSh: ∀k l,act k->u9 (Rd k) l-> ¬Sh l/\ ¬cX l
def TOk(Sh cX:Loc->Prop)(act live:Nat->Prop)(S Rd:Nat->Nat->Prop)(g:Nat)(x:Touch):Prop:=
 (Sh x.loc/\x.kind≠ .plain/\(x.kind= .said->g=0))\/
 (¬Sh x.loc/\ ¬cX x.loc/\g=0/\(∀k,act k-> ¬u9 (S k) x.loc)/\(x.write=true-> ∀k,act k-> ¬u9 (Rd k) x.loc))\/
 (live g/\x.kind= .plain/\u9 (S g) x.loc)\/
 (live g/\x.kind= .plain/\u9 (Rd g) x.loc/\x.write=false)
section
variable{Sh cX:Loc->Prop}{act live:Nat->Prop}{S S' Rd:Nat->Nat->Prop}{sz Wv N g:Nat}{t u:Trace}
theorem Perm.none{k:Nat}{l:Loc}{b:Nat}(h:TI Sh cX act live S Rd sz N t)(hl:iM l b)(hb:sz<=b):Perm t k l:=by
 intro i a ha e;have:=h.fresh i a ha b (e▸hl);omega
theorem TI.app(h:TI Sh cX act live S Rd sz N t)(hg: ∀op∈u,op.g=g)(hN:g<=N)(h0: ¬live 0)(mo:sz<=Wv)(hS: ∀k b,S k b->S' k b)(IL: ∀k b,S' k b->S k b\/sz<=b)
  (A:Apr Sh cX act live S' Rd) (qY: ∀op∈u, ∀x,op.act.touch? =some x-> ∀b,iM x.loc b->b<Wv) (hu: ∀op∈u, ∀x,op.act.touch? =some x->TOk Sh cX act live S' Rd g x):
  TI Sh cX act live S' Rd Wv N (t++u):=by
 have lin: ∀{k l},u9 (S k) l->u9 (S' k) l:=λ⟨b,h1,h2⟩=>⟨b,h1,hS _ _ h2⟩;have aa7: ∀k,live k-> ∀l,u9 (S' k) l->Perm t k l:=λk hk l ⟨b,h1,h2⟩=>by
  rcases IL _ _ h2 with h3 | h3
  ·exact h.own k hk l ⟨b,h1,h3⟩
  ·exact Perm.none h h1 h3
 have Ww: ∀l,l.isMemory=true-> ¬Sh l-> ¬cX l->(∀k,act k-> ¬u9 (S' k) l/\ ¬u9 (Rd k) l)->Perm t 0 l:=λl hm hs hb hk=>h.free l hm hs hb λk ha=>⟨λq=>(hk k ha).1 (lin q),(hk k ha).2⟩;have Wy: ∀l,l.isMemory=true-> ¬Sh l-> ¬cX l->(∀k,act k-> ¬u9 (S' k) l)->PermW t 0 l:=λl hm hs hb hk=>h.mine l hm hs hb λk ha q=>hk k ha (lin q);refine ⟨?_,λk hk l hl=> ?_,λk hk l hl=> ?_,λl hm hs hb hk=> ?_,λl hm hs hb hk=> ?_,λi a ha hm hs hb=> ?_,λsaid=> ?_,λi op hi=> ?_,λi a ha b hb=> ?_⟩
 ·refine h.quiet.app λop cM x hx hs=> ?_;rcases hu op cM x hx with ⟨_,h2,h3⟩ | ⟨h1,_⟩ | ⟨h1,_,h3⟩ | ⟨h1,_,h3,_⟩
  ·exact ⟨h2,λe=>(hg op cM).trans (h3 e)⟩
  ·exact absurd hs h1
  ·exact absurd hs (A.ownSh g _ (A.la g h1) h3).1
  ·exact absurd hs (A.rdSh g _ (A.la g h1) h3).1
 ·refine (aa7 k hk l hl).app λop cM x hx e=> ?_;subst e;rcases hu op cM x hx with ⟨h1,_⟩ | ⟨_,_,_,h1,_⟩ | ⟨h1,_,b,h3,h4⟩ | ⟨h1,_,⟨b,h3,h4⟩,_⟩
  ·exact absurd h1 (A.ownSh k _ (A.la k hk) hl).1
  ·exact absurd hl (h1 k (A.la k hk))
  ·obtain ⟨c,h5,h6⟩:=hl;have:=iM.inj h3 h5;subst this;exact (hg op cM).trans (A.own _ _ _ (A.la g h1) (A.la k hk) h4 h6)
  ·obtain ⟨c,h5,h6⟩:=hl;have:=iM.inj h3 h5;subst this;exact absurd h4 (A.ownRd _ _ _ (A.la k hk) (A.la g h1) h6)
 ·refine (h.rd k hk l hl).app λop cM x hx e hw=> ?_;subst e;rcases hu op cM x hx with ⟨h1,_⟩ | ⟨_,_,_,_,h1⟩ | ⟨h1,_,b,h3,h4⟩ | ⟨_,_,_,h1⟩
  ·exact absurd h1 (A.rdSh k _ (A.la k hk) hl).1
  ·exact absurd hl (h1 hw k (A.la k hk))
  ·obtain ⟨c,h5,h6⟩:=hl;have:=iM.inj h3 h5;subst this;exact absurd h6 (A.ownRd _ _ _ (A.la g h1) (A.la k hk) h4)
  ·rw [h1] at hw;cases hw
 ·refine (Ww l hm hs hb hk).app λop cM x hx e=> ?_;subst e;rcases hu op cM x hx with ⟨h1,_⟩ | ⟨_,_,h1,_⟩ | ⟨h1,_,h3⟩ | ⟨h1,_,h3,_⟩
  ·exact absurd h1 hs
  ·exact (hg op cM).trans h1
  ·exact absurd h3 (hk g (A.la g h1)).1
  ·exact absurd h3 (hk g (A.la g h1)).2
 ·refine (Wy l hm hs hb hk).app λop cM x hx e hw=> ?_;subst e;rcases hu op cM x hx with ⟨h1,_⟩ | ⟨_,_,h1,_⟩ | ⟨h1,_,h3⟩ | ⟨_,_,_,h1⟩
  ·exact absurd h1 hs
  ·exact (hg op cM).trans h1
  ·exact absurd h3 (hk g (A.la g h1))
  ·rw [h1] at hw;cases hw
 ·obtain ⟨x,hx,Jv⟩:=touch_of ha;rcases getElem?_append_cases hx with ⟨hi,wV⟩ | ⟨_,X7⟩
  ·rcases h.MW i a (by rw [touchAt_of wV];exact Jv) hm hs hb with q | ⟨k,h1,h2,h3⟩
   ·exact .inl (q.app u)
   ·exact .inr ⟨k,h1,by rw [g?_old hi];exact h2,h3⟩
  ·have hgx:x.g=g:=hg x X7;rcases hu x X7 a Jv with ⟨h1,_⟩ | ⟨_,_,h1,_⟩ | ⟨h1,h2,_⟩ | ⟨h1,h2,_⟩
   ·exact absurd h1 hs
   ·have:=knows_own hx;rw [hgx,h1] at this;exact .inl this
   ·exact .inr ⟨g,A.la g h1,by simp [Trace.g?, hx,hgx],h2⟩
   ·exact .inr ⟨g,A.la g h1,by simp [Trace.g?, hx,hgx],h2⟩
 ·refine noRace_append (h.nr said) hg λi a ha op cM b hb hc=> ?_;rcases hu op cM b hb with ⟨h1,h2,h3⟩ | ⟨h1,h2,h3,h4,h5⟩ | ⟨h1,_,h3⟩ | ⟨h1,_,h3,h4⟩
  ·exact h.quiet.known h1 h2 h3 i a ha hc
  ·subst h3;cases TP:b.write with
   | true=>exact Ww b.loc (hc.1▸hc.2.1) h1 h2 (λk hk=>⟨h4 k hk,h5 TP k hk⟩) i a ha hc.1
   | false=>exact Wy b.loc (hc.1▸hc.2.1) h1 h2 h4 i a ha hc.1 (hc.2.2.1.resolve_right (by simp [TP]))
  ·exact aa7 g h1 b.loc h3 i a ha hc.1
  ·exact h.rd g h1 b.loc h3 i a ha hc.1 (hc.2.2.1.resolve_right (by simp [h4]))
 ·rcases getElem?_append_cases hi with ⟨_,fU⟩ | ⟨_,Ya⟩
  ·exact h.gs i op fU
  ·rw [hg op Ya];exact hN
 ·obtain ⟨x,hx,Jv⟩:=touch_of ha;rcases getElem?_append_cases hx with ⟨hi,wV⟩ | ⟨_,X7⟩
  ·exact qa2 (h.fresh i a (by rw [touchAt_of wV];exact Jv) b hb) mo
  ·exact qY x X7 a Jv b hb
end
end Go.Cx
namespace Go.Cx
open Go Go.Conc Go.ConcN
section
variable{Sh cX:Loc->Prop}{act live aa8 Wz:Nat->Prop}{S S' Rd Rd':Nat->Nat->Prop}{sz Wv N g:Nat}{t u:Trace}
theorem TI.congr(h:TI Sh cX act live S Rd sz N t)(la: ∀k,live k->act k)(hS: ∀k,act k->S' k=S k)(hR: ∀k,act k->Rd' k=Rd k):TI Sh cX act live S' Rd' sz N t:=
 ⟨h.quiet,λk hk=>by rw [hS k (la k hk)];exact h.own k hk,λk hk=>by rw [hR k (la k hk)];exact h.rd k hk,
  λl hm hs hb hk=>h.free l hm hs hb λk ha=>by have:=hk k ha;rw [hS k ha,hR k ha] at this;exact this,
  λl hm hs hb hk=>h.mine l hm hs hb λk ha=>by have:=hk k ha;rw [hS k ha] at this;exact this,h.MW,h.nr,h.gs,h.fresh⟩
theorem TI.less(h:TI Sh cX act live S Rd sz N t)(hl: ∀k,Wz k->live k):TI Sh cX act Wz S Rd sz N t:=
 ⟨h.quiet,λk hk=>h.own k (hl k hk),λk hk=>h.rd k (hl k hk),h.free,h.mine,h.MW,h.nr,h.gs,h.fresh⟩
theorem og{x y:MemOp}(hx:x.act.touch? =none)(hy:y.act.touch? =none){i:Nat}{a:Touch}(h:touchAt (t++ #[x,y]) i=some a):touchAt t i=some a/\i<t.size:=by
 obtain ⟨z,hz,TQ⟩:=touch_of h;rcases getElem?_append_cases hz with ⟨hi,hz'⟩ | ⟨_,hzu⟩
 ·exact ⟨by rw [touchAt_of hz'];exact TQ,hi⟩
 ·simp only [List.mem_toArray,qa9,qao,or_false] at hzu;rcases hzu with rfl | rfl
  ·rw [hx] at TQ;cases TQ
  ·rw [hy] at TQ;cases TQ
theorem TR{A:Nat->Prop}{l:Loc}(h:u9 A l):l.isMemory=true:=by
 obtain ⟨b,h,_⟩:=h;cases l <;> first | rfl | exact h.elim
theorem TI.fork(h:TI Sh cX act live S Rd sz N t)(la: ∀k,live k->act k)(hN: ∀k,act k->k<=N)(hS: ∀b, ¬S (N+1) b)(hR: ∀l,u9 (Rd (N+1)) l-> ¬Sh l/\ ¬cX l/\ ∀k,act k-> ¬u9 (S k) l)
  {x y:MemOp} (hx:x.g=0/\x.act= .go (N+1)) (hy:y.g=N+1/\y.act= .start) (h0:Deaf t 0=0):
  TI Sh cX (λk=>act k\/k=N+1) (λk=>live k\/k=N+1) S Rd sz (N+1) (t++ #[x,y]):=by
 have nx:x.act.touch? =none:=by rw [hx.2];rfl
 have ny:y.act.touch? =none:=by rw [hy.2];rfl
 have hk:Deaf t (N+1)=0:=Deaf_absent λi op hi e=>by have:=h.gs i op hi;omega
 have GP: ∀op∈ #[x,y], ∀b,op.act.touch? =some b->False:=by
  intro op cM b hb;simp only [List.mem_toArray,qa9,qao,or_false] at cM;rcases cM with rfl | rfl
  · rw [nx] at hb;cases hb
  · rw [ny] at hb;cases hb
 refine ⟨h.quiet.app λop cM b hb _=>(GP op cM b hb).elim,λk qM l hl=> ?_,λk qM l hl=> ?_,λl hm hs hb qM=> ?_,λl hm hs hb qM=> ?_,λi a ha hm hs hb=> ?_,λsaid=> ?_,λi op hi=> ?_,λi a ha b hb=> ?_⟩
 ·rcases qM with qM | rfl
  · exact (h.own k qM l hl).app λop cM b hb _=>(GP op cM b hb).elim
  · obtain ⟨b,_,hb⟩:=hl;exact absurd hb (hS b)
 ·rcases qM with qM | rfl
  · exact (h.rd k qM l hl).app λop cM b hb _ _=>(GP op cM b hb).elim
  · obtain ⟨q1,q2,q3⟩:=hR l hl;exact λi a ha e hw=>fork_knows hx hy h0 hk (h.mine l (TR hl) q1 q2 q3 i a (og nx ny ha).1 e hw)
 ·exact (h.free l hm hs hb λk ha=>qM k (.inl ha)).app λop cM b hb _=>(GP op cM b hb).elim
 ·exact (h.mine l hm hs hb λk ha=>qM k (.inl ha)).app λop cM b hb _ _=>(GP op cM b hb).elim
 ·obtain ⟨ha',hi⟩:=og nx ny ha;rcases h.MW i a ha' hm hs hb with q | ⟨k,q1,q2,q3⟩
  · exact .inl (q.app _)
  · exact .inr ⟨k, .inl q1,by rw [g?_old hi];exact q2,q3⟩
 ·have e:t++ #[x,y]=(t++ #[x])++ #[y]:=by apply qcf;simp
  rw [e];refine noRace_append (g:=N+1) (noRace_append (g:=0) (h.nr said) (λop cM=>by simp at cM;rw [cM];exact hx.1) (λi a _ op cM b hb _=>(GP op (by simp at cM ⊢;exact .inl cM) b hb).elim))
    (λop cM=>by simp at cM;rw [cM];exact hy.1) (λi a _ op cM b hb _=>(GP op (by simp at cM ⊢;exact .inr cM) b hb).elim)
 ·rcases getElem?_append_cases hi with ⟨_,fU⟩ | ⟨_,Ya⟩
  · exact Nat.le_succ_of_le (h.gs i op fU)
  · simp only [List.mem_toArray,qa9,qao,or_false] at Ya;rcases Ya with rfl | rfl
    ·rw [hx.1];exact qa8 _
    ·rw [hy.1];exact qa3 _
 ·exact h.fresh i a (og nx ny ha).1 b hb
def HO(act:Nat->Prop)(t:Trace):Prop:= ∀i g,t.g? i=some g->g≠0-> ¬act g->t.counts i-> ∃j,t.g? j=some 0/\HappensBefore t i j
theorem HO.app(h:HO act t)(hg: ∀op∈u,op.g=g)(hu:g=0\/act g\/ ∀i,t.size<=i-> ¬(t++u).counts i):HO act (t++u):=by
 intro i k hk h0 ha hc;obtain ⟨op,ho,cM⟩:=qbi.1 hk;rcases getElem?_append_cases ho with ⟨hi,GQ⟩ | ⟨hi,TS⟩
 ·obtain ⟨j,h1,h2⟩:=h i k (by rw [←g?_old (u:=u) hi];exact hk) h0 ha ((counts_old hi).1 hc);have hj:j<t.size:=by
   obtain ⟨z,hz,_⟩:=qbi.1 h1;exact lt_size_of_getElem? hz
  exact ⟨j,by rw [g?_old hj];exact h1,hb_app u h2⟩
 ·have e:g=k:=(hg op TS).symm.trans cM;subst e;rcases hu with q | q | q
  ·exact absurd q h0
  ·exact absurd q ha
  ·exact absurd hc (q i hi)
theorem HO.more(h:HO act t)(ha: ∀k,act k->aa8 k):HO aa8 t:=λi g h1 h2 h3 h4=>h i g h1 h2 (λq=>h3 (ha g q)) h4
theorem Jx{a:Addr}{k r i:Nat}(h:RelBy a t k r)(hg:t.g? i=some k)(hc:t.counts i):Before t i r:=by
 have hle:i<=r:=Nat.le_of_not_lt λbG=>h.after i bG hg hc;rcases Nat.lt_or_ge i r with bG | hge
 ·exact .inr (.single (.inl ⟨bG,k,hg,h.g⟩))
 ·exact .inl (by omega)
theorem TI.acquire(h:TI Sh cX act live S Rd sz N t){a:Addr}{T0:Nat}(fg: ∀k,act k-> ∃r,RelBy a t k r/\T0<=r)(hn: ∀i,T0<=i->t.act? i≠some (.mark (.release a)))(h0:Deaf t 0=0){x:MemOp}(hx:x.g=0/\x.act= .mark (.acquire a))(hO:HO act t)(OQ: ∀k,act k->k≠0):
  TI (λ_=>False) (λl=>cX l\/Sh l) (λ_=>False) (λ_=>False) S Rd sz N (t++ #[x])/\HO (λ_=>False) (t++ #[x]):=by
 have nx:x.act.touch? =none:=by rw [hx.2];rfl
 have hxp:(t++ #[x])[t.size]? =some x:=by rw [Array.getElem?_append_right (qa3 _)];simp
 have hxh:(t++ #[x]).heard t.size:=⟨0,by simp [Trace.g?, hx.1],by rw [deaf_old (qa3 _)];exact h0⟩;have old: ∀{i:Nat} {b:Touch},touchAt (t++ #[x]) i=some b->touchAt t i=some b/\i<t.size:=by
  intro i b hb;obtain ⟨z,hz,TQ⟩:=touch_of hb;rcases getElem?_append_cases hz with ⟨hi,hz'⟩ | ⟨_,hzu⟩
  ·exact ⟨by rw [touchAt_of hz'];exact TQ,hi⟩
  ·simp at hzu;subst hzu;rw [nx] at TQ;cases TQ
 have aeG: ∀k,act k-> ∀r,RelBy a t k r->T0<=r->HappensBefore (t++ #[x]) r t.size:=λk _ r hr hT=>by
  have hrs:=lt_of_act? hr.act;exact .single (.inr ⟨.marked hrs (.inr (by rw [act?_old hrs];exact hr.act)) (by rw [act?_of hxp,hx.2]) (λj h1 h2=>by rw [act?_old h2];exact hn j (qaa hT (Nat.le_of_lt h1))),(heard_old hrs).2 hr.heard,hxh⟩)
 have kn: ∀i k,act k->t.g? i=some k->t.counts i->HappensBefore (t++ #[x]) i t.size:=λi k hk hg hc=>by
  obtain ⟨r,hr,hT⟩:=fg k hk;exact ((Jx hr hg hc).app #[x]).hb (aeG k hk r hr hT)
 have perm: ∀l,l.isMemory=true-> ¬cX l-> ¬Sh l->Perm (t++ #[x]) 0 l:=λl hm hb hs i b fT e=>by
  subst e;obtain ⟨h1,hi⟩:=old fT;rcases h.MW i b h1 hm hs hb with q | ⟨k,q1,q2,q3⟩
  ·exact q.app _
  ·exact ⟨t.size,x,hxp,hx.1, .inr (kn i k q1 q2 ⟨b,h1,hm, .inl (by rw [q3];simp)⟩)⟩
 refine ⟨⟨λ_ _ _ _ _ q=>q.elim,λ_ q=>q.elim,λ_ q=>q.elim,λl hm _ hb _=>perm l hm (λq=>hb (.inl q)) λq=>hb (.inr q),λl hm _ hb _=>PermW.of (perm l hm (λq=>hb (.inl q)) λq=>hb (.inr q)),
  λi b hb hm _ hbd=> .inl (perm b.loc hm (λq=>hbd (.inl q)) (λq=>hbd (.inr q)) i b hb rfl),λsaid=> ?_,λi op hi=> ?_,λi b hb=>h.fresh i b (old hb).1⟩,λi k hk Gg _ hc=> ?_⟩
 ·refine noRace_append (g:=0) (h.nr said) (λop cM=>by simp at cM;rw [cM];exact hx.1) λi b _ op cM c hc _=> ?_;simp at cM;subst cM;rw [nx] at hc;cases hc
 ·rcases getElem?_append_cases hi with ⟨_,fU⟩ | ⟨_,Ya⟩
  ·exact h.gs i op fU
  ·simp at Ya;subst Ya;rw [hx.1];exact qa8 _
 ·obtain ⟨op,ho,cM⟩:=qbi.1 hk;rcases getElem?_append_cases ho with ⟨hi,GQ⟩ | ⟨_,TS⟩
  ·have qM:t.g? i=some k:=by rw [←g?_old (u:= #[x]) hi];exact hk
   have Pa:=(counts_old hi).1 hc;by_cases ha:act k
   ·exact ⟨t.size,by simp [Trace.g?, hx.1],kn i k ha qM Pa⟩
   ·obtain ⟨j,h1,h2⟩:=hO i k qM Gg ha Pa;have hj:j<t.size:=by
     obtain ⟨z,hz,_⟩:=qbi.1 h1;exact lt_size_of_getElem? hz
    exact ⟨j,by rw [g?_old hj];exact h1,hb_app _ h2⟩
  ·simp at TS;subst TS;exact absurd (cM.symm.trans hx.1) Gg
end
end Go.Cx
namespace Go.Cx
open Go Go.Conc
open Go.ConcN (sumTo sumTo_upd sumTo_congr le_sumTo)
structure Wq(W w:World):Prop where
 tape:W.tape=w.tape
 heap:W.heap=w.heap
 os:W.os=w.os
 output:W.output=w.output
theorem Wq.at{W w:World}(h:Wq W w)(d:Nat):Wq (W.at d) w:=⟨h.tape,h.heap,h.os,h.output⟩
theorem Wq.refl(w:World):Wq w w:=⟨rfl,rfl,rfl,rfl⟩
theorem Wq.symm{a b:World}(h:Wq a b):Wq b a:=⟨h.tape.symm,h.heap.symm,h.os.symm,h.output.symm⟩
abbrev no1:Loc->Prop:=λ_=>False
abbrev no0:Nat->Prop:=λ_=>False
abbrev no2:Nat->Nat->Prop:=λ_ _=>False
structure Qt(C:Program)(cX:Loc->Prop)(gs:Array Goroutine)(sz:Nat)(t:Trace)(q:Nat->Nat):Prop where
 wk: ∀k,1<=k->k<gs.size-> ∃g,gs[k]? =some g/\QuitsD C (q k) (Deaf t k) g
 ti:TI no1 cX no0 no0 no2 no2 sz (gs.size - 1) t
 ho:HO no0 t
 d0:Deaf t 0=0
 vv: ∀l b,cX l->iM l b->b<sz
def jr(C:Program)(Φ:Machine->Trace->Prop)(m:Machine)(t:Trace):Prop:= ∃n m' t',runNT C n m t=(.next m',t')/\Φ m' t'
theorem jr.here{C:Program}{Φ:Machine->Trace->Prop}{m:Machine}{t:Trace}(h:Φ m t):jr C Φ m t:=⟨0,m,t,rfl,h⟩
theorem jr.step{C:Program}{Φ:Machine->Trace->Prop}{m m1:Machine}{t:Trace}{ops:Array MemOp}(hs:stepT C m=(.next m1,ops))(h:jr C Φ m1 (t++ops)):jr C Φ m t:=by
 obtain ⟨n,m',t',h1,h2⟩:=h;exact ⟨n+1,m',t',by rw [runNT_succ_next hs];exact h1,h2⟩
def WA(C:Program)(Φ:Machine->Trace->Prop)(gs:Array Goroutine)(W:World)(sl:Option (Nat×Nat))(t:Trace):Prop:= ∃m1 ops,runT C (crowd gs W sl) 0=(.next m1,ops)/\jr C Φ m1 (t++ops)
section
variable{C:Program}{cX:Loc->Prop}{gs:Array Goroutine}{W:World}{sl:Option (Nat×Nat)}{t:Trace}{q:Nat->Nat}{g:Goroutine}{sz:Nat}
theorem Qt.awake(h:Qt C cX gs sz t q)(h0:gs[0]? =some g)(hr:g.status= .running): ∀x∈gs,awake x:=by
 intro x hx;obtain ⟨i,hi⟩:=Array.mem_iff_getElem?.1 hx;cases i with
 | zero=>rw [h0] at hi;cases hi;exact awake_of (.inl hr)
 | succ i=>
  obtain ⟨y,hy,hq⟩:=h.wk (i+1) (by omega) (qa1.1 hi).1;rw [hi] at hy;cases hy;exact awake_of (hq.status.elim .inl λh=> .inr (.inr h))
theorem vQ{e:Event}(h:e.mute=true):(MemAct.ofEvent e).touch? =none:=by
 obtain ⟨l,w,s⟩:=e;cases l with
 | mark m=>cases m <;> first | rfl | cases h
 | _=>cases h
theorem uc{t u:Trace}(h: ∀op∈u,op.act.touch? =none): ∀i,t.size<=i-> ¬(t++u).counts i:=by
 rintro i hi ⟨x,hx,_⟩;obtain ⟨op,ho,Jv⟩:=touch_of hx;rcases getElem?_append_cases ho with ⟨fU,_⟩ | ⟨_,TS⟩
 ·omega
 ·rw [h op TS] at Jv;cases Jv
theorem TT:Apr no1 cX no0 no0 no2 no2:=⟨λ_ h=>h,λ_ _ _ h=>h.elim,λ_ _ _ h=>h.elim,λ_ _ h=>h.elim,λ_ _ h=>h.elim⟩
theorem bP{k:Nat}{fn:FuncId}{pos:String}{es:Array Event}: ∀op∈MemOp.ofEvents k fn pos es,op.g=k:=by
 intro op cM;rw [ofEvents_eq] at cM;obtain ⟨e,_,rfl⟩:=Array.mem_map.1 cM
 rfl
theorem fA{k:Nat}{fn:FuncId}{pos:String}{es:Array Event}{op:MemOp}(h:op∈MemOp.ofEvents k fn pos es): ∃e∈es,op.act= .ofEvent e:=by
 rw [ofEvents_eq] at h;obtain ⟨e,he,rfl⟩:=Array.mem_map.1 h;exact ⟨e,he,rfl⟩
theorem Qt.leave(h:Qt C cX gs sz t q)(h0:gs[0]? =some g)(hr:g.status= .running){k:Nat}(hk:1<=k){y:Goroutine}(hy:gs[k]? =some y)(GR:y.status= .running):
  ∃qN ops q',runT C (crowd gs W sl) k=(.next (crowd qN W sl),ops)/\qN[0]? =some g/\qN.size=gs.size/\Qt C cX qN sz (t++ops) q'/\sumTo gs.size q'<sumTo gs.size q:=by
 have bG:=(qa1.1 hy).1;obtain ⟨y',Yb,hq⟩:=h.wk k hk bG;rw [hy] at Yb;cases Yb;obtain ⟨n,hn⟩: ∃n,q k=n+1:=by
  cases hqk:q k with
  | zero=>rw [hqk] at hq;rw [hq.1] at GR;cases GR
  | succ n=>exact ⟨n,rfl⟩
 rw [hn] at hq;rcases hq with ⟨hf,_⟩ | ⟨_,g',es,hm,fb,TU⟩
 ·rw [hf] at GR;cases GR
 have j0:(k==0)=false:=by simp;omega
 have bM:=runT_crowd_go (P:=C) (sl:=sl) hy (by rw [j0];exact fb W);have GP: ∀op∈MemOp.ofEvents k y.frame.fn y.frame.place es,op.act.touch? =none:=λop cM=>by
  obtain ⟨e,he,ha⟩:=fA cM;rw [ha];exact vQ (hm e he)
 have mo:((gs.map (woken C y g' W)).setIfInBounds k g').size=gs.size:=by simp
 refine ⟨_,_,ConcN.upd q k n,bM, ?_,mo,⟨λj hj1 Yc=> ?_, ?_, ?_, ?_,h.vv⟩, ?_⟩
 ·rw [ConcN.get_map_set _ _ _ _ (by omega),h0,qac];unfold woken;split
  ·rw [again_running _ (.inl hr)]
  ·rfl
 ·rw [mo] at Yc;by_cases e:j=k
  ·subst e;refine ⟨g',ConcN.get_map_set_same _ _ _ bG, ?_⟩;rw [ConcN.upd_same,Deaf_own];exact TU
  ·obtain ⟨z,hz,wW⟩:=h.wk j hj1 Yc;refine ⟨z, ?_, ?_⟩
   ·rw [ConcN.get_map_set _ _ _ _ (λq=>e q.symm),hz,qac,woken_quitsD wW]
   ·rw [ConcN.upd_ne _ _ e,Deaf_other t (qbo e) _ bP];exact wW
 ·rw [mo];exact h.ti.app bP (by omega) id (qa3 _) (λ_ _ h=>h) (λ_ _ h=> .inl h) TT (λop cM x hx=>by rw [GP op cM] at hx;cases hx) λop cM x hx=>by rw [GP op cM] at hx;cases hx
 ·exact h.ho.app bP (.inr (.inr (uc GP)))
 ·rw [Deaf_other t (by omega) _ bP];exact h.d0
 ·have:sumTo gs.size (ConcN.upd q k n)+q k=sumTo gs.size q+n:=sumTo_upd q n (λx=>x) bG;rw [hn] at this;omega
theorem uK{Φ:Machine->Trace->Prop}{w:World}(hr:g.status= .running)
  (K: ∀gs W sl t q,gs[0]? =some g->Wq W w->Qt C cX gs sz t q->WA C Φ gs W sl t):
  ∀(r:Nat) (gs:Array Goroutine) (W:World) (sl:Option (Nat×Nat)) (t:Trace) (q:Nat->Nat),sumTo gs.size q=r->gs[0]? =some g->Wq W w->Qt C cX gs sz t q->jr C Φ (crowd gs W sl) t:=by
 intro r
 induction r using Nat.strongRecOn with
 | _ r ih=>
  intro gs W sl t q Pz h0 hw hq;obtain ⟨i,y,d,wA,hy,GR,hs⟩:=crowd_pick (P:=C) (w:=W) (sl:=sl) (hq.awake h0 hr) ⟨0,g,h0,hr⟩;cases i with
  | zero=>
   obtain ⟨m1,ops,h1,h2⟩:=K gs (W.at d) wA t q h0 (hw.at d) hq;exact jr.step (hs.trans h1) h2
  | succ i=>
   obtain ⟨qN,ops,q',h1,h2,h3,h4,h5⟩:=hq.leave (W:=W.at d) (sl:=wA) h0 hr (k:=i+1) (by omega) hy GR;exact jr.step (hs.trans h1) (ih _ (by rw [←Pz];exact h5) qN (W.at d) wA (t++ops) q' (by rw [h3]) h2 (hw.at d) h4)
end
end Go.Cx
namespace Go.Cx
open Go Go.Conc
open Go.ConcN (sumTo)
variable[ba][aH][bg]
structure Mn(L C:Program)(cX:Loc->Prop)(W0:World)(β:Bj)(fs WC:List Frame)(u W:World):Prop where
 sk:cL L C β fs WC
 wr:cn β u W
 dw:Dw u
 bad: ∀a b l,β a b->iM l b-> ¬cX l
 tape:W.tape=W0.tape
 os:W.os=W0.os
 output:W.output=W0.output
 old: ∀a b,β a b->b<W0.heap.size->gB β u b
 keep: ∀b,b<W0.heap.size->W.heap[b]? =W0.heap[b]?
section
variable{L C:Program}{Xs:FuncId->Prop}{cX:Loc->Prop}{W0:World}{β:Bj}{Φ:Machine->Trace->Prop}
theorem cn.heap{β:Bj}{w W w' W':World}(h:cn β w W)(e:w'.heap=w.heap)(e':W'.heap=W.heap):cn β w' W':=⟨λa b q=>by rw [e,e'];exact h.obj a b q,h.inj,h.fn⟩
omit [ba] [aH] [bg] in
theorem Dw.heap{w w':World}(h:Dw w)(e:w'.heap=w.heap):Dw w':=λr ds q=>h r ds (by rw [←e];exact q)
omit [ba] [aH] [bg] in
theorem gB.heap{β:Bj}{w w':World}{b:Nat}(h:gB β w b)(e:w'.heap=w.heap):gB β w' b:=let ⟨a,c,t,h1,h2,h3⟩:=h;⟨a,c,t,h1,h2,by rw [e];exact h3⟩
theorem Mn.heap{fs WC:List Frame}{u u' W W':World}(h:Mn L C cX W0 β fs WC u W)(e:u'.heap=u.heap)(e':Wq W' W):Mn L C cX W0 β fs WC u' W':=
 ⟨h.sk,h.wr.heap e e'.heap,h.dw.heap e,h.bad,e'.tape.trans h.tape,e'.os.trans h.os,e'.output.trans h.output,λa b q r=>(h.old a b q r).heap e,λb q=>by rw [e'.heap];exact h.keep b q⟩
theorem Mn.fs{fs WC gs qN:List Frame}{u W:World}(h:Mn L C cX W0 β fs WC u W)(k:cL L C β gs qN):Mn L C cX W0 β gs qN u W:=⟨k,h.wr,h.dw,h.bad,h.tape,h.os,h.output,h.old,h.keep⟩
theorem Mn.nb{fs WC gs qN:List Frame}{u u1 W W1:World}{bS:Bj}{sz:Nat}(h:Mn L C cX W0 β fs WC u W)(hB: ∀l b,cX l->iM l b->b<W.heap.size)(hT:mB β bS u u1 W W1)(k:cL L C bS gs qN)(hw:cn bS u1 W1)(hd:Dw u1):Mn L C cX W0 bS gs qN u1 W1:=by
 have mo:W0.heap.size<=W.heap.size:=by
  apply qa7;intro hn;have bG:W.heap.size<W0.heap.size:=Nat.lt_of_not_le hn;have h1:=h.keep _ bG;rw [qbb (qa3 _),Array.getElem?_eq_getElem bG] at h1;cases h1
 refine ⟨k,hw,hd,λa b l q hl hbd=> ?_,hT.tape.trans h.tape,hT.os.trans h.os,hT.output.trans h.output,λa b q r=> ?_,λb q=> ?_⟩
 ·rcases hT.fresh a b q with q | ⟨_,q,_⟩
  ·exact h.bad a b l q hl hbd
  ·exact absurd (hB l b hbd hl) (qce.2 q)
 ·rcases hT.fresh a b q with q | ⟨_,q,_⟩
  ·exact hT.C7 b (h.old a b q r)
  ·omega
 ·rw [←h.keep b q];by_cases hb: ∃a,β a b
  ·obtain ⟨a,nj⟩:=hb;exact hT.lock b (h.old a b nj q)
  ·exact hT.stay b (by omega) λa nj=>hb ⟨a,nj⟩
def Co(L C:Program)(W0:World)(Φ:Machine->Trace->Prop)(a:Frame)(k:List Frame)(u:World):Prop:=
 ∀(gs:Array Goroutine) (W:World) (sl:Option (Nat×Nat)) (t:Trace) (q:Nat->Nat) (cX:Loc->Prop) (β:Bj) (b:Frame) (k':List Frame),
  gs[0]? =some (gJ b k')->Qt C cX gs W.heap.size t q->Mn L C cX W0 β (a::k) (b::k') u W->jr C Φ (crowd gs W sl) t
theorem Li{gs:Array Goroutine}{W U V W1:World}{sl:Option (Nat×Nat)}{t:Trace}{q:Nat->Nat}{g g1:Goroutine}{bS:Bj}{es:Array Event}(h0:gs[0]? =some g)(hq:Qt C cX gs W.heap.size t q)(XV: ∀a b l,β a b->iM l b-> ¬cX l)
  (fb:stepG C true g W= .go g1 W1 es) (hT:mB β bS U V W W1) (hw:cn bS V W1) (sU: ∀e∈es,tj bS V e):
  ∃Aj ops,runT C (crowd gs W sl) 0=(.next (crowd Aj W1 sl),ops)/\Aj[0]? =some g1/\Qt C cX Aj W1.heap.size (t++ops) q:=by
 have bM:=runT_crowd_go (P:=C) (sl:=sl) (i:=0) h0 (by simpa using fb);have bG:=(qa1.1 h0).1;have aa9: ∀a b l,bS a b->iM l b-> ¬cX l:=λa b l hb hl hB=>by
  rcases hT.fresh a b hb with h | ⟨_,h,_⟩
  ·exact XV a b l h hl hB
  ·exact absurd (hq.vv l b hB hl) (qce.2 h)
 have touch: ∀op∈MemOp.ofEvents 0 g.frame.fn g.frame.place es, ∀x,op.act.touch? =some x-> ∃a b,iM x.loc b/\bS a b:=by
  intro op cM x hx;obtain ⟨e,he,ha⟩:=fA cM;rw [ha] at hx;have key: ∀b,iM e.loc b->(∃a,bS a b)->e.sync=false-> ∃a b,iM x.loc b/\bS a b:=λb hl ⟨a,nj⟩ hs=>by
   refine ⟨a,b, ?_,nj⟩;have wV:x.loc=e.loc:=by
    obtain ⟨l,wr,sy⟩:=e;simp only at hs;subst hs;cases l <;> first | (cases hx;rfl) | (cases wr <;> (cases hx;rfl)) | exact False.elim hl
   rw [wV];exact hl
  rcases sU e he with ⟨hs,⟨ad,a,h1,h2,_⟩ | ⟨r,a,h1,h2,_⟩⟩ | h
  ·exact key ad.block (by rw [h1];rfl) ⟨a,h2⟩ hs
  ·exact key r (by rw [h1];rfl) ⟨a,h2⟩ hs
  ·subst h;cases hx
 have Yd: ∀e∈es,e.loc≠ .mark .disable/\e.loc≠ .mark .enable:=λe he=>by
  rcases sU e he with ⟨_,⟨ad,a,h1,_⟩ | ⟨r,a,h1,_⟩⟩ | h
  ·rw [h1];exact ⟨by simp,by simp⟩
  ·rw [h1];exact ⟨by simp,by simp⟩
  ·subst h;exact ⟨by simp,by simp⟩
 have mo:((gs.map (woken C g g1 W1)).setIfInBounds 0 g1).size=gs.size:=by simp
 refine ⟨_,_,bM,ConcN.get_map_set_same _ _ _ bG,⟨λk GD yn=> ?_, ?_, ?_, ?_,λl b hB hl=>qa2 (hq.vv l b hB hl) hT.size⟩⟩
 ·rw [mo] at yn;obtain ⟨z,hz,wW⟩:=hq.wk k GD yn;refine ⟨z, ?_, ?_⟩
  ·rw [ConcN.get_map_set _ _ _ _ (by omega),hz,qac,woken_quitsD wW]
  ·rw [Deaf_other t (by omega) _ bP];exact wW
 ·rw [mo];refine hq.ti.app bP (qa8 _) id hT.size (λ_ _ h=>h) (λ_ _ h=> .inl h) TT (λop cM x hx b hb=> ?_) λop cM x hx=> ?_
  ·obtain ⟨a,c,h1,h2⟩:=touch op cM x hx;have:=iM.inj h1 hb;subst this;exact hw.Oq h2
  ·obtain ⟨a,c,h1,h2⟩:=touch op cM x hx;exact .inr (.inl ⟨id,aa9 a c _ h2 h1,rfl,λ_ h=>h.elim,λ_ _ h=>h.elim⟩)
 ·exact hq.ho.app bP (.inl rfl)
 ·rw [Deaf_own,hq.d0];exact ConcN.deafBehind_idle Yd 0
def On(u W:World):World:={ W with heap:=u.heap }
theorem mI(HP:gC L C)(HF:PF L C Xs){a:Frame}{k:List Frame}{u:World}(hk:k≠[]\/a.mode= .run)
  (h: ∀U:World,U.heap=u.heap->U.os=W0.os->U.output=W0.output-> ∃a1 k1 U1 es,stepG L true (gJ a (k++[cN])) U= .go (gJ a1 (k1++[cN])) U1 es/\(∀ch,a1.mode≠ .panicking ch)/\ ¬Xs a1.fn/\Co L C W0 Φ a1 k1 U1):Co L C W0 Φ a k u:=by
 intro gs W sl t q cX β b k' h0 hq hM;have hr:(gJ b k').status= .running:=rfl;refine uK (w:=W) (g:=gJ b k') hr ?_ _ gs W sl t q rfl h0 (.refl W) hq;clear h0 hq;intro gs W2 sl t q h0 ju hq;rw [←ju.heap] at hq;have vR:=hM.heap (u':=On u W2) rfl ju;obtain ⟨a1,k1,V,es,e1,e2,e3,e4⟩:=h (On u W2) rfl vR.os vR.output;have hB: ¬Go.Cx.cX (gJ a1 (k1++[cN])):=λ⟨ch,x⟩=>e2 ch x;have Ov:([]:List Frame)≠[]\/k≠[]\/a.mode= .run\/a.defers≠[]:=hk.elim (λh=> .inr (.inl h)) λh=> .inr (.inr (.inl h));obtain ⟨bS,W1,wN,Df,c1,ho,c2,c3,c4⟩:=tZ (m':=true) (t:=cN) (r:=[]) (bs':=[]) HP HF vR.sk Ov vR.wr (λj x=>rfl) e1 hB;rw [List.append_nil] at c1;have hD:=(wP HP HF vR.sk vR.wr e1 hB).2.2.1 vR.dw;obtain ⟨Aj,ops,r1,r2,r3⟩:=Li (sl:=sl) h0 hq vR.bad c1 c3 c2 c4;refine ⟨_,_,r1, ?_⟩;cases ho with
 | back _ _ hb _=>cases hb
 | on fb=>
  generalize Dj:gJ a1 (k1++[cN])=gg at fb;cases fb with
  | enter f hX hx GD=>
   simp only [Goroutine.mk.injEq] at Dj;exact absurd hX (by have:=Dj.1;subst this;exact e3)
  | @on x y kx ky u7=>
   simp only [Goroutine.mk.injEq,List.append_cancel_right_eq] at Dj;obtain ⟨rfl,rfl,_⟩:=Dj;rw [List.append_nil] at r2;exact e4 Aj W1 sl (t++ops) q cX bS y ky r2 r3 (vR.nb (sz:=0) hq.vv c3 u7 c2 hD)
theorem Lj{Q:Frame->World->Prop}(HP:gC L C)(HF:PF L C Xs)(hX: ∀f x k w,Xs f-> ¬yd L Q (Frame.enter L f x .normal) k w){cs:List Frame}
  (hQ: ∀a w,a.mode= .returning->a.defers=[]->a.roundOf=none->Q a w->Co L C W0 Φ a cs w) {a:Frame} {ks:List Frame} {w:World} (hW:yd L Q a ks w):
  ∀(gs:Array Goroutine) (W:World) (sl:Option (Nat×Nat)) (t:Trace) (q:Nat->Nat) (cX:Loc->Prop) (β:Bj) (b:Frame) (ks' cs':List Frame),
  gs[0]? =some (gJ b (ks'++cs'))->Qt C cX gs W.heap.size t q->(cs=[]/\cs'=[]\/cL L C β cs cs')->Mn L C cX W0 β (a::ks) (b::ks') w W->jr C Φ (crowd gs W sl) t:=by
 induction hW with
 | @done a w hm hd hq0=>
  intro gs W sl t q cX β b ks' cs' h0 hq hb hM;obtain ⟨rfl,hr⟩:ks'=[]/\a.roundOf=none:=by
   have:=hM.sk;cases this with
   | one _ hr=>exact ⟨rfl,hr⟩
   | cons _ h=>cases h
  refine hQ a w hm hd hr hq0 gs W sl t q cX β b cs' h0 hq (hM.fs ?_);rcases hb with ⟨rfl,rfl⟩ | hb
  ·exact hM.sk
  ·have fM:=hM.sk;cases fM with
   | one hf _=>exact .cons hf hb
   | cons hf hk=>exact .cons hf hb
 | @step a k w h1 h2 ih=>
  intro gs W sl t q cX β b ks' cs' h0 hq hb hM;refine uK (w:=W) (g:=gJ b (ks'++cs')) rfl ?_ _ gs W sl t q rfl h0 (.refl W) hq;clear h0 hq;intro gs W2 sl t q h0 ju hq;rw [←ju.heap] at hq;have vR:=hM.heap (u':=w) rfl ju;obtain ⟨bS,a1,k1,V,W1,wN,es,τ,e1,e2,e3,_,_,e4,e5,e6,⟨tJ,e7⟩,e8⟩:=GI (m:=true) (bs':=cs') HP HF vR.sk vR.wr h1 h2 .nil;obtain ⟨Aj,ops,r1,r2,r3⟩:=Li (sl:=sl) h0 hq vR.bad e1 e4 e3 e5;refine ⟨_,_,r1, ?_⟩;cases e2 with
  | enter f Oy _ _ ha _=>exact (hX f _ _ _ Oy (ha▸h2 _ _ _ _ _ e6 e7)).elim
  | @on b1 SR u7 hg=>
   subst hg;refine ih _ _ _ _ _ e6 e7 Aj W1 sl (t++ops) q cX bS b1 SR cs' r2 r3 ?_ ((vR.heap (u':=TW w τ) rfl (.refl W2)).nb (sz:=0) hq.vv e4 u7 e3 (e8 vR.dw));rcases hb with hb | hb
   ·exact .inl hb
   ·exact .inr (hb.mono e4.le)
theorem TV(HP:gC L C)(HF:PF L C Xs){a c:Frame}{cs:List Frame}{w:World}{v:Value}(hra:a.roundOf=none)(hE:Ends L a w v)(hco:Co L C W0 Φ (c.finish v) cs w):Co L C W0 Φ a (c::cs) w:=by
 intro gs W sl t q cX β b k' h0 hq hM;obtain ⟨c',cs',rfl⟩: ∃c' cs',k'=c'::cs':=by
  have:=hM.sk;cases this with
  | cons _ h=>cases h with
   | one _ _=>exact ⟨_,_,rfl⟩
   | cons _ _=>exact ⟨_,_,rfl⟩
 refine uK (w:=W) (g:=gJ b (c'::cs')) rfl ?_ _ gs W sl t q rfl h0 (.refl W) hq;clear h0 hq;intro gs W2 sl t q h0 ju hq;rw [←ju.heap] at hq;have vR:=hM.heap (u':=w) rfl ju;have fM:=vR.sk;have hr:a.roundOf=none/\cL L C β (c::cs) (c'::cs')/\jE L C β a b:=by
  cases fM with
  | cons hf hk=>exact ⟨hra,hk,hf⟩
 obtain ⟨_,bS,v',W1,es,τ,e1,e2,e3,e4,e5⟩:=GJ (m:=true) (t':=c') (r':=cs') HP HF (.one hr.2.2 hr.1) vR.wr hE;obtain ⟨Aj,ops,r1,r2,r3⟩:=Li (sl:=sl) h0 hq vR.bad (by simpa using e1) e4 (e3.heap (w':=TW w τ) rfl rfl) e5;refine ⟨_,_,r1,hco Aj W1 sl (t++ops) q cX bS _ _ r2 r3 ?_⟩;have AR:=hr.2.1.mono e4.le;exact ((vR.heap (u':=TW w τ) rfl (.refl W2)).nb (sz:=0) hq.vv e4 (AR.swap (AR.top.finish e2) (kS _ _)) (e3.heap rfl rfl) (vR.dw.heap rfl)).heap rfl (.refl W1)
end
end Go.Cx
namespace Go.Cx
open Go Go.Conc
section
variable[ba]
theorem I9.imp{L C C':Program}(h: ∀t,C.eqGuardType C.depth t=false->C'.eqGuardType C'.depth t=false){o:Op}(k:I9 L C o):I9 L C' o:=by
 cases o <;> try exact k
 case makeFunc fn xs ys=>cases fn <;> exact k
 case binOp op t x y u=>exact ⟨k.1,k.2.1,λq=>⟨(k.2.2 q).1,(k.2.2 q).2.1,h t (k.2.2 q).2.2⟩⟩
theorem cG.imp{L C C':Program}(h: ∀t,C.eqGuardType C.depth t=false->C'.eqGuardType C'.depth t=false){c:Code}(k:cG L C c):cG L C' c:=by
 induction k with
 | skip=>exact .skip
 | region id dr ho=>exact .region id dr λo q=>(ho o q).imp h
 | seq _ _ i1 i2=>exact .seq i1 i2
 | cond hc _ _ i1 i2=>exact .cond hc i1 i2
 | block id _ i=>exact .block id i
 | loop _ i=>exact .loop i
 | rangeFunc ps hf _ _ i1 i2=>exact .rangeFunc ps hf i1 i2
 | exit id=>exact .exit id
 | label l=>exact .label l
 | ret=>exact .ret
end
variable[ba][aH][bg]
section
variable{L C:Program}{β:Bj}
omit [aH] [bg] in
theorem qp.self(h: ∀t,C.eqGuardType C.depth t=false->L.eqGuardType L.depth t=false){a b:Item}(k:qp L C β a b):qp L L β a b:=by
 cases k with
 | code k=>exact .code (k.imp h)
 | inBlock id=>exact .inBlock id
 | inLoop k=>exact .inLoop (k.imp h)
 | inRegion t k=>exact .inRegion t λo q=>(k o q).imp h
 | mE k=>exact .mE k
 | lB k=>exact .lB k
 | beginRound=>exact .beginRound
omit [aH] [bg] in
theorem pn.self(h: ∀t,C.eqGuardType C.depth t=false->L.eqGuardType L.depth t=false){a b:List Item}(k:pn L C β a b):pn L L β a b:=by
 induction k with
 | nil=>exact .nil
 | cons k _ ih=>exact .cons (k.self h) ih
omit [aH] in
theorem jE.self(h: ∀t,C.eqGuardType C.depth t=false->L.eqGuardType L.depth t=false){a b:Frame}(k:jE L C β a b):jE L L β a b:=
 ⟨k.fn,k.tmps,k.todo.self h,k.defers,k.mode,k.kind,k.round,λq=>let ⟨fn,h1,_⟩:=k.ym q;⟨fn,h1,h1⟩⟩
omit [aH] in
theorem cL.self(h: ∀t,C.eqGuardType C.depth t=false->L.eqGuardType L.depth t=false){a b:List Frame}(k:cL L C β a b):cL L L β a b:=by
 induction k with
 | one k hr=>exact .one (k.self h) hr
 | cons k _ ih=>exact .cons (k.self h) ih
end
section
variable{L C:Program}{Xs:FuncId->Prop}{W0:World}{Φ:Machine->Trace->Prop}{R:Value->World->Prop}
theorem EA(HP:gC L L)(HF:PF L L (λ_=>False)){f:FuncId}{x:Array Value}{w:World}(hR: ∀v w τ,R v (TW w τ)->R v w)
  (H: ∀τ,Ag w.drawn τ w.tape->Calls L f x (TW w τ) fun | .returned v,w'=>R v w' | _,_=>False) (hI:Inv L (Frame.enter L f x .normal) [] w):yd L (Left L R) (Frame.enter L f x .normal) [] w:=by
 refine tree HP HF ?_ hI λτ oM=> ?_
 ·rintro a w τ ⟨v,h1,h2⟩;exact ⟨v,h1.tw,hR v w τ h2⟩
 ·obtain ⟨e,w',fr,h1,h2,h3,h4⟩:=H τ oM [cN];cases e with
  | returned v=>
   obtain ⟨n,hn⟩:=(show Steps L _ _ from h2);exact ⟨n,fr,w',v,hn,h4,v,Ends.of h4,h1⟩
  | _=>exact h1.elim
theorem Ak(HP:gC L C)(HF:PF L C Xs)(HPs:gC L L)(HFs:PF L L λ_=>False)(he: ∀t,C.eqGuardType C.depth t=false->L.eqGuardType L.depth t=false)
  (hX: ∀f x k w,Xs f-> ¬yd L (Left L R) (Frame.enter L f x .normal) k w) (hR: ∀v w τ,R v (TW w τ)->R v w)
  {f:FuncId} {x:Array Value} {c:Frame} {cs:List Frame} {u:World} (H: ∀U:World,U.heap=u.heap->U.os=W0.os->U.output=W0.output->Calls L f x U fun | .returned v,w'=>R v w' | _,_=>False) (K: ∀v w',R v w'->Co L C W0 Φ (c.finish v) cs w'):
  Co L C W0 Φ (Frame.enter L f x .normal) (c::cs) u:=by
 intro gs W sl t q cX β b k' h0 hq hM;have fM:=hM.sk;cases fM with
 | @cons _ _ _ _ hf hk=>
  have u7:cL L C β [Frame.enter L f x .normal] [b]:= .one hf rfl;have hW:yd L (Left L R) (Frame.enter L f x .normal) [] (On u W):=EA HPs HFs hR (λτ _=>H (TW (On u W) τ) rfl hM.os hM.output) ⟨β,_,[],W,u7.self he,hM.wr.heap rfl rfl,hM.dw.heap rfl⟩;exact Lj (cs:=c::cs) HP HF hX (λa w' _ _ hr ⟨v,h1,h2⟩=>TV HP HF hr h1 (K v w' h2)) hW gs W sl t q cX β b [] _ h0 hq (.inr hk) ((hM.heap (u':=On u W) rfl (.refl W)).fs u7)
end
end Go.Cx
namespace Go.Vc
open Go Go.Proofs Go.Vs
open Go.Conc (G base stepG_skip stepG_seq stepG_cond stepG_block stepG_inBlock stepG_loop stepG_inLoop stepG_exit stepG_region stepG_region_end stepG_end stepG_oper stepG_value stepG_none stepG_enter stepG_unwanted stepG_ret' enter_at)
open Go.Cx (ba aH bg gC PF mI Ak yd cN gJ Left TW)
structure Cq [ba][aH][bg] where
 L:Program
 C:Program
 Xs:FuncId->Prop
 W0:World
 Φ:Machine->Trace->Prop
 HP:gC L C
 HF:PF L C Xs
 HPs:gC L L
 HFs:PF L L λ_=>False
 he: ∀t,C.eqGuardType C.depth t=false->L.eqGuardType L.depth t=false
 hX: ∀Q f x k w,Xs f-> ¬yd L Q (Frame.enter L f x .normal) k w
 hC: ∀(f:FuncId) (x:Array Value) (w:World) (R:Value->World->Prop),Xs f-> ¬Calls L f x w fun | .returned v,w'=>R v w' | _,_=>False
section
variable[ba][aH][bg]
abbrev Cq.o(K:Cq):Os:=K.W0.os
abbrev Cq.out(K:Cq):Array (Nat×ByteArray):=K.W0.output
abbrev Cq.Co(K:Cq)(a:Frame)(k:List Frame)(w:World):Prop:=Go.Cx.Co K.L K.C K.W0 K.Φ a k w
variable{K:Cq}{f:FuncId}{b:Frame}{a a':Act}{t t' k:List Item}{cs:List Frame}{w w':World}{Q:Exit->Act->World->Prop}
theorem rZ{a:Frame}{k:List Frame}(h:K.Co a k w)(e:w'.heap=w.heap):K.Co a k w':=λgs W sl t q cX β b k' h0 hq hM=>h gs W sl t q cX β b k' h0 hq (hM.heap e.symm (.refl W))
theorem co_go(hx: ¬K.Xs b.fn)(h: ∀W:World,W.heap=w.heap->W.os=K.o->W.output=K.out-> ∃W1 es,stepG K.L true (G (b.at a t) (cs++[cN])) W= .go (G (b.at a' t') (cs++[cN])) W1 es/\K.Co (b.at a' t') cs W1):K.Co (b.at a t) cs w:=
 mI K.HP K.HF (.inr rfl) λW h1 h2 h3=>let ⟨W1,es,e1,e2⟩:=h W h1 h2 h3;⟨_,cs,W1,es,e1,nofun,hx,e2⟩
theorem mJ(hx: ¬K.Xs b.fn)(h: ∀W:World, ∃es,stepG K.L true (G (b.at a t) (cs++[cN])) W= .go (G (b.at a' t') (cs++[cN])) W es)(k:K.Co (b.at a' t') cs w):K.Co (b.at a t) cs w:=
 co_go hx λW h1 _ _=>let ⟨es,e⟩:=h W;⟨W,es,e,rZ k h1⟩
def Arr(K:Cq)(b:Frame)(k:List Item)(cs:List Frame):Exit->Act->World->Prop
 | .normal,a,w=>K.Co (b.at a k) cs w
 | .exit id,a,w=> ∃k',exitTo id k=some k'/\K.Co (b.at a k') cs w
 | .ret,a,w=> ∀todo,K.Co { b.at a todo with mode:= .returning } cs w
 | _,_,_=>False
def wpC(K:Cq)(f:FuncId)(c:Code)(Q:Exit->Act->World->Prop)(a:Act)(w:World):Prop:=
 ∀(b:Frame) (k:List Item) (cs:List Frame),(b.kind= .normal/\b.fn=f)-> ¬K.Xs b.fn->(∀e a' w',Q e a' w'->Arr K b k cs e a' w')->K.Co (b.at a (.code c::k)) cs w
def tl(K:Cq)(f:FuncId)(ops:Array Oper)(Q:Exit->Act->World->Prop)(l:List Oper)(a:Act)(w:World):Prop:=
 ∀(b:Frame) (k:List Item) (cs:List Frame) (i:Nat),(b.kind= .normal/\b.fn=f)-> ¬K.Xs b.fn->(∀j,l[j]? =ops[i+j]?)->(∀e a' w',Q e a' w'->Arr K b k cs e a' w')->K.Co (b.at a (.inRegion ops (List.range' i l.length)::k)) cs w
theorem bW{c:Code}(J:Exit->Act->World->Prop)(h:wpC K f c J a w)(q: ∀e a w,J e a w->Q e a w):wpC K f c Q a w:=λb k cs h1 h2 h3=>h b k cs h1 h2 λe a' w' hj=>h3 e a' w' (q e a' w' hj)
theorem eG(h:Q .normal a w):wpC K f .skip Q a w:=λb k cs _ h2 h3=>mJ h2 (λW=>⟨_,stepG_skip⟩) (h3 _ _ _ h)
theorem PC(h:Q .ret a w):wpC K f .ret Q a w:=λb k cs _ h2 h3=>by
 refine mI K.HP K.HF (.inr rfl) λW h1 _ _=>⟨_,cs,W,_,stepG_ret',nofun,h2,rZ (h3 _ _ _ h (.code .ret::k)) h1⟩
theorem dQ{i:Nat}(h:Q (.exit i) a w):wpC K f (.exit i) Q a w:=λb k cs _ h2 h3=>by
 obtain ⟨k',e1,e2⟩:=h3 _ _ _ h;exact mJ h2 (λW=>⟨_,stepG_exit e1⟩) e2
theorem dC{x y:Code}(h:wpC K f x (Exit.then (wpC K f y Q) Q) a w):wpC K f (.seq x y) Q a w:=λb k cs h1 h2 h3=>by
 refine mJ h2 (λW=>⟨_,stepG_seq⟩) (h b _ cs h1 h2 λe a' w' he=> ?_);cases e with
 | normal=>exact he b k cs h1 h2 h3
 | exit id=>obtain ⟨k',e1,e2⟩:=h3 _ _ _ he;exact ⟨k',by simpa [exitTo] using e1,e2⟩
 | ret=>exact h3 _ _ _ he
 | goto l=>exact (h3 _ _ _ he:False).elim
 | panic c=>exact (h3 _ _ _ he:False).elim
 | outgrown=>exact (h3 _ _ _ he:False).elim
theorem bU{id:Nat}{c:Code}(h:wpC K f c (Exit.inBlock id Q) a w):wpC K f (.block id c) Q a w:=λb k cs h1 h2 h3=>by
 refine mJ h2 (λW=>⟨_,stepG_block⟩) (h b _ cs h1 h2 λe a' w' he=> ?_);cases e with
 | normal=>exact mJ h2 (λW=>⟨_,stepG_inBlock⟩) (h3 .normal _ _ he)
 | exit i=>
  by_cases hi:i=id
  ·subst hi;have:Q .normal a' w':=by simpa [Exit.inBlock] using he
   exact ⟨k,by simp [exitTo],h3 _ _ _ this⟩
  ·have:Q (.exit i) a' w':=by simpa [Exit.inBlock,hi] using he
   obtain ⟨k',e1,e2⟩:=h3 _ _ _ this;exact ⟨k',by simpa [exitTo,hi,qbo hi] using e1,e2⟩
 | ret=>exact h3 .ret _ _ he
 | goto l=>exact (h3 (.goto l) _ _ he:False).elim
 | panic c=>exact (h3 (.panic c) _ _ he:False).elim
 | outgrown=>exact (h3 .outgrown _ _ he:False).elim
theorem cj{S R:Type}{c:Code}(g:S->Option (S⊕R)){s0:S}{r:R}(hr:cr g s0=some r)(J:S->Act->World->Prop)(h0:J s0 a w)
  (round: ∀s a w o,J s a w->g s=some o->(∀t,o= .inr t->t=r)->wpC K f c (Exit.then (λa' w'=> ∃s',o= .inl s'/\J s' a' w') Q) a w):wpC K f (.loop c) Q a w:=by
 intro b k cs h1 h2 h3;obtain ⟨n,hn⟩:=pq hr;refine mJ h2 (λW=>⟨_,stepG_loop⟩) ?_;clear hr
 induction n generalizing s0 a w with
 | zero=>cases hn
 | succ n ih=>
  obtain ⟨o,ho,hk⟩:=bind_some hn;refine round s0 a w o h0 ho (by rintro t rfl;exact qaf hk) b _ cs h1 h2 λe a' w' he=> ?_;cases e with
  | normal=>
   obtain ⟨s',rfl,hJ⟩:=he;exact mJ h2 (λW=>⟨_,stepG_inLoop⟩) (ih hJ hk)
  | exit id=>obtain ⟨k',e1,e2⟩:=h3 _ _ _ he;exact ⟨k',by simpa [exitTo] using e1,e2⟩
  | ret=>exact h3 _ _ _ he
  | goto l=>exact (h3 _ _ _ he:False).elim
  | panic c=>exact (h3 _ _ _ he:False).elim
  | outgrown=>exact (h3 _ _ _ he:False).elim
section
variable{n:Nat}{ρ:Nat->Value}
theorem Am{c:Operand}{x y:Code}(u:Bool)(hc:ev n ρ c= .bool u)(ht:u=true->wpC K f x Q (fr n ρ) w)(hf:u=false->wpC K f y Q (fr n ρ) w):wpC K f (.cond c x y) Q (fr n ρ) w:=λb k cs h1 h2 h3=>by
 refine mJ (a':=fr n ρ) (t':= .code (if u then x else y)::k) h2 (λW=>⟨_,stepG_cond (by rw [aO];exact hc)⟩) ?_;cases u with
 | true=>exact ht rfl b k cs h1 h2 h3
 | false=>exact hf rfl b k cs h1 h2 h3
theorem rg{id:Nat}{l:List Oper}(h:tl K f l.toArray Q l (fr n ρ) w):wpC K f (.region id l.toArray false) Q (fr n ρ) w:=λb k cs h1 h2 h3=>by
 refine mJ h2 (λW=>⟨_,stepG_region⟩) ?_;have:=h b k cs 0 h1 h2 (by simp) h3;rw [List.range_eq_range',qbk];exact this
theorem bo{ops:Array Oper}(h:Q .normal a w):tl K f ops Q [] a w:=λb k cs i h1 h2 _ h3=>mJ h2 (λW=>⟨_,stepG_region_end⟩) (h3 _ _ _ h)
variable{ops:Array Oper}{d:Nat}{v:Value}{rest:List Oper}{op:Op}{ty:TypeId}{pos:String}{af:Array Edge}{gd:Option (Nat×Bool)}
omit [ba] [aH] [bg] in
theorem WE{o:Oper}{i:Nat}(h: ∀j,(o::rest)[j]? =ops[i+j]?):ops[i]? =some o:=by simpa using (h 0).symm
omit [ba] [aH] [bg] in
theorem at1{o:Oper}{i:Nat}(h: ∀j,(o::rest)[j]? =ops[i+j]?): ∀j,rest[j]? =ops[(i+1)+j]? :=λj=>by have:=h (j+1);simpa [Nat.add_assoc,Nat.add_comm 1 j] using this
theorem A2(hw:Region.wanted ⟨some d,op,ty,pos,af,gd⟩ (yv ops n ρ)=true)(hr:dX K.L w.heap n ρ ⟨some d,op,ty,pos,af,gd⟩ v)(h:tl K f ops Q rest (fr n (upd ρ d v)) w):
  tl K f ops Q (⟨some d,op,ty,pos,af,gd⟩::rest) (fr n ρ) w:=λb k cs i h1 h2 hl h3=>by
 rw [qb5,List.range'_succ];refine co_go (a':=fr n (upd ρ d v)) (t':= .inRegion ops (List.range' (i+1) rest.length)::k) h2 λW e1 _ _=> ?_;have hs:=stepG_value (P:=K.L) (main:=true) (b:=b) (k:=k) (cs:=cs++[cN]) (rest:=List.range' (i+1) rest.length) (WE hl) (a:=fr n ρ) (by rw [eM];exact hw) (by rw [h1.1];simp) (by rw [aO];exact hr W e1);rw [cV] at hs;exact ⟨W,_,hs,rZ (h b k cs (i+1) h1 h2 (at1 hl) h3) e1⟩
theorem st(hr:dX K.L w.heap n ρ ⟨some d,op,ty,pos,af,none⟩ v)(k:tl K f ops Q rest (fr n (upd ρ d v)) w):tl K f ops Q (⟨some d,op,ty,pos,af,none⟩::rest) (fr n ρ) w:=A2 rfl hr k
theorem bT{j:Nat}{u:Bool}(hy:yv ops n ρ j=some u)(hr:dX K.L w.heap n ρ ⟨some d,op,ty,pos,af,some (j,u)⟩ v)(k:tl K f ops Q rest (fr n (upd ρ d v)) w):tl K f ops Q (⟨some d,op,ty,pos,af,some (j,u)⟩::rest) (fr n ρ) w:=
 A2 (aU rfl hy) hr k
theorem aba{o:Oper}(hw:Region.wanted o (yv ops n ρ)=false)(h:tl K f ops Q rest ((fr n ρ).put o.dst undef) w):tl K f ops Q (o::rest) (fr n ρ) w:=λb k cs i h1 h2 hl h3=>by
 rw [qb5,List.range'_succ];exact mJ h2 (λW=>⟨_,stepG_unwanted (WE hl) (by rw [eM];exact hw)⟩) (h b k cs (i+1) h1 h2 (at1 hl) h3)
theorem aj{j:Nat}{u:Bool}(hy:yv ops n ρ j=some (!u))(k:tl K f ops Q rest (fr n (upd ρ d undef)) w):tl K f ops Q (⟨some d,op,ty,pos,af,some (j,u)⟩::rest) (fr n ρ) w:=aba (uL rfl hy) (by rw [cV];exact k)
end
end
end Go.Vc
namespace Go.Vc
open Go Go.Proofs Go.Vs
open Go.Conc (G base stepG_skip stepG_seq stepG_cond stepG_block stepG_inBlock stepG_loop stepG_inLoop stepG_exit stepG_region stepG_region_end stepG_end stepG_oper stepG_value stepG_none stepG_enter stepG_unwanted stepG_ret' enter_at)
open Go.Cx (ba aH bg gC PF mI Ak yd cN gJ Left TW)
section
variable[ba][aH][bg]
variable{K:Cq}{f0:FuncId}{ar σ:St}{S0:BS}{A B R Ln L':List Ch}{n:Nat}{ρ:Nat->Value}{Rz:Value->St->Prop}{Q:Exit->Act->World->Prop}{w:World}
variable{ops:Array Oper}{d:Nat}{v:Value}{rest:List Oper}{op:Op}{ty:TypeId}{pos:String}{af:Array Edge}{gd:Option (Nat×Bool)}{dst:Option Nat}
def Lo(K:Cq)(σ:St):Prop:=σ.dR/\σ.w.os=K.o/\σ.w.output=K.out
theorem Lo.on(h:Lo K ar)(H:Hp S0 ar σ L'):Lo K σ:=⟨by rw [H.md.dR];exact h.1,H.md.os.trans h.2.1,H.md.output.trans h.2.2⟩
def St.at(σ:St)(W:World)(h:W.heap=σ.w.heap):St:=⟨W,σ.fV,λb hb=>σ.ok b (by rw [←h];exact hb),σ.dR⟩
theorem abb(h:Lo K σ){W:World}(e:W.heap=σ.w.heap)(e1:W.os=K.o)(e2:W.output=K.out):Md (λ_=>False) σ (St.at σ W e):=
 ⟨e1.trans h.2.1.symm, .inl h.1,e2.trans h.2.2.symm, .inl h.1,rfl,⟨qav (by simp only [St.size,St.at,e]),λb _=>by simp only [St.at,e],λb=>qa3 _⟩,λb _ _=>by simp only [St.at,e],λ_ _ _=>rfl⟩
theorem Lo.to(h:Lo K ar)(H:Hp S0 ar σ L'){W:World}(e:W.heap=σ.w.heap)(e1:W.os=K.o)(e2:W.output=K.out):Hp S0 ar (St.at σ W e) L':=H.grow (abb (h.on H) e e1 e2)
def Cxc(K:Cq)(σ:St)(n:Nat)(ρ:Nat->Value)(o:Oper)(Rz:Value->St->Prop):Prop:=
 ∃f args,(∀W:World,W.heap=σ.w.heap->W.os=K.o->W.output=K.out->Enters K.L n ρ o f args W/\Calls K.L f args.toArray W λe w'=> ∃v σ',e= .returned v/\w'=σ'.w/\Rz v σ')/\
  (∀v σ' τ (w:World),σ'.w=TW w τ->Rz v σ'-> ∃km,w=km.w/\Rz v km)
theorem GS(hL:Lo K ar){v:Value}{σ':St}{τ:Tape}{w:World}(e:σ'.w=TW w τ)(H:Hp S0 ar σ' L'): ∃km:St,w=km.w/\km.size=σ'.size/\Hp S0 ar km L':=by
 have h1:w.heap=σ'.w.heap:=by rw [e]
 have h2:w.os=σ'.w.os:=by rw [e]
 have h3:w.output=σ'.w.output:=by rw [e]
 have hl:=hL.on H;exact ⟨St.at σ' w h1,rfl,by simp only [St.size,St.at,h1],hL.to H h1 (h2.trans hl.2.1) (h3.trans hl.2.2)⟩
theorem bu{f:FuncId}{args:List Value}{post:Nat->Value->List Ch->Prop}{o:Oper}(hL:Lo K ar)(hc:bN K.L f args A post)(he: ∀w,Enters K.L n ρ o f args w){m:Nat}(hm:m<=ar.size)(H:Hp S0 ar σ (A++R)):
  Cxc K σ n ρ o λv σ'=> ∃L',post m v L'/\Hp S0 ar σ' (L'++R)/\True:=by
 refine ⟨f,args,λW e e1 e2=>⟨he W, ?_⟩, ?_⟩
 ·have H1:=hL.to H e e1 e2;refine (hc.frame H1 (qaa hm H1.size)).mono ?_;rintro _ w' ⟨v,σ',L',rfl,rfl,hp,H',_⟩;exact ⟨v,σ',rfl,rfl,L',hp,H',trivial⟩
 ·rintro v σ' τ w e ⟨L',hp,H',_⟩;obtain ⟨km,h1,_,h2⟩:=GS (v:=v) hL e H';exact ⟨km,h1,L',hp,h2,trivial⟩
theorem qu{f:FuncId}{args:List Value}{post:Nat->Value->List Ch->Prop}{o:Oper}(hL:Lo K ar)(hl:gD Ln A B)(hc:bN K.L f args B post)(he: ∀w,Enters K.L n ρ o f args w)(H:Hp S0 ar σ (Ln++(A++R)))(nj: ∀m v L',post m v L'->wX m L'):
  Cxc K σ n ρ o λv σ'=> ∃L',post σ.size v L'/\Hp S0 ar σ' (L'++(Ln++R))/\True/\ar.size<=σ.size:=by
 refine ⟨f,args,λW e e1 e2=>⟨he W, ?_⟩, ?_⟩
 ·have H1:=hL.to H e e1 e2;refine (hc.sb hl H1 nj).mono ?_;rintro _ w' ⟨v,σ',L',rfl,rfl,hp,H',_⟩;have hs:(St.at σ W e).size=σ.size:=by simp only [St.size,St.at,e]
  rw [hs] at hp;exact ⟨v,σ',rfl,rfl,L',hp,H',trivial,H.size⟩
 ·rintro v σ' τ w e ⟨L',hp,H',_,h3⟩;obtain ⟨km,h1,_,h2⟩:=GS (v:=v) hL e H';exact ⟨km,h1,L',hp,h2,trivial,h3⟩
theorem bZ(hc:Cxc K σ n ρ ⟨some d,op,ty,pos,af,gd⟩ Rz)(hw:Region.wanted ⟨some d,op,ty,pos,af,gd⟩ (yv ops n ρ)=true)
  (k: ∀v (σ':St),Rz v σ'->tl K f0 ops Q rest (fr n (upd ρ d v)) σ'.w):tl K f0 ops Q (⟨some d,op,ty,pos,af,gd⟩::rest) (fr n ρ) σ.w:=by
 obtain ⟨f,args,hc,hR⟩:=hc;intro b kk cs i h1 h2 hl h3;rw [qb5,List.range'_succ];refine mI K.HP K.HF (.inr rfl) λW e e1 e2=> ?_;obtain ⟨he,hC⟩:=hc W e e1 e2;have hC': ∀W:World,W.heap=σ.w.heap->W.os=K.o->W.output=K.out->Calls K.L f args.toArray W fun | .returned v,w'=> ∃σ',w'=σ'.w/\Rz v σ' | _,_=>False:=λW e e1 e2=>by
  refine (hc W e e1 e2).2.mono ?_;rintro _ w' ⟨v,σ',rfl,rfl,h⟩;exact ⟨σ',rfl,h⟩
 have hs:=stepG_enter (P:=K.L) (main:=true) (b:=b) (k:=kk) (cs:=cs++[cN]) (rest:=List.range' (i+1) rest.length) (WE hl) (a:=fr n ρ) (by rw [eM];exact hw) (by rw [h1.1];simp) (by rw [aO];exact he);refine ⟨_,_::cs,W,_,hs,nofun,λhx=>K.hC f _ W (λv w'=> ∃σ',w'=σ'.w/\Rz v σ') hx (hC' W e e1 e2), ?_⟩;refine Ak (R:=λv w'=> ∃σ',w'=σ'.w/\Rz v σ') K.HP K.HF K.HPs K.HFs K.he (K.hX _) (λv w τ ⟨σ',q1,q2⟩=>hR v σ' τ w q1.symm q2) (λW' q q1 q2=>hC' W' (q.trans e) q1 q2) λv w' ⟨σ',q1,q2⟩=> ?_;subst q1;rw [Frame.finish_at,WE hl];have:=k v σ' q2 b kk cs (i+1) h1 h2 (at1 hl) h3;rw [←cV] at this;exact this
structure GU(K:Cq)(f:FuncId)(args:List Value)(pre:List Ch)(K0:World->Prop)(post:Nat->Value->List Ch->Prop):Prop where
 fn: ∃fn c,K.L.funcs[f]? =some fn/\(fn.name== "runtime.NumGoroutine")=false/\fn.body=some c
 co: ∀(σ:St) (m:Nat),m<=σ.size->Lo K σ->Hp (dD pre) σ σ pre->K0 σ.w-> ∀(a:Frame) (cs:List Frame),a.mode= .run-> ¬K.Xs a.fn->
  (∀W:World,W.heap=σ.w.heap->W.os=K.o->W.output=K.out-> ∃es,stepG K.L true (gJ a (cs++[cN])) W= .go (gJ (Frame.enter K.L f args.toArray .normal) (a::(cs++[cN]))) W es)->
  (∀v σ' L',post m v L'->Hp (dD pre) σ σ' L'->K.Co (a.finish v) cs σ'.w)->K.Co a cs σ.w
theorem GV{f:FuncId}{args:List Value}{o:Oper}{W:World}{b:Frame}{k:List Item}{cs:List Frame}{i:Nat}{PD:List Nat}(he:Enters K.L n ρ o f args W)(ho:ops[i]? =some o)(hw:Region.wanted o (yv ops n ρ)=true)(h1:b.kind= .normal/\b.fn=f0):
  ∃es,stepG K.L true (gJ (b.at (fr n ρ) (.inRegion ops (i::PD)::k)) cs) W= .go (gJ (Frame.enter K.L f args.toArray .normal) (b.at (fr n ρ) (.inRegion ops (i::PD)::k)::cs)) W es:=
 ⟨_,stepG_enter (P:=K.L) (main:=true) (b:=b) (k:=k) (cs:=cs) (rest:=PD) ho (a:=fr n ρ) (by rw [eM];exact hw) (by rw [h1.1];simp) (by rw [aO];exact he)⟩
theorem PE{f:FuncId}{args:List Value}{K0:World->Prop}{post:Nat->Value->List Ch->Prop}(hc:GU K f args A K0 post)(he: ∀w,Enters K.L n ρ ⟨some d,op,ty,pos,af,gd⟩ f args w)(hL:Lo K ar){m:Nat}(hm:m<=ar.size)(H:Hp S0 ar σ (A++R))(h0:K0 σ.w)
  (hw:Region.wanted ⟨some d,op,ty,pos,af,gd⟩ (yv ops n ρ)=true) (k: ∀v (σ':St),(∃L',post m v L'/\Hp S0 ar σ' (L'++R)/\True)->tl K f0 ops Q rest (fr n (upd ρ d v)) σ'.w):tl K f0 ops Q (⟨some d,op,ty,pos,af,gd⟩::rest) (fr n ρ) σ.w:=by
 intro b kk cs i h1 h2 hl h3;rw [qb5,List.range'_succ];refine hc.co σ m (qaa hm H.size) (hL.on H) (Hp.begin (dY.1 H.all).1 (eL.1 H.ap).1) h0 _ cs rfl h2 (λW _ _ _=>GV (he W) (WE hl) hw h1) λv σ' L' hp H'=> ?_;rw [Frame.finish_at,WE hl];have:=k v σ' ⟨L',hp,H.frame H',trivial⟩ b kk cs (i+1) h1 h2 (at1 hl) h3;rw [←cV] at this;exact this
omit [ba] [aH] [bg] in
theorem Ye(hl:gD Ln A B)(H:Hp S0 ar σ (Ln++(A++R))): ∃rU:St,rU.w=σ.w/\rU.dR=σ.dR/\Hp (dD B) rU rU B/\
  ∀il L',wX σ.size L'->Hp (dD B) rU il L'-> ∃jk:St,jk.w=il.w/\Hp S0 ar jk (L'++(Ln++R)):=by
 classical
 obtain ⟨a1,a23⟩:=dY.1 H.all;obtain ⟨a2,a3⟩:=dY.1 a23;obtain ⟨p1,p23,p4⟩:=eL.1 H.ap;obtain ⟨p2,p3,p5⟩:=eL.1 p23;have pA: ∀b,dD A b-> ¬dD Ln b:=λb hb h=>p4 b h (bI.2 (.inl hb));have pR: ∀b,dD R b-> ¬dD Ln b:=λb hb h=>p4 b h (bI.2 (.inr hb));obtain ⟨rU,pp,aB⟩:=hl.PG a1 p1 a2 pA;have mo:rU.size=σ.size:=by unfold St.size;rw [pp.w]
 have Hb:Hp (dD B) rU rU B:=Hp.begin aB (hl.apart p2);refine ⟨rU,pp.w,pp.dR,Hb,λil L' nj H'=> ?_⟩;have TX:=hl.dD;have hle:σ.size<=il.size:=mo▸H'.md.size
 let jk:St:=⟨il.w,λc=>if dD Ln c then σ.fV c else il.fV c,λb hb=>by
  have: ¬dD Ln b:=λh=>absurd (qa2 (lD a1 b h) hle) (qce.2 hb);rw [if_neg this];exact il.ok b hb,il.dR⟩
 have O5: ∀b,dD Ln b->jk.fV b=σ.fV b:=λb h=>if_pos h;have vI: ∀b, ¬dD Ln b->jk.fV b=il.fV b:=λb h=>if_neg h;have m3:Md (dD A) σ jk:=by
  refine ⟨?_, ?_, ?_, ?_,H'.md.dR.trans pp.dR,⟨hle,λb ho=> ?_,λb=> ?_⟩,λb hb hn=> ?_,λb hb hn=> ?_⟩
  ·exact H'.md.os.trans (by rw [pp.w])
  ·have:=H'.md.tape;rw [pp.w,pp.dR] at this;exact this
  ·exact H'.md.output.trans (by rw [pp.w])
  ·have:=H'.md.dr;rw [pp.w,pp.dR] at this;exact this
  ·have h1:il.w.heap[b]? =rU.w.heap[b]? :=H'.md.ext.block b (qa2 ho (pp.le b));show il.w.heap[b]? =_;rw [h1,pp.w]
  ·by_cases h:dD Ln b
   ·exact qav (O5 b h).symm
   ·rw [vI b h];exact qaa (pp.le b) (H'.md.ext.fV b)
  ·have:=H'.md.block b (by rw [mo];exact hb) (λh=>hn ((TX b).1 h));rw [pp.w] at this;exact this
  ·by_cases h:dD Ln b
   ·exact O5 b h
   ·rw [vI b h,H'.md.fV b (by rw [mo];exact hb) (λh=>hn ((TX b).1 h)),pp.fV b h]
 have EB: ∀b,dD L' b->b<σ.size->dD A b:=λb hb bG=>(TX b).1 (H'.Cr b hb (by rw [mo];exact bG));have aL':iQ jk L':=A6 (σ:=il) (σ':=jk) rfl nj (λb hb=>by
  refine vI b λh=> ?_;have bG:=lD a1 b h;rcases hb with hb | hb
  ·omega
  ·exact pA b (EB b hb bG) h) H'.all
 refine ⟨jk,rfl,⟨H.md.step m3 (λi hi h=>H.Cr i (bI.2 (.inr (bI.2 (.inl h)))) hi),dY.2 ⟨aL',dY.2 ⟨iz a1 m3 (λb hb h=>pA b h hb),iz a3 m3 (λb hb h=>p5 b h hb)⟩⟩,
  eL.2 ⟨H'.ap,eL.2 ⟨p1,p3,λb hb h=>pR b h hb⟩,λb hb fT=> ?_⟩,λb hb bG=> ?_⟩⟩
 ·rcases bI.1 fT with h | h
  ·exact pA b (EB b hb (lD a1 b h)) h
  ·exact p5 b (EB b hb (lD a3 b h)) h
 ·rcases bI.1 hb with hb | hb
  ·exact H.Cr b (bI.2 (.inr (bI.2 (.inl (EB b hb (qa2 bG H.md.size)))))) bG
  ·rcases bI.1 hb with hb | hb
   ·exact H.Cr b (bI.2 (.inl hb)) bG
   ·exact H.Cr b (bI.2 (.inr (bI.2 (.inr hb)))) bG
theorem PH{f:FuncId}{args:List Value}{K0:World->Prop}{post:Nat->Value->List Ch->Prop}(hl:gD Ln A B)(hc:GU K f args B K0 post)(he: ∀w,Enters K.L n ρ ⟨some d,op,ty,pos,af,gd⟩ f args w)(hL:Lo K ar)(H:Hp S0 ar σ (Ln++(A++R)))(h0:K0 σ.w)(nj: ∀m v L',post m v L'->wX m L')
  (hw:Region.wanted ⟨some d,op,ty,pos,af,gd⟩ (yv ops n ρ)=true) (k: ∀v (σ':St),(∃L',post σ.size v L'/\Hp S0 ar σ' (L'++(Ln++R))/\True/\ar.size<=σ.size)->tl K f0 ops Q rest (fr n (upd ρ d v)) σ'.w):tl K f0 ops Q (⟨some d,op,ty,pos,af,gd⟩::rest) (fr n ρ) σ.w:=by
 intro b kk cs i h1 h2 hll h3;rw [qb5,List.range'_succ];obtain ⟨rU,q1,q2,Hb,hk⟩:=Ye hl H;have mo:rU.size=σ.size:=by unfold St.size;rw [q1]
 have hLp:Lo K rU:=⟨by rw [q2];exact (hL.on H).1,by rw [q1];exact (hL.on H).2.1,by rw [q1];exact (hL.on H).2.2⟩;have:=hc.co rU σ.size (qav mo.symm) hLp Hb (by rw [q1];exact h0) (b.at (fr n ρ) (.inRegion ops (i::List.range' (i+1) rest.length)::kk)) cs rfl h2 (λW _ _ _=>GV (he W) (WE hll) hw h1) λv σ' L' hp H'=> ?_
 ·rw [q1] at this;exact this
 ·obtain ⟨jk,r1,r2⟩:=hk σ' L' (nj _ _ _ hp) H';rw [Frame.finish_at,WE hll, ←r1];have:=k v jk ⟨L',hp,r2,trivial,H.size⟩ b kk cs (i+1) h1 h2 (at1 hll) h3;rw [←cV] at this;exact this
def BpC(K:Cq)(fn:Func)(wY:Value->World->Prop):Exit->Act->World->Prop
 | .normal,a,w | .ret,a,w=>a.defers=[]/\ ∃v,(∀W,(results fn a.tmps).run K.L W= .ok v W)/\wY v w
 | _,_,_=>False
def A7(post:Value->List Ch->Prop)(ar:St)(S0:BS)(v:Value)(w':World):Prop:= ∃σ' L',w'=σ'.w/\post v L'/\Hp S0 ar σ' L'
theorem lP{fn:Func}{post:Value->List Ch->Prop}(hr: ∀W,(results fn (fr n ρ).tmps).run K.L W= .ok v W)(hp:post v L')(H:Hp S0 ar σ L'):BpC K fn (A7 post ar S0) .ret (fr n ρ) σ.w:=⟨rfl,v,hr,σ,L',rfl,hp,H⟩
omit [ba] [aH] [bg] in
theorem PI{P:Program}{b:Frame}{a:Act}{todo:List Item}{c:Frame}{cs:List Frame}{fn:Func}(hn:b.kind= .normal)(hd:a.defers=[])(hf:P.funcs[b.fn]? =some fn)(hr:(results fn a.tmps).run P w= .ok v w):
  ∃es,stepG P true (gJ { b.at a todo with mode:= .returning } (c::cs)) w= .go (gJ (c.finish v) cs) w es:=by
 simp [stepG,unwind,doReturn,Frame.at,hn,hd,hf,hr,GStep.after]
theorem aeH{f:FuncId}{fn:Func}{c:Code}{l:List Value}{pre:List Ch}{K0:World->Prop}{post:Nat->Value->List Ch->Prop}(Oy: ¬K.Xs f)(hf:K.L.funcs[f]? =some fn)(Pm:(fn.name== "runtime.NumGoroutine")=false)(hb:fn.body=some c)(hn:fn.ntmps=n)(hlen:Nat.ble l.length n=true)
  (h: ∀(S0:BS) (ar:St) (n0:Nat),n0<=ar.size->Lo K ar->K0 ar.w->S0=dD pre->Hp S0 ar ar pre->wpC K f c (BpC K fn (A7 (post n0) ar S0)) (fr n (eN l)) ar.w):GU K f l pre K0 post:=by
 refine ⟨⟨fn,c,hf,Pm,hb⟩,λσ m hm hL H h0 a cs ha Jv he hk=> ?_⟩;refine mI K.HP K.HF (.inr ha) λW e e1 e2=> ?_;obtain ⟨es,hs⟩:=he W e e1 e2;have yc:(Frame.enter K.L f l.toArray .normal).fn=f:=by rw [enter_at _ hf hb];rfl
 refine ⟨_,a::cs,W,es,hs,by rw [enter_at _ hf hb];nofun,by rw [yc];exact Oy,rZ ?_ e⟩;have qY:=oN l n (by simpa using hlen);rw [enter_at _ hf hb,qbk,hn,qY];have MX: ∀a' w' todo,(a'.defers=[]/\ ∃v,(∀W,(results fn a'.tmps).run K.L W= .ok v W)/\A7 (post m) σ (dD pre) v w')->K.Co { (base f).at a' todo with mode:= .returning } (a::cs) w':=by
  rintro a' w' todo ⟨hd,v,hr,σ',L',rfl,hp,H'⟩;refine mI K.HP K.HF (.inl (by simp)) λW e _ _=> ?_;obtain ⟨es,hs⟩:=PI (P:=K.L) (b:=base f) (a:=a') (todo:=todo) (c:=a) (cs:=cs++[cN]) rfl hd hf (hr W);have TF:(a.finish v).mode= .run:=(Go.Cx.kj a v).trans ha;have aeI:(a.finish v).fn=a.fn:=by unfold Frame.finish;split <;> rfl
  exact ⟨a.finish v,cs,W,es,hs,λch=>(by rw [TF];nofun),by rw [aeI];exact Jv,rZ (hk v σ' L' hp H') e⟩
 refine h (dD pre) σ m hm hL h0 rfl H (base f) [] (a::cs) ⟨rfl,rfl⟩ Oy λe a' w' q=> ?_;cases e with
 | normal=>exact mI K.HP K.HF (.inr rfl) λW e _ _=>⟨_,a::cs,W,_,stepG_end,nofun,Oy,rZ (MX a' w' [] q) e⟩
 | ret=>exact λtodo=>MX a' w' todo q
 | exit id=>exact q.elim
 | goto l=>exact q.elim
 | panic ch=>exact q.elim
 | outgrown=>exact q.elim
end
end Go.Vc
namespace Go.Vc
open Go Go.Proofs Go.Vs
open Go.Conc (G base stepG_end enter_at)
open Go.Cx (ba aH bg gC PF mI Ak yd cN gJ Left TW)
section
variable[ba][aH][bg]
variable{K:Cq}{ar σ:St}{S0:BS}{n:Nat}{ρ:Nat->Value}{Q:Exit->Act->World->Prop}{w:World}
def zm(K:Cq)(f:FuncId)(l:List Value)(pre:List Ch)(K0:World->Prop)(post:Nat->Value->List Ch->Prop):Prop:=
 ∃fn c n,K.L.funcs[f]? =some fn/\(fn.name== "runtime.NumGoroutine")=false/\fn.body=some c/\fn.ntmps=n/\Nat.ble l.length n=true/\
  ∀(S0:BS) (ar:St) (n0:Nat),n0<=ar.size->Lo K ar->K0 ar.w->S0=dD pre->Hp S0 ar ar pre->wpC K f c (BpC K fn (A7 (post n0) ar S0)) (fr n (eN l)) ar.w
variable{f:FuncId}{l:List Value}{pre:List Ch}{K0:World->Prop}{post:Nat->Value->List Ch->Prop}
theorem WG{fn:Func}{c:Code}(hf:K.L.funcs[f]? =some fn)(Pm:(fn.name== "runtime.NumGoroutine")=false)(hb:fn.body=some c)(hn:fn.ntmps=n)(hlen:Nat.ble l.length n=true)
 (h: ∀(S0:BS) (ar:St) (n0:Nat),n0<=ar.size->Lo K ar->K0 ar.w->S0=dD pre->Hp S0 ar ar pre->wpC K f c (BpC K fn (A7 (post n0) ar S0)) (fr n (eN l)) ar.w):zm K f l pre K0 post:=⟨fn,c,n,hf,Pm,hb,hn,hlen,h⟩
theorem zm.cal(Oy: ¬K.Xs f)(h:zm K f l pre K0 post):GU K f l pre K0 post:=by
 obtain ⟨fn,c,n,h1,h2,h3,h4,h5,h6⟩:=h;exact aeH Oy h1 h2 h3 h4 h5 h6
def Fin(K:Cq)(f:FuncId)(post:Value->List Ch->Prop)(σ:St)(S0:BS):Prop:=
 ∀(fn:Func) (a:Act) (todo:List Item) (v:Value) (w:World),K.L.funcs[f]? =some fn->a.defers=[]->(∀W,(results fn a.tmps).run K.L W= .ok v W)->A7 post σ S0 v w->K.Co { (base f).at a todo with mode:= .returning } [] w
theorem zm.top(Oy: ¬K.Xs f)(h:zm K f l pre K0 post){m:Nat}(hm:m<=σ.size)(hL:Lo K σ)(H:Hp (dD pre) σ σ pre)(h0:K0 σ.w)(hF:Fin K f (post m) σ (dD pre)):K.Co (Frame.enter K.L f l.toArray .normal) [] σ.w:=by
 obtain ⟨fn,c,n,hf,Pm,hb,hn,hlen,h⟩:=h;have qY:=oN l n (by simpa using hlen);rw [enter_at _ hf hb,qbk,hn,qY];refine h (dD pre) σ m hm hL h0 rfl H (base f) [] [] ⟨rfl,rfl⟩ Oy λe a' w' q=> ?_;cases e with
 | normal=>exact mI K.HP K.HF (.inr rfl) λW e _ _=>⟨_,[],W,_,stepG_end,nofun,Oy,rZ (let ⟨hd,v,hr,hp⟩:=q;hF fn a' [] v w' hf hd hr hp) e⟩
 | ret=>exact λtodo=>let ⟨hd,v,hr,hp⟩:=q;hF fn a' todo v w' hf hd hr hp
 | exit id=>exact q.elim
 | goto l=>exact q.elim
 | panic ch=>exact q.elim
 | outgrown=>exact q.elim
def Cb(v:Value)(w:World):Prop:= ∀b,blk v=some b-> ∃cs T e,w.heap[b]? =some (.cells cs T e)
omit [ba] [aH] [bg] in
theorem Cb.own{α:Type}[Rp α]{lo el:Nat}{v:Value}{xs:List α}(h:Ow σ lo el v xs):Cb v σ.w:=by
 intro b hb;rcases h with ⟨rfl,_⟩ | ⟨b',o,c,C,T,rfl,_,h3,_⟩
 ·cases hb
 ·cases hb;exact ⟨C,T,_,h3⟩
omit [ba] [aH] [bg] in
theorem Cb.to{v:Value}{L:List Ch}(h:Cb v ar.w)(H:Hp S0 ar σ L)(hS: ∀b, ¬S0 b):Cb v σ.w:=by
 intro b hb;obtain ⟨cs,T,e,hq⟩:=h b hb;have bG:b<ar.size:=(qa1.1 hq).1;exact ⟨cs,T,e,by rw [H.md.block b bG (hS b)];exact hq⟩
end
end Go.Vc
namespace Go.Vc
open Go Go.Proofs Go.Vs
open Go.Cx (ba aH bg gC PF Lj yd cN gJ Left TW tree cL Mn On)
end Go.Vc
namespace Go.Vc
open Go Go.Proofs Go.Vs
open Go.Cx (ba aH bg)
section
variable[ba][aH][bg]
variable{K:Cq}{f0:FuncId}{ar σ:St}{S0:BS}{A B R Ln L':List Ch}{n:Nat}{ρ:Nat->Value}{Q:Exit->Act->World->Prop}{w:World}
variable{ops:Array Oper}{d:Nat}{v:Value}{rest:List Oper}{op:Op}{x:Operand}{ty:TypeId}{pos:String}{af:Array Edge}
theorem sv(v:Value)(hr:dX K.L w.heap n ρ ⟨some d,op,ty,pos,af,none⟩ v)(k:tl K f0 ops Q rest (fr n (upd ρ d v)) w):tl K f0 ops Q (⟨some d,op,ty,pos,af,none⟩::rest) (fr n ρ) w:=st hr k
theorem aw(v:Value)(k:tl K f0 ops Q rest (fr n (upd ρ d v)) w)(h:ev n ρ x=v:=by exact rfl):tl K f0 ops Q (⟨some d, .move x,ty,pos,af,none⟩::rest) (fr n ρ) w:=st (ai h) k
theorem aN(v:Value)(k:tl K f0 ops Q rest (fr n (upd ρ d v)) w)(h:ev n ρ x=v:=by exact rfl):tl K f0 ops Q (⟨some d, .assign x,ty,pos,af,none⟩::rest) (fr n ρ) w:=st (uM h) k
theorem gr{c:Operand}{x y:Code}{α:Type}{b:Bool}{u v z:α}(h:(bif b then u else v)=z)(ht:b=true->u=z->wpC K f0 x Q (fr n ρ) w)(hf:b=false->v=z->wpC K f0 y Q (fr n ρ) w)(hc:ev n ρ c= .bool b:=by exact rfl):
 wpC K f0 (.cond c x y) Q (fr n ρ) w:=Am b hc (λe=>ht e (WH e h)) (λe=>hf e (WI e h))
theorem cl{f:FuncId}{xs:Array Operand}{Ts:Array TypeId}{args:List Value}{post:Nat->Value->List Ch->Prop}{m:Nat}(hL:Lo K ar)(hc:bN K.L f args A post)(hm:m<=ar.size)(H:Hp S0 ar σ (A++R))
 (k: ∀v (σ':St),(∃L',post m v L'/\Hp S0 ar σ' (L'++R))->tl K f0 ops Q rest (fr n (upd ρ d v)) σ'.w) (hx:xs.toList.map (ev n ρ)=args:=by exact rfl):
 tl K f0 ops Q (⟨some d, .call ⟨.value (.func f),xs,Ts⟩,ty,pos,af,none⟩::rest) (fr n ρ) σ.w:=bZ (bu hL hc (λ_=>dE hc.fn hx) hm H) wn λv σ' ⟨L',a,b,_⟩=>k v σ' ⟨L',a,b⟩
theorem ll{f:FuncId}{xs:Array Operand}{Ts:Array TypeId}{args:List Value}{post:Nat->Value->List Ch->Prop}(hL:Lo K ar)(hl:gD Ln A B)(hc:bN K.L f args B post)(H:Hp S0 ar σ (Ln++(A++R)))(nj: ∀m v L',post m v L'->wX m L')
 (k: ∀v (σ':St),(∃L',post σ.size v L'/\Hp S0 ar σ' (L'++(Ln++R))/\True/\ar.size<=σ.size)->tl K f0 ops Q rest (fr n (upd ρ d v)) σ'.w) (hx:xs.toList.map (ev n ρ)=args:=by exact rfl):
 tl K f0 ops Q (⟨some d, .call ⟨.value (.func f),xs,Ts⟩,ty,pos,af,none⟩::rest) (fr n ρ) σ.w:=bZ (qu hL hl hc (λ_=>dE hc.fn hx) H nj) wn k
theorem eo{fn:Func}{post:Value->List Ch->Prop}{t:Nat}(h:fn.results= #[.tmp t])(hp:post v L')(H:Hp S0 ar σ L')(hv:Vs.look n ρ t=v:=by exact rfl):BpC K fn (A7 post ar S0) .ret (fr n ρ) σ.w:=lP (λ_=>dp (rs:=[.tmp t]) h (j6 hv gL) rfl) hp H
theorem k1{id:Nat}{l:List Oper}{y:Code}(h:tl K f0 l.toArray (Exit.then (wpC K f0 y Q) Q) l (fr n ρ) w):wpC K f0 (.seq (.region id l.toArray false) y) Q (fr n ρ) w:=dC (rg h)
theorem k2{a:Act}{G:Act->World->Prop}(h:G a w):tl K f0 ops (Exit.then G Q) [] a w:=bo (aD h)
theorem k3{a:Act}{x y:Code}(h:wpC K f0 x (Exit.then (wpC K f0 y Q) Q) a w):tl K f0 ops (Exit.then (wpC K f0 (.seq x y) Q) Q) [] a w:=k2 (dC h)
theorem k4{id:Nat}{l:List Oper}{y:Code}(h:tl K f0 l.toArray (Exit.then (wpC K f0 y Q) Q) l (fr n ρ) w):tl K f0 ops (Exit.then (wpC K f0 (.seq (.region id l.toArray false) y) Q) Q) [] (fr n ρ) w:=k2 (k1 h)
theorem k5{id:Nat}{l:List Oper}{y z:Code}(h:tl K f0 l.toArray (Exit.then (wpC K f0 y (Exit.then (wpC K f0 z Q) Q)) (Exit.then (wpC K f0 z Q) Q)) l (fr n ρ) w):tl K f0 ops (Exit.then (wpC K f0 (.seq (.seq (.region id l.toArray false) y) z) Q) Q) [] (fr n ρ) w:=k3 (k1 h)
theorem k6{a:Act}{x y:Code}(h:wpC K f0 x (Exit.then (wpC K f0 y Q) Q) a w):wpC K f0 .skip (Exit.then (wpC K f0 (.seq x y) Q) Q) a w:=eG (aD (dC h))
theorem k7{a:Act}(h:Q .ret a w):tl K f0 ops (Exit.then (wpC K f0 .ret Q) Q) [] a w:=k2 (PC h)
end
end Go.Vc
namespace Go.Cx
open Go Go.Conc
open Go.ConcN (sumTo)
def zn(C:Program)(wY:Value->World->Prop)(m:Machine)(t:Trace):Prop:= ∃o w' ops,stepT C m=(.ended o w',ops)/\Conc.Good C wY m o w' (t++ops)
section
variable{C:Program}{cX:Loc->Prop}{g:Goroutine}{sz:Nat}{wY:Value->World->Prop}{w:World}
theorem Dm(hr:g.status= .running)(K: ∀W:World,Wq W w-> ∃v w',stepG C true g W= .ended (.done v) w' #[]/\wY v w'):
  ∀(r:Nat) (gs:Array Goroutine) (W:World) (sl:Option (Nat×Nat)) (t:Trace) (q:Nat->Nat),sumTo gs.size q=r->gs[0]? =some g->Wq W w->Qt C cX gs sz t q->jr C (zn C wY) (crowd gs W sl) t:=by
 intro r
 induction r using Nat.strongRecOn with
 | _ r ih=>
  intro gs W sl t q Pz h0 hw hq;obtain ⟨i,y,d,wA,hy,GR,hs⟩:=crowd_pick (P:=C) (w:=W) (sl:=sl) (hq.awake h0 hr) ⟨0,g,h0,hr⟩;cases i with
  | zero=>
   obtain ⟨v,w',h1,h2⟩:=K (W.at d) (hw.at d);have bM:=ConcN.runT_crowd_ended (P:=C) (sl:=wA) h0 (w:=W.at d) (by simpa using h1);have he:MemOp.ofEvents 0 g.frame.fn g.frame.place #[]= #[]:=rfl;refine jr.here ⟨_,_,_,hs.trans bM,v,rfl,h2, ?_, ?_,⟨?_,rfl⟩, ?_⟩
   ·rw [he,Array.append_empty];exact hq.ti.nr
   ·rw [he,Array.append_empty];exact λi g h1 h2 h3=>hq.ho i g h1 h2 id h3
   ·intro x hx;obtain ⟨j,hj⟩:=List.mem_iff_getElem?.1 hx;rw [List.getElem?_drop] at hj;have WJ:gs[1+j]? =some x:=by simpa [crowd] using hj
    obtain ⟨z,hz,wW⟩:=hq.wk (1+j) (by omega) (qa1.1 WJ).1;rw [WJ] at hz;cases hz;exact ⟨_,wW.leaves⟩
   ·intro j x hj hj0;rw [he,Array.append_empty];obtain ⟨z,hz,wW⟩:=hq.wk j (by omega) (qa1.1 hj).1;rw [show gs[j]? =some x from hj] at hz;cases hz;exact ⟨_,wW.hears _⟩
  | succ i=>
   obtain ⟨qN,ops,q',h1,h2,h3,h4,h5⟩:=hq.leave (W:=W.at d) (sl:=wA) h0 hr (k:=i+1) (by omega) hy GR;exact jr.step (hs.trans h1) (ih _ (by rw [←Pz];exact h5) qN (W.at d) wA (t++ops) q' (by rw [h3]) h2 (hw.at d) h4)
theorem GW(g:Goroutine)(W:World):Qt C no1 #[g] W.heap.size #[] (λ_=>0) where
 wk:=λk h1 h2=>by simp at h2;omega
 ti:=by
  have no: ∀i a,touchAt #[] i=some a->False:=λi a h=>by simp [touchAt,Trace.act?] at h
  exact ⟨λi op x h=>by simp at h,λk h=>h.elim,λk h=>h.elim,λl _ _ _ _ i a h=>(no i a h).elim,λl _ _ _ _ i a h=>(no i a h).elim,λi a h=>(no i a h).elim,ConcN.noRace_nil,λi op h=>by simp at h,λi a h=>(no i a h).elim⟩
 ho:=λi g h=>by simp [Trace.g?] at h
 d0:=rfl
 vv:=λl b h=>h.elim
theorem Dp{g:Goroutine}{W:World}(h:jr C (zn C wY) (solo g W) #[]):
  ∃M last o w' t',runNT C (M+1) (solo g W) #[]=(.ended o w',t')/\runN C M (solo g W)= .next last/\step C last= .ended o w'/\Conc.Good C wY last o w' t':=by
 obtain ⟨n,m,t,h1,o,w',ops,h2,h3⟩:=h;have h4:runN C n (solo g W)= .next m:=by rw [←runNT_fst _ _ _ #[],h1]
 have h5:step C m= .ended o w':=by rw [←stepT_fst C m true,h2]
 have h6:=runNT_succ C n _ _ _ _ h1;rw [h2] at h6;have h7:(runNT C (n+1) (solo g W) #[]).1= .ended o w':=by rw [runNT_fst];rw [_root_.Go.runN_add,h4];simp [runN,h5]
 exact ⟨n,m,o,w',t++ops,Prod.ext h7 h6,h4,h5,h3⟩
end
end Go.Cx
namespace Go.Vc
open Go Go.Proofs Go.Vs
open Go.Conc (G base solo)
open Go.Cx (ba aH bg gC PF mI yd cN gJ TW cL jE Mn On zn Dm GW jr aF ax cn gB Dw Bj oW no1 Wq)
section
variable[ba][aH][bg]
variable{K:Cq}{σ:St}{S0:BS}{f:FuncId}{post:Value->List Ch->Prop}{wY:Value->World->Prop}
omit [ba] [aH] [bg] in
theorem Yf{β:Bj}{x y:List Deferred}(h:Go.Cx.nM β x y)(hx:x=[]):y=[]:=by
 subst hx;cases h
 rfl
omit [ba] [aH] [bg] in
theorem MY{P:Program}{b:Frame}{fn:Func}{t:Nat}{W:World}(hm:b.mode= .returning)(hd:b.defers=[])(hk:b.kind= .normal)(hf:P.funcs[b.fn]? =some fn)(hi:P.inits.idxOf? b.fn=none)(hr:fn.results= #[.tmp t]):
  stepG P true (gJ b []) W= .ended (.done (b.tmps.getD t undef)) W #[]:=by
 have h1:=results_tmp hr b.tmps P W;have h2:=Conc.events_results_tmp (P:=P) (w:=W) hr b.tmps #[];simp [stepG,unwind,doReturn,hm,hd,hk,hf,hi,h1,h2,seen,GStep.after]
theorem TY(tk:ba.ok f)(qm:ba.th f)(Ey: ¬K.Xs f)(Yg:K.C.inits.idxOf? f=none)(hΦ:K.Φ=zn K.C wY)(cC: ∀fn,K.L.funcs[f]? =some fn-> ∃t,fn.results= #[.tmp t])(PK: ∀v L,post v L->v=B true)
  (hP: ∀W':World,W'.tape=K.W0.tape->W'.os=K.W0.os->W'.output=K.W0.output->(∀b,b<K.W0.heap.size->W'.heap[b]? =K.W0.heap[b]?)->wY (B true) W'):Fin K f post σ S0:=by
 intro fn a todo v w hf hd hr ⟨σ',L',hw,hp,H'⟩ gs W sl t q cX β b k' h0 hq hM;obtain ⟨jN,c,g1,g2,g3,g4⟩:=K.HF.same f tk qm Ey;have e:jN=fn:=qaf (g1.symm.trans hf);subst e;obtain ⟨rfl,hF⟩:k'=[]/\jE K.L K.C β { (base f).at a todo with mode:= .returning } b:=by
  have:=hM.sk;cases this with
  | one h _=>exact ⟨rfl,h⟩
  | cons _ h=>cases h
 obtain rfl:=PK v L' hp;obtain ⟨tm,ht⟩:=cC _ hf;have hv:a.tmps.getD tm undef=B true:=by
  have:=hr w;rw [results_tmp ht] at this;injection this
 have Gf:b.tmps.getD tm undef=B true:=by
  have hT:aF β a.tmps b.tmps:=hF.tmps;cases h1:a.tmps[tm]? with
  | none=>
   rw [qaj, h1] at hv;cases hv
  | some u=>
   obtain ⟨u',h2,h3⟩:=hT.get h1;rw [qaj, h1,qc7] at hv;subst hv;rw [qaj, h2,qc7];cases h3
   rfl
 have jF: ∀W',stepG K.C true (gJ b []) W'= .ended (.done (B true)) W' #[]:=λW'=>by
  have:=MY (P:=K.C) (b:=b) (fn:=jN) (t:=tm) (W:=W') (hF.mode.elim (λh=>by cases h.1) λh=>h.2.1) (Yf hF.defers hd) hF.kind.2 (by rw [hF.fn];exact g2) (by rw [hF.fn];exact Yg) ht;rw [this,Gf]
 rw [hΦ];exact Dm (g:=gJ b []) rfl (λW' WK=>⟨B true,W',jF W',hP W' (WK.tape.trans hM.tape) (WK.os.trans hM.os) (WK.output.trans hM.output) λb hb=>by rw [WK.heap];exact hM.keep b hb⟩) _ gs W sl t q rfl h0 (.refl W) hq
theorem TZ{l l':List Value}{pre:List Ch}{post:Nat->Value->List Ch->Prop}(hb:zm K f l pre (λ_=>True) post)(tk:ba.ok f)(qm:ba.th f)(Ey: ¬K.Xs f)(Yg:K.C.inits.idxOf? f=none)(hΦ:K.Φ=zn K.C wY)(cC: ∀fn,K.L.funcs[f]? =some fn-> ∃t,fn.results= #[.tmp t])
  (PK: ∀m v L,post m v L->v=B true) (hP: ∀W':World,W'.tape=K.W0.tape->W'.os=K.W0.os->W'.output=K.W0.output->(∀b,b<K.W0.heap.size->W'.heap[b]? =K.W0.heap[b]?)->wY (B true) W')
  (hL:Lo K σ) (H:Hp (dD pre) σ σ pre) {β:Bj} (hx:aF β l.toArray l'.toArray) (hw:cn β σ.w K.W0) (hd:Dw σ.w) (hold: ∀a b,β a b->gB β σ.w b):
  jr K.C (zn K.C wY) (solo (G (Frame.enter K.C f l'.toArray .normal) []) K.W0) #[]:=by
 have hco:=hb.top Ey (m:=0) (qa8 _) hL H trivial (TY tk qm Ey Yg hΦ cC (PK 0) hP);obtain ⟨fn,c,g1,g2,g3,g4⟩:=K.HF.same f tk qm Ey;have:=hco #[gJ (Frame.enter K.C f l'.toArray .normal) []] K.W0 none #[] (λ_=>0) no1 β _ [] rfl (GW _ _) ⟨.one (oW g1 g2 g3 g4 hx) rfl,hw,hd,λ_ _ _ _ _ h=>h,rfl,rfl,rfl,λa b q _=>hold a b q,λ_ _=>rfl⟩;rw [hΦ] at this;exact this
end
end Go.Vc
namespace Go.Vc
open Go Go.Proofs Go.Vs Go.ChangeShapes Go.WideShapes Go.ChangeAt Go.RowKit
open Go.Cx (hU mG Fw uJ wU ax)
def GX(W:World)(b:Nat):Prop:= ∃c e f,W.heap[b]? =some (.cells c e f)
theorem Lk{P:Program}{W:World}{base:Nat}{t e:TypeId}{a:Addr}{len cap:Nat}(hu:P.underlying t=some (.slice e))(h:Value.okWide P W .any base t (.slice (some a) len cap)):GX W a.block/\a.spot=none:=by
 simp only [Value.okWide,hu,Cell.okWide,Cell.ok] at h;obtain ⟨_,_,_,h1,row,cells,hs,_⟩:=h;refine ⟨?_,h1⟩;unfold World.shape? at hs;split at hs
 ·rename_i c e f h2;exact ⟨c,e,f,h2⟩
 ·cases hs
theorem PL{W W':World}(h1:W'.tape=W.tape)(h2:W'.os=W.os)(h3:W'.output=W.output)(h4: ∀b,b<W.heap.size->W'.heap[b]? =W.heap[b]?):Below W.heap.size W W':=by
 refine ⟨h2,h1,h3, ?_,h4⟩;apply qa7;intro hn;have bG:W'.heap.size<W.heap.size:=Nat.lt_of_not_le hn;have:=h4 _ bG;rw [qbb (qa3 _),Array.getElem?_eq_getElem bG] at this;cases this
def St.PM(σ:St):St:=⟨σ.w,σ.fV,σ.ok,True⟩
theorem MZ(σ:St):Ext σ (St.PM σ):=⟨qa3 _,λ_ _=>rfl,λ_=>qa3 _⟩
end Go.Vc
namespace Go.Vc
open Go Go.Proofs Go.Vs
open Go.Cx (ba aH hU mG Fw uJ wU ax cn Bj aF qV cell_of rV)
section
variable{F:ba}{K:aH}{β:Bj}{σ τ:St}{W:World}{T:Nat->Prop}
structure Wt(F:ba)(T:Nat->Prop)(W:World)(τ:St):Prop where
 w:τ.w=Fw F T W
 fV: ∀b c e f,W.heap[b]? =some (.cells c e f)->τ.fV b=c.size
theorem Ll(hw: @cn F K hU β σ.w W){b b' o:Nat}(hb:β b b'){v:Value}(h:σ.cell b o=some v):
  ∃v',W.cell? ⟨b',o,none⟩=some v'/\ @ax F hU β v v'/\ ∃c e f,W.heap[b']? =some (.cells c e f)/\o<c.size:=by
 letI:=F;letI:=K;letI:=hU;obtain ⟨c,e,f,h1,_,h3⟩:=qV (h:σ.w.cell? ⟨b,o,none⟩=some v);obtain ⟨x,x',q1,q2,q3⟩:=hw.obj b b' hb;rw [h1] at q1;cases q1;have key: ∀c' e' f',W.heap[b']? =some (.cells c' e' f')->aF β c c'-> ∃v',W.cell? ⟨b',o,none⟩=some v'/\ax β v v'/\ ∃c e f,W.heap[b']? =some (.cells c e f)/\o<c.size:=λc' e' f' r1 r2=>by
  obtain ⟨v',r3,r4⟩:=r2.get h3;exact ⟨v',cell_of r1 rfl r3,r4,c',e',f',r1,(qa1.1 r3).1⟩
 cases q3 with
 | cells e h=>exact key _ _ _ q2 h
 | lock e h=>exact key _ _ _ q2 h
def Tr{α:Type}[Rp α](F:ba)(β:Bj)(T:Nat->Prop)(σ τ:St)(aeJ:α->Prop):Prop:=
 ∀(cs cs':List Value) (x:α),aeJ x->Rp.rp 0 σ cs x->cs'.length=cs.length->(∀(j:Nat) (v v':Value),cs[j]? =some v->cs'[j]? =some v'-> @ax F hU β v v')->Rp.rp 0 τ cs' x/\ ∀v'∈cs', @ax F hU (mG T) v' v'
theorem yx:Tr F β T σ τ (λ_:Int=>True):=by
 rintro cs cs' x - rfl hl h
 match cs',hl with
 | [v'],_=>
  have:=h 0 _ v' rfl rfl;cases this;exact ⟨rfl,λv hv=>by rw [qbc] at hv;subst hv;exact @ax.int F hU _ _ _⟩
theorem An{α α':Type}[Rp α][Rp α']{g:α->Prop}{g':α'->Prop}(h1:Tr F β T σ τ g)(h2:Tr F β T σ τ g'):Tr F β T σ τ (λx:α×α'=>g x.1/\g' x.2):=by
 rintro cs cs' x ⟨hg,IK⟩ ⟨c1,c2,rfl,r1,r2⟩ hl h;rw [qat] at hl;have e:cs'=cs'.take c1.length++cs'.drop c1.length:=(List.take_append_drop _ _).symm;obtain ⟨a1,a2⟩:=h1 c1 (cs'.take c1.length) x.1 hg r1 (by simp;omega) λj v v' q q'=>by
  have hj:j<c1.length:=(qbf.1 q).1;rw [qc4,if_pos hj] at q';exact h j v v' (by rw [qbg hj];exact q) q'
 obtain ⟨b1,b2⟩:=h2 c2 (cs'.drop c1.length) x.2 IK r2 (by simp;omega) λj v v' q q'=>by
  rw [List.getElem?_drop] at q';exact h (c1.length+j) v v' (by rw [qbt (by omega)];simpa using q) q'
 refine ⟨⟨_,_,e,a1,b1⟩,λv hv=> ?_⟩;rw [e] at hv;rcases qag.1 hv with hv | hv
 ·exact a2 v hv
 ·exact b2 v hv
theorem GY{α:Type}[Rp α]{g:α->Prop}(hw: @cn F K hU β σ.w W)(SS: ∀a b,β a b->GX W b->T b)(oM:Wt F T W τ)(hg:Tr F β T σ τ g){v v':Value}{xs:List α}(h:RS 0 σ v xs)(hv: @ax F hU β v v')(hx: ∀x∈xs,g x):
  RS 0 τ v' xs/\(xs≠[]-> @ax F hU (mG T) v' v'):=by
 rcases h with ⟨⟨ad,c,rfl⟩,rfl⟩ | ⟨b,o,c,rfl,_,h2,h3,h4⟩
 ·refine ⟨.inl ⟨?_,rfl⟩,λh=>(h rfl).elim⟩;cases hv with
  | kg _ _=>exact ⟨_,_,rfl⟩
  | ya _ _=>exact ⟨_,_,rfl⟩
  | slice _ _ _=>exact ⟨_,_,rfl⟩
 ·by_cases hn:xs=[]
  ·subst hn;refine ⟨.inl ⟨?_,rfl⟩,λh=>(h rfl).elim⟩;cases hv with
   | ya _ _=>exact ⟨_,_,rfl⟩
   | slice _ _ _=>exact ⟨_,_,rfl⟩
  have aiH:0<xs.length:=List.length_pos_iff.2 hn;generalize hlx:xs.length=lx at hv;cases hv with
  | ya _ _=>omega
  | @slice _ a' _ _ ha=>
   subst hlx;obtain ⟨b',o',s'⟩:=a';obtain ⟨T1,ha2,ha3⟩:=ha;simp only at T1 ha2 ha3;obtain rfl:o=o':=ha2.symm;subst ha3;have hp:=Rp.pos (α:=α);have hlen:0<xs.length:=List.length_pos_iff.2 hn;have row: ∀i,(hi:i<xs.length)-> ∀j,j<Rp.sz α-> ∃u,W.cell? ⟨b',o+i*Rp.sz α+j,none⟩=some u/\ ∃c e f,W.heap[b']? =some (.cells c e f)/\o+i*Rp.sz α+j<c.size:=λi hi j hj=>by
    obtain ⟨cs,r1,r2⟩:=h4 i hi;obtain ⟨u,q1,_,q2⟩:=Ll hw T1 (r2 j (by rw [Rp.len r1];exact hj));exact ⟨u,q1,q2⟩
   obtain ⟨_,_,c0,e0,f0,Jy,_⟩:=row 0 hlen 0 hp;have hT:T b':=SS _ _ T1 ⟨_,_,_,Jy⟩;have Yh:o+xs.length*Rp.sz α<=τ.fV b':=by
    rw [oM.fV _ _ _ _ Jy];obtain ⟨_,_,c1,e1,f1,WL,bG⟩:=row (xs.length - 1) (by omega) (Rp.sz α - 1) (by omega);rw [Jy] at WL;cases WL;have:xs.length*Rp.sz α=(xs.length - 1)*Rp.sz α+Rp.sz α:=by
     rw [←Nat.succ_mul];congr 1;omega
    omega
   refine ⟨.inr ⟨b',o,c,rfl,qa8 _,h2,Yh,λi hi=> ?_⟩,λ_=> @ax.slice F hU _ _ _ _ _ ⟨⟨rfl,hT⟩,rfl,rfl⟩⟩;obtain ⟨cs,r1,r2⟩:=h4 i hi;have hcl:=Rp.len r1
   classical
   have hex: ∀j:_root_.Fin cs.length, ∃u,W.cell? ⟨b',o+i*Rp.sz α+j.1,none⟩=some u/\ @ax F hU β cs[j] u:=λj=>by
    obtain ⟨u,q1,q2,_⟩:=Ll hw T1 (r2 j.1 j.2);exact ⟨u,q1,q2⟩
   let cs':List Value:=List.ofFn λj=>(hex j).choose
   have qI:cs'.length=cs.length:=by simp [cs']
   have AY: ∀(j:Nat) (hj:j<cs.length),cs'[j]? =some (hex ⟨j,hj⟩).choose:=λj hj=>by simp [cs',hj]
   obtain ⟨k1,k2⟩:=hg cs cs' xs[i] (hx _ (qai hi)) r1 qI λj v u q q'=>by
    have hj:j<cs.length:=(qbf.1 q).1;rw [AY j hj] at q';cases q';have:=(hex ⟨j,hj⟩).choose_spec.2;rw [qb3 hj] at q;cases q;exact this
   refine ⟨cs',k1,λj hj=> ?_⟩;have WJ:j<cs.length:=by rw [←qI];exact hj
   have e1:=(hex ⟨j,WJ⟩).choose_spec.1;have e2:cs'[j]=(hex ⟨j,WJ⟩).choose:=qaf ((qb3 hj).symm.trans (AY j WJ));show τ.w.cell? _=_;rw [oM.w,e2];exact wU F T hT e1 (by rw [←e2];exact k2 _ (qai hj))
theorem EC{α:Type}[Rp α]{g:α->Prop}(hw: @cn F K hU β σ.w W)(SS: ∀a b,β a b->GX W b->T b)(oM:Wt F T W τ)(hg:Tr F β T σ τ g):Tr F β T σ τ (λxs:List α=>xs≠[]/\ ∀x∈xs,g x):=by
 rintro cs cs' xs ⟨hn,hx⟩ ⟨v,rfl,hr⟩ hl h
 match cs',hl with
 | [v'],_=>
  obtain ⟨h1,h2⟩:=GY hw SS oM hg hr (h 0 _ v' rfl rfl) hx;exact ⟨⟨v',rfl,h1⟩,λu hu=>by rw [qbc] at hu;subst hu;exact h2 hn⟩
theorem PN(F:ba)(T:Nat->Prop)(W:World): ∃τ:St,Wt F T W τ/\τ.dR:=by
 classical
 refine ⟨⟨Fw F T W,λb=>match W.heap[b]? with | some (.cells c _ _)=>c.size | _=>0,λb hb=> ?_,True⟩,⟨rfl,λb c e f h=> ?_⟩,trivial⟩
 ·have:W.heap.size<=b:=by rw [←uJ F T (W:=W)];exact hb
  rw [qbb this]
 ·show (match W.heap[b]? with | some (.cells c _ _)=>c.size | _=>0)=_;rw [h]
end
end Go.Vc
namespace Go.Vc
open Go Go.Proofs Go.Vs
open Go.Cx (ba aH bg gC PF yd EA Lg en TO cN gJ Left TW cL Bj aF cn Dw gB SO oW)
section
variable[ba][aH][bg]
variable{K:Cq}{ar σ:St}{S0:BS}{A R L':List Ch}
omit [ba] [aH] [bg] in
theorem abc(hl:ar.dR){τ:Tape}{w:World}{σ':St}(e:σ'.w=TW w τ)(H:Hp S0 ar σ' L'): ∃km:St,w=km.w/\Hp S0 ar km L':=by
 have h1:w.heap=σ'.w.heap:=by rw [e]
 have qI:σ'.dR:=by rw [H.md.dR];exact hl
 have h2:w.os=σ'.w.os:=by rw [e]
 have h3:w.output=σ'.w.output:=by rw [e]
 refine ⟨⟨w,σ'.fV,λb hb=>σ'.ok b (by rw [←h1];exact hb),σ'.dR⟩,rfl,H.grow ?_⟩;exact ⟨h2, .inl qI,h3, .inl qI,rfl,⟨qav (by simp only [St.size,h1]),λb _=>by simp only [h1],λb=>qa3 _⟩,λb _ _=>by simp only [h1],λ_ _ _=>rfl⟩
omit [ba] [aH] [bg] in
theorem abd(hl:ar.dR)(τ:Tape)(H:Hp S0 ar σ L'): ∃km:St,TW σ.w τ=km.w/\km.size=σ.size/\Hp S0 ar km L':=by
 have qI:σ.dR:=by rw [H.md.dR];exact hl
 refine ⟨⟨TW σ.w τ,σ.fV,σ.ok,σ.dR⟩,rfl,rfl,H.grow ?_⟩;exact ⟨rfl, .inl qI,rfl, .inl qI,rfl,⟨qa3 _,λb _=>rfl,λb=>qa3 _⟩,λb _ _=>rfl,λ_ _ _=>rfl⟩
def RC(post:Value->List Ch->Prop)(ar:St)(S0:BS)(R:List Ch)(v:Value)(w:World):Prop:= ∃σ' L',w=σ'.w/\post v L'/\Hp S0 ar σ' (L'++R)
theorem PO{f:FuncId}{args:List Value}{post:Nat->Value->List Ch->Prop}(hc:bN K.L f args A post)(tk:ba.ok f)(qm:ba.th f)(Ey: ¬K.Xs f)(hl:ar.dR)(H:Hp S0 ar σ (A++R)){n:Nat}(hn:n<=ar.size)
  {β:Bj} {W:World} {S Ro:Nat->Prop} {Iv:World->Prop} {m:Bool} {x':Array Value} {c:Frame} {cs:List Frame} (hx:aF β args.toArray x') (hw:cn β σ.w W) (hD:Dw σ.w) (hS: ∀b,S b↔SO β σ.w b) (hR: ∀b,gB β σ.w b->Ro b):
  en K.C m Iv Ro (TO K.L β σ.w Ro (RC (post n) ar S0 R) c cs) S (gJ (Frame.enter K.C f x' .normal) (c::cs)) W:=by
 obtain ⟨fn,cd,g1,g2,g3,g4⟩:=K.HF.same f tk qm Ey;have fM:cL K.L K.C β [Frame.enter K.L f args.toArray .normal] [Frame.enter K.C f x' .normal]:= .one (oW g1 g2 g3 g4 hx) rfl;refine Lg K.HP K.HF (K.hX _) tk qm Ey (EA K.HPs K.HFs ?_ (λτ _=> ?_) ⟨β,_,[],W,fM.self K.he,hw,hD⟩) hx hw hD hS hR
 ·rintro v w τ ⟨σ',L',q1,q2,q3⟩;obtain ⟨km,r1,r2⟩:=abc hl q1.symm q3;exact ⟨km,L',r1,q2,r2⟩
 ·obtain ⟨km,r1,r2,r3⟩:=abd hl τ H;rw [r1];refine (hc.frame r3 (qaa hn r3.size)).mono ?_;rintro _ w' ⟨v,σ',L',rfl,rfl,hp,H',_⟩;exact ⟨σ',L',rfl,hp,H'⟩
end
end Go.Vc
namespace Go.Cx
open Go Go.Conc
section
variable{P:Program}{m:Bool}{Iv:World->Prop}{Ro:Nat->Prop}{Stop:(Nat->Prop)->Goroutine->World->Prop}{b:Frame}{k:List Item}{cs:List Frame}{ops:Array Oper}{md:Region.Mode}
theorem PQ{J:Nat->Array Bool->Act->(Nat->Prop)->World->Prop}(h0: ∀l a S W, ¬J 0 l a S W)(hr: ∀n l a S W,J n l a S W->Region.ready md ops l≠[])(hJ: ∀n l a S W W1,J n l a S W->Ry Iv (λb=>S b\/Ro b) W W1->J n l a S W1)(hS: ∀S g W W1,Stop S g W->Ry Iv (λb=>S b\/Ro b) W W1->Stop S g W1)
  (jF: ∀n l a S W i rest,Iv W->(n=0->rest=[])->J (n+1) l a S W->i∈Region.ready md ops l->en P m Iv Ro (λS' g' W'=>Stop S' g' W'\/ ∃a',g'=G (b.at a' (.inRegion ops rest::k)) cs/\J n (l.setIfInBounds i true) a' S' W') S (G (b.at a (.inRegion ops (i::rest)::k)) cs) W):
  ∀(n t:Nat) (l:Array Bool) (a:Act) (S:Nat->Prop) (W:World),J n l a S W->en P m Iv Ro Stop S (G (b.at a (.inRegion ops (Region.linearise.go md ops n t l [])::k)) cs) W:=by
 intro n
 induction n with
 | zero=>intro t l a S W h;exact (h0 _ _ _ _ h).elim
 | succ n ih=>
  intro t l a S W hj;refine en.now λW1 rh=> ?_;have hJ1:=hJ _ _ _ _ _ _ hj rh;simp only [Region.linearise.go];change en P m Iv Ro Stop S (G (b.at a (.inRegion ops (match (Region.ready md ops l)[t % (Region.ready md ops l).length]? with
   | some i=>Region.linearise.go md ops n (t / (Region.ready md ops l).length) (l.setIfInBounds i true) [i]
   | none=>[].reverse)::k)) cs) W1
  cases hi:(Region.ready md ops l)[t % (Region.ready md ops l).length]? with
  | none=>
   exfalso;have j0:=hr _ _ _ _ _ hj;have Cz:0<(Region.ready md ops l).length:=List.length_pos_iff.2 j0;have:=Nat.mod_lt t Cz;rw [List.getElem?_eq_none_iff] at hi;omega
  | some i=>
   simp only;rw [linearise_go_acc,List.reverse_singleton,List.singleton_append];refine (jF n l a S W1 i _ rh.iv (λe=>by subst e;rfl) hJ1 (List.mem_of_getElem? hi)).bind λS' g' W' hI hs=> ?_;rcases hs with hs | ⟨a',rfl,M0⟩
   ·exact en.stop λw1 h=>hS _ _ _ _ hs h
   ·exact ih _ _ _ _ _ M0
theorem Ao{S:Nat->Prop}{a:Act}{W:World}{i:Nat}{rest:List Nat}{o:Oper}{v:Value}{J:(Nat->Prop)->Act->World->Prop}(ho:ops[i]? =some o)(hw:Region.wanted o (yielded ops a.tmps)=true)(hk:b.kind≠ .early)
  (h: ∀W1,Ry Iv (λb=>S b\/Ro b) W W1->(execOp a.eval o).run P W1= .ok (.value v) W1/\(∀e∈(execOp a.eval o).events P W1 #[],e.sync=false/\e.write=false/\ ∃ad,e.loc= .cell ad/\Ro ad.block)/\ ∀W2,Ry Iv (λb=>S b\/Ro b) W1 W2->J S (a.put o.dst v) W2):
  en P m Iv Ro (λS' g' W'=> ∃a',g'=G (b.at a' (.inRegion ops rest::k)) cs/\J S' a' W') S (G (b.at a (.inRegion ops (i::rest)::k)) cs) W:=by
 refine en.step rfl λW1 rh=> ?_;obtain ⟨h1,h2,h3⟩:=h W1 rh;have hS:nw S W1 W1=S:=by
  funext x;apply propext;exact ⟨λq=>q.elim id λq=>by omega, .inl⟩
 refine ⟨_,W1,_,stepG_value ho hw hk h1,⟨rfl,rfl,rfl,qa3 _,λ_ _ _=>rfl,λe he=> ?_⟩, ?_⟩
 ·obtain ⟨q1,q2,ad,q3,q4⟩:=h2 e (mem_listed he);exact .inl ⟨q1, .inl ⟨ad,q3, .inr ⟨q4,q2⟩⟩⟩
 ·rw [hS];exact en.stop λW2 ju=>⟨_,rfl,h3 W2 ju⟩
theorem ko{P:Program}{ev:Operand->Value}{d:Option Nat}{T ty:TypeId}{x:Operand}{pos:String}{af:Array Edge}{gd:Option (Nat×Bool)}{bl o:Nat}{D:TypeDesc}(hT:P.underlying T=some D)(hD:(match D with | .struct _=>false | .array _ _=>false | _=>true)=true)
  (hx:ev x= .pointer (some ⟨bl,o,none⟩)) {w:World} {v:Value} (hc:w.cell? ⟨bl,o,none⟩=some v):(execOp ev ⟨d, .load T x,ty,pos,af,gd⟩).events P w #[]= #[⟨.cell ⟨bl,o,none⟩,false,false⟩]:=by
 have h1:(isAgg T).run P w= .ok false w:=by
  simp only [isAgg,underlying,Sem.run_bind,run_program,Result.andThen_ok,hT,Sem.run_pure];cases D <;> simp_all
 have h2:(isAgg T).events P w #[]= #[]:=by
  simp [isAgg,underlying,hT];cases D <;> rfl
 simp [execOp,hx,Instr.loadAt,Instr.sureAddr,loadVar,h1,h2,hc]
end
end Go.Cx
namespace Go.Cx
open Go Go.Conc
section
variable{P:Program}{m:Bool}{Iv:World->Prop}{Ro:Nat->Prop}{Stop:(Nat->Prop)->Goroutine->World->Prop}{b:Frame}{k:List Item}{cs:List Frame}{ops:Array Oper}{S:Nat->Prop}{a:Act}{W:World}{i:Nat}{rest:List Nat}{o:Oper}
theorem sd(S:Nat->Prop)(W:World):nw S W W=S:=by
 funext x;apply propext;exact ⟨λq=>q.elim id λq=>by omega, .inl⟩
theorem aC{g g':Goroutine}(hs:g.status= .running)(h: ∀W1:World,stepG P m g W1= .go g' W1)(hk:en P m Iv Ro Stop S g' W):en P m Iv Ro Stop S g W:=by
 refine en.step hs λW1 rh=>⟨g',W1, #[],h W1, .still _ _ _, ?_⟩;rw [sd];exact hk.rely rh
theorem T2{g:Goroutine}{g':World->Goroutine}{W':World->World}(hs:g.status= .running)(h: ∀W1:World,stepG P m g W1= .go (g' W1) (W' W1))(hW: ∀W1,(W' W1).heap=W1.heap/\(W' W1).tape=W1.tape/\(W' W1).os=W1.os/\(W' W1).output=W1.output)
  (hk: ∀W1,Ry Iv (λb=>S b\/Ro b) W W1->en P m Iv Ro Stop S (g' W1) (W' W1)):en P m Iv Ro Stop S g W:=by
 refine en.step hs λW1 rh=>⟨g' W1,W' W1, #[],h W1, ?_, ?_⟩
 ·obtain ⟨q1,q2,q3,q4⟩:=hW W1;exact ⟨q2,q3,q4,by rw [q1];exact qa3 _,λb _ _=>by rw [q1],λe he=>by simp at he⟩
 ·have:nw S W1 (W' W1)=S:=by
   funext x;apply propext;refine ⟨λq=>q.elim id λq=> ?_, .inl⟩;rw [(hW W1).1] at q;omega
  rw [this];exact hk W1 rh
theorem nk{f:FuncId}{fn:Func}{args:Array Operand}{Yi:Array TypeId}(ho:ops[i]? =some o)(hw:Region.wanted o (yielded ops a.tmps)=true)(hk:b.kind≠ .early)(cM:o.op= .call { callee:= .value (.func f),args,argTypes:=Yi })
  (hf:P.funcs[f]? =some fn) (zo:(fn.name== "runtime.NumGoroutine")=false) (hb:fn.body.isNone=false) (h:en P m Iv Ro Stop S (G (Frame.enter P f (args.map a.eval) .normal) (b.at a (.inRegion ops (i::rest)::k)::cs)) W):
  en P m Iv Ro Stop S (G (b.at a (.inRegion ops (i::rest)::k)) cs) W:=by
 refine en.step rfl λW1 rh=>⟨_,W1,_,stepG_enter ho hw hk (run_call_body cM hf zo hb),⟨rfl,rfl,rfl,qa3 _,λ_ _ _=>rfl,λe he=> ?_⟩, ?_⟩
 ·have:=mem_listed he;rw [events_call_body cM hf zo hb] at this;simp at this
 ·rw [sd];exact h.rely rh
def Sd(Ro:Nat->Prop)(W0:World)(S:Nat->Prop)(W:World):Prop:= ∀b,Ro b-> ¬S b/\b<W.heap.size/\W.heap[b]? =W0.heap[b]?
theorem Sd.rely{W0 W1:World}(hd:Sd Ro W0 S W)(hr:Ry Iv (λb=>S b\/Ro b) W W1):Sd Ro W0 S W1:=λb hb=>
 let ⟨q1,q2,q3⟩:=hd b hb
 ⟨q1,qa2 q2 hr.size,(hr.blk b (.inr hb)).trans q3⟩
theorem en.keep{g:Goroutine}{W0:World}(h:en P m Iv Ro Stop S g W)(hd:Sd Ro W0 S W):
  en P m Iv Ro (λS' g' W'=>Stop S' g' W'/\Sd Ro W0 S' W') S g W:=by
 obtain ⟨r,h⟩:=h
 induction r generalizing S g W with
 | leaf=>exact en.stop λw₁ hw=>⟨h w₁ hw,hd.rely hw⟩
 | node f ih=>
  refine en.mk λw₁ hw=> ?_;have hd1:=hd.rely hw;rcases h w₁ hw with hs | ⟨hs,g',w',es,h1,h2,h3⟩
  ·exact .inl ⟨hs,hd1⟩
  ·refine .inr ⟨hs,g',w',es,h1,h2,ih w₁ (λb hb=> ?_) h3⟩;obtain ⟨q1,q2,q3⟩:=hd1 b hb;exact ⟨λq=>q.elim q1 λq=>by omega,qa2 q2 h2.size,(h2.blk b q2 q1).trans q3⟩
theorem en.mono{GN:(Nat->Prop)->Goroutine->World->Prop}{g:Goroutine}(h:en P m Iv Ro Stop S g W)(hs: ∀S g w,Stop S g w->GN S g w):en P m Iv Ro GN S g W:=by
 obtain ⟨r,h⟩:=h;refine ⟨r, ?_⟩
 induction r generalizing S g W with
 | leaf=>exact λw₁ hw=>hs _ _ _ (h w₁ hw)
 | node f ih=>exact λw₁ hw=>(h w₁ hw).imp (hs _ _ _) λ⟨q,g',w',es,h1,h2,h3⟩=>⟨q,g',w',es,h1,h2,ih w₁ h3⟩
end
end Go.Cx
namespace Go.Cx
open Go Go.Conc
section
variable{P:Program}{m:Bool}{Iv:World->Prop}{Ro:Nat->Prop}{Stop:(Nat->Prop)->Goroutine->World->Prop}{b:Frame}{k:List Item}{cs:List Frame}{ops:Array Oper}{S:Nat->Prop}{a:Act}{W:World}{i:Nat}{rest:List Nat}{o:Oper}
def j7(P:Program):Frame:={ (default:Frame) with fn:=P.funcs.size,defers:=[],mode:= .panicking [goexitEntry] }
theorem M3{f:FuncId}{fn:Func}{cap args:Array Value}(hf:P.funcs[f]? =some fn)(zo:(fn.name== "runtime.NumGoroutine")=false)(hb:fn.body.isNone=false)(w:World):
  stepG P false (born P { target:= .fn (.func f) cap,args:=args }) w= .go (G (Frame.enter P f (args++cap) .deferred) [j7 P]) w:=by
 have h1: ¬fn.name= "runtime.NumGoroutine":=by simpa using zo
 have h2: ¬fn.body=none:=by cases hx:fn.body <;> simp_all
 simp [born,stepG,unwind,callDeferred,invoke,callFunc,hf,h1,h2,GStep.after,G,j7,seen_none]
theorem PR{f:FuncId}{fn:Func}{x:Operand}{cap:Array Value}{Yi:Array TypeId}(ho:ops[i]? =some o)(hw:Region.wanted o (yielded ops a.tmps)=true)(hk:b.kind≠ .early)(cM:o.op= .call { callee:= .value x,args:= #[],argTypes:=Yi })(hx:a.eval x= .func (.func f) #[] cap)
  (hf:P.funcs[f]? =some fn) (zo:(fn.name== "runtime.NumGoroutine")=false) (hb:fn.body.isNone=false) (h:en P m Iv Ro Stop S (G (Frame.enter P f cap .normal) (b.at a (.inRegion ops (i::rest)::k)::cs)) W):
  en P m Iv Ro Stop S (G (b.at a (.inRegion ops (i::rest)::k)) cs) W:=by
 have h1: ¬fn.name= "runtime.NumGoroutine":=by simpa using zo
 have h2: ¬fn.body=none:=by cases hx:fn.body <;> simp_all
 have hr: ∀w,(execOp a.eval o).run P w= .ok (.enter f cap) w:=λw=>by
  unfold execOp;simp [cM,resolve,Deferred.ofValue,invoke,callFunc,hx,hf,h1,h2]
 have he: ∀w,(execOp a.eval o).events P w #[]= #[]:=λw=>by
  unfold execOp;simp [cM,resolve,Deferred.ofValue,invoke,callFunc,hx,hf,h1,h2]
 refine en.step rfl λW1 rh=>⟨_,W1,_,stepG_enter ho hw hk (hr W1),⟨rfl,rfl,rfl,qa3 _,λ_ _ _=>rfl,λe A8=> ?_⟩, ?_⟩
 ·have:=mem_listed A8;rw [he] at this;simp at this
 ·rw [sd];exact h.rely rh
theorem PS{f:FuncId}{x:Operand}{cap:Array Value}{Yi:Array TypeId}(ho:ops[i]? =some o)(hw:Region.wanted o (yielded ops a.tmps)=true)(hk:b.kind≠ .early)(cM:o.op= .defer { callee:= .value x,args:= #[],argTypes:=Yi })(hx:a.eval x= .func (.func f) #[] cap)
  (h:en P m Iv Ro Stop S (G (b.at (Act.put ⟨a.tmps,{ target:= .fn (.func f) cap,args:= #[] }::a.defers⟩ o.dst undef) (.inRegion ops rest::k)) cs) W):
  en P m Iv Ro Stop S (G (b.at a (.inRegion ops (i::rest)::k)) cs) W:=by
 refine aC rfl (λW1=> ?_) h;have hr:(execOp a.eval o).run P W1= .ok (.defer { target:= .fn (.func f) cap,args:= #[] }) W1:=by
  unfold execOp;simp [cM,resolve,Deferred.ofValue,hx]
 have he:(execOp a.eval o).events P W1 #[]= #[]:=by
  unfold execOp;simp [cM,resolve,Deferred.ofValue,hx]
 have ED:(b.at ⟨a.tmps,{ target:= .fn (.func f) cap,args:= #[] }::a.defers⟩ (.inRegion ops (i::rest)::k)).finish undef=b.at (Act.put ⟨a.tmps,{ target:= .fn (.func f) cap,args:= #[] }::a.defers⟩ o.dst undef) (.inRegion ops rest::k):=by rw [Frame.finish_at,ho];rfl
 have qM:(b.kind==CallKind.early)=false:=by simpa using hk
 rw [stepG_oper ho hw, ←ED];simp [stepG.apply,hr,he,G,Frame.at,qM,GStep.after,seen_none]
theorem ud{v:Value}(ho:ops[i]? =some o)(hw:Region.wanted o (yielded ops a.tmps)=true)(hk:b.kind≠ .early)(hr: ∀w:World,(execOp a.eval o).run P w= .ok (.value v) w)(he: ∀w:World,(execOp a.eval o).events P w #[]= #[])
  (h:en P m Iv Ro Stop S (G (b.at (a.put o.dst v) (.inRegion ops rest::k)) cs) W):en P m Iv Ro Stop S (G (b.at a (.inRegion ops (i::rest)::k)) cs) W:=by
 refine en.step rfl λW1 rh=>⟨_,W1,_,stepG_value ho hw hk (hr W1),⟨rfl,rfl,rfl,qa3 _,λ_ _ _=>rfl,λe A8=> ?_⟩, ?_⟩
 ·have:=mem_listed A8;rw [he] at this;simp at this
 ·rw [sd];exact h.rely rh
end
end Go.Cx
namespace Go.Cx
open Go Go.Conc
section
variable{P:Program}{m:Bool}{Iv:World->Prop}{Ro:Nat->Prop}{Stop:(Nat->Prop)->Goroutine->World->Prop}{b:Frame}{k:List Item}{cs:List Frame}{ops:Array Oper}{S:Nat->Prop}{a:Act}{W:World}{i:Nat}{rest:List Nat}{o:Oper}
theorem Jz{f:FuncId}{fn:Func}{cap:Array Value}{todo:List Item}{ds:List Deferred}(hd:a.defers={ target:= .fn (.func f) cap,args:= #[] }::ds)(hf:P.funcs[f]? =some fn)(zo:(fn.name== "runtime.NumGoroutine")=false)(hb:fn.body.isNone=false)(w:World):
  stepG P m (G { b.at a todo with mode:= .returning } cs) w= .go (G (Frame.enter P f cap .deferred) ({ b.at ⟨a.tmps,ds⟩ todo with mode:= .returning }::cs)) w:=by
 have h1: ¬fn.name= "runtime.NumGoroutine":=by simpa using zo
 have h2: ¬fn.body=none:=by cases hx:fn.body <;> simp_all
 simp [G,stepG,unwind,callDeferred,Frame.at,hd,invoke,callFunc,hf,h1,h2,GStep.after,seen_none]
theorem EE{c:Frame}(ho:ops[i]? =some o)(hw:Region.wanted o (yielded ops a.tmps)=true)(hk:b.kind= .deferred){Yi:Array TypeId}(cM:o.op= .call { callee:= .builtin .recover,args:= #[],argTypes:=Yi })(hc:c.mode= .returning)(w:World):
  stepG P m (G (b.at a (.inRegion ops (i::rest)::k)) (c::cs)) w= .go (G (b.at (a.put o.dst .nilIface) (.inRegion ops rest::k)) (c::cs)) w:=by
 have hr:(execOp a.eval o).run P w= .ok .recover w:=by
  unfold execOp;simp [cM,resolve,invoke,builtin]
 have he:(execOp a.eval o).events P w #[]= #[]:=by
  unfold execOp;simp [cM,resolve,invoke,builtin]
 have ED:(b.at a (.inRegion ops (i::rest)::k)).finish .nilIface=b.at (a.put o.dst .nilIface) (.inRegion ops rest::k):=by rw [Frame.finish_at,ho];rfl
 rw [stepG_oper ho hw, ←ED];have ht:tryRecover (b.at a (.inRegion ops (i::rest)::k)) (c::cs)=none:=by
  simp [tryRecover,Frame.at,hk,hc]
 simp [stepG.apply,hr,he,G,Frame.at,hk,GStep.after,seen_none] at ht ⊢;rw [ht]
end
end Go.Cx
