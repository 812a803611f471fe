/- One program beside another, one goroutine among others. -/
import Derived.Test.YtbpbncjammigdaaGreatAl
import Derived.Test.YtbpbncjammigdaaGreatCx1
import Derived.Calls
import Derived.Conc.CrowdRun
import Derived.Test.YtbpbncjammigdaaGreatSrt1
import Derived.Test.YtbpbncjammigdaaGreatEng1
import Derived.Conc.Own5
import Derived.Test.YtbpbncjammigdaaGreatEng2
import Derived.Conc.Fork
import Derived.Conc.CrowdStepC
import Derived.Listen
import Derived.RunNT
import Derived.Lone
import Derived.Orders
import Derived.Conc.Events
import Derived.Conc.Own4
import Derived.Conc.Own2
import Derived.Conc.DeferLaws
set_option linter.unusedVariables false
set_option linter.unusedSimpArgs false
set_option maxHeartbeats 4000000
namespace Go.Cx
open Go
variable[aV][aJ][aY]
def Ai(w w1:World)(g1:Goroutine)(T:World->GStep):Prop:=
 w.drawn<=w1.drawn/\w1.tape=w.tape/\(Dw w->Dw w1)/\ ∀τ:Tape,(∀j q,j<w1.drawn->τ j q=w.tape j q)-> ∃es,T (TW w τ)= .go g1 (TW w1 τ) es
section
variable{L C:Program}{Xs:FuncId->Prop}{β:Bj}{t:Frame}{r:List Frame}{w W w1:World}{g1:Goroutine}
theorem wv{α:Type}{RA:Bj->α->α->Prop}{s s':Sem α}(hs:aC L C RA β s s')(hw:bZ β w W){f:FuncId}{F:Result α->GStep}{es:Array Event}
  (h:GStep.after (seen L f (s.runT L w #[]).2) (F (s.runT L w #[]).1)= .go g1 w1 es) (hh: ∀q w2 rH,F (.halt q w2)= .go g1 w1 rH->False)
  (qF: ∀bR v v' w2 W2 rH,RA bR v v'->bZ bR w2 W2->Le β bR->F (.ok v w2)= .go g1 w1 rH->Ai w2 w1 g1 (λw=>F (.ok v w))):
  Ai w w1 g1 (λw=>GStep.after (seen L f (s.runT L w #[]).2) (F (s.runT L w #[]).1)):=by
 obtain ⟨rH,h⟩:=tx h;rw [Sem.runT_fst] at h;cases bH:s.run L w with
 | halt q w2=>rw [bH] at h;exact (hh _ _ _ h).elim
 | ok v w2=>
  rw [bH] at h;obtain ⟨⟨v',W2,bR,e1,e2,e3⟩,e4,e5,ed,e6⟩:=hs.tape hw bH;obtain ⟨l1,l2,ld,l3⟩:=qF bR v v' w2 W2 rH e1 e2 e3 h;refine ⟨qa8 e4 l1,l2.trans e5,λh=>ld (ed h),λτ nW=> ?_⟩;have h1:=e6 τ λj q _ hj=>nW j q (qa2 hj l1);obtain ⟨es3,h3⟩:=l3 τ λj q hj=>(nW j q hj).trans (by rw [e5]);simp only at h3 ⊢;rw [Sem.runT_fst,h1,h3];exact ⟨_,rfl⟩
omit [aV] [aJ] [aY] in
theorem ju{T:World->GStep}{g:Goroutine}(hT: ∀w,T w= .go g w){es:Array Event}(h:T w= .go g1 w1 es):Ai w w1 g1 T:=by
 rw [hT] at h;cases h;exact ⟨qa3 _,rfl,id,λτ _=>⟨_,hT _⟩⟩
omit [aJ] in
theorem Kw{a b:Frame}{k k':List Frame}{m:Bool}(fl:cF L C β (a::k) (b::k')){v:Value}{es:Array Event}
  (h:doReturn L m a (k++t::r) none v w= .go g1 w1 es):Ai w w1 g1 (doReturn L m a (k++t::r) none v):=by
 have ha:=fl.top;cases fl with
 | one _ hr=>exact ju (g:=gb (t.finish v) r) (λw=>by unfold doReturn;rw [ha.kind.1];rfl) h
 | cons _ hk=>
  cases hk with
  | @one a2 b2 h2 hr=>exact ju (g:=gb (a2.finish v) (t::r)) (λw=>by unfold doReturn;rw [ha.kind.1];rfl) h
  | @cons a2 b2 k2 k2' h2 hk=>exact ju (g:=gb (a2.finish v) (k2++t::r)) (λw=>by unfold doReturn;rw [ha.kind.1];rfl) h
theorem IY(HF:PF L C Xs){a b:Frame}{k k':List Frame}{m:Bool}(fl:cF L C β (a::k) (b::k')){j:Option Code}(hj: ∀c,j=some c->cB L C c)(hw:bZ β w W){es:Array Event}
  (h:Lv L m a (k++t::r) w j= .go g1 w1 es):Ai w w1 g1 (λw=>Lv L m a (k++t::r) w j):=by
 have ha:=fl.top;obtain ⟨fn,tm,todo,df,md,kd,ro⟩:=a;obtain ⟨jd,CY,tv,Ik,IT,F1,CZ⟩:=b;have vu:=ha.round;simp only at vu;unfold Lv at h ⊢;cases vu with
 | none=>
  simp only at h ⊢;split at h
  all_goals first
   | exact ju (λw=>rfl) h
   | (simp at h)
 | some hl=>
  simp only at h ⊢;refine wv (C:=C) (F:=λq=>match q with
   | .ok v w=>doReturn L m _ (k++t::r) none v w
   | .halt _ w=> .ended (.stuck "range over a function: no such loop" _) w) (vt hl j λc hc=>(HF.code c).2 (hj c hc)) hw h ?_ ?_
  ·intro q w2 rH h;cases h
  ·intro bR v v' w2 W2 rH hv th hT h;exact Kw (fl.mono hT) h
theorem xP(HF:PF L C Xs){a b:Frame}{k k':List Frame}(fl:cF L C β (a::k) (b::k')){s s':Sem Next}(hs:aC L C lN β s s')(hw:bZ β w W){es:Array Event}
  (h:stepG.apply L true a (k++t::r) none s w= .go g1 w1 es) (hp: ¬cR g1):Ai w w1 g1 (stepG.apply L true a (k++t::r) none s):=by
 have ha:=fl.top;have Il:(a.kind== .early)=false:=by rw [ha.kind.1];rfl
 have kA:stepG.apply.match_1 (λ_=>CallKind) a.todo (λd resume saved tail=>CallKind.wrapped) (λx=>CallKind.normal)= .normal:=by
  have:=ha.todo;generalize a.todo=ta at this;generalize b.todo=tb at this;cases this with
  | nil=>rfl
  | cons hi _=>cases hi <;> rfl
 have key: ∀w2:World, ∀v,s.run L w= .ok v w2->Ai w w1 g1 (stepG.apply L true a (k++t::r) none s):=by
  intro w2 n bH;obtain ⟨⟨v',W2,bR,e1,e2,e3⟩,e4,e5,ed,e6⟩:=hs.tape hw bH;have hl: ∀(g:Goroutine),(∀w w2:World,s.run L w= .ok n w2-> ∃es,stepG.apply L true a (k++t::r) none s w= .go g w2 es)->Ai w w1 g1 (stepG.apply L true a (k++t::r) none s):=by
   intro g hg;obtain ⟨es3,h3⟩:=hg w w2 bH;rw [h3] at h;cases h;exact ⟨e4,e5,ed,λτ nW=>hg _ _ (e6 τ λj q _=>nW j q)⟩
  have Kq: ∀w w2:World,s.run L w= .ok n w2-> ∃es,s.runT L w #[]=(.ok n w2,es):=by
   intro w w2 h;exact ⟨(s.runT L w #[]).2,by rw [←h, ←Sem.runT_fst L s w #[]]⟩
  cases e1 with
  | value hv=>
   rename_i v _;refine hl (gb (a.finish v) (k++t::r)) λw w2 hr=> ?_;obtain ⟨es,h⟩:=Kq w w2 hr;unfold stepG.apply;simp only [if_true,h,GStep.after];exact ⟨_,rfl⟩
  | skip=>
   refine hl (gb (a.finish undef) (k++t::r)) λw w2 hr=> ?_;obtain ⟨es,h⟩:=Kq w w2 hr;unfold stepG.apply;simp only [if_true,h,GStep.after];exact ⟨_,rfl⟩
  | @enter f x x' qF pG hx=>
   refine hl (gb (Frame.enter L f x .normal) (a::(k++t::r))) λw w2 hr=> ?_;obtain ⟨es,h⟩:=Kq w w2 hr;unfold stepG.apply;simp only [if_true,h,GStep.after,kA];exact ⟨_,rfl⟩
  | @round l l' f x x' ca cb hca hcb oi hx=>
   refine hl (gb (Frame.round l f x ca cb .normal) (a::(k++t::r))) λw w2 hr=> ?_;obtain ⟨es,h⟩:=Kq w w2 hr;unfold stepG.apply;simp only [if_true,h,GStep.after];exact ⟨_,rfl⟩
 cases bH:s.run L w with
 | ok n w2=>exact key w2 n bH
 | halt hh w2=>
  exfalso;unfold stepG.apply at h;have hR:s.runT L w #[]=(.halt hh w2,(s.runT L w #[]).2):=by rw [←bH, ←Sem.runT_fst L s w #[]]
  simp only [if_true] at h;rw [hR] at h;obtain ⟨rH,h⟩:=tx h;have yG:=(hs.zX hw bH).1;cases hh with
  | panic v=>cases h;exact hp (oo _ _)
  | stuck s=>cases h
  | unsupported u=>
   cases u with
   | initOrder g=>exact yG g rfl
   | _=>cases h
  | _=>exact yG.elim
theorem Ox(HP:fW L C)(HF:PF L C Xs){a b:Frame}{k k':List Frame}{m:Bool}(fl:cF L C β (a::k) (b::k'))(hm:a.mode= .run)(hw:bZ β w W){es:Array Event}
  (h:stepG.exec L m true a (k++t::r) none w= .go g1 w1 es) (hp: ¬cR g1):Ai w w1 g1 (stepG.exec L m true a (k++t::r) none):=by
 have ha:=fl.top;obtain ⟨fn,tm,todo,df,md,kd,ro⟩:=a;obtain ⟨jd,CY,tv,Ik,IT,F1,CZ⟩:=b;have hT:=ha.todo;have xB:=ha.fn;simp only at hT hm xB;subst xB;subst hm;cases hT with
 | nil=>
  have e: ∀w,stepG.exec L m true _ (k++t::r) none w=Lv L m _ (k++t::r) w none:=λw=>Eh _ _ { fn:=jd,tmps:=tm,todo:=[],defers:=df,mode:= .run,kind:=kd,roundOf:=ro } _ _ rfl;rw [e] at h;rw [funext e];exact IY HF fl (λc h=>by cases h) hw h
 | @cons i_ i_' K K' hi hk=>
  cases hi with
  | inBlock id=>exact ju (λw=>rfl) h
  | inLoop hc=>exact ju (λw=>rfl) h
  | lP hl=>cases h
  | beginRound=>
   have vu:=ha.round;simp only at vu;refine xP (C:=C) (s':=do CZ.elim (stuck "beginRound: no round") Instr.beginRound;pure .skip) HF fl ?_ hw h hp;cases vu with
   | none=>exact (aQ.dP aQ.halt).rel
   | some hl=>exact (rI hl).bd λgW _ _ hl _=> .pure .skip
  | @kN l l' hl=>
   refine wv (C:=C) (F:=λq=>match q with
     | .ok jump w=> .go { frame:={ fn:=jd,tmps:=tm,todo:=(jump.map Item.code).toList++_,defers:=df,mode:= .run,kind:=kd,roundOf:=ro },callers:=k++t::r,status:= .running,dying:=none } w
     | .halt (.panic v) w=> .go { frame:=Frame.raise _ [{ v,recovered:=false }],callers:=k++t::r,status:= .running,dying:=none } w
     | .halt _ w=> .ended (.stuck "range over a function: no such loop" _) w) (xO hl) hw h ?_ ?_
   ·intro q w2 rH h;cases q with
    | panic v=>cases h;exact hp (oo _ _)
    | _=>cases h
   ·intro bR v v' w2 W2 rH hv th hT h;exact ju (λw=>rfl) h
  | @inRegion ops td ho=>
   cases td with
   | nil=>exact ju (λw=>rfl) h
   | cons i td=>
    simp only [stepG.exec] at h;split at h
    ·rename_i hq;cases cG:ops[i]? with
     | none=>rw [cG] at hq;cases hq
     | some o=>
      have qF:=ho o (qb3 cG);have hd: ∀c,o.op≠ .defer c:=λc q=>by rw [q] at qF;exact qF
      have e: ∀w,stepG.oper L true _ (k++t::r) none w=stepG.apply L true _ (k++t::r) none (execOp _ o) w:=λw=>zG L { fn:=jd,tmps:=tm,todo:= .inRegion ops (i::td)::K,defers:=df,mode:= .run,kind:=kd,roundOf:=ro } (k++t::r) w (by simp only [Frame.oper?];exact cG) hd;rw [e] at h;have e2: ∀w,stepG.exec L m true { fn:=jd,tmps:=tm,todo:= .inRegion ops (i::td)::K,defers:=df,mode:= .run,kind:=kd,roundOf:=ro } (k++t::r) none w=stepG.apply L true { fn:=jd,tmps:=tm,todo:= .inRegion ops (i::td)::K,defers:=df,mode:= .run,kind:=kd,roundOf:=ro } (k++t::r) none (execOp (Frame.eval { fn:=jd,tmps:=tm,todo:= .inRegion ops (i::td)::K,defers:=df,mode:= .run,kind:=kd,roundOf:=ro }) o) w:=by
       intro w;simp only [stepG.exec];rw [if_pos hq];exact e w
      rw [funext e2];exact xP HF fl (IS HP ha.eval o qF) hw h hp
    ·rename_i hq;refine ju (g:=gb (Frame.finish { fn:=jd,tmps:=tm,todo:= .inRegion ops (i::td)::K,defers:=df,mode:= .run,kind:=kd,roundOf:=ro } undef) (k++t::r)) (λw=> ?_) (w:=w) (es:=es) ?_
     ·simp only [stepG.exec];rw [if_neg hq]
     ·simp only [stepG.exec];rw [if_neg hq];exact h
  | code hc=>
   cases hc with
   | skip=>exact ju (λw=>rfl) h
   | label l=>exact ju (λw=>rfl) h
   | ret=>
    have e: ∀w,stepG.exec L m true _ (k++t::r) none w=Lv L m _ (k++t::r) w (some .ret):=λw=>Ei _ _ { fn:=jd,tmps:=tm,todo:= .code .ret::K,defers:=df,mode:= .run,kind:=kd,roundOf:=ro } K _ _ rfl;rw [e] at h;rw [funext e];exact IY HF fl (λc h=>by cases h;exact .ret) hw h
   | seq h1 h2=>exact ju (λw=>rfl) h
   | block id h1=>exact ju (λw=>rfl) h
   | loop h1=>exact ju (λw=>rfl) h
   | exit id=>
    rcases Af id hk with ⟨e1,e2⟩ | ⟨q,q',e1,e2,hq⟩
    ·have e: ∀w,stepG.exec L m true _ (k++t::r) none w=Lv L m _ (k++t::r) w (some (.exit id)):=λw=>zF _ _ { fn:=jd,tmps:=tm,todo:= .code (.exit id)::K,defers:=df,mode:= .run,kind:=kd,roundOf:=ro } id K _ _ rfl e1;rw [e] at h;rw [funext e];exact IY HF fl (λc h=>by cases h;exact .exit id) hw h
    ·refine ju (g:=gb { fn:=jd,tmps:=tm,todo:=q,defers:=df,mode:= .run,kind:=kd,roundOf:=ro } (k++t::r)) (λw=> ?_) h;simp only [stepG.exec,e1,Option.elim_some]
   | @cond c x y hc h1 h2=>
    have he:=ha.eval c hc;simp only [stepG.exec] at h;have e2: ∀w,stepG.exec L m true { fn:=jd,tmps:=tm,todo:= .code (.cond c x y)::K,defers:=df,mode:= .run,kind:=kd,roundOf:=ro } (k++t::r) none w=(match Frame.eval { fn:=jd,tmps:=tm,todo:= .code (.cond c x y)::K,defers:=df,mode:= .run,kind:=kd,roundOf:=ro } c with
      | .bool b=> .go { frame:={ fn:=jd,tmps:=tm,todo:= .code (if b then x else y)::K,defers:=df,mode:= .run,kind:=kd,roundOf:=ro },callers:=k++t::r,status:= .running,dying:=none } w
      | _=> .ended (.stuck "cond: bool expected" (Frame.pos L { fn:=jd,tmps:=tm,todo:= .code (.cond c x y)::K,defers:=df,mode:= .run,kind:=kd,roundOf:=ro })) w):=λw=>rfl
    rw [funext e2];revert h;generalize Frame.eval _ c=u at he;generalize Frame.eval _ c=u' at he;intro h;cases he with
    | bool q=>exact ju (λw=>rfl) h
    | _=>cases h
   | @region id ops draw ho=>
    cases draw with
    | false=>exact ju (λw=>rfl) h
    | true=>
     have hs:aC L C (fF λ_=>True) β (choose (.order jd id)) (choose (.order jd id)):= .choose λn=> .pure ⟨rfl,trivial⟩;have e2: ∀(w w2:World) n,(choose (.order jd id)).run L w= .ok n w2->stepG.exec L m true { fn:=jd,tmps:=tm,todo:= .code (.region id ops true)::K,defers:=df,mode:= .run,kind:=kd,roundOf:=ro } (k++t::r) none w= .go (gb { fn:=jd,tmps:=tm,todo:= .inRegion ops (Region.schedule (L.follows .mixedOrders) ops n)::K,defers:=df,mode:= .run,kind:=kd,roundOf:=ro } (k++t::r)) w2:=by
      intro w w2 n hr;simp only [stepG.exec,qai,qa7,if_false];rw [hr]
     cases bH:(choose (.order jd id)).run L w with
     | halt q w2=>
      simp only [stepG.exec,qai,qa7,if_false] at h;rw [bH] at h;cases h
     | ok n w2=>
      obtain ⟨⟨n',W2,bR,e1,e3,e4⟩,e5,e6,ed,e7⟩:=hs.tape hw bH;rw [e2 _ _ _ bH] at h;cases h;exact ⟨e5,e6,ed,λτ nW=>⟨#[],e2 _ _ _ (e7 τ λj q _=>nW j q)⟩⟩
   | @rangeFunc f ps x y hf h1 h2=>
    refine wv (C:=C) (F:=λq=>match q with
      | .ok (l,mark) w=>stepG.apply L true { fn:=jd,tmps:=tm,todo:= .inRangeFunc l::_,defers:=mark++df,mode:= .run,kind:=kd,roundOf:=ro } (k++t::r) none (do let d←resolve (Frame.eval { fn:=jd,tmps:=tm,todo:= .inRangeFunc l::_,defers:=mark++df,mode:= .run,kind:=kd,roundOf:=ro }) { callee:= .value f,args:= #[.const (.func (.yield l) #[] #[])],argTypes:= #[] } 0;invoke d.target d.args) w
      | .halt _ w=> .ended (.stuck "range over a function: no such loop" _) w) (tz jd ps ha.tmps ((HF.code _).2 h1) ((HF.code _).2 h2) ha.round) hw h ?_ ?_
    ·intro q w2 rH h;cases h
    ·rintro bR ⟨l,mk⟩ ⟨l',mk'⟩ w2 W2 rH ⟨hl,hmk⟩ th hT h;have qH:=ha.mono hT;have Ah:cF L C bR ({ fn:=jd,tmps:=tm,todo:= .inRangeFunc l::K,defers:=mk++df,mode:= .run,kind:=kd,roundOf:=ro }::k) ({ fn:=jd,tmps:=CY,todo:= .inRangeFunc l'::K',defers:=mk'++Ik,mode:=IT,kind:=F1,roundOf:=CZ }::k'):=
      (fl.mono hT).swap ⟨rfl,qH.tmps, .cons (.lP hl) (hk.mono hT),hmk.append qH.defers,qH.mode,ha.kind,qH.round,qH.xL⟩ rfl
     refine xP HF Ah (IW (v':= .func (.yield l') #[] #[]) HP (Ah.top.eval f hf) ?_) th h hp;exact .func (.yield hl) rfl rfl (λi v v' q=>by simp at q) (λi v v' q=>by simp at q)
theorem IZ(HP:fW L C){a b:Frame}{k k':List Frame}{m:Bool}(fl:cF L C β (a::k) (b::k'))(hm:a.mode= .returning)(hw:bZ β w W){es:Array Event}
  (h:unwind L m a (k++t::r) none w= .go g1 w1 es):Ai w w1 g1 (unwind L m a (k++t::r) none):=by
 have ha:=fl.top;obtain ⟨fn,tm,todo,df,md,kd,ro⟩:=a;obtain ⟨jd,CY,tv,Ik,IT,F1,CZ⟩:=b;have hD:=ha.defers;have xB:=ha.fn;simp only at hD hm xB;subst xB;subst hm;obtain ⟨RU,vu⟩:IT= .returning/\ro=none:=by rcases ha.mode with h | h;(cases h.1);exact ⟨h.2.1,h.2.2⟩
 subst RU;subst vu;unfold unwind at h ⊢;cases hD with
 | @cons q q' ds ds' hq hd=>
  simp only at h ⊢;refine wv (C:=C) (F:=λx=>match x with
    | .ok calls w=> .go { frame:={ fn:=jd,tmps:=tm,todo:=todo,defers:=calls++ds,mode:= .returning,kind:=kd,roundOf:=none },callers:=k++t::r,status:= .running,dying:=none } w
    | .halt _ w=> .ended (.stuck "the deferred calls of a range-over-func loop have been taken" _) w) (oF hq) hw h ?_ ?_
  ·intro q w2 rH h;cases h
  ·rintro bR v v' w2 W2 rH hv th hT h;exact ju (λw=>rfl) h
 | nil=>
  simp only at h ⊢;obtain ⟨f,e1,e2⟩:=ha.xL rfl;simp only at e1;rw [e1] at h ⊢;simp only at h ⊢;refine wv (C:=C) (F:=λx=>match x with
    | .ok v w=>doReturn L m { fn:=jd,tmps:=tm,todo:=todo,defers:=[],mode:= .returning,kind:=kd,roundOf:=none } (k++t::r) none v w
    | .halt (.stuck s) w=> .ended (.stuck s _) w
    | .halt _ w=> .ended (.stuck "return: the result variables cannot be read" _) w) (uj HP f ha.tmps) hw h ?_ ?_
  ·intro q w2 rH h;cases q <;> cases h
  ·rintro bR v v' w2 W2 rH hv th hT h;exact Kw (fl.mono hT) h
theorem wx(HP:fW L C)(HF:PF L C Xs){a b:Frame}{k k':List Frame}{m:Bool}(fl:cF L C β (a::k) (b::k'))(hw:bZ β w W){es:Array Event}
  (h:stepG L m (gb a (k++t::r)) w= .go g1 w1 es) (hp: ¬cR g1):Ai w w1 g1 (λw=>stepG L m (gb a (k++t::r)) w):=by
 rcases fl.top.mode with ⟨m1,m2⟩ | ⟨m1,m2,_⟩
 ·have e: ∀w,stepG L m (gb a (k++t::r)) w=stepG.exec L m true a (k++t::r) none w:=by
   intro w;unfold stepG gb;simp only [m1]
  rw [e] at h;rw [funext e];exact Ox HP HF fl m1 hw h hp
 ·have e: ∀w,stepG L m (gb a (k++t::r)) w=unwind L m a (k++t::r) none w:=by
   intro w;unfold stepG gb;simp only [m1]
  rw [e] at h;rw [funext e];exact IZ HP fl m1 hw h
end
end Go.Cx
namespace Go.Cx
open Go
variable[aV][aJ][aY]
def Oy(ds:List Deferred):Prop:= ∀d∈ds, ∃r x,d={ target:= .collected r,args:=x }
omit [aV] [aJ] [aY] in
theorem mV.xQ{β:Bj}{x y:List Deferred}(h:mV β x y):Oy x:=by
 induction h with
 | nil=>intro d hd;simp at hd
 | cons _ _ ih=>
  intro d hd;rcases qad.1 hd with rfl | hd
  ·exact ⟨_,_,rfl⟩
  ·exact ih d hd
def Gr(a:Frame)(cs:List Frame)(w:World)(T:GStep):Prop:=
 (∃g1 w1 es,T= .go g1 w1 es/\(cR g1->(Dw w->Dw w1)/\ ∃a2 vs,Oy a2.defers/\g1=gb (Frame.raise a2 vs) cs))\/ ∃o w1 es,T= .ended o w1 es
omit [aV] [aJ] [aY] in
theorem Gr.after{a:Frame}{cs:List Frame}{w:World}{T:GStep}(h:Gr a cs w T)(es:Array Event):Gr a cs w (GStep.after es T):=by
 rcases h with ⟨g1,w1,es1,rfl,hb⟩ | ⟨o,w1,es1,rfl⟩
 ·exact .inl ⟨g1,w1,_,rfl,hb⟩
 ·exact .inr ⟨o,w1,_,rfl⟩
omit [aV] [aJ] [aY] in
theorem ql{a:Frame}{cs:List Frame}{g:Goroutine}{w0 w:World}{es:Array Event}(h: ∀ch,g.frame.mode≠ .panicking ch):Gr a cs w0 (.go g w es):= .inl ⟨g,w,es,rfl,λ⟨ch,q⟩=>absurd q (h ch)⟩
omit [aV] [aJ] [aY] in
theorem lQ{a:Frame}{cs:List Frame}{o:Outcome}{w0 w:World}{es:Array Event}:Gr a cs w0 (.ended o w es):= .inr ⟨o,w,es,rfl⟩
omit [aV] [aJ] [aY] in
theorem jE(a:Frame)(v:Value):(a.finish v).mode=a.mode:=by
 unfold Frame.finish;split <;> rfl
section
variable{L C:Program}{Xs:FuncId->Prop}{β:Bj}{t:Frame}{r:List Frame}{w W:World}
omit [aJ] in
theorem iU.calm{a b:Frame}(h:iU L C β a b): ∀ch,a.mode≠ .panicking ch:=λch q=>by
 rcases h.mode with ⟨h,_⟩ | ⟨h,_⟩ <;> rw [h] at q <;> cases q
theorem wy{α:Type}{RA:Bj->α->α->Prop}{s s':Sem α}(hs:aC L C RA β s s')(hw:bZ β w W){f:FuncId}{F:Result α->GStep}{a:Frame}{cs:List Frame}
  (hh: ∀q w2,IE q->(Dw w->Dw w2)->Gr a cs w (F (.halt q w2)))
  (qF: ∀bR v v' w2 W2,RA bR v v'->bZ bR w2 W2->Le β bR->(Dw w->Dw w2)->Gr a cs w (F (.ok v w2))):
  Gr a cs w (GStep.after (seen L f (s.runT L w #[]).2) (F (s.runT L w #[]).1)):=by
 refine Gr.after ?_ _;rw [Sem.runT_fst];cases bH:s.run L w with
 | halt q w2=>exact hh q w2 (hs.zX hw bH).1 (hs.zX hw bH).2
 | ok v w2=>
  obtain ⟨⟨v',W2,bR,e1,e2,e3⟩,e4,e5,ed,e6⟩:=hs.tape hw bH;exact qF bR v v' w2 W2 e1 e2 e3 ed
omit [aJ] in
theorem Kx(ht:t.mode= .run){a b:Frame}{k k':List Frame}{m:Bool}(fl:cF L C β (a::k) (b::k')){v:Value}{w2:World}{a2:Frame}{cs:List Frame}:
  Gr a2 cs w (doReturn L m a (k++t::r) none v w2):=by
 have ha:=fl.top;unfold doReturn;rw [ha.kind.1];cases fl with
 | one _ hr=>exact ql λch q=>by rw [show (gb (t.finish v) r).frame.mode=t.mode from jE _ _,ht] at q;cases q
 | cons _ hk=>
  cases hk with
  | @one a3 b3 h2 hr=>exact ql λch q=>by rw [show (gb (a3.finish v) (t::r)).frame.mode=a3.mode from jE _ _] at q;exact h2.calm ch q
  | @cons a3 b3 k3 k3' h2 hk=>exact ql λch q=>by rw [show (gb (a3.finish v) (k3++t::r)).frame.mode=a3.mode from jE _ _] at q;exact h2.calm ch q
theorem I0(ht:t.mode= .run)(HF:PF L C Xs){a b:Frame}{k k':List Frame}{m:Bool}(fl:cF L C β (a::k) (b::k')){j:Option Code}(hj: ∀c,j=some c->cB L C c)(hw:bZ β w W){a2:Frame}{cs:List Frame}:
  Gr a2 cs w (Lv L m a (k++t::r) w j):=by
 have ha:=fl.top;obtain ⟨fn,tm,todo,df,md,kd,ro⟩:=a;obtain ⟨jd,CY,tv,Ik,IT,F1,CZ⟩:=b;have vu:=ha.round;simp only at vu;unfold Lv;cases vu with
 | none=>
  simp only;split
  all_goals simp only [if_true,qa7,if_false]
  all_goals first
   | exact ql λch q=>by cases q
   | exact lQ
 | some hl=>
  simp only;refine wy (C:=C) (F:=λq=>match q with
   | .ok v w=>doReturn L m _ (k++t::r) none v w
   | .halt _ w=> .ended (.stuck "range over a function: no such loop" _) w) (vt hl j λc hc=>(HF.code c).2 (hj c hc)) hw ?_ ?_
  ·intro q w2 _ _;exact lQ
  ·intro bR v v' w2 W2 hv th hT _;exact Kx ht (fl.mono hT)
theorem xR{a b:Frame}{k k':List Frame}(fl:cF L C β (a::k) (b::k')){s s':Sem Next}(hs:aC L C lN β s s')(hw:bZ β w W):
  Gr a (k++t::r) w (stepG.apply L true a (k++t::r) none s w):=by
 have ha:=fl.top;unfold stepG.apply;simp only [if_true];rcases hR:s.runT L w #[] with ⟨q,te⟩
 have bH:s.run L w=q:=by rw [←Sem.runT_fst L s w #[],hR]
 simp only;refine Gr.after ?_ _;cases q with
 | halt hh w2=>
  obtain ⟨yG,Mb⟩:=hs.zX hw bH;cases hh with
  | panic v=>exact .inl ⟨_,_,_,rfl,λ_=>⟨Mb,_,_,ha.defers.xQ,rfl⟩⟩
  | stuck s=>exact lQ
  | unsupported u=>
   cases u with
   | initOrder g=>exact (yG g rfl).elim
   | _=>exact lQ
  | _=>exact yG.elim
 | ok n w2=>
  obtain ⟨⟨v',W2,bR,e1,e2,e3⟩,e4,e5,ed,e6⟩:=hs.tape hw bH;cases e1 with
  | @value v v' hv=>exact ql λch q=>by rw [show (gb (a.finish v) (k++t::r)).frame.mode=a.mode from jE _ _] at q;exact ha.calm ch q
  | skip=>exact ql λch q=>by rw [show (gb (a.finish undef) (k++t::r)).frame.mode=a.mode from jE _ _] at q;exact ha.calm ch q
  | enter f qF pG hx=>exact ql λch q=>by cases q
  | round f ca cb hca hcb oi hx=>exact ql λch q=>by cases q
theorem Oz(ht:t.mode= .run)(HP:fW L C)(HF:PF L C Xs){a b:Frame}{k k':List Frame}{m:Bool}(fl:cF L C β (a::k) (b::k'))(hm:a.mode= .run)(hw:bZ β w W):
  Gr a (k++t::r) w (stepG.exec L m true a (k++t::r) none w):=by
 have ha:=fl.top;obtain ⟨fn,tm,todo,df,md,kd,ro⟩:=a;obtain ⟨jd,CY,tv,Ik,IT,F1,CZ⟩:=b;have hT:=ha.todo;have xB:=ha.fn;simp only at hT hm xB;subst xB;subst hm;have calm: ∀{g:Goroutine} {w0 w:World},g.frame.mode= .run->Gr { fn:=jd,tmps:=tm,todo:=todo,defers:=df,mode:= .run,kind:=kd,roundOf:=ro } (k++t::r) w0 (.go g w):=λh=>ql λch q=>by rw [h] at q;cases q
 cases hT with
 | nil=>
  rw [Eh _ _ _ _ _ rfl];exact I0 ht HF fl (λc h=>by cases h) hw
 | @cons i_ i_' K K' hi hk=>
  cases hi with
  | inBlock id=>exact calm rfl
  | inLoop hc=>exact calm rfl
  | lP hl=>exact lQ
  | beginRound=>
   have vu:=ha.round;simp only at vu;refine xR (C:=C) (s':=do CZ.elim (stuck "beginRound: no round") Instr.beginRound;pure .skip) fl ?_ hw;cases vu with
   | none=>exact (aQ.dP aQ.halt).rel
   | some hl=>exact (rI hl).bd λgW _ _ hl _=> .pure .skip
  | @kN l l' hl=>
   refine wy (C:=C) (F:=λq=>match q with
     | .ok jump w=> .go { frame:={ fn:=jd,tmps:=tm,todo:=(jump.map Item.code).toList++_,defers:=df,mode:= .run,kind:=kd,roundOf:=ro },callers:=k++t::r,status:= .running,dying:=none } w
     | .halt (.panic v) w=> .go { frame:=Frame.raise _ [{ v,recovered:=false }],callers:=k++t::r,status:= .running,dying:=none } w
     | .halt _ w=> .ended (.stuck "range over a function: no such loop" _) w) (xO hl) hw ?_ ?_
   ·intro q w2 hq Mb;cases q with
    | panic v=>exact .inl ⟨_,_,_,rfl,λ_=>⟨Mb,_,_,ha.defers.xQ,rfl⟩⟩
    | _=>exact lQ
   ·intro bR v v' w2 W2 hv th hT _;exact calm rfl
  | @inRegion ops td ho=>
   cases td with
   | nil=>exact calm rfl
   | cons i td=>
    simp only [stepG.exec];split
    ·rename_i hq;cases cG:ops[i]? with
     | none=>rw [cG] at hq;cases hq
     | some o=>
      have qF:=ho o (qb3 cG);have hd: ∀c,o.op≠ .defer c:=λc q=>by rw [q] at qF;exact qF
      rw [zG _ _ _ _ (o:=o) (by simp only [Frame.oper?];exact cG) hd];exact xR fl (IS HP ha.eval o qF) hw
    ·exact calm (jE _ _)
  | code hc=>
   cases hc with
   | skip=>exact calm rfl
   | label l=>exact calm rfl
   | ret=>
    rw [Ei _ _ _ _ _ _ rfl];exact I0 ht HF fl (λc h=>by cases h;exact .ret) hw
   | seq h1 h2=>exact calm rfl
   | block id h1=>exact calm rfl
   | loop h1=>exact calm rfl
   | exit id=>
    rcases Af id hk with ⟨e1,e2⟩ | ⟨q,q',e1,e2,hq⟩
    ·rw [zF _ _ _ id _ _ _ rfl e1];exact I0 ht HF fl (λc h=>by cases h;exact .exit id) hw
    ·simp only [stepG.exec,e1,Option.elim_some];exact calm rfl
   | @cond c x y hc h1 h2=>
    simp only [stepG.exec];split
    ·exact calm rfl
    ·exact lQ
   | @region id ops draw ho=>
    cases draw with
    | false=>exact calm rfl
    | true=>
     simp only [stepG.exec,qai,qa7,if_false];split
     ·exact calm rfl
     ·exact lQ
   | @rangeFunc f ps x y hf h1 h2=>
    refine wy (C:=C) (F:=λq=>match q with
      | .ok (l,mark) w=>stepG.apply L true { fn:=jd,tmps:=tm,todo:= .inRangeFunc l::_,defers:=mark++df,mode:= .run,kind:=kd,roundOf:=ro } (k++t::r) none (do let d←resolve (Frame.eval { fn:=jd,tmps:=tm,todo:= .inRangeFunc l::_,defers:=mark++df,mode:= .run,kind:=kd,roundOf:=ro }) { callee:= .value f,args:= #[.const (.func (.yield l) #[] #[])],argTypes:= #[] } 0;invoke d.target d.args) w
      | .halt _ w=> .ended (.stuck "range over a function: no such loop" _) w) (tz jd ps ha.tmps ((HF.code _).2 h1) ((HF.code _).2 h2) ha.round) hw ?_ ?_
    ·intro q w2 _ _;exact lQ
    ·rintro bR ⟨l,mk⟩ ⟨l',mk'⟩ w2 W2 ⟨hl,hmk⟩ th hT Mb;have qH:=ha.mono hT;have Ah:cF L C bR ({ fn:=jd,tmps:=tm,todo:= .inRangeFunc l::K,defers:=mk++df,mode:= .run,kind:=kd,roundOf:=ro }::k) ({ fn:=jd,tmps:=CY,todo:= .inRangeFunc l'::K',defers:=mk'++Ik,mode:=IT,kind:=F1,roundOf:=CZ }::k'):=
      (fl.mono hT).swap ⟨rfl,qH.tmps, .cons (.lP hl) (hk.mono hT),hmk.append qH.defers,qH.mode,ha.kind,qH.round,qH.xL⟩ rfl
     have:=xR (t:=t) (r:=r) Ah (IW (v':= .func (.yield l') #[] #[]) HP (Ah.top.eval f hf) (.func (.yield hl) rfl rfl (λi v v' q=>by simp at q) (λi v v' q=>by simp at q))) th;rcases this with ⟨g1,w1,es,e1,hb⟩ | h
     ·exact .inl ⟨g1,w1,es,e1,λq=>let ⟨h1,a2,vs,h2,h3⟩:=hb q;⟨λh=>h1 (Mb h),a2,vs,h2,h3⟩⟩
     ·exact .inr h
theorem I1(ht:t.mode= .run)(HP:fW L C){a b:Frame}{k k':List Frame}{m:Bool}(fl:cF L C β (a::k) (b::k'))(hm:a.mode= .returning)(hw:bZ β w W):
  Gr a (k++t::r) w (unwind L m a (k++t::r) none w):=by
 have ha:=fl.top;obtain ⟨fn,tm,todo,df,md,kd,ro⟩:=a;obtain ⟨jd,CY,tv,Ik,IT,F1,CZ⟩:=b;have hD:=ha.defers;have xB:=ha.fn;simp only at hD hm xB;subst xB;subst hm;obtain ⟨RU,vu⟩:IT= .returning/\ro=none:=by rcases ha.mode with h | h;(cases h.1);exact ⟨h.2.1,h.2.2⟩
 subst RU;subst vu;unfold unwind;cases hD with
 | @cons q q' ds ds' hq hd=>
  simp only;refine wy (C:=C) (F:=λx=>match x with
    | .ok calls w=> .go { frame:={ fn:=jd,tmps:=tm,todo:=todo,defers:=calls++ds,mode:= .returning,kind:=kd,roundOf:=none },callers:=k++t::r,status:= .running,dying:=none } w
    | .halt _ w=> .ended (.stuck "the deferred calls of a range-over-func loop have been taken" _) w) (oF hq) hw ?_ ?_
  ·intro q w2 _ _;exact lQ
  ·intro bR v v' w2 W2 hv th hT _;exact ql λch q=>by cases q
 | nil=>
  simp only;obtain ⟨f,e1,e2⟩:=ha.xL rfl;simp only at e1;rw [e1];simp only;refine wy (C:=C) (F:=λx=>match x with
    | .ok v w=>doReturn L m { fn:=jd,tmps:=tm,todo:=todo,defers:=[],mode:= .returning,kind:=kd,roundOf:=none } (k++t::r) none v w
    | .halt (.stuck s) w=> .ended (.stuck s _) w
    | .halt _ w=> .ended (.stuck "return: the result variables cannot be read" _) w) (uj HP f ha.tmps) hw ?_ ?_
  ·intro q w2 _ _;cases q <;> exact lQ
  ·intro bR v v' w2 W2 hv th hT _;exact Kx ht (fl.mono hT)
theorem OA(ht:t.mode= .run)(HP:fW L C)(HF:PF L C Xs){a b:Frame}{k k':List Frame}{m:Bool}(fl:cF L C β (a::k) (b::k'))(hw:bZ β w W):
  Gr a (k++t::r) w (stepG L m (gb a (k++t::r)) w):=by
 rcases fl.top.mode with ⟨m1,m2⟩ | ⟨m1,m2,_⟩
 ·unfold stepG gb;simp only [m1];exact Oz ht HP HF fl m1 hw
 ·unfold stepG gb;simp only [m1];exact I1 ht HP fl m1 hw
end
end Go.Cx
namespace Go.Cx
open Go
variable[aV][aJ][aY]
def cI:Frame:={ fn:=0,tmps:= #[],todo:=[.code (.refuse "")],defers:=[{ target:= .nil,args:= #[] }],mode:= .run,kind:= .normal }
omit [aV] [aJ] [aY] in
theorem pS(v:Value):cI.finish v=cI:=rfl
omit [aV] [aJ] [aY] in
theorem C0(L:Program)(w:World): ∃o w1,step L (lone cI [] w)= .ended o w1:=by
 exact ⟨_,w,step_lone_ended rfl⟩
omit [aV] [aJ] [aY] in
theorem OB(L:Program)(ch:List PanicEntry)(w:World): ∃o w1,step L (lone (cI.raise ch) [] w)= .ended o w1:=by
 refine ⟨.unsupported (.noEntry "machine/Return: a deferred call of a nil function value, made while the frame is unwinding") (Frame.pos L { cI.raise ch with defers:=[] }),w,step_lone_ended ?_⟩
 rfl
omit [aV] [aJ] [aY] in
theorem runN_ended{L:Program}{m:Machine}{o:Outcome}{w:World}(h:step L m= .ended o w){n:Nat}{m':Machine}(hr:runN L n m= .next m'):n=0:=by
 cases n with
 | zero=>rfl
 | succ n=>simp only [runN,h] at hr;cases hr
omit [aV] [aJ] [aY] in
theorem OC{L:Program}{fr:Frame}{cs:List Frame}{w:World}{ch:List PanicEntry}{r:Nat}{x:Array Value}{ds:List Deferred}(hm:fr.mode= .panicking ch)(hd:fr.defers={ target:= .collected r,args:=x }::ds)(hw:Dw w):
  (∃w1,step L (lone fr cs w)= .next (lone { fr with defers:=ds } cs w1)/\Dw w1)\/ ∃o w1,step L (lone fr cs w)= .ended o w1:=by
 cases ho:w.heap[r]? with
 | none=>
  refine .inr ⟨.stuck "the deferred calls of a range-over-func loop have been taken" (fr.pos L),w,step_lone_ended ?_⟩;simp only [stepG,hm,unwind,hd,Instr.takeDeferred,getObj,bind,Sem.bind,Sem.runT,ho]
  rfl
 | some o=>
  by_cases hc: ∃l,o= .deferred (some l)
  ·obtain ⟨l,rfl⟩:=hc;have:l=[]:=hw r l ho;subst this;refine .inl ⟨{ w with heap:=w.heap.setIfInBounds r (.deferred none) },step_lone_go ?_,xI hw λds q=>by cases q⟩;simp only [stepG,hm,unwind,hd,Instr.takeDeferred,getObj,setObj,bind,pure,Sem.bind,Sem.runT,ho,Obj.isChan]
   rfl
  ·refine .inr ⟨.stuck "the deferred calls of a range-over-func loop have been taken" (fr.pos L),w,step_lone_ended ?_⟩;have bH:((Instr.takeDeferred r).runT L w #[]).1= .halt (.stuck "range over a function: the deferred calls have been taken") w\/((Instr.takeDeferred r).runT L w #[]).1= .halt (.stuck "getObj: a row of cells") w:=by
    rw [Sem.runT_fst];unfold Instr.takeDeferred getObj;cases o with
    | cells c e f=>right;simp only [bind,Sem.bind,Sem.run,ho]
    | deferred l=>
     cases l with
     | none=>left;simp only [bind,Sem.bind,Sem.run,ho];rfl
     | some l=>exact absurd ⟨l,rfl⟩ hc
    | _=>left;simp only [bind,Sem.bind,Sem.run,ho];rfl
   simp only [stepG,hm,unwind,hd];rcases hR:(Instr.takeDeferred r).runT L w #[] with ⟨q,es⟩
   rw [hR] at bH;rcases bH with h | h <;> (simp only at h;subst h;rfl)
omit [aV] [aJ] [aY] in
theorem Xf{L:Program}: ∀(n:Nat) (k:List Frame) (fr:Frame) (w:World) (Vz:Frame) (cs':List Frame) (w':World) (ch:List PanicEntry),fr.mode= .panicking ch->Oy fr.defers->(∀f∈k,Oy f.defers)->Dw w->
  runN L n (lone fr (k++[cI]) w)= .next (lone Vz cs' w')-> ∃ch,Vz.mode= .panicking ch:=by
 intro n
 induction n with
 | zero=>
  intro k fr w Vz cs' w' ch hm hd hk hD h;simp only [runN] at h;have:fr=Vz:=by simp only [lone] at h;injection h with h;injection h with h1 h2 h3;simp at h2;exact h2.1
  exact this▸⟨ch,hm⟩
 | succ n ih=>
  intro k fr w Vz cs' w' ch hm hd hk hD h;cases Gs:fr.defers with
  | cons d ds=>
   obtain ⟨r,x,rfl⟩:=hd d (by rw [Gs];simp);rcases OC (cs:=k++[cI]) hm Gs hD with ⟨w1,h1,h2⟩ | ⟨o,w1,h1⟩
   ·rw [runN,h1] at h;exact ih k { fr with defers:=ds } w1 Vz cs' w' ch hm (λd Io=>hd d (by rw [Gs];simp [show d∈ds from Io])) hk h2 h
   ·have:=runN_ended h1 h;cases this
  | nil=>
   by_cases hc:fr.catches L=true
   ·have: ∃o w1,step L (lone fr (k++[cI]) w)= .ended o w1:=by
     refine ⟨_,w,step_lone_ended (o:= .unsupported (.noEntry "a panic or Goexit out of a method that fmt calls behind a cut's door") (fr.pos L)) ?_⟩;simp [stepG,hm,unwind,Gs,hc]
    obtain ⟨o,w1,h1⟩:=this;have:=runN_ended h1 h;cases this
   ·simp only [qbh] at hc;cases k with
    | nil=>
     have h1:step L (lone fr ([]++[cI]) w)= .next (lone (cI.raise ch) [] w):=by
      refine step_lone_go ?_;simp [stepG,hm,unwind,Gs,hc]
     simp only [runN,h1] at h;obtain ⟨o,w1,h2⟩:=OB L ch w;have:=runN_ended h2 h;subst this;simp only [runN] at h;have:cI.raise ch=Vz:=by simp only [lone] at h;injection h with h;injection h with h1 h2 h3;simp at h2;exact h2.1
     exact this▸⟨ch,rfl⟩
    | cons c k=>
     have h1:step L (lone fr (c::k++[cI]) w)= .next (lone (c.raise ch) (k++[cI]) w):=by
      refine step_lone_go ?_;simp [stepG,hm,unwind,Gs,hc]
     simp only [runN,h1] at h;obtain ⟨ch2,Oc⟩:=oo c ch;refine ih k (c.raise ch) w Vz cs' w' ch2 Oc ?_ (λf hf=>hk f (by simp [hf])) hD h;have:=hk c (by simp);unfold Frame.raise;split <;> exact this
end Go.Cx
namespace Go.Cx
open Go
variable[aV][aJ][aY]
def Ag(d:Nat)(τ σ:Tape):Prop:= ∀j q,j<d->τ j q=σ j q
inductive xC(L:Program)(Q:Frame->World->Prop):Frame->List Frame->World->Prop
 | done {a:Frame} {w:World}:a.mode= .returning->a.defers=[]->Q a w->xC L Q a [] w
 | step {a:Frame} {k:List Frame} {w:World}:(∀τ,Ag w.drawn τ w.tape-> ∃a1 k1 w1 es,stepG L true (gb a (k++[cI])) (TW w τ)= .go (gb a1 (k1++[cI])) w1 es/\ ∀ch,a1.mode≠ .panicking ch)->
  (∀τ a1 k1 w1 es,Ag w.drawn τ w.tape->stepG L true (gb a (k++[cI])) (TW w τ)= .go (gb a1 (k1++[cI])) w1 es->xC L Q a1 k1 w1)->xC L Q a k w
def Inv(L:Program)(a:Frame)(k:List Frame)(w:World):Prop:= ∃β b k' W,cF L L β (a::k) (b::k')/\bZ β w W/\Dw w
theorem bZ.tw{β:Bj}{w W:World}(h:bZ β w W)(τ σ:Tape):bZ β (TW w τ) (TW W σ):=⟨h.obj,h.inj,h.fn⟩
omit [aJ] in
theorem cF.xQ{L C:Program}{β:Bj}{x y:List Frame}(h:cF L C β x y): ∀f∈x,Oy f.defers:=by
 induction h with
 | one h _=>intro f hf;simp at hf;exact hf▸h.defers.xQ
 | cons h _ ih=>
  intro f hf;rcases qad.1 hf with rfl | hf
  ·exact h.defers.xQ
  ·exact ih f hf
omit [aV] [aJ] [aY] in
theorem runN_add(L:Program): ∀(n m:Nat) (x y:Machine),runN L n x= .next y->runN L (n+m) x=runN L m y:=by
 intro n
 induction n with
 | zero=>intro m x y h;simp only [runN] at h;cases h;simp
 | succ n ih=>
  intro m x y h;rw [show n+1+m=(n+m)+1 by omega];simp only [runN] at h ⊢;cases hs:step L x with
  | next z=>rw [hs] at h;exact ih m z y h
  | ended o w=>rw [hs] at h;cases h
omit [aV] [aJ] [aY] in
theorem OD{L:Program}{x y:Machine}(h:step L x= .next y):runN L 1 x= .next y:=by simp only [runN,h]
omit [aV] [aJ] [aY] in
theorem Aj{a a':Frame}{k k':List Frame}{w w':World}(h:lone a k w=lone a' k' w'):a=a'/\k=k'/\w=w':=by
 simp only [lone] at h;injection h with h1 h2 h3
 simp at h2;exact ⟨h2.1,h2.2,h1⟩
section
variable{L:Program}{Q:Frame->World->Prop}
def Good(L:Program)(Q:Frame->World->Prop)(n:Nat)(m:Machine):Prop:=
 ∃a' w' v,runN L n m= .next (lone a' [cI] w')/\a'.leaving L w' (.returned v)/\Q a' w'
omit [aV] [aJ] [aY] in
theorem C1{n:Nat}{m:Machine}(h:Good L Q n m): ∀(i:Nat) (a:Frame) (k:List Frame) (w:World),runN L (n+i) m= .next (lone a (k++[cI]) w)->(k=[]/\a.mode= .returning/\a.defers=[]/\Q a w):=by
 obtain ⟨a',w',v,h1,h2,h3⟩:=h;intro i a k w hr;rw [runN_add L n i _ _ h1] at hr;cases i with
 | zero=>
  simp only [runN] at hr;injection hr with hr
  obtain ⟨rfl,e2,rfl⟩:=Aj hr;have:k=[]:=by
   cases k with
   | nil=>rfl
   | cons c k=>simp at e2
  exact ⟨this,h2.1,h2.2.1,h3⟩
 | succ i=>
  exfalso;have hs:=step_leave_returned (c:=cI) (cs:=[]) h2;rw [pS] at hs;simp only [runN,hs] at hr;obtain ⟨o,w1,h4⟩:=C0 L w';have:=runN_ended h4 hr;subst this;simp only [runN] at hr;injection hr with hr
  obtain ⟨_,e2,_⟩:=Aj hr;simp at e2
theorem SJ(HP:fW L L)(HF:PF L L (λ_=>False))(hQ: ∀a w τ,Q a (TW w τ)->Q a w){a0:Frame}{k0:List Frame}{w0:World}(H: ∀τ,Ag w0.drawn τ w0.tape-> ∃n,Good L Q n (lone a0 (k0++[cI]) (TW w0 τ)))
  {m:Nat} {a:Frame} {k:List Frame} {w:World} (hI:Inv L a k w) (hn: ¬xC L Q a k w) (hd:w0.drawn<=w.drawn) (xJ:Ag w0.drawn w.tape w0.tape)
  (hr: ∀τ,Ag w.drawn τ w.tape->runN L m (lone a0 (k0++[cI]) (TW w0 τ))= .next (lone a (k++[cI]) (TW w τ))):
  ∃a1 k1 w1,Inv L a1 k1 w1/\ ¬xC L Q a1 k1 w1/\w.drawn<=w1.drawn/\Ag w.drawn w1.tape w.tape/\
    ∀τ,Ag w1.drawn τ w1.tape->runN L (m+1) (lone a0 (k0++[cI]) (TW w0 τ))= .next (lone a1 (k1++[cI]) (TW w1 τ)):=by
 have hx: ∃τ,Ag w.drawn τ w.tape/\ ∀a1 k1 w1 es,stepG L true (gb a (k++[cI])) (TW w τ)= .go (gb a1 (k1++[cI])) w1 es->(∀ch,a1.mode≠ .panicking ch)-> ¬xC L Q a1 k1 w1:=by
  apply qa6;intro hc;have jF: ∀τ,Ag w.drawn τ w.tape-> ∃a1 k1 w1 es,stepG L true (gb a (k++[cI])) (TW w τ)= .go (gb a1 (k1++[cI])) w1 es/\(∀ch,a1.mode≠ .panicking ch)/\xC L Q a1 k1 w1:=
    λτ nW=>qa6 λRY=>hc ⟨τ,nW,λa1 k1 w1 es h1 h2 h3=>RY ⟨a1,k1,w1,es,h1,h2,h3⟩⟩
  refine hn (.step (λτ nW=>let ⟨a1,k1,w1,es,h1,h2,_⟩:=jF τ nW;⟨a1,k1,w1,es,h1,h2⟩) λτ a1 k1 w1 es nW h=> ?_);obtain ⟨a2,k2,w2,rH,h1,h2,h3⟩:=jF τ nW;rw [h] at h1;injection h1 with h4 h5
  simp only [Goroutine.mk.injEq,List.append_cancel_right_eq] at h4;obtain ⟨rfl,rfl,_⟩:=h4;subst h5;exact h3
 obtain ⟨τ,nW,hx⟩:=hx;obtain ⟨β,b,k',W,fl,hw,hD⟩:=hI;have h0:Ag w0.drawn τ w0.tape:=λj q hj=>(nW j q (qa2 hj hd)).trans (xJ j q hj);obtain ⟨n,hg⟩:=H τ h0;have aap:=hr τ nW;have OE: ¬n<=m:=by
  intro hle;obtain ⟨e1,e2,e3,e4⟩:=C1 hg (m - n) a k (TW w τ) (by rw [show n+(m - n)=m by omega];exact aap);subst e1;exact hn (.done e2 e3 (hQ _ _ _ e4))
 obtain ⟨a',w',v,g1,g2,g3⟩:=hg;have u7:runN L (n - m) (lone a (k++[cI]) (TW w τ))= .next (lone a' [cI] w'):=by
  rw [←runN_add L m (n - m) _ _ aap,show m+(n - m)=n by omega];exact g1
 obtain ⟨p,hp⟩: ∃p,n - m=p+1:=⟨n - m - 1,by omega⟩;rw [hp] at u7;have Xg:=hw.tw τ (λj q=>τ (j - W.drawn+w.drawn) q);have Ky:gH (TW w τ) (TW W (λj q=>τ (j - W.drawn+w.drawn) q)):=λj q=>by
  show τ (W.drawn+j - W.drawn+w.drawn) q=τ (w.drawn+j) q;rw [show W.drawn+j - W.drawn+w.drawn=w.drawn+j by omega]
 rcases OA (m:=true) (t:=cI) (r:=[]) rfl HP HF fl Xg with ⟨g,w1,es,e1,Xh⟩ | ⟨o,w1,es,e1⟩
 ·by_cases hB:cR g
  · exfalso;obtain ⟨Mb,a2,vs,OF,rfl⟩:=Xh hB;have hs:step L (lone a (k++[cI]) (TW w τ))= .next (lone (a2.raise vs) (k++[cI]) w1):=step_lone_go (by rw [e1];rfl);simp only [runN,hs] at u7;obtain ⟨ch,Ej⟩:=oo a2 vs;have Gs:=fl.xQ;obtain ⟨ch2,aaq⟩:=Xf p k (a2.raise vs) w1 a' [cI] w' ch Ej (by
     unfold Frame.raise;split <;> exact OF) (λf hf=>Gs f (by simp [hf])) (Mb hD) u7
    rw [g2.1] at aaq;cases aaq
  · obtain ⟨bR,W1,wu,BW,e2,ho,yH,hT,_⟩:=tE (m':=true) (bs':=[cI]) HP HF fl (.inl (by simp)) Xg Ky e1 hB;obtain ⟨l1,l2,ld,l3⟩:=wx HP HF fl Xg e1 hB;cases ho with
    | back hv hg1 _ ahZ=>
     exfalso;rw [hg1,pS] at e1;have hs:step L (lone a (k++[cI]) (TW w τ))= .next (lone cI [] w1):=step_lone_go (by rw [e1];rfl);simp only [runN,hs] at u7;obtain ⟨o,w2,h4⟩:=C0 L w1;have:=runN_ended h4 u7;subst this;simp only [runN] at u7;injection u7 with u7
     obtain ⟨_,e5,_⟩:=Aj u7;simp at e5
    | on er=>
     cases er with
     | enter f hX _ _=>exact hX.elim
     | @on a1 b1 k1 RZ uJ=>
      have aar: ∀ch,a1.mode≠ .panicking ch:=uJ.top.calm;refine ⟨a1,k1,w1,⟨bR,b1,RZ,W1,uJ,yH,ld hD⟩,hx _ _ _ _ e1 aar,l1, ?_,λσ hσ=> ?_⟩
      ·intro j q hj;rw [l2];exact nW j q hj
      ·have uI:w.drawn<=w1.drawn:=l1;have Xi:Ag w.drawn σ w.tape:=λj q hj=>(hσ j q (qa2 hj uI)).trans (by rw [l2];exact nW j q hj);have adL: ∀j q,j<w1.drawn->σ j q=(TW w τ).tape j q:=λj q hj=>(hσ j q hj).trans (by rw [l2]);obtain ⟨rH,e3⟩:=l3 σ adL;have hs:step L (lone a (k++[cI]) (TW w σ))= .next (lone a1 (k1++[cI]) (TW w1 σ)):=step_lone_go (by
        have e4:stepG L true (gb a (k++[cI])) (TW w σ)= .go (gb a1 (k1++[cI])) (TW w1 σ) rH:=e3;rw [e4];rfl)
       rw [runN_add L m 1 _ _ (hr σ Xi)];exact OD hs
 ·exfalso;have hs:step L (lone a (k++[cI]) (TW w τ))= .ended o w1:=step_lone_ended (by rw [e1];rfl);have:=runN_ended hs u7;omega
theorem tree(HP:fW L L)(HF:PF L L (λ_=>False))(hQ: ∀a w τ,Q a (TW w τ)->Q a w){a0:Frame}{k0:List Frame}{w0:World}(hI:Inv L a0 k0 w0)(H: ∀τ,Ag w0.drawn τ w0.tape-> ∃n,Good L Q n (lone a0 (k0++[cI]) (TW w0 τ))):
  xC L Q a0 k0 w0:=by
 classical
 apply qa6;intro hn
 let S:={ s:Nat×Frame×List Frame×World // Inv L s.2.1 s.2.2.1 s.2.2.2/\ ¬xC L Q s.2.1 s.2.2.1 s.2.2.2/\w0.drawn<=s.2.2.2.drawn/\Ag w0.drawn s.2.2.2.tape w0.tape/\
  ∀τ,Ag s.2.2.2.drawn τ s.2.2.2.tape->runN L s.1 (lone a0 (k0++[cI]) (TW w0 τ))= .next (lone s.2.1 (s.2.2.1++[cI]) (TW s.2.2.2 τ)) }
 have Ak: ∀s:S, ∃s':S,s'.1.1=s.1.1+1/\s.1.2.2.2.drawn<=s'.1.2.2.2.drawn/\Ag s.1.2.2.2.drawn s'.1.2.2.2.tape s.1.2.2.2.tape:=by
  rintro ⟨⟨m,a,k,w⟩,h1,h2,h3,h4,h5⟩;obtain ⟨a1,k1,w1,g1,g2,g3,g4,g5⟩:=SJ HP HF hQ H h1 h2 h3 h4 h5;exact ⟨⟨(m+1,a1,k1,w1),g1,g2,qa8 h3 g3,λj q hj=>(g4 j q (qa2 hj h3)).trans (h4 j q hj),g5⟩,rfl,g3,g4⟩
 let s0:S:=⟨(0,a0,k0,w0),hI,hn,qa3 _,λ_ _ _=>rfl,λτ _=>rfl⟩
 let f:S->S:=λs=>(Ak s).choose
 have hf: ∀s,(f s).1.1=s.1.1+1/\s.1.2.2.2.drawn<=(f s).1.2.2.2.drawn/\Ag s.1.2.2.2.drawn (f s).1.2.2.2.tape s.1.2.2.2.tape:=λs=>(Ak s).choose_spec
 let c:Nat->S:=λn=>Nat.rec s0 (λ_ s=>f s) n
 have c0:c 0=s0:=rfl;have cs: ∀n,c (n+1)=f (c n):=λn=>rfl;have hlen: ∀n,(c n).1.1=n:=by
  intro n
  induction n with
  | zero=>rfl
  | succ n ih=>rw [cs,(hf _).1,ih]
 have VA: ∀n i,(c n).1.2.2.2.drawn<=(c (n+i)).1.2.2.2.drawn/\Ag (c n).1.2.2.2.drawn (c (n+i)).1.2.2.2.tape (c n).1.2.2.2.tape:=by
  intro n i
  induction i with
  | zero=>exact ⟨qa3 _,λ_ _ _=>rfl⟩
  | succ i ih=>
   rw [show n+(i+1)=(n+i)+1 by omega,cs];obtain ⟨_,h2,h3⟩:=hf (c (n+i));exact ⟨qa8 ih.1 h2,λj q hj=>(h3 j q (qa2 hj ih.1)).trans (ih.2 j q hj)⟩
 let τ:Tape:=λj q=>if h: ∃n,j<(c n).1.2.2.2.drawn then (c h.choose).1.2.2.2.tape j q else 0
 have nW: ∀n,Ag (c n).1.2.2.2.drawn τ (c n).1.2.2.2.tape:=by
  intro n j q hj;have h: ∃n,j<(c n).1.2.2.2.drawn:=⟨n,hj⟩;show (if h: ∃n,j<(c n).1.2.2.2.drawn then (c h.choose).1.2.2.2.tape j q else 0)=_;rw [dif_pos h];have hc:=h.choose_spec;generalize h.choose=p at hc;rcases Nat.le_total p n with hle | hle
  ·have:=(VA p (n - p)).2 j q hc;rw [show p+(n - p)=n by omega] at this;exact this.symm
  ·have:=(VA n (p - n)).2 j q hj;rw [show n+(p - n)=p by omega] at this;exact this
 obtain ⟨n,hg⟩:=H τ (by
  have:=nW 0;intro j q hj;exact this j q hj)
 obtain ⟨h1,h2,h3,h4,h5⟩:=(c n).2;have hr:=h5 τ (nW n);rw [hlen n] at hr;obtain ⟨e1,e2,e3,e4⟩:=C1 hg 0 _ _ _ hr;refine h2 ?_;rw [e1];exact .done e2 e3 (hQ _ _ _ e4)
end
end Go.Cx
namespace Go.Cx
open Go
variable[aV][aJ][aY]
def keep:Frame:={ fn:=0,tmps:= #[.nilFunc],todo:=[.inRegion #[⟨some 0, .alloc 0,0,"", #[],none⟩] [0]],defers:=[],mode:= .run,kind:= .normal }
omit [aV] [aJ] [aY] in
theorem OG{v u:Value}(h:keep.finish v=keep.finish u):v=u:=by
 simp only [keep,Frame.finish,Frame.mk.injEq] at h;simpa using h.2.1
def xS(d:Nat)(σ:Tape)(D:Nat)(τ:Tape):Tape:=λj q=>if j<d then σ j q else τ (j - d+D) q
omit [aV] [aJ] [aY] in
theorem SK(d:Nat)(σ:Tape)(D:Nat)(τ:Tape):Ag d (xS d σ D τ) σ:=λj q hj=>by unfold xS;rw [if_pos hj]
omit [aV] [aJ] [aY] in
theorem C2(w W:World):gH (TW w (xS w.drawn w.tape W.drawn W.tape)) W:=λj q=>by
 show W.tape (W.drawn+j) q=xS w.drawn w.tape W.drawn W.tape (w.drawn+j) q;unfold xS;rw [if_neg (by omega),show w.drawn+j - w.drawn+W.drawn=W.drawn+j by omega]
inductive Path(L:Program)(a0:Frame)(k0:List Frame)(w0:World):Frame->List Frame->World->Prop
 | nil:Path L a0 k0 w0 a0 k0 w0
 | snoc {a:Frame} {k:List Frame} {w:World} {τ:Tape} {a1:Frame} {k1:List Frame} {w1:World} {es:Array Event}:Path L a0 k0 w0 a k w->Ag w.drawn τ w.tape->stepG L true (gb a (k++[cI])) (TW w τ)= .go (gb a1 (k1++[cI])) w1 es->
  (∀ch,a1.mode≠ .panicking ch)->Path L a0 k0 w0 a1 k1 w1
structure Ends(L:Program)(a:Frame)(w:World)(v:Value):Prop where
 mode:a.mode= .returning
 defers:a.defers=[]
 kind:a.kind= .normal
 res: ∃fn,L.funcs[a.fn]? =some fn/\ ∃τ,(results fn a.tmps).run L (TW w τ)= .ok v (TW w τ)
omit [aV] [aJ] [aY] in
theorem Ends.of{L:Program}{a:Frame}{w:World}{v:Value}(h:a.leaving L w (.returned v)):Ends L a w v:=⟨h.1,h.2.1,h.2.2.1,let ⟨fn,h1,h2⟩:=h.2.2.2;⟨fn,h1,w.tape,h2⟩⟩
omit [aV] [aJ] [aY] in
theorem Ends.tw{L:Program}{a:Frame}{w:World}{v:Value}{τ:Tape}(h:Ends L a (TW w τ) v):Ends L a w v:=⟨h.1,h.2,h.3,let ⟨fn,h1,σ,h2⟩:=h.4;⟨fn,h1,σ,h2⟩⟩
section
variable{L C:Program}{Xs:FuncId->Prop}{β:Bj}{bs':List Frame}{w W:World}{Q:Frame->World->Prop}
inductive OH(L C:Program)(Xs:FuncId->Prop)(Q:Frame->World->Prop)(bs':List Frame)(β:Bj)(a1:Frame)(k1:List Frame)(w1:World)(wu:Goroutine):Prop
 | on {b1:Frame} {RZ:List Frame}:cF L C β (a1::k1) (b1::RZ)->wu=gb b1 (RZ++bs')->OH L C Xs Q bs' β a1 k1 w1 wu
 | enter (f:FuncId) {x x':Array Value} {RZ:List Frame}:Xs f->aG β x x'->cF L C β k1 RZ->a1=Frame.enter L f x .normal->wu=gb (Frame.enter C f x' .normal) (RZ++bs')->OH L C Xs Q bs' β a1 k1 w1 wu
theorem Gt(HP:fW L C)(HF:PF L C Xs){a b:Frame}{k k':List Frame}{m:Bool}(fl:cF L C β (a::k) (b::k'))(hw:bZ β w W)
  (h1: ∀τ,Ag w.drawn τ w.tape-> ∃a1 k1 w1 es,stepG L true (gb a (k++[cI])) (TW w τ)= .go (gb a1 (k1++[cI])) w1 es/\ ∀ch,a1.mode≠ .panicking ch)
  (h2: ∀τ a1 k1 w1 es,Ag w.drawn τ w.tape->stepG L true (gb a (k++[cI])) (TW w τ)= .go (gb a1 (k1++[cI])) w1 es->xC L Q a1 k1 w1)
  {a0:Frame} {k0:List Frame} {w0:World} (hp:Path L a0 k0 w0 a k w):
  ∃bR a1 k1 w1 W1 wu es τ,stepG C m (gb b (k'++bs')) W= .go wu W1 es/\OH L C Xs Q bs' bR a1 k1 w1 wu/\bZ bR w1 W1/\xC L Q a1 k1 w1/\Path L a0 k0 w0 a1 k1 w1/\
    lM β bR (TW w τ) w1 W W1/\(∀e∈es,sT bR w1 e)/\Ag w.drawn τ w.tape/\(∃te,stepG L true (gb a (k++[cI])) (TW w τ)= .go (gb a1 (k1++[cI])) w1 te)/\(Dw w->Dw w1):=by
 have xJ:=SK w.drawn w.tape W.drawn W.tape;obtain ⟨a1,k1,w1,es,e1,hc⟩:=h1 _ xJ;have adM:=h2 _ _ _ _ _ xJ e1;have hB: ¬cR (gb a1 (k1++[cI])):=λ⟨ch,q⟩=>hc ch q;have NC:bs'≠[]\/k≠[]\/a.mode= .run\/a.defers≠[]:=by
  apply qa6;intro hn;simp only [not_or,Decidable.not_not] at hn;obtain ⟨-, rfl,hm,hd⟩:=hn;have qH:=fl.top;have Oc:a.mode= .returning:=by rcases qH.mode with ⟨h,_⟩ | ⟨h,_⟩;exact absurd h hm;exact h
  have hk:=qH.kind.1;obtain ⟨fn,tm,todo,df,md,kd,ro⟩:=a;simp only at Oc hd hk;subst Oc;subst hd;subst hk;have vu:ro=none:=by
    cases fl with
    | one _ h=>exact h
    | cons _ h=>cases h
  obtain ⟨f,q1,q2⟩:=qH.xL vu;simp only at q1;simp only [stepG,unwind,q1,qb8] at e1;obtain ⟨rH,e1⟩:=tx e1;split at e1
  · simp only [doReturn,pS] at e1;injection e1 with e1
    simp only [Goroutine.mk.injEq] at e1;have:=e1.2.1;simp at this
  · cases e1
  · cases e1
 obtain ⟨bR,W1,wu,BW,e2,ho,yH,hT,sF⟩:=tE (m':=m) (t:=cI) (r:=[]) (bs':=bs') HP HF fl NC (hw.tw _ W.tape) (C2 w W) e1 hB;have aas:=hp.snoc xJ e1 hc;refine ⟨bR,a1,k1,w1,W1,wu,BW,_,e2, ?_,yH,adM,aas,hT,sF,xJ,⟨es,e1⟩,(wx HP HF fl (hw.tw _ W.tape) e1 hB).2.2.1⟩;cases ho with
 | back hv hg _ Ip=>
  exfalso;simp only [pS,Goroutine.mk.injEq] at hg;have:=hg.2.1;simp at this
 | on er=>
  generalize C3:gb a1 (k1++[cI])=gg at er;cases er with
  | on uJ=>
    simp only [Goroutine.mk.injEq,List.append_cancel_right_eq] at C3;obtain ⟨rfl,rfl,_⟩:=C3;exact .on uJ rfl
  | enter f hX hx hk=>
    simp only [Goroutine.mk.injEq,List.append_cancel_right_eq] at C3;obtain ⟨rfl,rfl,_⟩:=C3;exact .enter f hX hx hk rfl rfl
theorem Gu(HP:fW L C)(HF:PF L C Xs){a b:Frame}{k':List Frame}{m:Bool}{t':Frame}{r':List Frame}(fl:cF L C β [a] (b::k'))(hw:bZ β w W){v:Value}(hl:Ends L a w v):
  k'=[]/\ ∃bR v' W1 es τ,stepG C m (gb b (k'++t'::r')) W= .go (gb (t'.finish v') r') W1 es/\ay bR v v'/\bZ bR w W1/\lM β bR (TW w τ) (TW w τ) W W1/\ ∀e∈es,sT bR (TW w τ) e:=by
 have hk:k'=[]:=by
  cases fl with
  | one _ _=>rfl
  | cons _ h=>cases h
 subst hk;refine ⟨rfl, ?_⟩;obtain ⟨m1,m2,m3,fn,m4,τ0,m5⟩:=hl;have e1: ∃es,stepG L true (gb a ([]++keep::[])) (TW w (xS w.drawn w.tape W.drawn W.tape))= .go (gb (keep.finish v) []) (TW w (xS w.drawn w.tape W.drawn W.tape)) es:=by
  have bS:(results fn a.tmps).run L (TW w (xS w.drawn w.tape W.drawn W.tape))= .ok v (TW w (xS w.drawn w.tape W.drawn W.tape)):=
   ((uj HP fn fl.top.tmps).tape (hw.tw τ0 W.tape) m5).2.2.2.2 _ (λj q h1 h2=>absurd h2 (qcg.2 h1))
  have hR:(results fn a.tmps).runT L (TW w (xS w.drawn w.tape W.drawn W.tape)) #[]=(.ok v (TW w (xS w.drawn w.tape W.drawn W.tape)),((results fn a.tmps).runT L (TW w (xS w.drawn w.tape W.drawn W.tape)) #[]).2):=by
   rw [←bS, ←Sem.runT_fst]
  refine ⟨seen L a.fn ((results fn a.tmps).runT L (TW w (xS w.drawn w.tape W.drawn W.tape)) #[]).2++ #[], ?_⟩;simp only [stepG,m1,unwind,m2,m4];rw [hR];simp only [doReturn,m3,GStep.after,qb8]
 obtain ⟨es,e1⟩:=e1;have hB: ¬cR (gb (keep.finish v) []):=λ⟨ch,q⟩=>by cases q
 obtain ⟨bR,W1,wu,BW,e2,ho,yH,hT,sF⟩:=tE (m':=m) (t:=keep) (r:=[]) (bs':=t'::r') HP HF fl (.inl (by simp)) (hw.tw _ W.tape) (C2 w W) e1 hB;cases ho with
 | @back u u' t2 r2 hv hg hb Ip=>
  injection hb with gy hb2
  subst gy;subst hb2;simp only [Goroutine.mk.injEq] at hg;have:=OG hg.1;subst this;subst Ip;exact ⟨bR,u',W1,BW,_,e2,hv,⟨yH.obj,yH.inj,yH.fn⟩,hT,sF⟩
 | on er=>
  exfalso;generalize C3:gb (keep.finish v) []=gg at er;cases er with
  | on uJ=>simp only [Goroutine.mk.injEq] at C3;have:=C3.2.1;simp at this
  | enter f hX hx hk=>simp only [Goroutine.mk.injEq] at C3;have:=C3.2.1;simp at this
end
end Go.Cx
namespace Go.Cx
open Go
variable[aV][aJ][aY]
section
variable{L:Program}
def Left(L:Program)(R:Value->World->Prop)(a:Frame)(w:World):Prop:= ∃v,Ends L a w v/\R v w
end
end Go.Cx
namespace Go.Cx
open Go
def xU:Nat->Value->Bool
 | _, .bool _ | _, .int _ _ | _, .string _ | _, .pointer none | _, .slice none _ _ | _, .nilFunc | _, .nilIface=>true
 | n+1, .agg x | n+1, .tuple x=>x.toList.all (xU n)
 | _,_=>false
theorem C4: ∀(n:Nat) (v:Value),xU n v=true->Plain v:=by
 have key: ∀(n:Nat),(∀v,xU n v=true->Plain v)-> ∀(x:Array Value),x.toList.all (xU n)=true-> ∀(i:Nat) (v:Value),x[i]? =some v->Plain v:=by
  intro n ih x h i v hv;exact ih v (qa9.1 h v (by simpa using qb3 hv))
 intro n
 induction n with
 | zero=>
  intro v h;cases v with
  | bool b=>exact .bool b
  | int k n=>exact .int k n
  | string s=>exact .string s
  | nilFunc=>exact .oC
  | nilIface=>exact .gZ
  | pointer a=>cases a with
   | none=>exact .nQ
   | some a=>cases h
  | slice a l c=>cases a with
   | none=>exact .jB l c
   | some a=>cases h
  | _=>cases h
 | succ n ih=>
  intro v h;cases v with
  | bool b=>exact .bool b
  | int k n=>exact .int k n
  | string s=>exact .string s
  | nilFunc=>exact .oC
  | nilIface=>exact .gZ
  | pointer a=>cases a with
   | none=>exact .nQ
   | some a=>cases h
  | slice a l c=>cases a with
   | none=>exact .jB l c
   | some a=>cases h
  | agg x=>exact .agg (key n ih x h)
  | tuple x=>exact .tuple (key n ih x h)
  | _=>cases h
@[reducible] def gh(ok sQ:FuncId->Bool):aV:=⟨λf=>ok f=true,λf=>sQ f=true⟩
section
variable(ok sQ:FuncId->Bool)
def wz:Operand->Bool
 | .tmp _=>true
 | .const v=>xU 8 v
 | .global _=>false
 | .func f=>ok f
theorem Am{x:Operand}(h:wz ok x=true): @kM (gh ok sQ) x:=by
 cases x with
 | tmp t=>trivial
 | const v=>exact C4 8 v h
 | global g=>cases h
 | func f=>exact h
def eqB(L:Program):Nat->TypeId->Bool
 | 0,_=>false
 | n+1,t=>match L.underlying t with
  | some .bool | some (.int _) | some .string | some (.slice _)=>true
  | some (.struct fs)=> !L.stoodInHeld t&&fs.toList.all λf=>eqB L n f.type
  | _=>false
theorem Xj{L:Program}: ∀(n:Nat) (t:TypeId),eqB L n t=true->LV L t:=by
 intro n
 induction n with
 | zero=>intro t h;cases h
 | succ n ih=>
  intro t h;unfold eqB at h;split at h
  ·rename_i e;exact .bool e
  ·rename_i e;exact .int e
  ·rename_i e;exact .string e
  ·rename_i e;exact .slice e
  ·rename_i fs e;simp only [qa4,qbc,qa9] at h;exact .struct e h.1 λf hf=>ih _ (h.2 f (by simpa using hf))
  ·cases h
def SL(L:Program)(t:TypeId):Bool:=match L.underlying t with | some (.int _)=>true | _=>false
theorem Kz{L:Program}{t:TypeId}(h:SL L t=true): ∃k,L.underlying t=some (.int k):=by
 unfold SL at h;split at h
 ·rename_i k e;exact ⟨k,e⟩
 ·cases h
def OI(L:Program)(s:TypeId)(i:Nat):Bool:=match L.underlying s with
 | some (.struct fs)=>match fs[i]? with
  | some f=>match L.info? f.type with
   | some inf=>inf.size != 0
   | none=>true
  | none=>true
 | _=>true
def zB(L:Program)(t:TypeId):Bool:=match L.info? t with | some i=>(match i.zero with | some v=>xU 8 v | none=>true) | none=>true
theorem KA{L:Program}{t:TypeId}(h:zB L t=true):RR L t:=by
 intro i v e1 e2;unfold zB at h;rw [e1] at h;simp only [e2] at h;exact C4 8 v h
def zsB(L:Program)(t:TypeId):Bool:=match L.underlying t with | some (.slice e)=>zB L e | _=>true
theorem I2{L:Program}{t:TypeId}(h:zsB L t=true):LJ L t:=by
 intro e h1;unfold zsB at h;rw [h1] at h;exact KA h
def arB(L:Program)(t:TypeId):Bool:=match L.underlying t with | some (.array n _)=>n != 0 | _=>true
theorem Xk{L:Program}{t:TypeId}(h:arB L t=true): ∀n e,L.underlying t=some (.array n e)->n≠0:=λn e q=>by
 unfold arB at h;rw [q] at h;simpa using h
def KB:Callee->Bool
 | .value f=>wz ok f
 | .invoke r _=>wz ok r
 | .builtin b=>okB b
def Gv(L C:Program):Op->Bool
 | .move x | .assign x | .box _ x | .load _ x | .nilCheck x | .unOp _ _ x | .makeInterface _ x | .extract x _ | .panic x=>wz ok x
 | .typeAssert x _ t _=>wz ok x&&zB L t
 | .sliceToArrayPointer t x=>wz ok x&&arB L t
 | .pick c a b=>wz ok c&&wz ok a&&wz ok b
 | .alloc t=>zB L t
 | .build t ps=>(ps.toList.all λp=>wz ok p.2)&&zB L t
 | .buildSlice t _ ps=>(ps.toList.all λp=>wz ok p.2)&&zsB L t
 | .makeSlice t a x=>wz ok a&&wz ok x&&zsB L t
 | .store _ a x | .indexAddr _ a x | .index _ a x=>wz ok a&&wz ok x
 | .binOp op t x y _=>wz ok x&&wz ok y&&(!(op matches .eql | .neq) || (eqB L 8 t&& !L.eqGuardType L.depth t&& !C.eqGuardType C.depth t))
 | .convert s d x=>wz ok x&&SL L s&&SL L d
 | .makeFunc (.func f) xs ys=>xs.toList.all (wz ok)&&ys.toList.all (wz ok)&&ok f
 | .slice _ x l h m=>wz ok x&&l.all (wz ok)&&h.all (wz ok)&&m.all (wz ok)
 | .fieldAddr s x i=>wz ok x&&OI L s i
 | .call c=>KB ok c.callee&&c.args.toList.all (wz ok)&&c.argTypes.toList.all (zsB L)
 | _=>false
theorem mQ{α:Type}{p:α->Bool}{x:Array α}(h:x.toList.all p=true): ∀y∈x,p y=true:=λy hy=>qa9.1 h y (by simpa using hy)
theorem Ek{α:Type}{p:α->Bool}{x:Option α}(h:x.all p=true): ∀y∈x,p y=true:=λy hy=>by cases hy;exact h
theorem I3{c:Callee}(h:KB ok c=true): @Ad (gh ok sQ) c:=by
 cases c with
 | value f=>exact Am ok sQ h
 | invoke r n=>exact Am ok sQ h
 | builtin b=>exact h
theorem Xl{L C:Program}{o:Op}(h:Gv ok L C o=true): @IM (gh ok sQ) L C o:=by
 have od:=fun {x:Operand} (h:wz ok x=true)=>Am ok sQ h;cases o with
 | move x=>exact od h
 | assign x=>exact od h
 | box t x=>exact od h
 | load t x=>exact od h
 | nilCheck x=>exact od h
 | unOp a t x=>exact od h
 | sliceToArrayPointer t x=>simp only [Gv,qa4] at h;exact ⟨od h.1,Xk h.2⟩
 | makeInterface t x=>exact od h
 | extract x i=>exact od h
 | typeAssert x a b c=>simp only [Gv,qa4] at h;exact ⟨od h.1,KA h.2⟩
 | panic x=>exact od h
 | pick c a b=>simp only [Gv,qa4] at h;exact ⟨od h.1.1,od h.1.2,od h.2⟩
 | alloc t=>exact KA h
 | build t ps=>simp only [Gv,qa4] at h;exact ⟨λp hp=>od (mQ h.1 p hp),KA h.2⟩
 | buildSlice t n ps=>simp only [Gv,qa4] at h;exact ⟨λp hp=>od (mQ h.1 p hp),I2 h.2⟩
 | store t a x=>simp only [Gv,qa4] at h;exact ⟨od h.1,od h.2⟩
 | makeSlice t a x=>simp only [Gv,qa4] at h;exact ⟨od h.1.1,od h.1.2,I2 h.2⟩
 | indexAddr t a x=>simp only [Gv,qa4] at h;exact ⟨od h.1,od h.2⟩
 | index t a x=>simp only [Gv,qa4] at h;exact ⟨od h.1,od h.2⟩
 | binOp op t x y u=>
  simp only [Gv,qa4] at h;refine ⟨od h.1.1,od h.1.2,λcG=> ?_⟩;have h2:=h.2;rcases cG with rfl | rfl <;>
   (simp only [qai,Bool.false_or,qa4,qbc] at h2;exact ⟨Xj 8 t h2.1.1,h2.1.2,h2.2⟩)
 | convert s d x=>simp only [Gv,qa4] at h;exact ⟨od h.1.1,Kz h.1.2,Kz h.2⟩
 | makeFunc f xs ys=>
  cases f with
  | func f=>simp only [Gv,qa4] at h;exact ⟨λx hx=>od (mQ h.1.1 x hx),λx hx=>od (mQ h.1.2 x hx),h.2⟩
  | _=>cases h
 | slice t x l hh m=>simp only [Gv,qa4] at h;exact ⟨od h.1.1.1,λy hy=>od (Ek h.1.1.2 y hy),λy hy=>od (Ek h.1.2 y hy),λy hy=>od (Ek h.2 y hy)⟩
 | fieldAddr s x i=>
  simp only [Gv,qa4] at h;refine ⟨od h.1,λfs f inf e1 e2 e3=> ?_⟩;have h2:=h.2;unfold OI at h2;rw [e1] at h2;simp only [e2,e3] at h2;simpa using h2
 | call c=>simp only [Gv,qa4] at h;exact ⟨I3 ok sQ h.1.1,λx hx=>od (mQ h.1.2 x hx),λt ht=>I2 (mQ h.2 t ht)⟩
 | _=>cases h
def qI(L C:Program):Code->Bool
 | .skip | .exit _ | .label _ | .ret=>true
 | .region _ os _=>os.toList.all λo=>Gv ok L C o.op
 | .seq a b=>qI L C a&&qI L C b
 | .cond c a b=>wz ok c&&qI L C a&&qI L C b
 | .block _ a | .loop a=>qI L C a
 | .rangeFunc f _ a b=>wz ok f&&qI L C a&&qI L C b
 | _=>false
theorem An{L C:Program}: ∀(c:Code),qI ok L C c=true-> @cB (gh ok sQ) L C c:=by
 intro c
 induction c with
 | skip=>intro _;exact @cB.skip (gh ok sQ) L C
 | exit id=>intro _;exact @cB.exit (gh ok sQ) L C id
 | label l=>intro _;exact @cB.label (gh ok sQ) L C l
 | ret=>intro _;exact @cB.ret (gh ok sQ) L C
 | region id os dr=>intro h;exact @cB.region (gh ok sQ) L C id os dr λo ho=>Xl ok sQ (mQ h o ho)
 | seq a b ia ib=>intro h;simp only [qI,qa4] at h;exact @cB.seq (gh ok sQ) L C a b (ia h.1) (ib h.2)
 | cond c a b ia ib=>intro h;simp only [qI,qa4] at h;exact @cB.cond (gh ok sQ) L C c a b (Am ok sQ h.1.1) (ia h.1.2) (ib h.2)
 | block id a ia=>intro h;exact @cB.block (gh ok sQ) L C id a (ia h)
 | loop a ia=>intro h;exact @cB.loop (gh ok sQ) L C a (ia h)
 | rangeFunc f ps a b ia ib=>intro h;simp only [qI,qa4] at h;exact @cB.rangeFunc (gh ok sQ) L C f ps a b (Am ok sQ h.1.1) (ia h.1.2) (ib h.2)
 | _=>intro h;cases h
end
end Go.Cx
namespace Go.Cx
open Go
theorem El{info:TypeId->Option TypeInfo}{d:TypeDesc}{i:TypeInfo}(h:Made.reckon info d=some i):i.methods= #[]/\ ∀s n,i.desc≠ .named s n:=by
 have er: ∀fs,Made.reckonStruct info fs=some i->i.methods= #[]/\ ∀s n,i.desc≠ .named s n:=by
  intro fs h;unfold Made.reckonStruct at h;simp only [bind,qaj] at h;obtain ⟨r,_,h⟩:=h;split at h
  all_goals (simp only [pure,qac] at h;subst h;exact ⟨rfl,λs n q=>by cases q⟩)
 unfold Made.reckon at h;cases d with
 | struct fs=>exact er fs h
 | pointer e=>
  simp only [bind,qaj] at h;obtain ⟨j,_,h⟩:=h;split at h
  ·cases h
  ·split at h
   ·cases h
   ·simp only [qaj,pure,qac] at h;obtain ⟨_,_,h⟩:=h;subst h;exact ⟨rfl,λs n q=>by cases q⟩
  ·simp only [qaj,pure,qac] at h;obtain ⟨_,_,h⟩:=h;subst h;exact ⟨rfl,λs n q=>by cases q⟩
 | slice e=>
  simp only [bind,qaj,pure,qac] at h;obtain ⟨_,_,_,_,h⟩:=h;subst h;exact ⟨rfl,λs n q=>by cases q⟩
 | map k e=>
  simp only [bind,qaj,pure,qac] at h;obtain ⟨_,_,_,_,_,_,_,_,h⟩:=h;subst h;exact ⟨rfl,λs n q=>by cases q⟩
 | chan dir e=>
  simp only [bind,qaj,pure,qac] at h;obtain ⟨_,_,_,_,h⟩:=h;subst h;exact ⟨rfl,λs n q=>by cases q⟩
 | func ps rs v=>
  simp only [bind,qaj,pure,qac] at h;obtain ⟨_,_,h⟩:=h;subst h;exact ⟨rfl,λs n q=>by cases q⟩
 | array n e=>
  simp only [bind,qaj,pure,qac] at h;obtain ⟨_,_,_,_,h⟩:=h;subst h;exact ⟨rfl,λs n q=>by cases q⟩
 | _=>cases h
theorem Em{T:Tables}{n:Nat}{t:TypeId}{i:TypeInfo}(ht: ¬t<T.types.size)(h:Made.infoAt T n t=some i):i.methods= #[]/\ ∀s n,i.desc≠ .named s n:=by
 cases n with
 | zero=>cases h
 | succ n=>
  unfold Made.infoAt at h;rw [if_neg ht] at h;simp only [qaj] at h;obtain ⟨d,_,h⟩:=h;exact El h
theorem Gw{T:Tables}{R:TypeInfo->Prop}(hm: ∀i,i.methods= #[]->(∀s n,i.desc≠ .named s n)->R i)(hT: ∀i∈T.types,R i){t:TypeId}{i:TypeInfo}(h:T.info? t=some i):R i:=by
 unfold Tables.info? at h;split at h
 ·exact hT i (qb3 h)
 ·rename_i ht;obtain ⟨h1,h2⟩:=Em ht h;exact hm i h1 h2
end Go.Cx
namespace Go.Cx
open Go
def blank:Func:={ name:= "",origin:= "",params:= #[],resultTypes:= #[],nfree:=0,ntmps:=0,results:= #[],body:=none,norace:=false,tmpNames:= #[] }
section
variable{p q:Program}(hT:p.toTables=q.toTables)
include hT
theorem pT(t:TypeId):p.info? t=q.info? t:=by rw [hT]
theorem Ao(t:TypeId):p.underlying t=q.underlying t:=by unfold Program.underlying;simp only [pT hT]
theorem tF(t:TypeId):p.cellsOf t=q.cellsOf t:=by unfold Program.cellsOf;rw [pT hT]
theorem wA(t:TypeId):p.bytesOf t=q.bytesOf t:=by unfold Program.bytesOf;rw [pT hT]
theorem wB:p.depth=q.depth:=by unfold Program.depth;rw [hT]
theorem C5: ∀(d:Nat) (t:TypeId) (o:Nat),byteOfCell p d t o=byteOfCell q d t o:=by
 intro d
 induction d with
 | zero=>intro t o;rfl
 | succ d ih=>intro t o;unfold byteOfCell;simp only [Ao hT,tF hT,wA hT,ih]
theorem Mc: ∀(d:Nat) (t:TypeId) (o:Nat),cellOfByte p d t o=cellOfByte q d t o:=by
 intro d
 induction d with
 | zero=>intro t o;rfl
 | succ d ih=>intro t o;unfold cellOfByte;simp only [Ao hT,tF hT,wA hT,ih]
theorem Xm(d:Nat)(e:TypeId)(n o:Nat)(k:Int):cellAtBytes p d e n o k=cellAtBytes q d e n o k:=by
 unfold cellAtBytes;simp only [tF hT,wA hT,C5 hT,Mc hT]
theorem OJ: ∀(d:Nat) (a b:TypeId),p.alikeButTags d a b=q.alikeButTags d a b:=by
 intro d
 induction d with
 | zero=>intro a b;rfl
 | succ d ih=>intro a b;unfold Program.alikeButTags;simp only [pT hT,ih]
theorem SM(t:TypeId):p.stoodInHeld t=q.stoodInHeld t:=by
 unfold Program.stoodInHeld Program.stoodInAs Program.underlyingId;simp only [Ao hT,pT hT,OJ hT,wB hT];rw [hT]
end
variable[aJ][aY]
section
variable{L C:Program}(ok sQ:FuncId->Bool)
def ZX(i:TypeInfo):Bool:=(match i.desc with | .named s _=>s != "sync.copyChecker" | _=>true)&&i.methods.toList.all λm=>m.path.toList.isEmpty&&match m.func with | some (f,_)=>ok f | none=>true
omit [aJ] [aY] in
theorem OK{i:TypeInfo}(h:ZX ok i=true):(∀n,i.desc≠ .named "sync.copyChecker" n)/\ ∀m∈i.methods,m.path.toList=[]/\ ∀f b,m.func=some (f,b)->ok f=true:=by
 simp only [ZX,qa4] at h;refine ⟨λn q=> ?_,λm hm=> ?_⟩
 ·have h1:=h.1;rw [q] at h1;simp at h1
 ·have h2:=mQ h.2 m hm;simp only [qa4,List.isEmpty_iff] at h2;refine ⟨h2.1,λf b q=> ?_⟩;have h3:=h2.2;rw [q] at h3;exact h3
omit [aJ] [aY] in
theorem I4 [aV]{f:FuncId}(hf:L.funcs[f]? =some blank)(h1:(Extern.findNext blank).isNone=true)(h2:(Extern.find blank).isNone=true)(args:Array Value):aQ L (callFunc f args):=by
 unfold callFunc;refine aQ.prog ?_;rw [hf];have e1:Extern.findNext blank=none:=by simpa using h1
 have e2:Extern.find blank=none:=by simpa using h2
 have e3:(blank.name== "runtime.NumGoroutine")=false:=rfl;have e4:blank.body.isNone=true:=rfl;simp only [e1,e2,e3,e4,if_true,qa7,if_false];refine aQ.bind λ_=> ?_;rw [if_neg (by decide)];exact aQ.halt
omit [aJ] [aY] in
theorem KC(hT:L.toTables=C.toTables)(hg:C.globals.size=0)(ZY:C.types.toList.all (ZX ok)=true)
  (hf: ∀(f:FuncId) (fn:Func),L.funcs[f]? =some fn->fn.body.isNone=false->sQ f=true/\(fn.name== "runtime.NumGoroutine")=false/\ ∃jd:Func,C.funcs[f]? =some jd/\jd.body.isNone=false/\(jd.name== "runtime.NumGoroutine")=false)
  (hb: ∀(f:FuncId) (fn:Func),L.funcs[f]? =some fn->fn.body.isNone=true->fn=blank) (h1:(Extern.findNext blank).isNone=true) (h2:(Extern.find blank).isNone=true): @fW (gh ok sQ) L C:=
 letI:=gh ok sQ
 {info:=λt=>(pT hT t).symm
  und:=λt=>(Ao hT t).symm
  NB:=by rw [hT]
  fns:=hf
  gl:=by rw [hT];exact hg
  sih:=λt=>(SM hT t).symm
  cc:=λt i n h=>by
   have h:C.info? t=some i:=(pT hT t).symm.trans h;exact Gw (R:=λi=> ∀n,i.desc≠ .named "sync.copyChecker" n) (λi _ h n=>h _ n) (λi hi=>(OK ok (mQ ZY i hi)).1) h n
  cab:=λe n o k=>by rw [Xm hT,wB hT,tF hT]
  bof:=λe off=>⟨(tF hT e).symm,by rw [C5 hT,wB hT],(wA hT e).symm⟩
  mp:=λt i m h hm=>by
   have h:C.info? t=some i:=(pT hT t).symm.trans h;exact Gw (R:=λi=> ∀m∈i.methods,m.path.toList=[]/\ ∀f b,m.func=some (f,b)->ok f=true) (λi h _ m hm=>by rw [h] at hm;simp at hm) (λi hi=>(OK ok (mQ ZY i hi)).2) h m hm
  nob:=λf fn h hn args=>by
   have:=hb f fn h hn;subst this;exact I4 h h1 h2 args }
end
end Go.Cx
namespace Go.Cx
open Go
def Pt(C:Program)(X:FuncId)(fX:Func)(keep:FuncId->Bool):Program:={ C with funcs:=C.funcs.mapIdx λi fn=>if i=X then fX else if keep i then fn else blank }
theorem tG(C:Program)(X:FuncId)(fX:Func)(keep:FuncId->Bool)(f:FuncId):(Pt C X fX keep).funcs[f]? =(C.funcs[f]?).map λfn=>if f=X then fX else if keep f then fn else blank:=by
 show (C.funcs.mapIdx _)[f]? =_;rw [Array.getElem?_mapIdx]
def kO(ok:FuncId->Bool)(L C:Program)(fn:Func):Bool:=fn.name != "runtime.NumGoroutine"&&match fn.body with | some c=>qI ok L C c | none=>false
theorem jG{ok:FuncId->Bool}{L C:Program}{fn:Func}(h:kO ok L C fn=true):(fn.name== "runtime.NumGoroutine")=false/\ ∃c,fn.body=some c/\qI ok L C c=true:=by
 simp only [kO,qa4,bne_iff_ne] at h;refine ⟨by simpa using h.1, ?_⟩;have h2:=h.2;split at h2
 ·rename_i c e;exact ⟨c,e,h2⟩
 ·cases h2
@[reducible] def vw(ok sQ:FuncId->Bool)(L C:Program):aJ:=⟨λc=> @cB (gh ok sQ) L C c⟩
section
variable[aY]{C:Program}{X:FuncId}{fX gX:Func}{keep ok:FuncId->Bool}
def nt(X:FuncId)(keep:FuncId->Bool)(n:Nat)(f:FuncId):Bool:=(f==X || keep f)&&decide (f<n)
omit [aY] in
theorem qJ{D:Program}(hk:(List.range C.funcs.size).all (λf=> !(keep f) || f==X || match C.funcs[f]? with | some fn=>kO ok (Pt C X fX keep) D fn | none=>true)=true){f:FuncId}{fn:Func}(hf:C.funcs[f]? =some fn)(xM:keep f=true)(hX:f≠X):kO ok (Pt C X fX keep) D fn=true:=by
 have bs:=(qa1.1 hf).1;have:=qa9.1 hk f (by simpa using bs);rw [hf,xM] at this;simpa [hX] using this
omit [aY] in
theorem Xn(hg:C.globals.size=0)(ZY:C.types.toList.all (ZX ok)=true)(h1:(Extern.findNext blank).isNone=true)(h2:(Extern.find blank).isNone=true)
  (hX:kO ok (Pt C X fX keep) (Pt C X fX keep) fX=true) (hgX:C.funcs[X]? =some gX) (hgb:gX.body.isNone=false/\(gX.name== "runtime.NumGoroutine")=false)
  (hk:(List.range C.funcs.size).all (λf=> !(keep f) || f==X || match C.funcs[f]? with | some fn=>kO ok (Pt C X fX keep) C fn | none=>true)=true):
  @fW (gh ok (nt X keep C.funcs.size)) (Pt C X fX keep) C/\ @PF (gh ok (nt X keep C.funcs.size)) (vw ok (nt X keep C.funcs.size) (Pt C X fX keep) C) (Pt C X fX keep) C (λf=>f=X):=by
 letI:aJ:=⟨λ_=>True⟩
 constructor
 ·refine KC ok _ rfl hg ZY ?_ ?_ h1 h2
  ·intro f fn hf hb;rw [tG] at hf;cases hc:C.funcs[f]? with
   | none=>rw [hc] at hf;cases hf
   | some fc=>
    have bs:=(qa1.1 hc).1;rw [hc,qab,qac] at hf;by_cases B7:f=X
    ·subst B7;rw [if_pos rfl] at hf;subst hf;obtain ⟨k1,c,k2,k3⟩:=jG hX;exact ⟨by simp [nt,bs],k1,gX,(by rw [←hc];exact hgX),hgb⟩
    ·rw [if_neg B7] at hf;cases BX:keep f with
     | false=>rw [BX] at hf;simp at hf;subst hf;cases hb
     | true=>
      rw [BX,if_pos rfl] at hf;subst hf;obtain ⟨k1,c,k2,k3⟩:=jG (qJ hk hc BX B7);exact ⟨by simp [nt,BX,bs],k1,fc,rfl,hb,k1⟩
  ·intro f fn hf hb;rw [tG] at hf;cases hc:C.funcs[f]? with
   | none=>rw [hc] at hf;cases hf
   | some fc=>
    rw [hc,qab,qac] at hf;by_cases B7:f=X
    ·rw [if_pos B7] at hf;subst hf;obtain ⟨k1,c,k2,k3⟩:=jG hX;rw [k2] at hb;cases hb
    ·rw [if_neg B7] at hf;cases BX:keep f with
     | false=>rw [BX] at hf;simpa using hf.symm
     | true=>
      rw [BX,if_pos rfl] at hf;subst hf;obtain ⟨k1,c,k2,k3⟩:=jG (qJ hk hc BX B7);rw [k2] at hb;cases hb
 ·refine @PF.mk (gh ok (nt X keep C.funcs.size)) (vw ok (nt X keep C.funcs.size) (Pt C X fX keep) C) _ _ _ ?_ rfl ?_
  ·intro f qF pG C6;have Gx:nt X keep C.funcs.size f=true:=pG;simp only [nt,qa4,qc2,beq_iff_eq,decide_eq_true_eq] at Gx;obtain ⟨h | BX,bs⟩:=Gx
   ·exact absurd h C6
   ·have hc:=Array.getElem?_eq_getElem bs;obtain ⟨k1,c,k2,k3⟩:=jG (qJ hk hc BX C6);exact ⟨_,c,by rw [tG,hc,qab,if_neg C6,if_pos BX],hc,k2,An ok _ c k3⟩
  ·intro c;exact Iff.rfl
omit [aY] in
theorem SN(hg:C.globals.size=0)(ZY:C.types.toList.all (ZX ok)=true)(h1:(Extern.findNext blank).isNone=true)(h2:(Extern.find blank).isNone=true)
  (hX:kO ok (Pt C X fX keep) (Pt C X fX keep) fX=true) (hgX:X<C.funcs.size)
  (hk:(List.range C.funcs.size).all (λf=> !(keep f) || f==X || match C.funcs[f]? with | some fn=>kO ok (Pt C X fX keep) (Pt C X fX keep) fn | none=>true)=true):
  @fW (gh ok (nt X keep C.funcs.size)) (Pt C X fX keep) (Pt C X fX keep)/\ @PF (gh ok (nt X keep C.funcs.size)) (vw ok (nt X keep C.funcs.size) (Pt C X fX keep) (Pt C X fX keep)) (Pt C X fX keep) (Pt C X fX keep) (λ_=>False):=by
 letI:aJ:=⟨λ_=>True⟩;have Ap: ∀(f:FuncId) (fn:Func),(Pt C X fX keep).funcs[f]? =some fn->f<C.funcs.size/\((f=X/\fn=fX)\/(f≠X/\keep f=true/\C.funcs[f]? =some fn)\/fn=blank):=by
  intro f fn hf;rw [tG] at hf;cases hc:C.funcs[f]? with
  | none=>rw [hc] at hf;cases hf
  | some fc=>
   have bs:=(qa1.1 hc).1;rw [hc,qab,qac] at hf;by_cases B7:f=X
   ·rw [if_pos B7] at hf;exact ⟨bs, .inl ⟨B7,hf.symm⟩⟩
   ·rw [if_neg B7] at hf;cases BX:keep f with
    | false=>rw [BX] at hf;exact ⟨bs, .inr (.inr (by simpa using hf.symm))⟩
    | true=>rw [BX,if_pos rfl] at hf;exact ⟨bs, .inr (.inl ⟨B7,rfl,hf▸rfl⟩)⟩
 constructor
 ·refine KC ok _ rfl hg ZY ?_ ?_ h1 h2
  ·intro f fn hf hb;obtain ⟨bs,⟨rfl,rfl⟩ | ⟨B7,BX,hc⟩ | rfl⟩:=Ap f fn hf
   ·obtain ⟨k1,c,k2,k3⟩:=jG hX;exact ⟨by simp [nt,bs],k1,fn,hf,hb,k1⟩
   ·obtain ⟨k1,c,k2,k3⟩:=jG (qJ hk hc BX B7);exact ⟨by simp [nt,BX,bs],k1,fn,hf,hb,k1⟩
   ·cases hb
  ·intro f fn hf hb;obtain ⟨bs,⟨rfl,rfl⟩ | ⟨B7,BX,hc⟩ | rfl⟩:=Ap f fn hf
   ·obtain ⟨k1,c,k2,k3⟩:=jG hX;rw [k2] at hb;cases hb
   ·obtain ⟨k1,c,k2,k3⟩:=jG (qJ hk hc BX B7);rw [k2] at hb;cases hb
   ·rfl
 ·refine @PF.mk (gh ok (nt X keep C.funcs.size)) (vw ok (nt X keep C.funcs.size) (Pt C X fX keep) (Pt C X fX keep)) _ _ _ ?_ rfl ?_
  ·intro f qF pG _;have Gx:nt X keep C.funcs.size f=true:=pG;simp only [nt,qa4,qc2,beq_iff_eq,decide_eq_true_eq] at Gx;obtain ⟨h,bs⟩:=Gx;have hc:=Array.getElem?_eq_getElem bs;by_cases B7:f=X
   ·obtain ⟨k1,c,k2,k3⟩:=jG hX;have e:(Pt C X fX keep).funcs[f]? =some fX:=by rw [tG,hc,qab,if_pos B7]
    exact ⟨fX,c,e,e,k2,An ok _ c k3⟩
   ·have BX:keep f=true:=by rcases h with h | h;exact absurd h B7;exact h
    obtain ⟨k1,c,k2,k3⟩:=jG (qJ hk hc BX B7);have e:(Pt C X fX keep).funcs[f]? =some C.funcs[f]:=by rw [tG,hc,qab,if_neg B7,if_pos BX]
    exact ⟨_,c,e,e,k2,An ok _ c k3⟩
  ·intro c;exact Iff.rfl
end
end Go.Cx
namespace Go.Cx
open Go
variable[aV][aJ][aY]
end Go.Cx
namespace Go.Cx
open Go
variable[aV][aJ][aY]
theorem bZ.other{β:Bj}{w W W':World}(h:bZ β w W)(hs: ∀a b,β a b->W'.heap[b]? =W.heap[b]?):bZ β w W':=
 ⟨λa b hb=>let ⟨o,o',h1,h2,h3⟩:=h.obj a b hb;⟨o,o',h1,(hs a b hb).trans h2,h3⟩,h.inj,h.fn⟩
end Go.Cx
namespace Go.Cx
open Go
def lG(S:Nat->Prop):Bj:=λa b=>a=b/\S a
end Go.Cx
namespace Go.Cx
open Go Go.Conc
inductive Rk where
 | leaf
 | node (f:World->Rk)
def Rk.lt(x y:Rk):Prop:= ∃f i,y= .node f/\x=f i
theorem Rk.acc(x:Rk):Acc Rk.lt x:=by
 induction x with
 | leaf=>exact ⟨_,λy ⟨f,i,h,_⟩=>by cases h⟩
 | node f ih=>
  refine ⟨_, ?_⟩;rintro y ⟨g,i,h1,rfl⟩;cases h1;exact ih i
def Ga(n:Nat)(x y:Nat->Rk):Prop:= ∃i,i<n/\Rk.lt (x i) (y i)/\ ∀k,k<n->k≠i->x k=y k
theorem Ga.acc: ∀(n:Nat) (y:Nat->Rk),Acc (Ga n) y
 | 0,y=>⟨_,λx ⟨i,hi,_⟩=>absurd hi (qar _)⟩
 | n+1,y=>by
  have key: ∀(z:Rk), ∀(y:Nat->Rk),y n=z->Acc (Ga (n+1)) y:=by
   intro z
   induction z.acc with
   | intro z _ ih1=>
    intro y hy;have hA:=Ga.acc n y
    induction hA with
    | intro y _ ih2=>
     refine ⟨_, ?_⟩;rintro x ⟨i,hi,h1,h2⟩;rcases Nat.lt_or_ge i n with bs | hge
     ·have e:x n=y n:=h2 n (Nat.lt_succ_self n) (by omega);exact ih2 x ⟨i,bs,h1,λk hk hn=>h2 k (Nat.lt_succ_of_lt hk) hn⟩ (e.trans hy)
     ·obtain rfl:i=n:=by omega
      exact ih1 (x i) (hy▸h1) x rfl
  exact key _ y rfl
theorem Ga.wf(n:Nat):WellFounded (Ga n):=⟨Ga.acc n⟩
structure Ry(Iv:World->Prop)(K:Nat->Prop)(w w₁:World):Prop where
 blk: ∀b,K b->w₁.heap[b]? =w.heap[b]?
 size:w.heap.size<=w₁.heap.size
 iv:Iv w₁
theorem Ry.trans{Iv:World->Prop}{K:Nat->Prop}{a b c:World}(h:Ry Iv K a b)(k:Ry Iv K b c):Ry Iv K a c:=
 ⟨λx hx=>(k.blk x hx).trans (h.blk x hx),qa8 h.size k.size,k.iv⟩
def SP(S Ro:Nat->Prop)(e:Event):Prop:=
 (e.sync=false/\((∃ad,e.loc= .cell ad/\(S ad.block\/(Ro ad.block/\e.write=false)))\/(∃r,e.loc= .obj r/\S r)))\/e=⟨.mark .noRoom,false,true⟩
def nw(S:Nat->Prop)(w w':World):Nat->Prop:=λb=>S b\/(w.heap.size<=b/\b<w'.heap.size)
structure Ow(S Ro:Nat->Prop)(w w':World)(es:Array Event):Prop where
 tape:w'.tape=w.tape
 os:w'.os=w.os
 output:w'.output=w.output
 size:w.heap.size<=w'.heap.size
 blk: ∀b,b<w.heap.size-> ¬S b->w'.heap[b]? =w.heap[b]?
 ev: ∀e∈es,SP (nw S w w') Ro e
theorem Ow.still(S Ro:Nat->Prop)(w:World):Ow S Ro w w #[]:=⟨rfl,rfl,rfl,qa3 _,λ_ _ _=>rfl,λe he=>by simp at he⟩
section
variable(P:Program)(main:Bool)(Iv:World->Prop)(Ro:Nat->Prop)(Stop:(Nat->Prop)->Goroutine->World->Prop)
def Wk:Rk->(Nat->Prop)->Goroutine->World->Prop
 | .leaf,S,g,w=> ∀w₁,Ry Iv (λb=>S b\/Ro b) w w₁->Stop S g w₁
 | .node f,S,g,w=> ∀w₁,Ry Iv (λb=>S b\/Ro b) w w₁->Stop S g w₁\/
  (g.status= .running/\ ∃g' w' es,stepG P main g w₁= .go g' w' es/\Ow S Ro w₁ w' es/\Wk (f w₁) (nw S w₁ w') g' w')
def dR(S:Nat->Prop)(g:Goroutine)(w:World):Prop:= ∃r,Wk P main Iv Ro Stop r S g w
end
section
variable{P:Program}{main:Bool}{Iv:World->Prop}{Ro:Nat->Prop}{Stop:(Nat->Prop)->Goroutine->World->Prop}{S:Nat->Prop}{g:Goroutine}{w w₁:World}
theorem Wk.rely{r:Rk}(h:Wk P main Iv Ro Stop r S g w)(hr:Ry Iv (λb=>S b\/Ro b) w w₁):Wk P main Iv Ro Stop r S g w₁:=by
 cases r with
 | leaf=>exact λXo Xp=>h Xo (hr.trans Xp)
 | node f=>exact λXo Xp=>h Xo (hr.trans Xp)
theorem Ry.refl{K:Nat->Prop}(hi:Iv w):Ry Iv K w w:=⟨λ_ _=>rfl,qa3 _,hi⟩
theorem Wk.cases{r:Rk}(h:Wk P main Iv Ro Stop r S g w)(hi:Iv w):Stop S g w\/(g.status= .running/\ ∃g' w' es r',stepG P main g w= .go g' w' es/\Ow S Ro w w' es/\Rk.lt r' r/\Wk P main Iv Ro Stop r' (nw S w w') g' w'):=by
 cases r with
 | leaf=>exact .inl (h w (.refl hi))
 | node f=>
  rcases h w (.refl hi) with h | ⟨hs,g',w',es,h1,h2,h3⟩
  ·exact .inl h
  ·exact .inr ⟨hs,g',w',es,_,h1,h2,⟨f,w,rfl,rfl⟩,h3⟩
theorem dR.rely(h:dR P main Iv Ro Stop S g w)(hr:Ry Iv (λb=>S b\/Ro b) w w₁):dR P main Iv Ro Stop S g w₁:=let ⟨r,h⟩:=h;⟨r,h.rely hr⟩
open Classical in
theorem dR.mk(h: ∀w₁,Ry Iv (λb=>S b\/Ro b) w w₁->Stop S g w₁\/(g.status= .running/\ ∃g' w' es,stepG P main g w₁= .go g' w' es/\Ow S Ro w₁ w' es/\dR P main Iv Ro Stop (nw S w₁ w') g' w')):dR P main Iv Ro Stop S g w:=by
 have h': ∀w₁, ∃r:Rk,Ry Iv (λb=>S b\/Ro b) w w₁->Stop S g w₁\/(g.status= .running/\ ∃g' w' es,stepG P main g w₁= .go g' w' es/\Ow S Ro w₁ w' es/\Wk P main Iv Ro Stop r (nw S w₁ w') g' w'):=λw₁=>by
  by_cases hw:Ry Iv (λb=>S b\/Ro b) w w₁
  ·rcases h w₁ hw with h1 | ⟨hs,g',w',es,h1,h2,r',h3⟩
   ·exact ⟨.leaf,λ_=> .inl h1⟩
   ·exact ⟨r',λ_=> .inr ⟨hs,g',w',es,h1,h2,h3⟩⟩
  ·exact ⟨.leaf,λq=>absurd q hw⟩
 exact ⟨.node λw₁=>(h' w₁).choose,λw₁ hw=>(h' w₁).choose_spec hw⟩
theorem dR.cases(h:dR P main Iv Ro Stop S g w)(hi:Iv w):Stop S g w\/(g.status= .running/\ ∃g' w' es,stepG P main g w= .go g' w' es/\Ow S Ro w w' es/\dR P main Iv Ro Stop (nw S w w') g' w'):=by
 obtain ⟨r,h⟩:=h;rcases h.cases hi with h | ⟨hs,g',w',es,r',h1,h2,_,h3⟩
 ·exact .inl h
 ·exact .inr ⟨hs,g',w',es,h1,h2,r',h3⟩
theorem dR.now(h: ∀w₁,Ry Iv (λb=>S b\/Ro b) w w₁->dR P main Iv Ro Stop S g w₁):dR P main Iv Ro Stop S g w:=dR.mk λw₁ hw=>(h w₁ hw).cases hw.iv
theorem dR.stop(h: ∀w₁,Ry Iv (λb=>S b\/Ro b) w w₁->Stop S g w₁):dR P main Iv Ro Stop S g w:=⟨.leaf,h⟩
theorem dR.step(hs:g.status= .running)(h: ∀w₁,Ry Iv (λb=>S b\/Ro b) w w₁-> ∃g' w' es,stepG P main g w₁= .go g' w' es/\Ow S Ro w₁ w' es/\dR P main Iv Ro Stop (nw S w₁ w') g' w'):dR P main Iv Ro Stop S g w:=dR.mk λw₁ hw=> .inr ⟨hs,h w₁ hw⟩
theorem dR.bind{Gy:(Nat->Prop)->Goroutine->World->Prop}(h:dR P main Iv Ro Stop S g w)(k: ∀S g w,Iv w->Stop S g w->dR P main Iv Ro Gy S g w):dR P main Iv Ro Gy S g w:=by
 obtain ⟨r,h⟩:=h
 induction r generalizing S g w with
 | leaf=>exact dR.now λw₁ hw=>k _ _ _ hw.iv (h w₁ hw)
 | node f ih=>
  refine dR.mk λw₁ hw=> ?_;rcases h w₁ hw with h | ⟨hs,g',w',es,h1,h2,h3⟩
  ·exact (k _ _ _ hw.iv h).cases hw.iv
  ·exact .inr ⟨hs,g',w',es,h1,h2,ih _ h3⟩
end
end Go.Cx
namespace Go.Cx
open Go Go.Conc
variable[aV][aJ][aY]
def SO(β:Bj)(w:World)(b:Nat):Prop:=(∃a,β a b)/\ ¬ga β w b
section
variable{β bR:Bj}{w w1 W W1:World}
omit [aV] [aJ] [aY] in
theorem lM.qK(hT:lM β bR w w1 W W1)(b:Nat):ga bR w1 b↔ga β w b:=by
 constructor
 ·intro h;have h':=h;obtain ⟨a,c,e,h1,h2,h3⟩:=h;rcases hT.fresh a b h1 with q | ⟨_,_,_,q⟩
  ·exact qa6 λhn=>hT.unlock b ⟨a,q⟩ hn h'
  ·exact (q h').elim
 ·exact hT.CR b
theorem lM.so(hw:bZ β w W)(hT:lM β bR w w1 W W1)(b:Nat):SO bR w1 b↔nw (SO β w) W W1 b:=by
 unfold SO nw;rw [hT.qK];show _↔((∃a,β a b)/\ ¬ga β w b)\/_
 constructor
 ·rintro ⟨⟨a,h1⟩,h2⟩;rcases hT.fresh a b h1 with q | ⟨_,q1,q2,_⟩
  ·exact .inl ⟨⟨a,q⟩,h2⟩
  ·exact .inr ⟨q1,q2⟩
 ·rintro (⟨⟨a,h1⟩,h2⟩ | ⟨h1,h2⟩)
  ·exact ⟨⟨a,hT.le _ _ h1⟩,h2⟩
  ·refine ⟨hT.all b h1 h2, ?_⟩;rintro ⟨a,c,e,q1,q2,q3⟩;exact absurd (hw.NA q1) (qcg.2 h1)
omit [aV] [aJ] [aY] in
theorem OL{S S':Nat->Prop}(h: ∀b,S b↔S' b){b:Nat}:nw S W W1 b↔nw S' W W1 b:=by
 unfold nw;rw [h b]
theorem lM.ow{S Ro:Nat->Prop}(hw:bZ β w W)(hT:lM β bR w w1 W W1)(hS: ∀b,S b↔SO β w b)(hR: ∀b,ga β w b->Ro b){es:Array Event}(he: ∀e∈es,sT bR w1 e):Ow S Ro W W1 es where
 tape:=hT.tape
 os:=hT.os
 output:=hT.output
 size:=hT.size
 blk:=λb hb hn=>by
  by_cases h: ∃a,β a b
  ·by_cases hl:ga β w b
   ·exact hT.lock b hl
   ·exact absurd ((hS b).2 ⟨h,hl⟩) hn
  ·exact hT.stay b hb λa ha=>h ⟨a,ha⟩
 ev:=λe q=>by
  have hso: ∀b,SO bR w1 b->nw S W W1 b:=λb hb=>by
   rcases (hT.so hw b).1 hb with h | h
   ·exact .inl ((hS b).2 h)
   ·exact .inr h
  rcases he e q with ⟨h0,⟨ad,a,h1,h2,h3⟩ | ⟨r,a,h1,h2,h3⟩⟩ | h
  ·refine .inl ⟨h0, .inl ⟨ad,h1, ?_⟩⟩;by_cases hl:ga bR w1 ad.block
   ·refine .inr ⟨hR _ ((hT.qK _).1 hl), ?_⟩;cases VB:e.write with
    | false=>rfl
    | true=>exact absurd hl (h3 VB)
   ·exact .inl (hso _ ⟨⟨a,h2⟩,hl⟩)
  ·exact .inl ⟨h0, .inr ⟨r,h1,hso _ ⟨⟨a,h2⟩,h3⟩⟩⟩
  ·exact .inr h
end
section
variable{L C:Program}{m:Bool}{Iv:World->Prop}{Ro:Nat->Prop}{c:Frame}{cs:List Frame}{R:Value->World->Prop}
def SQ(L:Program)(ZZ:Bj)(w0:World)(Ro:Nat->Prop)(R:Value->World->Prop)(c:Frame)(cs:List Frame)(S:Nat->Prop)(g:Goroutine)(W:World):Prop:=
 ∃β w v v',g=gb (c.finish v') cs/\R v w/\ay β v v'/\bZ β w W/\Dw w/\Le ZZ β/\(∀b,ga β w b↔ga ZZ w0 b)/\(∀b,S b↔SO β w b)/\(∀b,ga β w b->Ro b)
theorem Ry.rel{S:Nat->Prop}{β:Bj}{w W I5:World}(hr:Ry Iv (λb=>S b\/Ro b) W I5)(hw:bZ β w W)(hS: ∀b,S b↔SO β w b)(hR: ∀b,ga β w b->Ro b):bZ β w I5:=
 hw.other λa b mw=>hr.blk b (by
  by_cases hl:ga β w b
  ·exact .inr (hR b hl)
  ·exact .inl ((hS b).2 ⟨⟨a,mw⟩,hl⟩))
theorem Me{Xs:FuncId->Prop}(HP:fW L C)(HF:PF L C Xs)(hX: ∀f x k w,Xs f-> ¬xC L (Left L R) (Frame.enter L f x .normal) k w)(ZZ:Bj)(w0:World){a:Frame}{k:List Frame}{w:World}(hW:xC L (Left L R) a k w):
  ∀{β:Bj} {b:Frame} {k':List Frame} {W:World} {S:Nat->Prop},cF L C β (a::k) (b::k')->bZ β w W->Dw w->Le ZZ β->(∀b,ga β w b↔ga ZZ w0 b)->(∀b,S b↔SO β w b)->(∀b,ga β w b->Ro b)->
   dR C m Iv Ro (SQ L ZZ w0 Ro R c cs) S (gb b (k'++c::cs)) W:=by
 induction hW with
 | @done a w hm hd hq=>
  intro β b k' W S fl hw hD hle Vv hS hR;obtain ⟨v,hE,hRv⟩:=hq;refine dR.step rfl λI5 hr=> ?_;have yH:=hr.rel hw hS hR;obtain ⟨rfl,bR,v',W2,es,τ,e1,e2,e3,e4,e5⟩:=Gu (m:=m) (t':=c) (r':=cs) HP HF fl yH hE;have OM:bZ β (TW w τ) I5:=⟨yH.obj,yH.inj,yH.fn⟩;refine ⟨_,_,_,e1,e4.ow (Ro:=Ro) OM hS hR e5,dR.stop λW3 hr3=> ?_⟩;have Iq: ∀b,nw S I5 W2 b↔SO bR w b:=λb=>(OL hS).trans (e4.so OM b).symm;have hR': ∀b,ga bR w b->Ro b:=λb h=>hR b ((e4.qK b).1 h);exact ⟨bR,w,v,v',rfl,hRv,e2,hr3.rel e3 Iq hR',hD,hle.trans e4.le,λb=>(e4.qK b).trans (Vv b),Iq,hR'⟩
 | @step a k w h1 h2 ih=>
  intro β b k' W S fl hw hD hle Vv hS hR;refine dR.step rfl λI5 hr=> ?_;have yH:=hr.rel hw hS hR;obtain ⟨bR,a1,k1,w1,W1,wu,es,τ,e1,e2,e3,_,_,e4,e5,e6,⟨te,e7⟩,e8⟩:=Gt (m:=m) (bs':=c::cs) HP HF fl yH h1 h2 .nil;have OM:bZ β (TW w τ) I5:=⟨yH.obj,yH.inj,yH.fn⟩;cases e2 with
  | enter f NF _ _ ha _=>exact (hX f _ _ _ NF (ha▸h2 _ _ _ _ _ e6 e7)).elim
  | @on b1 RZ uJ hg=>
   subst hg;refine ⟨_,_,_,e1,e4.ow (Ro:=Ro) OM hS hR e5,ih _ _ _ _ _ e6 e7 uJ e3 (e8 hD) (hle.trans e4.le) (λb=>(e4.qK b).trans (Vv b)) (λb=>(OL hS).trans (e4.so OM b).symm) λb h=>hR b ((e4.qK b).1 h)⟩
end
end Go.Cx
namespace Go.Cx
open Go Go.Conc
variable[aV][aJ][aY]
section
variable{L C:Program}{m:Bool}{Iv:World->Prop}{Ro:Nat->Prop}{c:Frame}{cs:List Frame}{R:Value->World->Prop}
theorem KD{Xs:FuncId->Prop}(HP:fW L C)(HF:PF L C Xs)(hX: ∀f x k w,Xs f-> ¬xC L (Left L R) (Frame.enter L f x .normal) k w){f:FuncId}(qF:aV.ok f)(pG:aV.sQ f)(C6: ¬Xs f){x x':Array Value}{β:Bj}{w W:World}{S:Nat->Prop}
  (hW:xC L (Left L R) (Frame.enter L f x .normal) [] w) (hx:aG β x x') (hw:bZ β w W) (hD:Dw w) (hS: ∀b,S b↔SO β w b) (hR: ∀b,ga β w b->Ro b):
  dR C m Iv Ro (SQ L β w Ro R c cs) S (gb (Frame.enter C f x' .normal) (c::cs)) W:=by
 obtain ⟨fn,cd,g1,g2,g3,g4⟩:=HF.same f qF pG C6;have fl:cF L C β [Frame.enter L f x .normal] [Frame.enter C f x' .normal]:= .one (om g1 g2 g3 g4 hx) rfl;exact Me HP HF hX β w hW fl hw hD (Le.refl _) (λb=>Iff.rfl) hS hR
end
end Go.Cx
namespace Go.Cx
open Go Go.Conc
instance hU:aY:=⟨λv=> ∀t w,v≠ .iface t w,λt w h=>h t w rfl⟩
section
variable(F:aV)(T:Nat->Prop)
theorem En(x:Array Value)(h: ∀v∈x, ∃u, @ay F hU (lG T) u v): ∃y:Array Value,y.size=x.size/\ ∀(i:Nat) (u v:Value),y[i]? =some u->x[i]? =some v-> @ay F hU (lG T) u v:=by
 classical
 refine ⟨x.map λv=>if q: ∃u, @ay F hU (lG T) u v then q.choose else v,by simp,λi u v hu hv=> ?_⟩;rw [qc6,hv,qab,qac] at hu;have q:=h v (qb3 hv);rw [dif_pos q] at hu;exact hu▸q.choose_spec
theorem lR{v:Value}(h:Odd v)(k: ∀t w,v≠ .iface t w): ∃u, @ay F hU (lG T) u v:=⟨_, @ay.hole F hU _ _ h k⟩
theorem uk: ∀(v:Value), ∃u, @ay F hU (lG T) u v
 | .bool b=>⟨_, @ay.bool F hU _ b⟩
 | .int k n=>⟨_, @ay.int F hU _ k n⟩
 | .float k n=>lR F T trivial nofun
 | .complex k n m=>lR F T trivial nofun
 | .string s=>⟨_, @ay.string F hU _ s⟩
 | .pointer none=>⟨_, @ay.nQ F hU _⟩
 | .pointer (some a)=>lR F T trivial nofun
 | .slice none n c=>⟨_, @ay.jB F hU _ n c⟩
 | .slice (some a) n c=>lR F T trivial nofun
 | .map r=>lR F T trivial nofun
 | .chan r=>lR F T trivial nofun
 | .func (.func f) x y=>lR F T trivial nofun
 | .func (.yield f) x y=>lR F T trivial nofun
 | .func (.methodOf t n) x y=>lR F T trivial nofun
 | .func (.via t p f q) x y=>lR F T trivial nofun
 | .func (.method n) x y=>by
  obtain ⟨x',h1,h2⟩:=En F T x λv hv=>uk v;obtain ⟨y',h3,h4⟩:=En F T y λv hv=>uk v;exact ⟨_, @ay.func F hU _ _ _ _ _ _ _ (@B4.method F _ n) h1 h3 (λi u v a b=>h2 i u v a b) (λi u v a b=>h4 i u v a b)⟩
 | .nilFunc=>⟨_, @ay.oC F hU _⟩
 | .iface t v=>let ⟨u,h⟩:=uk v;⟨_, @ay.iface F hU _ t _ _ h⟩
 | .nilIface=>⟨_, @ay.gZ F hU _⟩
 | .agg x=>by
  obtain ⟨x',h1,h2⟩:=En F T x λv hv=>uk v;exact ⟨_, @ay.agg F hU _ _ _ h1 (λi u v a b=>h2 i u v a b)⟩
 | .tuple x=>lR F T trivial nofun
termination_by v=>SizeOf.sizeOf v
decreasing_by
 all_goals first | (have:=Array.sizeOf_lt_of_mem hv;simp_wf;omega) | (simp_wf;omega)
open Classical in
noncomputable def ON(v:Value):Value:=if @ay F hU (lG T) v v then v else (uk F T v).choose
theorem KE(v:Value): @ay F hU (lG T) (ON F T v) v:=by
 unfold ON;split
 ·assumption
 ·exact (uk F T v).choose_spec
theorem Gz{v:Value}(h: @ay F hU (lG T) v v):ON F T v=v:=by
 unfold ON;rw [if_pos h]
open Classical in
noncomputable def Fw(W:World):World:={ W with heap:=W.heap.mapIdx λb o=>if T b then (match o with | .cells c e _=> .cells (c.map (ON F T)) e (0,c.size+1) | _=> .cells #[] 0) else .cells #[] 0 }
variable{W:World}
theorem rJ:(Fw F T W).heap.size=W.heap.size:=by simp [Fw]
theorem Aq{b:Nat}{c:Array Value}{e:TypeId}{f:Nat×Nat}(hT:T b)(h:W.heap[b]? =some (.cells c e f)):(Fw F T W).heap[b]? =some (.cells (c.map (ON F T)) e (0,c.size+1)):=by
 show (W.heap.mapIdx _)[b]? =_;rw [Array.getElem?_mapIdx,h,qab,if_pos hT]
theorem OO:Dw (Fw F T W):=by
 intro r ds hr;have hr:(W.heap.mapIdx _)[r]? =_:=hr;rw [Array.getElem?_mapIdx] at hr;cases ho:W.heap[r]? with
 | none=>rw [ho] at hr;cases hr
 | some o=>
  rw [ho,qab,qac] at hr;split at hr
  ·split at hr <;> cases hr
  ·cases hr
theorem I6(K:aJ)(hT: ∀b,T b-> ∃c e f,W.heap[b]? =some (.cells c e f)):
  @bZ F K hU (lG T) (Fw F T W) W/\(∀b,T b↔ga (lG T) (Fw F T W) b):=by
 letI:aV:=F;letI:aJ:=K;letI:aY:=hU;refine ⟨⟨?_, ?_, ?_⟩,λb=>⟨λh=> ?_,λ⟨a,c,e,h,_⟩=> ?_⟩⟩
 ·rintro a b ⟨rfl,hb⟩;obtain ⟨c,e,f,h1⟩:=hT a hb;refine ⟨_,_,Aq F T hb h1,h1, ?_⟩;have:= @rF.lock F K hU (lG T) (c.map (ON F T)) c f e ⟨by simp,λi v v' hv BU=> ?_⟩
  ·simpa using this
  ·rw [qc6,BU] at hv;cases hv;exact KE F T v'
 ·rintro a a' b ⟨rfl,_⟩ ⟨rfl,_⟩;rfl
 ·rintro a b b' ⟨rfl,_⟩ ⟨rfl,_⟩;rfl
 ·obtain ⟨c,e,f,h1⟩:=hT b h;exact ⟨b,c.map (ON F T),e,⟨rfl,h⟩,trivial,by rw [Aq F T h h1,Array.size_map]⟩
 ·obtain ⟨rfl,h⟩:=h;exact h
theorem um{a:Addr}{v:Value}(hT:T a.block)(h:W.cell? a=some v)(hv: @ay F hU (lG T) v v):(Fw F T W).cell? a=some v:=by
 letI:aV:=F;letI:aJ:=⟨λ_=>True⟩;letI:aY:=hU;obtain ⟨c,e,f,h1,h2,h3⟩:=mz h;refine cell_of (Aq F T hT h1) h2 ?_;rw [qc6,h3,qab,Gz F T hv]
end
end Go.Cx
namespace Go.Cx
open Go Go.Conc Go.ConcN
def ic:Loc->Nat->Prop
 | .cell a,b=>a.block=b
 | .obj r,b=>r=b
 | _,_=>False
theorem ic.inj{l:Loc}{b c:Nat}(h:ic l b)(k:ic l c):b=c:=by
 cases l <;> first | exact h.symm.trans k | exact h.elim
def uK(A:Nat->Prop)(l:Loc):Prop:= ∃b,ic l b/\A b
structure TI(Sh cR:Loc->Prop)(act live:Nat->Prop)(S Rd:Nat->Nat->Prop)(sz N:Nat)(t:Trace):Prop where
 quiet:Quiet Sh t
 own: ∀k,live k-> ∀l,uK (S k) l->Perm t k l
 rd: ∀k,live k-> ∀l,uK (Rd k) l->PermW t k l
 free: ∀l,l.isMemory=true-> ¬Sh l-> ¬cR l->(∀k,act k-> ¬uK (S k) l/\ ¬uK (Rd k) l)->Perm t 0 l
 mine: ∀l,l.isMemory=true-> ¬Sh l-> ¬cR l->(∀k,act k-> ¬uK (S k) l)->PermW t 0 l
 Mf: ∀i a,touchAt t i=some a->a.loc.isMemory=true-> ¬Sh a.loc-> ¬cR a.loc->Knows t 0 i\/ ∃k,act k/\t.g? i=some k/\a.kind= .plain
 nr: ∀said, ¬Race said t
 gs: ∀(i:Nat) (op:MemOp),t[i]? =some op->op.g<=N
 fresh: ∀i a,touchAt t i=some a-> ∀b,ic a.loc b->b<sz
structure Apr(Sh cR:Loc->Prop)(act live:Nat->Prop)(S Rd:Nat->Nat->Prop):Prop where
 la: ∀k,live k->act k
 own: ∀k k' b,act k->act k'->S k b->S k' b->k=k'
 ownRd: ∀k k' b,act k->act k'->S k b-> ¬Rd k' b
 ownSh: ∀k l,act k->uK (S k) l-> ¬Sh l/\ ¬cR l
 rdSh: ∀k l,act k->uK (Rd k) l-> ¬Sh l/\ ¬cR l
def TOk(Sh cR:Loc->Prop)(act live:Nat->Prop)(S Rd:Nat->Nat->Prop)(g:Nat)(x:Touch):Prop:=
 (Sh x.loc/\x.kind≠ .plain/\(x.kind= .said->g=0))\/
 (¬Sh x.loc/\ ¬cR x.loc/\g=0/\(∀k,act k-> ¬uK (S k) x.loc)/\(x.write=true-> ∀k,act k-> ¬uK (Rd k) x.loc))\/
 (live g/\x.kind= .plain/\uK (S g) x.loc)\/
 (live g/\x.kind= .plain/\uK (Rd g) x.loc/\x.write=false)
section
variable{Sh cR:Loc->Prop}{act live:Nat->Prop}{S S' Rd:Nat->Nat->Prop}{sz VC N g:Nat}{t u:Trace}
theorem Perm.none{k:Nat}{l:Loc}{b:Nat}(h:TI Sh cR act live S Rd sz N t)(hl:ic l b)(hb:sz<=b):Perm t k l:=by
 intro i a ha e;have:=h.fresh i a ha b (e▸hl);omega
theorem TI.app(h:TI Sh cR act live S Rd sz N t)(hg: ∀op∈u,op.g=g)(hN:g<=N)(h0: ¬live 0)(lH:sz<=VC)(hS: ∀k b,S k b->S' k b)(Iq: ∀k b,S' k b->S k b\/sz<=b)
  (A:Apr Sh cR act live S' Rd) (qH: ∀op∈u, ∀x,op.act.touch? =some x-> ∀b,ic x.loc b->b<VC) (hu: ∀op∈u, ∀x,op.act.touch? =some x->TOk Sh cR act live S' Rd g x):
  TI Sh cR act live S' Rd VC N (t++u):=by
 have lin: ∀{k l},uK (S k) l->uK (S' k) l:=λ⟨b,h1,h2⟩=>⟨b,h1,hS _ _ h2⟩;have aat: ∀k,live k-> ∀l,uK (S' k) l->Perm t k l:=λk hk l ⟨b,h1,h2⟩=>by
  rcases Iq _ _ h2 with h3 | h3
  ·exact h.own k hk l ⟨b,h1,h3⟩
  ·exact Perm.none h h1 h3
 have VD: ∀l,l.isMemory=true-> ¬Sh l-> ¬cR l->(∀k,act k-> ¬uK (S' k) l/\ ¬uK (Rd k) l)->Perm t 0 l:=λl hm hs hb hk=>h.free l hm hs hb λk ha=>⟨λq=>(hk k ha).1 (lin q),(hk k ha).2⟩;have VE: ∀l,l.isMemory=true-> ¬Sh l-> ¬cR l->(∀k,act k-> ¬uK (S' k) l)->PermW t 0 l:=λl hm hs hb hk=>h.mine l hm hs hb λk ha q=>hk k ha (lin q);refine ⟨?_,λk hk l hl=> ?_,λk hk l hl=> ?_,λl hm hs hb hk=> ?_,λl hm hs hb hk=> ?_,λi a ha hm hs hb=> ?_,λsaid=> ?_,λi op hi=> ?_,λi a ha b hb=> ?_⟩
 ·refine h.quiet.app λop cG x hx hs=> ?_;rcases hu op cG x hx with ⟨_,h2,h3⟩ | ⟨h1,_⟩ | ⟨h1,_,h3⟩ | ⟨h1,_,h3,_⟩
  ·exact ⟨h2,λe=>(hg op cG).trans (h3 e)⟩
  ·exact absurd hs h1
  ·exact absurd hs (A.ownSh g _ (A.la g h1) h3).1
  ·exact absurd hs (A.rdSh g _ (A.la g h1) h3).1
 ·refine (aat k hk l hl).app λop cG x hx e=> ?_;subst e;rcases hu op cG x hx with ⟨h1,_⟩ | ⟨_,_,_,h1,_⟩ | ⟨h1,_,b,h3,h4⟩ | ⟨h1,_,⟨b,h3,h4⟩,_⟩
  ·exact absurd h1 (A.ownSh k _ (A.la k hk) hl).1
  ·exact absurd hl (h1 k (A.la k hk))
  ·obtain ⟨c,h5,h6⟩:=hl;have:=ic.inj h3 h5;subst this;exact (hg op cG).trans (A.own _ _ _ (A.la g h1) (A.la k hk) h4 h6)
  ·obtain ⟨c,h5,h6⟩:=hl;have:=ic.inj h3 h5;subst this;exact absurd h4 (A.ownRd _ _ _ (A.la k hk) (A.la g h1) h6)
 ·refine (h.rd k hk l hl).app λop cG x hx e hw=> ?_;subst e;rcases hu op cG x hx with ⟨h1,_⟩ | ⟨_,_,_,_,h1⟩ | ⟨h1,_,b,h3,h4⟩ | ⟨_,_,_,h1⟩
  ·exact absurd h1 (A.rdSh k _ (A.la k hk) hl).1
  ·exact absurd hl (h1 hw k (A.la k hk))
  ·obtain ⟨c,h5,h6⟩:=hl;have:=ic.inj h3 h5;subst this;exact absurd h6 (A.ownRd _ _ _ (A.la g h1) (A.la k hk) h4)
  ·rw [h1] at hw;cases hw
 ·refine (VD l hm hs hb hk).app λop cG x hx e=> ?_;subst e;rcases hu op cG x hx with ⟨h1,_⟩ | ⟨_,_,h1,_⟩ | ⟨h1,_,h3⟩ | ⟨h1,_,h3,_⟩
  ·exact absurd h1 hs
  ·exact (hg op cG).trans h1
  ·exact absurd h3 (hk g (A.la g h1)).1
  ·exact absurd h3 (hk g (A.la g h1)).2
 ·refine (VE l hm hs hb hk).app λop cG x hx e hw=> ?_;subst e;rcases hu op cG x hx with ⟨h1,_⟩ | ⟨_,_,h1,_⟩ | ⟨h1,_,h3⟩ | ⟨_,_,_,h1⟩
  ·exact absurd h1 hs
  ·exact (hg op cG).trans h1
  ·exact absurd h3 (hk g (A.la g h1))
  ·rw [h1] at hw;cases hw
 ·obtain ⟨x,hx,I7⟩:=touch_of ha;rcases getElem?_append_cases hx with ⟨hi,uL⟩ | ⟨_,Xq⟩
  ·rcases h.Mf i a (by rw [touchAt_of uL];exact I7) hm hs hb with q | ⟨k,h1,h2,h3⟩
   ·exact .inl (q.app u)
   ·exact .inr ⟨k,h1,by rw [g?_old hi];exact h2,h3⟩
  ·have hgx:x.g=g:=hg x Xq;rcases hu x Xq a I7 with ⟨h1,_⟩ | ⟨_,_,h1,_⟩ | ⟨h1,h2,_⟩ | ⟨h1,h2,_⟩
   ·exact absurd h1 hs
   ·have:=knows_own hx;rw [hgx,h1] at this;exact .inl this
   ·exact .inr ⟨g,A.la g h1,by simp [Trace.g?, hx,hgx],h2⟩
   ·exact .inr ⟨g,A.la g h1,by simp [Trace.g?, hx,hgx],h2⟩
 ·refine noRace_append (h.nr said) hg λi a ha op cG b hb hc=> ?_;rcases hu op cG b hb with ⟨h1,h2,h3⟩ | ⟨h1,h2,h3,h4,h5⟩ | ⟨h1,_,h3⟩ | ⟨h1,_,h3,h4⟩
  ·exact h.quiet.known h1 h2 h3 i a ha hc
  ·subst h3;cases SR:b.write with
   | true=>exact VD b.loc (hc.1▸hc.2.1) h1 h2 (λk hk=>⟨h4 k hk,h5 SR k hk⟩) i a ha hc.1
   | false=>exact VE b.loc (hc.1▸hc.2.1) h1 h2 h4 i a ha hc.1 (hc.2.2.1.resolve_right (by simp [SR]))
  ·exact aat g h1 b.loc h3 i a ha hc.1
  ·exact h.rd g h1 b.loc h3 i a ha hc.1 (hc.2.2.1.resolve_right (by simp [h4]))
 ·rcases getElem?_append_cases hi with ⟨_,fz⟩ | ⟨_,Xr⟩
  ·exact h.gs i op fz
  ·rw [hg op Xr];exact hN
 ·obtain ⟨x,hx,I7⟩:=touch_of ha;rcases getElem?_append_cases hx with ⟨hi,uL⟩ | ⟨_,Xq⟩
  ·exact qa2 (h.fresh i a (by rw [touchAt_of uL];exact I7) b hb) lH
  ·exact qH x Xq a I7 b hb
end
end Go.Cx
namespace Go.Cx
open Go Go.Conc Go.ConcN
section
variable{Sh cR:Loc->Prop}{act live aau VF:Nat->Prop}{S S' Rd Rd':Nat->Nat->Prop}{sz VC N g:Nat}{t u:Trace}
theorem TI.congr(h:TI Sh cR act live S Rd sz N t)(la: ∀k,live k->act k)(hS: ∀k,act k->S' k=S k)(hR: ∀k,act k->Rd' k=Rd k):TI Sh cR act live S' Rd' sz N t:=
 ⟨h.quiet,λk hk=>by rw [hS k (la k hk)];exact h.own k hk,λk hk=>by rw [hR k (la k hk)];exact h.rd k hk,
  λl hm hs hb hk=>h.free l hm hs hb λk ha=>by have:=hk k ha;rw [hS k ha,hR k ha] at this;exact this,
  λl hm hs hb hk=>h.mine l hm hs hb λk ha=>by have:=hk k ha;rw [hS k ha] at this;exact this,h.Mf,h.nr,h.gs,h.fresh⟩
theorem TI.less(h:TI Sh cR act live S Rd sz N t)(hl: ∀k,VF k->live k):TI Sh cR act VF S Rd sz N t:=
 ⟨h.quiet,λk hk=>h.own k (hl k hk),λk hk=>h.rd k (hl k hk),h.free,h.mine,h.Mf,h.nr,h.gs,h.fresh⟩
theorem nu{x y:MemOp}(hx:x.act.touch? =none)(hy:y.act.touch? =none){i:Nat}{a:Touch}(h:touchAt (t++ #[x,y]) i=some a):touchAt t i=some a/\i<t.size:=by
 obtain ⟨z,hz,SS⟩:=touch_of h;rcases getElem?_append_cases hz with ⟨hi,hz'⟩ | ⟨_,hzu⟩
 ·exact ⟨by rw [touchAt_of hz'];exact SS,hi⟩
 ·simp only [List.mem_toArray,qad,qba,or_false] at hzu;rcases hzu with rfl | rfl
  ·rw [hx] at SS;cases SS
  ·rw [hy] at SS;cases SS
theorem SU{A:Nat->Prop}{l:Loc}(h:uK A l):l.isMemory=true:=by
 obtain ⟨b,h,_⟩:=h;cases l <;> first | rfl | exact h.elim
theorem TI.fork(h:TI Sh cR act live S Rd sz N t)(la: ∀k,live k->act k)(hN: ∀k,act k->k<=N)(hS: ∀b, ¬S (N+1) b)(hR: ∀l,uK (Rd (N+1)) l-> ¬Sh l/\ ¬cR l/\ ∀k,act k-> ¬uK (S k) l)
  {x y:MemOp} (hx:x.g=0/\x.act= .go (N+1)) (hy:y.g=N+1/\y.act= .start) (h0:Deaf t 0=0):
  TI Sh cR (λk=>act k\/k=N+1) (λk=>live k\/k=N+1) S Rd sz (N+1) (t++ #[x,y]):=by
 have nx:x.act.touch? =none:=by rw [hx.2];rfl
 have ny:y.act.touch? =none:=by rw [hy.2];rfl
 have hk:Deaf t (N+1)=0:=Deaf_absent λi op hi e=>by have:=h.gs i op hi;omega
 have GA: ∀op∈ #[x,y], ∀b,op.act.touch? =some b->False:=by
  intro op cG b hb;simp only [List.mem_toArray,qad,qba,or_false] at cG;rcases cG with rfl | rfl
  · rw [nx] at hb;cases hb
  · rw [ny] at hb;cases hb
 refine ⟨h.quiet.app λop cG b hb _=>(GA op cG b hb).elim,λk pH l hl=> ?_,λk pH l hl=> ?_,λl hm hs hb pH=> ?_,λl hm hs hb pH=> ?_,λi a ha hm hs hb=> ?_,λsaid=> ?_,λi op hi=> ?_,λi a ha b hb=> ?_⟩
 ·rcases pH with pH | rfl
  · exact (h.own k pH l hl).app λop cG b hb _=>(GA op cG b hb).elim
  · obtain ⟨b,_,hb⟩:=hl;exact absurd hb (hS b)
 ·rcases pH with pH | rfl
  · exact (h.rd k pH l hl).app λop cG b hb _ _=>(GA op cG b hb).elim
  · obtain ⟨q1,q2,q3⟩:=hR l hl;exact λi a ha e hw=>fork_knows hx hy h0 hk (h.mine l (SU hl) q1 q2 q3 i a (nu nx ny ha).1 e hw)
 ·exact (h.free l hm hs hb λk ha=>pH k (.inl ha)).app λop cG b hb _=>(GA op cG b hb).elim
 ·exact (h.mine l hm hs hb λk ha=>pH k (.inl ha)).app λop cG b hb _ _=>(GA op cG b hb).elim
 ·obtain ⟨ha',hi⟩:=nu nx ny ha;rcases h.Mf i a ha' hm hs hb with q | ⟨k,q1,q2,q3⟩
  · exact .inl (q.app _)
  · exact .inr ⟨k, .inl q1,by rw [g?_old hi];exact q2,q3⟩
 ·have e:t++ #[x,y]=(t++ #[x])++ #[y]:=by apply qch;simp
  rw [e];refine noRace_append (g:=N+1) (noRace_append (g:=0) (h.nr said) (λop cG=>by simp at cG;rw [cG];exact hx.1) (λi a _ op cG b hb _=>(GA op (by simp at cG ⊢;exact .inl cG) b hb).elim))
    (λop cG=>by simp at cG;rw [cG];exact hy.1) (λi a _ op cG b hb _=>(GA op (by simp at cG ⊢;exact .inr cG) b hb).elim)
 ·rcases getElem?_append_cases hi with ⟨_,fz⟩ | ⟨_,Xr⟩
  · exact Nat.le_succ_of_le (h.gs i op fz)
  · simp only [List.mem_toArray,qad,qba,or_false] at Xr;rcases Xr with rfl | rfl
    ·rw [hx.1];exact qaa _
    ·rw [hy.1];exact qa3 _
 ·exact h.fresh i a (nu nx ny ha).1 b hb
def HO(act:Nat->Prop)(t:Trace):Prop:= ∀i g,t.g? i=some g->g≠0-> ¬act g->t.counts i-> ∃j,t.g? j=some 0/\HappensBefore t i j
theorem HO.app(h:HO act t)(hg: ∀op∈u,op.g=g)(hu:g=0\/act g\/ ∀i,t.size<=i-> ¬(t++u).counts i):HO act (t++u):=by
 intro i k hk h0 ha hc;obtain ⟨op,ho,cG⟩:=qbf.1 hk;rcases getElem?_append_cases ho with ⟨hi,GB⟩ | ⟨hi,SV⟩
 ·obtain ⟨j,h1,h2⟩:=h i k (by rw [←g?_old (u:=u) hi];exact hk) h0 ha ((counts_old hi).1 hc);have hj:j<t.size:=by
   obtain ⟨z,hz,_⟩:=qbf.1 h1;exact lt_size_of_getElem? hz
  exact ⟨j,by rw [g?_old hj];exact h1,hb_app u h2⟩
 ·have e:g=k:=(hg op SV).symm.trans cG;subst e;rcases hu with q | q | q
  ·exact absurd q h0
  ·exact absurd q ha
  ·exact absurd hc (q i hi)
theorem HO.more(h:HO act t)(ha: ∀k,act k->aau k):HO aau t:=λi g h1 h2 h3 h4=>h i g h1 h2 (λq=>h3 (ha g q)) h4
theorem I8{a:Addr}{k r i:Nat}(h:RelBy a t k r)(hg:t.g? i=some k)(hc:t.counts i):Before t i r:=by
 have hle:i<=r:=Nat.le_of_not_lt λbs=>h.after i bs hg hc;rcases Nat.lt_or_ge i r with bs | hge
 ·exact .inr (.single (.inl ⟨bs,k,hg,h.g⟩))
 ·exact .inl (by omega)
theorem TI.acquire(h:TI Sh cR act live S Rd sz N t){a:Addr}{T0:Nat}(eE: ∀k,act k-> ∃r,RelBy a t k r/\T0<=r)(hn: ∀i,T0<=i->t.act? i≠some (.mark (.release a)))(h0:Deaf t 0=0){x:MemOp}(hx:x.g=0/\x.act= .mark (.acquire a))(hO:HO act t)(NY: ∀k,act k->k≠0):
  TI (λ_=>False) (λl=>cR l\/Sh l) (λ_=>False) (λ_=>False) S Rd sz N (t++ #[x])/\HO (λ_=>False) (t++ #[x]):=by
 have nx:x.act.touch? =none:=by rw [hx.2];rfl
 have hxp:(t++ #[x])[t.size]? =some x:=by rw [Array.getElem?_append_right (qa3 _)];simp
 have hxh:(t++ #[x]).heard t.size:=⟨0,by simp [Trace.g?, hx.1],by rw [deaf_old (qa3 _)];exact h0⟩;have old: ∀{i:Nat} {b:Touch},touchAt (t++ #[x]) i=some b->touchAt t i=some b/\i<t.size:=by
  intro i b hb;obtain ⟨z,hz,SS⟩:=touch_of hb;rcases getElem?_append_cases hz with ⟨hi,hz'⟩ | ⟨_,hzu⟩
  ·exact ⟨by rw [touchAt_of hz'];exact SS,hi⟩
  ·simp at hzu;subst hzu;rw [nx] at SS;cases SS
 have adN: ∀k,act k-> ∀r,RelBy a t k r->T0<=r->HappensBefore (t++ #[x]) r t.size:=λk _ r hr hT=>by
  have hrs:=lt_of_act? hr.act;exact .single (.inr ⟨.marked hrs (.inr (by rw [act?_old hrs];exact hr.act)) (by rw [act?_of hxp,hx.2]) (λj h1 h2=>by rw [act?_old h2];exact hn j (qa8 hT (Nat.le_of_lt h1))),(heard_old hrs).2 hr.heard,hxh⟩)
 have kn: ∀i k,act k->t.g? i=some k->t.counts i->HappensBefore (t++ #[x]) i t.size:=λi k hk hg hc=>by
  obtain ⟨r,hr,hT⟩:=eE k hk;exact ((I8 hr hg hc).app #[x]).hb (adN k hk r hr hT)
 have perm: ∀l,l.isMemory=true-> ¬cR l-> ¬Sh l->Perm (t++ #[x]) 0 l:=λl hm hb hs i b eU e=>by
  subst e;obtain ⟨h1,hi⟩:=old eU;rcases h.Mf i b h1 hm hs hb with q | ⟨k,q1,q2,q3⟩
  ·exact q.app _
  ·exact ⟨t.size,x,hxp,hx.1, .inr (kn i k q1 q2 ⟨b,h1,hm, .inl (by rw [q3];simp)⟩)⟩
 refine ⟨⟨λ_ _ _ _ _ q=>q.elim,λ_ q=>q.elim,λ_ q=>q.elim,λl hm _ hb _=>perm l hm (λq=>hb (.inl q)) λq=>hb (.inr q),λl hm _ hb _=>PermW.of (perm l hm (λq=>hb (.inl q)) λq=>hb (.inr q)),
  λi b hb hm _ hbd=> .inl (perm b.loc hm (λq=>hbd (.inl q)) (λq=>hbd (.inr q)) i b hb rfl),λsaid=> ?_,λi op hi=> ?_,λi b hb=>h.fresh i b (old hb).1⟩,λi k hk BV _ hc=> ?_⟩
 ·refine noRace_append (g:=0) (h.nr said) (λop cG=>by simp at cG;rw [cG];exact hx.1) λi b _ op cG c hc _=> ?_;simp at cG;subst cG;rw [nx] at hc;cases hc
 ·rcases getElem?_append_cases hi with ⟨_,fz⟩ | ⟨_,Xr⟩
  ·exact h.gs i op fz
  ·simp at Xr;subst Xr;rw [hx.1];exact qaa _
 ·obtain ⟨op,ho,cG⟩:=qbf.1 hk;rcases getElem?_append_cases ho with ⟨hi,GB⟩ | ⟨_,SV⟩
  ·have pH:t.g? i=some k:=by rw [←g?_old (u:= #[x]) hi];exact hk
   have RX:=(counts_old hi).1 hc;by_cases ha:act k
   ·exact ⟨t.size,by simp [Trace.g?, hx.1],kn i k ha pH RX⟩
   ·obtain ⟨j,h1,h2⟩:=hO i k pH BV ha RX;have hj:j<t.size:=by
     obtain ⟨z,hz,_⟩:=qbf.1 h1;exact lt_size_of_getElem? hz
    exact ⟨j,by rw [g?_old hj];exact h1,hb_app _ h2⟩
  ·simp at SV;subst SV;exact absurd (cG.symm.trans hx.1) BV
end
end Go.Cx
namespace Go.Cx
open Go Go.Conc
open Go.ConcN (sumTo sumTo_upd sumTo_congr le_sumTo)
structure Wq(W w:World):Prop where
 tape:W.tape=w.tape
 heap:W.heap=w.heap
 os:W.os=w.os
 output:W.output=w.output
theorem Wq.at{W w:World}(h:Wq W w)(d:Nat):Wq (W.at d) w:=⟨h.tape,h.heap,h.os,h.output⟩
theorem Wq.refl(w:World):Wq w w:=⟨rfl,rfl,rfl,rfl⟩
theorem Wq.symm{a b:World}(h:Wq a b):Wq b a:=⟨h.tape.symm,h.heap.symm,h.os.symm,h.output.symm⟩
abbrev no1:Loc->Prop:=λ_=>False
abbrev no0:Nat->Prop:=λ_=>False
abbrev no2:Nat->Nat->Prop:=λ_ _=>False
structure Qt(C:Program)(cR:Loc->Prop)(gs:Array Goroutine)(sz:Nat)(t:Trace)(q:Nat->Nat):Prop where
 wk: ∀k,1<=k->k<gs.size-> ∃g,gs[k]? =some g/\QuitsD C (q k) (Deaf t k) g
 ti:TI no1 cR no0 no0 no2 no2 sz (gs.size - 1) t
 ho:HO no0 t
 d0:Deaf t 0=0
 u9: ∀l b,cR l->ic l b->b<sz
def iJ(C:Program)(Φ:Machine->Trace->Prop)(m:Machine)(t:Trace):Prop:= ∃n m' t',runNT C n m t=(.next m',t')/\Φ m' t'
theorem iJ.here{C:Program}{Φ:Machine->Trace->Prop}{m:Machine}{t:Trace}(h:Φ m t):iJ C Φ m t:=⟨0,m,t,rfl,h⟩
theorem iJ.step{C:Program}{Φ:Machine->Trace->Prop}{m m1:Machine}{t:Trace}{ops:Array MemOp}(hs:stepT C m=(.next m1,ops))(h:iJ C Φ m1 (t++ops)):iJ C Φ m t:=by
 obtain ⟨n,m',t',h1,h2⟩:=h;exact ⟨n+1,m',t',by rw [runNT_succ_next hs];exact h1,h2⟩
def VG(C:Program)(Φ:Machine->Trace->Prop)(gs:Array Goroutine)(W:World)(sl:Option (Nat×Nat))(t:Trace):Prop:= ∃m1 ops,runT C (crowd gs W sl) 0=(.next m1,ops)/\iJ C Φ m1 (t++ops)
section
variable{C:Program}{cR:Loc->Prop}{gs:Array Goroutine}{W:World}{sl:Option (Nat×Nat)}{t:Trace}{q:Nat->Nat}{g:Goroutine}{sz:Nat}
theorem Qt.awake(h:Qt C cR gs sz t q)(h0:gs[0]? =some g)(hr:g.status= .running): ∀x∈gs,awake x:=by
 intro x hx;obtain ⟨i,hi⟩:=Array.mem_iff_getElem?.1 hx;cases i with
 | zero=>rw [h0] at hi;cases hi;exact awake_of (.inl hr)
 | succ i=>
  obtain ⟨y,hy,hq⟩:=h.wk (i+1) (by omega) (qa1.1 hi).1;rw [hi] at hy;cases hy;exact awake_of (hq.status.elim .inl λh=> .inr (.inr h))
theorem vx{e:Event}(h:e.mute=true):(MemAct.ofEvent e).touch? =none:=by
 obtain ⟨l,w,s⟩:=e;cases l with
 | mark m=>cases m <;> first | rfl | cases h
 | _=>cases h
theorem tH{t u:Trace}(h: ∀op∈u,op.act.touch? =none): ∀i,t.size<=i-> ¬(t++u).counts i:=by
 rintro i hi ⟨x,hx,_⟩;obtain ⟨op,ho,I7⟩:=touch_of hx;rcases getElem?_append_cases ho with ⟨fz,_⟩ | ⟨_,SV⟩
 ·omega
 ·rw [h op SV] at I7;cases I7
theorem SX:Apr no1 cR no0 no0 no2 no2:=⟨λ_ h=>h,λ_ _ _ h=>h.elim,λ_ _ _ h=>h.elim,λ_ _ h=>h.elim,λ_ _ h=>h.elim⟩
theorem bQ{k:Nat}{fn:FuncId}{pos:String}{es:Array Event}: ∀op∈MemOp.ofEvents k fn pos es,op.g=k:=by
 intro op cG;rw [ofEvents_eq] at cG;obtain ⟨e,_,rfl⟩:=Array.mem_map.1 cG
 rfl
theorem eY{k:Nat}{fn:FuncId}{pos:String}{es:Array Event}{op:MemOp}(h:op∈MemOp.ofEvents k fn pos es): ∃e∈es,op.act= .ofEvent e:=by
 rw [ofEvents_eq] at h;obtain ⟨e,he,rfl⟩:=Array.mem_map.1 h;exact ⟨e,he,rfl⟩
theorem Qt.leave(h:Qt C cR gs sz t q)(h0:gs[0]? =some g)(hr:g.status= .running){k:Nat}(hk:1<=k){y:Goroutine}(hy:gs[k]? =some y)(GC:y.status= .running):
  ∃qm ops q',runT C (crowd gs W sl) k=(.next (crowd qm W sl),ops)/\qm[0]? =some g/\qm.size=gs.size/\Qt C cR qm sz (t++ops) q'/\sumTo gs.size q'<sumTo gs.size q:=by
 have bs:=(qa1.1 hy).1;obtain ⟨y',Xt,hq⟩:=h.wk k hk bs;rw [hy] at Xt;cases Xt;obtain ⟨n,hn⟩: ∃n,q k=n+1:=by
  cases hqk:q k with
  | zero=>rw [hqk] at hq;rw [hq.1] at GC;cases GC
  | succ n=>exact ⟨n,rfl⟩
 rw [hn] at hq;rcases hq with ⟨hf,_⟩ | ⟨_,g',es,hm,er,VH⟩
 ·rw [hf] at GC;cases GC
 have jv:(k==0)=false:=by simp;omega
 have bH:=runT_crowd_go (P:=C) (sl:=sl) hy (by rw [jv];exact er W);have GA: ∀op∈MemOp.ofEvents k y.frame.fn y.frame.place es,op.act.touch? =none:=λop cG=>by
  obtain ⟨e,he,ha⟩:=eY cG;rw [ha];exact vx (hm e he)
 have lH:((gs.map (woken C y g' W)).setIfInBounds k g').size=gs.size:=by simp
 refine ⟨_,_,ConcN.upd q k n,bH, ?_,lH,⟨λj hj1 Xu=> ?_, ?_, ?_, ?_,h.u9⟩, ?_⟩
 ·rw [ConcN.get_map_set _ _ _ _ (by omega),h0,qab];unfold woken;split
  ·rw [again_running _ (.inl hr)]
  ·rfl
 ·rw [lH] at Xu;by_cases e:j=k
  ·subst e;refine ⟨g',ConcN.get_map_set_same _ _ _ bs, ?_⟩;rw [ConcN.upd_same,Deaf_own];exact VH
  ·obtain ⟨z,hz,wC⟩:=h.wk j hj1 Xu;refine ⟨z, ?_, ?_⟩
   ·rw [ConcN.get_map_set _ _ _ _ (λq=>e q.symm),hz,qab,woken_quitsD wC]
   ·rw [ConcN.upd_ne _ _ e,Deaf_other t (qbp e) _ bQ];exact wC
 ·rw [lH];exact h.ti.app bQ (by omega) id (qa3 _) (λ_ _ h=>h) (λ_ _ h=> .inl h) SX (λop cG x hx=>by rw [GA op cG] at hx;cases hx) λop cG x hx=>by rw [GA op cG] at hx;cases hx
 ·exact h.ho.app bQ (.inr (.inr (tH GA)))
 ·rw [Deaf_other t (by omega) _ bQ];exact h.d0
 ·have:sumTo gs.size (ConcN.upd q k n)+q k=sumTo gs.size q+n:=sumTo_upd q n (λx=>x) bs;rw [hn] at this;omega
theorem uo{Φ:Machine->Trace->Prop}{w:World}(hr:g.status= .running)
  (K: ∀gs W sl t q,gs[0]? =some g->Wq W w->Qt C cR gs sz t q->VG C Φ gs W sl t):
  ∀(r:Nat) (gs:Array Goroutine) (W:World) (sl:Option (Nat×Nat)) (t:Trace) (q:Nat->Nat),sumTo gs.size q=r->gs[0]? =some g->Wq W w->Qt C cR gs sz t q->iJ C Φ (crowd gs W sl) t:=by
 intro r
 induction r using Nat.strongRecOn with
 | _ r ih=>
  intro gs W sl t q OP h0 hw hq;obtain ⟨i,y,d,vV,hy,GC,hs⟩:=crowd_pick (P:=C) (w:=W) (sl:=sl) (hq.awake h0 hr) ⟨0,g,h0,hr⟩;cases i with
  | zero=>
   obtain ⟨m1,ops,h1,h2⟩:=K gs (W.at d) vV t q h0 (hw.at d) hq;exact iJ.step (hs.trans h1) h2
  | succ i=>
   obtain ⟨qm,ops,q',h1,h2,h3,h4,h5⟩:=hq.leave (W:=W.at d) (sl:=vV) h0 hr (k:=i+1) (by omega) hy GC;exact iJ.step (hs.trans h1) (ih _ (by rw [←OP];exact h5) qm (W.at d) vV (t++ops) q' (by rw [h3]) h2 (hw.at d) h4)
end
end Go.Cx
namespace Go.Cx
open Go Go.Conc
open Go.ConcN (sumTo)
variable[aV][aJ][aY]
structure Mn(L C:Program)(cR:Loc->Prop)(W0:World)(β:Bj)(fs VI:List Frame)(u W:World):Prop where
 sk:cF L C β fs VI
 wr:bZ β u W
 dw:Dw u
 bad: ∀a b l,β a b->ic l b-> ¬cR l
 tape:W.tape=W0.tape
 os:W.os=W0.os
 output:W.output=W0.output
 old: ∀a b,β a b->b<W0.heap.size->ga β u b
 keep: ∀b,b<W0.heap.size->W.heap[b]? =W0.heap[b]?
section
variable{L C:Program}{Xs:FuncId->Prop}{cR:Loc->Prop}{W0:World}{β:Bj}{Φ:Machine->Trace->Prop}
theorem bZ.heap{β:Bj}{w W w' W':World}(h:bZ β w W)(e:w'.heap=w.heap)(e':W'.heap=W.heap):bZ β w' W':=⟨λa b q=>by rw [e,e'];exact h.obj a b q,h.inj,h.fn⟩
omit [aV] [aJ] [aY] in
theorem Dw.heap{w w':World}(h:Dw w)(e:w'.heap=w.heap):Dw w':=λr ds q=>h r ds (by rw [←e];exact q)
omit [aV] [aJ] [aY] in
theorem ga.heap{β:Bj}{w w':World}{b:Nat}(h:ga β w b)(e:w'.heap=w.heap):ga β w' b:=let ⟨a,c,t,h1,h2,h3⟩:=h;⟨a,c,t,h1,h2,by rw [e];exact h3⟩
theorem Mn.heap{fs VI:List Frame}{u u' W W':World}(h:Mn L C cR W0 β fs VI u W)(e:u'.heap=u.heap)(e':Wq W' W):Mn L C cR W0 β fs VI u' W':=
 ⟨h.sk,h.wr.heap e e'.heap,h.dw.heap e,h.bad,e'.tape.trans h.tape,e'.os.trans h.os,e'.output.trans h.output,λa b q r=>(h.old a b q r).heap e,λb q=>by rw [e'.heap];exact h.keep b q⟩
theorem Mn.fs{fs VI gs qm:List Frame}{u W:World}(h:Mn L C cR W0 β fs VI u W)(k:cF L C β gs qm):Mn L C cR W0 β gs qm u W:=⟨k,h.wr,h.dw,h.bad,h.tape,h.os,h.output,h.old,h.keep⟩
theorem Mn.my{fs VI gs qm:List Frame}{u u1 W W1:World}{bR:Bj}{sz:Nat}(h:Mn L C cR W0 β fs VI u W)(hB: ∀l b,cR l->ic l b->b<W.heap.size)(hT:lM β bR u u1 W W1)(k:cF L C bR gs qm)(hw:bZ bR u1 W1)(hd:Dw u1):Mn L C cR W0 bR gs qm u1 W1:=by
 have lH:W0.heap.size<=W.heap.size:=by
  apply qa6;intro hn;have bs:W.heap.size<W0.heap.size:=Nat.lt_of_not_le hn;have h1:=h.keep _ bs;rw [qb7 (qa3 _),Array.getElem?_eq_getElem bs] at h1;cases h1
 refine ⟨k,hw,hd,λa b l q hl hbd=> ?_,hT.tape.trans h.tape,hT.os.trans h.os,hT.output.trans h.output,λa b q r=> ?_,λb q=> ?_⟩
 ·rcases hT.fresh a b q with q | ⟨_,q,_⟩
  ·exact h.bad a b l q hl hbd
  ·exact absurd (hB l b hbd hl) (qcg.2 q)
 ·rcases hT.fresh a b q with q | ⟨_,q,_⟩
  ·exact hT.CR b (h.old a b q r)
  ·omega
 ·rw [←h.keep b q];by_cases hb: ∃a,β a b
  ·obtain ⟨a,mw⟩:=hb;exact hT.lock b (h.old a b mw q)
  ·exact hT.stay b (by omega) λa mw=>hb ⟨a,mw⟩
def Co(L C:Program)(W0:World)(Φ:Machine->Trace->Prop)(a:Frame)(k:List Frame)(u:World):Prop:=
 ∀(gs:Array Goroutine) (W:World) (sl:Option (Nat×Nat)) (t:Trace) (q:Nat->Nat) (cR:Loc->Prop) (β:Bj) (b:Frame) (k':List Frame),
  gs[0]? =some (gb b k')->Qt C cR gs W.heap.size t q->Mn L C cR W0 β (a::k) (b::k') u W->iJ C Φ (crowd gs W sl) t
theorem KF{gs:Array Goroutine}{W U V W1:World}{sl:Option (Nat×Nat)}{t:Trace}{q:Nat->Nat}{g g1:Goroutine}{bR:Bj}{es:Array Event}(h0:gs[0]? =some g)(hq:Qt C cR gs W.heap.size t q)(Xh: ∀a b l,β a b->ic l b-> ¬cR l)
  (er:stepG C true g W= .go g1 W1 es) (hT:lM β bR U V W W1) (hw:bZ bR V W1) (sF: ∀e∈es,sT bR V e):
  ∃zH ops,runT C (crowd gs W sl) 0=(.next (crowd zH W1 sl),ops)/\zH[0]? =some g1/\Qt C cR zH W1.heap.size (t++ops) q:=by
 have bH:=runT_crowd_go (P:=C) (sl:=sl) (i:=0) h0 (by simpa using er);have bs:=(qa1.1 h0).1;have aav: ∀a b l,bR a b->ic l b-> ¬cR l:=λa b l hb hl hB=>by
  rcases hT.fresh a b hb with h | ⟨_,h,_⟩
  ·exact Xh a b l h hl hB
  ·exact absurd (hq.u9 l b hB hl) (qcg.2 h)
 have touch: ∀op∈MemOp.ofEvents 0 g.frame.fn g.frame.place es, ∀x,op.act.touch? =some x-> ∃a b,ic x.loc b/\bR a b:=by
  intro op cG x hx;obtain ⟨e,he,ha⟩:=eY cG;rw [ha] at hx;have key: ∀b,ic e.loc b->(∃a,bR a b)->e.sync=false-> ∃a b,ic x.loc b/\bR a b:=λb hl ⟨a,mw⟩ hs=>by
   refine ⟨a,b, ?_,mw⟩;have uL:x.loc=e.loc:=by
    obtain ⟨l,wr,sy⟩:=e;simp only at hs;subst hs;cases l <;> first | (cases hx;rfl) | (cases wr <;> (cases hx;rfl)) | exact False.elim hl
   rw [uL];exact hl
  rcases sF e he with ⟨hs,⟨ad,a,h1,h2,_⟩ | ⟨r,a,h1,h2,_⟩⟩ | h
  ·exact key ad.block (by rw [h1];rfl) ⟨a,h2⟩ hs
  ·exact key r (by rw [h1];rfl) ⟨a,h2⟩ hs
  ·subst h;cases hx
 have Xv: ∀e∈es,e.loc≠ .mark .disable/\e.loc≠ .mark .enable:=λe he=>by
  rcases sF e he with ⟨_,⟨ad,a,h1,_⟩ | ⟨r,a,h1,_⟩⟩ | h
  ·rw [h1];exact ⟨by simp,by simp⟩
  ·rw [h1];exact ⟨by simp,by simp⟩
  ·subst h;exact ⟨by simp,by simp⟩
 have lH:((gs.map (woken C g g1 W1)).setIfInBounds 0 g1).size=gs.size:=by simp
 refine ⟨_,_,bH,ConcN.get_map_set_same _ _ _ bs,⟨λk Il xM=> ?_, ?_, ?_, ?_,λl b hB hl=>qa2 (hq.u9 l b hB hl) hT.size⟩⟩
 ·rw [lH] at xM;obtain ⟨z,hz,wC⟩:=hq.wk k Il xM;refine ⟨z, ?_, ?_⟩
  ·rw [ConcN.get_map_set _ _ _ _ (by omega),hz,qab,woken_quitsD wC]
  ·rw [Deaf_other t (by omega) _ bQ];exact wC
 ·rw [lH];refine hq.ti.app bQ (qaa _) id hT.size (λ_ _ h=>h) (λ_ _ h=> .inl h) SX (λop cG x hx b hb=> ?_) λop cG x hx=> ?_
  ·obtain ⟨a,c,h1,h2⟩:=touch op cG x hx;have:=ic.inj h1 hb;subst this;exact hw.NA h2
  ·obtain ⟨a,c,h1,h2⟩:=touch op cG x hx;exact .inr (.inl ⟨id,aav a c _ h2 h1,rfl,λ_ h=>h.elim,λ_ _ h=>h.elim⟩)
 ·exact hq.ho.app bQ (.inl rfl)
 ·rw [Deaf_own,hq.d0];exact ConcN.deafBehind_idle Xv 0
def On(u W:World):World:={ W with heap:=u.heap }
theorem lS(HP:fW L C)(HF:PF L C Xs){a:Frame}{k:List Frame}{u:World}(hk:k≠[]\/a.mode= .run)
  (h: ∀U:World,U.heap=u.heap->U.os=W0.os->U.output=W0.output-> ∃a1 k1 U1 es,stepG L true (gb a (k++[cI])) U= .go (gb a1 (k1++[cI])) U1 es/\(∀ch,a1.mode≠ .panicking ch)/\ ¬Xs a1.fn/\Co L C W0 Φ a1 k1 U1):Co L C W0 Φ a k u:=by
 intro gs W sl t q cR β b k' h0 hq hM;have hr:(gb b k').status= .running:=rfl;refine uo (w:=W) (g:=gb b k') hr ?_ _ gs W sl t q rfl h0 (.refl W) hq;clear h0 hq;intro gs W2 sl t q h0 iK hq;rw [←iK.heap] at hq;have vy:=hM.heap (u':=On u W2) rfl iK;obtain ⟨a1,k1,V,es,e1,e2,e3,e4⟩:=h (On u W2) rfl vy.os vy.output;have hB: ¬Go.Cx.cR (gb a1 (k1++[cI])):=λ⟨ch,x⟩=>e2 ch x;have NC:([]:List Frame)≠[]\/k≠[]\/a.mode= .run\/a.defers≠[]:=hk.elim (λh=> .inr (.inl h)) λh=> .inr (.inr (.inl h));obtain ⟨bR,W1,wu,BW,c1,ho,c2,c3,c4⟩:=tE (m':=true) (t:=cI) (r:=[]) (bs':=[]) HP HF vy.sk NC vy.wr (λj x=>rfl) e1 hB;rw [qbw] at c1;have hD:=(wx HP HF vy.sk vy.wr e1 hB).2.2.1 vy.dw;obtain ⟨zH,ops,r1,r2,r3⟩:=KF (sl:=sl) h0 hq vy.bad c1 c3 c2 c4;refine ⟨_,_,r1, ?_⟩;cases ho with
 | back _ _ hb _=>cases hb
 | on er=>
  generalize C3:gb a1 (k1++[cI])=gg at er;cases er with
  | enter f hX hx Il=>
   simp only [Goroutine.mk.injEq] at C3;exact absurd hX (by have:=C3.1;subst this;exact e3)
  | @on x y kx ky uJ=>
   simp only [Goroutine.mk.injEq,List.append_cancel_right_eq] at C3;obtain ⟨rfl,rfl,_⟩:=C3;rw [qbw] at r2;exact e4 zH W1 sl (t++ops) q cR bR y ky r2 r3 (vy.my (sz:=0) hq.u9 c3 uJ c2 hD)
theorem KG{Q:Frame->World->Prop}(HP:fW L C)(HF:PF L C Xs)(hX: ∀f x k w,Xs f-> ¬xC L Q (Frame.enter L f x .normal) k w){cs:List Frame}
  (hQ: ∀a w,a.mode= .returning->a.defers=[]->a.roundOf=none->Q a w->Co L C W0 Φ a cs w) {a:Frame} {ks:List Frame} {w:World} (hW:xC L Q a ks w):
  ∀(gs:Array Goroutine) (W:World) (sl:Option (Nat×Nat)) (t:Trace) (q:Nat->Nat) (cR:Loc->Prop) (β:Bj) (b:Frame) (Z1 cs':List Frame),
  gs[0]? =some (gb b (Z1++cs'))->Qt C cR gs W.heap.size t q->(cs=[]/\cs'=[]\/cF L C β cs cs')->Mn L C cR W0 β (a::ks) (b::Z1) w W->iJ C Φ (crowd gs W sl) t:=by
 induction hW with
 | @done a w hm hd hq0=>
  intro gs W sl t q cR β b Z1 cs' h0 hq hb hM;obtain ⟨rfl,hr⟩:Z1=[]/\a.roundOf=none:=by
   have:=hM.sk;cases this with
   | one _ hr=>exact ⟨rfl,hr⟩
   | cons _ h=>cases h
  refine hQ a w hm hd hr hq0 gs W sl t q cR β b cs' h0 hq (hM.fs ?_);rcases hb with ⟨rfl,rfl⟩ | hb
  ·exact hM.sk
  ·have fl:=hM.sk;cases fl with
   | one hf _=>exact .cons hf hb
   | cons hf hk=>exact .cons hf hb
 | @step a k w h1 h2 ih=>
  intro gs W sl t q cR β b Z1 cs' h0 hq hb hM;refine uo (w:=W) (g:=gb b (Z1++cs')) rfl ?_ _ gs W sl t q rfl h0 (.refl W) hq;clear h0 hq;intro gs W2 sl t q h0 iK hq;rw [←iK.heap] at hq;have vy:=hM.heap (u':=w) rfl iK;obtain ⟨bR,a1,k1,V,W1,wu,es,τ,e1,e2,e3,_,_,e4,e5,e6,⟨te,e7⟩,e8⟩:=Gt (m:=true) (bs':=cs') HP HF vy.sk vy.wr h1 h2 .nil;obtain ⟨zH,ops,r1,r2,r3⟩:=KF (sl:=sl) h0 hq vy.bad e1 e4 e3 e5;refine ⟨_,_,r1, ?_⟩;cases e2 with
  | enter f NF _ _ ha _=>exact (hX f _ _ _ NF (ha▸h2 _ _ _ _ _ e6 e7)).elim
  | @on b1 RZ uJ hg=>
   subst hg;refine ih _ _ _ _ _ e6 e7 zH W1 sl (t++ops) q cR bR b1 RZ cs' r2 r3 ?_ ((vy.heap (u':=TW w τ) rfl (.refl W2)).my (sz:=0) hq.u9 e4 uJ e3 (e8 vy.dw));rcases hb with hb | hb
   ·exact .inl hb
   ·exact .inr (hb.mono e4.le)
theorem SY(HP:fW L C)(HF:PF L C Xs){a c:Frame}{cs:List Frame}{w:World}{v:Value}(hra:a.roundOf=none)(hE:Ends L a w v)(hco:Co L C W0 Φ (c.finish v) cs w):Co L C W0 Φ a (c::cs) w:=by
 intro gs W sl t q cR β b k' h0 hq hM;obtain ⟨c',cs',rfl⟩: ∃c' cs',k'=c'::cs':=by
  have:=hM.sk;cases this with
  | cons _ h=>cases h with
   | one _ _=>exact ⟨_,_,rfl⟩
   | cons _ _=>exact ⟨_,_,rfl⟩
 refine uo (w:=W) (g:=gb b (c'::cs')) rfl ?_ _ gs W sl t q rfl h0 (.refl W) hq;clear h0 hq;intro gs W2 sl t q h0 iK hq;rw [←iK.heap] at hq;have vy:=hM.heap (u':=w) rfl iK;have fl:=vy.sk;have hr:a.roundOf=none/\cF L C β (c::cs) (c'::cs')/\iU L C β a b:=by
  cases fl with
  | cons hf hk=>exact ⟨hra,hk,hf⟩
 obtain ⟨_,bR,v',W1,es,τ,e1,e2,e3,e4,e5⟩:=Gu (m:=true) (t':=c') (r':=cs') HP HF (.one hr.2.2 hr.1) vy.wr hE;obtain ⟨zH,ops,r1,r2,r3⟩:=KF (sl:=sl) h0 hq vy.bad (by simpa using e1) e4 (e3.heap (w':=TW w τ) rfl rfl) e5;refine ⟨_,_,r1,hco zH W1 sl (t++ops) q cR bR _ _ r2 r3 ?_⟩;have Ah:=hr.2.1.mono e4.le;exact ((vy.heap (u':=TW w τ) rfl (.refl W2)).my (sz:=0) hq.u9 e4 (Ah.swap (Ah.top.finish e2) (j8 _ _)) (e3.heap rfl rfl) (vy.dw.heap rfl)).heap rfl (.refl W1)
end
end Go.Cx
namespace Go.Cx
open Go Go.Conc
section
variable[aV]
theorem IM.imp{L C C':Program}(h: ∀t,C.eqGuardType C.depth t=false->C'.eqGuardType C'.depth t=false){o:Op}(k:IM L C o):IM L C' o:=by
 cases o <;> try exact k
 case makeFunc fn xs ys=>cases fn <;> exact k
 case binOp op t x y u=>exact ⟨k.1,k.2.1,λq=>⟨(k.2.2 q).1,(k.2.2 q).2.1,h t (k.2.2 q).2.2⟩⟩
theorem cB.imp{L C C':Program}(h: ∀t,C.eqGuardType C.depth t=false->C'.eqGuardType C'.depth t=false){c:Code}(k:cB L C c):cB L C' c:=by
 induction k with
 | skip=>exact .skip
 | region id dr ho=>exact .region id dr λo q=>(ho o q).imp h
 | seq _ _ i1 i2=>exact .seq i1 i2
 | cond hc _ _ i1 i2=>exact .cond hc i1 i2
 | block id _ i=>exact .block id i
 | loop _ i=>exact .loop i
 | rangeFunc ps hf _ _ i1 i2=>exact .rangeFunc ps hf i1 i2
 | exit id=>exact .exit id
 | label l=>exact .label l
 | ret=>exact .ret
end
variable[aV][aJ][aY]
section
variable{L C:Program}{β:Bj}
omit [aJ] [aY] in
theorem pP.self(h: ∀t,C.eqGuardType C.depth t=false->L.eqGuardType L.depth t=false){a b:Item}(k:pP L C β a b):pP L L β a b:=by
 cases k with
 | code k=>exact .code (k.imp h)
 | inBlock id=>exact .inBlock id
 | inLoop k=>exact .inLoop (k.imp h)
 | inRegion t k=>exact .inRegion t λo q=>(k o q).imp h
 | lP k=>exact .lP k
 | kN k=>exact .kN k
 | beginRound=>exact .beginRound
omit [aJ] [aY] in
theorem oE.self(h: ∀t,C.eqGuardType C.depth t=false->L.eqGuardType L.depth t=false){a b:List Item}(k:oE L C β a b):oE L L β a b:=by
 induction k with
 | nil=>exact .nil
 | cons k _ ih=>exact .cons (k.self h) ih
omit [aJ] in
theorem iU.self(h: ∀t,C.eqGuardType C.depth t=false->L.eqGuardType L.depth t=false){a b:Frame}(k:iU L C β a b):iU L L β a b:=
 ⟨k.fn,k.tmps,k.todo.self h,k.defers,k.mode,k.kind,k.round,λq=>let ⟨fn,h1,_⟩:=k.xL q;⟨fn,h1,h1⟩⟩
omit [aJ] in
theorem cF.self(h: ∀t,C.eqGuardType C.depth t=false->L.eqGuardType L.depth t=false){a b:List Frame}(k:cF L C β a b):cF L L β a b:=by
 induction k with
 | one k hr=>exact .one (k.self h) hr
 | cons k _ ih=>exact .cons (k.self h) ih
end
section
variable{L C:Program}{Xs:FuncId->Prop}{W0:World}{Φ:Machine->Trace->Prop}{R:Value->World->Prop}
theorem Eo(HP:fW L L)(HF:PF L L (λ_=>False)){f:FuncId}{x:Array Value}{w:World}(hR: ∀v w τ,R v (TW w τ)->R v w)
  (H: ∀τ,Ag w.drawn τ w.tape->Calls L f x (TW w τ) fun | .returned v,w'=>R v w' | _,_=>False) (hI:Inv L (Frame.enter L f x .normal) [] w):xC L (Left L R) (Frame.enter L f x .normal) [] w:=by
 refine tree HP HF ?_ hI λτ nW=> ?_
 ·rintro a w τ ⟨v,h1,h2⟩;exact ⟨v,h1.tw,hR v w τ h2⟩
 ·obtain ⟨e,w',fr,h1,h2,h3,h4⟩:=H τ nW [cI];cases e with
  | returned v=>
   obtain ⟨n,hn⟩:=(show Steps L _ _ from h2);exact ⟨n,fr,w',v,hn,h4,v,Ends.of h4,h1⟩
  | _=>exact h1.elim
theorem zI(HP:fW L C)(HF:PF L C Xs)(HPs:fW L L)(HFs:PF L L λ_=>False)(he: ∀t,C.eqGuardType C.depth t=false->L.eqGuardType L.depth t=false)
  (hX: ∀f x k w,Xs f-> ¬xC L (Left L R) (Frame.enter L f x .normal) k w) (hR: ∀v w τ,R v (TW w τ)->R v w)
  {f:FuncId} {x:Array Value} {c:Frame} {cs:List Frame} {u:World} (H: ∀U:World,U.heap=u.heap->U.os=W0.os->U.output=W0.output->Calls L f x U fun | .returned v,w'=>R v w' | _,_=>False) (K: ∀v w',R v w'->Co L C W0 Φ (c.finish v) cs w'):
  Co L C W0 Φ (Frame.enter L f x .normal) (c::cs) u:=by
 intro gs W sl t q cR β b k' h0 hq hM;have fl:=hM.sk;cases fl with
 | @cons _ _ _ _ hf hk=>
  have uJ:cF L C β [Frame.enter L f x .normal] [b]:= .one hf rfl;have hW:xC L (Left L R) (Frame.enter L f x .normal) [] (On u W):=Eo HPs HFs hR (λτ _=>H (TW (On u W) τ) rfl hM.os hM.output) ⟨β,_,[],W,uJ.self he,hM.wr.heap rfl rfl,hM.dw.heap rfl⟩;exact KG (cs:=c::cs) HP HF hX (λa w' _ _ hr ⟨v,h1,h2⟩=>SY HP HF hr h1 (K v w' h2)) hW gs W sl t q cR β b [] _ h0 hq (.inr hk) ((hM.heap (u':=On u W) rfl (.refl W)).fs uJ)
end
end Go.Cx
namespace Go.Vc
open Go Go.Proofs Go.Vs
open Go.Conc (G base stepG_skip stepG_seq stepG_cond stepG_block stepG_inBlock stepG_loop stepG_inLoop stepG_exit stepG_region stepG_region_end stepG_end stepG_oper stepG_value stepG_none stepG_enter stepG_unwanted stepG_ret' enter_at)
open Go.Cx (aV aJ aY fW PF lS zI xC cI gb Left TW)
structure BY [aV][aJ][aY] where
 L:Program
 C:Program
 Xs:FuncId->Prop
 W0:World
 Φ:Machine->Trace->Prop
 HP:fW L C
 HF:PF L C Xs
 HPs:fW L L
 HFs:PF L L λ_=>False
 he: ∀t,C.eqGuardType C.depth t=false->L.eqGuardType L.depth t=false
 hX: ∀Q f x k w,Xs f-> ¬xC L Q (Frame.enter L f x .normal) k w
 hC: ∀(f:FuncId) (x:Array Value) (w:World) (R:Value->World->Prop),Xs f-> ¬Calls L f x w fun | .returned v,w'=>R v w' | _,_=>False
section
variable[aV][aJ][aY]
abbrev BY.o(K:BY):Os:=K.W0.os
abbrev BY.out(K:BY):Array (Nat×ByteArray):=K.W0.output
abbrev BY.Co(K:BY)(a:Frame)(k:List Frame)(w:World):Prop:=Go.Cx.Co K.L K.C K.W0 K.Φ a k w
variable{K:BY}{f:FuncId}{b:Frame}{a a':Act}{t t' k:List Item}{cs:List Frame}{w w':World}{Q:Exit->Act->World->Prop}
theorem rK{a:Frame}{k:List Frame}(h:K.Co a k w)(e:w'.heap=w.heap):K.Co a k w':=λgs W sl t q cR β b k' h0 hq hM=>h gs W sl t q cR β b k' h0 hq (hM.heap e.symm (.refl W))
theorem co_go(hx: ¬K.Xs b.fn)(h: ∀W:World,W.heap=w.heap->W.os=K.o->W.output=K.out-> ∃W1 es,stepG K.L true (G (b.at a t) (cs++[cI])) W= .go (G (b.at a' t') (cs++[cI])) W1 es/\K.Co (b.at a' t') cs W1):K.Co (b.at a t) cs w:=
 lS K.HP K.HF (.inr rfl) λW h1 h2 h3=>let ⟨W1,es,e1,e2⟩:=h W h1 h2 h3;⟨_,cs,W1,es,e1,nofun,hx,e2⟩
theorem lT(hx: ¬K.Xs b.fn)(h: ∀W:World, ∃es,stepG K.L true (G (b.at a t) (cs++[cI])) W= .go (G (b.at a' t') (cs++[cI])) W es)(k:K.Co (b.at a' t') cs w):K.Co (b.at a t) cs w:=
 co_go hx λW h1 _ _=>let ⟨es,e⟩:=h W;⟨W,es,e,rK k h1⟩
def Arr(K:BY)(b:Frame)(k:List Item)(cs:List Frame):Exit->Act->World->Prop
 | .normal,a,w=>K.Co (b.at a k) cs w
 | .exit id,a,w=> ∃k',exitTo id k=some k'/\K.Co (b.at a k') cs w
 | .ret,a,w=> ∀todo,K.Co { b.at a todo with mode:= .returning } cs w
 | _,_,_=>False
def wpC(K:BY)(f:FuncId)(c:Code)(Q:Exit->Act->World->Prop)(a:Act)(w:World):Prop:=
 ∀(b:Frame) (k:List Item) (cs:List Frame),(b.kind= .normal/\b.fn=f)-> ¬K.Xs b.fn->(∀e a' w',Q e a' w'->Arr K b k cs e a' w')->K.Co (b.at a (.code c::k)) cs w
def sU(K:BY)(f:FuncId)(ops:Array Oper)(Q:Exit->Act->World->Prop)(l:List Oper)(a:Act)(w:World):Prop:=
 ∀(b:Frame) (k:List Item) (cs:List Frame) (i:Nat),(b.kind= .normal/\b.fn=f)-> ¬K.Xs b.fn->(∀j,l[j]? =ops[i+j]?)->(∀e a' w',Q e a' w'->Arr K b k cs e a' w')->K.Co (b.at a (.inRegion ops (List.range' i l.length)::k)) cs w
theorem cj{c:Code}(J:Exit->Act->World->Prop)(h:wpC K f c J a w)(q: ∀e a w,J e a w->Q e a w):wpC K f c Q a w:=λb k cs h1 h2 h3=>h b k cs h1 h2 λe a' w' hj=>h3 e a' w' (q e a' w' hj)
theorem fH(h:Q .normal a w):wpC K f .skip Q a w:=λb k cs _ h2 h3=>lT h2 (λW=>⟨_,stepG_skip⟩) (h3 _ _ _ h)
theorem OQ(h:Q .ret a w):wpC K f .ret Q a w:=λb k cs _ h2 h3=>by
 refine lS K.HP K.HF (.inr rfl) λW h1 _ _=>⟨_,cs,W,_,stepG_ret',nofun,h2,rK (h3 _ _ _ h (.code .ret::k)) h1⟩
theorem cY{i:Nat}(h:Q (.exit i) a w):wpC K f (.exit i) Q a w:=λb k cs _ h2 h3=>by
 obtain ⟨k',e1,e2⟩:=h3 _ _ _ h;exact lT h2 (λW=>⟨_,stepG_exit e1⟩) e2
theorem cV{x y:Code}(h:wpC K f x (Exit.then (wpC K f y Q) Q) a w):wpC K f (.seq x y) Q a w:=λb k cs h1 h2 h3=>by
 refine lT h2 (λW=>⟨_,stepG_seq⟩) (h b _ cs h1 h2 λe a' w' he=> ?_);cases e with
 | normal=>exact he b k cs h1 h2 h3
 | exit id=>obtain ⟨k',e1,e2⟩:=h3 _ _ _ he;exact ⟨k',by simpa [exitTo] using e1,e2⟩
 | ret=>exact h3 _ _ _ he
 | goto l=>exact (h3 _ _ _ he:False).elim
 | panic c=>exact (h3 _ _ _ he:False).elim
 | outgrown=>exact (h3 _ _ _ he:False).elim
theorem bE{id:Nat}{c:Code}(h:wpC K f c (Exit.inBlock id Q) a w):wpC K f (.block id c) Q a w:=λb k cs h1 h2 h3=>by
 refine lT h2 (λW=>⟨_,stepG_block⟩) (h b _ cs h1 h2 λe a' w' he=> ?_);cases e with
 | normal=>exact lT h2 (λW=>⟨_,stepG_inBlock⟩) (h3 .normal _ _ he)
 | exit i=>
  by_cases hi:i=id
  ·subst hi;have:Q .normal a' w':=by simpa [Exit.inBlock] using he
   exact ⟨k,by simp [exitTo],h3 _ _ _ this⟩
  ·have:Q (.exit i) a' w':=by simpa [Exit.inBlock,hi] using he
   obtain ⟨k',e1,e2⟩:=h3 _ _ _ this;exact ⟨k',by simpa [exitTo,hi,qbp hi] using e1,e2⟩
 | ret=>exact h3 .ret _ _ he
 | goto l=>exact (h3 (.goto l) _ _ he:False).elim
 | panic c=>exact (h3 (.panic c) _ _ he:False).elim
 | outgrown=>exact (h3 .outgrown _ _ he:False).elim
theorem bN{S R:Type}{c:Code}(g:S->Option (S⊕R)){s0:S}{r:R}(hr:bT g s0=some r)(J:S->Act->World->Prop)(h0:J s0 a w)
  (round: ∀s a w o,J s a w->g s=some o->(∀t,o= .inr t->t=r)->wpC K f c (Exit.then (λa' w'=> ∃s',o= .inl s'/\J s' a' w') Q) a w):wpC K f (.loop c) Q a w:=by
 intro b k cs h1 h2 h3;obtain ⟨n,hn⟩:=oG hr;refine lT h2 (λW=>⟨_,stepG_loop⟩) ?_;clear hr
 induction n generalizing s0 a w with
 | zero=>cases hn
 | succ n ih=>
  obtain ⟨o,ho,hk⟩:=bind_some hn;refine round s0 a w o h0 ho (by rintro t rfl;exact qaf hk) b _ cs h1 h2 λe a' w' he=> ?_;cases e with
  | normal=>
   obtain ⟨s',rfl,hJ⟩:=he;exact lT h2 (λW=>⟨_,stepG_inLoop⟩) (ih hJ hk)
  | exit id=>obtain ⟨k',e1,e2⟩:=h3 _ _ _ he;exact ⟨k',by simpa [exitTo] using e1,e2⟩
  | ret=>exact h3 _ _ _ he
  | goto l=>exact (h3 _ _ _ he:False).elim
  | panic c=>exact (h3 _ _ _ he:False).elim
  | outgrown=>exact (h3 _ _ _ he:False).elim
section
variable{n:Nat}{ρ:Nat->Value}
theorem uq{c:Operand}{x y:Code}(u:Bool)(hc:ev n ρ c= .bool u)(ht:u=true->wpC K f x Q (fr n ρ) w)(hf:u=false->wpC K f y Q (fr n ρ) w):wpC K f (.cond c x y) Q (fr n ρ) w:=λb k cs h1 h2 h3=>by
 refine lT (a':=fr n ρ) (t':= .code (if u then x else y)::k) h2 (λW=>⟨_,stepG_cond (by rw [aO];exact hc)⟩) ?_;cases u with
 | true=>exact ht rfl b k cs h1 h2 h3
 | false=>exact hf rfl b k cs h1 h2 h3
theorem rg{id:Nat}{l:List Oper}(h:sU K f l.toArray Q l (fr n ρ) w):wpC K f (.region id l.toArray false) Q (fr n ρ) w:=λb k cs h1 h2 h3=>by
 refine lT h2 (λW=>⟨_,stepG_region⟩) ?_;have:=h b k cs 0 h1 h2 (by simp) h3;rw [List.range_eq_range',qbj];exact this
theorem bA{ops:Array Oper}(h:Q .normal a w):sU K f ops Q [] a w:=λb k cs i h1 h2 _ h3=>lT h2 (λW=>⟨_,stepG_region_end⟩) (h3 _ _ _ h)
variable{ops:Array Oper}{d:Nat}{v:Value}{rest:List Oper}{op:Op}{ty:TypeId}{pos:String}{af:Array Edge}{gd:Option (Nat×Bool)}
omit [aV] [aJ] [aY] in
theorem VJ{o:Oper}{i:Nat}(h: ∀j,(o::rest)[j]? =ops[i+j]?):ops[i]? =some o:=by simpa using (h 0).symm
omit [aV] [aJ] [aY] in
theorem at1{o:Oper}{i:Nat}(h: ∀j,(o::rest)[j]? =ops[i+j]?): ∀j,rest[j]? =ops[(i+1)+j]? :=λj=>by have:=h (j+1);simpa [Nat.add_assoc,Nat.add_comm 1 j] using this
theorem As(hw:Region.wanted ⟨some d,op,ty,pos,af,gd⟩ (yv ops n ρ)=true)(hr:ei K.L w.heap n ρ ⟨some d,op,ty,pos,af,gd⟩ v)(h:sU K f ops Q rest (fr n (upd ρ d v)) w):
  sU K f ops Q (⟨some d,op,ty,pos,af,gd⟩::rest) (fr n ρ) w:=λb k cs i h1 h2 hl h3=>by
 rw [qbb,List.range'_succ];refine co_go (a':=fr n (upd ρ d v)) (t':= .inRegion ops (List.range' (i+1) rest.length)::k) h2 λW e1 _ _=> ?_;have hs:=stepG_value (P:=K.L) (main:=true) (b:=b) (k:=k) (cs:=cs++[cI]) (rest:=List.range' (i+1) rest.length) (VJ hl) (a:=fr n ρ) (by rw [dY];exact hw) (by rw [h1.1];simp) (by rw [aO];exact hr W e1);rw [cQ] at hs;exact ⟨W,_,hs,rK (h b k cs (i+1) h1 h2 (at1 hl) h3) e1⟩
theorem st(hr:ei K.L w.heap n ρ ⟨some d,op,ty,pos,af,none⟩ v)(k:sU K f ops Q rest (fr n (upd ρ d v)) w):sU K f ops Q (⟨some d,op,ty,pos,af,none⟩::rest) (fr n ρ) w:=As rfl hr k
theorem cm{j:Nat}{u:Bool}(hy:yv ops n ρ j=some u)(hr:ei K.L w.heap n ρ ⟨some d,op,ty,pos,af,some (j,u)⟩ v)(k:sU K f ops Q rest (fr n (upd ρ d v)) w):sU K f ops Q (⟨some d,op,ty,pos,af,some (j,u)⟩::rest) (fr n ρ) w:=
 As (aS rfl hy) hr k
theorem aaw{o:Oper}(hw:Region.wanted o (yv ops n ρ)=false)(h:sU K f ops Q rest ((fr n ρ).put o.dst undef) w):sU K f ops Q (o::rest) (fr n ρ) w:=λb k cs i h1 h2 hl h3=>by
 rw [qbb,List.range'_succ];exact lT h2 (λW=>⟨_,stepG_unwanted (VJ hl) (by rw [dY];exact hw)⟩) (h b k cs (i+1) h1 h2 (at1 hl) h3)
theorem ak{j:Nat}{u:Bool}(hy:yv ops n ρ j=some (!u))(k:sU K f ops Q rest (fr n (upd ρ d undef)) w):sU K f ops Q (⟨some d,op,ty,pos,af,some (j,u)⟩::rest) (fr n ρ) w:=aaw (ur rfl hy) (by rw [cQ];exact k)
end
end
end Go.Vc
namespace Go.Vc
open Go Go.Proofs Go.Vs
open Go.Conc (G base stepG_skip stepG_seq stepG_cond stepG_block stepG_inBlock stepG_loop stepG_inLoop stepG_exit stepG_region stepG_region_end stepG_end stepG_oper stepG_value stepG_none stepG_enter stepG_unwanted stepG_ret' enter_at)
open Go.Cx (aV aJ aY fW PF lS zI xC cI gb Left TW)
section
variable[aV][aJ][aY]
variable{K:BY}{f0:FuncId}{aq σ:St}{S0:BS}{A B R Ln L':List Ch}{n:Nat}{ρ:Nat->Value}{Rz:Value->St->Prop}{Q:Exit->Act->World->Prop}{w:World}
variable{ops:Array Oper}{d:Nat}{v:Value}{rest:List Oper}{op:Op}{ty:TypeId}{pos:String}{af:Array Edge}{gd:Option (Nat×Bool)}{dst:Option Nat}
def Lo(K:BY)(σ:St):Prop:=σ.dI/\σ.w.os=K.o/\σ.w.output=K.out
theorem Lo.on(h:Lo K aq)(H:Hp S0 aq σ L'):Lo K σ:=⟨by rw [H.md.dI];exact h.1,H.md.os.trans h.2.1,H.md.output.trans h.2.2⟩
def St.at(σ:St)(W:World)(h:W.heap=σ.w.heap):St:=⟨W,σ.fC,λb hb=>σ.ok b (by rw [←h];exact hb),σ.dI⟩
theorem aax(h:Lo K σ){W:World}(e:W.heap=σ.w.heap)(e1:W.os=K.o)(e2:W.output=K.out):Md (λ_=>False) σ (St.at σ W e):=
 ⟨e1.trans h.2.1.symm, .inl h.1,e2.trans h.2.2.symm, .inl h.1,rfl,⟨qay (by simp only [St.size,St.at,e]),λb _=>by simp only [St.at,e],λb=>qa3 _⟩,λb _ _=>by simp only [St.at,e],λ_ _ _=>rfl⟩
theorem Lo.to(h:Lo K aq)(H:Hp S0 aq σ L'){W:World}(e:W.heap=σ.w.heap)(e1:W.os=K.o)(e2:W.output=K.out):Hp S0 aq (St.at σ W e) L':=H.grow (aax (h.on H) e e1 e2)
def Cxc(K:BY)(σ:St)(n:Nat)(ρ:Nat->Value)(o:Oper)(Rz:Value->St->Prop):Prop:=
 ∃f args,(∀W:World,W.heap=σ.w.heap->W.os=K.o->W.output=K.out->Enters K.L n ρ o f args W/\Calls K.L f args.toArray W λe w'=> ∃v σ',e= .returned v/\w'=σ'.w/\Rz v σ')/\
  (∀v σ' τ (w:World),σ'.w=TW w τ->Rz v σ'-> ∃jH,w=jH.w/\Rz v jH)
theorem GD(hL:Lo K aq){v:Value}{σ':St}{τ:Tape}{w:World}(e:σ'.w=TW w τ)(H:Hp S0 aq σ' L'): ∃jH:St,w=jH.w/\jH.size=σ'.size/\Hp S0 aq jH L':=by
 have h1:w.heap=σ'.w.heap:=by rw [e]
 have h2:w.os=σ'.w.os:=by rw [e]
 have h3:w.output=σ'.w.output:=by rw [e]
 have hl:=hL.on H;exact ⟨St.at σ' w h1,rfl,by simp only [St.size,St.at,h1],hL.to H h1 (h2.trans hl.2.1) (h3.trans hl.2.2)⟩
theorem bk{f:FuncId}{args:List Value}{post:Nat->Value->List Ch->Prop}{o:Oper}(hL:Lo K aq)(hc:bL K.L f args A post)(he: ∀w,Enters K.L n ρ o f args w){m:Nat}(hm:m<=aq.size)(H:Hp S0 aq σ (A++R)):
  Cxc K σ n ρ o λv σ'=> ∃L',post m v L'/\Hp S0 aq σ' (L'++R)/\True:=by
 refine ⟨f,args,λW e e1 e2=>⟨he W, ?_⟩, ?_⟩
 ·have H1:=hL.to H e e1 e2;refine (hc.frame H1 (qa8 hm H1.size)).mono ?_;rintro _ w' ⟨v,σ',L',rfl,rfl,hp,H',_⟩;exact ⟨v,σ',rfl,rfl,L',hp,H',trivial⟩
 ·rintro v σ' τ w e ⟨L',hp,H',_⟩;obtain ⟨jH,h1,_,h2⟩:=GD (v:=v) hL e H';exact ⟨jH,h1,L',hp,h2,trivial⟩
theorem nX{f:FuncId}{args:List Value}{post:Nat->Value->List Ch->Prop}{o:Oper}(hL:Lo K aq)(hl:eF Ln A B)(hc:bL K.L f args B post)(he: ∀w,Enters K.L n ρ o f args w)(H:Hp S0 aq σ (Ln++(A++R)))(mw: ∀m v L',post m v L'->wD m L'):
  Cxc K σ n ρ o λv σ'=> ∃L',post σ.size v L'/\Hp S0 aq σ' (L'++(Ln++R))/\True/\aq.size<=σ.size:=by
 refine ⟨f,args,λW e e1 e2=>⟨he W, ?_⟩, ?_⟩
 ·have H1:=hL.to H e e1 e2;refine (hc.rL hl H1 mw).mono ?_;rintro _ w' ⟨v,σ',L',rfl,rfl,hp,H',_⟩;have hs:(St.at σ W e).size=σ.size:=by simp only [St.size,St.at,e]
  rw [hs] at hp;exact ⟨v,σ',rfl,rfl,L',hp,H',trivial,H.size⟩
 ·rintro v σ' τ w e ⟨L',hp,H',_,h3⟩;obtain ⟨jH,h1,_,h2⟩:=GD (v:=v) hL e H';exact ⟨jH,h1,L',hp,h2,trivial,h3⟩
theorem bP(hc:Cxc K σ n ρ ⟨some d,op,ty,pos,af,gd⟩ Rz)(hw:Region.wanted ⟨some d,op,ty,pos,af,gd⟩ (yv ops n ρ)=true)
  (k: ∀v (σ':St),Rz v σ'->sU K f0 ops Q rest (fr n (upd ρ d v)) σ'.w):sU K f0 ops Q (⟨some d,op,ty,pos,af,gd⟩::rest) (fr n ρ) σ.w:=by
 obtain ⟨f,args,hc,hR⟩:=hc;intro b kk cs i h1 h2 hl h3;rw [qbb,List.range'_succ];refine lS K.HP K.HF (.inr rfl) λW e e1 e2=> ?_;obtain ⟨he,hC⟩:=hc W e e1 e2;have hC': ∀W:World,W.heap=σ.w.heap->W.os=K.o->W.output=K.out->Calls K.L f args.toArray W fun | .returned v,w'=> ∃σ',w'=σ'.w/\Rz v σ' | _,_=>False:=λW e e1 e2=>by
  refine (hc W e e1 e2).2.mono ?_;rintro _ w' ⟨v,σ',rfl,rfl,h⟩;exact ⟨σ',rfl,h⟩
 have hs:=stepG_enter (P:=K.L) (main:=true) (b:=b) (k:=kk) (cs:=cs++[cI]) (rest:=List.range' (i+1) rest.length) (VJ hl) (a:=fr n ρ) (by rw [dY];exact hw) (by rw [h1.1];simp) (by rw [aO];exact he);refine ⟨_,_::cs,W,_,hs,nofun,λhx=>K.hC f _ W (λv w'=> ∃σ',w'=σ'.w/\Rz v σ') hx (hC' W e e1 e2), ?_⟩;refine zI (R:=λv w'=> ∃σ',w'=σ'.w/\Rz v σ') K.HP K.HF K.HPs K.HFs K.he (K.hX _) (λv w τ ⟨σ',q1,q2⟩=>hR v σ' τ w q1.symm q2) (λW' q q1 q2=>hC' W' (q.trans e) q1 q2) λv w' ⟨σ',q1,q2⟩=> ?_;subst q1;rw [Frame.finish_at,VJ hl];have:=k v σ' q2 b kk cs (i+1) h1 h2 (at1 hl) h3;rw [←cQ] at this;exact this
structure GF(K:BY)(f:FuncId)(args:List Value)(pre:List Ch)(K0:World->Prop)(post:Nat->Value->List Ch->Prop):Prop where
 fn: ∃fn c,K.L.funcs[f]? =some fn/\(fn.name== "runtime.NumGoroutine")=false/\fn.body=some c
 co: ∀(σ:St) (m:Nat),m<=σ.size->Lo K σ->Hp (dv pre) σ σ pre->K0 σ.w-> ∀(a:Frame) (cs:List Frame),a.mode= .run-> ¬K.Xs a.fn->
  (∀W:World,W.heap=σ.w.heap->W.os=K.o->W.output=K.out-> ∃es,stepG K.L true (gb a (cs++[cI])) W= .go (gb (Frame.enter K.L f args.toArray .normal) (a::(cs++[cI]))) W es)->
  (∀v σ' L',post m v L'->Hp (dv pre) σ σ' L'->K.Co (a.finish v) cs σ'.w)->K.Co a cs σ.w
theorem GG{f:FuncId}{args:List Value}{o:Oper}{W:World}{b:Frame}{k:List Item}{cs:List Frame}{i:Nat}{OR:List Nat}(he:Enters K.L n ρ o f args W)(ho:ops[i]? =some o)(hw:Region.wanted o (yv ops n ρ)=true)(h1:b.kind= .normal/\b.fn=f0):
  ∃es,stepG K.L true (gb (b.at (fr n ρ) (.inRegion ops (i::OR)::k)) cs) W= .go (gb (Frame.enter K.L f args.toArray .normal) (b.at (fr n ρ) (.inRegion ops (i::OR)::k)::cs)) W es:=
 ⟨_,stepG_enter (P:=K.L) (main:=true) (b:=b) (k:=k) (cs:=cs) (rest:=OR) ho (a:=fr n ρ) (by rw [dY];exact hw) (by rw [h1.1];simp) (by rw [aO];exact he)⟩
theorem OS{f:FuncId}{args:List Value}{K0:World->Prop}{post:Nat->Value->List Ch->Prop}(hc:GF K f args A K0 post)(he: ∀w,Enters K.L n ρ ⟨some d,op,ty,pos,af,gd⟩ f args w)(hL:Lo K aq){m:Nat}(hm:m<=aq.size)(H:Hp S0 aq σ (A++R))(h0:K0 σ.w)
  (hw:Region.wanted ⟨some d,op,ty,pos,af,gd⟩ (yv ops n ρ)=true) (k: ∀v (σ':St),(∃L',post m v L'/\Hp S0 aq σ' (L'++R)/\True)->sU K f0 ops Q rest (fr n (upd ρ d v)) σ'.w):sU K f0 ops Q (⟨some d,op,ty,pos,af,gd⟩::rest) (fr n ρ) σ.w:=by
 intro b kk cs i h1 h2 hl h3;rw [qbb,List.range'_succ];refine hc.co σ m (qa8 hm H.size) (hL.on H) (Hp.begin (dC.1 H.all).1 (dM.1 H.ap).1) h0 _ cs rfl h2 (λW _ _ _=>GG (he W) (VJ hl) hw h1) λv σ' L' hp H'=> ?_;rw [Frame.finish_at,VJ hl];have:=k v σ' ⟨L',hp,H.frame H',trivial⟩ b kk cs (i+1) h1 h2 (at1 hl) h3;rw [←cQ] at this;exact this
omit [aV] [aJ] [aY] in
theorem Xx(hl:eF Ln A B)(H:Hp S0 aq σ (Ln++(A++R))): ∃rE:St,rE.w=σ.w/\rE.dI=σ.dI/\Hp (dv B) rE rE B/\
  ∀ij L',wD σ.size L'->Hp (dv B) rE ij L'-> ∃gY:St,gY.w=ij.w/\Hp S0 aq gY (L'++(Ln++R)):=by
 classical
 obtain ⟨a1,a23⟩:=dC.1 H.all;obtain ⟨a2,a3⟩:=dC.1 a23;obtain ⟨p1,p23,p4⟩:=dM.1 H.ap;obtain ⟨p2,p3,p5⟩:=dM.1 p23;have pA: ∀b,dv A b-> ¬dv Ln b:=λb hb h=>p4 b h (bu.2 (.inl hb));have pR: ∀b,dv R b-> ¬dv Ln b:=λb hb h=>p4 b h (bu.2 (.inr hb));obtain ⟨rE,pp,aB⟩:=hl.OT a1 p1 a2 pA;have lH:rE.size=σ.size:=by unfold St.size;rw [pp.w]
 have Hb:Hp (dv B) rE rE B:=Hp.begin aB (hl.apart p2);refine ⟨rE,pp.w,pp.dI,Hb,λij L' mw H'=> ?_⟩;have SZ:=hl.dv;have hle:σ.size<=ij.size:=lH▸H'.md.size
 let gY:St:=⟨ij.w,λc=>if dv Ln c then σ.fC c else ij.fC c,λb hb=>by
  have: ¬dv Ln b:=λh=>absurd (qa2 (kP a1 b h) hle) (qcg.2 hb);rw [if_neg this];exact ij.ok b hb,ij.dI⟩
 have Om: ∀b,dv Ln b->gY.fC b=σ.fC b:=λb h=>if_pos h;have vq: ∀b, ¬dv Ln b->gY.fC b=ij.fC b:=λb h=>if_neg h;have m3:Md (dv A) σ gY:=by
  refine ⟨?_, ?_, ?_, ?_,H'.md.dI.trans pp.dI,⟨hle,λb ho=> ?_,λb=> ?_⟩,λb hb hn=> ?_,λb hb hn=> ?_⟩
  ·exact H'.md.os.trans (by rw [pp.w])
  ·have:=H'.md.tape;rw [pp.w,pp.dI] at this;exact this
  ·exact H'.md.output.trans (by rw [pp.w])
  ·have:=H'.md.dr;rw [pp.w,pp.dI] at this;exact this
  ·have h1:ij.w.heap[b]? =rE.w.heap[b]? :=H'.md.ext.block b (qa2 ho (pp.le b));show ij.w.heap[b]? =_;rw [h1,pp.w]
  ·by_cases h:dv Ln b
   ·exact qay (Om b h).symm
   ·rw [vq b h];exact qa8 (pp.le b) (H'.md.ext.fC b)
  ·have:=H'.md.block b (by rw [lH];exact hb) (λh=>hn ((SZ b).1 h));rw [pp.w] at this;exact this
  ·by_cases h:dv Ln b
   ·exact Om b h
   ·rw [vq b h,H'.md.fC b (by rw [lH];exact hb) (λh=>hn ((SZ b).1 h)),pp.fC b h]
 have Ep: ∀b,dv L' b->b<σ.size->dv A b:=λb hb bs=>(SZ b).1 (H'.zf b hb (by rw [lH];exact bs));have aL':gI gY L':=Au (σ:=ij) (σ':=gY) rfl mw (λb hb=>by
  refine vq b λh=> ?_;have bs:=kP a1 b h;rcases hb with hb | hb
  ·omega
  ·exact pA b (Ep b hb bs) h) H'.all
 refine ⟨gY,rfl,⟨H.md.step m3 (λi hi h=>H.zf i (bu.2 (.inr (bu.2 (.inl h)))) hi),dC.2 ⟨aL',dC.2 ⟨gr a1 m3 (λb hb h=>pA b h hb),gr a3 m3 (λb hb h=>p5 b h hb)⟩⟩,
  dM.2 ⟨H'.ap,dM.2 ⟨p1,p3,λb hb h=>pR b h hb⟩,λb hb eU=> ?_⟩,λb hb bs=> ?_⟩⟩
 ·rcases bu.1 eU with h | h
  ·exact pA b (Ep b hb (kP a1 b h)) h
  ·exact p5 b (Ep b hb (kP a3 b h)) h
 ·rcases bu.1 hb with hb | hb
  ·exact H.zf b (bu.2 (.inr (bu.2 (.inl (Ep b hb (qa2 bs H.md.size)))))) bs
  ·rcases bu.1 hb with hb | hb
   ·exact H.zf b (bu.2 (.inl hb)) bs
   ·exact H.zf b (bu.2 (.inr (bu.2 (.inr hb)))) bs
theorem GH{f:FuncId}{args:List Value}{K0:World->Prop}{post:Nat->Value->List Ch->Prop}(hl:eF Ln A B)(hc:GF K f args B K0 post)(he: ∀w,Enters K.L n ρ ⟨some d,op,ty,pos,af,gd⟩ f args w)(hL:Lo K aq)(H:Hp S0 aq σ (Ln++(A++R)))(h0:K0 σ.w)(mw: ∀m v L',post m v L'->wD m L')
  (hw:Region.wanted ⟨some d,op,ty,pos,af,gd⟩ (yv ops n ρ)=true) (k: ∀v (σ':St),(∃L',post σ.size v L'/\Hp S0 aq σ' (L'++(Ln++R))/\True/\aq.size<=σ.size)->sU K f0 ops Q rest (fr n (upd ρ d v)) σ'.w):sU K f0 ops Q (⟨some d,op,ty,pos,af,gd⟩::rest) (fr n ρ) σ.w:=by
 intro b kk cs i h1 h2 hll h3;rw [qbb,List.range'_succ];obtain ⟨rE,q1,q2,Hb,hk⟩:=Xx hl H;have lH:rE.size=σ.size:=by unfold St.size;rw [q1]
 have hLp:Lo K rE:=⟨by rw [q2];exact (hL.on H).1,by rw [q1];exact (hL.on H).2.1,by rw [q1];exact (hL.on H).2.2⟩;have:=hc.co rE σ.size (qay lH.symm) hLp Hb (by rw [q1];exact h0) (b.at (fr n ρ) (.inRegion ops (i::List.range' (i+1) rest.length)::kk)) cs rfl h2 (λW _ _ _=>GG (he W) (VJ hll) hw h1) λv σ' L' hp H'=> ?_
 ·rw [q1] at this;exact this
 ·obtain ⟨gY,r1,r2⟩:=hk σ' L' (mw _ _ _ hp) H';rw [Frame.finish_at,VJ hll, ←r1];have:=k v gY ⟨L',hp,r2,trivial,H.size⟩ b kk cs (i+1) h1 h2 (at1 hll) h3;rw [←cQ] at this;exact this
def BpC(K:BY)(fn:Func)(wE:Value->World->Prop):Exit->Act->World->Prop
 | .normal,a,w | .ret,a,w=>a.defers=[]/\ ∃v,(∀W,(results fn a.tmps).run K.L W= .ok v W)/\wE v w
 | _,_,_=>False
def Av(post:Value->List Ch->Prop)(aq:St)(S0:BS)(v:Value)(w':World):Prop:= ∃σ' L',w'=σ'.w/\post v L'/\Hp S0 aq σ' L'
theorem rM{fn:Func}{post:Value->List Ch->Prop}(hr: ∀W,(results fn (fr n ρ).tmps).run K.L W= .ok v W)(hp:post v L')(H:Hp S0 aq σ L'):BpC K fn (Av post aq S0) .ret (fr n ρ) σ.w:=⟨rfl,v,hr,σ,L',rfl,hp,H⟩
omit [aV] [aJ] [aY] in
theorem OU{P:Program}{b:Frame}{a:Act}{todo:List Item}{c:Frame}{cs:List Frame}{fn:Func}(hn:b.kind= .normal)(hd:a.defers=[])(hf:P.funcs[b.fn]? =some fn)(hr:(results fn a.tmps).run P w= .ok v w):
  ∃es,stepG P true (gb { b.at a todo with mode:= .returning } (c::cs)) w= .go (gb (c.finish v) cs) w es:=by
 simp [stepG,unwind,doReturn,Frame.at,hn,hd,hf,hr,GStep.after]
theorem adO{f:FuncId}{fn:Func}{c:Code}{l:List Value}{pre:List Ch}{K0:World->Prop}{post:Nat->Value->List Ch->Prop}(NF: ¬K.Xs f)(hf:K.L.funcs[f]? =some fn)(OE:(fn.name== "runtime.NumGoroutine")=false)(hb:fn.body=some c)(hn:fn.ntmps=n)(hlen:Nat.ble l.length n=true)
  (h: ∀(S0:BS) (aq:St) (n0:Nat),n0<=aq.size->Lo K aq->K0 aq.w->S0=dv pre->Hp S0 aq aq pre->wpC K f c (BpC K fn (Av (post n0) aq S0)) (fr n (dZ l)) aq.w):GF K f l pre K0 post:=by
 refine ⟨⟨fn,c,hf,OE,hb⟩,λσ m hm hL H h0 a cs ha I7 he hk=> ?_⟩;refine lS K.HP K.HF (.inr ha) λW e e1 e2=> ?_;obtain ⟨es,hs⟩:=he W e e1 e2;have xB:(Frame.enter K.L f l.toArray .normal).fn=f:=by rw [enter_at _ hf hb];rfl
 refine ⟨_,a::cs,W,es,hs,by rw [enter_at _ hf hb];nofun,by rw [xB];exact NF,rK ?_ e⟩;have qH:=nY l n (by simpa using hlen);rw [enter_at _ hf hb,qbj,hn,qH];have Mg: ∀a' w' todo,(a'.defers=[]/\ ∃v,(∀W,(results fn a'.tmps).run K.L W= .ok v W)/\Av (post m) σ (dv pre) v w')->K.Co { (base f).at a' todo with mode:= .returning } (a::cs) w':=by
  rintro a' w' todo ⟨hd,v,hr,σ',L',rfl,hp,H'⟩;refine lS K.HP K.HF (.inl (by simp)) λW e _ _=> ?_;obtain ⟨es,hs⟩:=OU (P:=K.L) (b:=base f) (a:=a') (todo:=todo) (c:=a) (cs:=cs++[cI]) rfl hd hf (hr W);have RU:(a.finish v).mode= .run:=(Go.Cx.jE a v).trans ha;have adP:(a.finish v).fn=a.fn:=by unfold Frame.finish;split <;> rfl
  exact ⟨a.finish v,cs,W,es,hs,λch=>(by rw [RU];nofun),by rw [adP];exact I7,rK (hk v σ' L' hp H') e⟩
 refine h (dv pre) σ m hm hL h0 rfl H (base f) [] (a::cs) ⟨rfl,rfl⟩ NF λe a' w' q=> ?_;cases e with
 | normal=>exact lS K.HP K.HF (.inr rfl) λW e _ _=>⟨_,a::cs,W,_,stepG_end,nofun,NF,rK (Mg a' w' [] q) e⟩
 | ret=>exact λtodo=>Mg a' w' todo q
 | exit id=>exact q.elim
 | goto l=>exact q.elim
 | panic ch=>exact q.elim
 | outgrown=>exact q.elim
end
end Go.Vc
namespace Go.Vc
open Go Go.Proofs Go.Vs
open Go.Conc (G base stepG_end enter_at)
open Go.Cx (aV aJ aY fW PF lS zI xC cI gb Left TW)
section
variable[aV][aJ][aY]
variable{K:BY}{aq σ:St}{S0:BS}{n:Nat}{ρ:Nat->Value}{Q:Exit->Act->World->Prop}{w:World}
def yI(K:BY)(f:FuncId)(l:List Value)(pre:List Ch)(K0:World->Prop)(post:Nat->Value->List Ch->Prop):Prop:=
 ∃fn c n,K.L.funcs[f]? =some fn/\(fn.name== "runtime.NumGoroutine")=false/\fn.body=some c/\fn.ntmps=n/\Nat.ble l.length n=true/\
  ∀(S0:BS) (aq:St) (n0:Nat),n0<=aq.size->Lo K aq->K0 aq.w->S0=dv pre->Hp S0 aq aq pre->wpC K f c (BpC K fn (Av (post n0) aq S0)) (fr n (dZ l)) aq.w
variable{f:FuncId}{l:List Value}{pre:List Ch}{K0:World->Prop}{post:Nat->Value->List Ch->Prop}
theorem VK{fn:Func}{c:Code}(hf:K.L.funcs[f]? =some fn)(OE:(fn.name== "runtime.NumGoroutine")=false)(hb:fn.body=some c)(hn:fn.ntmps=n)(hlen:Nat.ble l.length n=true)
 (h: ∀(S0:BS) (aq:St) (n0:Nat),n0<=aq.size->Lo K aq->K0 aq.w->S0=dv pre->Hp S0 aq aq pre->wpC K f c (BpC K fn (Av (post n0) aq S0)) (fr n (dZ l)) aq.w):yI K f l pre K0 post:=⟨fn,c,n,hf,OE,hb,hn,hlen,h⟩
theorem yI.cal(NF: ¬K.Xs f)(h:yI K f l pre K0 post):GF K f l pre K0 post:=by
 obtain ⟨fn,c,n,h1,h2,h3,h4,h5,h6⟩:=h;exact adO NF h1 h2 h3 h4 h5 h6
def Fin(K:BY)(f:FuncId)(post:Value->List Ch->Prop)(σ:St)(S0:BS):Prop:=
 ∀(fn:Func) (a:Act) (todo:List Item) (v:Value) (w:World),K.L.funcs[f]? =some fn->a.defers=[]->(∀W,(results fn a.tmps).run K.L W= .ok v W)->Av post σ S0 v w->K.Co { (base f).at a todo with mode:= .returning } [] w
theorem yI.top(NF: ¬K.Xs f)(h:yI K f l pre K0 post){m:Nat}(hm:m<=σ.size)(hL:Lo K σ)(H:Hp (dv pre) σ σ pre)(h0:K0 σ.w)(hF:Fin K f (post m) σ (dv pre)):K.Co (Frame.enter K.L f l.toArray .normal) [] σ.w:=by
 obtain ⟨fn,c,n,hf,OE,hb,hn,hlen,h⟩:=h;have qH:=nY l n (by simpa using hlen);rw [enter_at _ hf hb,qbj,hn,qH];refine h (dv pre) σ m hm hL h0 rfl H (base f) [] [] ⟨rfl,rfl⟩ NF λe a' w' q=> ?_;cases e with
 | normal=>exact lS K.HP K.HF (.inr rfl) λW e _ _=>⟨_,[],W,_,stepG_end,nofun,NF,rK (let ⟨hd,v,hr,hp⟩:=q;hF fn a' [] v w' hf hd hr hp) e⟩
 | ret=>exact λtodo=>let ⟨hd,v,hr,hp⟩:=q;hF fn a' todo v w' hf hd hr hp
 | exit id=>exact q.elim
 | goto l=>exact q.elim
 | panic ch=>exact q.elim
 | outgrown=>exact q.elim
def Cb(v:Value)(w:World):Prop:= ∀b,blk v=some b-> ∃cs T e,w.heap[b]? =some (.cells cs T e)
omit [aV] [aJ] [aY] in
theorem Cb.own{α:Type}[Rp α]{lo el:Nat}{v:Value}{xs:List α}(h:Ow σ lo el v xs):Cb v σ.w:=by
 intro b hb;rcases h with ⟨rfl,_⟩ | ⟨b',o,c,C,T,rfl,_,h3,_⟩
 ·cases hb
 ·cases hb;exact ⟨C,T,_,h3⟩
omit [aV] [aJ] [aY] in
theorem Cb.to{v:Value}{L:List Ch}(h:Cb v aq.w)(H:Hp S0 aq σ L)(hS: ∀b, ¬S0 b):Cb v σ.w:=by
 intro b hb;obtain ⟨cs,T,e,hq⟩:=h b hb;have bs:b<aq.size:=(qa1.1 hq).1;exact ⟨cs,T,e,by rw [H.md.block b bs (hS b)];exact hq⟩
end
end Go.Vc
namespace Go.Vc
open Go Go.Proofs Go.Vs
open Go.Cx (aV aJ aY fW PF KG xC cI gb Left TW tree cF Mn On)
end Go.Vc
namespace Go.Vc
open Go Go.Proofs Go.Vs
open Go.Cx (aV aJ aY)
section
variable[aV][aJ][aY]
variable{K:BY}{f0:FuncId}{aq σ:St}{S0:BS}{A B R Ln L':List Ch}{n:Nat}{ρ:Nat->Value}{Q:Exit->Act->World->Prop}{w:World}
variable{ops:Array Oper}{d:Nat}{v:Value}{rest:List Oper}{op:Op}{x:Operand}{ty:TypeId}{pos:String}{af:Array Edge}
theorem sv(v:Value)(hr:ei K.L w.heap n ρ ⟨some d,op,ty,pos,af,none⟩ v)(k:sU K f0 ops Q rest (fr n (upd ρ d v)) w):sU K f0 ops Q (⟨some d,op,ty,pos,af,none⟩::rest) (fr n ρ) w:=st hr k
theorem ax(v:Value)(k:sU K f0 ops Q rest (fr n (upd ρ d v)) w)(h:ev n ρ x=v:=by exact rfl):sU K f0 ops Q (⟨some d, .move x,ty,pos,af,none⟩::rest) (fr n ρ) w:=st (ai h) k
theorem aM(v:Value)(k:sU K f0 ops Q rest (fr n (upd ρ d v)) w)(h:ev n ρ x=v:=by exact rfl):sU K f0 ops Q (⟨some d, .assign x,ty,pos,af,none⟩::rest) (fr n ρ) w:=st (uu h) k
theorem fD{c:Operand}{x y:Code}{α:Type}{b:Bool}{u v z:α}(h:(bif b then u else v)=z)(ht:b=true->u=z->wpC K f0 x Q (fr n ρ) w)(hf:b=false->v=z->wpC K f0 y Q (fr n ρ) w)(hc:ev n ρ c= .bool b:=by exact rfl):
 wpC K f0 (.cond c x y) Q (fr n ρ) w:=uq b hc (λe=>ht e (VL e h)) (λe=>hf e (VM e h))
theorem cl{f:FuncId}{xs:Array Operand}{Ts:Array TypeId}{args:List Value}{post:Nat->Value->List Ch->Prop}{m:Nat}(hL:Lo K aq)(hc:bL K.L f args A post)(hm:m<=aq.size)(H:Hp S0 aq σ (A++R))
 (k: ∀v (σ':St),(∃L',post m v L'/\Hp S0 aq σ' (L'++R))->sU K f0 ops Q rest (fr n (upd ρ d v)) σ'.w) (hx:xs.toList.map (ev n ρ)=args:=by exact rfl):
 sU K f0 ops Q (⟨some d, .call ⟨.value (.func f),xs,Ts⟩,ty,pos,af,none⟩::rest) (fr n ρ) σ.w:=bP (bk hL hc (λ_=>cZ hc.fn hx) hm H) wn λv σ' ⟨L',a,b,_⟩=>k v σ' ⟨L',a,b⟩
theorem ll{f:FuncId}{xs:Array Operand}{Ts:Array TypeId}{args:List Value}{post:Nat->Value->List Ch->Prop}(hL:Lo K aq)(hl:eF Ln A B)(hc:bL K.L f args B post)(H:Hp S0 aq σ (Ln++(A++R)))(mw: ∀m v L',post m v L'->wD m L')
 (k: ∀v (σ':St),(∃L',post σ.size v L'/\Hp S0 aq σ' (L'++(Ln++R))/\True/\aq.size<=σ.size)->sU K f0 ops Q rest (fr n (upd ρ d v)) σ'.w) (hx:xs.toList.map (ev n ρ)=args:=by exact rfl):
 sU K f0 ops Q (⟨some d, .call ⟨.value (.func f),xs,Ts⟩,ty,pos,af,none⟩::rest) (fr n ρ) σ.w:=bP (nX hL hl hc (λ_=>cZ hc.fn hx) H mw) wn k
theorem di{fn:Func}{post:Value->List Ch->Prop}{t:Nat}(h:fn.results= #[.tmp t])(hp:post v L')(H:Hp S0 aq σ L')(hv:Vs.look n ρ t=v:=by exact rfl):BpC K fn (Av post aq S0) .ret (fr n ρ) σ.w:=rM (λ_=>eG (rs:=[.tmp t]) h (Er hv jy) rfl) hp H
theorem k1{id:Nat}{l:List Oper}{y:Code}(h:sU K f0 l.toArray (Exit.then (wpC K f0 y Q) Q) l (fr n ρ) w):wpC K f0 (.seq (.region id l.toArray false) y) Q (fr n ρ) w:=cV (rg h)
theorem k2{a:Act}{G:Act->World->Prop}(h:G a w):sU K f0 ops (Exit.then G Q) [] a w:=bA (aA h)
theorem k3{a:Act}{x y:Code}(h:wpC K f0 x (Exit.then (wpC K f0 y Q) Q) a w):sU K f0 ops (Exit.then (wpC K f0 (.seq x y) Q) Q) [] a w:=k2 (cV h)
theorem k4{id:Nat}{l:List Oper}{y:Code}(h:sU K f0 l.toArray (Exit.then (wpC K f0 y Q) Q) l (fr n ρ) w):sU K f0 ops (Exit.then (wpC K f0 (.seq (.region id l.toArray false) y) Q) Q) [] (fr n ρ) w:=k2 (k1 h)
theorem k5{id:Nat}{l:List Oper}{y z:Code}(h:sU K f0 l.toArray (Exit.then (wpC K f0 y (Exit.then (wpC K f0 z Q) Q)) (Exit.then (wpC K f0 z Q) Q)) l (fr n ρ) w):sU K f0 ops (Exit.then (wpC K f0 (.seq (.seq (.region id l.toArray false) y) z) Q) Q) [] (fr n ρ) w:=k3 (k1 h)
theorem k6{a:Act}{x y:Code}(h:wpC K f0 x (Exit.then (wpC K f0 y Q) Q) a w):wpC K f0 .skip (Exit.then (wpC K f0 (.seq x y) Q) Q) a w:=fH (aA (cV h))
theorem k7{a:Act}(h:Q .ret a w):sU K f0 ops (Exit.then (wpC K f0 .ret Q) Q) [] a w:=k2 (OQ h)
end
end Go.Vc
namespace Go.Cx
open Go Go.Conc
open Go.ConcN (sumTo)
def yJ(C:Program)(wE:Value->World->Prop)(m:Machine)(t:Trace):Prop:= ∃o w' ops,stepT C m=(.ended o w',ops)/\Conc.Good C wE m o w' (t++ops)
section
variable{C:Program}{cR:Loc->Prop}{g:Goroutine}{sz:Nat}{wE:Value->World->Prop}{w:World}
theorem C7(hr:g.status= .running)(K: ∀W:World,Wq W w-> ∃v w',stepG C true g W= .ended (.done v) w' #[]/\wE v w'):
  ∀(r:Nat) (gs:Array Goroutine) (W:World) (sl:Option (Nat×Nat)) (t:Trace) (q:Nat->Nat),sumTo gs.size q=r->gs[0]? =some g->Wq W w->Qt C cR gs sz t q->iJ C (yJ C wE) (crowd gs W sl) t:=by
 intro r
 induction r using Nat.strongRecOn with
 | _ r ih=>
  intro gs W sl t q OP h0 hw hq;obtain ⟨i,y,d,vV,hy,GC,hs⟩:=crowd_pick (P:=C) (w:=W) (sl:=sl) (hq.awake h0 hr) ⟨0,g,h0,hr⟩;cases i with
  | zero=>
   obtain ⟨v,w',h1,h2⟩:=K (W.at d) (hw.at d);have bH:=ConcN.runT_crowd_ended (P:=C) (sl:=vV) h0 (w:=W.at d) (by simpa using h1);have he:MemOp.ofEvents 0 g.frame.fn g.frame.place #[]= #[]:=rfl;refine iJ.here ⟨_,_,_,hs.trans bH,v,rfl,h2, ?_, ?_,⟨?_,rfl⟩, ?_⟩
   ·rw [he,Array.append_empty];exact hq.ti.nr
   ·rw [he,Array.append_empty];exact λi g h1 h2 h3=>hq.ho i g h1 h2 id h3
   ·intro x hx;obtain ⟨j,hj⟩:=List.mem_iff_getElem?.1 hx;rw [List.getElem?_drop] at hj;have VN:gs[1+j]? =some x:=by simpa [crowd] using hj
    obtain ⟨z,hz,wC⟩:=hq.wk (1+j) (by omega) (qa1.1 VN).1;rw [VN] at hz;cases hz;exact ⟨_,wC.leaves⟩
   ·intro j x hj hj0;rw [he,Array.append_empty];obtain ⟨z,hz,wC⟩:=hq.wk j (by omega) (qa1.1 hj).1;rw [show gs[j]? =some x from hj] at hz;cases hz;exact ⟨_,wC.hears _⟩
  | succ i=>
   obtain ⟨qm,ops,q',h1,h2,h3,h4,h5⟩:=hq.leave (W:=W.at d) (sl:=vV) h0 hr (k:=i+1) (by omega) hy GC;exact iJ.step (hs.trans h1) (ih _ (by rw [←OP];exact h5) qm (W.at d) vV (t++ops) q' (by rw [h3]) h2 (hw.at d) h4)
theorem GI(g:Goroutine)(W:World):Qt C no1 #[g] W.heap.size #[] (λ_=>0) where
 wk:=λk h1 h2=>by simp at h2;omega
 ti:=by
  have no: ∀i a,touchAt #[] i=some a->False:=λi a h=>by simp [touchAt,Trace.act?] at h
  exact ⟨λi op x h=>by simp at h,λk h=>h.elim,λk h=>h.elim,λl _ _ _ _ i a h=>(no i a h).elim,λl _ _ _ _ i a h=>(no i a h).elim,λi a h=>(no i a h).elim,ConcN.noRace_nil,λi op h=>by simp at h,λi a h=>(no i a h).elim⟩
 ho:=λi g h=>by simp [Trace.g?] at h
 d0:=rfl
 u9:=λl b h=>h.elim
theorem C8{g:Goroutine}{W:World}(h:iJ C (yJ C wE) (solo g W) #[]):
  ∃M last o w' t',runNT C (M+1) (solo g W) #[]=(.ended o w',t')/\runN C M (solo g W)= .next last/\step C last= .ended o w'/\Conc.Good C wE last o w' t':=by
 obtain ⟨n,m,t,h1,o,w',ops,h2,h3⟩:=h;have h4:runN C n (solo g W)= .next m:=by rw [←runNT_fst _ _ _ #[],h1]
 have h5:step C m= .ended o w':=by rw [←stepT_fst C m true,h2]
 have h6:=runNT_succ C n _ _ _ _ h1;rw [h2] at h6;have h7:(runNT C (n+1) (solo g W) #[]).1= .ended o w':=by rw [runNT_fst];rw [_root_.Go.runN_add,h4];simp [runN,h5]
 exact ⟨n,m,o,w',t++ops,Prod.ext h7 h6,h4,h5,h3⟩
end
end Go.Cx
namespace Go.Vc
open Go Go.Proofs Go.Vs
open Go.Conc (G base solo)
open Go.Cx (aV aJ aY fW PF lS xC cI gb TW cF iU Mn On yJ C7 GI iJ aG ay bZ ga Dw Bj om no1 Wq)
section
variable[aV][aJ][aY]
variable{K:BY}{σ:St}{S0:BS}{f:FuncId}{post:Value->List Ch->Prop}{wE:Value->World->Prop}
omit [aV] [aJ] [aY] in
theorem Xy{β:Bj}{x y:List Deferred}(h:Go.Cx.mV β x y)(hx:x=[]):y=[]:=by
 subst hx;cases h
 rfl
omit [aV] [aJ] [aY] in
theorem Mh{P:Program}{b:Frame}{fn:Func}{t:Nat}{W:World}(hm:b.mode= .returning)(hd:b.defers=[])(hk:b.kind= .normal)(hf:P.funcs[b.fn]? =some fn)(hi:P.inits.idxOf? b.fn=none)(hr:fn.results= #[.tmp t]):
  stepG P true (gb b []) W= .ended (.done (b.tmps.getD t undef)) W #[]:=by
 have h1:=results_tmp hr b.tmps P W;have h2:=Conc.events_results_tmp (P:=P) (w:=W) hr b.tmps #[];simp [stepG,unwind,doReturn,hm,hd,hk,hf,hi,h1,h2,seen,GStep.after]
theorem S2(qF:aV.ok f)(pG:aV.sQ f)(C6: ¬K.Xs f)(Xz:K.C.inits.idxOf? f=none)(hΦ:K.Φ=yJ K.C wE)(bS: ∀fn,K.L.funcs[f]? =some fn-> ∃t,fn.results= #[.tmp t])(OV: ∀v L,post v L->v=B true)
  (hP: ∀W':World,W'.tape=K.W0.tape->W'.os=K.W0.os->W'.output=K.W0.output->(∀b,b<K.W0.heap.size->W'.heap[b]? =K.W0.heap[b]?)->wE (B true) W'):Fin K f post σ S0:=by
 intro fn a todo v w hf hd hr ⟨σ',L',hw,hp,H'⟩ gs W sl t q cR β b k' h0 hq hM;obtain ⟨jd,c,g1,g2,g3,g4⟩:=K.HF.same f qF pG C6;have e:jd=fn:=qaf (g1.symm.trans hf);subst e;obtain ⟨rfl,hF⟩:k'=[]/\iU K.L K.C β { (base f).at a todo with mode:= .returning } b:=by
  have:=hM.sk;cases this with
  | one h _=>exact ⟨rfl,h⟩
  | cons _ h=>cases h
 obtain rfl:=OV v L' hp;obtain ⟨tm,ht⟩:=bS _ hf;have hv:a.tmps.getD tm undef=B true:=by
  have:=hr w;rw [results_tmp ht] at this;injection this
 have BU:b.tmps.getD tm undef=B true:=by
  have hT:aG β a.tmps b.tmps:=hF.tmps;cases h1:a.tmps[tm]? with
  | none=>
   rw [qak, h1] at hv;cases hv
  | some u=>
   obtain ⟨u',h2,h3⟩:=hT.get h1;rw [qak, h1,qc8] at hv;subst hv;rw [qak, h2,qc8];cases h3
   rfl
 have iV: ∀W',stepG K.C true (gb b []) W'= .ended (.done (B true)) W' #[]:=λW'=>by
  have:=Mh (P:=K.C) (b:=b) (fn:=jd) (t:=tm) (W:=W') (hF.mode.elim (λh=>by cases h.1) λh=>h.2.1) (Xy hF.defers hd) hF.kind.2 (by rw [hF.fn];exact g2) (by rw [hF.fn];exact Xz) ht;rw [this,BU]
 rw [hΦ];exact C7 (g:=gb b []) rfl (λW' VO=>⟨B true,W',iV W',hP W' (VO.tape.trans hM.tape) (VO.os.trans hM.os) (VO.output.trans hM.output) λb hb=>by rw [VO.heap];exact hM.keep b hb⟩) _ gs W sl t q rfl h0 (.refl W) hq
theorem Ta{l l':List Value}{pre:List Ch}{post:Nat->Value->List Ch->Prop}(hb:yI K f l pre (λ_=>True) post)(qF:aV.ok f)(pG:aV.sQ f)(C6: ¬K.Xs f)(Xz:K.C.inits.idxOf? f=none)(hΦ:K.Φ=yJ K.C wE)(bS: ∀fn,K.L.funcs[f]? =some fn-> ∃t,fn.results= #[.tmp t])
  (OV: ∀m v L,post m v L->v=B true) (hP: ∀W':World,W'.tape=K.W0.tape->W'.os=K.W0.os->W'.output=K.W0.output->(∀b,b<K.W0.heap.size->W'.heap[b]? =K.W0.heap[b]?)->wE (B true) W')
  (hL:Lo K σ) (H:Hp (dv pre) σ σ pre) {β:Bj} (hx:aG β l.toArray l'.toArray) (hw:bZ β σ.w K.W0) (hd:Dw σ.w) (hold: ∀a b,β a b->ga β σ.w b):
  iJ K.C (yJ K.C wE) (solo (G (Frame.enter K.C f l'.toArray .normal) []) K.W0) #[]:=by
 have hco:=hb.top C6 (m:=0) (qaa _) hL H trivial (S2 qF pG C6 Xz hΦ bS (OV 0) hP);obtain ⟨fn,c,g1,g2,g3,g4⟩:=K.HF.same f qF pG C6;have:=hco #[gb (Frame.enter K.C f l'.toArray .normal) []] K.W0 none #[] (λ_=>0) no1 β _ [] rfl (GI _ _) ⟨.one (om g1 g2 g3 g4 hx) rfl,hw,hd,λ_ _ _ _ _ h=>h,rfl,rfl,rfl,λa b q _=>hold a b q,λ_ _=>rfl⟩;rw [hΦ] at this;exact this
end
end Go.Vc
namespace Go.Vc
open Go Go.Proofs Go.Vs Go.ChangeShapes Go.WideShapes Go.ChangeAt Go.RowKit
open Go.Cx (hU lG Fw rJ um ay)
def KH(W:World)(b:Nat):Prop:= ∃c e f,W.heap[b]? =some (.cells c e f)
theorem OW{W W':World}(h1:W'.tape=W.tape)(h2:W'.os=W.os)(h3:W'.output=W.output)(h4: ∀b,b<W.heap.size->W'.heap[b]? =W.heap[b]?):Below W.heap.size W W':=by
 refine ⟨h2,h1,h3, ?_,h4⟩;apply qa6;intro hn;have bs:W'.heap.size<W.heap.size:=Nat.lt_of_not_le hn;have:=h4 _ bs;rw [qb7 (qa3 _),Array.getElem?_eq_getElem bs] at this;cases this
end Go.Vc
namespace Go.Vc
open Go Go.Proofs Go.Vs Go.ChangeShapes Go.WideShapes Go.ChangeAt Go.RowKit
open Go.Cx (aV hU lG Fw rJ um ay mz)
section
variable{H:Type}{enc:TypeId×Value->H}{P:Program}{W:World}{F:aV}
noncomputable def I9(F:aV)(W:World)(N:Nat):St:=⟨Fw F (KH W) W,λc=>if c<W.heap.size then N else 0,λc hc=>if_neg (by rw [rJ] at hc;omega),True⟩
abbrev Slf(F:aV)(W:World)(v:Value):Prop:= @ay F hU (lG (KH W)) v v
theorem OX{a:Addr}{v:Value}(h:W.cell? a=some v):KH W a.block:=by
 letI:aV:=⟨λ_=>True,λ_=>True⟩;letI:Go.Cx.aJ:=⟨λ_=>True⟩;letI:Go.Cx.aY:=hU;obtain ⟨c,e,f,h1,_,_⟩:=mz h;exact ⟨c,e,f,h1⟩
def tI{α:Type}[Rp α](enc:TypeId×Value->H)(P:Program)(W:World)(F:aV)(t:TypeId)(ok:α->Prop):Prop:=
 ∀{fuel:Nat} {cs:List Value} {x:DataW H×List MemPlace},DataW.trod enc P W 0 (λ_=>true) true fuel t cs=some x->(∀pl∈x.2,pl.block<W.heap.size)->
  ∃(a:α) (N:Nat),ok a/\(∀v∈cs,Slf F W v)/\ ∀M,N<=M->Rp.rp 0 (I9 F W M) cs a
theorem oH{t:TypeId}(ht:P.underlying t=some (.int .i64)):tI (α:=Int) enc P W F t (λ_=>True):=by
 intro fuel cs x h _;obtain ⟨n,rfl,_,_⟩:=DataW.trod_int ht h;exact ⟨n,0,trivial,λv hv=>by rw [qaz] at hv;subst hv;exact @ay.int F hU _ _ _,λ_ _=>rfl⟩
theorem rN{α:Type}[Rp α]{t e:TypeId}{ok:α->Prop}(ht:P.underlying t=some (.slice e))(hc:P.cellsOf e=Rp.sz α)(he:tI (α:=α) enc P W F e ok):
  tI (α:=List α) enc P W F t (λxs=>xs.length<=9223372036854775807/\ ∀x∈xs,ok x):=by
 intro fuel cs x h bs;rcases DataW.trod_slice ht h with ⟨rfl,rfl⟩ | ⟨a,len,cap,elems,rest,n,_,rfl,rfl,_,hl,hm,hlen,Tb,Tc,_⟩
 ·exact ⟨[],0,⟨by simp,by simp⟩,λv hv=>by rw [qaz] at hv;subst hv;exact @ay.jB F hU _ _ _,λM _=>⟨_,rfl, .inl ⟨⟨none,0,rfl⟩,rfl⟩⟩⟩
 have B8:0<Rp.sz α:=Rp.pos;have each: ∀i,i<cap-> ∃(v:α) (N:Nat) (ci:List Value),ok v/\ci.length=Rp.sz α/\(∀v∈ci,Slf F W v)/\(∀j,(hj:j<ci.length)->W.cell? ((a.add (i*Rp.sz α)).add j)=some ci[j])/\ ∀M,N<=M->Rp.rp 0 (I9 F W M) ci v:=by
  intro i hi;obtain ⟨hrl,hre⟩:=Tc rfl;have h1: ∃y∈elems++rest,(W.cells? 0 (a.add (i*P.cellsOf e)) (P.cellsOf e)).bind (DataW.trod enc P W 0 (λ_=>true) true n e)=some y:=by
   by_cases VP:i<len
   ·have h1:=Tb i VP;rw [qau (show i<elems.length by omega)] at h1;exact ⟨_,List.mem_append_left _ (qae _),h1⟩
   ·have h1:=hre (i - len) (by omega);rw [qau (show i - len<rest.length by omega),show len+(i - len)=i by omega] at h1;exact ⟨_,List.mem_append_right _ (qae _),h1⟩
  obtain ⟨y,hy,h1⟩:=h1;obtain ⟨ci,hci,htr⟩:=qaj.1 h1;rw [hc] at hci;obtain ⟨_,OY,RQ⟩:=World.cells?_some hci;have Ir: ∀pl∈y.2,pl.block<W.heap.size:=by
   intro pl hp;refine bs pl ?_;simp only [qag,List.mem_flatMap];exact .inr ⟨y,qag.1 hy,hp⟩
  obtain ⟨v,N,hv,hs,hr⟩:=he htr Ir;refine ⟨v,N,ci,hv,OY,hs,λj hj=> ?_,hr⟩;have:=RQ j (by omega);rw [this,qau hj]
 have C9: ∀(a:Addr) (k:Nat),(a.add k).block=a.block:=λa k=>by unfold Addr.add;split <;> rfl
 have self:Slf F W (.slice (some a) len cap):=by
  by_cases hc0:cap=0
  ·subst hc0;obtain rfl:len=0:=by omega
   exact @ay.vY F hU _ _ _
  ·obtain ⟨_,_,ci,_,OY,_,RQ,_⟩:=each 0 (by omega);have:=OX (RQ 0 (by omega));rw [C9,C9] at this;exact @ay.slice F hU _ _ _ _ _ ⟨⟨rfl,this⟩,rfl,rfl⟩
 have VQ: ∀v∈[Value.slice (some a) len cap],Slf F W v:=λv hv=>by rw [qaz] at hv;subst hv;exact self
 by_cases hl0:len=0
 ·subst hl0;exact ⟨[],0,⟨by simp,by simp⟩,VQ,λM _=>⟨_,rfl, .inl ⟨⟨some a,cap,rfl⟩,rfl⟩⟩⟩
 obtain ⟨b,off,spot⟩:=a;have aay:spot=none:=by
  obtain ⟨_,_,ci,_,OY,_,RQ,_⟩:=each 0 (by omega);have:=World.cell?_spot (RQ 0 (by omega));simpa [Addr.add] using this
 subst aay;have hbW:b<W.heap.size:=by
  refine bs (.cell b off) ?_;rw [hc];refine List.mem_append_left _ (MemPlace.mem_row.2 ⟨0, ?_,by simp⟩);exact Nat.mul_pos (by omega) B8
 have all: ∀m,m<=len-> ∃(xs:List α) (N:Nat),xs.length=m/\(∀x∈xs,ok x)/\ ∀M,N<=M-> ∀i,(hi:i<xs.length)->At 0 (I9 F W M) b (off+i*Rp.sz α) xs[i]:=by
  intro m
  induction m with
  | zero=>exact λ_=>⟨[],0,rfl,by simp,λM _ i hi=>absurd hi (by simp)⟩
  | succ m ih=>
   intro RU;obtain ⟨xs,N,hxl,qF,KI⟩:=ih (by omega);obtain ⟨v,N',ci,hv,OY,hs,RQ,hr⟩:=each m (by omega);refine ⟨xs++[v],max N N',by simp;omega, ?_,λM hM i hi=> ?_⟩
   ·intro x hx;rcases qag.1 hx with h | h
    ·exact qF x h
    ·simp only [qaz] at h;subst h;exact hv
   ·by_cases fz:i<xs.length
    ·rw [qb1 fz];exact KI M (by omega) i fz
    ·have yK:i=m:=by simp at hi;omega
     subst yK;have hx:(xs++[v])[i]=v:=by
      rw [qb6 (by omega)];simp [hxl]
     rw [hx];refine ⟨ci,hr M (by omega),λj hj=> ?_⟩;have:=RQ j hj;rw [Go.Vs.add_plain,Go.Vs.add_plain] at this;exact um F (KH W) (OX this) this (hs _ (qae hj))
 obtain ⟨xs,N,hxl,qF,KI⟩:=all len (qa3 _);have LN:cap<=9223372036854775807:=by
  have:maxLen<=9223372036854775807:=by decide
  omega
 refine ⟨xs,max N (off+len*Rp.sz α),⟨by omega,qF⟩,VQ,λM hM=>⟨_,rfl, .inr ⟨b,off,cap,by rw [hxl],qaa _,by omega, ?_,KI M (by omega)⟩⟩⟩;show off+xs.length*Rp.sz α<=(if b<W.heap.size then M else 0);rw [if_pos hbW,hxl];omega
theorem tJ{α β γ:Type}[Rp α][Rp β][Rp γ]{t:TypeId}{f0 f1 f2:Field}{o0:α->Prop}{o1:β->Prop}{o2:γ->Prop}(ht:P.underlying t=some (.struct #[f0,f1,f2]))(hc:P.cellsOf t=Rp.sz α+Rp.sz β+Rp.sz γ)
  (e0:f0.offset=0) (e1:f1.offset=Rp.sz α) (e2:f2.offset=Rp.sz α+Rp.sz β) (c0:P.cellsOf f0.type=Rp.sz α) (c1:P.cellsOf f1.type=Rp.sz β) (c2:P.cellsOf f2.type=Rp.sz γ)
  (h0:tI (α:=α) enc P W F f0.type o0) (h1:tI (α:=β) enc P W F f1.type o1) (h2:tI (α:=γ) enc P W F f2.type o2):
  tI (α:=α×β×γ) enc P W F t (λx=>o0 x.1/\o1 x.2.1/\o2 x.2.2):=by
 intro fuel cs x h bs;obtain ⟨y0,y1,y2,n,rfl,hl,t0,t1,t2⟩:=Go.Deep.trod_struct3 ht h;rw [hc] at hl;rw [e0,c0] at t0;rw [e1,c1] at t1;rw [e2,c2] at t2;obtain ⟨a0,N0,k0,s0,r0⟩:=h0 t0 (λpl hp=>bs pl (by simp [hp]));obtain ⟨a1,N1,k1,s1,r1⟩:=h1 t1 (λpl hp=>bs pl (by simp [hp]));obtain ⟨a2,N2,k2,s2,r2⟩:=h2 t2 (λpl hp=>bs pl (by simp [hp]));have d2:(cs.drop (Rp.sz α+Rp.sz β)).take (Rp.sz γ)=cs.drop (Rp.sz α+Rp.sz β):=qbo (by simp;omega);have e:cs=(cs.drop 0).take (Rp.sz α)++((cs.drop (Rp.sz α)).take (Rp.sz β)++(cs.drop (Rp.sz α+Rp.sz β)).take (Rp.sz γ)):=by
  rw [d2,qce, ←List.drop_drop,List.take_append_drop,List.take_append_drop]
 refine ⟨(a0,a1,a2),max N0 (max N1 N2),⟨k0,k1,k2⟩,λv hv=> ?_,λM hM=>⟨_,_,e,r0 M (by omega),_,_,rfl,r1 M (by omega),r2 M (by omega)⟩⟩;rw [e] at hv;rcases qag.1 hv with hv | hv
 ·exact s0 v hv
 ·rcases qag.1 hv with hv | hv
  ·exact s1 v hv
  ·exact s2 v hv
end
theorem xV{H:Type}{enc:TypeId×Value->H}{P:Program}{W:World}{F:aV}{base:Nat}{α:Type}[Rp α]{t e:TypeId}{v:Value}{d:DataW H}{p:List MemPlace}{ok:α->Prop}(ht:P.underlying t=some (.slice e))(hc:P.cellsOf e=Rp.sz α)(he:tI (α:=α) enc P W F e ok)
  (xW:Value.okWide P W .any base t v) (hd:DataW.Trod enc P W 0 (λ_=>true) true t v d p) (bs: ∀x∈p,x.block<W.heap.size):
  ∃(a:Option Addr) (xs:List α) (cap N:Nat),(xs.length<=9223372036854775807/\ ∀x∈xs,ok x)/\v=Sl a xs cap/\Slf F W v/\ ∀M,N<=M->RS 0 (I9 F W M) (Sl a xs cap) xs:=by
 obtain ⟨a0,len,cap,rfl⟩:=okWide_slice ht xW;obtain ⟨fuel,hf⟩:=hd;obtain ⟨xs,N,qF,hs,hr⟩:=rN ht hc he hf bs;have hv:(Value.cells (.slice a0 len cap)).toList=[.slice a0 len cap]:=by simp [Value.cells]
 have key: ∀M,N<=M->RS 0 (I9 F W M) (.slice a0 len cap) xs:=by
  intro M hM;obtain ⟨v,BU,hR⟩:=hr M hM;rw [hv] at BU;simp only [List.cons.injEq,and_true] at BU;rw [BU];exact hR
 have hlen:len=xs.length:=by
  rcases key N (qa3 _) with ⟨⟨ad,c,h1⟩,h2⟩ | ⟨b,o,c,h1,_⟩
  ·cases h1;rw [h2];rfl
  ·cases h1;rfl
 subst hlen;exact ⟨a0,xs,cap,N,qF,rfl,hs _ (by rw [hv];exact qaz.2 rfl),key⟩
end Go.Vc
namespace Go.Vc
open Go Go.Proofs Go.Vs
open Go.Cx (aV aJ hU lG Fw rJ um ay bZ Bj aG mz cell_of rF)
section
variable{F:aV}{K:aJ}{β:Bj}{σ τ:St}{W:World}{T:Nat->Prop}
structure Wt(F:aV)(T:Nat->Prop)(W:World)(τ:St):Prop where
 w:τ.w=Fw F T W
 fC: ∀b c e f,W.heap[b]? =some (.cells c e f)->τ.fC b=c.size
theorem KJ(hw: @bZ F K hU β σ.w W){b b' o:Nat}(hb:β b b'){v:Value}(h:σ.cell b o=some v):
  ∃v',W.cell? ⟨b',o,none⟩=some v'/\ @ay F hU β v v'/\ ∃c e f,W.heap[b']? =some (.cells c e f)/\o<c.size:=by
 letI:=F;letI:=K;letI:=hU;obtain ⟨c,e,f,h1,_,h3⟩:=mz (h:σ.w.cell? ⟨b,o,none⟩=some v);obtain ⟨x,x',q1,q2,q3⟩:=hw.obj b b' hb;rw [h1] at q1;cases q1;have key: ∀c' e' f',W.heap[b']? =some (.cells c' e' f')->aG β c c'-> ∃v',W.cell? ⟨b',o,none⟩=some v'/\ay β v v'/\ ∃c e f,W.heap[b']? =some (.cells c e f)/\o<c.size:=λc' e' f' r1 r2=>by
  obtain ⟨v',r3,r4⟩:=r2.get h3;exact ⟨v',cell_of r1 rfl r3,r4,c',e',f',r1,(qa1.1 r3).1⟩
 cases q3 with
 | cells e h=>exact key _ _ _ q2 h
 | lock e h=>exact key _ _ _ q2 h
def Tr{α:Type}[Rp α](F:aV)(β:Bj)(T:Nat->Prop)(σ τ:St)(adQ:α->Prop):Prop:=
 ∀(cs cs':List Value) (x:α),adQ x->Rp.rp 0 σ cs x->cs'.length=cs.length->(∀(j:Nat) (v v':Value),cs[j]? =some v->cs'[j]? =some v'-> @ay F hU β v v')->Rp.rp 0 τ cs' x/\ ∀v'∈cs', @ay F hU (lG T) v' v'
theorem xX:Tr F β T σ τ (λ_:Int=>True):=by
 rintro cs cs' x - rfl hl h
 match cs',hl with
 | [v'],_=>
  have:=h 0 _ v' rfl rfl;cases this;exact ⟨rfl,λv hv=>by rw [qaz] at hv;subst hv;exact @ay.int F hU _ _ _⟩
theorem zJ{α α':Type}[Rp α][Rp α']{g:α->Prop}{g':α'->Prop}(h1:Tr F β T σ τ g)(h2:Tr F β T σ τ g'):Tr F β T σ τ (λx:α×α'=>g x.1/\g' x.2):=by
 rintro cs cs' x ⟨hg,Ip⟩ ⟨c1,c2,rfl,r1,r2⟩ hl h;rw [qap] at hl;have e:cs'=cs'.take c1.length++cs'.drop c1.length:=(List.take_append_drop _ _).symm;obtain ⟨a1,a2⟩:=h1 c1 (cs'.take c1.length) x.1 hg r1 (by simp;omega) λj v v' q q'=>by
  have hj:j<c1.length:=(qbd.1 q).1;rw [List.getElem?_take,if_pos hj] at q';exact h j v v' (by rw [qbe hj];exact q) q'
 obtain ⟨b1,b2⟩:=h2 c2 (cs'.drop c1.length) x.2 Ip r2 (by simp;omega) λj v v' q q'=>by
  rw [List.getElem?_drop] at q';exact h (c1.length+j) v v' (by rw [qbx (by omega)];simpa using q) q'
 refine ⟨⟨_,_,e,a1,b1⟩,λv hv=> ?_⟩;rw [e] at hv;rcases qag.1 hv with hv | hv
 ·exact a2 v hv
 ·exact b2 v hv
theorem GJ{α:Type}[Rp α]{g:α->Prop}(hw: @bZ F K hU β σ.w W)(R1: ∀a b,β a b->KH W b->T b)(nW:Wt F T W τ)(hg:Tr F β T σ τ g){v v':Value}{xs:List α}(h:RS 0 σ v xs)(hv: @ay F hU β v v')(hx: ∀x∈xs,g x):
  RS 0 τ v' xs/\(xs≠[]-> @ay F hU (lG T) v' v'):=by
 rcases h with ⟨⟨ad,c,rfl⟩,rfl⟩ | ⟨b,o,c,rfl,_,h2,h3,h4⟩
 ·refine ⟨.inl ⟨?_,rfl⟩,λh=>(h rfl).elim⟩;cases hv with
  | jB _ _=>exact ⟨_,_,rfl⟩
  | vY _ _=>exact ⟨_,_,rfl⟩
  | slice _ _ _=>exact ⟨_,_,rfl⟩
 ·by_cases hn:xs=[]
  ·subst hn;refine ⟨.inl ⟨?_,rfl⟩,λh=>(h rfl).elim⟩;cases hv with
   | vY _ _=>exact ⟨_,_,rfl⟩
   | slice _ _ _=>exact ⟨_,_,rfl⟩
  have ahE:0<xs.length:=List.length_pos_iff.2 hn;generalize hlx:xs.length=lx at hv;cases hv with
  | vY _ _=>omega
  | @slice _ a' _ _ ha=>
   subst hlx;obtain ⟨b',o',s'⟩:=a';obtain ⟨Td,ha2,ha3⟩:=ha;simp only at Td ha2 ha3;obtain rfl:o=o':=ha2.symm;subst ha3;have hp:=Rp.pos (α:=α);have hlen:0<xs.length:=List.length_pos_iff.2 hn;have row: ∀i,(hi:i<xs.length)-> ∀j,j<Rp.sz α-> ∃u,W.cell? ⟨b',o+i*Rp.sz α+j,none⟩=some u/\ ∃c e f,W.heap[b']? =some (.cells c e f)/\o+i*Rp.sz α+j<c.size:=λi hi j hj=>by
    obtain ⟨cs,r1,r2⟩:=h4 i hi;obtain ⟨u,q1,_,q2⟩:=KJ hw Td (r2 j (by rw [Rp.len r1];exact hj));exact ⟨u,q1,q2⟩
   obtain ⟨_,_,c0,e0,f0,Ja,_⟩:=row 0 hlen 0 hp;have hT:T b':=R1 _ _ Td ⟨_,_,_,Ja⟩;have XA:o+xs.length*Rp.sz α<=τ.fC b':=by
    rw [nW.fC _ _ _ _ Ja];obtain ⟨_,_,c1,e1,f1,VR,bs⟩:=row (xs.length - 1) (by omega) (Rp.sz α - 1) (by omega);rw [Ja] at VR;cases VR;have:xs.length*Rp.sz α=(xs.length - 1)*Rp.sz α+Rp.sz α:=by
     rw [←Nat.succ_mul];congr 1;omega
    omega
   refine ⟨.inr ⟨b',o,c,rfl,qaa _,h2,XA,λi hi=> ?_⟩,λ_=> @ay.slice F hU _ _ _ _ _ ⟨⟨rfl,hT⟩,rfl,rfl⟩⟩;obtain ⟨cs,r1,r2⟩:=h4 i hi;have OY:=Rp.len r1
   classical
   have hex: ∀j:_root_.Fin cs.length, ∃u,W.cell? ⟨b',o+i*Rp.sz α+j.1,none⟩=some u/\ @ay F hU β cs[j] u:=λj=>by
    obtain ⟨u,q1,q2,_⟩:=KJ hw Td (r2 j.1 j.2);exact ⟨u,q1,q2⟩
   let cs':List Value:=List.ofFn λj=>(hex j).choose
   have oi:cs'.length=cs.length:=by simp [cs']
   have Ap: ∀(j:Nat) (hj:j<cs.length),cs'[j]? =some (hex ⟨j,hj⟩).choose:=λj hj=>by simp [cs',hj]
   obtain ⟨k1,k2⟩:=hg cs cs' xs[i] (hx _ (qae hi)) r1 oi λj v u q q'=>by
    have hj:j<cs.length:=(qbd.1 q).1;rw [Ap j hj] at q';cases q';have:=(hex ⟨j,hj⟩).choose_spec.2;rw [qau hj] at q;cases q;exact this
   refine ⟨cs',k1,λj hj=> ?_⟩;have VN:j<cs.length:=by rw [←oi];exact hj
   have e1:=(hex ⟨j,VN⟩).choose_spec.1;have e2:cs'[j]=(hex ⟨j,VN⟩).choose:=qaf ((qau hj).symm.trans (Ap j VN));show τ.w.cell? _=_;rw [nW.w,e2];exact um F T hT e1 (by rw [←e2];exact k2 _ (qae hj))
theorem Es{α:Type}[Rp α]{g:α->Prop}(hw: @bZ F K hU β σ.w W)(R1: ∀a b,β a b->KH W b->T b)(nW:Wt F T W τ)(hg:Tr F β T σ τ g):Tr F β T σ τ (λxs:List α=>xs≠[]/\ ∀x∈xs,g x):=by
 rintro cs cs' xs ⟨hn,hx⟩ ⟨v,rfl,hr⟩ hl h
 match cs',hl with
 | [v'],_=>
  obtain ⟨h1,h2⟩:=GJ hw R1 nW hg hr (h 0 _ v' rfl rfl) hx;exact ⟨⟨v',rfl,h1⟩,λu hu=>by rw [qaz] at hu;subst hu;exact h2 hn⟩
theorem OZ(F:aV)(T:Nat->Prop)(W:World): ∃τ:St,Wt F T W τ/\τ.dI:=by
 classical
 refine ⟨⟨Fw F T W,λb=>match W.heap[b]? with | some (.cells c _ _)=>c.size | _=>0,λb hb=> ?_,True⟩,⟨rfl,λb c e f h=> ?_⟩,trivial⟩
 ·have:W.heap.size<=b:=by rw [←rJ F T (W:=W)];exact hb
  rw [qb7 this]
 ·show (match W.heap[b]? with | some (.cells c _ _)=>c.size | _=>0)=_;rw [h]
end
end Go.Vc
namespace Go.Vc
open Go Go.Proofs Go.Vs
open Go.Cx (aV aJ aY fW PF xC Eo KD dR SQ cI gb Left TW cF Bj aG bZ Dw ga SO om)
section
variable[aV][aJ][aY]
variable{K:BY}{aq σ:St}{S0:BS}{A R L':List Ch}
omit [aV] [aJ] [aY] in
theorem aaz(hl:aq.dI){τ:Tape}{w:World}{σ':St}(e:σ'.w=TW w τ)(H:Hp S0 aq σ' L'): ∃jH:St,w=jH.w/\Hp S0 aq jH L':=by
 have h1:w.heap=σ'.w.heap:=by rw [e]
 have oi:σ'.dI:=by rw [H.md.dI];exact hl
 have h2:w.os=σ'.w.os:=by rw [e]
 have h3:w.output=σ'.w.output:=by rw [e]
 refine ⟨⟨w,σ'.fC,λb hb=>σ'.ok b (by rw [←h1];exact hb),σ'.dI⟩,rfl,H.grow ?_⟩;exact ⟨h2, .inl oi,h3, .inl oi,rfl,⟨qay (by simp only [St.size,h1]),λb _=>by simp only [h1],λb=>qa3 _⟩,λb _ _=>by simp only [h1],λ_ _ _=>rfl⟩
omit [aV] [aJ] [aY] in
theorem aaA(hl:aq.dI)(τ:Tape)(H:Hp S0 aq σ L'): ∃jH:St,TW σ.w τ=jH.w/\jH.size=σ.size/\Hp S0 aq jH L':=by
 have oi:σ.dI:=by rw [H.md.dI];exact hl
 refine ⟨⟨TW σ.w τ,σ.fC,σ.ok,σ.dI⟩,rfl,rfl,H.grow ?_⟩;exact ⟨rfl, .inl oi,rfl, .inl oi,rfl,⟨qa3 _,λb _=>rfl,λb=>qa3 _⟩,λb _ _=>rfl,λ_ _ _=>rfl⟩
def RC(post:Value->List Ch->Prop)(aq:St)(S0:BS)(R:List Ch)(v:Value)(w:World):Prop:= ∃σ' L',w=σ'.w/\post v L'/\Hp S0 aq σ' (L'++R)
theorem O0{f:FuncId}{args:List Value}{post:Nat->Value->List Ch->Prop}(hc:bL K.L f args A post)(qF:aV.ok f)(pG:aV.sQ f)(C6: ¬K.Xs f)(hl:aq.dI)(H:Hp S0 aq σ (A++R)){n:Nat}(hn:n<=aq.size)
  {β:Bj} {W:World} {S Ro:Nat->Prop} {Iv:World->Prop} {m:Bool} {x':Array Value} {c:Frame} {cs:List Frame} (hx:aG β args.toArray x') (hw:bZ β σ.w W) (hD:Dw σ.w) (hS: ∀b,S b↔SO β σ.w b) (hR: ∀b,ga β σ.w b->Ro b):
  dR K.C m Iv Ro (SQ K.L β σ.w Ro (RC (post n) aq S0 R) c cs) S (gb (Frame.enter K.C f x' .normal) (c::cs)) W:=by
 obtain ⟨fn,cd,g1,g2,g3,g4⟩:=K.HF.same f qF pG C6;have fl:cF K.L K.C β [Frame.enter K.L f args.toArray .normal] [Frame.enter K.C f x' .normal]:= .one (om g1 g2 g3 g4 hx) rfl;refine KD K.HP K.HF (K.hX _) qF pG C6 (Eo K.HPs K.HFs ?_ (λτ _=> ?_) ⟨β,_,[],W,fl.self K.he,hw,hD⟩) hx hw hD hS hR
 ·rintro v w τ ⟨σ',L',q1,q2,q3⟩;obtain ⟨jH,r1,r2⟩:=aaz hl q1.symm q3;exact ⟨jH,L',r1,q2,r2⟩
 ·obtain ⟨jH,r1,r2,r3⟩:=aaA hl τ H;rw [r1];refine (hc.frame r3 (qa8 hn r3.size)).mono ?_;rintro _ w' ⟨v,σ',L',rfl,rfl,hp,H',_⟩;exact ⟨σ',L',rfl,hp,H'⟩
end
end Go.Vc
namespace Go.Cx
open Go Go.Conc
section
variable{P:Program}{m:Bool}{Iv:World->Prop}{Ro:Nat->Prop}{Stop:(Nat->Prop)->Goroutine->World->Prop}{b:Frame}{k:List Item}{cs:List Frame}{ops:Array Oper}{md:Region.Mode}
theorem O1{J:Nat->Array Bool->Act->(Nat->Prop)->World->Prop}(h0: ∀l a S W, ¬J 0 l a S W)(hr: ∀n l a S W,J n l a S W->Region.ready md ops l≠[])(hJ: ∀n l a S W W1,J n l a S W->Ry Iv (λb=>S b\/Ro b) W W1->J n l a S W1)(hS: ∀S g W W1,Stop S g W->Ry Iv (λb=>S b\/Ro b) W W1->Stop S g W1)
  (iV: ∀n l a S W i rest,Iv W->(n=0->rest=[])->J (n+1) l a S W->i∈Region.ready md ops l->dR P m Iv Ro (λS' g' W'=>Stop S' g' W'\/ ∃a',g'=G (b.at a' (.inRegion ops rest::k)) cs/\J n (l.setIfInBounds i true) a' S' W') S (G (b.at a (.inRegion ops (i::rest)::k)) cs) W):
  ∀(n t:Nat) (l:Array Bool) (a:Act) (S:Nat->Prop) (W:World),J n l a S W->dR P m Iv Ro Stop S (G (b.at a (.inRegion ops (Region.linearise.go md ops n t l [])::k)) cs) W:=by
 intro n
 induction n with
 | zero=>intro t l a S W h;exact (h0 _ _ _ _ h).elim
 | succ n ih=>
  intro t l a S W hj;refine dR.now λW1 qL=> ?_;have hJ1:=hJ _ _ _ _ _ _ hj qL;simp only [Region.linearise.go];change dR P m Iv Ro Stop S (G (b.at a (.inRegion ops (match (Region.ready md ops l)[t % (Region.ready md ops l).length]? with
   | some i=>Region.linearise.go md ops n (t / (Region.ready md ops l).length) (l.setIfInBounds i true) [i]
   | none=>[].reverse)::k)) cs) W1
  cases hi:(Region.ready md ops l)[t % (Region.ready md ops l).length]? with
  | none=>
   exfalso;have jv:=hr _ _ _ _ _ hj;have B8:0<(Region.ready md ops l).length:=List.length_pos_iff.2 jv;have:=Nat.mod_lt t B8;rw [List.getElem?_eq_none_iff] at hi;omega
  | some i=>
   simp only;rw [linearise_go_acc,List.reverse_singleton,List.singleton_append];refine (iV n l a S W1 i _ qL.iv (λe=>by subst e;rfl) hJ1 (List.mem_of_getElem? hi)).bind λS' g' W' hI hs=> ?_;rcases hs with hs | ⟨a',rfl,Mi⟩
   ·exact dR.stop λw1 h=>hS _ _ _ _ hs h
   ·exact ih _ _ _ _ _ Mi
theorem zK{S:Nat->Prop}{a:Act}{W:World}{i:Nat}{rest:List Nat}{o:Oper}{v:Value}{J:(Nat->Prop)->Act->World->Prop}(ho:ops[i]? =some o)(hw:Region.wanted o (yielded ops a.tmps)=true)(hk:b.kind≠ .early)
  (h: ∀W1,Ry Iv (λb=>S b\/Ro b) W W1->(execOp a.eval o).run P W1= .ok (.value v) W1/\(∀e∈(execOp a.eval o).events P W1 #[],e.sync=false/\e.write=false/\ ∃ad,e.loc= .cell ad/\Ro ad.block)/\ ∀W2,Ry Iv (λb=>S b\/Ro b) W1 W2->J S (a.put o.dst v) W2):
  dR P m Iv Ro (λS' g' W'=> ∃a',g'=G (b.at a' (.inRegion ops rest::k)) cs/\J S' a' W') S (G (b.at a (.inRegion ops (i::rest)::k)) cs) W:=by
 refine dR.step rfl λW1 qL=> ?_;obtain ⟨h1,h2,h3⟩:=h W1 qL;have hS:nw S W1 W1=S:=by
  funext x;apply propext;exact ⟨λq=>q.elim id λq=>by omega, .inl⟩
 refine ⟨_,W1,_,stepG_value ho hw hk h1,⟨rfl,rfl,rfl,qa3 _,λ_ _ _=>rfl,λe he=> ?_⟩, ?_⟩
 ·obtain ⟨q1,q2,ad,q3,q4⟩:=h2 e (mem_listed he);exact .inl ⟨q1, .inl ⟨ad,q3, .inr ⟨q4,q2⟩⟩⟩
 ·rw [hS];exact dR.stop λW2 iK=>⟨_,rfl,h3 W2 iK⟩
theorem jI{P:Program}{ev:Operand->Value}{d:Option Nat}{T ty:TypeId}{x:Operand}{pos:String}{af:Array Edge}{gd:Option (Nat×Bool)}{bl o:Nat}{D:TypeDesc}(hT:P.underlying T=some D)(hD:(match D with | .struct _=>false | .array _ _=>false | _=>true)=true)
  (hx:ev x= .pointer (some ⟨bl,o,none⟩)) {w:World} {v:Value} (hc:w.cell? ⟨bl,o,none⟩=some v):(execOp ev ⟨d, .load T x,ty,pos,af,gd⟩).events P w #[]= #[⟨.cell ⟨bl,o,none⟩,false,false⟩]:=by
 have h1:(isAgg T).run P w= .ok false w:=by
  simp only [isAgg,underlying,Sem.run_bind,run_program,Result.andThen_ok,hT,Sem.run_pure];cases D <;> simp_all
 have h2:(isAgg T).events P w #[]= #[]:=by
  simp [isAgg,underlying,hT];cases D <;> rfl
 simp [execOp,hx,Instr.loadAt,Instr.sureAddr,loadVar,h1,h2,hc]
end
end Go.Cx
namespace Go.Cx
open Go Go.Conc
section
variable{P:Program}{m:Bool}{Iv:World->Prop}{Ro:Nat->Prop}{Stop:(Nat->Prop)->Goroutine->World->Prop}{b:Frame}{k:List Item}{cs:List Frame}{ops:Array Oper}{S:Nat->Prop}{a:Act}{W:World}{i:Nat}{rest:List Nat}{o:Oper}
theorem rO(S:Nat->Prop)(W:World):nw S W W=S:=by
 funext x;apply propext;exact ⟨λq=>q.elim id λq=>by omega, .inl⟩
theorem aF{g g':Goroutine}(hs:g.status= .running)(h: ∀W1:World,stepG P m g W1= .go g' W1)(hk:dR P m Iv Ro Stop S g' W):dR P m Iv Ro Stop S g W:=by
 refine dR.step hs λW1 qL=>⟨g',W1, #[],h W1, .still _ _ _, ?_⟩;rw [rO];exact hk.rely qL
theorem Te{g:Goroutine}{g':World->Goroutine}{W':World->World}(hs:g.status= .running)(h: ∀W1:World,stepG P m g W1= .go (g' W1) (W' W1))(hW: ∀W1,(W' W1).heap=W1.heap/\(W' W1).tape=W1.tape/\(W' W1).os=W1.os/\(W' W1).output=W1.output)
  (hk: ∀W1,Ry Iv (λb=>S b\/Ro b) W W1->dR P m Iv Ro Stop S (g' W1) (W' W1)):dR P m Iv Ro Stop S g W:=by
 refine dR.step hs λW1 qL=>⟨g' W1,W' W1, #[],h W1, ?_, ?_⟩
 ·obtain ⟨q1,q2,q3,q4⟩:=hW W1;exact ⟨q2,q3,q4,by rw [q1];exact qa3 _,λb _ _=>by rw [q1],λe he=>by simp at he⟩
 ·have:nw S W1 (W' W1)=S:=by
   funext x;apply propext;refine ⟨λq=>q.elim id λq=> ?_, .inl⟩;rw [(hW W1).1] at q;omega
  rw [this];exact hk W1 qL
theorem mA{f:FuncId}{fn:Func}{args:Array Operand}{XB:Array TypeId}(ho:ops[i]? =some o)(hw:Region.wanted o (yielded ops a.tmps)=true)(hk:b.kind≠ .early)(cG:o.op= .call { callee:= .value (.func f),args,argTypes:=XB })
  (hf:P.funcs[f]? =some fn) (yL:(fn.name== "runtime.NumGoroutine")=false) (hb:fn.body.isNone=false) (h:dR P m Iv Ro Stop S (G (Frame.enter P f (args.map a.eval) .normal) (b.at a (.inRegion ops (i::rest)::k)::cs)) W):
  dR P m Iv Ro Stop S (G (b.at a (.inRegion ops (i::rest)::k)) cs) W:=by
 refine dR.step rfl λW1 qL=>⟨_,W1,_,stepG_enter ho hw hk (run_call_body cG hf yL hb),⟨rfl,rfl,rfl,qa3 _,λ_ _ _=>rfl,λe he=> ?_⟩, ?_⟩
 ·have:=mem_listed he;rw [events_call_body cG hf yL hb] at this;simp at this
 ·rw [rO];exact h.rely qL
def Sd(Ro:Nat->Prop)(W0:World)(S:Nat->Prop)(W:World):Prop:= ∀b,Ro b-> ¬S b/\b<W.heap.size/\W.heap[b]? =W0.heap[b]?
theorem Sd.rely{W0 W1:World}(hd:Sd Ro W0 S W)(hr:Ry Iv (λb=>S b\/Ro b) W W1):Sd Ro W0 S W1:=λb hb=>
 let ⟨q1,q2,q3⟩:=hd b hb
 ⟨q1,qa2 q2 hr.size,(hr.blk b (.inr hb)).trans q3⟩
theorem dR.keep{g:Goroutine}{W0:World}(h:dR P m Iv Ro Stop S g W)(hd:Sd Ro W0 S W):
  dR P m Iv Ro (λS' g' W'=>Stop S' g' W'/\Sd Ro W0 S' W') S g W:=by
 obtain ⟨r,h⟩:=h
 induction r generalizing S g W with
 | leaf=>exact dR.stop λw₁ hw=>⟨h w₁ hw,hd.rely hw⟩
 | node f ih=>
  refine dR.mk λw₁ hw=> ?_;have hd1:=hd.rely hw;rcases h w₁ hw with hs | ⟨hs,g',w',es,h1,h2,h3⟩
  ·exact .inl ⟨hs,hd1⟩
  ·refine .inr ⟨hs,g',w',es,h1,h2,ih w₁ (λb hb=> ?_) h3⟩;obtain ⟨q1,q2,q3⟩:=hd1 b hb;exact ⟨λq=>q.elim q1 λq=>by omega,qa2 q2 h2.size,(h2.blk b q2 q1).trans q3⟩
theorem dR.mono{Gy:(Nat->Prop)->Goroutine->World->Prop}{g:Goroutine}(h:dR P m Iv Ro Stop S g W)(hs: ∀S g w,Stop S g w->Gy S g w):dR P m Iv Ro Gy S g W:=by
 obtain ⟨r,h⟩:=h;refine ⟨r, ?_⟩
 induction r generalizing S g W with
 | leaf=>exact λw₁ hw=>hs _ _ _ (h w₁ hw)
 | node f ih=>exact λw₁ hw=>(h w₁ hw).imp (hs _ _ _) λ⟨q,g',w',es,h1,h2,h3⟩=>⟨q,g',w',es,h1,h2,ih w₁ h3⟩
end
end Go.Cx
namespace Go.Cx
open Go Go.Conc
section
variable{P:Program}{m:Bool}{Iv:World->Prop}{Ro:Nat->Prop}{Stop:(Nat->Prop)->Goroutine->World->Prop}{b:Frame}{k:List Item}{cs:List Frame}{ops:Array Oper}{S:Nat->Prop}{a:Act}{W:World}{i:Nat}{rest:List Nat}{o:Oper}
def jz(P:Program):Frame:={ (default:Frame) with fn:=P.funcs.size,defers:=[],mode:= .panicking [goexitEntry] }
theorem Mj{f:FuncId}{fn:Func}{cap args:Array Value}(hf:P.funcs[f]? =some fn)(yL:(fn.name== "runtime.NumGoroutine")=false)(hb:fn.body.isNone=false)(w:World):
  stepG P false (born P { target:= .fn (.func f) cap,args:=args }) w= .go (G (Frame.enter P f (args++cap) .deferred) [jz P]) w:=by
 have h1: ¬fn.name= "runtime.NumGoroutine":=by simpa using yL
 have h2: ¬fn.body=none:=by cases hx:fn.body <;> simp_all
 simp [born,stepG,unwind,callDeferred,invoke,callFunc,hf,h1,h2,GStep.after,G,jz,seen_none]
theorem O2{f:FuncId}{fn:Func}{x:Operand}{cap:Array Value}{XB:Array TypeId}(ho:ops[i]? =some o)(hw:Region.wanted o (yielded ops a.tmps)=true)(hk:b.kind≠ .early)(cG:o.op= .call { callee:= .value x,args:= #[],argTypes:=XB })(hx:a.eval x= .func (.func f) #[] cap)
  (hf:P.funcs[f]? =some fn) (yL:(fn.name== "runtime.NumGoroutine")=false) (hb:fn.body.isNone=false) (h:dR P m Iv Ro Stop S (G (Frame.enter P f cap .normal) (b.at a (.inRegion ops (i::rest)::k)::cs)) W):
  dR P m Iv Ro Stop S (G (b.at a (.inRegion ops (i::rest)::k)) cs) W:=by
 have h1: ¬fn.name= "runtime.NumGoroutine":=by simpa using yL
 have h2: ¬fn.body=none:=by cases hx:fn.body <;> simp_all
 have hr: ∀w,(execOp a.eval o).run P w= .ok (.enter f cap) w:=λw=>by
  unfold execOp;simp [cG,resolve,Deferred.ofValue,invoke,callFunc,hx,hf,h1,h2]
 have he: ∀w,(execOp a.eval o).events P w #[]= #[]:=λw=>by
  unfold execOp;simp [cG,resolve,Deferred.ofValue,invoke,callFunc,hx,hf,h1,h2]
 refine dR.step rfl λW1 qL=>⟨_,W1,_,stepG_enter ho hw hk (hr W1),⟨rfl,rfl,rfl,qa3 _,λ_ _ _=>rfl,λe Aw=> ?_⟩, ?_⟩
 ·have:=mem_listed Aw;rw [he] at this;simp at this
 ·rw [rO];exact h.rely qL
theorem O3{f:FuncId}{x:Operand}{cap:Array Value}{XB:Array TypeId}(ho:ops[i]? =some o)(hw:Region.wanted o (yielded ops a.tmps)=true)(hk:b.kind≠ .early)(cG:o.op= .defer { callee:= .value x,args:= #[],argTypes:=XB })(hx:a.eval x= .func (.func f) #[] cap)
  (h:dR P m Iv Ro Stop S (G (b.at (Act.put ⟨a.tmps,{ target:= .fn (.func f) cap,args:= #[] }::a.defers⟩ o.dst undef) (.inRegion ops rest::k)) cs) W):
  dR P m Iv Ro Stop S (G (b.at a (.inRegion ops (i::rest)::k)) cs) W:=by
 refine aF rfl (λW1=> ?_) h;have hr:(execOp a.eval o).run P W1= .ok (.defer { target:= .fn (.func f) cap,args:= #[] }) W1:=by
  unfold execOp;simp [cG,resolve,Deferred.ofValue,hx]
 have he:(execOp a.eval o).events P W1 #[]= #[]:=by
  unfold execOp;simp [cG,resolve,Deferred.ofValue,hx]
 have Et:(b.at ⟨a.tmps,{ target:= .fn (.func f) cap,args:= #[] }::a.defers⟩ (.inRegion ops (i::rest)::k)).finish undef=b.at (Act.put ⟨a.tmps,{ target:= .fn (.func f) cap,args:= #[] }::a.defers⟩ o.dst undef) (.inRegion ops rest::k):=by rw [Frame.finish_at,ho];rfl
 have pH:(b.kind==CallKind.early)=false:=by simpa using hk
 rw [stepG_oper ho hw, ←Et];simp [stepG.apply,hr,he,G,Frame.at,pH,GStep.after,seen_none]
theorem tK{v:Value}(ho:ops[i]? =some o)(hw:Region.wanted o (yielded ops a.tmps)=true)(hk:b.kind≠ .early)(hr: ∀w:World,(execOp a.eval o).run P w= .ok (.value v) w)(he: ∀w:World,(execOp a.eval o).events P w #[]= #[])
  (h:dR P m Iv Ro Stop S (G (b.at (a.put o.dst v) (.inRegion ops rest::k)) cs) W):dR P m Iv Ro Stop S (G (b.at a (.inRegion ops (i::rest)::k)) cs) W:=by
 refine dR.step rfl λW1 qL=>⟨_,W1,_,stepG_value ho hw hk (hr W1),⟨rfl,rfl,rfl,qa3 _,λ_ _ _=>rfl,λe Aw=> ?_⟩, ?_⟩
 ·have:=mem_listed Aw;rw [he] at this;simp at this
 ·rw [rO];exact h.rely qL
end
end Go.Cx
