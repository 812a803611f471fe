/- One program beside another, one goroutine among others. -/
import Derived.Test.YtbpbncjammigdaaGreatAl
import GoSem.Step
import Derived.Laws.Sem
import Derived.Calls
set_option linter.unusedVariables false
set_option linter.unusedSimpArgs false
set_option maxHeartbeats 4000000
namespace Go.Cx
open Go
class bg where
 ok:FuncId->Prop
 uo:FuncId->Prop
class aM where
 code:Code->Prop
class bk where
 hp:Value->Prop
 noI: ∀t w, ¬hp (.iface t w)
def Odd:Value->Prop
 | .bool _ | .int _ _ | .string _ | .agg _ | .pointer none | .slice none _ _ | .nilFunc | .nilIface | .func (.method _) _ _=>False
 | _=>True
variable[bg][aM][bk]
abbrev Bj:=Nat->Nat->Prop
def Le(β γ:Bj):Prop:= ∀a b,β a b->γ a b
omit [bg] [aM] [bk] in
theorem Le.refl(β:Bj):Le β β:=λ_ _ h=>h
omit [bg] [aM] [bk] in
theorem Le.trans{β γ δ:Bj}(h:Le β γ)(k:Le γ δ):Le β δ:=λa b x=>k a b (h a b x)
structure jE(β:Bj)(a a':Addr):Prop where
 block:β a.block a'.block
 off:a'.off=a.off
 spot:a'.spot=a.spot
omit [bg] [aM] [bk] in
theorem jE.mono{β γ:Bj}(l:Le β γ){a a':Addr}(h:jE β a a'):jE γ a a':=⟨l _ _ h.block,h.off,h.spot⟩
omit [bg] [aM] [bk] in
theorem jE.add{β:Bj}{a a':Addr}(h:jE β a a')(n:Nat):jE β (a.add n) (a'.add n):=by
 unfold Addr.add;by_cases hn:n=0
 ·simp only [hn,if_true];exact h
 ·simp only [hn,if_false];exact ⟨h.block,by simp [h.off],rfl⟩
inductive DU(β:Bj):Fn->Fn->Prop
 | func (f:FuncId):bg.ok f->DU β (.func f) (.func f)
 | yield {l l':Nat}:β l l'->DU β (.yield l) (.yield l')
 | method (n:String):DU β (.method n) (.method n)
omit [aM] [bk] in
theorem DU.mono{β γ:Bj}(l:Le β γ){f f':Fn}(h:DU β f f'):DU γ f f':=by
 cases h with
 | func f h=>exact .func f h
 | yield h=>exact .yield (l _ _ h)
 | method n=>exact .method n
inductive ay(β:Bj):Value->Value->Prop
 | bool (b:Bool):ay β (.bool b) (.bool b)
 | int (k:IntKind) (n:Int):ay β (.int k n) (.int k n)
 | string (s:ByteArray):ay β (.string s) (.string s)
 | pB:ay β (.pointer none) (.pointer none)
 | ptr {a a':Addr}:jE β a a'->ay β (.pointer (some a)) (.pointer (some a'))
 | kT (l c:Nat):ay β (.slice none l c) (.slice none l c)
 | y8 (a a':Addr):ay β (.slice (some a) 0 0) (.slice (some a') 0 0)
 | slice {a a':Addr} (l c:Nat):jE β a a'->ay β (.slice (some a) l c) (.slice (some a') l c)
 | func {f f':Fn} {x x' y y':Array Value}:DU β f f'->x.size=x'.size->y.size=y'.size->(∀(i:Nat) (v v':Value),x[i]? =some v->x'[i]? =some v'->ay β v v')->(∀(i:Nat) (v v':Value),y[i]? =some v->y'[i]? =some v'->ay β v v')->
  ay β (.func f x y) (.func f' x' y')
 | qa:ay β .nilFunc .nilFunc
 | iface (t:TypeId) {v v':Value}:ay β v v'->ay β (.iface t v) (.iface t v')
 | jd:ay β .nilIface .nilIface
 | agg {x x':Array Value}:x.size=x'.size->(∀(i:Nat) (v v':Value),x[i]? =some v->x'[i]? =some v'->ay β v v')->ay β (.agg x) (.agg x')
 | tuple {x x':Array Value}:x.size=x'.size->(∀(i:Nat) (v v':Value),x[i]? =some v->x'[i]? =some v'->ay β v v')->ay β (.tuple x) (.tuple x')
 | hole {v':Value}:Odd v'->bk.hp v'->ay β (.tuple #[]) v'
omit [aM] in
theorem ay.mono{β γ:Bj}(l:Le β γ){v v':Value}(h:ay β v v'):ay γ v v':=by
 induction h with
 | bool b=>exact .bool b
 | int k n=>exact .int k n
 | string s=>exact .string s
 | pB=>exact .pB
 | ptr h=>exact .ptr (h.mono l)
 | kT n c=>exact .kT n c
 | y8 a a'=>exact .y8 a a'
 | slice n c h=>exact .slice n c (h.mono l)
 | func h h1 h2 _ _ i1 i2=>exact .func (h.mono l) h1 h2 i1 i2
 | qa=>exact .qa
 | iface t _ ih=>exact .iface t ih
 | jd=>exact .jd
 | agg h _ ih=>exact .agg h ih
 | tuple h _ ih=>exact .tuple h ih
 | hole h k=>exact .hole h k
def aL(β:Bj)(x x':Array Value):Prop:=x.size=x'.size/\ ∀(i:Nat) (v v':Value),x[i]? =some v->x'[i]? =some v'->ay β v v'
omit [aM] in
theorem aL.mono{β γ:Bj}(l:Le β γ){x x':Array Value}(h:aL β x x'):aL γ x x':=⟨h.1,λi v v' a b=>(h.2 i v v' a b).mono l⟩
omit [aM] in
theorem aL.get{β:Bj}{x x':Array Value}(h:aL β x x'){i:Nat}{v:Value}(hv:x[i]? =some v): ∃v',x'[i]? =some v'/\ay β v v':=by
 obtain ⟨hi,_⟩:=qa1.1 hv;have gA:i<x'.size:=h.1▸hi;exact ⟨x'[i],Array.getElem?_eq_getElem gA,h.2 i _ _ hv (Array.getElem?_eq_getElem gA)⟩
omit [aM] in
theorem aL.none{β:Bj}{x x':Array Value}(h:aL β x x'){i:Nat}(hv:x[i]? =none):x'[i]? =none:=by
 rw [Array.getElem?_eq_none_iff] at hv ⊢;rw [←h.1];exact hv
omit [aM] in
theorem aL.empty{β:Bj}:aL β #[] #[]:=⟨rfl,λi v v' h=>by simp at h⟩
omit [aM] in
theorem aL.push{β:Bj}{x x':Array Value}{v v':Value}(h:aL β x x')(hv:ay β v v'):aL β (x.push v) (x'.push v'):=by
 refine ⟨by simp [h.1],λi u u' hu uL=> ?_⟩;rw [qbt] at hu uL;split at hu
 ·rename_i e;rw [if_pos (e.trans h.1)] at uL;cases hu;cases uL;exact hv
 ·rename_i e;rw [if_neg (by rw [←h.1];exact e)] at uL;exact h.2 i u u' hu uL
omit [aM] in
theorem aL.append{β:Bj}{x x' y y':Array Value}(h:aL β x x')(k:aL β y y'):aL β (x++y) (x'++y'):=by
 refine ⟨by simp [h.1,k.1],λi u u' hu uL=> ?_⟩;rw [Array.getElem?_append] at hu uL;split at hu
 ·rename_i e;rw [if_pos (by rw [←h.1];exact e)] at uL;exact h.2 i u u' hu uL
 ·rename_i e;rw [if_neg (by rw [←h.1];exact e), ←h.1] at uL;exact k.2 _ u u' hu uL
omit [aM] in
theorem aL.set{β:Bj}{x x':Array Value}{v v':Value}(h:aL β x x')(hv:ay β v v')(k:Nat):aL β (x.setIfInBounds k v) (x'.setIfInBounds k v'):=by
 refine ⟨by simp [h.1],λi u u' hu uL=> ?_⟩;rw [qag] at hu uL;split at hu
 ·rename_i e;rw [if_pos e, ←h.1] at uL;split at hu
  ·rename_i e2;rw [if_pos e2] at uL;cases hu;cases uL;exact hv
  ·cases hu
 ·rename_i e;rw [if_neg e] at uL;exact h.2 i u u' hu uL
omit [aM] in
theorem aL.extract{β:Bj}{x x':Array Value}(h:aL β x x')(a b:Nat):aL β (x.extract a b) (x'.extract a b):=by
 refine ⟨by simp [h.1],λi u u' hu uL=> ?_⟩;rw [Array.getElem?_extract] at hu uL;split at hu
 ·rename_i e;rw [if_pos (by rw [←h.1];exact e)] at uL;exact h.2 _ u u' hu uL
 ·cases hu
omit [aM] in
theorem aL.one{β:Bj}{v v':Value}(h:ay β v v'):aL β #[v] #[v']:=aL.empty.push h
omit [aM] in
theorem aL.FA{β:Bj}{x x':Array Value}(h:aL β x x'):ay β (.agg x) (.agg x'):= .agg h.1 h.2
omit [aM] in
theorem aL.HI{β:Bj}{x x':Array Value}(h:aL β x x'):ay β (.tuple x) (.tuple x'):= .tuple h.1 h.2
omit [aM] in
theorem ay.cells{β:Bj}{v v':Value}(h:ay β v v'):aL β v.cells v'.cells:=by
 cases h with
 | agg h k=>exact ⟨h,k⟩
 | bool b=>exact aL.one (.bool b)
 | int k n=>exact aL.one (.int k n)
 | string s=>exact aL.one (.string s)
 | pB=>exact aL.one .pB
 | ptr h=>exact aL.one (.ptr h)
 | kT n c=>exact aL.one (.kT n c)
 | y8 a a'=>exact aL.one (.y8 a a')
 | slice n c h=>exact aL.one (.slice n c h)
 | func h h1 h2 h3 h4=>exact aL.one (.func h h1 h2 h3 h4)
 | qa=>exact aL.one .qa
 | iface t h=>exact aL.one (.iface t h)
 | jd=>exact aL.one .jd
 | tuple h k=>exact aL.one (.tuple h k)
 | @hole v' h k=>exact (show v'.cells= #[v'] by cases v' <;> first | rfl | exact h.elim)▸aL.one (.hole h k)
omit [aM] in
theorem aL.map{β:Bj}{α:Type}{xs:Array α}{f g:α->Value}(h: ∀x∈xs,ay β (f x) (g x)):aL β (xs.map f) (xs.map g):=by
 refine ⟨by simp,λi u u' hu uL=> ?_⟩;rw [qc8] at hu uL;cases hx:xs[i]? with
 | none=>rw [hx] at hu;cases hu
 | some x=>rw [hx] at hu uL;cases hu;cases uL;exact h x (qb5 hx)
inductive Plain:Value->Prop
 | bool (b:Bool):Plain (.bool b)
 | int (k:IntKind) (n:Int):Plain (.int k n)
 | string (s:ByteArray):Plain (.string s)
 | pB:Plain (.pointer none)
 | kT (l c:Nat):Plain (.slice none l c)
 | qa:Plain .nilFunc
 | jd:Plain .nilIface
 | agg {x:Array Value}:(∀(i:Nat) (v:Value),x[i]? =some v->Plain v)->Plain (.agg x)
 | tuple {x:Array Value}:(∀(i:Nat) (v:Value),x[i]? =some v->Plain v)->Plain (.tuple x)
omit [aM] in
theorem Plain.rel{β:Bj}{v:Value}(h:Plain v):ay β v v:=by
 induction h with
 | bool b=>exact .bool b
 | int k n=>exact .int k n
 | string s=>exact .string s
 | pB=>exact .pB
 | kT n c=>exact .kT n c
 | qa=>exact .qa
 | jd=>exact .jd
 | agg _ ih=>exact .agg rfl λi v v' h h'=>by rw [h] at h';cases h';exact ih i v h
 | tuple _ ih=>exact .tuple rfl λi v v' h h'=>by rw [h] at h';cases h';exact ih i v h
structure Kr(β:Bj)(l l':Loop):Prop where
 state:l'.state=l.state
 pending:l'.pending=l.pending
 fn:l'.fn=l.fn
 tmps:aL β l.tmps l'.tmps
 params:l'.params=l.params
 assign:l'.assign=l.assign
 body:l'.body=l.body
 defers:β l.defers l'.defers
 ca:aM.code l.assign
 cb:aM.code l.body
 cp: ∀c,l.pending=some c->aM.code c
theorem Kr.mono{β γ:Bj}(l:Le β γ){x x':Loop}(h:Kr β x x'):Kr γ x x':=⟨h.state,h.pending,h.fn,h.tmps.mono l,h.params,h.assign,h.body,l _ _ h.defers,h.ca,h.cb,h.cp⟩
inductive tn(β:Bj):Obj->Obj->Prop
 | cells {c c':Array Value} (e:TypeId):aL β c c'->tn β (.cells c e) (.cells c' e)
 | lock {c c':Array Value} {f':Nat×Nat} (e:TypeId):aL β c c'->tn β (.cells c e (0,c.size+1)) (.cells c' e f')
 | loop {l l':Loop}:Kr β l l'->tn β (.loop l) (.loop l')
 | num {a a':Addr} (lost:Bool):jE β a a'->tn β (.number a lost) (.number a' lost)
 | DJ (b:Bool):tn β (.deferred (if b then some [] else none)) (.deferred (if b then some [] else none))
theorem tn.mono{β γ:Bj}(l:Le β γ){x x':Obj}(h:tn β x x'):tn γ x x':=by
 cases h with
 | cells e h=>exact .cells e (h.mono l)
 | lock e h=>exact .lock e (h.mono l)
 | loop h=>exact .loop (h.mono l)
 | num b h=>exact .num b (h.mono l)
 | DJ b=>exact .DJ b
inductive zi(β:Bj):Obj->Obj->Prop
 | cells {c c':Array Value} (e:TypeId):aL β c c'->zi β (.cells c e) (.cells c' e)
 | loop {l l':Loop}:Kr β l l'->zi β (.loop l) (.loop l')
 | num {a a':Addr} (lost:Bool):jE β a a'->zi β (.number a lost) (.number a' lost)
 | DJ (b:Bool):zi β (.deferred (if b then some [] else none)) (.deferred (if b then some [] else none))
theorem zi.o{β:Bj}{x x':Obj}(h:zi β x x'):tn β x x':=by
 cases h with
 | cells e h=>exact .cells e h
 | loop h=>exact .loop h
 | num b h=>exact .num b h
 | DJ b=>exact .DJ b
theorem zi.no{β:Bj}{x x':Obj}(h:zi β x x')(c:Array Value)(e:TypeId)(q:x= .cells c e (0,c.size+1)):False:=by
 cases h with
 | cells e h=>injection q with q1 q2 q3;simp at q3
 | loop h=>cases q
 | num b h=>cases q
 | DJ b=>cases q
end Go.Cx
namespace Go.Cx
open Go
variable[bg][aM][bk]
def Ks:Halt->Prop
 | .panic _ | .stuck _=>True
 | .unsupported u=> ∀g,u≠ .initOrder g
 | _=>False
def Mld(L:Program){α:Type}(s:Sem α):Prop:= ∀w h w1,s.run L w= .halt h w1->Ks h
def Dw(w:World):Prop:= ∀(r:Nat) (ds:List Deferred),w.heap[r]? =some (Obj.deferred (some ds))->ds=[]
structure aT(L:Program){α:Type}(s:Sem α):Prop where
 no: ∀w a w1,s.run L w≠ .ok a w1
 BV:Mld L s
 kp: ∀w h w1,Dw w->s.run L w= .halt h w1->Dw w1
omit [bg] [aM] [bk] in
theorem aT.eM{L:Program}{α γ:Type}{s:Sem α}{f:α->Sem γ}(h:aT L s):aT L (s >>= f):=by
 refine ⟨λw a w1 q=> ?_,λw hh w1 q=> ?_,λw hh w1 hd q=> ?_⟩
 ·rw [Sem.run_bind] at q;cases hs:s.run L w with
  | ok x w'=>exact h.no _ _ _ hs
  | halt hh w'=>rw [hs] at q;cases q
 ·rw [Sem.run_bind] at q;cases hs:s.run L w with
  | ok x w'=>exact (h.no _ _ _ hs).elim
  | halt hh w'=>rw [hs] at q;cases q;exact h.BV _ _ _ hs
 ·rw [Sem.run_bind] at q;cases hs:s.run L w with
  | ok x w'=>exact (h.no _ _ _ hs).elim
  | halt hh w'=>rw [hs] at q;cases q;exact h.kp _ _ _ hd hs
section
variable(Pl Pc:Program)
inductive aD{α:Type}(RA:Bj->α->α->Prop):Bj->Sem α->Sem α->Prop
 | pure {β:Bj} {a a':α}:RA β a a'->aD RA β (.pure a) (.pure a')
 | load {β:Bj} {a a':Addr} {k k':Value->Sem α}:jE β a a'->(∀v v',ay β v v'->aD RA β (k v) (k' v'))->aD RA β (.load .plain a k) (.load .plain a' k')
 | store {β:Bj} {a a':Addr} {v v':Value} {k k':Sem α}:jE β a a'->ay β v v'->aD RA β k k'->aD RA β (.store .plain a v k) (.store .plain a' v' k')
 | new {β:Bj} {o o':Obj} {k k':Nat->Sem α}:zi β o o'->(∀γ r r',Le β γ->γ r r'->aD RA γ (k r) (k' r'))->aD RA β (.new o k) (.new o' k')
 | shape {β:Bj} {r r':Nat} {k k':Option (TypeId×Nat)->Sem α}:β r r'->(∀s,aD RA β (k s) (k' s))->aD RA β (.shape r k) (.shape r' k')
 | getObj {β:Bj} {r r':Nat} {k k':Obj->Sem α}:β r r'->(∀o o',tn β o o'->aD RA β (k o) (k' o'))->aD RA β (.getObj r k) (.getObj r' k')
 | setObj {β:Bj} {r r':Nat} {o o':Obj} {k k':Sem α}:β r r'->zi β o o'->(∀c e f,o≠ .cells c e f)->aD RA β k k'->aD RA β (.setObj r o k) (.setObj r' o' k')
 | choose {β:Bj} {q:Question} {k k':Nat->Sem α}:(∀n,aD RA β (k n) (k' n))->aD RA β (.choose q k) (.choose q k')
 | program {β:Bj} {k k':Program->Sem α}:aD RA β (k Pl) (k' Pc)->aD RA β (.program k) (.program k')
 | mark {β:Bj} {k k':Sem α}:aD RA β k k'->aD RA β (.mark .noRoom k) (.mark .noRoom k')
 | dead {β:Bj} {s t:Sem α}:aT Pl s->aD RA β s t
variable{Pl Pc}
theorem aD.bind{α γ:Type}{RA:Bj->α->α->Prop}{RB:Bj->γ->γ->Prop}{β:Bj}{s t:Sem α}{f g:α->Sem γ}(h:aD Pl Pc RA β s t)(k: ∀cq a a',Le β cq->RA cq a a'->aD Pl Pc RB cq (f a) (g a')):aD Pl Pc RB β (s.bind f) (t.bind g):=by
 induction h with
 | pure h=>exact k _ _ _ (Le.refl _) h
 | load ha _ ih=>exact .load ha λv v' hv=>ih v v' hv k
 | store ha hv _ ih=>exact .store ha hv (ih k)
 | new ho _ ih=>exact .new ho λγ r r' hl hr=>ih γ r r' hl hr λcq a a' rD h=>k cq a a' (hl.trans rD) h
 | shape hr _ ih=>exact .shape hr λs=>ih s k
 | getObj hr _ ih=>exact .getObj hr λo o' ho=>ih o o' ho k
 | setObj hr ho hn _ ih=>exact .setObj hr ho hn (ih k)
 | choose _ ih=>exact .choose λn=>ih n k
 | program _ ih=>exact .program (ih k)
 | mark _ ih=>exact .mark (ih k)
 | dead hd=>exact .dead (aT.eM hd)
theorem aD.imp{α:Type}{RA RB:Bj->α->α->Prop}{β:Bj}{s t:Sem α}(h:aD Pl Pc RA β s t)(k: ∀cq a a',Le β cq->RA cq a a'->RB cq a a'):aD Pl Pc RB β s t:=by
 induction h with
 | pure h=>exact .pure (k _ _ _ (Le.refl _) h)
 | load ha _ ih=>exact .load ha λv v' hv=>ih v v' hv k
 | store ha hv _ ih=>exact .store ha hv (ih k)
 | new ho _ ih=>exact .new ho λγ r r' hl hr=>ih γ r r' hl hr λcq a a' rD h=>k cq a a' (hl.trans rD) h
 | shape hr _ ih=>exact .shape hr λs=>ih s k
 | getObj hr _ ih=>exact .getObj hr λo o' ho=>ih o o' ho k
 | setObj hr ho hn _ ih=>exact .setObj hr ho hn (ih k)
 | choose _ ih=>exact .choose λn=>ih n k
 | program _ ih=>exact .program (ih k)
 | mark _ ih=>exact .mark (ih k)
 | dead h=>exact .dead h
end
structure cH(β:Bj)(w W:World):Prop where
 obj: ∀a b,β a b-> ∃o o',w.heap[a]? =some o/\W.heap[b]? =some o'/\tn β o o'
 inj: ∀a a' b,β a b->β a' b->a=a'
 fn: ∀a b b',β a b->β a b'->b=b'
theorem cH.UO{β:Bj}{w W:World}(h:cH β w W){a b:Nat}(hb:β a b):a<w.heap.size:=by
 obtain ⟨o,_,h1,_⟩:=h.obj a b hb;exact (qa1.1 h1).1
theorem cH.PX{β:Bj}{w W:World}(h:cH β w W){a b:Nat}(hb:β a b):b<W.heap.size:=by
 obtain ⟨_,o',_,h1,_⟩:=h.obj a b hb;exact (qa1.1 h1).1
def gU(β:Bj)(w:World)(b:Nat):Prop:= ∃a c e,β a b/\True/\w.heap[a]? =some (.cells c e (0,c.size+1))
def uq(β:Bj)(w:World)(e:Event):Prop:=
 (e.sync=false/\((∃ad a,e.loc= .cell ad/\β a ad.block/\(e.write=true-> ¬gU β w ad.block))\/(∃r a,e.loc= .obj r/\β a r/\ ¬gU β w r)))\/e=⟨.mark .noRoom,false,true⟩
structure mY(β cq:Bj)(w w1 W W1:World):Prop where
 le:Le β cq
 Mw:w1.tape=w.tape
 tape:W1.tape=W.tape
 os:W1.os=W.os
 output:W1.output=W.output
 zj:w.drawn<=w1.drawn
 drawn:W1.drawn=W.drawn+(w1.drawn - w.drawn)
 size:W.heap.size<=W1.heap.size
 HJ:w.heap.size<=w1.heap.size
 stay: ∀b,b<W.heap.size->(∀a, ¬β a b)->W1.heap[b]? =W.heap[b]?
 lock: ∀b,gU β w b->W1.heap[b]? =W.heap[b]?
 Es: ∀b,gU β w b->gU cq w1 b
 unlock: ∀b,(∃a,β a b)-> ¬gU β w b-> ¬gU cq w1 b
 fresh: ∀a b,cq a b->β a b\/(w.heap.size<=a/\W.heap.size<=b/\b<W1.heap.size/\ ¬gU cq w1 b)
 all: ∀b,W.heap.size<=b->b<W1.heap.size-> ∃a,cq a b
 ofs: ∀a b,cq a b->β a b\/a+W.heap.size=b+w.heap.size
 grow:w1.heap.size+W.heap.size=W1.heap.size+w.heap.size
 Ql: ∀a,a<w.heap.size->(∀b, ¬β a b)->w1.heap[a]? =w.heap[a]?
omit [bg] [aM] [bk] in
theorem mY.refl(β:Bj)(w W:World):mY β β w w W W:=
 ⟨Le.refl _,rfl,rfl,rfl,rfl,qa2 _,by omega,qa2 _,qa2 _,λ_ _ _=>rfl,λ_ _=>rfl,λ_ h=>h,λ_ _ h=>h,λ_ _ h=> .inl h,λb h1 h2=>by omega,λ_ _ h=> .inl h,by omega,λ_ _ _=>rfl⟩
omit [bg] [aM] [bk] in
theorem mY.trans{β cq jc:Bj}{w w1 w2 W W1 W2:World}(h:mY β cq w w1 W W1)(k:mY cq jc w1 w2 W1 W2):mY β jc w w2 W W2 where
 le:=h.le.trans k.le
 Mw:=k.Mw.trans h.Mw
 tape:=k.tape.trans h.tape
 os:=k.os.trans h.os
 output:=k.output.trans h.output
 zj:=qaa h.zj k.zj
 drawn:=by have:=h.drawn;have:=k.drawn;have:=h.zj;have:=k.zj;omega
 size:=qaa h.size k.size
 HJ:=qaa h.HJ k.HJ
 stay:=λb hb hn=>by
  have h1: ∀a, ¬cq a b:=λa ha=>by
   rcases h.fresh a b ha with hh | ⟨_,hh,_⟩
   ·exact hn a hh
   ·omega
  exact (k.stay b (qa3 hb h.size) h1).trans (h.stay b hb hn)
 lock:=λb hb=>(k.lock b (h.Es b hb)).trans (h.lock b hb)
 Es:=λb hb=>k.Es b (h.Es b hb)
 unlock:=λb ⟨a,ha⟩ hn=>k.unlock b ⟨a,h.le a b ha⟩ (h.unlock b ⟨a,ha⟩ hn)
 fresh:=λa b nW=>by
  rcases k.fresh a b nW with hh | ⟨g1,g2,g3,g4⟩
  ·rcases h.fresh a b hh with h1 | ⟨h1,h2,h3,h4⟩
   ·exact .inl h1
   ·exact .inr ⟨h1,h2,qa3 h3 k.size,k.unlock b ⟨a,hh⟩ h4⟩
  ·exact .inr ⟨qaa h.HJ g1,qaa h.size g2,g3,g4⟩
 all:=λb h1 h2=>by
  by_cases hb:b<W1.heap.size
  ·obtain ⟨a,ha⟩:=h.all b h1 hb;exact ⟨a,k.le a b ha⟩
  ·exact k.all b (by omega) h2
 ofs:=λa b nW=>by
  have h1:=h.grow;rcases k.ofs a b nW with hh | hh
  ·exact h.ofs a b hh
  ·exact .inr (by omega)
 grow:=by have:=h.grow;have:=k.grow;omega
 Ql:=λa ha hn=>by
  have h1: ∀b, ¬cq a b:=λb hb=>by
   rcases h.fresh a b hb with hh | ⟨hh,_⟩
   ·exact hn b hh
   ·omega
  exact (k.Ql a (qa3 ha h.HJ) h1).trans (h.Ql a ha hn)
omit [bg] [aM] [bk] in
theorem uq.nN{β cq:Bj}{w w1 W W1:World}{e:Event}(h:uq β w e)(k:mY β cq w w1 W W1):uq cq w1 e:=by
 obtain ⟨h0,⟨ad,a,h1,h2,h3⟩ | ⟨r,a,h1,h2,h3⟩⟩ | h:=h
 ·exact .inl ⟨h0, .inl ⟨ad,a,h1,k.le _ _ h2,λhw=>k.unlock _ ⟨a,h2⟩ (h3 hw)⟩⟩
 ·exact .inl ⟨h0, .inr ⟨r,a,h1,k.le _ _ h2,k.unlock _ ⟨a,h2⟩ h3⟩⟩
 ·exact .inr h
def iS(w W:World):Prop:= ∀(j:Nat) (q:Question),W.tape (W.drawn+j) q=w.tape (w.drawn+j) q
omit [bg] [aM] [bk] in
theorem iS.nN{β cq:Bj}{w w1 W W1:World}(h:iS w W)(k:mY β cq w w1 W W1):iS w1 W1:=λj q=>by
 have:=k.drawn;have:=k.zj;have e1:W1.drawn+j=W.drawn+((w1.drawn - w.drawn)+j):=by omega
 have e2:w1.drawn+j=w.drawn+((w1.drawn - w.drawn)+j):=by omega
 rw [k.tape,k.Mw,e1,e2];exact h _ q
omit [bg] [aM] [bk] in
theorem rW{w:World}{a:Addr}{v:Value}(h:w.cell? a=some v): ∃c e f,w.heap[a.block]? =some (.cells c e f)/\a.spot=none/\c[a.off]? =some v:=by
 unfold World.cell? at h;split at h
 ·rename_i c e f heq;split at h
  ·cases h
  ·rename_i hs;exact ⟨c,e,f,heq,by simpa using hs,h⟩
 ·cases h
omit [bg] [aM] [bk] in
theorem cell_of{w:World}{a:Addr}{v:Value}{c:Array Value}{e:TypeId}{f:Nat×Nat}(h:w.heap[a.block]? =some (.cells c e f))(hs:a.spot=none)(hc:c[a.off]? =some v):w.cell? a=some v:=by
 unfold World.cell?; rw [h];simp [hs,hc]
theorem cH.cell{β:Bj}{w W:World}(h:cH β w W){a a':Addr}(ha:jE β a a'){v:Value}(hv:w.cell? a=some v): ∃v',W.cell? a'=some v'/\ay β v v':=by
 obtain ⟨c,e,f,h1,h2,h3⟩:=rW hv;obtain ⟨o,o',k1,k2,k3⟩:=h.obj _ _ ha.block;rw [h1] at k1;cases k1;cases k3 with
 | cells e hc=>
  obtain ⟨v',g1,g2⟩:=hc.get h3;exact ⟨v',cell_of k2 (ha.spot.trans h2) (ha.off▸g1),g2⟩
 | lock e hc=>
  obtain ⟨v',g1,g2⟩:=hc.get h3;exact ⟨v',cell_of k2 (ha.spot.trans h2) (ha.off▸g1),g2⟩
omit [bg] [aM] [bk] in
theorem size_setCell{w:World}{a:Addr}{v:Value}:(w.setCell a v).heap.size=w.heap.size:=by simp [World.setCell]
omit [bg] [aM] [bk] in
theorem je{w:World}{a:Addr}{v:Value}{b:Nat}(h:b≠a.block):(w.setCell a v).heap[b]? =w.heap[b]? :=by
 unfold World.setCell;simp only;rw [qc2,if_neg (λe=>h e.symm)]
omit [bg] [aM] [bk] in
theorem xI{w:World}{a:Addr}{v:Value}{c:Array Value}{e:TypeId}{f:Nat×Nat}(h:w.heap[a.block]? =some (.cells c e f))(hs:a.spot=none):(w.setCell a v).heap[a.block]? =some (.cells (c.setIfInBounds a.off v) e f):=by
 unfold World.setCell;simp only;rw [qc2,if_pos rfl,h];simp [hs]
end Go.Cx
namespace Go.Cx
open Go
variable[bg][aM][bk]
theorem cH.Vj{β:Bj}{w W:World}(h:cH β w W){a a' b b':Nat}(h1:β a b)(h2:β a' b'):a=a'↔b=b':=
 ⟨λe=>by subst e;exact h.fn _ _ _ h1 h2,λe=>by subst e;exact h.inj _ _ _ h1 h2⟩
theorem wT{β:Bj}{w W:World}(h:cH β w W){a a':Addr}{v v':Value}(ha:jE β a a')(hv:ay β v v'){u:Value}(hc:w.cell? a=some u)(hf:w.frozen? a=false):
  (∃u',W.cell? a'=some u')/\W.frozen? a'=false/\cH β (w.setCell a v) (W.setCell a' v')/\mY β β w (w.setCell a v) W (W.setCell a' v')/\uq β (w.setCell a v) ⟨.cell a',true,false⟩:=by
 obtain ⟨c,e,f,h1,h2,h3⟩:=rW hc;obtain ⟨o,o',k1,k2,k3⟩:=h.obj _ _ ha.block;rw [h1] at k1;cases k1;have bG:=(qa1.1 h3).1;have FB:a'.spot=none:=ha.spot.trans h2;cases k3 with
 | lock e hcc=>
  exfalso;unfold World.frozen? at hf;rw [h1] at hf;simp at hf;omega
 | @cells _ c' _ hcc=>
  have Yq: ¬gU β w a'.block:=by
   rintro ⟨x,c2,e2,q1,q2,q3⟩;have:=h.inj _ _ _ q1 ha.block;subst this;rw [h1] at q3;injection q3 with q3
   injection q3 with q4 q5 q6
   simp at q6
  have ace:=xI (v:=v) h1 h2;have Yr:=xI (v:=v') k2 FB;have af3: ∀x y,β x y-> ∃o o',(w.setCell a v).heap[x]? =some o/\(W.setCell a' v').heap[y]? =some o'/\tn β o o':=by
   intro x y J8;by_cases hx:x=a.block
   ·subst hx;have:=h.fn _ _ _ J8 ha.block;subst this;rw [ha.off] at Yr;exact ⟨_,_,ace,Yr, .cells e (hcc.set hv _)⟩
   ·have hy:y≠a'.block:=λq=>hx ((h.Vj J8 ha.block).2 q);rw [je hx,je hy];exact h.obj x y J8
  have Ys: ∀b,gU β w b->b≠a'.block:=λb hb q=>Yq (q▸hb);have db: ∀b,gU β (w.setCell a v) b↔gU β w b:=by
   intro b
   constructor
   ·rintro ⟨x,c2,e2,q1,q2,q3⟩;by_cases hx:x=a.block
    ·subst hx;rw [ace] at q3;injection q3 with q3
     injection q3 with q4 q5 q6
     simp at q6
    ·exact ⟨x,c2,e2,q1,q2,(je hx)▸q3⟩
   ·rintro ⟨x,c2,e2,q1,q2,q3⟩;have hb:=Ys b ⟨x,c2,e2,q1,q2,q3⟩;have hx:x≠a.block:=λq=>hb ((h.Vj q1 ha.block).1 q);exact ⟨x,c2,e2,q1,q2,(je hx).trans q3⟩
  refine ⟨?_, ?_,⟨af3,h.inj,h.fn⟩, ?_, .inl ⟨rfl, .inl ⟨a',a.block,rfl,ha.block,λ_ hl=>Yq ((db _).1 hl)⟩⟩⟩
  ·obtain ⟨u',hu,_⟩:=h.cell ha hc;exact ⟨u',hu⟩
  ·unfold World.frozen?; rw [k2];simp
  ·refine ⟨Le.refl _,rfl,rfl,rfl,rfl,qa2 _,by show _=_+(w.drawn - w.drawn);simp [World.setCell],by rw [size_setCell];exact qa2 _,by rw [size_setCell];exact qa2 _, ?_, ?_,λb hb=>(db b).2 hb,λb _ hn hl=>hn ((db b).1 hl),λx y q=> .inl q,λb q1 q2=>by rw [size_setCell] at q2;omega,λx y q=> .inl q,by rw [size_setCell,size_setCell];omega,λx _ hn=>je λq=>hn a'.block (q▸ha.block)⟩
   ·intro b _ hn;exact je λq=>hn a.block (q▸ha.block)
   ·intro b hb;exact je (Ys b hb)
theorem BW{β:Bj}{w W:World}(h:cH β w W){o o':Obj}(ho:tn β o o')(NQ: ∀c e,o= .cells c e (0,c.size+1)->False):
  cH (λa b=>β a b\/(a=w.heap.size/\b=W.heap.size)) { w with heap:=w.heap.push o } { W with heap:=W.heap.push o' }/\
  mY β (λa b=>β a b\/(a=w.heap.size/\b=W.heap.size)) w { w with heap:=w.heap.push o } W { W with heap:=W.heap.push o' }:=by
 have hle:Le β (λa b=>β a b\/(a=w.heap.size/\b=W.heap.size)):=λa b h=> .inl h;have pL: ∀x,x<w.heap.size->(w.heap.push o)[x]? =w.heap[x]? :=λx hx=>by rw [qbt,if_neg (by omega)]
 have pC: ∀x,x<W.heap.size->(W.heap.push o')[x]? =W.heap[x]? :=λx hx=>by rw [qbt,if_neg (by omega)]
 have nL:(w.heap.push o)[w.heap.size]? =some o:=by rw [qbt,if_pos rfl]
 have nC:(W.heap.push o')[W.heap.size]? =some o':=by rw [qbt,if_pos rfl]
 have Vk: ∀b, ¬gU (λa b=>β a b\/(a=w.heap.size/\b=W.heap.size)) { w with heap:=w.heap.push o } b\/ ∃a,β a b:=by
  intro b;by_cases hb: ∃a,β a b
  ·exact .inr hb
  ·refine .inl ?_;rintro ⟨a,c,e,q1,q2,q3⟩;rcases q1 with q1 | ⟨rfl,rfl⟩
   ·exact hb ⟨a,q1⟩
   ·rw [nL] at q3;injection q3 with q3
    exact (NQ c e q3).elim
 refine ⟨⟨?_, ?_, ?_⟩,⟨hle,rfl,rfl,rfl,rfl,qa2 _,by simp,by simp,by simp, ?_, ?_, ?_, ?_, ?_, ?_, ?_, ?_, ?_⟩⟩
 ·rintro a b (nW | ⟨rfl,rfl⟩)
  ·obtain ⟨x,x',h1,h2,h3⟩:=h.obj a b nW;exact ⟨x,x',(pL a (h.UO nW)).trans h1,(pC b (h.PX nW)).trans h2,h3.mono hle⟩
  ·exact ⟨o,o',nL,nC,ho.mono hle⟩
 ·rintro a a' b (h1 | ⟨rfl,rfl⟩) (h2 | ⟨h3,h4⟩)
  ·exact h.inj _ _ _ h1 h2
  ·exact absurd (h.PX h1) (by rw [h4];exact qc1 _)
  ·exact absurd (h.PX h2) (qc1 _)
  ·exact h3.symm
 ·rintro a b b' (h1 | ⟨rfl,rfl⟩) (h2 | ⟨h3,h4⟩)
  ·exact h.fn _ _ _ h1 h2
  ·exact absurd (h.UO h1) (by rw [h3];exact qc1 _)
  ·exact absurd (h.UO h2) (qc1 _)
  ·exact h4.symm
 ·intro b hb _;exact pC b hb
 ·rintro b ⟨a,c,e,q1,q2,q3⟩;exact pC b (h.PX q1)
 ·rintro b ⟨a,c,e,q1,q2,q3⟩;exact ⟨a,c,e, .inl q1,q2,(pL a (h.UO q1)).trans q3⟩
 ·rintro b ⟨a,ha⟩ hn ⟨x,c,e,q1,q2,q3⟩;rcases q1 with q1 | ⟨rfl,rfl⟩
  ·exact hn ⟨x,c,e,q1,q2,(pL x (h.UO q1))▸q3⟩
  ·exact absurd (h.PX ha) (qc1 _)
 ·rintro a b (nW | ⟨rfl,rfl⟩)
  ·exact .inl nW
  ·refine .inr ⟨qa2 _,qa2 _,by simp, ?_⟩;rcases Vk W.heap.size with hh | ⟨x,hx⟩
   ·exact hh
   ·exact absurd (h.PX hx) (qc1 _)
 ·intro b h1 h2;simp only [Array.size_push] at h2;exact ⟨w.heap.size, .inr ⟨rfl,by omega⟩⟩
 ·rintro a b (nW | ⟨rfl,rfl⟩)
  ·exact .inl nW
  ·exact .inr (by omega)
 ·simp only [Array.size_push];omega
 ·intro a ha _;exact pL a ha
theorem cH.draw{β:Bj}{w W:World}(h:cH β w W)(d D:Nat):cH β { w with drawn:=d } { W with drawn:=D }:=⟨h.obj,h.inj,h.fn⟩
theorem uM{β:Bj}{w W:World}(h:cH β w W){r r':Nat}{o o' p:Obj}(hr:β r r')(ho:tn β o o')(hp:w.heap[r]? =some p)(hn: ∀c e f,p≠ .cells c e f)(NQ: ∀c e f,o≠ .cells c e f):
  (∃p',W.heap[r']? =some p'/\(∀c e f,p'≠ .cells c e f)/\p'.isChan=false)/\cH β { w with heap:=w.heap.setIfInBounds r o } { W with heap:=W.heap.setIfInBounds r' o' }/\
  mY β β w { w with heap:=w.heap.setIfInBounds r o } W { W with heap:=W.heap.setIfInBounds r' o' }:=by
 obtain ⟨x,x',k1,k2,k3⟩:=h.obj _ _ hr;rw [hp] at k1;cases k1;have bG:=h.UO hr;have ZD:=h.PX hr;have sL:(w.heap.setIfInBounds r o)[r]? =some o:=by rw [qag,if_pos rfl,if_pos bG]
 have sC:(W.heap.setIfInBounds r' o')[r']? =some o':=by rw [qag,if_pos rfl,if_pos ZD]
 have tL: ∀b,b≠r->(w.heap.setIfInBounds r o)[b]? =w.heap[b]? :=λb hb=>by rw [qag,if_neg λq=>hb q.symm]
 have tC: ∀b,b≠r'->(W.heap.setIfInBounds r' o')[b]? =W.heap[b]? :=λb hb=>by rw [qag,if_neg λq=>hb q.symm]
 have db: ∀b,gU β { w with heap:=w.heap.setIfInBounds r o } b↔gU β w b:=by
  intro b
  constructor
  ·rintro ⟨y,c,e,q1,q2,q3⟩;by_cases hy:y=r
   ·subst hy;rw [sL] at q3;injection q3 with q3
    exact absurd q3 (NQ _ _ _)
   ·exact ⟨y,c,e,q1,q2,(tL y hy)▸q3⟩
  ·rintro ⟨y,c,e,q1,q2,q3⟩;by_cases hy:y=r
   ·subst hy;rw [hp] at q3;injection q3 with q3
    exact absurd q3 (hn _ _ _)
   ·exact ⟨y,c,e,q1,q2,(tL y hy).trans q3⟩
 refine ⟨?_,⟨?_,h.inj,h.fn⟩,⟨Le.refl _,rfl,rfl,rfl,rfl,qa2 _,by simp,by simp,by simp, ?_, ?_,λb hb=>(db b).2 hb,λb _ hh hl=>hh ((db b).1 hl),λ_ _ q=> .inl q,λb q1 q2=>by simp at q2;omega,λ_ _ q=> .inl q,by simp only [Array.size_setIfInBounds];omega,λa _ hn=>tL a λq=>hn r' (q▸hr)⟩⟩
 ·refine ⟨x',k2, ?_, ?_⟩
  ·cases k3 with
   | cells e hc=>exact absurd rfl (hn _ _ _)
   | lock e hc=>exact absurd rfl (hn _ _ _)
   | loop hl=>intro c e f q;cases q
   | num b h=>intro c e f q;cases q
   | DJ b=>intro c e f q;cases q
  ·cases k3 with
   | cells e hc=>rfl
   | lock e hc=>rfl
   | loop hl=>rfl
   | num b h=>rfl
   | DJ b=>rfl
 ·intro a b nW;by_cases ha:a=r
  ·subst ha;have:=h.fn _ _ _ nW hr;subst this;exact ⟨o,o',sL,sC,ho⟩
  ·have hb:b≠r':=λq=>ha ((h.Vj nW hr).2 q);rw [tL a ha,tC b hb];exact h.obj a b nW
 ·intro b _ hb;exact tC b λq=>hb r (q▸hr)
 ·rintro b ⟨y,c,e,q1,q2,q3⟩;refine tC b λq=> ?_;have:=(h.Vj q1 hr).2 q;subst this;rw [hp] at q3;injection q3 with q3
  exact absurd q3 (hn _ _ _)
omit [bg] [aM] [bk] in
theorem NR{β:Bj}{w W:World}(n:Nat):mY β β w { w with drawn:=w.drawn+n } W { W with drawn:=W.drawn+n }:=
 ⟨Le.refl _,rfl,rfl,rfl,rfl,Nat.le_add_right _ _,by simp,qa2 _,qa2 _,λ_ _ _=>rfl,λ_ _=>rfl,λ_ h=>h,λ_ _ h=>h,λ_ _ h=> .inl h,λb h1 h2=>by simp at h2;omega,λ_ _ h=> .inl h,by simp only [];omega,λ_ _ _=>rfl⟩
end Go.Cx
namespace Go.Cx
open Go
variable[bg][aM][bk]
theorem cH.Yt{β:Bj}{w W:World}(h:cH β w W){a:Addr}{b:Nat}(hb:β a.block b)(p:Program)(m:Bool): ∃e,w.farLoad p a m= .error e/\Ks e:=by
 obtain ⟨o,o',k1,_,k3⟩:=h.obj _ _ hb;unfold World.farLoad World.noCell;rw [k1];cases k3 <;> exact ⟨_,rfl,trivial⟩
theorem cH.Yu{β:Bj}{w W:World}(h:cH β w W){a:Addr}{b:Nat}(hb:β a.block b)(p:Program)(v:Value)(m:Bool): ∃e,w.farStore p a v m= .error e/\Ks e:=by
 obtain ⟨o,o',k1,_,k3⟩:=h.obj _ _ hb;unfold World.farStore World.noCell;rw [k1];cases k3 <;> exact ⟨_,rfl,trivial⟩
theorem cH.acf{β:Bj}{w W:World}(h:cH β w W){a:Addr}{b:Nat}(hb:β a.block b)(p:Program)(m:Bool): ∃e,w.farLoad p a m= .error e:=let ⟨e,h,_⟩:=h.Yt hb p m;⟨e,h⟩
theorem cH.acg{β:Bj}{w W:World}(h:cH β w W){a:Addr}{b:Nat}(hb:β a.block b)(p:Program)(v:Value)(m:Bool): ∃e,w.farStore p a v m= .error e:=let ⟨e,h,_⟩:=h.Yu hb p v m;⟨e,h⟩
omit [bg] [aM] [bk] in
theorem FC{w:World}{o:Obj}(hd:Dw w)(ho: ∀ds,o= .deferred (some ds)->ds=[]):Dw { w with heap:=w.heap.push o }:=by
 intro r ds hr;rw [qbt] at hr;split at hr
 ·cases hr;exact ho ds rfl
 ·exact hd r ds hr
omit [bg] [aM] [bk] in
theorem zk{w:World}{r:Nat}{o:Obj}(hd:Dw w)(ho: ∀ds,o= .deferred (some ds)->ds=[]):Dw { w with heap:=w.heap.setIfInBounds r o }:=by
 intro r2 ds hr;simp only [qag] at hr;split at hr
 ·split at hr
  ·cases hr;exact ho ds rfl
  ·cases hr
 ·exact hd r2 ds hr
omit [bg] [aM] [bk] in
theorem BX{w:World}{a:Addr}{v:Value}(hd:Dw w):Dw (w.setCell a v):=by
 intro r ds hr;unfold World.setCell at hr;simp only [qc2] at hr;split at hr
 ·cases h:w.heap[r]? with
  | none=>rw [h] at hr;cases hr
  | some o=>
   rw [h] at hr;cases o <;> cases hr;exact hd r ds h
 ·exact hd r ds hr
theorem zi.dw{β:Bj}{o o':Obj}(h:zi β o o'): ∀ds,o= .deferred (some ds)->ds=[]:=by
 intro ds q;cases h with
 | DJ b=>cases b <;> cases q;rfl
 | _=>cases q
theorem cH.FD{β:Bj}{w W:World}(h:cH β w W){r r':Nat}{o:Obj}(hb:β r r')(ho:w.heap[r]? =some o)(hn: ∀c e f,o≠ .cells c e f): ¬gU β w r':=by
 rintro ⟨a,c,e,h1,h2,h3⟩;have:=h.inj _ _ _ h1 hb;subst this;rw [ho] at h3;injection h3 with h3
 exact hn _ _ _ h3
theorem aD.run{Pl Pc:Program}{α:Type}{RA:Bj->α->α->Prop}{β:Bj}{s t:Sem α}(h:aD Pl Pc RA β s t): ∀{w W w1:World} {a:α} (uH:Array Event),cH β w W->iS w W->s.run Pl w= .ok a w1->
  ∃a' W1 cq es,t.runT Pc W uH=(.ok a' W1,uH++es)/\RA cq a a'/\cH cq w1 W1/\mY β cq w w1 W W1/\ ∀e∈es,uq cq w1 e:=by
 induction h with
 | pure ha=>
  intro w W w1 a uH hw ht hr;cases hr;exact ⟨_,W,_, #[],by simp [Sem.runT],ha,hw,mY.refl _ _ _,by simp⟩
 | @load β ad oC k k' Hy _ ih=>
  intro w W w1 a uH hw ht hr;simp only [Sem.run] at hr;cases hc:w.cell? ad with
  | none=>
   exfalso;obtain ⟨e,he⟩:=hw.acf Hy.block Pl (Mode.plain==Mode.atomic);rw [hc] at hr;simp only [he] at hr;cases hr
  | some v=>
   rw [hc] at hr;obtain ⟨v',Hz,hvr⟩:=hw.cell Hy hc;obtain ⟨a',W1,cq,es,h1,h2,h3,h4,h5⟩:=ih v v' hvr (uH.push ⟨.cell oC,false,false⟩) hw ht hr;refine ⟨a',W1,cq, #[⟨.cell oC,false,false⟩]++es, ?_,h2,h3,h4, ?_⟩
   ·simp only [Sem.runT,Hz];rw [show (Mode.plain==Mode.atomic)=false from rfl,h1];simp
   ·intro e he;rcases qca.1 he with he | he
    ·simp at he;subst he;exact uq.nN (β:=β) (w:=w) (.inl ⟨rfl, .inl ⟨oC,ad.block,rfl,Hy.block,λq=>by cases q⟩⟩) h4
    ·exact h5 e he
 | @store β ad oC v v' k k' Hy hv _ ih=>
  intro w W w1 a uH hw ht hr;have xJ:(∀c,v≠ .agg c)/\ ∀c,v≠ .tuple c:=by
   constructor
   ·rintro c rfl;cases hr
   ·rintro c rfl;cases hr
  have bU:(match w.cell? ad with
    | some _=>if w.frozen? ad then Result.halt (.unsupported (.unsafePointer "a write to bytes that a string shares")) w else k.run Pl (w.setCell ad v)
    | none=>match w.farStore Pl ad v (Mode.plain==Mode.atomic) with
     | .ok (w,_)=>k.run Pl w
     | .error h=> .halt h w)= .ok a w1:=by
   cases v <;> first | exact hr | exact absurd rfl (xJ.1 _) | exact absurd rfl (xJ.2 _)
  cases hc:w.cell? ad with
  | none=>
   exfalso;obtain ⟨e,he⟩:=hw.acg Hy.block Pl v (Mode.plain==Mode.atomic);rw [hc] at bU;simp only [he] at bU;cases bU
  | some u=>
   rw [hc] at bU;simp only at bU;cases hf:w.frozen? ad with
   | true=>rw [hf] at bU;cases bU
   | false=>
    rw [hf] at bU;simp only [qa6,if_false] at bU;obtain ⟨⟨u',uL⟩,hf',Et,hT,hE⟩:=wT hw Hy hv hc hf;obtain ⟨a',W1,cq,es,h1,h2,h3,h4,h5⟩:=ih (uH.push ⟨.cell oC,true,false⟩) Et (ht.nN hT) bU;have ach:(∀c,v'≠ .agg c)/\ ∀c,v'≠ .tuple c:=by
     constructor
     ·rintro c rfl;cases hv <;> first | exact xJ.1 _ rfl | exact xJ.2 _ rfl
     ·rintro c rfl;cases hv <;> exact xJ.2 _ rfl
    refine ⟨a',W1,cq, #[⟨.cell oC,true,false⟩]++es, ?_,h2,h3,hT.trans h4, ?_⟩
    ·have:(Sem.store .plain oC v' k').runT Pc W uH=(match W.cell? oC with
       | some _=>
        if W.frozen? oC then (.halt (.unsupported (.unsafePointer "a write to bytes that a string shares")) W,uH)
        else k'.runT Pc (W.setCell oC v') (uH.push ⟨.cell oC,true,Mode.plain== .atomic⟩)
       | none=>match W.farStore Pc oC v' (Mode.plain== .atomic) with
        | .ok (w,Vm)=>k'.runT Pc w (uH++Vm.toArray.map (⟨.cell ·,true,Mode.plain== .atomic⟩))
        | .error h=>(.halt h W,uH)):=by
      cases v' <;> first | rfl | exact absurd rfl (ach.1 _) | exact absurd rfl (ach.2 _)
     rw [this,uL];simp only [hf',qa6,if_false];rw [show (Mode.plain==Mode.atomic)=false from rfl,h1];simp
    ·intro e he;rcases qca.1 he with he | he
     ·simp at he;subst he;exact hE.nN h4
     ·exact h5 e he
 | @new β o o' k k' ho _ ih=>
  intro w W w1 a uH hw ht hr;obtain ⟨Et,hT⟩:=BW hw ho.o ho.no;obtain ⟨a',W1,cq,es,h1,h2,h3,h4,h5⟩:=ih _ w.heap.size W.heap.size hT.le (.inr ⟨rfl,rfl⟩) uH Et (ht.nN hT) hr;exact ⟨a',W1,cq,es,h1,h2,h3,hT.trans h4,h5⟩
 | @shape β r r' k k' hb _ ih=>
  intro w W w1 a uH hw ht hr;have:W.shape? r'=w.shape? r:=by
   obtain ⟨x,x',k1,k2,k3⟩:=hw.obj _ _ hb;unfold World.shape?;rw [k1,k2];cases k3 with
   | cells e hc=>simp [hc.1]
   | lock e hc=>simp [hc.1]
   | loop hl=>rfl
   | num b h=>rfl
   | DJ b=>rfl
  simp only [Sem.runT,this];exact ih _ uH hw ht hr
 | @getObj β r r' k k' hb _ ih=>
  intro w W w1 a uH hw ht hr;obtain ⟨x,x',k1,k2,k3⟩:=hw.obj _ _ hb;simp only [Sem.run,k1] at hr;cases k3 with
  | cells e hc=>cases hr
  | lock e hc=>cases hr
  | @loop l l' hl=>
   obtain ⟨a',W1,cq,es,h1,h2,h3,h4,h5⟩:=ih (.loop l) (.loop l') (.loop hl) (uH.push ⟨.obj r',false,false⟩) hw ht hr;refine ⟨a',W1,cq, #[⟨.obj r',false,false⟩]++es, ?_,h2,h3,h4, ?_⟩
   ·simp only [Sem.runT,k2];rw [show (Obj.loop l').isChan=false from rfl,h1];simp
   ·intro e he;rcases qca.1 he with he | he
    ·simp at he;subst he;exact uq.nN (β:=β) (w:=w) (.inl ⟨rfl, .inr ⟨r',r,rfl,hb,hw.FD hb k1 (by intro c e f q;cases q)⟩⟩) h4
    ·exact h5 e he
  | @num ad oC lost ha=>
   obtain ⟨a',W1,cq,es,h1,h2,h3,h4,h5⟩:=ih _ _ (.num lost ha) (uH.push ⟨.obj r',false,false⟩) hw ht hr;refine ⟨a',W1,cq, #[⟨.obj r',false,false⟩]++es, ?_,h2,h3,h4, ?_⟩
   ·simp only [Sem.runT,k2];rw [show (Obj.number oC lost).isChan=false from rfl,h1];simp
   ·intro e he;rcases qca.1 he with he | he
    ·simp at he;subst he;exact uq.nN (β:=β) (w:=w) (.inl ⟨rfl, .inr ⟨r',r,rfl,hb,hw.FD hb k1 (by intro c e f q;cases q)⟩⟩) h4
    ·exact h5 e he
  | DJ b=>
   obtain ⟨a',W1,cq,es,h1,h2,h3,h4,h5⟩:=ih _ _ (.DJ b) (uH.push ⟨.obj r',false,false⟩) hw ht hr;refine ⟨a',W1,cq, #[⟨.obj r',false,false⟩]++es, ?_,h2,h3,h4, ?_⟩
   ·simp only [Sem.runT,k2];rw [show (Obj.deferred (if b then some [] else none)).isChan=false from rfl,h1];simp
   ·intro e he;rcases qca.1 he with he | he
    ·simp at he;subst he;exact uq.nN (β:=β) (w:=w) (.inl ⟨rfl, .inr ⟨r',r,rfl,hb,hw.FD hb k1 (by intro c e f q;cases q)⟩⟩) h4
    ·exact h5 e he
 | @setObj β r r' o o' k k' hb ho hn _ ih=>
  intro w W w1 a uH hw ht hr;obtain ⟨x,x',k1,k2,k3⟩:=hw.obj _ _ hb;have hx: ∀c e f,x≠ .cells c e f:=by
   rintro c e f rfl;simp only [Sem.run,k1] at hr;cases hr
  have hr':k.run Pl { w with heap:=w.heap.setIfInBounds r o }= .ok a w1:=by
   simp only [Sem.run,k1] at hr;cases x <;> first | exact hr | exact absurd rfl (hx _ _ _)
  obtain ⟨⟨p',g1,g2,g3⟩,Et,hT⟩:=uM hw hb ho.o k1 hx hn;have hc:o'.isChan=false:=by cases ho <;> rfl
  obtain ⟨a',W1,cq,es,h1,h2,h3,h4,h5⟩:=ih (uH.push ⟨.obj r',true,false⟩) Et (ht.nN hT) hr';refine ⟨a',W1,cq, #[⟨.obj r',true,false⟩]++es, ?_,h2,h3,hT.trans h4, ?_⟩
  ·simp only [Sem.runT,g1];cases p' <;> first | exact absurd rfl (g2 _ _ _) | (simp only [hc,h1];simp)
  ·intro e he;rcases qca.1 he with he | he
   ·simp at he;subst he;exact uq.nN (β:=β) (w:=w) (.inl ⟨rfl, .inr ⟨r',r,rfl,hb,hw.FD hb k1 hx⟩⟩) (hT.trans h4)
   ·exact h5 e he
 | @choose β q k k' _ ih=>
  intro w W w1 a uH hw ht hr;simp only [Sem.run] at hr;simp only [Sem.runT];split at hr
  ·rename_i hq;rw [if_pos hq];exact ih 0 uH hw ht hr
  ·rename_i hq;rw [if_neg hq];have hT:=NR (β:=β) (w:=w) (W:=W) 1;have h0:=ht 0 q;simp only [qcj] at h0;rw [h0];obtain ⟨a',W1,cq,es,h1,h2,h3,h4,h5⟩:=ih _ uH (hw.draw _ _) (ht.nN hT) hr;exact ⟨a',W1,cq,es,h1,h2,h3,hT.trans h4,h5⟩
 | program _ ih=>
  intro w W w1 a uH hw ht hr;exact ih uH hw ht hr
 | mark _ ih=>
  intro w W w1 a uH hw ht hr;obtain ⟨a',W1,cq,es,h1,h2,h3,h4,h5⟩:=ih (uH.push ⟨.mark .noRoom,false,true⟩) hw ht hr;refine ⟨a',W1,cq, #[⟨.mark .noRoom,false,true⟩]++es, ?_,h2,h3,h4, ?_⟩
  ·simp only [Sem.runT,h1];simp
  ·intro e he;rcases qca.1 he with he | he
   ·simp at he;subst he;exact .inr rfl
   ·exact h5 e he
 | dead hd=>
  intro w W w1 a uH hw ht hr;exact absurd hr (hd.no _ _ _)
theorem aD.BV{Pl Pc:Program}{α:Type}{RA:Bj->α->α->Prop}{β:Bj}{s t:Sem α}(h:aD Pl Pc RA β s t): ∀{w W w1:World} {hh:Halt},cH β w W->s.run Pl w= .halt hh w1->Ks hh/\(Dw w->Dw w1):=by
 induction h with
 | pure ha=>intro w W w1 hh hw hr;cases hr
 | @load β ad oC k k' Hy _ ih=>
  intro w W w1 hh hw hr;simp only [Sem.run] at hr;cases hc:w.cell? ad with
  | none=>
   obtain ⟨e,he,hm⟩:=hw.Yt Hy.block Pl (Mode.plain==Mode.atomic);rw [hc] at hr;simp only [he] at hr;cases hr;exact ⟨hm,id⟩
  | some v=>
   rw [hc] at hr;obtain ⟨v',Hz,hvr⟩:=hw.cell Hy hc;exact ih v v' hvr hw hr
 | @store β ad oC v v' k k' Hy hv _ ih=>
  intro w W w1 hh hw hr;by_cases xJ:(∀c,v≠ .agg c)/\ ∀c,v≠ .tuple c
  ·have Mx:(Sem.store .plain ad v k).run Pl w=(match w.cell? ad with
     | some _=>if w.frozen? ad then Result.halt (.unsupported (.unsafePointer "a write to bytes that a string shares")) w else k.run Pl (w.setCell ad v)
     | none=>match w.farStore Pl ad v (Mode.plain==Mode.atomic) with
      | .ok (w,_)=>k.run Pl w
      | .error h=> .halt h w):=by
    cases v <;> first | rfl | exact absurd rfl (xJ.1 _) | exact absurd rfl (xJ.2 _)
   rw [Mx] at hr;cases hc:w.cell? ad with
   | none=>
    obtain ⟨e,he,hm⟩:=hw.Yu Hy.block Pl v (Mode.plain==Mode.atomic);rw [hc] at hr;simp only [he] at hr;cases hr;exact ⟨hm,id⟩
   | some u=>
    rw [hc] at hr;simp only at hr;cases hf:w.frozen? ad with
    | true=>rw [hf] at hr;cases hr;exact ⟨λg q=>(by cases q),id⟩
    | false=>
     rw [hf] at hr;simp only [qa6,if_false] at hr;obtain ⟨_,hf',Et,hT,hE⟩:=wT hw Hy hv hc hf;exact let ⟨h1,h2⟩:=ih Et hr;⟨h1,λh=>h2 (BX h)⟩
  ·cases v <;> first | (cases hr;exact ⟨trivial,id⟩) | exact (xJ ⟨λc q=>(by cases q),λc q=>(by cases q)⟩).elim
 | @new β o o' k k' ho _ ih=>
  intro w W w1 hh hw hr;obtain ⟨Et,hT⟩:=BW hw ho.o ho.no;exact let ⟨h1,h2⟩:=ih _ w.heap.size W.heap.size hT.le (.inr ⟨rfl,rfl⟩) Et hr;⟨h1,λh=>h2 (FC h ho.dw)⟩
 | @shape β r r' k k' hb _ ih=>
  intro w W w1 hh hw hr;exact ih _ hw hr
 | @getObj β r r' k k' hb _ ih=>
  intro w W w1 hh hw hr;obtain ⟨x,x',k1,k2,k3⟩:=hw.obj _ _ hb;simp only [Sem.run,k1] at hr;cases k3 with
  | cells e hc=>cases hr;exact ⟨trivial,id⟩
  | lock e hc=>cases hr;exact ⟨trivial,id⟩
  | @loop l l' hl=>exact ih (.loop l) (.loop l') (.loop hl) hw hr
  | @num ad oC lost ha=>exact ih _ _ (.num lost ha) hw hr
  | DJ b=>exact ih _ _ (.DJ b) hw hr
 | @setObj β r r' o o' k k' hb ho hn _ ih=>
  intro w W w1 hh hw hr;obtain ⟨x,x',k1,k2,k3⟩:=hw.obj _ _ hb;by_cases hx: ∀c e f,x≠ .cells c e f
  ·have Mx:(Sem.setObj r o k).run Pl w=k.run Pl { w with heap:=w.heap.setIfInBounds r o }:=by
    simp only [Sem.run,k1]
   rw [Mx] at hr;obtain ⟨_,Et,hT⟩:=uM hw hb ho.o k1 hx hn;exact let ⟨h1,h2⟩:=ih Et hr;⟨h1,λh=>h2 (zk h ho.dw)⟩
  ·cases k3 with
   | cells e hc=>simp only [Sem.run,k1] at hr;cases hr;exact ⟨trivial,id⟩
   | lock e hc=>simp only [Sem.run,k1] at hr;cases hr;exact ⟨trivial,id⟩
   | _=>exact (hx λc e f q=>by cases q).elim
 | @choose β q k k' _ ih=>
  intro w W w1 hh hw hr;simp only [Sem.run] at hr;split at hr
  ·exact ih 0 hw hr
  ·have:=ih _ (hw.draw (w.drawn+1) W.drawn) hr;exact ⟨this.1,λh=>this.2 h⟩
 | program _ ih=>intro w W w1 hh hw hr;exact ih hw hr
 | mark _ ih=>intro w W w1 hh hw hr;exact ih hw hr
 | dead hd=>intro w W w1 hh hw hr;exact ⟨hd.BV _ _ _ hr,λh=>hd.kp _ _ _ h hr⟩
end Go.Cx
namespace Go.Cx
open Go
variable[bg][aM][bk]
def UP(L:Program)(t:TypeId):Prop:= ∀i v,L.info? t=some i->i.zero=some v->Plain v
def NS(L:Program)(t:TypeId):Prop:= ∀e,L.underlying t=some (.slice e)->UP L e
structure gV(L C:Program):Prop where
 info: ∀t,C.info? t=L.info? t
 und: ∀t,C.underlying t=L.underlying t
 PY:C.types.size=L.types.size
 fns: ∀(f:FuncId) (fn:Func),L.funcs[f]? =some fn->fn.body.isNone=false->bg.uo f/\(fn.name== "runtime.NumGoroutine")=false/\ ∃kl:Func,C.funcs[f]? =some kl/\kl.body.isNone=false/\(kl.name== "runtime.NumGoroutine")=false
 gl:L.globals.size=0
 sih: ∀t,C.stoodInHeld t=L.stoodInHeld t
 cc: ∀(t:TypeId) (i:TypeInfo) (n:TypeId),L.info? t=some i->i.desc≠ .named "sync.copyChecker" n
 cab: ∀e n o k,cellAtBytes C C.depth e (n / C.cellsOf e) o k=cellAtBytes L L.depth e (n / L.cellsOf e) o k
 bof: ∀e off,C.cellsOf e=L.cellsOf e/\byteOfCell C C.depth e off=byteOfCell L L.depth e off/\C.bytesOf e=L.bytesOf e
 mp: ∀(t:TypeId) (i:TypeInfo) (m:Method),L.info? t=some i->m∈i.methods->m.path.toList=[]/\ ∀f b,m.func=some (f,b)->bg.ok f
 nob: ∀(f:FuncId) (fn:Func),L.funcs[f]? =some fn->fn.body.isNone=true-> ∀args,aT L (callFunc f args)
section
variable{L C:Program}{α γ:Type}
omit [bg] [aM] [bk] in
theorem aT.halt{h:Halt}(hm:Ks h:=by first | exact trivial | (intro g q;cases q)):aT L (.halt h:Sem α):=⟨λ_ _ _ q=>(by cases q),λ_ _ _ q=>(by cases q;exact hm),λ_ _ _ hd q=>(by cases q;exact hd)⟩
def Kp(L:Program){α:Type}(s:Sem α):Prop:= ∀w,Dw w->(∀a w1,s.run L w= .ok a w1->Dw w1)/\ ∀h w1,s.run L w= .halt h w1->Dw w1
class nO(L:Program){α:Type}(s:Sem α):Prop where
 out:Mld L s
 kp:Kp L s
instance(a:α):nO L (pure a:Sem α):=⟨λw h w1 q=>(by cases q),λw hd=>⟨λa w1 q=>(by cases q;exact hd),λh w1 q=>(by cases q)⟩⟩
instance:nO L program:=⟨λw h w1 q=>(by cases q),λw hd=>⟨λa w1 q=>(by cases q;exact hd),λh w1 q=>(by cases q)⟩⟩
instance fT(s:Sem α)(f:α->Sem γ)[h1:nO L s][h2: ∀x,nO L (f x)]:nO L (s >>= f):=⟨λw h w1 q=>by
 rw [Sem.run_bind] at q;cases hs:s.run L w with
 | ok x w'=>rw [hs] at q;exact (h2 x).out _ _ _ q
 | halt hh w'=>rw [hs] at q;cases q;exact h1.out _ _ _ hs,λw hd=>by
 constructor
 ·intro a w1 q;rw [Sem.run_bind] at q;cases hs:s.run L w with
  | ok x w'=>rw [hs] at q;exact ((h2 x).kp w' ((h1.kp w hd).1 _ _ hs)).1 _ _ q
  | halt hh w'=>rw [hs] at q;cases q
 ·intro h w1 q;rw [Sem.run_bind] at q;cases hs:s.run L w with
  | ok x w'=>rw [hs] at q;exact ((h2 x).kp w' ((h1.kp w hd).1 _ _ hs)).2 _ _ q
  | halt hh w'=>rw [hs] at q;cases q;exact (h1.kp w hd).2 _ _ hs⟩
omit [bg] [aM] [bk] in
theorem jN{s:Sem α}(h: ∀w,(∃a w1,s.run L w= .ok a w1/\w1.heap=w.heap)\/ ∃x,s.run L w= .halt (.stuck x) w):nO L s:=⟨λw hh w1 q=>by
 rcases h w with ⟨a,w2,h,_⟩ | ⟨x,h⟩
 ·rw [h] at q;cases q
 ·rw [h] at q;cases q;trivial,λw hd=>by
 rcases h w with ⟨a,w2,h,he⟩ | ⟨x,h⟩
 ·constructor
  ·intro a w1 q;rw [h] at q;cases q;intro r ds hr;rw [he] at hr;exact hd r ds hr
  ·intro hh w1 q;rw [h] at q;cases q
 ·constructor
  ·intro a w1 q;rw [h] at q;cases q
  ·intro hh w1 q;rw [h] at q;cases q;exact hd⟩
instance(t:TypeId):nO L (typeInfo t):=jN λw=>by
 unfold typeInfo;rw [Sem.run_bind];change (∃a w1,Result.andThen (.ok L w) _=_/\_)\/ ∃x,Result.andThen (.ok L w) _=_;simp only [Result.andThen_ok];cases hi:L.info? t with
 | none=>exact .inr ⟨_,rfl⟩
 | some i=>exact .inl ⟨_,_,rfl,rfl⟩
instance(q:Question):nO L (choose q):=jN λw=>by
 unfold choose;simp only [Sem.run];split
 ·exact .inl ⟨_,_,rfl,rfl⟩
 ·exact .inl ⟨_,_,rfl,rfl⟩
instance(f:α->γ)(s:Sem α)[h:nO L s]:nO L (Functor.map f s):=by
 rw [map_eq_pure_bind];infer_instance
instance(s:String):nO L (stuck s:Sem α):=jN λw=> .inr ⟨_,rfl⟩
instance(r:Nat):nO L (shape r):=jN λw=> .inl ⟨_,_,rfl,rfl⟩
instance(m:Mark):nO L (mark m):=jN λw=> .inl ⟨_,_,rfl,rfl⟩
instance(r:Nat):nO L (getObj r):=jN λw=>by
 unfold getObj;simp only [Sem.run];split
 ·exact .inr ⟨_,rfl⟩
 ·exact .inl ⟨_,_,rfl,rfl⟩
 ·exact .inr ⟨_,rfl⟩
instance(t:TypeId)(cs:Array Value):nO L (newRow t cs):=⟨λw h w1 q=>(by cases q),λw hd=>⟨λa w1 q=>(by cases q;exact FC hd λds q=>(by cases q)),λh w1 q=>(by cases q)⟩⟩
instance(t:TypeId)(v:Value):nO L (newVar t v):=by unfold newVar;infer_instance
instance(t:TypeId):nO L (underlying t):=jN λw=>by
 unfold underlying;rw [Sem.run_bind];change (∃a w1,Result.andThen (.ok L w) _=_/\_)\/ ∃x,Result.andThen (.ok L w) _=_;simp only [Result.andThen_ok];split
 ·exact .inl ⟨_,_,rfl,rfl⟩
 ·exact .inr ⟨_,rfl⟩
instance(t:TypeId):nO L (elemOf t):=by
 unfold elemOf;refine @fT _ _ _ _ _ _ λd=> ?_;split <;> infer_instance
instance(r:Nat):nO L (numberAt r):=by
 unfold numberAt;refine @fT _ _ _ _ _ _ λd=> ?_;split
 ·infer_instance
 ·refine @fT _ _ _ _ _ _ λd=> ?_;split <;> infer_instance
instance(a:Addr):nO L (behindNumber a):=by unfold behindNumber;infer_instance
omit [bg] [aM] [bk] in
theorem aT.bind{s:Sem α}{f:α->Sem γ}[hm:nO L s](h: ∀x,aT L (f x)):aT L (s >>= f):=by
 refine ⟨λw a w1 q=> ?_,λw hh w1 q=> ?_,λw hh w1 hd q=> ?_⟩
 ·rw [Sem.run_bind] at q;cases hs:s.run L w with
  | ok x w'=>rw [hs] at q;exact (h x).no _ _ _ q
  | halt hh w'=>rw [hs] at q;cases q
 ·rw [Sem.run_bind] at q;cases hs:s.run L w with
  | ok x w'=>rw [hs] at q;exact (h x).BV _ _ _ q
  | halt hh w'=>rw [hs] at q;cases q;exact hm.out _ _ _ hs
 ·rw [Sem.run_bind] at q;cases hs:s.run L w with
  | ok x w'=>rw [hs] at q;exact (h x).kp _ _ _ ((hm.kp w hd).1 _ _ hs) q
  | halt hh w'=>rw [hs] at q;cases q;exact (hm.kp w hd).2 _ _ hs
omit [bg] [aM] [bk] in
theorem bj{e:RuntimeError}:aT L (runtimePanic e:Sem α):=by
 unfold runtimePanic;refine aT.bind λp=> ?_;cases e
 case typeAssertion=>exact aT.bind λ_=>aT.bind λ_=>aT.halt
 case panicNil=>exact aT.bind λ_=>aT.bind λ_=>aT.halt
 all_goals exact aT.halt
omit [bg] [aM] [bk] in
theorem aT.prog{f:Program->Sem α}(h:aT L (f L)):aT L (program >>= f):=⟨λw a w1 q=>h.no w a w1 q,λw hh w1 q=>h.BV w hh w1 q,λw hh w1 hd q=>h.kp w hh w1 hd q⟩
omit [bg] [aM] [bk] in
theorem Qm(t:TypeId)(f:TypeInfo->Sem α)(w:World):(typeInfo t >>= f).run L w=match L.info? t with | none=>(typeInfo t >>= f).run L w | some i=>(f i).run L w:=by
 cases hi:L.info? t with
 | none=>rfl
 | some i=>
  rw [Sem.run_bind];unfold typeInfo;rw [Sem.run_bind];change Result.andThen (Result.andThen (.ok L w) _) _=_;simp only [Result.andThen_ok,hi]
  rfl
omit [bg] [aM] [bk] in
theorem aT.info{t:TypeId}{f:TypeInfo->Sem α}(h: ∀i,L.info? t=some i->aT L (f i)):aT L (typeInfo t >>= f):=by
 cases hi:L.info? t with
 | none=>
  refine aT.eM ⟨λw a w1 q=> ?_,(inferInstance:nO L (typeInfo t)).out,λw h w1 hd q=>((inferInstance:nO L (typeInfo t)).kp w hd).2 _ _ q⟩;unfold typeInfo at q;rw [Sem.run_bind] at q;change Result.andThen (.ok L w) _=_ at q;simp only [Result.andThen_ok,hi] at q;cases q
 | some i=>
  have hr: ∀w,(typeInfo t >>= f).run L w=(f i).run L w:=λw=>by rw [Qm,hi]
  exact ⟨λw a w1 q=>(h i hi).no w a w1 (hr w▸q),λw hh w1 q=>(h i hi).BV w hh w1 (hr w▸q),λw hh w1 hd q=>(h i hi).kp w hh w1 hd (hr w▸q)⟩
omit [bg] [aM] [bk] in
theorem kW{k:IntKind}{x y:Int}{c:BoundsCode}:aT L (boundsPanic k x y c:Sem α):=by
 unfold boundsPanic;simp only;split
 ·exact aT.bind λ_=>bj
 ·exact aT.bind λ_=>bj
variable{RA RB:Bj->α->α->Prop}{β:Bj}
theorem ar{h:Halt}{t:Sem α}(hm:Ks h:=by first | exact trivial | (intro g q;cases q)):aD L C RA β (.halt h) t:= .dead (aT.halt hm)
theorem aT.rel{s t:Sem α}(h:aT L s):aD L C RA β s t:= .dead h
theorem aD.bd{RG:Bj->γ->γ->Prop}{s t:Sem α}{f g:α->Sem γ}(h:aD L C RA β s t)(k: ∀cq a a',Le β cq->RA cq a a'->aD L C RG cq (f a) (g a')):aD L C RG β (s >>= f) (t >>= g):=aD.bind h k
def gG{α:Type}(P:α->Prop):Bj->α->α->Prop:=λ_ a a'=>a=a'/\P a
section
variable(H:gV L C)
include H
theorem kH(t:TypeId):aD L C (gG λi=>L.info? t=some i) β (typeInfo t) (typeInfo t):=by
 unfold typeInfo;refine .program ?_;show aD L C _ β (match L.info? t with | some i=>pure i | none=>stuck "no such type") (match C.info? t with | some i=>pure i | none=>stuck "no such type");rw [H.info];generalize h:L.info? t=o;cases o with
 | none=>exact ar
 | some i=>exact .pure ⟨rfl,rfl⟩
theorem gJ(t:TypeId):aD L C (gG λi=>L.underlying t=some i) β (underlying t) (underlying t):=by
 unfold underlying;refine .program ?_;show aD L C _ β (match L.underlying t with | some i=>pure i | none=>stuck "no such type") (match C.underlying t with | some i=>pure i | none=>stuck "no such type");rw [H.und];generalize h:L.underlying t=o;cases o with
 | none=>exact ar
 | some i=>exact .pure ⟨rfl,rfl⟩
theorem Kt(t:TypeId)(J9:UP L t):aD L C ay β (zeroValue t) (zeroValue t):=by
 unfold zeroValue;refine (kH H t).bd ?_;rintro cq i _ hl ⟨rfl,hi⟩;cases hz:i.zero with
 | none=>exact ar
 | some v=>exact .pure (J9 i v hi hz).rel
theorem gq(t:TypeId):aD L C (gG λ_=>True) β (sizeOf t) (sizeOf t):=by
 unfold sizeOf;refine (kH H t).bd ?_;rintro cq i _ hl ⟨rfl,hi⟩;exact .pure ⟨rfl,trivial⟩
theorem My(t:TypeId):aD L C (gG λ_=>True) β (isAgg t) (isAgg t):=by
 unfold isAgg;refine (gJ H t).bd ?_;rintro cq i _ hl ⟨rfl,hi⟩;cases i <;> exact .pure ⟨rfl,trivial⟩
omit H in
theorem Qn{a a':Addr}(h:jE β a a'):aD L C ay β (load a) (load a'):= .load h λ_ _ hv=> .pure hv
omit H in
theorem Vn{a a':Addr}{v v':Value}(h:jE β a a')(hv:ay β v v'):aD L C (gG λ_=>True) β (store a v) (store a' v'):= .store h hv (.pure ⟨rfl,trivial⟩)
omit H in
theorem tY{a a':Addr}: ∀(n i:Nat) (acc Vo:Array Value) {β:Bj},jE β a a'->aL β acc Vo->aD L C aL β (loadCellsFrom a i n acc) (loadCellsFrom a' i n Vo)
 | 0,i,acc,Vo,β,h,k=> .pure k
 | n+1,i,acc,Vo,β,h,k=>by
  unfold loadCellsFrom;refine (Qn (h.add i)).bd ?_;intro cq v v' hl hv;exact tY n (i+1) _ _ (h.mono hl) ((k.mono hl).push hv)
omit H in
theorem Aw{a a':Addr}(h:jE β a a')(n:Nat):aD L C aL β (loadCells a n) (loadCells a' n):=tY n 0 _ _ h aL.empty
inductive pk(β:Bj):List Value->List Value->Prop
 | nil:pk β [] []
 | cons {v v':Value} {l l':List Value}:ay β v v'->pk β l l'->pk β (v::l) (v'::l')
omit H in
omit [aM] in
theorem pk.mono{β γ:Bj}(l:Le β γ){x x':List Value}(h:pk β x x'):pk γ x x':=by
 induction h with
 | nil=>exact .nil
 | cons hv _ ih=>exact .cons (hv.mono l) ih
omit H in
omit [aM] in
theorem aL.list{x x':Array Value}(h:aL β x x'):pk β x.toList x'.toList:=by
 obtain ⟨h1,h2⟩:=h;obtain ⟨x⟩:=x;obtain ⟨x'⟩:=x';simp only [qbn] at h1;simp only [qaq] at h2;show pk β x x'
 induction x generalizing x' with
 | nil=>cases x' with
  | nil=>exact .nil
  | cons=>simp at h1
 | cons v l ih=>cases x' with
  | nil=>simp at h1
  | cons v' l'=>exact .cons (h2 0 v v' rfl rfl) (ih l' (by simpa using h1) λi u u' a b=>h2 (i+1) u u' a b)
omit H in
theorem pD{a a':Addr}: ∀{vs vs':List Value} (i:Nat) {β:Bj},jE β a a'->pk β vs vs'->aD L C (gG λ_=>True) β (storeCells a vs i) (storeCells a' vs' i)
 | _,_,i,β,h, .nil=> .pure ⟨rfl,trivial⟩
 | _,_,i,β,h, .cons hv hl=>by
  unfold storeCells;refine (Vn (h.add i) hv).bd ?_;intro cq u u' hle _;exact pD (i+1) (h.mono hle) (hl.mono hle)
theorem vE(t:TypeId){a a':Addr}(h:jE β a a'):aD L C ay β (loadVar t a) (loadVar t a'):=by
 unfold loadVar;refine (My H t).bd ?_;rintro cq b _ hl ⟨rfl, -⟩;cases b with
 | true=>
  simp only [if_true];refine (gq H t).bd ?_;rintro jc n _ db ⟨rfl, -⟩;refine (Aw ((h.mono hl).mono db) n).bd ?_;intro qT c c' iP hc;exact .pure hc.FA
 | false=>exact Qn (h.mono hl)
theorem Ku(t:TypeId){a a':Addr}{v v':Value}(h:jE β a a')(hv:ay β v v'):aD L C (gG λ_=>True) β (storeVar t a v) (storeVar t a' v'):=by
 unfold storeVar;refine (gq H t).bd ?_;rintro cq n _ hl ⟨rfl, -⟩;have hc:=hv.cells;rw [←hc.1];split
 ·exact (aT.eM aT.halt).rel
 ·exact pD 0 (h.mono hl) (hc.mono hl).list
omit H in
theorem xK(e:TypeId){c c':Array Value}(h:aL β c c'):aD L C jE β (newRow e c) (newRow e c'):=by
 unfold newRow newObj;exact .new (.cells e h) λγ r r' hl hr=> .pure ⟨hr,rfl,rfl⟩
omit H in
theorem HK(t:TypeId){v v':Value}(h:ay β v v'):aD L C jE β (newVar t v) (newVar t v'):=xK t h.cells
omit H in
theorem vF{v v':Value}(h:ay β v v'):aD L C (gG λx=>v= .int x.1 x.2) β (asIntOf v) (asIntOf v'):=by
 cases h with
 | int k n=>exact .pure ⟨rfl,rfl⟩
 | ptr h=>exact ar
 | _=>exact ar
omit H in
theorem pE{v v':Value}(h:ay β v v'):aD L C (gG λ_=>True) β (asInt v) (asInt v'):=by
 unfold asInt;refine (vF h).bd ?_;rintro cq x _ hl ⟨rfl, -⟩;exact .pure ⟨rfl,trivial⟩
omit H in
theorem Qo{v v':Value}(h:ay β v v'):aD L C (gG λ_=>True) β (asBool v) (asBool v'):=by
 cases h with
 | bool b=>exact .pure ⟨rfl,trivial⟩
 | _=>exact ar
omit H in
theorem qb{v v':Value}(h:ay β v v'):aD L C jE β (Instr.sureAddr v) (Instr.sureAddr v'):=by
 cases h with
 | ptr h=>exact .pure h
 | _=>exact ar
omit H in
theorem xL{v v':Value}(h:ay β v v'):aD L C jE β (asAddr v) (asAddr v'):=by
 cases h with
 | ptr h=>exact .pure h
 | pB=>
  show aD L C jE β (runtimePanic .nilDeref) _;exact bj.rel
 | _=>exact ar
end
end
end Go.Cx
namespace Go.Cx
open Go
variable[bg][aM][bk]
section
variable{L C:Program}{β:Bj}(H:gV L C)
include H
theorem Vp(e:TypeId)(J9:UP L e):aD L C ay β (Instr.alloc e true (.tuple #[])) (Instr.alloc e true (.tuple #[])):=by
 unfold Instr.alloc;refine (Kt H e J9).bd ?_;intro cq v v' hl hv;refine (HK e hv).bd ?_;intro jc a a' db ha;exact .pure (.ptr ha)
omit H in
theorem aci(e:TypeId){v v':Value}(hv:ay β v v'):aD L C ay β (Instr.box e v) (Instr.box e v'):=by
 unfold Instr.box;refine (HK e hv).bd ?_;intro jc a a' db ha;exact .pure (.ptr ha)
theorem Qp(t:TypeId){v v':Value}(hv:ay β v v'):aD L C ay β (Instr.loadAt t v) (Instr.loadAt t v'):=by
 unfold Instr.loadAt;refine (qb hv).bd ?_;intro jc a a' db ha;exact vE H t ha
theorem NT(t:TypeId){v v' u u':Value}(hv:ay β v v')(hu:ay β u u'):aD L C (gG λ_=>True) β (Instr.storeAt t v u) (Instr.storeAt t v' u'):=by
 unfold Instr.storeAt;refine (qb hv).bd ?_;intro jc a a' db ha;exact Ku H t ha (hu.mono db)
omit H in
theorem NU(i:Nat){v v':Value}(hv:ay β v v'):aD L C ay β (Instr.extract v i) (Instr.extract v' i):=by
 cases hv with
 | @tuple x x' h k=>
  unfold Instr.extract;simp only;cases hx:x[i]? with
  | none=>exact ar
  | some u=>
   obtain ⟨u',h1,h2⟩:=aL.get ⟨h,k⟩ hx;rw [h1];exact .pure h2
 | _=>exact ar
omit H in
theorem Kv{f f':Fn}{x x' y y':Array Value}(hf:DU β f f')(hx:aL β x x')(hy:aL β y y'):aD L C ay β (Instr.makeFunc f x y) (Instr.makeFunc f' x' y'):= .pure (.func hf hx.1 hy.1 hx.2 hy.2)
theorem AS(t:TypeId){v v':Value}(hv:ay β v v'):aD L C ay β (Instr.makeInterface t v) (Instr.makeInterface t v'):=by
 unfold Instr.makeInterface;refine (gJ H t).bd ?_;rintro cq d _ hl ⟨rfl, -⟩;cases d <;> first | exact ar | exact .pure (.iface t (hv.mono hl))
theorem Kw(t:TypeId){x x':Array Value}(hx:aL β x x')(o:Nat):aD L C ay β (part t x o) (part t x' o):=by
 unfold part;refine (My H t).bd ?_;rintro cq b _ hl ⟨rfl, -⟩;cases b with
 | true=>
  simp only [if_true];refine (gq H t).bd ?_;rintro jc n _ db ⟨rfl, -⟩;exact .pure (((hx.mono hl).mono db).extract _ _).FA
 | false=>
  simp only [qa6,if_false];cases hv:x[o]? with
  | none=>exact ar
  | some u=>
   obtain ⟨u',h1,h2⟩:=(hx.mono hl).get hv;rw [h1];exact .pure h2
theorem Vq(t:TypeId){v v' u u':Value}(hv:ay β v v')(hu:ay β u u'):aD L C ay β (Instr.index t v u) (Instr.index t v' u'):=by
 unfold Instr.index;refine (vF hu).bd ?_;rintro cq ⟨k,i⟩ _ hl ⟨rfl, -⟩;refine (gJ H t).bd ?_;rintro jc d _ db ⟨rfl, -⟩;have wU:=(hv.mono hl).mono db;cases d
 case array n e=>
  cases wU with
  | agg h hk=>
   simp only;split
   ·refine (gq H e).bd ?_;rintro qT m _ iP ⟨rfl, -⟩;exact Kw H e (aL.mono iP ⟨h,hk⟩) _
   ·exact kW.rel
  | _=>exact ar
 case string=>
  cases wU with
  | string s=>
   simp only;split
   ·exact .pure (.int _ _)
   ·exact kW.rel
  | _=>exact ar
 all_goals (cases wU <;> exact ar)
theorem NV(t:TypeId){v v' u u':Value}(hv:ay β v v')(hu:ay β u u'):aD L C ay β (Instr.indexAt t v u) (Instr.indexAt t v' u'):=by
 unfold Instr.indexAt;refine (vF hu).bd ?_;rintro cq ⟨k,i⟩ _ hl ⟨rfl, -⟩;simp only;refine (gJ H t).bd ?_;rintro jc d _ db ⟨rfl, -⟩;have wU:=(hv.mono hl).mono db;cases d
 case array n e=>
  refine (qb wU).bd ?_;intro qT a a' iP ha;refine aD.bd (RA:=λβ (x x':Option Addr×Nat×TypeId)=>x=(some a,n,e)/\x'=(some a',n,e)/\jE β a a') (.pure ⟨rfl,rfl,ha⟩) ?_;rintro rX _ _ ot ⟨rfl,rfl,ha4⟩;refine (gJ H t).bd ?_;rintro HL d _ y9 ⟨rfl, -⟩;simp only;split
  ·refine (gq H e).bd ?_;rintro Ka m _ AT ⟨rfl, -⟩;exact .pure (.ptr (((ha4.mono y9).mono AT).add _))
  ·split <;> split <;> first | exact ar | exact kW.rel
 case slice e=>
  cases wU with
  | kT n c=>
   refine aD.bd (RA:=λβ (x x':Option Addr×Nat×TypeId)=>x=(none,n,e)/\x'=(none,n,e)) (.pure ⟨rfl,rfl⟩) ?_;rintro rX _ _ ot ⟨rfl,rfl⟩;refine (gJ H t).bd ?_;rintro HL d _ y9 ⟨rfl, -⟩;exact kW.rel
  | y8 a a'=>
   refine aD.bd (RA:=λβ (x x':Option Addr×Nat×TypeId)=>x=(some a,0,e)/\x'=(some a',0,e)) (.pure ⟨rfl,rfl⟩) ?_;rintro rX _ _ ot ⟨rfl,rfl⟩;refine (gJ H t).bd ?_;rintro HL d _ y9 ⟨rfl, -⟩;simp only;split
   ·rename_i hh;omega
   ·split <;> split <;> first | exact ar | exact kW.rel
  | @slice a a' n c ha=>
   refine aD.bd (RA:=λβ (x x':Option Addr×Nat×TypeId)=>x=(some a,n,e)/\x'=(some a',n,e)/\jE β a a') (.pure ⟨rfl,rfl,ha⟩) ?_;rintro rX _ _ ot ⟨rfl,rfl,ha4⟩;refine (gJ H t).bd ?_;rintro HL d _ y9 ⟨rfl, -⟩;simp only;split
   ·refine (gq H e).bd ?_;rintro Ka m _ AT ⟨rfl, -⟩;exact .pure (.ptr (((ha4.mono y9).mono AT).add _))
   ·split <;> split <;> first | exact ar | exact kW.rel
  | _=>exact (aT.eM aT.halt).rel
 all_goals (cases wU <;> exact (aT.eM aT.halt).rel)
omit H in
theorem pF{v v':Value}(hv:ay β v v')(y:Nat)(c:BoundsCode):aD L C (gG λx=>x<=y) β (Instr.sliceBound v y c) (Instr.sliceBound v' y c):=by
 unfold Instr.sliceBound;refine (vF hv).bd ?_;rintro cq ⟨k,i⟩ _ hl ⟨rfl, -⟩;simp only;split
 ·rename_i hh;exact .pure ⟨rfl,by omega⟩
 ·exact kW.rel
inductive pn(β:Bj):Option Value->Option Value->Prop
 | none:pn β none none
 | some {v v':Value}:ay β v v'->pn β (some v) (some v')
omit H in
omit [aM] in
theorem pn.mono{γ:Bj}(l:Le β γ){x x':Option Value}(h:pn β x x'):pn γ x x':=by
 cases h with
 | none=>exact .none
 | some h=>exact .some (h.mono l)
omit H in
theorem ZE{lo qd:Option Value}(qW:pn β lo qd)(h m:Nat)(c:BoundsCode):aD L C (gG λx=>x.1<=h/\x.2=(h,m)) β (lo.elim (do let l←pure 0;pure (l,h,m)) (λv=>do let l←Instr.sliceBound v h c;pure (l,h,m)):Sem (Nat×Nat×Nat)) (qd.elim (do let l←pure 0;pure (l,h,m)) (λv=>do let l←Instr.sliceBound v h c;pure (l,h,m))):=by
 cases qW with
 | none=>exact .pure ⟨rfl,qa7 _,rfl⟩
 | some hv=>
  refine (pF hv _ _).bd ?_;rintro qT l _ iP ⟨rfl,hq⟩;exact .pure ⟨rfl,hq,rfl⟩
omit H in
theorem km(b:Bool)(len cap:Nat){lo qd hi gA mx Vr:Option Value}(qW:pn β lo qd)(Qq:pn β hi gA)(PZ:pn β mx Vr):aD L C (gG λx=>x.1<=x.2.1/\(x.2.1=len\/x.2.1<=x.2.2)/\x.2.2<=cap) β (Instr.sliceBounds b len cap lo hi mx) (Instr.sliceBounds b len cap qd gA Vr):=by
 unfold Instr.sliceBounds;cases PZ with
 | none=>
  refine aD.bd (RA:=gG λm=>m<=cap) (.pure ⟨rfl,qa2 _⟩) ?_;rintro rT m _ wV ⟨rfl,Vt⟩;cases Qq with
  | none=>
   have:=(ZE (L:=L) (C:=C) (qW.mono wV) len m .sliceB).imp (RB:=gG λx=>x.1<=x.2.1/\(x.2.1=len\/x.2.1<=x.2.2)/\x.2.2<=cap) (by rintro _ ⟨x1,x2⟩ _ _ ⟨rfl,h1,h2⟩;obtain rfl:x2=_:=h2;exact ⟨rfl,h1, .inl rfl,Vt⟩);cases qW <;> exact this
  | some hv=>
   refine (pF (hv.mono wV) _ _).bd ?_;rintro jc h _ db ⟨rfl,Qr⟩;have:=(ZE (L:=L) (C:=C) ((qW.mono wV).mono db) h m .sliceB).imp (RB:=gG λx=>x.1<=x.2.1/\(x.2.1=len\/x.2.1<=x.2.2)/\x.2.2<=cap) (by rintro _ ⟨x1,x2⟩ _ _ ⟨rfl,h1,h2⟩;obtain rfl:x2=_:=h2;exact ⟨rfl,h1, .inr Qr,Vt⟩);cases qW <;> exact this
 | some hm=>
  refine (pF hm _ _).bd ?_;rintro rT m _ wV ⟨rfl,Vt⟩;cases Qq with
  | none=>exact (aT.eM aT.halt).rel
  | some hv=>
   refine (pF (hv.mono wV) _ _).bd ?_;rintro jc h _ db ⟨rfl,Qr⟩;have:=(ZE (L:=L) (C:=C) ((qW.mono wV).mono db) h m .slice3C).imp (RB:=gG λx=>x.1<=x.2.1/\(x.2.1=len\/x.2.1<=x.2.2)/\x.2.2<=cap) (by rintro _ ⟨x1,x2⟩ _ _ ⟨rfl,h1,h2⟩;obtain rfl:x2=_:=h2;exact ⟨rfl,h1, .inr Qr,Vt⟩);cases qW <;> exact this
theorem Vu(t:TypeId){v v':Value}(hv:ay β v v'){lo qd hi gA mx Vr:Option Value}(qW:pn β lo qd)(Qq:pn β hi gA)(PZ:pn β mx Vr):aD L C ay β (Instr.slice t v lo hi mx) (Instr.slice t v' qd gA Vr):=by
 unfold Instr.slice;refine (gJ H t).bd ?_;rintro jc d _ db ⟨rfl, -⟩;have wU:=hv.mono db;cases d
 case slice e=>
  cases wU with
  | kT n c=>
   refine (km true n c (qW.mono db) (Qq.mono db) (PZ.mono db)).bd ?_;rintro qT ⟨l,h,m⟩ _ iP ⟨rfl, -⟩;refine (gq H e).bd ?_;rintro rX z _ ot ⟨rfl, -⟩;simp only [Option.map_none,ite_self];exact .pure (.kT _ _)
  | y8 a a'=>
   refine (km true 0 0 (qW.mono db) (Qq.mono db) (PZ.mono db)).bd ?_;rintro qT ⟨l,h,m⟩ _ iP ⟨rfl,h1,h2,h3⟩;refine (gq H e).bd ?_;rintro rX z _ ot ⟨rfl, -⟩;obtain rfl:m=0:=Nat.le_zero.1 h3;obtain rfl:h=0:=by simp only at h2;omega
   obtain rfl:l=0:=Nat.le_zero.1 h1;exact .pure (.y8 a a')
  | slice n c ha=>
   refine (km true n c (qW.mono db) (Qq.mono db) (PZ.mono db)).bd ?_;rintro qT ⟨l,h,m⟩ _ iP ⟨rfl, -⟩;refine (gq H e).bd ?_;rintro rX z _ ot ⟨rfl, -⟩;have ha4:=(ha.mono iP).mono ot;simp only [qac];split
   ·exact .pure (.slice _ _ ha4)
   ·exact .pure (.slice _ _ (ha4.add _))
  | _=>exact ar
 case string=>
  cases wU with
  | string s=>
   cases PZ with
   | some _=>exact (aT.eM aT.halt).rel
   | none=>
   simp only [qbp,qa6,if_false];refine (km false _ _ (qW.mono db) (Qq.mono db) .none).bd ?_;rintro qT ⟨l,h,m⟩ _ iP ⟨rfl, -⟩;exact .pure (.string _)
  | _=>exact ar
 case pointer arr=>
  have key:aD L C ay jc (do
    let a←asAddr v
    let .array n elem←underlying arr | stuck "Slice: array type expected"
    let (l,h,m)←Instr.sliceBounds false n n lo hi mx
    let size←sizeOf elem
    pure (.slice (some (if m=l then a else a.add (l*size))) (h - l) (m - l)):Sem Value) (do
    let a←asAddr v'
    let .array n elem←underlying arr | stuck "Slice: array type expected"
    let (l,h,m)←Instr.sliceBounds false n n qd gA Vr
    let size←sizeOf elem
    pure (.slice (some (if m=l then a else a.add (l*size))) (h - l) (m - l))):=by
   refine (xL wU).bd ?_;intro qT a a' iP ha;refine (gJ H arr).bd ?_;rintro rX d _ ot ⟨rfl, -⟩;cases d
   case array n e=>
    refine (km false n n (((qW.mono db).mono iP).mono ot) (((Qq.mono db).mono iP).mono ot) (((PZ.mono db).mono iP).mono ot)).bd ?_;rintro HL ⟨l,h,m⟩ _ y9 ⟨rfl, -⟩;refine (gq H e).bd ?_;rintro Ka z _ AT ⟨rfl, -⟩;have ha6:=((ha.mono ot).mono y9).mono AT
    skip
    split
    ·exact .pure (.slice _ _ ha6)
    ·exact .pure (.slice _ _ (ha6.add _))
   all_goals exact ar
  cases wU <;> exact key
 all_goals (cases wU <;> exact ar)
theorem NW(t:TypeId){v v':Value}(hv:ay β v v'){lo qd hi gA mx Vr:Option Value}(qW:pn β lo qd)(Qq:pn β hi gA)(PZ:pn β mx Vr):aD L C ay β (Instr.sliceAt t v lo hi mx) (Instr.sliceAt t v' qd gA Vr):=by
 unfold Instr.sliceAt;refine (gJ H t).bd ?_;rintro jc d _ db ⟨rfl, -⟩;cases d
 case array n e=>
  refine (qb (hv.mono db)).bd ?_;intro qT a a' iP ha;refine (km false n n ((qW.mono db).mono iP) ((Qq.mono db).mono iP) ((PZ.mono db).mono iP)).bd ?_;rintro rX ⟨l,h,m⟩ _ ot ⟨rfl, -⟩;refine (gq H e).bd ?_;rintro HL z _ y9 ⟨rfl, -⟩;have ha5:=(ha.mono ot).mono y9
  skip
  split
  ·exact .pure (.slice _ _ ha5)
  ·exact .pure (.slice _ _ (ha5.add _))
 all_goals exact Vu H t (hv.mono db) (qW.mono db) (Qq.mono db) (PZ.mono db)
theorem NX(t:TypeId)(hn: ∀n e,L.underlying t=some (.array n e)->n≠0){v v':Value}(hv:ay β v v'):aD L C ay β (Instr.arrayAt t v) (Instr.arrayAt t v'):=by
 unfold Instr.arrayAt;refine (gJ H t).bd ?_;rintro jc d _ db ⟨rfl,FE⟩;cases d
 case array n e=>
  cases hv.mono db with
  | kT l c=>
   simp only;split
   ·exact bj.rel
   ·exact .pure .pB
  | y8 a a'=>
   have:=hn n e FE;simp only;rw [if_pos (by omega),if_pos (by omega)];exact bj.rel
  | slice l c ha=>
   simp only;split
   ·exact bj.rel
   ·exact .pure (.ptr ha)
  | _=>exact ar
 all_goals exact ar
end
end Go.Cx
namespace Go.Cx
open Go
variable[bg][aM][bk]
section
variable{L C:Program}{β:Bj}(H:gV L C)
include H
omit H in
omit [aM] in
theorem HM{β:Bj}{c c':Array Value}(h:aL β c c')(off:Nat): ∀(k:Nat) {x x':List Value} {z z':Array Value},pk β x x'->aL β z z'->
  aL β ((x.zipIdx k).foldl (λcs (c,j)=>cs.setIfInBounds (off+j) c) z) ((x'.zipIdx k).foldl (λcs (c,j)=>cs.setIfInBounds (off+j) c) z')
 | k,_,_,z,z', .nil,hz=>hz
 | k,_,_,z,z', .cons hv hl,hz=>by
  simp only [List.zipIdx_cons,List.foldl_cons];exact HM h off (k+1) hl (hz.set hv _)
inductive wD(β:Bj):List (Nat×Value)->List (Nat×Value)->Prop
 | nil:wD β [] []
 | cons (i:Nat) {v v':Value} {l l':List (Nat×Value)}:ay β v v'->wD β l l'->wD β ((i,v)::l) ((i,v')::l')
omit H in
omit [aM] in
theorem wD.mono{γ:Bj}(l:Le β γ){x x':List (Nat×Value)}(h:wD β x x'):wD γ x x':=by
 induction h with
 | nil=>exact .nil
 | cons i hv _ ih=>exact .cons i (hv.mono l) ih
omit H in
omit [aM] in
theorem xM{place:Nat->Option (Nat×Nat)}: ∀{l l':List (Nat×Value)} {z z':Array Value},wD β l l'->aL β z z'->
  (Instr.fill place z l=none/\Instr.fill place z' l'=none)\/ ∃c c',Instr.fill place z l=some c/\Instr.fill place z' l'=some c'/\aL β c c'
 | _,_,z,z', .nil,hz=> .inr ⟨z,z',rfl,rfl,hz⟩
 | _,_,z,z', .cons i hv hl,hz=>by
  unfold Instr.fill;cases place i with
  | none=>exact .inl ⟨rfl,rfl⟩
  | some p=>
   obtain ⟨off,size⟩:=p;have hc:=hv.cells;simp only [←hc.1, ←hz.1];split
   ·exact .inl ⟨rfl,rfl⟩
   ·refine xM hl ?_;have:=HM hc off 0 hc.list hz;have e: ∀(a y:Array Value),a.zipIdx.foldl (λcs (x:Value×Nat)=>cs.setIfInBounds (off+x.2) x.1) y=(a.toList.zipIdx 0).foldl (λcs (x:Value×Nat)=>cs.setIfInBounds (off+x.2) x.1) y:=λa y=>by rw [←Array.foldl_toList,Array.toList_zipIdx]
    exact (e _ z).symm▸(e _ z').symm▸this
omit H in
theorem uN{s:Sem Value}(h:(∃v,s= .pure v/\Plain v)\/aT L s):aD L C ay β s s:=by
 rcases h with ⟨v,rfl,hp⟩ | h
 ·exact .pure hp.rel
 ·exact h.rel
omit H in
theorem BY(op:BinOp)(k:IntKind)(x y:Int):aD L C ay β (Op.intArith op k x y) (Op.intArith op k x y):=by
 refine uN ?_;unfold Op.intArith;split <;> first | exact .inl ⟨_,rfl, .int _ _⟩ | exact .inr aT.halt
omit H in
theorem Qs(op:BinOp)(k:IntKind)(x y:Int):aD L C ay β (Op.intDiv op k x y) (Op.intDiv op k x y):=by
 refine uN ?_;unfold Op.intDiv;split
 ·exact .inr bj
 ·split <;> first | exact .inl ⟨_,rfl, .int _ _⟩ | exact .inr aT.halt
omit H in
theorem Eu(op:BinOp)(k:IntKind)(x y:Int):aD L C ay β (Op.intBits op k x y) (Op.intBits op k x y):=by
 refine uN ?_;unfold Op.intBits;simp only;split <;> first | exact .inl ⟨_,rfl, .int _ _⟩ | exact .inr aT.halt
omit H in
theorem Bt(op:BinOp)(k:IntKind)(x:Int)(yk:IntKind)(y:Int):aD L C ay β (Op.shift op k x yk y) (Op.shift op k x yk y):=by
 refine uN ?_;unfold Op.shift;split
 ·exact .inr bj
 ·simp only;split <;> first | exact .inl ⟨_,rfl, .int _ _⟩ | exact .inr aT.halt
omit H in
theorem Qu(op:BinOp)(x y:Int):aD L C ay β (Op.intCmp op x y) (Op.intCmp op x y):=by
 refine uN ?_;unfold Op.intCmp;split <;> first | exact .inl ⟨_,rfl, .bool _⟩ | exact .inr aT.halt
omit H in
theorem Vv(op:UnOp){v v':Value}(hv:ay β v v'):aD L C ay β (Op.unary op v) (Op.unary op v'):=by
 cases hv with
 | int k n=>
  cases op
  case neg=>
   show aD L C ay β (Op.intArith .sub k 0 n) (Op.intArith .sub k 0 n);exact BY _ _ _ _
  case xor=>
   show aD L C ay β (Op.intBits .xor k (if k.signed then -1 else k.max) n) _;exact Eu _ _ _ _
  all_goals exact ar
 | bool b=>
  cases op
  case not=>exact .pure (.bool _)
  all_goals exact ar
 | _=>cases op <;> exact ar
theorem NY(t:TypeId)(i:Nat)(hz: ∀(fs:Array Field) (f:Field) (inf:TypeInfo),L.underlying t=some (.struct fs)->fs[i]? =some f->L.info? f.type=some inf->inf.size≠0){v v':Value}(hv:ay β v v'):aD L C ay β (Instr.fieldAt t v i) (Instr.fieldAt t v' i):=by
 unfold Instr.fieldAt;refine (gJ H t).bd ?_;rintro jc d _ db ⟨rfl,hd⟩;cases d
 case struct fs=>
  simp only;cases hf:fs[i]? with
  | none=>exact ar
  | some f=>
   refine (qb (hv.mono db)).bd ?_;intro qT a a' iP ha;refine aD.bd (RA:=jE) ?_ ?_
   ·unfold fieldPlace sizeOf;simp only [bind_assoc];refine (kH H f.type).bd ?_;rintro rX inf _ ot ⟨rfl,hi⟩;have:=hz fs f inf hd hf hi;simp only [pure_bind,this,if_false];exact .pure ((ha.mono ot).add _)
   ·intro rX b b' ot hb;exact .pure (.ptr hb)
 all_goals exact ar
omit H in
omit [aM] in
theorem tq{z:Array Value}(hz: ∀(i:Nat) (v:Value),z[i]? =some v->Plain v)(n:Nat):aL β ((Array.range n).map (z[· % z.size]!)) ((Array.range n).map (z[· % z.size]!)):=by
 refine aL.map λx _=> ?_;by_cases h:x % z.size<z.size
 ·rw [getElem!_pos z _ h];exact (hz _ _ (Array.getElem?_eq_getElem h)).rel
 ·rw [getElem!_neg z _ h];exact ay.bool false
omit H in
omit [bg] [aM] [bk] in
theorem mO{v u:Value}(h:Plain v){k:Nat}(hu:(#[v]:Array Value)[k]? =some u):Plain u:=by
 cases k with
 | zero=>simp at hu;exact hu▸h
 | succ k=>simp at hu
theorem xN(t:TypeId)(J9:UP L t):aD L C (gG λv=> ∀(i:Nat) (u:Value),v.cells[i]? =some u->Plain u) β (zeroValue t) (zeroValue t):=by
 unfold zeroValue;refine (kH H t).bd ?_;rintro cq i _ hl ⟨rfl,hi⟩;cases hz:i.zero with
 | none=>exact ar
 | some v=>
  refine .pure ⟨rfl,λk u hu=> ?_⟩;have hp:=J9 i v hi hz;cases hp with
  | agg h=>exact h k u hu
  | bool b=>exact mO (.bool b) hu
  | int a b=>exact mO (.int a b) hu
  | string b=>exact mO (.string b) hu
  | pB=>exact mO .pB hu
  | kT a b=>exact mO (.kT a b) hu
  | qa=>exact mO .qa hu
  | jd=>exact mO .jd hu
  | tuple h=>exact mO (.tuple h) hu
theorem FF(t:TypeId)(n:Nat)(AU:NS L t){ps ps':Array (Nat×Value)}(hp:wD β ps.toList ps'.toList):aD L C ay β (Instr.buildSlice t n ps) (Instr.buildSlice t n ps'):=by
 unfold Instr.buildSlice;refine (gJ H t).bd ?_;rintro jc d _ db ⟨rfl,FE⟩;cases d
 case slice e=>
  have J9:=AU e FE;refine (gq H e).bd ?_;rintro qT size _ iP ⟨rfl, -⟩;simp only;split
  ·exact (aT.eM aT.halt).rel
  ·have key: ∀(rX:Bj) (z:Array Value),Le qT rX->(∀(i:Nat) (u:Value),z[i]? =some u->Plain u)->aD L C ay rX (do
     let some cells:=Instr.fill (λi=>some (i*size,size)) ((Array.range (n*size)).map (z[· % z.size]!)) ps.toList
      | stuck "buildSlice: a part of the wrong size"
     pure (.slice (some (←newRow e cells)) n n):Sem Value) (do
     let some cells:=Instr.fill (λi=>some (i*size,size)) ((Array.range (n*size)).map (z[· % z.size]!)) ps'.toList
      | stuck "buildSlice: a part of the wrong size"
     pure (.slice (some (←newRow e cells)) n n)):=by
    intro rX z ot hz;rcases xM (place:=λi=>some (i*size,size)) (((hp.mono db).mono iP).mono ot) (tq hz (n*size)) with ⟨h1,h2⟩ | ⟨c,c',h1,h2,h3⟩
    ·rw [h1,h2];exact ar
    ·rw [h1,h2];refine (xK e h3).bd ?_;intro HL a a' y9 ha;exact .pure (.slice _ _ ha)
   split
   ·exact key qT #[] (Le.refl _) (λi u hu=>by simp at hu)
   ·refine (xN H e J9).bd ?_;rintro rX v _ ot ⟨rfl,hz⟩;exact key rX _ ot hz
 all_goals exact ar
end
end Go.Cx
namespace Go.Cx
open Go
variable[bg][aM][bk]
section
variable{L C:Program}{β:Bj}(H:gV L C)
include H
omit H in
theorem Vw{α γ:Type}{f:α->Sem γ}(l:List α)(h: ∀x∈l, ∀β,aD L C (gG λ_=>True) β (f x) (f x)): ∀β,aD L C (gG λ_=>True) β (l.mapM f) (l.mapM f):=by
 induction l with
 | nil=>intro β;rw [List.mapM_nil];exact .pure ⟨rfl,trivial⟩
 | cons x l ih=>
  intro β;rw [List.mapM_cons];refine (h x (by simp) β).bd ?_;rintro jc a _ db ⟨rfl, -⟩;refine (ih (λy hy=>h y (by simp [hy])) jc).bd ?_;rintro qT b _ iP ⟨rfl, -⟩;exact .pure ⟨rfl,trivial⟩
omit H in
theorem acj{α γ:Type}{RA:Bj->α->α->Prop}{RB:Bj->γ->γ->Prop}{s t:Sem α}{f:α->γ}(h:aD L C RA β s t)(k: ∀cq a a',Le β cq->RA cq a a'->RB cq (f a) (f a')):aD L C RB β (Functor.map f s) (Functor.map f t):=by
 rw [map_eq_pure_bind,map_eq_pure_bind];exact h.bd λcq a a' hl ha=> .pure (k cq a a' hl ha)
omit H in
theorem Vx{α γ:Type}{f:α->Sem γ}(xs:Array α)(h: ∀x∈xs, ∀β,aD L C (gG λ_=>True) β (f x) (f x)):aD L C (gG λ_=>True) β (xs.mapM f) (xs.mapM f):=by
 rw [Array.mapM_eq_mapM_toList];refine acj (Vw xs.toList (λx hx=>h x (by simpa using hx)) β) ?_;rintro cq a _ hl ⟨rfl, -⟩;exact ⟨rfl,trivial⟩
theorem Vy(t:TypeId)(J9:UP L t){ps ps':Array (Nat×Value)}(hp:wD β ps.toList ps'.toList):aD L C ay β (Instr.build t ps) (Instr.build t ps'):=by
 unfold Instr.build;refine (Kt H t J9).bd ?_;intro rT z z' wV hz;refine (gJ H t).bd ?_;rintro jc d _ db ⟨rfl, -⟩;have hc:=(hz.mono db).cells;cases d
 case struct fs=>
  refine (Vx fs (λf _ β=> ?_)).bd ?_
  ·refine (gq H f.type).bd ?_;rintro qT n _ iP ⟨rfl, -⟩;exact .pure ⟨rfl,trivial⟩
  ·rintro qT places _ iP ⟨rfl, -⟩;rcases xM (place:=(places[·]?)) (((hp.mono wV).mono db).mono iP) (hc.mono iP) with ⟨h1,h2⟩ | ⟨c,c',h1,h2,h3⟩
   ·simp only [h1,h2];exact ar
   ·simp only [h1,h2];exact .pure h3.FA
 case array n e=>
  refine (gq H e).bd ?_;rintro qT size _ iP ⟨rfl, -⟩;rcases xM (place:=λi=>some (i*size,size)) (((hp.mono wV).mono db).mono iP) (hc.mono iP) with ⟨h1,h2⟩ | ⟨c,c',h1,h2,h3⟩
  ·simp only [h1,h2];exact ar
  ·simp only [h1,h2];exact .pure h3.FA
 all_goals exact ar
omit H in
theorem Ev(n:Nat):aD L C (gG λ_=>True) β (askRoom n) (askRoom n):=by
 unfold askRoom;split
 ·exact .mark (.pure ⟨rfl,trivial⟩)
 ·exact .pure ⟨rfl,trivial⟩
theorem HN(t:TypeId)(AU:NS L t){n n' c c':Value}(hn:ay β n n')(hc:ay β c c'):aD L C ay β (Instr.makeSlice t n c) (Instr.makeSlice t n' c'):=by
 unfold Instr.makeSlice;refine (gJ H t).bd ?_;rintro rT d _ wV ⟨rfl,FE⟩;cases d
 case slice e=>
  have J9:=AU e FE;refine (pE (hn.mono wV)).bd ?_;rintro jc n _ db ⟨rfl, -⟩;refine (pE ((hc.mono wV).mono db)).bd ?_;rintro qT c _ iP ⟨rfl, -⟩;refine (kH H e).bd ?_;rintro rX inf _ ot ⟨rfl, -⟩;simp only;split
  ·refine aT.rel ?_;split
   ·exact aT.eM bj
   ·split
    ·exact aT.eM bj
    ·exact aT.bind λ_=>(by first | exact bj | exact aT.eM bj)
  ·refine (Ev _).bd ?_;rintro HL _ _ y9 -;refine (gq H e).bd ?_;rintro Ka size _ AT ⟨rfl, -⟩;have key: ∀(β7:Bj) (z:Array Value),(∀(i:Nat) (u:Value),z[i]? =some u->Plain u)->aD L C ay β7 (do
     let a←newRow e ((Array.range ((IntKind.i64.wrap c).toNat*size)).map (z[· % z.size]!))
     pure (.slice (some a) (IntKind.i64.wrap n).toNat (IntKind.i64.wrap c).toNat):Sem Value) (do
     let a←newRow e ((Array.range ((IntKind.i64.wrap c).toNat*size)).map (z[· % z.size]!))
     pure (.slice (some a) (IntKind.i64.wrap n).toNat (IntKind.i64.wrap c).toNat)):=by
    intro β7 z hz;refine (xK e (tq hz _)).bd ?_;intro β8 a a' hl8 ha;exact .pure (.slice _ _ ha)
   split
   ·exact key _ #[] (λi u hu=>by simp at hu)
   ·refine (xN H e J9).bd ?_;rintro β7 z _ hl7 ⟨rfl,hz⟩;exact key _ _ hz
 all_goals exact ar
omit H in
theorem NZ(src dst:TypeId)(H:gV L C){v v':Value}(hv:ay β v v')(hs: ∃k,L.underlying src=some (.int k))(hd: ∃k,L.underlying dst=some (.int k)):aD L C ay β (convert src dst v) (convert src dst v'):=by
 unfold convert;obtain ⟨ks,hs⟩:=hs;obtain ⟨kd,hd⟩:=hd;refine (gJ H src).bd ?_;rintro rT ds _ wV ⟨rfl,h1⟩;rw [hs] at h1;cases h1;refine (gJ H dst).bd ?_;rintro jc dd _ db ⟨rfl,h2⟩;rw [hd] at h2;cases h2;cases (hv.mono wV).mono db with
 | int k n=>exact .pure (.int _ _)
 | ptr h=>exact ar
 | _=>exact ar
theorem ack(ts:Array TypeId)(t:TypeId){x x':Array Value}(hx:aL β x x'):aD L C ay β (Builtin.len_ ts t x) (Builtin.len_ ts t x'):=by
 unfold Builtin.len_;cases ht:ts[0]? with
 | none=>exact ar
 | some t0=>
  cases h0:x[0]? with
  | none=>rw [hx.none h0];exact ar
  | some v=>
   obtain ⟨v',h1,hv⟩:=hx.get h0;rw [h1];simp only;refine (gJ H t0).bd ?_;rintro rT d _ wV ⟨rfl, -⟩;cases d
   case string=>cases hv <;> first | exact .pure (.int _ _) | exact ar
   case array=>cases hv <;> exact .pure (.int _ _)
   case slice=>cases hv <;> first | exact .pure (.int _ _) | exact ar
   case pointer arr=>
    have:aD L C ay rT (do
     let .array n _←underlying arr | stuck "len: pointer to array expected"
     pure (goInt n):Sem Value) (do
     let .array n _←underlying arr | stuck "len: pointer to array expected"
     pure (goInt n)):=by
     refine (gJ H arr).bd ?_;rintro jc d2 _ db ⟨rfl, -⟩;cases d2 <;> first | exact .pure (.int _ _) | exact ar
    cases hv <;> exact this
   all_goals (cases hv <;> exact ar)
theorem acm(ts:Array TypeId)(t:TypeId){x x':Array Value}(hx:aL β x x'):aD L C ay β (Builtin.cap_ ts t x) (Builtin.cap_ ts t x'):=by
 unfold Builtin.cap_;cases ht:ts[0]? with
 | none=>exact ar
 | some t0=>
  cases h0:x[0]? with
  | none=>rw [hx.none h0];exact ar
  | some v=>
   obtain ⟨v',h1,hv⟩:=hx.get h0;rw [h1];simp only;refine (gJ H t0).bd ?_;rintro rT d _ wV ⟨rfl, -⟩;cases d
   case array=>cases hv <;> exact .pure (.int _ _)
   case slice=>cases hv <;> first | exact .pure (.int _ _) | exact ar
   case pointer arr=>
    have:aD L C ay rT (do
     let .array n _←underlying arr | stuck "cap: pointer to array expected"
     pure (goInt n):Sem Value) (do
     let .array n _←underlying arr | stuck "cap: pointer to array expected"
     pure (goInt n)):=by
     refine (gJ H arr).bd ?_;rintro jc d2 _ db ⟨rfl, -⟩;cases d2 <;> first | exact .pure (.int _ _) | exact ar
    cases hv <;> exact this
   all_goals (cases hv <;> exact ar)
omit H in
omit [aM] in
theorem rE{z:Array Value}(hz: ∀(i:Nat) (v:Value),z[i]? =some v->Plain v)(n:Nat):aL β (Builtin.zeroCells z n) (Builtin.zeroCells z n):=tq hz _
theorem Vz(ts:Array TypeId)(t:TypeId)(AU: ∀ty∈ts,NS L ty){x x':Array Value}(hx:aL β x x'):aD L C ay β (Builtin.clear_ ts t x) (Builtin.clear_ ts t x'):=by
 unfold Builtin.clear_;cases ht:ts[0]? with
 | none=>exact ar
 | some t0=>
  cases h0:x[0]? with
  | none=>rw [hx.none h0];exact ar
  | some v=>
   obtain ⟨v',h1,hv⟩:=hx.get h0;rw [h1];simp only;refine (gJ H t0).bd ?_;rintro rT d _ wV ⟨rfl,FE⟩;have VA:aD L C ay rT (pure (.tuple #[]):Sem Value) (pure (.tuple #[])):= .pure (.tuple rfl λi v v' h=>by simp at h);have akp: ∀d:TypeDesc,aD L C ay rT (do pure ();pure (.tuple #[]):Sem Value) (do pure ();pure (.tuple #[])):=λ_=>VA;cases hv.mono wV with
   | kT l c=>cases d <;> exact VA
   | y8 a a'=>cases d <;> exact VA
   | @slice a a' l c ha=>
    cases l with
    | zero=>cases d <;> exact VA
    | succ l=>
     cases d
     case slice e=>
      refine (xN H e (AU t0 (qb5 ht) e FE)).bd ?_;rintro jc z _ db ⟨rfl,hz⟩;refine (pD 0 (ha.mono db) (rE hz _).list).bd ?_;rintro qT u u' iP -;exact .pure (.tuple rfl λi v v' h=>by simp at h)
     all_goals exact (aT.eM aT.halt).rel
   | _=>cases d <;> exact (aT.eM aT.halt).rel
omit H in
theorem ZF{v v' u u':Value}(hv:ay β v v')(hu:ay β u u'):aD L C ay β (Builtin.min2 v u) (Builtin.min2 v' u'):=by
 cases hv with
 | int k n=>cases hu with
  | int k2 m=>exact .pure (.int _ _)
  | ptr h=>exact ar
  | _=>exact ar
 | string s=>cases hu with
  | string s2=>
   refine uN ?_;by_cases h:True
   ·exact .inl ⟨_,rfl, .string _⟩
   ·exact absurd trivial h
  | ptr h=>exact ar
  | _=>exact ar
 | ptr h=>cases hu <;> exact ar
 | _=>cases hu <;> exact ar
omit H in
theorem ZG{v v' u u':Value}(hv:ay β v v')(hu:ay β u u'):aD L C ay β (Builtin.max2 v u) (Builtin.max2 v' u'):=by
 cases hv with
 | int k n=>cases hu with
  | int k2 m=>exact .pure (.int _ _)
  | ptr h=>exact ar
  | _=>exact ar
 | string s=>cases hu with
  | string s2=>exact uN (.inl ⟨_,rfl, .string _⟩)
  | ptr h=>exact ar
  | _=>exact ar
 | ptr h=>cases hu <;> exact ar
 | _=>cases hu <;> exact ar
omit H in
theorem FG{f:Value->Value->Sem Value}(hf: ∀(β:Bj) (v v' u u':Value),ay β v v'->ay β u u'->aD L C ay β (f v u) (f v' u')): ∀{l l':List Value} {v v':Value} {β:Bj},pk β l l'->ay β v v'->aD L C ay β (l.foldlM f v) (l'.foldlM f v')
 | _,_,v,v',β, .nil,hv=> .pure hv
 | _,_,v,v',β, .cons hu hl,hv=>by
  rw [List.foldlM_cons,List.foldlM_cons];refine (hf β _ _ _ _ hv hu).bd ?_;intro jc a a' db ha;exact FG hf (hl.mono db) ha
omit H in
theorem aco(ts:Array TypeId)(t:TypeId){x x':Array Value}(hx:aL β x x'):aD L C ay β (Builtin.min_ ts t x) (Builtin.min_ ts t x'):=by
 unfold Builtin.min_;have h:=hx.list;generalize x.toList=l at h;generalize x'.toList=l' at h;cases h with
 | nil=>exact ar
 | cons hv hl=>exact FG (λ_ _ _ _ _=>ZF) hl hv
omit H in
theorem acr(ts:Array TypeId)(t:TypeId){x x':Array Value}(hx:aL β x x'):aD L C ay β (Builtin.max_ ts t x) (Builtin.max_ ts t x'):=by
 unfold Builtin.max_;have h:=hx.list;generalize x.toList=l at h;generalize x'.toList=l' at h;cases h with
 | nil=>exact ar
 | cons hv hl=>exact FG (λ_ _ _ _ _=>ZG) hl hv
end
end Go.Cx
namespace Go.Cx
open Go
variable[bg][aM][bk]
section
variable{L C:Program}{β:Bj}(H:gV L C)
include H
omit H in
theorem vG{v v':Value}(hv:ay β v v'):aD L C (gG λn=> ∀a,v= .slice (some a) 0 0->n=0) β (Builtin.lenOf v) (Builtin.lenOf v'):=by
 cases hv with
 | kT n c=>exact .pure ⟨rfl,nofun⟩
 | y8 a a'=>exact .pure ⟨rfl,λ_ _=>rfl⟩
 | slice n c h=>exact .pure ⟨rfl,λ_ q=>by injection q⟩
 | string s=>exact .pure ⟨rfl,nofun⟩
 | _=>exact ar
omit H in
theorem xO(size n:Nat){v v':Value}(hv:ay β v v')(hz: ∀a,v= .slice (some a) 0 0->n=0):aD L C aL β (Builtin.firstCells size n v) (Builtin.firstCells size n v'):=by
 cases hv with
 | kT l c=>exact .pure aL.empty
 | y8 a a'=>
  obtain rfl:=hz a rfl;simp only [Builtin.firstCells,Nat.zero_mul];exact .pure aL.empty
 | slice l c h=>exact Aw h _
 | string s=>exact .pure (aL.map λ_ _=> .int _ _)
 | _=>exact ar
omit H in
theorem Qv{size:Nat}{v v':Value}(hv:ay β v v'):aD L C (λ_ c c'=>c= #[]/\c'= #[]) β (Builtin.firstCells size 0 v) (Builtin.firstCells size 0 v'):=by
 cases hv with
 | kT l c=>exact .pure ⟨rfl,rfl⟩
 | y8 a a'=>simp only [Builtin.firstCells,Nat.zero_mul];exact .pure ⟨rfl,rfl⟩
 | slice l c h=>simp only [Builtin.firstCells,Nat.zero_mul];exact .pure ⟨rfl,rfl⟩
 | string s=>exact .pure ⟨by simp,by simp⟩
 | _=>exact ar
omit H in
omit [bg] [aM] [bk] in
theorem N0(a:Addr)(n:Nat):nO L (Builtin.holdsCells a n):=by
 unfold Builtin.holdsCells;refine @fT _ _ _ _ _ _ λd=> ?_;split <;> infer_instance
omit H in
omit [bg] [aM] [bk] in
theorem N1(size uO n:Nat)(base:Option Addr)(x:Value):nO L (Builtin.mayShare size uO n base x):=by
 have hf: ∀a,nO L (frozen a):=λa=>jN λw=> .inl ⟨_,_,rfl,rfl⟩;have hh:=λa n=>N0 (L:=L) a n;unfold Builtin.mayShare;cases base with
 | none=>
  simp only [pure_bind];split
  ·infer_instance
  ·split <;> infer_instance
 | some a=>
  refine @fT _ _ _ _ _ (hh _ _) λd=> ?_;refine @fT _ _ _ _ _ (hf _) λd=> ?_;simp only [pure_bind];split
  ·infer_instance
  ·split
   ·exact @fT _ _ _ _ _ (hh _ _) λd=>inferInstance
   ·infer_instance
theorem Qw(ts:Array TypeId)(t:TypeId)(AU: ∀ty∈ts,NS L ty){x x':Array Value}(hx:aL β x x'):aD L C ay β (Builtin.append_ ts t x) (Builtin.append_ ts t x'):=by
 unfold Builtin.append_;cases ht:ts[0]? with
 | none=>exact ar
 | some t0=>
 cases h0:x[0]? with
 | none=>rw [hx.none h0];exact ar
 | some s=>
 obtain ⟨s',HA,hs⟩:=hx.get h0;cases h1:x[1]? with
 | none=>rw [HA,hx.none h1];exact ar
 | some u=>
 obtain ⟨u',Qx,hu⟩:=hx.get h1;rw [HA,Qx];simp only;refine (gJ H t0).bd ?_;rintro rT d _ wV ⟨rfl,FE⟩;cases d
 case slice e=>
  have J9:=AU t0 (qb5 ht) e FE;have hs1:=hs.mono wV;have tk:=hu.mono wV;have key: ∀(base nU:Option Addr) (uO wW:Nat) (rT:Bj),ay rT (.slice base uO wW) (.slice nU uO wW)->ay rT u u'->((base=none/\nU=none)\/(∃a a',base=some a/\nU=some a'/\uO=0/\wW=0)\/ ∃a a',base=some a/\nU=some a'/\jE rT a a')-> ∀(wE:Bool) (size n:Nat),(wE=false-> ∀a,u= .slice (some a) 0 0->n=0)->
    aD L C ay rT (let uP:Sem (Array Value):=
      if !wE then Builtin.firstCells size n u
      else if n*size=0 then pure #[]
      else do pure (Builtin.zeroCells (←zeroValue e).cells n)
     let need:=uO+n
     if need<=wW then do
      let new←uP
      if let some a:=base then storeCells (a.add (uO*size)) new.toList
      pure (.slice base need wW)
     else do
      if (need:Int)>IntKind.i64.max/\(wE\/(←typeInfo e).bytes=0) then runtimePanic (.error "growslice: len out of range")
      if Builtin.nextslicecap need wW*(←typeInfo e).bytes>2^48 then (if wE then runtimePanic (.error "growslice: len out of range") else do
       if !(←Builtin.mayShare size uO n base u) then mark .noRoom
       unsupported (.resourceLimit "append: a slice or a string whose bytes no memory bears"))
      let uQ←choose (.appendCap need wW e)
      askRoom (uQ*(←typeInfo e).bytes)
      let old←Builtin.firstCells size uO (.slice base uO wW)
      let new←uP
      let rest:=Builtin.zeroCells (←zeroValue e).cells (uQ - need)
      pure (.slice (some (←newRow e (old++new++rest))) need uQ):Sem Value)
     (let uP:Sem (Array Value):=
      if !wE then Builtin.firstCells size n u'
      else if n*size=0 then pure #[]
      else do pure (Builtin.zeroCells (←zeroValue e).cells n)
     let need:=uO+n
     if need<=wW then do
      let new←uP
      if let some a:=nU then storeCells (a.add (uO*size)) new.toList
      pure (.slice nU need wW)
     else do
      if (need:Int)>IntKind.i64.max/\(wE\/(←typeInfo e).bytes=0) then runtimePanic (.error "growslice: len out of range")
      if Builtin.nextslicecap need wW*(←typeInfo e).bytes>2^48 then (if wE then runtimePanic (.error "growslice: len out of range") else do
       if !(←Builtin.mayShare size uO n nU u') then mark .noRoom
       unsupported (.resourceLimit "append: a slice or a string whose bytes no memory bears"))
      let uQ←choose (.appendCap need wW e)
      askRoom (uQ*(←typeInfo e).bytes)
      let old←Builtin.firstCells size uO (.slice nU uO wW)
      let new←uP
      let rest:=Builtin.zeroCells (←zeroValue e).cells (uQ - need)
      pure (.slice (some (←newRow e (old++new++rest))) need uQ)):=by
   intro base nU uO wW rT oS tk hb wE size n hn;have acs: ∀{γ:Bj},Le rT γ->aD L C aL γ (if !wE then Builtin.firstCells size n u
      else if n*size=0 then pure #[]
      else do pure (Builtin.zeroCells (←zeroValue e).cells n)) (if !wE then Builtin.firstCells size n u'
      else if n*size=0 then pure #[]
      else do pure (Builtin.zeroCells (←zeroValue e).cells n)):=by
    intro γ hl;split
    ·rename_i hz;exact xO _ _ (tk.mono hl) (hn (by simpa using hz))
    ·split
     ·exact .pure aL.empty
     ·refine (xN H e J9).bd ?_;rintro jc z _ db ⟨rfl,hz⟩;exact .pure (rE hz _)
   simp only;split
   ·by_cases hzz: ∃a a',base=some a/\nU=some a'/\uO=0/\wW=0
    ·obtain ⟨a,a',rfl,rfl,rfl,rfl⟩:=hzz;rename_i hle;obtain rfl:n=0:=by omega
     refine aD.bd (RA:=λ_ c c'=>c= #[]/\c'= #[]) ?_ ?_
     ·split
      ·exact Qv tk
      ·rw [if_pos (Nat.zero_mul _)];exact .pure ⟨rfl,rfl⟩
     ·rintro jc _ _ db ⟨rfl,rfl⟩;exact .pure (.y8 a a')
    refine (acs (Le.refl _)).bd ?_;intro jc c c' db hc;rcases hb with ⟨rfl,rfl⟩ | h | ⟨a,a',rfl,rfl,ha⟩
    ·exact .pure (.kT _ _)
    ·exact absurd h hzz
    ·refine (pD 0 ((ha.mono db).add _) hc.list).bd ?_;rintro qT _ _ iP -;exact .pure (.slice _ _ ((ha.mono db).mono iP))
   ·refine (kH H e).bd ?_;rintro jc inf _ db ⟨rfl, -⟩;split
    ·exact (aT.eM bj).rel
    ·refine (kH H e).bd ?_;rintro qT akq _ iP ⟨rfl, -⟩;split
     ·refine aT.rel (aT.eM ?_);split
      ·exact bj
      ·refine aT.bind (hm:=N1 _ _ _ _ _) λb=> ?_;split
       ·exact aT.bind λ_=>aT.halt
       ·exact aT.halt
     ·refine aD.bd (RA:=gG λ_=>True) (.choose λk=> .pure ⟨rfl,trivial⟩) ?_;rintro rX uQ _ ot ⟨rfl, -⟩;refine (kH H e).bd ?_;rintro HL akr _ y9 ⟨rfl, -⟩;refine (Ev _).bd ?_;rintro Ka _ _ AT -;have l6:=(((db.trans iP).trans ot).trans y9).trans AT;refine (xO _ _ (oS.mono l6) (λa q=>by injection q)).bd ?_;intro β7 old aks hl7 hold;refine (acs (l6.trans hl7)).bd ?_;intro β8 new akt hl8 AV;refine (xN H e J9).bd ?_;rintro β9 z _ hl9 ⟨rfl,hz⟩;refine (xK e ((((hold.mono hl8).mono hl9).append (AV.mono hl9)).append (rE hz _))).bd ?_;intro aku a a' VB ha;exact .pure (.slice _ _ ha)
  cases hs1 with
  | kT l c=>
   refine (gq H e).bd ?_;rintro jc size _ db ⟨rfl, -⟩;cases ts[1]? with
   | none=>
    simp only;refine aD.bd (RA:=gG λ_=>True) (.pure ⟨rfl,trivial⟩) ?_;rintro qT z _ iP ⟨rfl, -⟩;cases z with
    | false=>
     rw [if_neg (show¬((false:Bool)=true) by decide),if_neg (show¬((false:Bool)=true) by decide)];refine (vG (tk.mono (db.trans iP))).bd ?_;rintro rX n _ ot ⟨rfl,Qy⟩;have l4:=(db.trans iP).trans ot;exact key _ _ l c rX (.kT _ _) (tk.mono l4) (.inl ⟨rfl,rfl⟩) false size n (λ_ a q=>Qy a q)
    | true=>
     rw [if_pos (show (true:Bool)=true from rfl),if_pos (show (true:Bool)=true from rfl)];refine (pE (tk.mono (db.trans iP))).bd ?_;rintro rX k _ ot ⟨rfl, -⟩;by_cases hk:IntKind.i64.wrap k<0
     ·rw [if_pos hk,if_pos hk];exact (aT.eM bj).rel
     ·rw [if_neg hk,if_neg hk];refine (kH H e).bd ?_;rintro HL inf _ y9 ⟨rfl, -⟩;by_cases hb:IntKind.i64.wrap k*inf.bytes>2^48
      ·rw [if_pos hb,if_pos hb];exact aT.rel (aT.bind λ_=>aT.eM bj)
      ·rw [if_neg hb,if_neg hb];refine aD.bd (RA:=gG λ_=>True) (.pure ⟨rfl,trivial⟩) ?_;rintro Ka n _ AT ⟨rfl, -⟩;have l4:=(((db.trans iP).trans ot).trans y9).trans AT;exact key _ _ l c Ka (.kT _ _) (tk.mono l4) (.inl ⟨rfl,rfl⟩) true size n nofun
   | some xT=>
    simp only;refine (gJ H xT).bd ?_;rintro acv d _ Qz ⟨rfl, -⟩;have Mz:=db.trans Qz;refine aD.bd (RA:=gG λ_=>True) (.pure ⟨rfl,trivial⟩) ?_;rintro qT z _ iP ⟨rfl, -⟩;cases z with
    | false=>
     rw [if_neg (show¬((false:Bool)=true) by decide),if_neg (show¬((false:Bool)=true) by decide)];refine (vG (tk.mono (Mz.trans iP))).bd ?_;rintro rX n _ ot ⟨rfl,Qy⟩;have l4:=(Mz.trans iP).trans ot;exact key _ _ l c rX (.kT _ _) (tk.mono l4) (.inl ⟨rfl,rfl⟩) false size n (λ_ a q=>Qy a q)
    | true=>
     rw [if_pos (show (true:Bool)=true from rfl),if_pos (show (true:Bool)=true from rfl)];refine (pE (tk.mono (Mz.trans iP))).bd ?_;rintro rX k _ ot ⟨rfl, -⟩;by_cases hk:IntKind.i64.wrap k<0
     ·rw [if_pos hk,if_pos hk];exact (aT.eM bj).rel
     ·rw [if_neg hk,if_neg hk];refine (kH H e).bd ?_;rintro HL inf _ y9 ⟨rfl, -⟩;by_cases hb:IntKind.i64.wrap k*inf.bytes>2^48
      ·rw [if_pos hb,if_pos hb];exact aT.rel (aT.bind λ_=>aT.eM bj)
      ·rw [if_neg hb,if_neg hb];refine aD.bd (RA:=gG λ_=>True) (.pure ⟨rfl,trivial⟩) ?_;rintro Ka n _ AT ⟨rfl, -⟩;have l4:=(((Mz.trans iP).trans ot).trans y9).trans AT;exact key _ _ l c Ka (.kT _ _) (tk.mono l4) (.inl ⟨rfl,rfl⟩) true size n nofun
  | y8 a a'=>
   refine (gq H e).bd ?_;rintro jc size _ db ⟨rfl, -⟩;cases ts[1]? with
   | none=>
    simp only;refine aD.bd (RA:=gG λ_=>True) (.pure ⟨rfl,trivial⟩) ?_;rintro qT z _ iP ⟨rfl, -⟩;cases z with
    | false=>
     rw [if_neg (show¬((false:Bool)=true) by decide),if_neg (show¬((false:Bool)=true) by decide)];refine (vG (tk.mono (db.trans iP))).bd ?_;rintro rX n _ ot ⟨rfl,Qy⟩;have l4:=(db.trans iP).trans ot;exact key _ _ 0 0 rX (.y8 a a') (tk.mono l4) (.inr (.inl ⟨_,_,rfl,rfl,rfl,rfl⟩)) false size n (λ_ a q=>Qy a q)
    | true=>
     rw [if_pos (show (true:Bool)=true from rfl),if_pos (show (true:Bool)=true from rfl)];refine (pE (tk.mono (db.trans iP))).bd ?_;rintro rX k _ ot ⟨rfl, -⟩;by_cases hk:IntKind.i64.wrap k<0
     ·rw [if_pos hk,if_pos hk];exact (aT.eM bj).rel
     ·rw [if_neg hk,if_neg hk];refine (kH H e).bd ?_;rintro HL inf _ y9 ⟨rfl, -⟩;by_cases hb:IntKind.i64.wrap k*inf.bytes>2^48
      ·rw [if_pos hb,if_pos hb];exact aT.rel (aT.bind λ_=>aT.eM bj)
      ·rw [if_neg hb,if_neg hb];refine aD.bd (RA:=gG λ_=>True) (.pure ⟨rfl,trivial⟩) ?_;rintro Ka n _ AT ⟨rfl, -⟩;have l4:=(((db.trans iP).trans ot).trans y9).trans AT;exact key _ _ 0 0 Ka (.y8 a a') (tk.mono l4) (.inr (.inl ⟨_,_,rfl,rfl,rfl,rfl⟩)) true size n nofun
   | some xT=>
    simp only;refine (gJ H xT).bd ?_;rintro acv d _ Qz ⟨rfl, -⟩;have Mz:=db.trans Qz;refine aD.bd (RA:=gG λ_=>True) (.pure ⟨rfl,trivial⟩) ?_;rintro qT z _ iP ⟨rfl, -⟩;cases z with
    | false=>
     rw [if_neg (show¬((false:Bool)=true) by decide),if_neg (show¬((false:Bool)=true) by decide)];refine (vG (tk.mono (Mz.trans iP))).bd ?_;rintro rX n _ ot ⟨rfl,Qy⟩;have l4:=(Mz.trans iP).trans ot;exact key _ _ 0 0 rX (.y8 a a') (tk.mono l4) (.inr (.inl ⟨_,_,rfl,rfl,rfl,rfl⟩)) false size n (λ_ a q=>Qy a q)
    | true=>
     rw [if_pos (show (true:Bool)=true from rfl),if_pos (show (true:Bool)=true from rfl)];refine (pE (tk.mono (Mz.trans iP))).bd ?_;rintro rX k _ ot ⟨rfl, -⟩;by_cases hk:IntKind.i64.wrap k<0
     ·rw [if_pos hk,if_pos hk];exact (aT.eM bj).rel
     ·rw [if_neg hk,if_neg hk];refine (kH H e).bd ?_;rintro HL inf _ y9 ⟨rfl, -⟩;by_cases hb:IntKind.i64.wrap k*inf.bytes>2^48
      ·rw [if_pos hb,if_pos hb];exact aT.rel (aT.bind λ_=>aT.eM bj)
      ·rw [if_neg hb,if_neg hb];refine aD.bd (RA:=gG λ_=>True) (.pure ⟨rfl,trivial⟩) ?_;rintro Ka n _ AT ⟨rfl, -⟩;have l4:=(((Mz.trans iP).trans ot).trans y9).trans AT;exact key _ _ 0 0 Ka (.y8 a a') (tk.mono l4) (.inr (.inl ⟨_,_,rfl,rfl,rfl,rfl⟩)) true size n nofun
  | slice l c ha=>
   refine (gq H e).bd ?_;rintro jc size _ db ⟨rfl, -⟩;cases ts[1]? with
   | none=>
    simp only;refine aD.bd (RA:=gG λ_=>True) (.pure ⟨rfl,trivial⟩) ?_;rintro qT z _ iP ⟨rfl, -⟩;cases z with
    | false=>
     rw [if_neg (show¬((false:Bool)=true) by decide),if_neg (show¬((false:Bool)=true) by decide)];refine (vG (tk.mono (db.trans iP))).bd ?_;rintro rX n _ ot ⟨rfl,Qy⟩;have l4:=(db.trans iP).trans ot;exact key _ _ l c rX (.slice _ _ (ha.mono l4)) (tk.mono l4) (.inr (.inr ⟨_,_,rfl,rfl,ha.mono l4⟩)) false size n (λ_ a q=>Qy a q)
    | true=>
     rw [if_pos (show (true:Bool)=true from rfl),if_pos (show (true:Bool)=true from rfl)];refine (pE (tk.mono (db.trans iP))).bd ?_;rintro rX k _ ot ⟨rfl, -⟩;by_cases hk:IntKind.i64.wrap k<0
     ·rw [if_pos hk,if_pos hk];exact (aT.eM bj).rel
     ·rw [if_neg hk,if_neg hk];refine (kH H e).bd ?_;rintro HL inf _ y9 ⟨rfl, -⟩;by_cases hb:IntKind.i64.wrap k*inf.bytes>2^48
      ·rw [if_pos hb,if_pos hb];exact aT.rel (aT.bind λ_=>aT.eM bj)
      ·rw [if_neg hb,if_neg hb];refine aD.bd (RA:=gG λ_=>True) (.pure ⟨rfl,trivial⟩) ?_;rintro Ka n _ AT ⟨rfl, -⟩;have l4:=(((db.trans iP).trans ot).trans y9).trans AT;exact key _ _ l c Ka (.slice _ _ (ha.mono l4)) (tk.mono l4) (.inr (.inr ⟨_,_,rfl,rfl,ha.mono l4⟩)) true size n nofun
   | some xT=>
    simp only;refine (gJ H xT).bd ?_;rintro acv d _ Qz ⟨rfl, -⟩;have Mz:=db.trans Qz;refine aD.bd (RA:=gG λ_=>True) (.pure ⟨rfl,trivial⟩) ?_;rintro qT z _ iP ⟨rfl, -⟩;cases z with
    | false=>
     rw [if_neg (show¬((false:Bool)=true) by decide),if_neg (show¬((false:Bool)=true) by decide)];refine (vG (tk.mono (Mz.trans iP))).bd ?_;rintro rX n _ ot ⟨rfl,Qy⟩;have l4:=(Mz.trans iP).trans ot;exact key _ _ l c rX (.slice _ _ (ha.mono l4)) (tk.mono l4) (.inr (.inr ⟨_,_,rfl,rfl,ha.mono l4⟩)) false size n (λ_ a q=>Qy a q)
    | true=>
     rw [if_pos (show (true:Bool)=true from rfl),if_pos (show (true:Bool)=true from rfl)];refine (pE (tk.mono (Mz.trans iP))).bd ?_;rintro rX k _ ot ⟨rfl, -⟩;by_cases hk:IntKind.i64.wrap k<0
     ·rw [if_pos hk,if_pos hk];exact (aT.eM bj).rel
     ·rw [if_neg hk,if_neg hk];refine (kH H e).bd ?_;rintro HL inf _ y9 ⟨rfl, -⟩;by_cases hb:IntKind.i64.wrap k*inf.bytes>2^48
      ·rw [if_pos hb,if_pos hb];exact aT.rel (aT.bind λ_=>aT.eM bj)
      ·rw [if_neg hb,if_neg hb];refine aD.bd (RA:=gG λ_=>True) (.pure ⟨rfl,trivial⟩) ?_;rintro Ka n _ AT ⟨rfl, -⟩;have l4:=(((Mz.trans iP).trans ot).trans y9).trans AT;exact key _ _ l c Ka (.slice _ _ (ha.mono l4)) (tk.mono l4) (.inr (.inr ⟨_,_,rfl,rfl,ha.mono l4⟩)) true size n nofun
  | _=>exact ar
 all_goals exact ar
end
end Go.Cx
namespace Go.Cx
open Go
variable[bg][aM][bk]
section
variable{L C:Program}{β:Bj}(H:gV L C)
include H
inductive N2(L:Program):TypeId->Prop
 | bool {t:TypeId}:L.underlying t=some .bool->N2 L t
 | int {t:TypeId} {k:IntKind}:L.underlying t=some (.int k)->N2 L t
 | string {t:TypeId}:L.underlying t=some .string->N2 L t
 | slice {t e:TypeId}:L.underlying t=some (.slice e)->N2 L t
 | struct {t:TypeId} {fs:Array Field}:L.underlying t=some (.struct fs)->L.stoodInHeld t=false->(∀f∈fs,N2 L f.type)->N2 L t
omit H in
theorem QA{α σ:Type}{f g:α->σ->Sem (ForInStep σ)}: ∀(l:List α),(∀x∈l, ∀(cq:Bj) (s:σ),Le β cq->aD L C (gG λ_=>True) cq (f x s) (g x s))-> ∀(cq:Bj) (s:σ),Le β cq->aD L C (gG λ_=>True) cq (forIn l s f) (forIn l s g)
 | [],h,cq,s,hl=>by simp only [List.forIn_nil];exact .pure ⟨rfl,trivial⟩
 | x::l,h,cq,s,hl=>by
  simp only [List.forIn_cons];refine (h x (by simp) cq s hl).bd ?_;rintro jc r _ db ⟨rfl, -⟩;cases r with
  | done s=>exact .pure ⟨rfl,trivial⟩
  | yield s=>exact QA l (λy hy=>h y (by simp [hy])) jc s (hl.trans db)
omit H in
theorem ZH{α σ:Type}{f g:α->σ->Sem (ForInStep σ)}(xs:Array α)(h: ∀x∈xs, ∀(cq:Bj) (s:σ),Le β cq->aD L C (gG λ_=>True) cq (f x s) (g x s))(s:σ):aD L C (gG λ_=>True) β (forIn xs s f) (forIn xs s g):=by
 rw [←Array.forIn_toList, ←Array.forIn_toList];exact QA xs.toList (λx hx=>h x (by simpa using hx)) β s (Le.refl _)
omit [aM] [bk] in
theorem N3(t:TypeId)(a b:Addr):aT L (do
  let (a,b):=((←behindNumber a).1,(←behindNumber b).1)
  if a.block==b.block&&a.block<(←program).globals.size then return (←byteOf a)==(←byteOf b)
  let .named "sync.copyChecker" _:=(←typeInfo t).desc | unsupported .addressObserved
  if a==b then pure true else unsupported .addressObserved:Sem Bool):=by
 refine aT.bind λx=>aT.bind λy=>aT.prog ?_;simp only [H.gl,qar,decide_false,Bool.and_false,qa6,if_false];refine aT.info λi hi=> ?_;split
 ·rename_i n hd;exact absurd hd (H.cc t i _ hi)
 ·exact aT.halt
theorem zl: ∀(d:Nat) {t:TypeId},N2 L t-> ∀{β:Bj} {v v' u u':Value},ay β v v'->ay β u u'->aD L C (gG λ_=>True) β (Op.equalIn d t v u) (Op.equalIn d t v' u')
 | 0,t,_,β,v,v',u,u',hv,hu=>ar
 | d+1,t,ht,β,v,v',u,u',hv,hu=>by
  unfold Op.equalIn;refine (gJ H t).bd ?_;rintro rT D _ wV ⟨rfl,hD⟩;have QB:=hv.mono wV;have tk:=hu.mono wV;cases ht with
  | bool h=>
   rw [h] at hD;cases hD;cases QB <;> cases tk <;> first | exact .pure ⟨rfl,trivial⟩ | exact ar
  | int h=>
   rw [h] at hD;cases hD;cases QB with
   | int k n=>
    cases tk with
    | int k2 m=>
     simp only;split
     ·exact .pure ⟨rfl,trivial⟩
     ·exact ar
    | ptr h=>
     by_cases hn:n=0
     ·subst hn;exact .pure ⟨rfl,trivial⟩
     ·refine aT.rel ?_;split <;> first | exact aT.halt | (exfalso;simp_all)
    | _=>exact ar
   | ptr h=>
    cases tk with
    | int k n=>
     by_cases hn:n=0
     ·subst hn;exact .pure ⟨rfl,trivial⟩
     ·refine aT.rel ?_;split <;> first | exact aT.halt | (exfalso;simp_all)
    | ptr h=>exact (N3 H t _ _).rel
    | _=>exact ar
   | _=>cases tk <;> exact ar
  | string h=>
   rw [h] at hD;cases hD;cases QB <;> cases tk <;> first | exact .pure ⟨rfl,trivial⟩ | exact ar
  | slice h=>
   rw [h] at hD;cases hD;cases QB <;> cases tk <;> first | exact .pure ⟨rfl,trivial⟩ | exact ar
  | struct h h2 h3=>
   rw [h] at hD;cases hD;cases QB with
   | agg a1 a2=>
    cases tk with
    | agg b1 b2=>
     simp only;refine .program ?_;show aD L C _ rT (if L.stoodInHeld t=true then _ else _) (if C.stoodInHeld t=true then _ else _);rw [H.sih,h2];rw [if_neg (by decide),if_neg (by decide)];refine (ZH _ (λf hf jc s db=> ?_) _).bd ?_
     ·by_cases hn:f.name≠ "_"
      ·rw [if_pos hn,if_pos hn];refine (Kw H f.type (aL.mono db ⟨a1,a2⟩) _).bd ?_;intro qT p p' iP hp;refine (Kw H f.type (aL.mono (db.trans iP) ⟨b1,b2⟩) _).bd ?_;intro rX q q' ot hq;refine (zl d (h3 f hf) (hp.mono ot) hq).bd ?_;rintro HL b _ y9 ⟨rfl, -⟩;split <;> exact .pure ⟨rfl,trivial⟩
      ·rw [if_neg hn,if_neg hn];exact .pure ⟨rfl,trivial⟩
     ·rintro jc r _ db ⟨rfl, -⟩;split <;> exact .pure ⟨rfl,trivial⟩
    | _=>exact ar
   | _=>cases tk <;> exact ar
end
end Go.Cx
namespace Go.Cx
open Go
variable[bg][aM][bk]
section
variable{L C:Program}{β:Bj}(H:gV L C)
include H
omit H in
theorem xP{a b:Nat}(h:β a b):aD L C (gG λ_=>True) β (shape a) (shape b):= .shape h λ_=> .pure ⟨rfl,trivial⟩
omit H in
theorem BZ{a b:Nat}(h:β a b):aD L C (λβ (x x':Option (Addr×Bool))=>(x=none/\x'=none)\/ ∃d d' z,x=some (d,z)/\x'=some (d',z)/\jE β d d') β (numberAt a) (numberAt b):=by
 unfold numberAt;refine (xP h).bd ?_;rintro jc s _ db ⟨rfl, -⟩;split
 ·exact .pure (.inl ⟨rfl,rfl⟩)
 ·refine .getObj (db _ _ h) λo o' ho=> ?_;cases ho with
  | num z hd=>exact .pure (.inr ⟨_,_,z,rfl,rfl,hd⟩)
  | DJ z=>cases z <;> exact .pure (.inl ⟨rfl,rfl⟩)
  | _=>exact .pure (.inl ⟨rfl,rfl⟩)
omit H in
theorem HQ{a b:Nat}(h:β a b):aD L C (λ_ (x x':Option (Addr×TypeId))=>x=none/\x'=none) β (viewAt a) (viewAt b):=by
 unfold viewAt;refine (xP h).bd ?_;rintro jc s _ db ⟨rfl, -⟩;split
 ·exact .pure ⟨rfl,rfl⟩
 ·refine .getObj (db _ _ h) λo o' ho=> ?_;cases ho with
  | DJ z=>cases z <;> exact .pure ⟨rfl,rfl⟩
  | _=>exact .pure ⟨rfl,rfl⟩
omit H in
theorem HR{a a':Addr}(h:jE β a a'):aD L C (λβ (x x':Addr×Bool)=>x.2=x'.2/\jE β x.1 x'.1) β (behindNumber a) (behindNumber a'):=by
 unfold behindNumber;refine (BZ h.block).bd ?_;rintro jc s s' db (⟨rfl,rfl⟩ | ⟨d,d',z,rfl,rfl,hd⟩)
 ·exact .pure ⟨rfl,h.mono db⟩
 ·exact .pure ⟨rfl,hd⟩
omit H in
def uAdd(ptr:Option Addr)(len_:Value):Sem Value:=do
 let n←asInt len_
 if n=0 then
  let some a:=ptr | unsupported (.unsafePointer "Add: from nil")
  if (←viewAt a.block).isSome then unsupported (.unsafePointer "Add: at a place where no cell lies")
  return .pointer ptr
 if n<0 then unsupported (.unsafePointer "Add: a move by a count below zero")
 let some a:=ptr | unsupported (.unsafePointer "Add")
 let some (e,cells)←shape a.block | unsupported (.unsafePointer "Add")
 let p←program
 match cellAtBytes p p.depth e (cells / p.cellsOf e) a.off n with
 | some off=>pure (.pointer (some { a with off }))
 | none=>unsupported (.unsafePointer "Add")
omit H in
omit [bg] [aM] [bk] in
theorem MA(t:TypeId)(a:Option Addr)(y:Value):Builtin.unsafeAdd_ #[] t #[.pointer a,y]=uAdd a y:=rfl
def Yv(β:Bj)(v v':Value):Prop:= ∃a a',v= .pointer (some a)/\v'= .pointer (some a')/\jE β a a'
theorem xQ(t:TypeId){a a':Option Addr}{y y':Value}(h:(a=none/\a'=none)\/ ∃d d',a=some d/\a'=some d'/\jE β d d')(hy:ay β y y'):
  aD L C Yv β (Builtin.unsafeAdd_ #[] t #[.pointer a,y]) (Builtin.unsafeAdd_ #[] t #[.pointer a',y']):=by
 rw [MA,MA];unfold uAdd;refine (pE hy).bd ?_;rintro jc n _ db ⟨rfl, -⟩;rcases h with ⟨rfl,rfl⟩ | ⟨d,d',rfl,rfl,hd⟩
 ·refine aT.rel ?_;by_cases hn:n=0
  ·simp only [if_pos hn];exact aT.eM aT.halt
  ·by_cases N5:n<0
   ·simp only [if_neg hn,if_pos N5];exact aT.eM aT.halt
   ·simp only [if_neg hn,if_neg N5];exact aT.halt
 ·simp only;by_cases hn:n=0
  ·rw [if_pos hn,if_pos hn];refine (HQ (hd.mono db).block).bd ?_;rintro qT _ _ iP ⟨rfl,rfl⟩;exact .pure ⟨_,_,rfl,rfl,(hd.mono db).mono iP⟩
  ·rw [if_neg hn,if_neg hn];by_cases N5:n<0
   ·rw [if_pos N5,if_pos N5];exact (aT.eM aT.halt).rel
   ·rw [if_neg N5,if_neg N5];refine (xP (hd.mono db).block).bd ?_;rintro qT s _ iP ⟨rfl, -⟩;cases s with
    | none=>exact ar
    | some s=>
     obtain ⟨e,cells⟩:=s;refine .program ?_;have hd3:=(hd.mono db).mono iP;show aD L C Yv qT (match cellAtBytes L L.depth e (cells / L.cellsOf e) d.off n with | some off=>pure (.pointer (some { d with off })) | none=>unsupported (.unsafePointer "Add")) (match cellAtBytes C C.depth e (cells / C.cellsOf e) d'.off n with | some off=>pure (.pointer (some { d' with off })) | none=>unsupported (.unsafePointer "Add"));rw [H.cab,hd3.off];cases cellAtBytes L L.depth e (cells / L.cellsOf e) d.off n with
     | none=>exact ar
     | some off=>exact .pure ⟨_,_,rfl,rfl,hd3.block,rfl,hd3.spot⟩
theorem uR(t:TypeId){a a':Option Addr}{y y':Value}(h:(a=none/\a'=none)\/ ∃d d',a=some d/\a'=some d'/\jE β d d')(hy:ay β y y'):
 aD L C ay β (Builtin.unsafeAdd_ #[] t #[.pointer a,y]) (Builtin.unsafeAdd_ #[] t #[.pointer a',y']):=(xQ H t h hy).imp λcq v v' _ ⟨a,a',e1,e2,h⟩=>by subst e1;subst e2;exact .ptr h
omit H in
theorem Kx{a a':Addr}(h:jE β a a')(z:Bool):aD L C ay β (asNumber a z) (asNumber a' z):=by
 unfold asNumber newObj;exact .new (.num z h) λγ r r' hl hr=> .pure (.ptr ⟨hr,rfl,rfl⟩)
theorem me(t:TypeId){x x' y y':Value}(hx:ay β x x')(hy:ay β y y'):aD L C ay β (movedNumber t x y) (movedNumber t x' y'):=by
 unfold movedNumber;refine (gJ H t).bd ?_;rintro jc d _ db ⟨rfl, -⟩;have oQ:=hx.mono db;have hy2:=hy.mono db;have key:aD L C ay jc (do
   let .pointer (some n):=x | Builtin.unsafeAdd_ #[] t #[x,y]
   let (a,lost)←behindNumber n
   match←Builtin.unsafeAdd_ #[] t #[.pointer (some a),y] with
   | .pointer (some b)=>asNumber b lost
   | v=>pure v:Sem Value) (do
   let .pointer (some n):=x' | Builtin.unsafeAdd_ #[] t #[x',y']
   let (a,lost)←behindNumber n
   match←Builtin.unsafeAdd_ #[] t #[.pointer (some a),y'] with
   | .pointer (some b)=>asNumber b lost
   | v=>pure v):=by
  cases oQ with
  | ptr h=>
   refine (HR h).bd ?_;rintro qT ⟨a,z⟩ ⟨a',z'⟩ iP ⟨h1,h2⟩;simp only at h1 h2;subst h1;refine (xQ H t (.inr ⟨a,a',rfl,rfl,h2⟩) (hy2.mono iP)).bd ?_;rintro rX v v' ot ⟨b,b',rfl,rfl,h⟩;exact Kx h _
  | pB=>exact uR H t (.inl ⟨rfl,rfl⟩) hy2
  | _=>exact ar
 cases d
 case unsafePointer=>exact (aT.eM aT.halt).rel
 all_goals exact key
theorem B1(t:TypeId){x x' y y':Value}(hx:ay β x x')(hp: ∃a,x= .pointer a)(hy:ay β y y'):aD L C ay β (movedPointer t x y) (movedPointer t x' y'):=by
 unfold movedPointer;cases hx with
 | ptr h=>
  refine (BZ h.block).bd ?_;rintro jc s s' db (⟨rfl,rfl⟩ | ⟨d,d',z,rfl,rfl,hd⟩)
  ·exact uR H t (.inr ⟨_,_,rfl,rfl,h.mono db⟩) (hy.mono db)
  ·exact (aT.eM aT.halt).rel
 | pB=>exact uR H t (.inl ⟨rfl,rfl⟩) hy
 | _=>obtain ⟨a,ha⟩:=hp;cases ha
omit [aM] [bk] in
theorem HS(a b:Addr):aT L (Op.twoPlaces a b):=by
 unfold Op.twoPlaces;refine aT.prog ?_;simp only [H.gl,qa7,ge_iff_le,decide_true,Bool.or_true,if_true];exact aT.eM aT.halt
end
end Go.Cx
namespace Go.Cx
open Go
variable[bg][aM][bk]
section
variable{L C:Program}{β:Bj}(H:gV L C)
include H
theorem QC{a a':Addr}(h:jE β a a'):aD L C (gG λ_=>True) β (byteOf a) (byteOf a'):=by
 unfold byteOf;rw [h.spot];cases a.spot with
 | some s=>exact .pure ⟨rfl,trivial⟩
 | none=>
  refine .program ?_;unfold noView;simp only [bind_assoc];refine (HQ h.block).bd ?_;rintro jc _ _ db ⟨rfl,rfl⟩;simp only [qbp,qa6,if_false,pure_bind];refine (xP (h.mono db).block).bd ?_;rintro qT s _ iP ⟨rfl, -⟩;cases s with
  | none=>exact ar
  | some s=>
   obtain ⟨e,n⟩:=s;obtain ⟨e1,e2,e3⟩:=H.bof e (a.off % L.cellsOf e);simp only [e1,h.off,e2,e3];split
   ·exact .pure ⟨rfl,trivial⟩
   ·cases byteOfCell L L.depth e (a.off % L.cellsOf e) with
    | none=>exact ar
    | some b=>exact .pure ⟨rfl,trivial⟩
theorem Oa(k:IntKind)(n:Int){a a':Addr}(h:jE β a a'):aD L C ay β (Op.addrMod k a n) (Op.addrMod k a' n):=by
 unfold Op.addrMod;refine (xP h.block).bd ?_;rintro jc s _ db ⟨rfl, -⟩;cases s with
 | none=>exact ar
 | some s=>
  obtain ⟨e,m⟩:=s;simp only;refine (kH H e).bd ?_;rintro qT i _ iP ⟨rfl, -⟩;split
  ·exact (aT.eM aT.halt).rel
  ·refine (QC H ((h.mono db).mono iP)).bd ?_;rintro rX b _ ot ⟨rfl, -⟩;exact .pure (.int _ _)
omit H in
theorem Ky(op:BinOp)(x y:ByteArray):aD L C ay β (Op.stringOp op x y) (Op.stringOp op x y):=by
 refine uN ?_;unfold Op.stringOp;simp only;split
 ·split
  ·exact .inr aT.halt
  ·exact .inl ⟨_,rfl, .string _⟩
 all_goals first | exact .inl ⟨_,rfl, .bool _⟩ | exact .inr aT.halt
omit H in
omit [bg] [aM] [bk] in
theorem QD(d:Nat)(t:TypeId){x y:Value}(h:x= .tuple #[]\/y= .tuple #[]):aT L (Op.equalIn d t x y):=by
 cases d with
 | zero=>exact aT.halt
 | succ d=>
  unfold Op.equalIn;refine aT.bind λD=> ?_;rcases h with rfl | rfl
  ·cases D <;> first | exact aT.halt | (cases y <;> first | exact aT.halt | (rename_i a;cases a <;> exact aT.halt) | (rename_i a l c;cases a <;> exact aT.halt))
  ·cases D <;> first | exact aT.halt | (cases x <;> first | exact aT.halt | (rename_i a;cases a <;> exact aT.halt) | (rename_i a l c;cases a <;> exact aT.halt))
omit H in
omit [bg] [aM] [bk] in
theorem QE(op:BinOp)(t:TypeId){x y:Value}(h:x= .tuple #[]\/y= .tuple #[]):aT L (binOp op t x y):=by
 have he:aT L (Op.equal t x y):=QD _ t h;unfold binOp;rcases h with rfl | rfl
 ·cases op <;> cases y <;> first | exact aT.halt | exact aT.eM he | (rename_i a;cases a <;> exact aT.halt)
 ·cases op <;> cases x <;> first | exact aT.halt | exact aT.eM he | (rename_i a;cases a <;> exact aT.halt)
theorem VC(op:BinOp)(t:TypeId)(ht:op= .eql\/op= .neq->N2 L t){x x' y y':Value}(hx:ay β x x')(hy:ay β y y'):aD L C ay β (binOp op t x y) (binOp op t x' y'):=by
 have DV:N2 L t->aD L C ay β (do pure (.bool (←Op.equal t x y)):Sem Value) (do pure (.bool (←Op.equal t x' y'))):=λh=>by
  refine (zl H _ h hx hy).bd ?_;rintro jc b _ db ⟨rfl, -⟩;exact .pure (.bool _)
 have DW:N2 L t->aD L C ay β (do pure (.bool (!(←Op.equal t x y))):Sem Value) (do pure (.bool (!(←Op.equal t x' y')))):=λh=>by
  refine (zl H _ h hx hy).bd ?_;rintro jc b _ db ⟨rfl, -⟩;exact .pure (.bool _)
 have hii: ∀k a k' b,aD L C ay β (binOp op t (.int k a) (.int k' b)) (binOp op t (.int k a) (.int k' b)):=by
  intro k a k' b;unfold binOp;by_cases hk:k≠k'
  ·cases op
   case shl=>exact Bt _ _ _ _ _
   case shr=>exact Bt _ _ _ _ _
   all_goals (simp only [hk,ne_eq,not_false_eq_true,if_true];exact ar)
  ·cases op
   case shl=>exact Bt _ _ _ _ _
   case shr=>exact Bt _ _ _ _ _
   all_goals (simp only [hk,if_false];first | exact BY _ _ _ _ | exact Qs _ _ _ _ | exact Eu _ _ _ _ | exact Qu _ _ _)
 have hss: ∀a b,aD L C ay β (binOp op t (.string a) (.string b)) (binOp op t (.string a) (.string b)):=by
  intro a b;unfold binOp;cases op <;> exact Ky _ _ _
 have ZI: ∀{a a':Addr} (k:IntKind) (n:Int),jE β a a'->aD L C ay β (do Op.addrMod k (←behindNumber a).1 n:Sem Value) (do Op.addrMod k (←behindNumber a').1 n):=λk n h=>by
  refine (HR h).bd ?_;rintro jc x x' db ⟨h1,h2⟩;exact Oa H k n h2
 have acw: ∀{x x' y y':Value},ay β x x'->(∃a,x= .pointer a)->ay β y y'->aD L C ay β (do if (←underlying t) matches .unsafePointer then movedPointer t x y else movedNumber t x y:Sem Value) (do if (←underlying t) matches .unsafePointer then movedPointer t x' y' else movedNumber t x' y'):=λhx hp hy=>by
  refine (gJ H t).bd ?_;rintro jc d _ db ⟨rfl, -⟩;cases d
  case unsafePointer=>exact B1 H t (hx.mono db) hp (hy.mono db)
  all_goals exact me H t (hx.mono db) (hy.mono db)
 by_cases hh:x= .tuple #[]\/y= .tuple #[]
 ·exact (QE op t hh).rel
 have af4: ∀a b,aT L (do Op.addrSub .u64 (←behindNumber a).1 (←behindNumber b).1:Sem Value):=λa b=>aT.bind λ_=>aT.bind λ_=>aT.eM (HS H _ _);have af5: ∀o a b,aT L (do Op.addrCmp o (←behindNumber a).1 (←behindNumber b).1:Sem Value):=λo a b=>aT.bind λ_=>aT.bind λ_=>aT.eM (HS H _ _);cases hx with
 | int k a=>
  cases hy with
  | int k' b=>exact hii k a k' b
  | ptr h=>
   unfold binOp;cases op
   case eql=>exact DV (ht (.inl rfl))
   case neq=>exact DW (ht (.inr rfl))
   case add=>exact me H t (.ptr h) (.int _ _)
   case and=>exact ZI _ _ h
   all_goals exact ar
  | pB=>
   unfold binOp;cases op
   case eql=>exact DV (ht (.inl rfl))
   case neq=>exact DW (ht (.inr rfl))
   case add=>exact me H t .pB (.int _ _)
   all_goals exact ar
  | hole _ _=>exact (hh (.inr rfl)).elim
  | _=>
   unfold binOp;cases op
   case eql=>exact DV (ht (.inl rfl))
   case neq=>exact DW (ht (.inr rfl))
   all_goals exact ar
 | string a=>
  cases hy with
  | string b=>exact hss a b
  | hole _ _=>exact (hh (.inr rfl)).elim
  | _=>
   unfold binOp;cases op
   case eql=>exact DV (ht (.inl rfl))
   case neq=>exact DW (ht (.inr rfl))
   all_goals exact ar
 | ptr h=>
  cases hy with
  | int k n=>
   unfold binOp;cases op
   case eql=>exact DV (ht (.inl rfl))
   case neq=>exact DW (ht (.inr rfl))
   case add=>exact acw (.ptr h) ⟨_,rfl⟩ (.int _ _)
   case sub=>exact me H t (.ptr h) (.int _ _)
   case rem=>exact ZI _ _ h
   case and=>exact ZI _ _ h
   all_goals exact ar
  | ptr h'=>
   unfold binOp;cases op
   case eql=>exact DV (ht (.inl rfl))
   case neq=>exact DW (ht (.inr rfl))
   case sub=>exact (af4 _ _).rel
   all_goals first | exact ar | exact (af5 _ _ _).rel
  | hole _ _=>exact (hh (.inr rfl)).elim
  | _=>
   unfold binOp;cases op
   case eql=>exact DV (ht (.inl rfl))
   case neq=>exact DW (ht (.inr rfl))
   all_goals exact ar
 | pB=>
  cases hy with
  | int k n=>
   unfold binOp;cases op
   case eql=>exact DV (ht (.inl rfl))
   case neq=>exact DW (ht (.inr rfl))
   case add=>exact acw .pB ⟨_,rfl⟩ (.int _ _)
   case sub=>exact me H t .pB (.int _ _)
   all_goals exact ar
  | hole _ _=>exact (hh (.inr rfl)).elim
  | _=>
   unfold binOp;cases op
   case eql=>exact DV (ht (.inl rfl))
   case neq=>exact DW (ht (.inr rfl))
   all_goals exact ar
 | hole _ _=>exact (hh (.inl rfl)).elim
 | _=>
  cases hy
  case hole=>exact (hh (.inr rfl)).elim
  all_goals
   unfold binOp;cases op
   case eql=>exact DV (ht (.inl rfl))
   case neq=>exact DW (ht (.inr rfl))
   all_goals exact ar
end
end Go.Cx
namespace Go.Cx
open Go
variable[bg][aM][bk]
inductive Oc(β:Bj):Target->Target->Prop
 | fn {f f':Fn} {c c':Array Value}:DU β f f'->aL β c c'->Oc β (.fn f c) (.fn f' c')
 | method (n:String):Oc β (.fn (.method n) #[]) (.fn (.method n) #[])
 | builtin (b:Builtin) (ts:Array TypeId) (t:TypeId) (cs:Array Bool):Oc β (.builtin b ts t cs) (.builtin b ts t cs)
 | nil:Oc β .nil .nil
structure acx(β:Bj)(d d':Deferred):Prop where
 target:Oc β d.target d'.target
 args:aL β d.args d'.args
inductive mZ(β:Bj):Next->Next->Prop
 | value {v v':Value}:ay β v v'->mZ β (.value v) (.value v')
 | skip:mZ β .skip .skip
 | enter (f:FuncId) {x x':Array Value}:bg.ok f->bg.uo f->aL β x x'->mZ β (.enter f x) (.enter f x')
 | round {l l':Nat} (f:FuncId) {x x':Array Value} (a b:Code):aM.code a->aM.code b->β l l'->aL β x x'->mZ β (.round l f x a b) (.round l' f x' a b)
section
variable{L C:Program}{β:Bj}(H:gV L C)
include H
theorem B2(f:FuncId)(ur:bg.ok f){x x':Array Value}(hx:aL β x x'):aD L C mZ β (callFunc f x) (callFunc f x'):=by
 cases hf:L.funcs[f]? with
 | none=>
  refine aT.rel ?_;unfold callFunc;refine aT.prog ?_;rw [hf];exact aT.halt
 | some fn=>
  by_cases hb:fn.body.isNone=true
  ·exact aT.rel (H.nob f fn hf hb x)
  ·simp only [qbg] at hb;obtain ⟨h0,h1,kl,h2,h3,h4⟩:=H.fns f fn hf hb;unfold callFunc;refine .program ?_;show aD L C mZ β (match L.funcs[f]? with | none=>_ | some fn=>_) (match C.funcs[f]? with | none=>_ | some fn=>_);rw [hf,h2];simp only [h1,h4,hb,h3,qa6,if_false];exact .pure (.enter f ur h0 hx)
omit H in
omit [bg] [aM] [bk] in
theorem Od(ts:Array TypeId)(t:TypeId)(a b:ByteArray):aT L (Builtin.ssaWrapNilChk_ ts t #[.pointer none, .string a, .string b]):=by
 change aT L (_ >>= _);refine aT.bind λn=> ?_;by_cases hn:(n==1)=true
 ·simp only [hn,if_true];exact aT.eM bj
 ·simp only [hn,if_false];cases ts[0]? with
  | none=>exact aT.halt
  | some pt=>
   refine aT.bind λd=> ?_;cases d
   case pointer t=>
    refine aT.bind λi=> ?_;split
    ·split
     ·split
      ·exact bj
      ·exact aT.halt
     ·exact aT.halt
    ·exact aT.halt
   all_goals exact aT.halt
theorem FH(t:TypeId){v v':Value}(hv:ay β v v')(p:Bool)(w:Option String):aD L C ay β (receiverAt t (.val v) p w) (receiverAt t (.val v') p w):=by
 unfold receiverAt;refine (gJ H t).bd ?_;rintro jc d _ db ⟨rfl, -⟩;have wU:=hv.mono db;cases d
 case pointer e=>
  cases p with
  | true=>exact .pure wU
  | false=>
   simp only [Place.get];refine aD.bd (RA:=ay) (.pure wU) ?_;intro qT u u' iP hu;cases w with
   | none=>
    refine aD.bd (RA:=ay) (.pure hu) ?_;intro rX q q' ot hq;refine (xL hq).bd ?_;intro HL a a' y9 ha;exact vE H e ha
   | some name=>
    refine aD.bd (RA:=ay) (s:=Builtin.ssaWrapNilChk_ #[t] t #[u,strVal "",strVal name]) (t:=Builtin.ssaWrapNilChk_ #[t] t #[u',strVal "",strVal name]) ?_ ?_
    ·cases hu with
     | ptr h=>exact .pure (.ptr h)
     | pB=>exact (Od _ _ _ _).rel
     | _=>exact ar
    ·intro rX q q' ot hq;refine (xL hq).bd ?_;intro HL a a' y9 ha;exact vE H e ha
 all_goals (cases p <;> first | exact ar | exact .pure wU)
theorem HT: ∀(fuel:Nat) (t:TypeId) {β:Bj} {v v':Value} (name:String),ay β v v'->aD L C (λβ (x x':FuncId×Value)=>x.1=x'.1/\bg.ok x.1/\ay β x.2 x'.2) β (method fuel t v name) (method fuel t v' name)
 | 0,t,β,v,v',name,hv=>ar
 | fuel+1,t,β,v,v',name,hv=>by
  unfold method;refine (kH H t).bd ?_;rintro jc i _ db ⟨rfl,hi⟩;cases hm:i.methods.find? (·.name==name) with
  | none=>exact ar
  | some m=>
   obtain ⟨hp,za⟩:=H.mp t i m hi (Array.mem_of_find?_eq_some hm);simp only [hp,follow,pure_bind];cases hmf:m.func with
   | none=>
    simp only;refine aD.bd (RA:=ay) (.pure (hv.mono db)) ?_;intro qT u u' iP hu;cases hu with
    | iface t' h=>exact HT fuel t' name h
    | jd=>exact bj.rel
    | _=>exact ar
   | some fp=>
    obtain ⟨f,p⟩:=fp;simp only;refine (FH H t (hv.mono db) p _).bd ?_;intro qT u u' iP hu;exact .pure ⟨rfl,za f p hmf,hu⟩
theorem B3: ∀(fuel:Nat) (t:TypeId) {β:Bj} {v v':Value} (name:String),ay β v v'->aD L C (λ_ (x x':Option Bool)=>x'=x) β (nilAhead fuel t v name) (nilAhead fuel t v' name)
 | 0,t,β,v,v',name,hv=> .pure rfl
 | fuel+1,t,β,v,v',name,hv=>by
  unfold nilAhead;refine (kH H t).bd ?_;rintro jc i _ db ⟨rfl,hi⟩;cases hm:i.methods.find? (·.name==name) with
  | none=>exact ar
  | some m=>
   obtain ⟨hp,za⟩:=H.mp t i m hi (Array.mem_of_find?_eq_some hm);simp only [hp,followBlind,pure_bind];have wU:=hv.mono db;cases hmf:m.func with
   | none=>
    try simp only
    cases wU with
    | iface t' h=>exact B3 fuel t' name h
    | jd=>exact .pure rfl
    | _=>exact ar
   | some fp=>
    obtain ⟨f,p⟩:=fp;cases p with
    | true=>exact .pure rfl
    | false=>
     try simp only
     refine (gJ H t).bd ?_;rintro qT d _ iP ⟨rfl, -⟩;cases d
     case pointer e=>
      cases wU with
      | pB=>exact .pure rfl
      | ptr h=>exact .pure rfl
      | hole ho hp=>cases v' <;> first | exact ho.elim | exact .pure rfl | (rename_i a;cases a <;> first | exact ho.elim | exact .pure rfl)
      | _=>exact .pure rfl
     all_goals exact .pure rfl
theorem xR{v v':Value}(name:String){x x':Array Value}(hv:ay β v v')(hx:aL β x x'):aD L C mZ β (callMethod v name x) (callMethod v' name x'):=by
 unfold callMethod;cases hv with
 | iface t h=>
  refine .program ?_;show aD L C mZ β (do
   let (f,receiver)←method (L.types.size+Made.depth) t _ name
   callFunc f (#[receiver]++x)) (do
   let (f,receiver)←method (C.types.size+Made.depth) t _ name
   callFunc f (#[receiver]++x'))
  rw [H.PY];refine (HT H _ t name h).bd ?_;rintro jc ⟨f,r⟩ ⟨f',r'⟩ db ⟨h1,h0,h2⟩;simp only at h1 h0 h2;subst h1;exact B2 H f h0 ((aL.one h2).append (hx.mono db))
 | jd=>exact bj.rel
 | _=>exact ar
omit H in
theorem rY{l l':Nat}(h:β l l'):aD L C Kr β (Instr.getLoop l) (Instr.getLoop l'):=by
 unfold Instr.getLoop;refine aD.bd (RA:=tn) (.getObj h λo o' ho=> .pure ho) ?_;intro jc o o' db ho;cases ho with
 | loop h=>exact .pure h
 | DJ b=>cases b <;> exact ar
 | _=>exact ar
omit H in
omit [aM] in
theorem HU(ps:Array Tmp){x x' t t':Array Value}(hx:aL β x x')(ht:aL β t t'):aL β ((ps.zip x).foldl (λtmps (t,a)=>tmps.setIfInBounds t a) t) ((ps.zip x').foldl (λtmps (t,a)=>tmps.setIfInBounds t a) t'):=by
 have key: ∀(l:List Tmp) {y y':List Value} {t t':Array Value},pk β y y'->aL β t t'->aL β ((l.zip y).foldl (λtmps (q:Tmp×Value)=>tmps.setIfInBounds q.1 q.2) t) ((l.zip y').foldl (λtmps (q:Tmp×Value)=>tmps.setIfInBounds q.1 q.2) t'):=by
  intro l
  induction l with
  | nil=>intro y y' t t' _ ht;exact ht
  | cons p l ih=>
   intro y y' t t' hy ht;cases hy with
   | nil=>exact ht
   | cons hv hl=>exact ih hl (ht.set hv p)
 have:=key ps.toList hx.list ht;rw [←Array.foldl_toList, ←Array.foldl_toList,Array.toList_zip,Array.toList_zip];exact this
omit H in
theorem VD{l l':Nat}(h:β l l'){x x':Array Value}(hx:aL β x x'):aD L C mZ β (Instr.yield l x) (Instr.yield l' x'):=by
 unfold Instr.yield;refine (rY h).bd ?_;intro jc r r' db hr;rw [←hx.1,hr.params];split
 ·exact (aT.eM aT.halt).rel
 ·rw [hr.fn,hr.assign,hr.body];exact .pure (.round _ _ _ hr.ca hr.cb (db _ _ h) (HU _ (hx.mono db) hr.tmps))
end
end Go.Cx
namespace Go.Cx
open Go
variable[bg][aM][bk]
def mf:Operand->Prop
 | .tmp _=>True
 | .const v=>Plain v
 | .global _=>False
 | .func f=>bg.ok f
def okB:Builtin->Bool
 | .append | .cap | .clear | .len | .max | .min=>true
 | _=>false
def B4:Callee->Prop
 | .value f=>mf f
 | .invoke r _=>mf r
 | .builtin b=>okB b=true
def Kz(L C:Program):Op->Prop
 | .move x | .assign x | .box _ x | .load _ x | .nilCheck x | .unOp _ _ x | .makeInterface _ x | .extract x _ | .panic x=>mf x
 | .typeAssert x _ t _=>mf x/\UP L t
 | .sliceToArrayPointer t x=>mf x/\ ∀n e,L.underlying t=some (.array n e)->n≠0
 | .pick c a b=>mf c/\mf a/\mf b
 | .alloc t=>UP L t
 | .build t ps=>(∀p∈ps,mf p.2)/\UP L t
 | .buildSlice t _ ps=>(∀p∈ps,mf p.2)/\NS L t
 | .makeSlice t a x=>mf a/\mf x/\NS L t
 | .store _ a x | .indexAddr _ a x | .index _ a x=>mf a/\mf x
 | .binOp op t x y _=>mf x/\mf y/\(op= .eql\/op= .neq->N2 L t/\L.eqGuardType L.depth t=false/\C.eqGuardType C.depth t=false)
 | .convert s d x=>mf x/\(∃k,L.underlying s=some (.int k))/\ ∃k,L.underlying d=some (.int k)
 | .makeFunc (.func f) xs ys=>(∀x∈xs,mf x)/\(∀y∈ys,mf y)/\bg.ok f
 | .slice _ x l h m=>mf x/\(∀y∈l,mf y)/\(∀y∈h,mf y)/\ ∀y∈m,mf y
 | .fieldAddr s x i=>mf x/\ ∀(fs:Array Field) (f:Field) (inf:TypeInfo),L.underlying s=some (.struct fs)->fs[i]? =some f->L.info? f.type=some inf->inf.size≠0
 | .call c=>B4 c.callee/\(∀x∈c.args,mf x)/\ ∀ty∈c.argTypes,NS L ty
 | _=>False
section
variable{L C:Program}{β:Bj}(H:gV L C)
include H
omit H in
omit [aM] in
theorem Ew{v v':Value}(hv:ay β v v')(b:Bool):ay β (.tuple #[v, .bool b]) (.tuple #[v', .bool b]):=(aL.push (aL.one hv) (.bool b)).HI
theorem FI(xt at_:TypeId)(ok:Bool)(J9:UP L at_){v v':Value}(hv:ay β v v'):aD L C ay β (Instr.typeAssert v xt at_ ok) (Instr.typeAssert v' xt at_ ok):=by
 unfold Instr.typeAssert;refine (gJ H at_).bd ?_;rintro jc d _ db ⟨rfl, -⟩;have wU:=hv.mono db;have holds: ∀{β:Bj} {u u':Value},ay β u u'->aD L C ay β (pure (if ok then .tuple #[u, .bool true] else u):Sem Value) (pure (if ok then .tuple #[u', .bool true] else u')):=by
  intro β u u' hu;cases ok with
  | true=>exact .pure (Ew hu true)
  | false=>exact .pure hu
 have MB: ∀(s d:Option TypeId) (m:String) {β:Bj},aD L C ay β (if ok then do pure (.tuple #[←zeroValue at_, .bool false]) else runtimePanic (.typeAssertion s d at_ m):Sem Value) (if ok then do pure (.tuple #[←zeroValue at_, .bool false]) else runtimePanic (.typeAssertion s d at_ m)):=by
  intro s d m β;split
  ·refine (Kt H at_ J9).bd ?_;intro qT z z' iP hz;exact .pure (Ew hz false)
  ·exact bj.rel
 cases d
 case interface ms=>
  cases wU with
  | jd=>exact MB _ _ _
  | iface t h=>
   refine (kH H t).bd ?_;rintro qT i _ iP ⟨rfl, -⟩;split
   ·exact holds (.iface t (h.mono iP))
   ·exact MB _ _ _
  | _=>exact ar
 all_goals
  cases wU with
  | jd=>exact MB _ _ _
  | iface t h=>
   simp only;split
   ·exact holds h
   ·exact MB _ _ _
  | _=>exact ar
theorem Oe(op:BinOp)(t:TypeId)(x y:Operand)(ht:op= .eql\/op= .neq->N2 L t/\L.eqGuardType L.depth t=false/\C.eqGuardType C.depth t=false){a a' b b':Value}(ha:ay β a a')(hb:ay β b b'):
  aD L C (gG λ_=>True) β (eqGuard op t x y a b) (eqGuard op t x y a' b'):=by
 unfold eqGuard;by_cases ho:op= .eql\/op= .neq
 ·obtain ⟨h1,h2,h3⟩:=ht ho;rcases ho with rfl | rfl
  all_goals
   simp only [qae,qa6,if_false];cases ha with
   | jd=>
    cases hb with
    | jd=>
     simp only;have:aD L C (λ_ (x x':Bool)=>x=false/\x'=false) β (Op.eqGuardIn Op.maxDepth t .nilIface .nilIface) (Op.eqGuardIn Op.maxDepth t .nilIface .nilIface):=by
      show aD L C _ β (Op.eqGuardIn (9999+1) t .nilIface .nilIface) (Op.eqGuardIn (9999+1) t .nilIface .nilIface);unfold Op.eqGuardIn;refine (gJ H t).bd ?_;rintro jc d _ db ⟨rfl,hd⟩;cases h1 with
      | bool h=>rw [h] at hd;cases hd;exact .pure ⟨rfl,rfl⟩
      | int h=>rw [h] at hd;cases hd;exact .pure ⟨rfl,rfl⟩
      | string h=>rw [h] at hd;cases hd;exact .pure ⟨rfl,rfl⟩
      | slice h=>rw [h] at hd;cases hd;exact .pure ⟨rfl,rfl⟩
      | struct h _ _=>rw [h] at hd;cases hd;exact .pure ⟨rfl,rfl⟩
     repeat' split
     all_goals first
      | exact .pure ⟨rfl,trivial⟩
      | (refine this.bd ?_;rintro jc _ _ db ⟨rfl,rfl⟩;exact .pure ⟨rfl,trivial⟩)
    | @hole b' ho _=>cases b' <;> first | exact ho.elim | exact .pure ⟨rfl,trivial⟩
    | _=>exact .pure ⟨rfl,trivial⟩
   | agg h k=>
    cases hb with
    | agg h' k'=>
     refine .program ?_;show aD L C _ β (do
      if !L.eqGuardType (←program).depth t then return
      if←Op.eqGuardIn Op.maxDepth t _ _ then unsupported _) (do
      if !C.eqGuardType (←program).depth t then return
      if←Op.eqGuardIn Op.maxDepth t _ _ then unsupported _)
     refine .program ?_;show aD L C _ β (do
      if !L.eqGuardType L.depth t then return
      if←Op.eqGuardIn Op.maxDepth t _ _ then unsupported _) (do
      if !C.eqGuardType C.depth t then return
      if←Op.eqGuardIn Op.maxDepth t _ _ then unsupported _)
     rw [h2,h3];exact .pure ⟨rfl,trivial⟩
    | @hole b' ho _=>cases b' <;> first | exact ho.elim | exact .pure ⟨rfl,trivial⟩
    | _=>exact .pure ⟨rfl,trivial⟩
   | @hole a' ho _=>cases a' <;> first | exact ho.elim | exact .pure ⟨rfl,trivial⟩
   | _=>cases hb <;> exact .pure ⟨rfl,trivial⟩
 ·cases op <;> first | exact .pure ⟨rfl,trivial⟩ | exact absurd (.inl rfl) ho | exact absurd (.inr rfl) ho
omit H in
omit [bg] [aM] [bk] in
theorem FJ:nO L Instr.panicnil:=by
 have hk: ∀{α:Type} (x:Ask α) (w:World),(w.ask x).2.heap=w.heap:=by
  intro α x
  induction x with
  | done a=>intro w;rfl
  | ask akv range k ih=>
   intro w;unfold World.ask;simp only;split
   ·exact ih _ w
   ·exact ih _ { w with drawn:=w.drawn+1 }
 have hs:nO L (sys .env):=jN λw=>by
  refine .inl ⟨_,_,rfl, ?_⟩;have:=hk (Kernel.perform .env w.os) w;unfold World.sys;generalize w.ask (Kernel.perform .env w.os)=q at this;obtain ⟨⟨r,os⟩,w'⟩:=q;cases r <;> first | exact this | rfl
 unfold Instr.panicnil;refine @fT _ _ _ _ _ hs λd=> ?_;split <;> infer_instance
omit H in
omit [bg] [aM] [bk] in
theorem KA(v:Value):aT L (Instr.panic v):=by
 unfold Instr.panic;cases v <;> first | exact aT.halt | skip
 refine aT.bind (hm:=FJ) λn=> ?_;split
 ·exact aT.halt
 ·exact bj
theorem Of(b:Builtin)(hb:okB b=true)(ts:Array TypeId)(AU: ∀ty∈ts,NS L ty)(t:TypeId)(cs:Array Bool){x x':Array Value}(hx:aL β x x'):aD L C mZ β (builtin b ts t cs x) (builtin b ts t cs x'):=by
 have fin: ∀{s s':Sem Value},aD L C ay β s s'->aD L C mZ β (do pure (.value (←s))) (do pure (.value (←s'))):=λh=>h.bd λcq a a' hl ha=> .pure (.value ha);unfold builtin;cases b <;> first | (cases hb;done) | skip
 ·exact fin (Qw H ts t AU hx)
 ·exact fin (acm H ts t hx)
 ·exact fin (Vz H ts t AU hx)
 ·exact fin (ack H ts t hx)
 ·exact fin (acr ts t hx)
 ·exact fin (aco ts t hx)
end
end Go.Cx
namespace Go.Cx
open Go
variable[bg][aM][bk]
section
variable{L C:Program}{β:Bj}(H:gV L C)
include H
theorem HV{t t':Target}(ht:Oc β t t')(hb: ∀b ts u cs,t= .builtin b ts u cs->okB b=true/\ ∀ty∈ts,NS L ty){x x':Array Value}(hx:aL β x x'):aD L C mZ β (invoke t x) (invoke t' x'):=by
 unfold invoke;cases ht with
 | nil=>exact bj.rel
 | builtin b ts u cs=>exact Of H b (hb _ _ _ _ rfl).1 ts (hb _ _ _ _ rfl).2 u cs hx
 | method n=>
  simp only;cases h0:x[0]? with
  | none=>exact ar
  | some v=>
   obtain ⟨v',h1,hv⟩:=hx.get h0;rw [h1];simp only;rw [←hx.1];exact xR H n hv (hx.extract _ _)
 | fn hf hc=>
  cases hf with
  | func f hf=>exact B2 H f hf (hx.append hc)
  | yield hl=>exact VD hl hx
  | method n=>
   simp only;cases h0:x[0]? with
   | none=>exact ar
   | some v=>
    obtain ⟨v',h1,hv⟩:=hx.get h0;rw [h1];simp only;rw [←hx.1];exact xR H n hv (hx.extract _ _)
omit H in
theorem Og{ρ rU:Operand->Value}(na: ∀x,mf x->ay β (ρ x) (rU x))(c:Call)(t:TypeId)(h1:B4 c.callee)(h2: ∀x∈c.args,mf x)(h3: ∀ty∈c.argTypes,NS L ty):
  aD L C (λβ (d d':Deferred)=>acx β d d'/\ ∀b ts u cs,d.target= .builtin b ts u cs->okB b=true/\ ∀ty∈ts,NS L ty) β (resolve ρ c t) (resolve rU c t):=by
 unfold resolve;have ha:aL β (c.args.map ρ) (c.args.map rU):=aL.map λx hx=>na x (h2 x hx);revert h1;cases c.callee with
 | builtin b=>
  intro h1;exact .pure ⟨⟨.builtin _ _ _ _,ha⟩,λb' ts u cs q=>by cases q;exact ⟨h1,h3⟩⟩
 | invoke r n=>
  intro h1;exact .pure ⟨⟨.method n,(aL.one (na r h1)).append ha⟩,λb' ts u cs q=>by cases q⟩
 | value f=>
  intro h1;have hf:=na f h1;unfold Deferred.ofValue;dsimp only;generalize ρ f=u at hf;generalize rU f=u' at hf;cases hf with
  | func g a1 a2 a3 a4=>exact .pure ⟨⟨.fn g ⟨a2,a4⟩,aL.append ⟨a1,a3⟩ ha⟩,λb' ts u cs q=>by cases q⟩
  | qa=>exact .pure ⟨⟨.nil,ha⟩,λb' ts u cs q=>by cases q⟩
  | _=>exact ar
omit H in
theorem nV{s s':Sem Value}(h:aD L C ay β s s'):aD L C mZ β (do pure (.value (←s))) (do pure (.value (←s'))):=h.bd λcq a a' hl ha=> .pure (.value ha)
omit H in
omit [aM] in
theorem KB{ρ rU:Operand->Value}: ∀(l:List (Nat×Operand)),(∀p∈l,ay β (ρ p.2) (rU p.2))->wD β (l.map fun (i,x)=>(i,ρ x)) (l.map fun (i,x)=>(i,rU x))
 | [],_=> .nil
 | (i,x)::l,h=> .cons i (h (i,x) (by simp)) (KB l λp hp=>h p (by simp [hp]))
omit H in
omit [aM] in
theorem KC{ρ rU:Operand->Value}(o:Option Operand)(h: ∀y∈o,ay β (ρ y) (rU y)):pn β (o.map ρ) (o.map rU):=by
 cases o with
 | none=>exact .none
 | some y=>exact .some (h y rfl)
theorem KD{ρ rU:Operand->Value}(na: ∀x,mf x->ay β (ρ x) (rU x))(o:Oper)(ho:Kz L C o.op):aD L C mZ β (execOp ρ o) (execOp rU o):=by
 unfold execOp;revert ho;cases o.op <;> intro ho <;> try exact False.elim ho
 case move x=>exact .pure (.value (na x ho))
 case assign x=>exact .pure (.value (na x ho))
 case pick c a b=>
  refine (Qo (na c ho.1)).bd ?_;rintro jc z _ hl ⟨rfl, -⟩;cases z with
  | true=>exact .pure (.value ((na a ho.2.1).mono hl))
  | false=>exact .pure (.value ((na b ho.2.2).mono hl))
 case alloc e=>exact nV (Vp H e ho)
 case box e x=>exact nV (aci e (na x ho))
 case build t ps=>
  refine nV (Vy H t ho.2 ?_);rw [Array.toList_map,Array.toList_map];exact KB _ λp hp=>na _ (ho.1 p (by simpa using hp))
 case buildSlice t n ps=>
  refine nV (FF H t n ho.2 ?_);rw [Array.toList_map,Array.toList_map];exact KB _ λp hp=>na _ (ho.1 p (by simpa using hp))
 case load t a=>exact nV (Qp H t (na a ho))
 case store t a x=>
  refine (NT H t (na a ho.1) (na x ho.2)).bd ?_;rintro jc z _ hl ⟨rfl, -⟩;exact .pure .skip
 case nilCheck x=>
  have hx:=na x ho;dsimp only;generalize ρ x=u at hx;generalize rU x=u' at hx;cases hx with
  | pB=>exact bj.rel
  | jd=>exact bj.rel
  | qa=>exact bj.rel
  | bool b=>exact .pure (.value (.bool b))
  | int k n=>exact .pure (.value (.int k n))
  | string s=>exact .pure (.value (.string s))
  | ptr h=>exact .pure (.value (.ptr h))
  | kT n c=>exact .pure (.value (.kT n c))
  | y8 a a'=>exact .pure (.value (.y8 a a'))
  | slice n c h=>exact .pure (.value (.slice n c h))
  | @func _ _ x x' y y' h h1 h2 h3 h4=>
   cases h with
   | func f hf=>exact .pure (.value (.func (.func f hf) h1 h2 h3 h4))
   | yield h=>exact .pure (.value (.func (.yield h) h1 h2 h3 h4))
   | method n=>
    simp only;cases h0:x[0]? with
    | none=>
     have HA:x'[0]? =none:=by
      rw [Array.getElem?_eq_none_iff] at h0 ⊢;rw [←h1];exact h0
     rw [HA];exact .pure (.value (.func (.method n) h1 h2 h3 h4))
    | some z=>
     obtain ⟨z',HA,hz⟩:=aL.get ⟨h1,h3⟩ h0;rw [HA];cases hz with
     | jd=>exact bj.rel
     | iface t hw=>
      refine .program ?_;show aD L C _ β (nilAhead (L.types.size+Made.depth) t _ n >>= λr=>_) (nilAhead (C.types.size+Made.depth) t _ n >>= λr=>_);rw [H.PY];refine (B3 H _ t n hw).bd ?_;rintro jc r r' db hr';rw [show r'=r from hr'];by_cases hr:(r != some false)=true
      ·simp only [hr,if_true];exact ar
      ·simp only [hr,if_false];exact .pure (.value ((ay.func (.method n) h1 h2 h3 h4).mono db))
     | hole ho hp=>cases z' <;> first | exact ho.elim | exact (bk.noI _ _ hp).elim | exact .pure (.value (.func (.method n) h1 h2 h3 h4))
     | _=>exact .pure (.value (.func (.method n) h1 h2 h3 h4))
  | iface t h=>exact .pure (.value (.iface t h))
  | agg h k=>exact .pure (.value (.agg h k))
  | tuple h k=>exact .pure (.value (.tuple h k))
  | hole h k=>cases u' <;> first | exact h.elim | exact .pure (.value (.hole h k)) | (rename_i a;cases a <;> first | exact h.elim | exact .pure (.value (.hole h k))) | (rename_i a _ _;cases a <;> first | exact h.elim | exact .pure (.value (.hole h k)))
 case binOp op t x y u=>
  refine nV ?_;refine (Oe H op t x y ho.2.2 (na x ho.1) (na y ho.2.1)).bd ?_;rintro jc z _ hl ⟨rfl, -⟩;exact VC H op t (λq=>(ho.2.2 q).1) ((na x ho.1).mono hl) ((na y ho.2.1).mono hl)
 case unOp op t x=>exact nV (Vv op (na x ho))
 case convert s d x=>exact nV (NZ s d H (na x ho.1) ho.2.1 ho.2.2)
 case sliceToArrayPointer a x=>exact nV (NX H a ho.2 (na x ho.1))
 case makeInterface t x=>exact nV (AS H t (na x ho))
 case makeFunc fn xs ys=>
  cases fn <;> try exact False.elim ho
  exact nV (Kv (.func _ ho.2.2) (aL.map λx hx=>na x (ho.1 x hx)) (aL.map λx hx=>na x (ho.2.1 x hx)))
 case makeSlice t a b=>exact nV (HN H t ho.2.2 (na a ho.1) (na b ho.2.1))
 case slice t x l h m=>exact nV (NW H t (na x ho.1) (KC l λy hy=>na y (ho.2.1 y hy)) (KC h λy hy=>na y (ho.2.2.1 y hy)) (KC m λy hy=>na y (ho.2.2.2 y hy)))
 case fieldAddr s x i=>exact nV (NY H s i ho.2 (na x ho.1))
 case indexAddr t a b=>exact nV (NV H t (na a ho.1) (na b ho.2))
 case index t a b=>exact nV (Vq H t (na a ho.1) (na b ho.2))
 case typeAssert x a b c=>exact nV (FI H a b c ho.2 (na x ho.1))
 case extract x i=>exact nV (NU i (na x ho))
 case call c=>
  refine (Og na c o.type ho.1 ho.2.1 ho.2.2).bd ?_;rintro jc d d' hl ⟨h1,h2⟩;exact HV H h1.target h2 h1.args
 case panic x=>exact aT.rel (aT.eM (KA _))
end
end Go.Cx
namespace Go.Cx
open Go
section
variable[bg]
inductive cN(L C:Program):Code->Prop
 | skip:cN L C .skip
 | region (id:Nat) {ops:Array Oper} (draw:Bool):(∀o∈ops,Kz L C o.op)->cN L C (.region id ops draw)
 | seq {a b:Code}:cN L C a->cN L C b->cN L C (.seq a b)
 | cond {c:Operand} {a b:Code}:mf c->cN L C a->cN L C b->cN L C (.cond c a b)
 | block (id:Nat) {a:Code}:cN L C a->cN L C (.block id a)
 | loop {a:Code}:cN L C a->cN L C (.loop a)
 | rangeFunc {f:Operand} (ps:Array Tmp) {a b:Code}:mf f->cN L C a->cN L C b->cN L C (.rangeFunc f ps a b)
 | exit (id:Nat):cN L C (.exit id)
 | label (l:Nat):cN L C (.label l)
 | ret:cN L C .ret
end
variable[bg][aM][bk]
inductive re(L C:Program)(β:Bj):Item->Item->Prop
 | code {c:Code}:cN L C c->re L C β (.code c) (.code c)
 | inBlock (id:Nat):re L C β (.inBlock id) (.inBlock id)
 | inLoop {c:Code}:cN L C c->re L C β (.inLoop c) (.inLoop c)
 | inRegion {ops:Array Oper} (todo:List Nat):(∀o∈ops,Kz L C o.op)->re L C β (.inRegion ops todo) (.inRegion ops todo)
 | nb {l l':Nat}:β l l'->re L C β (.inRangeFunc l) (.inRangeFunc l')
 | mg {l l':Nat}:β l l'->re L C β (.endRangeFunc l) (.endRangeFunc l')
 | beginRound:re L C β .beginRound .beginRound
inductive qe(L C:Program)(β:Bj):List Item->List Item->Prop
 | nil:qe L C β [] []
 | cons {i i':Item} {k k':List Item}:re L C β i i'->qe L C β k k'->qe L C β (i::k) (i'::k')
inductive oD(β:Bj):List Deferred->List Deferred->Prop
 | nil:oD β [] []
 | cons {r r':Nat} {l l':List Deferred}:β r r'->oD β l l'->oD β ({ target:= .collected r,args:= #[] }::l) ({ target:= .collected r',args:= #[] }::l')
inductive B5(β:Bj):Option Nat->Option Nat->Prop
 | none:B5 β none none
 | some {l l':Nat}:β l l'->B5 β (some l) (some l')
structure j5(L C:Program)(β:Bj)(a b:Frame):Prop where
 fn:b.fn=a.fn
 tmps:aL β a.tmps b.tmps
 todo:qe L C β a.todo b.todo
 defers:oD β a.defers b.defers
 mode:(a.mode= .run/\b.mode= .run)\/(a.mode= .returning/\b.mode= .returning/\a.roundOf=none)
 kind:a.kind= .normal/\b.kind= .normal
 round:B5 β a.roundOf b.roundOf
 zm:a.roundOf=none-> ∃fn,L.funcs[a.fn]? =some fn/\C.funcs[a.fn]? =some fn
section
variable{L C:Program}{β γ:Bj}
omit [aM] [bk] in
theorem re.mono(l:Le β γ){a b:Item}(h:re L C β a b):re L C γ a b:=by
 cases h with
 | code h=>exact .code h
 | inBlock id=>exact .inBlock id
 | inLoop h=>exact .inLoop h
 | inRegion t h=>exact .inRegion t h
 | nb h=>exact .nb (l _ _ h)
 | mg h=>exact .mg (l _ _ h)
 | beginRound=>exact .beginRound
omit [aM] [bk] in
theorem qe.mono(l:Le β γ){a b:List Item}(h:qe L C β a b):qe L C γ a b:=by
 induction h with
 | nil=>exact .nil
 | cons h _ ih=>exact .cons (h.mono l) ih
omit [bg] [aM] [bk] in
theorem oD.mono(l:Le β γ){a b:List Deferred}(h:oD β a b):oD γ a b:=by
 induction h with
 | nil=>exact .nil
 | cons h _ ih=>exact .cons (l _ _ h) ih
omit [bg] [aM] [bk] in
theorem oD.append{a b c d:List Deferred}(h:oD β a b)(k:oD β c d):oD β (a++c) (b++d):=by
 induction h with
 | nil=>exact k
 | cons h _ ih=>exact .cons h ih
omit [bg] [aM] [bk] in
theorem B5.mono(l:Le β γ){a b:Option Nat}(h:B5 β a b):B5 γ a b:=by
 cases h with
 | none=>exact .none
 | some h=>exact .some (l _ _ h)
omit [aM] in
theorem j5.mono(l:Le β γ){a b:Frame}(h:j5 L C β a b):j5 L C γ a b:=⟨h.fn,h.tmps.mono l,h.todo.mono l,h.defers.mono l,h.mode,h.kind,h.round.mono l,h.zm⟩
omit [aM] in
theorem vH:ay β undef undef:= .tuple rfl λi v v' h=>by simp at h
omit [aM] in
theorem aL.getD{x x':Array Value}(h:aL β x x')(i:Nat):ay β (x.getD i undef) (x'.getD i undef):=by
 cases hx:x[i]? with
 | none=>
  have h2:=h.none hx;have e1:x.getD i undef=undef:=by rw [qak, hx];rfl
  have e2:x'.getD i undef=undef:=by rw [qak, h2];rfl
  rw [e1,e2];exact vH
 | some v=>
  obtain ⟨v',h2,h3⟩:=h.get hx;have e1:x.getD i undef=v:=by rw [qak, hx];rfl
  have e2:x'.getD i undef=v':=by rw [qak, h2];rfl
  rw [e1,e2];exact h3
omit [aM] in
theorem j5.eval{a b:Frame}(h:j5 L C β a b): ∀x,mf x->ay β (a.eval x) (b.eval x):=by
 intro x hx;cases x with
 | tmp t=>exact h.tmps.getD t
 | const v=>exact (show Plain v from hx).rel
 | global g=>exact hx.elim
 | func f=>exact .func (.func f hx) rfl rfl (λi v v' q=>by simp at q) (λi v v' q=>by simp at q)
omit [aM] [bk] in
theorem B6(id:Nat){k k':List Item}(h:qe L C β k k'):(exitTo id k=none/\exitTo id k'=none)\/ ∃q q',exitTo id k=some q/\exitTo id k'=some q'/\qe L C β q q':=by
 induction h with
 | nil=>exact .inl ⟨rfl,rfl⟩
 | @cons i i' k k' hi hk ih=>
  cases hi with
  | inBlock id'=>
   unfold exitTo;by_cases hq:(id'==id)=true
   ·simp only [hq,if_true];exact .inr ⟨_,_,rfl,rfl,hk⟩
   ·simp only [hq,if_false];exact ih
  | _=>exact ih
omit [aM] in
theorem HW(ops:Array Oper){x x':Array Value}(h:aL β x x'):yielded ops x=yielded ops x':=by
 funext j;unfold yielded;cases (ops[j]?).bind (·.dst) with
 | none=>rfl
 | some d=>
  simp only [qa0];cases hx:x[d]? with
  | none=>rw [h.none hx]
  | some v=>
   obtain ⟨v',h2,h3⟩:=h.get hx;rw [h2];cases h3 with
   | hole ho _=>cases v' <;> first | rfl | exact ho.elim
   | _=>rfl
omit [aM] in
theorem j5.finish{a b:Frame}(h:j5 L C β a b){v v':Value}(hv:ay β v v'):j5 L C β (a.finish v) (b.finish v'):=by
 obtain ⟨h1,h2,h3,h4,h5,h6,h7,h8⟩:=h;obtain ⟨fn,tm,todo,df,md,kd,ro⟩:=a;obtain ⟨kl,Ey,uS,Kb,KE,HB,Ez⟩:=b;simp only at h1 h2 h3 h4 h5 h6 h7;cases h3 with
 | nil=>exact ⟨h1,h2, .nil,h4,h5,h6,h7,h8⟩
 | cons hi hk=>
  cases hi with
  | code h=>exact ⟨h1,h2, .cons (.code h) hk,h4,h5,h6,h7,h8⟩
  | inBlock id=>exact ⟨h1,h2, .cons (.inBlock id) hk,h4,h5,h6,h7,h8⟩
  | inLoop h=>exact ⟨h1,h2, .cons (.inLoop h) hk,h4,h5,h6,h7,h8⟩
  | @inRegion ops t h=>
   cases t with
   | nil=>exact ⟨h1,h2, .cons (.inRegion [] h) hk,h4,h5,h6,h7,h8⟩
   | cons i t=>
    refine ⟨h1, ?_, .cons (.inRegion t h) hk,h4,h5,h6,h7,h8⟩;show aL β (match (ops[i]?).bind (·.dst) with | some d=>tm.setIfInBounds d v | none=>tm) (match (ops[i]?).bind (·.dst) with | some d=>Ey.setIfInBounds d v' | none=>Ey);cases (ops[i]?).bind (·.dst) with
    | none=>exact h2
    | some d=>exact h2.set hv d
  | nb hl=>exact ⟨h1,h2, .cons (.mg hl) hk,h4,h5,h6,h7,h8⟩
  | mg hl=>exact ⟨h1,h2, .cons (.mg hl) hk,h4,h5,h6,h7,h8⟩
  | beginRound=>exact ⟨h1,h2,hk,h4,h5,h6,h7,h8⟩
end
end Go.Cx
namespace Go.Cx
open Go
variable[bg][aM][bk]
abbrev ig(a:Frame)(cs:List Frame):Goroutine:={ frame:=a,callers:=cs,status:= .running,dying:=none }
structure PF(L C:Program)(Xs:FuncId->Prop):Prop where
 same: ∀f,bg.ok f->bg.uo f-> ¬Xs f-> ∃(fn:Func) (c:Code),L.funcs[f]? =some fn/\C.funcs[f]? =some fn/\fn.body=some c/\cN L C c
 follows:C.follows .mixedOrders=L.follows .mixedOrders
 code: ∀c,aM.code c↔cN L C c
omit [bg] [aM] [bk] in
theorem HX{p:Program}{f:FuncId}{es:Array Event}{e:Event}(h:e∈seen p f es):e∈es:=by
 have key: ∀(l:List Event) (F:Bool×Array Event->Event->Bool×Array Event),(∀q x,(F q x).2=q.2\/(F q x).2=q.2.push x)-> ∀(q:Bool×Array Event) (e:Event),e∈(l.foldl F q).2->e∈q.2\/e∈l:=by
  intro l F hF
  induction l with
  | nil=>intro q e h;exact .inl h
  | cons x l ih=>
   intro q e h;rcases ih _ e h with h | h
   ·rcases hF q x with hq | hq
    ·rw [hq] at h;exact .inl h
    ·rw [hq] at h;rcases Array.mem_push.1 h with h | h
     ·exact .inl h
     ·exact .inr (by simp [h])
   ·exact .inr (by simp [h])
 unfold seen at h;simp only at h;rw [←Array.foldl_toList] at h;refine (key es.toList _ ?_ _ e h).elim (λh=> ?_) (λh=> ?_)
 rotate_left
 ·simp at h
 ·simpa using h
 ·rintro ⟨q1,q2⟩ x;split
  ·exact .inl rfl
  ·simp only;split
   ·exact .inl rfl
   ·exact .inr rfl
inductive cM(L C:Program)(β:Bj):List Frame->List Frame->Prop
 | one {a b:Frame}:j5 L C β a b->a.roundOf=none->cM L C β [a] [b]
 | cons {a b:Frame} {k k':List Frame}:j5 L C β a b->cM L C β k k'->cM L C β (a::k) (b::k')
omit [aM] in
theorem cM.mono{L C:Program}{β γ:Bj}(l:Le β γ){a b:List Frame}(h:cM L C β a b):cM L C γ a b:=by
 induction h with
 | one h hr=>exact .one (h.mono l) hr
 | cons h _ ih=>exact .cons (h.mono l) ih
omit [aM] in
theorem cM.swap{L C:Program}{β:Bj}{a b a2 b2:Frame}{k k':List Frame}(h:cM L C β (a::k) (b::k'))(hf:j5 L C β a2 b2)(hr:a2.roundOf=a.roundOf):cM L C β (a2::k) (b2::k'):=by
 cases h with
 | one _ h2=>exact .one hf (hr.trans h2)
 | cons _ h=>exact .cons hf h
omit [aM] in
theorem cM.top{L C:Program}{β:Bj}{a b:Frame}{k k':List Frame}(h:cM L C β (a::k) (b::k')):j5 L C β a b:=by
 cases h with
 | one h _=>exact h
 | cons h _=>exact h
omit [bg] [aM] [bk] in
theorem lG(a:Frame)(v:Value):(a.finish v).roundOf=a.roundOf:=by
 unfold Frame.finish;split <;> rfl
inductive MC(L C:Program)(Xs:FuncId->Prop)(β:Bj)(base nU:List Frame):Goroutine->Goroutine->Prop
 | on {a b:Frame} {k k':List Frame}:cM L C β (a::k) (b::k')->MC L C Xs β base nU (ig a (k++base)) (ig b (k'++nU))
 | enter (f:FuncId) {x x':Array Value} {k k':List Frame}:Xs f->aL β x x'->cM L C β k k'->MC L C Xs β base nU (ig (Frame.enter L f x .normal) (k++base)) (ig (Frame.enter C f x' .normal) (k'++nU))
omit [aM] in
theorem aL.rep{β:Bj}(n:Nat):aL β (Array.replicate n undef) (Array.replicate n undef):=by
 refine ⟨rfl,λi v v' h h'=> ?_⟩;rw [h] at h';cases h';rw [Array.getElem?_replicate] at h;split at h
 ·cases h;exact vH
 ·cases h
omit [aM] in
theorem pU{L C:Program}{β:Bj}{f:FuncId}{fn:Func}{c:Code}(h1:L.funcs[f]? =some fn)(h2:C.funcs[f]? =some fn)(h3:fn.body=some c)(h4:cN L C c){x x':Array Value}(hx:aL β x x'):j5 L C β (Frame.enter L f x .normal) (Frame.enter C f x' .normal):=by
 unfold Frame.enter;rw [h1,h2];simp only [qac,qcb,qa0,h3, ←hx.1];exact ⟨rfl,hx.append (aL.rep _), .cons (.code h4) .nil, .nil, .inl ⟨rfl,rfl⟩,⟨rfl,rfl⟩, .none,λ_=>⟨fn,h1,h2⟩⟩
omit [aM] in
theorem Oh{L C:Program}{β:Bj}{l l':Nat}{f:FuncId}{ca cb:Code}(h1:cN L C ca)(h2:cN L C cb)(hl:β l l'){x x':Array Value}(hx:aL β x x'):j5 L C β (Frame.round l f x ca cb .normal) (Frame.round l' f x' ca cb .normal):=
 ⟨rfl,hx, .cons (.code h1) (.cons .beginRound (.cons (.code h2) .nil)), .nil, .inl ⟨rfl,rfl⟩,⟨rfl,rfl⟩, .some hl,λq=>by cases q⟩
def dm(g:Goroutine):Prop:= ∃ch,g.frame.mode= .panicking ch
section
variable{L C:Program}{Xs:FuncId->Prop}{β:Bj}
omit [bg] [aM] [bk] in
theorem uT{es es1:Array Event}{t:GStep}{g:Goroutine}{w:World}(h:GStep.after es t= .go g w es1): ∃tt,t= .go g w tt:=by
 cases t <;> simp only [GStep.after] at h <;> cases h;exact ⟨_,rfl⟩
omit [bg] [aM] [bk] in
theorem pV(fr:Frame)(vs:List PanicEntry): ∃ch,(fr.raise vs).mode= .panicking ch:=by
 unfold Frame.raise;split
 ·exact ⟨_,rfl⟩
 ·exact ⟨_,rfl⟩
theorem Oi(HP:gV L C)(HF:PF L C Xs){a b:Frame}{k k' base nU:List Frame}(gr:cM L C β (a::k) (b::k')){s s':Sem Next}(hs:aD L C mZ β s s'){w W w1:World}{g1:Goroutine}{es:Array Event}
  (hw:cH β w W) (ht:iS w W) (h:stepG.apply L true a (k++base) none s w= .go g1 w1 es) (hp: ¬dm g1):
  ∃cq W1 xS EA,stepG.apply C true b (k'++nU) none s' W= .go xS W1 EA/\MC L C Xs cq base nU g1 xS/\cH cq w1 W1/\mY β cq w w1 W W1/\ ∀e∈EA,uq cq w1 e:=by
 have ha:=gr.top;have HY:(a.kind== .early)=false:=by rw [ha.kind.1];rfl
 have zn:(b.kind== .early)=false:=by rw [ha.kind.2];rfl
 have kA:stepG.apply.match_1 (λ_=>CallKind) a.todo (λd resume saved tail=>CallKind.wrapped) (λx=>CallKind.normal)= .normal:=by
  have:=ha.todo;generalize a.todo=ta at this;generalize b.todo=tb at this;cases this with
  | nil=>rfl
  | cons hi _=>cases hi <;> rfl
 have kB:stepG.apply.match_1 (λ_=>CallKind) b.todo (λd resume saved tail=>CallKind.wrapped) (λx=>CallKind.normal)= .normal:=by
  have:=ha.todo;generalize a.todo=ta at this;generalize b.todo=tb at this;cases this with
  | nil=>rfl
  | cons hi _=>cases hi <;> rfl
 unfold stepG.apply at h ⊢;simp only [HY,zn,kA,kB,if_true,qa6,if_false] at h ⊢;rcases hR:s.runT L w #[] with ⟨r,uH⟩
 rw [hR] at h;obtain ⟨tt,h⟩:=uT h;have bU:s.run L w=r:=by rw [←Sem.runT_fst L s w #[],hR]
 cases r with
 | halt hh w2=>
  exfalso;have Ax:=(hs.BV hw bU).1;cases hh with
  | panic v=>cases h;exact hp (pV _ _)
  | stuck s=>cases h
  | unsupported u=>
   cases u with
   | initOrder g=>exact Ax g rfl
   | _=>cases h
  | _=>exact Ax.elim
 | ok n w2=>
  obtain ⟨n',W1,cq,EA,e1,e2,e3,e4,e5⟩:=hs.run #[] hw ht bU;rw [e1];simp only [Array.empty_append];have tZ: ∀e∈seen C b.fn EA,uq cq w2 e:=λe he=>e5 e (HX he);cases e2 with
  | value hv=>
   cases h;exact ⟨cq,W1,_,_,rfl, .on ((gr.mono e4.le).swap ((ha.mono e4.le).finish hv) (lG _ _)),e3,e4,by simpa [GStep.after] using tZ⟩
  | skip=>
   cases h;exact ⟨cq,W1,_,_,rfl, .on ((gr.mono e4.le).swap ((ha.mono e4.le).finish vH) (lG _ _)),e3,e4,by simpa [GStep.after] using tZ⟩
  | enter f ur qX hx=>
   cases h;by_cases hX:Xs f
   ·exact ⟨cq,W1,_,_,rfl, .enter (k:=a::k) (k':=b::k') f hX hx (gr.mono e4.le),e3,e4,by simpa [GStep.after] using tZ⟩
   ·obtain ⟨fn,c,g1,g2,g3,g4⟩:=HF.same f ur qX hX;exact ⟨cq,W1,_,_,rfl, .on (k:=a::k) (k':=b::k') (.cons (pU g1 g2 g3 g4 hx) (gr.mono e4.le)),e3,e4,by simpa [GStep.after] using tZ⟩
  | round f ca cb hca ZJ hl hx=>
   cases h;exact ⟨cq,W1,_,_,rfl, .on (k:=a::k) (k':=b::k') (.cons (Oh ((HF.code _).1 hca) ((HF.code _).1 ZJ) hl hx) (gr.mono e4.le)),e3,e4,by simpa [GStep.after] using tZ⟩
end
end Go.Cx
namespace Go.Cx
open Go
variable[bg][aM][bk]
section
variable{L C:Program}{β:Bj}
theorem HZ{o o':Obj}(h:zi β o o'):aD L C (λβ (x x':Nat)=>β x x') β (newObj o) (newObj o'):=
 .new h λγ r r' hl hr=> .pure hr
theorem uU(fn:FuncId){x x':Array Value}(ps:Array Tmp){a b:Code}{o o':Option Nat}(hx:aL β x x')(ha:aM.code a)(hb:aM.code b)(ho:B5 β o o'):
  aD L C (λβ (y y':Nat×List Deferred)=>β y.1 y'.1/\oD β y.2 y'.2) β (Instr.enterLoop fn x ps a b o) (Instr.enterLoop fn x' ps a b o'):=by
 unfold Instr.enterLoop;have tail: ∀{jc:Bj} (d d':Nat) (m m':List Deferred),Le β jc->jc d d'->oD jc m m'->aD L C (λβ (y y':Nat×List Deferred)=>β y.1 y'.1/\oD β y.2 y'.2) jc
   (newObj (.loop { state:= .ready,pending:=none,fn,tmps:=x,params:=ps,assign:=a,body:=b,defers:=d }) >>= λq=>pure (q,m))
   (newObj (.loop { state:= .ready,pending:=none,fn,tmps:=x',params:=ps,assign:=a,body:=b,defers:=d' }) >>= λq=>pure (q,m')):=by
  intro jc d d' m m' db h1 h2;refine (HZ (β:=jc) (.loop (l:={ state:= .ready,pending:=none,fn,tmps:=x,params:=ps,assign:=a,body:=b,defers:=d }) (l':={ state:= .ready,pending:=none,fn,tmps:=x',params:=ps,assign:=a,body:=b,defers:=d' }) ⟨rfl,rfl,rfl,hx.mono db,rfl,rfl,rfl,h1,ha,hb,λc h=>by cases h⟩)).bd ?_;intro qT l l' iP hl;exact .pure ⟨hl,h2.mono iP⟩
 cases ho with
 | none=>
  refine (HZ (.DJ true)).bd λjc r r' hl hr=> ?_;exact tail r r' _ _ hl hr (.cons hr .nil)
 | some hl=>
  refine (rY hl).bd λjc r r' hl hr=> ?_;exact tail _ _ _ _ hl hr.defers .nil
theorem zo{l l':Nat}(h:β l l'){r r':Loop}(hr:Kr β r r'):aD L C (gG λ_=>True) β (setObj l (.loop r)) (setObj l' (.loop r')):=
 .setObj h (.loop hr) (λc e f q=>by cases q) (.pure ⟨rfl,trivial⟩)
theorem tu{l l':Nat}(h:β l l'):aD L C (λ_ _ _=>True) β (Instr.beginRound l) (Instr.beginRound l'):=by
 unfold Instr.beginRound;refine (rY h).bd ?_;intro jc r r' db hr;refine aD.bd (RA:=gG λ_=>True) (zo (db _ _ h) ⟨rfl,hr.pending,hr.fn,hr.tmps,hr.params,hr.assign,hr.body,hr.defers,hr.ca,hr.cb,hr.cp⟩) ?_;intro qT _ _ iP _;rw [hr.state];cases r.state with
 | ready=>exact .pure trivial
 | _=>exact bj.rel
theorem wX{l l':Nat}(h:β l l')(j:Option Code)(hj: ∀c,j=some c->aM.code c):aD L C ay β (Instr.endRound l j) (Instr.endRound l' j):=by
 unfold Instr.endRound;refine (rY h).bd ?_;intro jc r r' db hr;refine aD.bd (RA:=gG λ_=>True) (zo (db _ _ h) ⟨rfl,rfl,hr.fn,hr.tmps,hr.params,hr.assign,hr.body,hr.defers,hr.ca,hr.cb,hj⟩) ?_;intro qT _ _ iP _;exact .pure (.bool _)
theorem zp{l l':Nat}(h:β l l'):aD L C (gG λx=> ∀c,x=some c->aM.code c) β (Instr.endLoop l) (Instr.endLoop l'):=by
 unfold Instr.endLoop;refine (rY h).bd ?_;intro jc r r' db hr;rw [hr.state];split
 ·exact (aT.eM bj).rel
 ·refine aD.bd (RA:=gG λ_=>True) (zo (db _ _ h) ⟨rfl,hr.pending,hr.fn,hr.tmps,hr.params,hr.assign,hr.body,hr.defers,hr.ca,hr.cb,hr.cp⟩) ?_;intro qT _ _ iP _;rw [hr.pending];exact .pure ⟨rfl,hr.cp⟩
theorem qg{l l':Nat}(h:β l l'):aD L C (λ_ (x x':List Deferred)=>x=[]/\x'=[]) β (Instr.takeDeferred l) (Instr.takeDeferred l'):=by
 unfold Instr.takeDeferred;refine aD.bd (RA:=tn) (.getObj h λo o' ho=> .pure ho) ?_;intro jc o o' db ho;cases ho with
 | DJ b=>
  cases b with
  | false=>exact ar
  | true=>
   refine aD.bd (RA:=gG λ_=>True) (.setObj (db _ _ h) (.DJ false) (λc e f q=>by cases q) (.pure ⟨rfl,trivial⟩)) ?_;intro qT _ _ iP _;exact .pure ⟨rfl,rfl⟩
 | _=>exact ar
omit [aM] in
theorem pk.array{l l':List Value}(h:pk β l l'):aL β l.toArray l'.toArray:=by
 have key: ∀{l l':List Value},pk β l l'->l.length=l'.length/\ ∀(i:Nat) (v v':Value),l[i]? =some v->l'[i]? =some v'->ay β v v':=by
  intro l l' h
  induction h with
  | nil=>exact ⟨rfl,λi v v' h=>by simp at h⟩
  | cons hv _ ih=>
   refine ⟨by simp [ih.1],λi u u' h h'=> ?_⟩;cases i with
   | zero=>simp at h h';subst h;subst h';exact hv
   | succ i=>simp at h h';exact ih.2 i u u' h h'
 obtain ⟨h1,h2⟩:=key h;exact ⟨by simpa using h1,λi v v' a b=>h2 i v v' (by simpa using a) (by simpa using b)⟩
theorem vI(H:gV L C)(fn:Func){x x':Array Value}(hx:aL β x x'):aD L C ay β (results fn x) (results fn x'):=by
 unfold results;refine aD.bd (RA:=aL) ?_ ?_
 ·rw [Array.mapM_eq_mapM_toList,Array.mapM_eq_mapM_toList];have key: ∀(l:List ResultVar) {β:Bj},aL β x x'->aD L C pk β (l.mapM fun | .tmp t=>pure (x.getD t undef) | .cell a t=>do loadVar t (←asAddr (x.getD a undef))) (l.mapM fun | .tmp t=>pure (x'.getD t undef) | .cell a t=>do loadVar t (←asAddr (x'.getD a undef))):=by
   intro l
   induction l with
   | nil=>intro β _;simp only [List.mapM_nil];exact .pure .nil
   | cons r l ih=>
    intro β hx;simp only [List.mapM_cons];refine aD.bd (RA:=ay) ?_ ?_
    ·cases r with
     | tmp t=>exact .pure (hx.getD t)
     | cell a t=>exact (xL (hx.getD a)).bd λjc v v' hl hv=>vE H t hv
    ·intro jc v v' db hv;refine (ih (hx.mono db)).bd ?_;intro qT vs vs' iP VE;exact .pure (.cons (hv.mono iP) VE)
  rw [map_eq_pure_bind,map_eq_pure_bind];refine (key fn.results.toList hx).bd ?_;intro jc l l' hl hls;exact .pure hls.array
 ·intro jc v v' hl hv;refine .pure ?_;by_cases h1:v.size=1
  ·have h2:v'.size=1:=hv.1▸h1;rw [dif_pos h1,dif_pos h2];exact hv.2 0 _ _ (Array.getElem?_eq_getElem (by omega)) (Array.getElem?_eq_getElem (by omega))
  ·have h2: ¬v'.size=1:=hv.1▸h1;rw [dif_neg h1,dif_neg h2];exact hv.HI
end
end Go.Cx
namespace Go.Cx
open Go
variable[bg][aM][bk]
inductive Out(L C:Program)(Xs:FuncId->Prop)(t:Frame)(r bs':List Frame)(β:Bj)(g g':Goroutine):Prop
 | on:MC L C Xs β (t::r) bs' g g'->Out L C Xs t r bs' β g g'
 | back {v v':Value} {t':Frame} {r':List Frame}:ay β v v'->g=ig (t.finish v) r->bs'=t'::r'->g'=ig (t'.finish v') r'->Out L C Xs t r bs' β g g'
def AW(L C:Program)(Xs:FuncId->Prop)(t:Frame)(r bs':List Frame)(β:Bj)(w W w1:World)(g1:Goroutine)(T:GStep):Prop:=
 ∃cq W1 xS EA,T= .go xS W1 EA/\Out L C Xs t r bs' cq g1 xS/\cH cq w1 W1/\mY β cq w w1 W W1/\ ∀e∈EA,uq cq w1 e
section
variable{L C:Program}{Xs:FuncId->Prop}{β:Bj}{t:Frame}{r bs':List Frame}{w W w1:World}{g1:Goroutine}
theorem KF{β cq:Bj}{w2 W2:World}{es:Array Event}{T:GStep}(hT:mY β cq w w2 W W2)(he: ∀e∈es,uq cq w2 e)(h:AW L C Xs t r bs' cq w2 W2 w1 g1 T):AW L C Xs t r bs' β w W w1 g1 (GStep.after es T):=by
 obtain ⟨γ,W1,xS,EA,h1,h2,h3,h4,h5⟩:=h;subst h1;refine ⟨γ,W1,xS,es++EA,rfl,h2,h3,hT.trans h4,λe q=> ?_⟩;rcases qca.1 q with q | q
 ·exact (he e q).nN h4
 ·exact h5 e q
theorem uV{α:Type}{RA:Bj->α->α->Prop}{s s':Sem α}(hs:aD L C RA β s s')(hw:cH β w W)(ht:iS w W){f f':FuncId}{F F':Result α->GStep}{es:Array Event}
  (h:GStep.after (seen L f (s.runT L w #[]).2) (F (s.runT L w #[]).1)= .go g1 w1 es) (hh: ∀q w2 tt,F (.halt q w2)= .go g1 w1 tt->False)
  (ur: ∀cq v v' w2 W2 tt,RA cq v v'->cH cq w2 W2->iS w2 W2->mY β cq w w2 W W2->F (.ok v w2)= .go g1 w1 tt->AW L C Xs t r bs' cq w2 W2 w1 g1 (F' (.ok v' W2))):
  AW L C Xs t r bs' β w W w1 g1 (GStep.after (seen C f' (s'.runT C W #[]).2) (F' (s'.runT C W #[]).1)):=by
 obtain ⟨tt,h⟩:=uT h;rw [Sem.runT_fst] at h;cases bU:s.run L w with
 | halt q w2=>rw [bU] at h;exact (hh _ _ _ h).elim
 | ok v w2=>
  rw [bU] at h;obtain ⟨v',W2,cq,EA,e1,e2,e3,e4,e5⟩:=hs.run #[] hw ht bU;rw [e1];refine KF e4 (λe q=> ?_) (ur cq v v' w2 W2 tt e2 e3 (ht.nN e4) e4 h);simp only [Array.empty_append] at q;exact e5 e (HX q)
theorem rh{β:Bj}{T:GStep}{xS:Goroutine}(hT:T= .go xS W)(ho:Out L C Xs t r bs' β g1 xS)(hw:cH β w W):AW L C Xs t r bs' β w W w g1 T:=
 ⟨β,W,xS, #[],hT,ho,hw,mY.refl _ _ _,λe q=>by simp at q⟩
theorem MD{a b:Frame}{k k':List Frame}{m m':Bool}(gr:cM L C β (a::k) (b::k'))(P0:bs'≠[]\/k≠[]){v v':Value}(hv:ay β v v')(hw:cH β w W){es:Array Event}
  (h:doReturn L m a (k++t::r) none v w= .go g1 w1 es):AW L C Xs t r bs' β w W w1 g1 (doReturn C m' b (k'++bs') none v' W):=by
 have ha:=gr.top;unfold doReturn at h ⊢;rw [ha.kind.1] at h;rw [ha.kind.2];cases gr with
 | one _ hr=>
  obtain ⟨t',r',rfl⟩: ∃t' r',bs'=t'::r':=by
   cases bs' with
   | nil=>rcases P0 with h | h <;> exact absurd rfl h
   | cons t' r'=>exact ⟨t',r',rfl⟩
  simp only [qba] at h ⊢;cases h;exact rh rfl (.back hv rfl rfl rfl) hw
 | cons _ hk=>
  cases hk with
  | one h2 hr=>
   simp only [qbr,qba] at h ⊢;cases h;exact rh rfl (.on (.on (k:=[]) (k':=[]) (.one (h2.finish hv) ((lG _ _).trans hr)))) hw
  | cons h2 hk=>
   simp only [qbr] at h ⊢;cases h;exact rh rfl (.on (.on (.cons (h2.finish hv) hk))) hw
end
end Go.Cx
namespace Go.Cx
open Go
variable[bg][aM][bk]
def Lv(p:Program)(main:Bool)(fr:Frame)(cs:List Frame)(w:World)(jump:Option Code):GStep:=
 match fr.roundOf with
 | none=>if jump matches none | some .ret then .go { frame:={ fr with mode:= .returning },callers:=cs,status:= .running,dying:=none } w else .ended (.stuck "exit, goto: no such block or label" (fr.pos p)) w
 | some l=>
  GStep.after (seen p fr.fn ((Instr.endRound l jump).runT p w #[]).2) <| match ((Instr.endRound l jump).runT p w #[]).1 with
  | .ok v w=>doReturn p main fr cs none v w
  | .halt _ w=> .ended (.stuck "range over a function: no such loop" (fr.pos p)) w
section
variable{L C:Program}{Xs:FuncId->Prop}{β:Bj}{t:Frame}{r bs':List Frame}{w W w1:World}{g1:Goroutine}
omit [bg] [aM] [bk] in
theorem FK(p:Program)(m:Bool)(a:Frame)(cs:List Frame)(w:World)(h:a.todo=[]):stepG.exec p m true a cs none w=Lv p m a cs w none:=by
 obtain ⟨fn,tm,todo,df,md,kd,ro⟩:=a;simp only at h;subst h;rfl
omit [bg] [aM] [bk] in
theorem FL(p:Program)(m:Bool)(a:Frame)(k:List Item)(cs:List Frame)(w:World)(h:a.todo= .code .ret::k):stepG.exec p m true a cs none w=Lv p m a cs w (some .ret):=by
 obtain ⟨fn,tm,todo,df,md,kd,ro⟩:=a;simp only at h;subst h;rfl
omit [bg] [aM] [bk] in
theorem Bu(p:Program)(m:Bool)(a:Frame)(id:Nat)(k:List Item)(cs:List Frame)(w:World)(h:a.todo= .code (.exit id)::k)(hx:exitTo id k=none):stepG.exec p m true a cs none w=Lv p m a cs w (some (.exit id)):=by
 obtain ⟨fn,tm,todo,df,md,kd,ro⟩:=a;simp only at h;subst h;unfold stepG.exec Lv;simp only [hx];rfl
omit [aM] in
theorem j5.acz{a b:Frame}(h:j5 L C β a b){x x':List Item}(hx:qe L C β x x'):j5 L C β { a with todo:=x } { b with todo:=x' }:=⟨h.fn,h.tmps,hx,h.defers,h.mode,h.kind,h.round,h.zm⟩
omit [aM] in
theorem cM.todo{a b:Frame}{k k':List Frame}(h:cM L C β (a::k) (b::k')){x x':List Item}(hx:qe L C β x x'):cM L C β ({ a with todo:=x }::k) ({ b with todo:=x' }::k'):=h.swap (h.top.acz hx) rfl
theorem KG(HF:PF L C Xs){a b:Frame}{k k':List Frame}{m m':Bool}(gr:cM L C β (a::k) (b::k'))(hm:a.mode= .run){j:Option Code}(hj: ∀c,j=some c->cN L C c)(hw:cH β w W)(ht:iS w W){es:Array Event}
  (h:Lv L m a (k++t::r) w j= .go g1 w1 es):AW L C Xs t r bs' β w W w1 g1 (Lv C m' b (k'++bs') W j):=by
 have ha:=gr.top;obtain ⟨fn,tm,todo,df,md,kd,ro⟩:=a;obtain ⟨kl,Ey,uS,Kb,KE,HB,Ez⟩:=b;have wY:=ha.round;simp only at wY hm;unfold Lv at h ⊢;cases wY with
 | none=>
  simp only at h ⊢;split at h
  all_goals first
   | (cases h;exact rh rfl (.on (.on (gr.swap ⟨ha.fn,ha.tmps,ha.todo,ha.defers, .inr ⟨rfl,rfl,rfl⟩,ha.kind,ha.round,ha.zm⟩ rfl))) hw)
   | (simp at h)
 | some hl=>
  simp only at h ⊢;refine uV (F:=λq=>match q with
   | .ok v w=>doReturn L m _ (k++t::r) none v w
   | .halt _ w=> .ended (.stuck "range over a function: no such loop" _) w) (F':=λq=>match q with
   | .ok v w=>doReturn C m' _ (k'++bs') none v w
   | .halt _ w=> .ended (.stuck "range over a function: no such loop" _) w) (wX hl j λc hc=>(HF.code c).2 (hj c hc)) hw ht h ?_ ?_
  ·intro q w2 tt h;cases h
  ·intro cq v v' w2 W2 tt hv uI ht2 hT h;refine MD (gr.mono hT.le) (.inr λq=> ?_) hv uI h;subst q;cases gr with
   | one _ q=>cases q
   | cons _ q=>cases q
theorem wZ(HP:gV L C)(HF:PF L C Xs){a b:Frame}{k k':List Frame}(gr:cM L C β (a::k) (b::k')){s s':Sem Next}(hs:aD L C mZ β s s')(hw:cH β w W)(ht:iS w W){es:Array Event}
  (h:stepG.apply L true a (k++t::r) none s w= .go g1 w1 es) (hp: ¬dm g1):AW L C Xs t r bs' β w W w1 g1 (stepG.apply C true b (k'++bs') none s' W):=by
 obtain ⟨cq,W1,xS,EA,h1,h2,h3,h4,h5⟩:=Oi HP HF gr hs hw ht h hp;exact ⟨cq,W1,xS,EA,h1, .on h2,h3,h4,h5⟩
end
end Go.Cx
namespace Go.Cx
open Go
variable[bg][aM][bk]
section
variable{L C:Program}{Xs:FuncId->Prop}{β:Bj}{t:Frame}{r bs':List Frame}{w W w1:World}{g1:Goroutine}
theorem KH(HP:gV L C){ρ rU:Operand->Value}{f:Operand}{v v':Value}(hf:ay β (ρ f) (rU f))(hv:ay β (ρ (.const v)) (rU (.const v'))):
  aD L C mZ β (do let d←resolve ρ { callee:= .value f,args:= #[.const v],argTypes:= #[] } 0;invoke d.target d.args) (do let d←resolve rU { callee:= .value f,args:= #[.const v'],argTypes:= #[] } 0;invoke d.target d.args):=by
 refine aD.bd (RA:=λβ (d d':Deferred)=>acx β d d'/\ ∀b ts u cs,d.target= .builtin b ts u cs->okB b=true/\ ∀ty∈ts,NS L ty) ?_ ?_
 ·unfold resolve;have ha:aL β (#[Operand.const v].map ρ) (#[Operand.const v'].map rU):=by
   simp only [qb8,qaz,qbm];exact aL.one hv
  dsimp only;unfold Deferred.ofValue;generalize ρ f=u at hf;generalize rU f=u' at hf;cases hf with
  | func g a1 a2 a3 a4=>exact .pure ⟨⟨.fn g ⟨a2,a4⟩,aL.append ⟨a1,a3⟩ ha⟩,λb' ts u cs q=>by cases q⟩
  | qa=>exact .pure ⟨⟨.nil,ha⟩,λb' ts u cs q=>by cases q⟩
  | _=>exact ar
 ·intro jc d d' hl ⟨h1,h2⟩;exact HV HP h1.target h2 h1.args
omit [bg] [aM] [bk] in
theorem Bv(p:Program)(a:Frame)(cs:List Frame)(w:World){o:Oper}(ho:a.oper? =some o)(hd: ∀c,o.op≠ .defer c):stepG.oper p true a cs none w=stepG.apply p true a cs none (execOp a.eval o) w:=by
 unfold stepG.oper;rw [ho];simp only;split
 ·rename_i q;exact absurd q (hd _)
 ·rfl
theorem QF(HP:gV L C)(HF:PF L C Xs){a b:Frame}{k k':List Frame}{m m':Bool}(gr:cM L C β (a::k) (b::k'))(hm:a.mode= .run)(hw:cH β w W)(ht:iS w W){es:Array Event}
  (h:stepG.exec L m true a (k++t::r) none w= .go g1 w1 es) (hp: ¬dm g1):AW L C Xs t r bs' β w W w1 g1 (stepG.exec C m' true b (k'++bs') none W):=by
 have ha:=gr.top;obtain ⟨fn,tm,todo,df,md,kd,ro⟩:=a;obtain ⟨kl,Ey,uS,Kb,KE,HB,Ez⟩:=b;have hT:=ha.todo;have za:=ha.fn;simp only at hT hm za;subst za;have VF:KE= .run:=by rcases ha.mode with h | h;exact h.2;(rw [show md=_ from h.1] at hm;cases hm)
 subst hm;subst VF;have P1: ∀{x x':List Item} {es:Array Event},qe L C β x x'->GStep.go { frame:={ fn:=kl,tmps:=tm,todo:=x,defers:=df,mode:= .run,kind:=kd,roundOf:=ro },callers:=k++t::r,status:= .running,dying:=none } w= .go g1 w1 es->
   AW L C Xs t r bs' β w W w1 g1 (GStep.go { frame:={ fn:=kl,tmps:=Ey,todo:=x',defers:=Kb,mode:= .run,kind:=HB,roundOf:=Ez },callers:=k'++bs',status:= .running,dying:=none } W):=by
  intro x x' es hx h;cases h;exact rh rfl (.on (.on (gr.todo hx))) hw
 cases hT with
 | nil=>
  rw [FK _ _ _ _ _ rfl] at h;rw [FK _ _ _ _ _ rfl];exact KG HF gr rfl (λc h=>by cases h) hw ht h
 | @cons i_ i_' K K' hi hk=>
  cases hi with
  | inBlock id=>exact P1 hk h
  | inLoop hc=>exact P1 (.cons (.code hc) (.cons (.inLoop hc) hk)) h
  | nb hl=>cases h
  | beginRound=>
   have wY:=ha.round;simp only at wY;refine wZ HP HF gr ?_ hw ht h hp;cases wY with
   | none=>exact (aT.eM aT.halt).rel
   | some hl=>exact (tu hl).bd λjc _ _ hl _=> .pure .skip
  | @mg l l' hl=>
   refine uV (F:=λq=>match q with
     | .ok jump w=> .go { frame:={ fn:=kl,tmps:=tm,todo:=(jump.map Item.code).toList++_,defers:=df,mode:= .run,kind:=kd,roundOf:=ro },callers:=k++t::r,status:= .running,dying:=none } w
     | .halt (.panic v) w=> .go { frame:=Frame.raise _ [{ v,recovered:=false }],callers:=k++t::r,status:= .running,dying:=none } w
     | .halt _ w=> .ended (.stuck "range over a function: no such loop" _) w)
    (F':=λq=>match q with
     | .ok jump w=> .go { frame:={ fn:=kl,tmps:=Ey,todo:=(jump.map Item.code).toList++_,defers:=Kb,mode:= .run,kind:=HB,roundOf:=Ez },callers:=k'++bs',status:= .running,dying:=none } w
     | .halt (.panic v) w=> .go { frame:=Frame.raise _ [{ v,recovered:=false }],callers:=k'++bs',status:= .running,dying:=none } w
     | .halt _ w=> .ended (.stuck "range over a function: no such loop" _) w) (zp hl) hw ht h ?_ ?_
   ·intro q w2 tt h;cases q with
    | panic v=>cases h;exact hp (pV _ _)
    | _=>cases h
   ·intro cq v v' w2 W2 tt hv uI ht2 hT h;obtain ⟨rfl,hv⟩:=hv;cases h;refine rh rfl (.on (.on ((gr.mono hT.le).todo ?_))) uI;cases v with
    | none=>exact hk.mono hT.le
    | some c=>exact .cons (.code ((HF.code _).1 (hv c rfl))) (hk.mono hT.le)
  | @inRegion ops td ho=>
   cases td with
   | nil=>exact P1 hk h
   | cons i td=>
    simp only [stepG.exec] at h ⊢;rw [←HW ops ha.tmps];split at h
    ·rename_i hq;rw [if_pos hq];cases cU:ops[i]? with
     | none=>rw [cU] at hq;cases hq
     | some o=>
      have ur:=ho o (qb5 cU);have hd: ∀c,o.op≠ .defer c:=λc q=>by rw [q] at ur;exact ur
      rw [Bv _ _ _ _ (o:=o) (by simp only [Frame.oper?];exact cU) hd] at h;rw [Bv _ _ _ _ (o:=o) (by simp only [Frame.oper?];exact cU) hd];exact wZ HP HF gr (KD HP ha.eval o ur) hw ht h hp
    ·rename_i hq;rw [if_neg hq];cases h;exact rh rfl (.on (.on (gr.swap (ha.finish vH) (lG _ _)))) hw
  | code hc=>
   cases hc with
   | skip=>exact P1 hk h
   | label l=>exact P1 hk h
   | ret=>
    rw [FL _ _ _ _ _ _ rfl] at h;rw [FL _ _ _ _ _ _ rfl];exact KG HF gr rfl (λc h=>by cases h;exact .ret) hw ht h
   | seq h1 h2=>exact P1 (.cons (.code h1) (.cons (.code h2) hk)) h
   | block id h1=>exact P1 (.cons (.code h1) (.cons (.inBlock id) hk)) h
   | loop h1=>exact P1 (.cons (.code h1) (.cons (.inLoop h1) hk)) h
   | exit id=>
    rcases B6 id hk with ⟨e1,e2⟩ | ⟨q,q',e1,e2,hq⟩
    ·rw [Bu _ _ _ id _ _ _ rfl e1] at h;rw [Bu _ _ _ id _ _ _ rfl e2];exact KG HF gr rfl (λc h=>by cases h;exact .exit id) hw ht h
    ·simp only [stepG.exec,e1,Option.elim_some] at h;simp only [stepG.exec,e2,Option.elim_some];exact P1 hq h
   | @cond c x y hc h1 h2=>
    have he:=ha.eval c hc;simp only [stepG.exec] at h ⊢;revert h;generalize Frame.eval _ c=u at he;generalize Frame.eval _ c=u' at he;intro h;cases he with
    | bool q=>
     cases q with
     | true=>exact P1 (.cons (.code h1) hk) h
     | false=>exact P1 (.cons (.code h2) hk) h
    | _=>cases h
   | @region id ops draw ho=>
    cases draw with
    | false=>exact P1 (.cons (.inRegion _ ho) hk) h
    | true=>
     simp only [stepG.exec,qae,qa6,if_false] at h ⊢;rw [HF.follows];cases bU:(choose (.order kl id)).run L w with
     | halt q w2=>rw [bU] at h;cases h
     | ok n w2=>
      rw [bU] at h;have hs:aD L C (gG λ_=>True) β (choose (.order kl id)) (choose (.order kl id)):= .choose λn=> .pure ⟨rfl,trivial⟩;obtain ⟨n',W1,cq,EA,e1,⟨e2,_⟩,e3,e4,e5⟩:=hs.run #[] hw ht bU;have e6:(choose (.order kl id)).run C W= .ok n' W1:=by rw [←Sem.runT_fst C _ W #[],e1]
      rw [e6];subst e2;cases h;exact ⟨cq,W1,_, #[],rfl, .on (.on ((gr.mono e4.le).todo (.cons (.inRegion _ ho) (hk.mono e4.le)))),e3,e4,λe q=>by simp at q⟩
   | @rangeFunc f ps x y hf h1 h2=>
    refine uV (F:=λq=>match q with
      | .ok (l,mark) w=>stepG.apply L true { fn:=kl,tmps:=tm,todo:= .inRangeFunc l::_,defers:=mark++df,mode:= .run,kind:=kd,roundOf:=ro } (k++t::r) none (do let d←resolve (Frame.eval { fn:=kl,tmps:=tm,todo:= .inRangeFunc l::_,defers:=mark++df,mode:= .run,kind:=kd,roundOf:=ro }) { callee:= .value f,args:= #[.const (.func (.yield l) #[] #[])],argTypes:= #[] } 0;invoke d.target d.args) w
      | .halt _ w=> .ended (.stuck "range over a function: no such loop" _) w)
     (F':=λq=>match q with
      | .ok (l,mark) w=>stepG.apply C true { fn:=kl,tmps:=Ey,todo:= .inRangeFunc l::_,defers:=mark++Kb,mode:= .run,kind:=HB,roundOf:=Ez } (k'++bs') none (do let d←resolve (Frame.eval { fn:=kl,tmps:=Ey,todo:= .inRangeFunc l::_,defers:=mark++Kb,mode:= .run,kind:=HB,roundOf:=Ez }) { callee:= .value f,args:= #[.const (.func (.yield l) #[] #[])],argTypes:= #[] } 0;invoke d.target d.args) w
      | .halt _ w=> .ended (.stuck "range over a function: no such loop" _) w) (uU kl ps ha.tmps ((HF.code _).2 h1) ((HF.code _).2 h2) ha.round) hw ht h ?_ ?_
    ·intro q w2 tt h;cases h
    ·rintro cq ⟨l,mk⟩ ⟨l',mk'⟩ w2 W2 tt ⟨hl,hmk⟩ uI ht2 hT h;have rZ:=ha.mono hT.le;have B7:cM L C cq ({ fn:=kl,tmps:=tm,todo:= .inRangeFunc l::K,defers:=mk++df,mode:= .run,kind:=kd,roundOf:=ro }::k) ({ fn:=kl,tmps:=Ey,todo:= .inRangeFunc l'::K',defers:=mk'++Kb,mode:= .run,kind:=HB,roundOf:=Ez }::k'):=
      (gr.mono hT.le).swap ⟨rfl,rZ.tmps, .cons (.nb hl) (hk.mono hT.le),hmk.append rZ.defers, .inl ⟨rfl,rfl⟩,ha.kind,rZ.round,rZ.zm⟩ rfl
     refine wZ HP HF B7 (KH HP (B7.top.eval f hf) ?_) uI ht2 h hp;exact .func (.yield hl) rfl rfl (λi v v' q=>by simp at q) (λi v v' q=>by simp at q)
end
end Go.Cx
namespace Go.Cx
open Go
variable[bg][aM][bk]
section
variable{L C:Program}{Xs:FuncId->Prop}{β:Bj}{t:Frame}{r bs':List Frame}{w W w1:World}{g1:Goroutine}
theorem KI(HP:gV L C){a b:Frame}{k k':List Frame}{m m':Bool}(gr:cM L C β (a::k) (b::k'))(P0:bs'≠[]\/k≠[]\/a.defers≠[])(hm:a.mode= .returning)(hw:cH β w W)(ht:iS w W){es:Array Event}
  (h:unwind L m a (k++t::r) none w= .go g1 w1 es):AW L C Xs t r bs' β w W w1 g1 (unwind C m' b (k'++bs') none W):=by
 have ha:=gr.top;obtain ⟨fn,tm,todo,df,md,kd,ro⟩:=a;obtain ⟨kl,Ey,uS,Kb,KE,HB,Ez⟩:=b;have hD:=ha.defers;have za:=ha.fn;simp only at hD hm za;subst za;subst hm;obtain ⟨VF,wY⟩:KE= .returning/\ro=none:=by rcases ha.mode with h | h;(cases h.1);exact ⟨h.2.1,h.2.2⟩
 subst VF;subst wY;unfold unwind at h ⊢;cases hD with
 | @cons q q' ds ds' hq hd=>
  simp only at h ⊢;refine uV (F:=λx=>match x with
    | .ok calls w=> .go { frame:={ fn:=kl,tmps:=tm,todo:=todo,defers:=calls++ds,mode:= .returning,kind:=kd,roundOf:=none },callers:=k++t::r,status:= .running,dying:=none } w
    | .halt _ w=> .ended (.stuck "the deferred calls of a range-over-func loop have been taken" _) w)
   (F':=λx=>match x with
    | .ok calls w=> .go { frame:={ fn:=kl,tmps:=Ey,todo:=uS,defers:=calls++ds',mode:= .returning,kind:=HB,roundOf:=Ez },callers:=k'++bs',status:= .running,dying:=none } w
    | .halt _ w=> .ended (.stuck "the deferred calls of a range-over-func loop have been taken" _) w) (qg hq) hw ht h ?_ ?_
  ·intro q w2 tt h;cases h
  ·rintro cq v v' w2 W2 tt ⟨rfl,rfl⟩ uI ht2 hT h;have rZ:=ha.mono hT.le;cases h;exact rh rfl (.on (.on ((gr.mono hT.le).swap ⟨rfl,rZ.tmps,rZ.todo,hd.mono hT.le, .inr ⟨rfl,rfl,rfl⟩,ha.kind,rZ.round,rZ.zm⟩ rfl))) uI
 | nil=>
  simp only at h ⊢;obtain ⟨f,e1,e2⟩:=ha.zm rfl;simp only at e1 e2;rw [e1] at h;rw [e2];simp only at h ⊢;refine uV (F:=λx=>match x with
    | .ok v w=>doReturn L m { fn:=kl,tmps:=tm,todo:=todo,defers:=[],mode:= .returning,kind:=kd,roundOf:=none } (k++t::r) none v w
    | .halt (.stuck s) w=> .ended (.stuck s _) w
    | .halt _ w=> .ended (.stuck "return: the result variables cannot be read" _) w)
   (F':=λx=>match x with
    | .ok v w=>doReturn C m' { fn:=kl,tmps:=Ey,todo:=uS,defers:=[],mode:= .returning,kind:=HB,roundOf:=Ez } (k'++bs') none v w
    | .halt (.stuck s) w=> .ended (.stuck s _) w
    | .halt _ w=> .ended (.stuck "return: the result variables cannot be read" _) w) (vI HP f ha.tmps) hw ht h ?_ ?_
  ·intro q w2 tt h;cases q <;> cases h
  ·rintro cq v v' w2 W2 tt hv uI ht2 hT h;exact MD (gr.mono hT.le) (P0.imp id λh=>h.resolve_right λq=>q rfl) hv uI h
theorem uW(HP:gV L C)(HF:PF L C Xs){a b:Frame}{k k':List Frame}{m m':Bool}(gr:cM L C β (a::k) (b::k'))(P0:bs'≠[]\/k≠[]\/a.mode= .run\/a.defers≠[])(hw:cH β w W)(ht:iS w W){es:Array Event}
  (h:stepG L m (ig a (k++t::r)) w= .go g1 w1 es) (hp: ¬dm g1):AW L C Xs t r bs' β w W w1 g1 (stepG C m' (ig b (k'++bs')) W):=by
 rcases gr.top.mode with ⟨m1,m2⟩ | ⟨m1,m2,_⟩
 ·unfold stepG ig at h ⊢;simp only [m1,m2] at h ⊢;exact QF HP HF gr m1 hw ht h hp
 ·unfold stepG ig at h ⊢;simp only [m1,m2] at h ⊢;exact KI HP gr (P0.imp id λh=>h.imp id λh=>h.resolve_left λq=>by rw [m1] at q;cases q) m1 hw ht h
end
end Go.Cx
namespace Go.Cx
open Go
variable[bg][aM][bk]
abbrev TW(w:World)(τ:Tape):World:={ w with tape:=τ }
theorem aD.tape{Pl Pc:Program}{α:Type}{RA:Bj->α->α->Prop}{β:Bj}{s t:Sem α}(h:aD Pl Pc RA β s t): ∀{w W w1:World} {a:α},cH β w W->s.run Pl w= .ok a w1->
  (∃a' W1 cq,RA cq a a'/\cH cq w1 W1/\Le β cq)/\w.drawn<=w1.drawn/\w1.tape=w.tape/\(Dw w->Dw w1)/\ ∀τ:Tape,(∀j q,w.drawn<=j->j<w1.drawn->τ j q=w.tape j q)->s.run Pl (TW w τ)= .ok a (TW w1 τ):=by
 induction h with
 | pure ha=>
  intro w W w1 a hw hr;cases hr;exact ⟨⟨_,W,_,ha,hw,Le.refl _⟩,qa2 _,rfl,id,λτ _=>rfl⟩
 | @load β ad oC k k' Hy _ ih=>
  intro w W w1 a hw hr;simp only [Sem.run] at hr;cases hc:w.cell? ad with
  | none=>
   exfalso;obtain ⟨e,he⟩:=hw.acf Hy.block Pl (Mode.plain==Mode.atomic);rw [hc] at hr;simp only [he] at hr;cases hr
  | some v=>
   rw [hc] at hr;obtain ⟨v',Hz,hvr⟩:=hw.cell Hy hc;obtain ⟨h1,h2,h3,hd,h4⟩:=ih v v' hvr hw hr;refine ⟨h1,h2,h3,hd,λτ pG=> ?_⟩;have QG:(TW w τ).cell? ad=some v:=hc;simp only [Sem.run,QG];exact h4 τ pG
 | @store β ad oC v v' k k' Hy hv _ ih=>
  intro w W w1 a hw hr;have xJ:(∀c,v≠ .agg c)/\ ∀c,v≠ .tuple c:=by
   constructor
   ·rintro c rfl;cases hr
   ·rintro c rfl;cases hr
  have Mx: ∀w,(Sem.store .plain ad v k).run Pl w=(match w.cell? ad with
    | some _=>if w.frozen? ad then Result.halt (.unsupported (.unsafePointer "a write to bytes that a string shares")) w else k.run Pl (w.setCell ad v)
    | none=>match w.farStore Pl ad v (Mode.plain==Mode.atomic) with
     | .ok (w,_)=>k.run Pl w
     | .error h=> .halt h w):=by
   intro w;cases v <;> first | rfl | exact absurd rfl (xJ.1 _) | exact absurd rfl (xJ.2 _)
  rw [Mx] at hr;cases hc:w.cell? ad with
  | none=>
   exfalso;obtain ⟨e,he⟩:=hw.acg Hy.block Pl v (Mode.plain==Mode.atomic);rw [hc] at hr;simp only [he] at hr;cases hr
  | some u=>
   rw [hc] at hr;simp only at hr;cases hf:w.frozen? ad with
   | true=>rw [hf] at hr;cases hr
   | false=>
    rw [hf] at hr;simp only [qa6,if_false] at hr;obtain ⟨_,hf',Et,hT,hE⟩:=wT hw Hy hv hc hf;obtain ⟨⟨a',W1,cq,g1,g2,g3⟩,h2,h3,hd,h4⟩:=ih Et hr;refine ⟨⟨a',W1,cq,g1,g2,hT.le.trans g3⟩,h2,h3,λh=>hd (BX h),λτ pG=> ?_⟩;have QG:(TW w τ).cell? ad=some u:=hc;have hf2:(TW w τ).frozen? ad=false:=hf;rw [Mx,QG];simp only [hf2,qa6,if_false];exact h4 τ pG
 | @new β o o' k k' ho _ ih=>
  intro w W w1 a hw hr;obtain ⟨Et,hT⟩:=BW hw ho.o ho.no;obtain ⟨⟨a',W1,cq,g1,g2,g3⟩,h2,h3,hd,h4⟩:=ih _ w.heap.size W.heap.size hT.le (.inr ⟨rfl,rfl⟩) Et hr;exact ⟨⟨a',W1,cq,g1,g2,hT.le.trans g3⟩,h2,h3,λh=>hd (FC h ho.dw),h4⟩
 | @shape β r r' k k' hb _ ih=>
  intro w W w1 a hw hr;exact ih _ hw hr
 | @getObj β r r' k k' hb _ ih=>
  intro w W w1 a hw hr;obtain ⟨x,x',k1,k2,k3⟩:=hw.obj _ _ hb;simp only [Sem.run,k1] at hr;cases k3 with
  | cells e hc=>cases hr
  | lock e hc=>cases hr
  | @loop l l' hl=>
   obtain ⟨h1,h2,h3,hd,h4⟩:=ih (.loop l) (.loop l') (.loop hl) hw hr;exact ⟨h1,h2,h3,hd,λτ pG=>by simp only [Sem.run,k1];exact h4 τ pG⟩
  | @num ad oC lost ha=>
   obtain ⟨h1,h2,h3,hd,h4⟩:=ih _ _ (.num lost ha) hw hr;exact ⟨h1,h2,h3,hd,λτ pG=>by simp only [Sem.run,k1];exact h4 τ pG⟩
  | DJ b=>
   obtain ⟨h1,h2,h3,hd,h4⟩:=ih _ _ (.DJ b) hw hr;exact ⟨h1,h2,h3,hd,λτ pG=>by simp only [Sem.run,k1];exact h4 τ pG⟩
 | @setObj β r r' o o' k k' hb ho hn _ ih=>
  intro w W w1 a hw hr;obtain ⟨x,x',k1,k2,k3⟩:=hw.obj _ _ hb;have hx: ∀c e f,x≠ .cells c e f:=by
   rintro c e f rfl;simp only [Sem.run,k1] at hr;cases hr
  have Mx: ∀w:World,w.heap[r]? =some x->(Sem.setObj r o k).run Pl w=k.run Pl { w with heap:=w.heap.setIfInBounds r o }:=by
   intro w hk;simp only [Sem.run,hk]
  rw [Mx w k1] at hr;obtain ⟨_,Et,hT⟩:=uM hw hb ho.o k1 hx hn;obtain ⟨⟨a',W1,cq,g1,g2,g3⟩,h2,h3,hd,h4⟩:=ih Et hr;exact ⟨⟨a',W1,cq,g1,g2,hT.le.trans g3⟩,h2,h3,λh=>hd (zk h ho.dw),λτ pG=>by rw [Mx (TW w τ) k1];exact h4 τ pG⟩
 | @choose β q k k' _ ih=>
  intro w W w1 a hw hr;simp only [Sem.run] at hr;split at hr
  ·rename_i hq;obtain ⟨h1,h2,h3,hd,h4⟩:=ih 0 hw hr;exact ⟨h1,h2,h3,hd,λτ pG=>by simp only [Sem.run,hq,if_true];exact h4 τ pG⟩
  ·rename_i hq;obtain ⟨h1,h2,h3,hd,h4⟩:=ih _ (hw.draw (w.drawn+1) W.drawn) hr;have Kc:w.drawn+1<=w1.drawn:=h2;refine ⟨h1,by omega,h3,λh=>hd h,λτ pG=> ?_⟩;simp only [Sem.run,hq,if_false];have h0:τ w.drawn q=w.tape w.drawn q:=pG _ _ (qa2 _) (by omega);show (k (q.cut (τ w.drawn q))).run Pl _=_;rw [h0];exact h4 τ λj q hj=>pG j q (by have:w.drawn+1<=j:=hj;omega)
 | program _ ih=>
  intro w W w1 a hw hr;exact ih hw hr
 | mark _ ih=>
  intro w W w1 a hw hr;exact ih hw hr
 | dead hd=>
  intro w W w1 a hw hr;exact absurd hr (hd.no _ _ _)
end Go.Cx
