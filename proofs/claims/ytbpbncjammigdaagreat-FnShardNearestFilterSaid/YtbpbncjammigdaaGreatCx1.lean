/- One program beside another, one goroutine among others. -/
import Derived.Test.YtbpbncjammigdaaGreatAl
import GoSem.Step
import Derived.Laws.Sem
import Derived.Calls
set_option linter.unusedVariables false
set_option linter.unusedSimpArgs false
set_option maxHeartbeats 4000000
namespace Go.Cx
open Go
class bg where
 ok:FuncId->Prop
 uj:FuncId->Prop
class aL where
 code:Code->Prop
class bj where
 hp:Value->Prop
 noI: ∀t w, ¬hp (.iface t w)
def Odd:Value->Prop
 | .bool _ | .int _ _ | .string _ | .agg _ | .pointer none | .slice none _ _ | .nilFunc | .nilIface | .func (.method _) _ _=>False
 | _=>True
variable[bg][aL][bj]
abbrev Bj:=Nat->Nat->Prop
def Le(β γ:Bj):Prop:= ∀a b,β a b->γ a b
omit [bg] [aL] [bj] in
theorem Le.refl(β:Bj):Le β β:=λ_ _ h=>h
omit [bg] [aL] [bj] in
theorem Le.trans{β γ δ:Bj}(h:Le β γ)(k:Le γ δ):Le β δ:=λa b x=>k a b (h a b x)
structure jD(β:Bj)(a a':Addr):Prop where
 block:β a.block a'.block
 off:a'.off=a.off
 spot:a'.spot=a.spot
omit [bg] [aL] [bj] in
theorem jD.mono{β γ:Bj}(l:Le β γ){a a':Addr}(h:jD β a a'):jD γ a a':=⟨l _ _ h.block,h.off,h.spot⟩
omit [bg] [aL] [bj] in
theorem jD.add{β:Bj}{a a':Addr}(h:jD β a a')(n:Nat):jD β (a.add n) (a'.add n):=by
 unfold Addr.add;by_cases hn:n=0
 ·simp only [hn,if_true];exact h
 ·simp only [hn,if_false];exact ⟨h.block,by simp [h.off],rfl⟩
inductive DO(β:Bj):Fn->Fn->Prop
 | func (f:FuncId):bg.ok f->DO β (.func f) (.func f)
 | yield {l l':Nat}:β l l'->DO β (.yield l) (.yield l')
 | method (n:String):DO β (.method n) (.method n)
omit [aL] [bj] in
theorem DO.mono{β γ:Bj}(l:Le β γ){f f':Fn}(h:DO β f f'):DO γ f f':=by
 cases h with
 | func f h=>exact .func f h
 | yield h=>exact .yield (l _ _ h)
 | method n=>exact .method n
inductive ay(β:Bj):Value->Value->Prop
 | bool (b:Bool):ay β (.bool b) (.bool b)
 | int (k:IntKind) (n:Int):ay β (.int k n) (.int k n)
 | string (s:ByteArray):ay β (.string s) (.string s)
 | px:ay β (.pointer none) (.pointer none)
 | ptr {a a':Addr}:jD β a a'->ay β (.pointer (some a)) (.pointer (some a'))
 | kT (l c:Nat):ay β (.slice none l c) (.slice none l c)
 | slice {a a':Addr} (l c:Nat):jD β a a'->ay β (.slice (some a) l c) (.slice (some a') l c)
 | func {f f':Fn} {x x' y y':Array Value}:DO β f f'->x.size=x'.size->y.size=y'.size->(∀(i:Nat) (v v':Value),x[i]? =some v->x'[i]? =some v'->ay β v v')->(∀(i:Nat) (v v':Value),y[i]? =some v->y'[i]? =some v'->ay β v v')->
  ay β (.func f x y) (.func f' x' y')
 | pX:ay β .nilFunc .nilFunc
 | iface (t:TypeId) {v v':Value}:ay β v v'->ay β (.iface t v) (.iface t v')
 | jb:ay β .nilIface .nilIface
 | agg {x x':Array Value}:x.size=x'.size->(∀(i:Nat) (v v':Value),x[i]? =some v->x'[i]? =some v'->ay β v v')->ay β (.agg x) (.agg x')
 | tuple {x x':Array Value}:x.size=x'.size->(∀(i:Nat) (v v':Value),x[i]? =some v->x'[i]? =some v'->ay β v v')->ay β (.tuple x) (.tuple x')
 | hole {v':Value}:Odd v'->bj.hp v'->ay β (.tuple #[]) v'
omit [aL] in
theorem ay.mono{β γ:Bj}(l:Le β γ){v v':Value}(h:ay β v v'):ay γ v v':=by
 induction h with
 | bool b=>exact .bool b
 | int k n=>exact .int k n
 | string s=>exact .string s
 | px=>exact .px
 | ptr h=>exact .ptr (h.mono l)
 | kT n c=>exact .kT n c
 | slice n c h=>exact .slice n c (h.mono l)
 | func h h1 h2 _ _ i1 i2=>exact .func (h.mono l) h1 h2 i1 i2
 | pX=>exact .pX
 | iface t _ ih=>exact .iface t ih
 | jb=>exact .jb
 | agg h _ ih=>exact .agg h ih
 | tuple h _ ih=>exact .tuple h ih
 | hole h k=>exact .hole h k
def aM(β:Bj)(x x':Array Value):Prop:=x.size=x'.size/\ ∀(i:Nat) (v v':Value),x[i]? =some v->x'[i]? =some v'->ay β v v'
omit [aL] in
theorem aM.mono{β γ:Bj}(l:Le β γ){x x':Array Value}(h:aM β x x'):aM γ x x':=⟨h.1,λi v v' a b=>(h.2 i v v' a b).mono l⟩
omit [aL] in
theorem aM.get{β:Bj}{x x':Array Value}(h:aM β x x'){i:Nat}{v:Value}(hv:x[i]? =some v): ∃v',x'[i]? =some v'/\ay β v v':=by
 obtain ⟨hi,_⟩:=qa1.1 hv;have gz:i<x'.size:=h.1▸hi;exact ⟨x'[i],Array.getElem?_eq_getElem gz,h.2 i _ _ hv (Array.getElem?_eq_getElem gz)⟩
omit [aL] in
theorem aM.none{β:Bj}{x x':Array Value}(h:aM β x x'){i:Nat}(hv:x[i]? =none):x'[i]? =none:=by
 rw [Array.getElem?_eq_none_iff] at hv ⊢;rw [←h.1];exact hv
omit [aL] in
theorem aM.empty{β:Bj}:aM β #[] #[]:=⟨rfl,λi v v' h=>by simp at h⟩
omit [aL] in
theorem aM.push{β:Bj}{x x':Array Value}{v v':Value}(h:aM β x x')(hv:ay β v v'):aM β (x.push v) (x'.push v'):=by
 refine ⟨by simp [h.1],λi u u' hu uI=> ?_⟩;rw [qbt] at hu uI;split at hu
 ·rename_i e;rw [if_pos (e.trans h.1)] at uI;cases hu;cases uI;exact hv
 ·rename_i e;rw [if_neg (by rw [←h.1];exact e)] at uI;exact h.2 i u u' hu uI
omit [aL] in
theorem aM.append{β:Bj}{x x' y y':Array Value}(h:aM β x x')(k:aM β y y'):aM β (x++y) (x'++y'):=by
 refine ⟨by simp [h.1,k.1],λi u u' hu uI=> ?_⟩;rw [Array.getElem?_append] at hu uI;split at hu
 ·rename_i e;rw [if_pos (by rw [←h.1];exact e)] at uI;exact h.2 i u u' hu uI
 ·rename_i e;rw [if_neg (by rw [←h.1];exact e), ←h.1] at uI;exact k.2 _ u u' hu uI
omit [aL] in
theorem aM.set{β:Bj}{x x':Array Value}{v v':Value}(h:aM β x x')(hv:ay β v v')(k:Nat):aM β (x.setIfInBounds k v) (x'.setIfInBounds k v'):=by
 refine ⟨by simp [h.1],λi u u' hu uI=> ?_⟩;rw [qag] at hu uI;split at hu
 ·rename_i e;rw [if_pos e, ←h.1] at uI;split at hu
  ·rename_i e2;rw [if_pos e2] at uI;cases hu;cases uI;exact hv
  ·cases hu
 ·rename_i e;rw [if_neg e] at uI;exact h.2 i u u' hu uI
omit [aL] in
theorem aM.extract{β:Bj}{x x':Array Value}(h:aM β x x')(a b:Nat):aM β (x.extract a b) (x'.extract a b):=by
 refine ⟨by simp [h.1],λi u u' hu uI=> ?_⟩;rw [Array.getElem?_extract] at hu uI;split at hu
 ·rename_i e;rw [if_pos (by rw [←h.1];exact e)] at uI;exact h.2 _ u u' hu uI
 ·cases hu
omit [aL] in
theorem aM.one{β:Bj}{v v':Value}(h:ay β v v'):aM β #[v] #[v']:=aM.empty.push h
omit [aL] in
theorem aM.Fv{β:Bj}{x x':Array Value}(h:aM β x x'):ay β (.agg x) (.agg x'):= .agg h.1 h.2
omit [aL] in
theorem aM.HE{β:Bj}{x x':Array Value}(h:aM β x x'):ay β (.tuple x) (.tuple x'):= .tuple h.1 h.2
omit [aL] in
theorem ay.cells{β:Bj}{v v':Value}(h:ay β v v'):aM β v.cells v'.cells:=by
 cases h with
 | agg h k=>exact ⟨h,k⟩
 | bool b=>exact aM.one (.bool b)
 | int k n=>exact aM.one (.int k n)
 | string s=>exact aM.one (.string s)
 | px=>exact aM.one .px
 | ptr h=>exact aM.one (.ptr h)
 | kT n c=>exact aM.one (.kT n c)
 | slice n c h=>exact aM.one (.slice n c h)
 | func h h1 h2 h3 h4=>exact aM.one (.func h h1 h2 h3 h4)
 | pX=>exact aM.one .pX
 | iface t h=>exact aM.one (.iface t h)
 | jb=>exact aM.one .jb
 | tuple h k=>exact aM.one (.tuple h k)
 | @hole v' h k=>exact (show v'.cells= #[v'] by cases v' <;> first | rfl | exact h.elim)▸aM.one (.hole h k)
omit [aL] in
theorem aM.map{β:Bj}{α:Type}{xs:Array α}{f g:α->Value}(h: ∀x∈xs,ay β (f x) (g x)):aM β (xs.map f) (xs.map g):=by
 refine ⟨by simp,λi u u' hu uI=> ?_⟩;rw [qc8] at hu uI;cases hx:xs[i]? with
 | none=>rw [hx] at hu;cases hu
 | some x=>rw [hx] at hu uI;cases hu;cases uI;exact h x (qb5 hx)
inductive Plain:Value->Prop
 | bool (b:Bool):Plain (.bool b)
 | int (k:IntKind) (n:Int):Plain (.int k n)
 | string (s:ByteArray):Plain (.string s)
 | px:Plain (.pointer none)
 | kT (l c:Nat):Plain (.slice none l c)
 | pX:Plain .nilFunc
 | jb:Plain .nilIface
 | agg {x:Array Value}:(∀(i:Nat) (v:Value),x[i]? =some v->Plain v)->Plain (.agg x)
 | tuple {x:Array Value}:(∀(i:Nat) (v:Value),x[i]? =some v->Plain v)->Plain (.tuple x)
omit [aL] in
theorem Plain.rel{β:Bj}{v:Value}(h:Plain v):ay β v v:=by
 induction h with
 | bool b=>exact .bool b
 | int k n=>exact .int k n
 | string s=>exact .string s
 | px=>exact .px
 | kT n c=>exact .kT n c
 | pX=>exact .pX
 | jb=>exact .jb
 | agg _ ih=>exact .agg rfl λi v v' h h'=>by rw [h] at h';cases h';exact ih i v h
 | tuple _ ih=>exact .tuple rfl λi v v' h h'=>by rw [h] at h';cases h';exact ih i v h
structure Kk(β:Bj)(l l':Loop):Prop where
 state:l'.state=l.state
 pending:l'.pending=l.pending
 fn:l'.fn=l.fn
 tmps:aM β l.tmps l'.tmps
 params:l'.params=l.params
 assign:l'.assign=l.assign
 body:l'.body=l.body
 defers:β l.defers l'.defers
 ca:aL.code l.assign
 cb:aL.code l.body
 cp: ∀c,l.pending=some c->aL.code c
theorem Kk.mono{β γ:Bj}(l:Le β γ){x x':Loop}(h:Kk β x x'):Kk γ x x':=⟨h.state,h.pending,h.fn,h.tmps.mono l,h.params,h.assign,h.body,l _ _ h.defers,h.ca,h.cb,h.cp⟩
inductive th(β:Bj):Obj->Obj->Prop
 | cells {c c':Array Value} (e:TypeId):aM β c c'->th β (.cells c e) (.cells c' e)
 | lock {c c':Array Value} {f':Nat×Nat} (e:TypeId):aM β c c'->th β (.cells c e (0,c.size+1)) (.cells c' e f')
 | loop {l l':Loop}:Kk β l l'->th β (.loop l) (.loop l')
 | num {a a':Addr} (lost:Bool):jD β a a'->th β (.number a lost) (.number a' lost)
 | DF (b:Bool):th β (.deferred (if b then some [] else none)) (.deferred (if b then some [] else none))
theorem th.mono{β γ:Bj}(l:Le β γ){x x':Obj}(h:th β x x'):th γ x x':=by
 cases h with
 | cells e h=>exact .cells e (h.mono l)
 | lock e h=>exact .lock e (h.mono l)
 | loop h=>exact .loop (h.mono l)
 | num b h=>exact .num b (h.mono l)
 | DF b=>exact .DF b
inductive zd(β:Bj):Obj->Obj->Prop
 | cells {c c':Array Value} (e:TypeId):aM β c c'->zd β (.cells c e) (.cells c' e)
 | loop {l l':Loop}:Kk β l l'->zd β (.loop l) (.loop l')
 | num {a a':Addr} (lost:Bool):jD β a a'->zd β (.number a lost) (.number a' lost)
 | DF (b:Bool):zd β (.deferred (if b then some [] else none)) (.deferred (if b then some [] else none))
theorem zd.o{β:Bj}{x x':Obj}(h:zd β x x'):th β x x':=by
 cases h with
 | cells e h=>exact .cells e h
 | loop h=>exact .loop h
 | num b h=>exact .num b h
 | DF b=>exact .DF b
theorem zd.no{β:Bj}{x x':Obj}(h:zd β x x')(c:Array Value)(e:TypeId)(q:x= .cells c e (0,c.size+1)):False:=by
 cases h with
 | cells e h=>injection q with q1 q2 q3;simp at q3
 | loop h=>cases q
 | num b h=>cases q
 | DF b=>cases q
end Go.Cx
namespace Go.Cx
open Go
variable[bg][aL][bj]
def Kl:Halt->Prop
 | .panic _ | .stuck _=>True
 | .unsupported u=> ∀g,u≠ .initOrder g
 | _=>False
def Mld(L:Program){α:Type}(s:Sem α):Prop:= ∀w h w1,s.run L w= .halt h w1->Kl h
def Dw(w:World):Prop:= ∀(r:Nat) (ds:List Deferred),w.heap[r]? =some (Obj.deferred (some ds))->ds=[]
structure aX(L:Program){α:Type}(s:Sem α):Prop where
 no: ∀w a w1,s.run L w≠ .ok a w1
 BQ:Mld L s
 kp: ∀w h w1,Dw w->s.run L w= .halt h w1->Dw w1
omit [bg] [aL] [bj] in
theorem aX.fo{L:Program}{α γ:Type}{s:Sem α}{f:α->Sem γ}(h:aX L s):aX L (s >>= f):=by
 refine ⟨λw a w1 q=> ?_,λw hh w1 q=> ?_,λw hh w1 hd q=> ?_⟩
 ·rw [Sem.run_bind] at q;cases hs:s.run L w with
  | ok x w'=>exact h.no _ _ _ hs
  | halt hh w'=>rw [hs] at q;cases q
 ·rw [Sem.run_bind] at q;cases hs:s.run L w with
  | ok x w'=>exact (h.no _ _ _ hs).elim
  | halt hh w'=>rw [hs] at q;cases q;exact h.BQ _ _ _ hs
 ·rw [Sem.run_bind] at q;cases hs:s.run L w with
  | ok x w'=>exact (h.no _ _ _ hs).elim
  | halt hh w'=>rw [hs] at q;cases q;exact h.kp _ _ _ hd hs
section
variable(Pl Pc:Program)
inductive aH{α:Type}(RA:Bj->α->α->Prop):Bj->Sem α->Sem α->Prop
 | pure {β:Bj} {a a':α}:RA β a a'->aH RA β (.pure a) (.pure a')
 | load {β:Bj} {a a':Addr} {k k':Value->Sem α}:jD β a a'->(∀v v',ay β v v'->aH RA β (k v) (k' v'))->aH RA β (.load .plain a k) (.load .plain a' k')
 | store {β:Bj} {a a':Addr} {v v':Value} {k k':Sem α}:jD β a a'->ay β v v'->aH RA β k k'->aH RA β (.store .plain a v k) (.store .plain a' v' k')
 | new {β:Bj} {o o':Obj} {k k':Nat->Sem α}:zd β o o'->(∀γ r r',Le β γ->γ r r'->aH RA γ (k r) (k' r'))->aH RA β (.new o k) (.new o' k')
 | shape {β:Bj} {r r':Nat} {k k':Option (TypeId×Nat)->Sem α}:β r r'->(∀s,aH RA β (k s) (k' s))->aH RA β (.shape r k) (.shape r' k')
 | getObj {β:Bj} {r r':Nat} {k k':Obj->Sem α}:β r r'->(∀o o',th β o o'->aH RA β (k o) (k' o'))->aH RA β (.getObj r k) (.getObj r' k')
 | setObj {β:Bj} {r r':Nat} {o o':Obj} {k k':Sem α}:β r r'->zd β o o'->(∀c e f,o≠ .cells c e f)->aH RA β k k'->aH RA β (.setObj r o k) (.setObj r' o' k')
 | choose {β:Bj} {q:Question} {k k':Nat->Sem α}:(∀n,aH RA β (k n) (k' n))->aH RA β (.choose q k) (.choose q k')
 | program {β:Bj} {k k':Program->Sem α}:aH RA β (k Pl) (k' Pc)->aH RA β (.program k) (.program k')
 | mark {β:Bj} {k k':Sem α}:aH RA β k k'->aH RA β (.mark .noRoom k) (.mark .noRoom k')
 | dead {β:Bj} {s t:Sem α}:aX Pl s->aH RA β s t
variable{Pl Pc}
theorem aH.bind{α γ:Type}{RA:Bj->α->α->Prop}{RB:Bj->γ->γ->Prop}{β:Bj}{s t:Sem α}{f g:α->Sem γ}(h:aH Pl Pc RA β s t)(k: ∀cq a a',Le β cq->RA cq a a'->aH Pl Pc RB cq (f a) (g a')):aH Pl Pc RB β (s.bind f) (t.bind g):=by
 induction h with
 | pure h=>exact k _ _ _ (Le.refl _) h
 | load ha _ ih=>exact .load ha λv v' hv=>ih v v' hv k
 | store ha hv _ ih=>exact .store ha hv (ih k)
 | new ho _ ih=>exact .new ho λγ r r' hl hr=>ih γ r r' hl hr λcq a a' rz h=>k cq a a' (hl.trans rz) h
 | shape hr _ ih=>exact .shape hr λs=>ih s k
 | getObj hr _ ih=>exact .getObj hr λo o' ho=>ih o o' ho k
 | setObj hr ho hn _ ih=>exact .setObj hr ho hn (ih k)
 | choose _ ih=>exact .choose λn=>ih n k
 | program _ ih=>exact .program (ih k)
 | mark _ ih=>exact .mark (ih k)
 | dead hd=>exact .dead (aX.fo hd)
theorem aH.imp{α:Type}{RA RB:Bj->α->α->Prop}{β:Bj}{s t:Sem α}(h:aH Pl Pc RA β s t)(k: ∀cq a a',Le β cq->RA cq a a'->RB cq a a'):aH Pl Pc RB β s t:=by
 induction h with
 | pure h=>exact .pure (k _ _ _ (Le.refl _) h)
 | load ha _ ih=>exact .load ha λv v' hv=>ih v v' hv k
 | store ha hv _ ih=>exact .store ha hv (ih k)
 | new ho _ ih=>exact .new ho λγ r r' hl hr=>ih γ r r' hl hr λcq a a' rz h=>k cq a a' (hl.trans rz) h
 | shape hr _ ih=>exact .shape hr λs=>ih s k
 | getObj hr _ ih=>exact .getObj hr λo o' ho=>ih o o' ho k
 | setObj hr ho hn _ ih=>exact .setObj hr ho hn (ih k)
 | choose _ ih=>exact .choose λn=>ih n k
 | program _ ih=>exact .program (ih k)
 | mark _ ih=>exact .mark (ih k)
 | dead h=>exact .dead h
end
structure cH(β:Bj)(w W:World):Prop where
 obj: ∀a b,β a b-> ∃o o',w.heap[a]? =some o/\W.heap[b]? =some o'/\th β o o'
 inj: ∀a a' b,β a b->β a' b->a=a'
 fn: ∀a b b',β a b->β a b'->b=b'
theorem cH.UG{β:Bj}{w W:World}(h:cH β w W){a b:Nat}(hb:β a b):a<w.heap.size:=by
 obtain ⟨o,_,h1,_⟩:=h.obj a b hb;exact (qa1.1 h1).1
theorem cH.PT{β:Bj}{w W:World}(h:cH β w W){a b:Nat}(hb:β a b):b<W.heap.size:=by
 obtain ⟨_,o',_,h1,_⟩:=h.obj a b hb;exact (qa1.1 h1).1
def gR(β:Bj)(w:World)(b:Nat):Prop:= ∃a c e,β a b/\True/\w.heap[a]? =some (.cells c e (0,c.size+1))
def uk(β:Bj)(w:World)(e:Event):Prop:=
 (e.sync=false/\((∃ad a,e.loc= .cell ad/\β a ad.block/\(e.write=true-> ¬gR β w ad.block))\/(∃r a,e.loc= .obj r/\β a r/\ ¬gR β w r)))\/e=⟨.mark .noRoom,false,true⟩
structure mX(β cq:Bj)(w w1 W W1:World):Prop where
 le:Le β cq
 Mr:w1.tape=w.tape
 tape:W1.tape=W.tape
 os:W1.os=W.os
 output:W1.output=W.output
 ze:w.drawn<=w1.drawn
 drawn:W1.drawn=W.drawn+(w1.drawn - w.drawn)
 size:W.heap.size<=W1.heap.size
 HG:w.heap.size<=w1.heap.size
 stay: ∀b,b<W.heap.size->(∀a, ¬β a b)->W1.heap[b]? =W.heap[b]?
 lock: ∀b,gR β w b->W1.heap[b]? =W.heap[b]?
 Ep: ∀b,gR β w b->gR cq w1 b
 unlock: ∀b,(∃a,β a b)-> ¬gR β w b-> ¬gR cq w1 b
 fresh: ∀a b,cq a b->β a b\/(w.heap.size<=a/\W.heap.size<=b/\b<W1.heap.size/\ ¬gR cq w1 b)
 all: ∀b,W.heap.size<=b->b<W1.heap.size-> ∃a,cq a b
 ofs: ∀a b,cq a b->β a b\/a+W.heap.size=b+w.heap.size
 grow:w1.heap.size+W.heap.size=W1.heap.size+w.heap.size
 Qh: ∀a,a<w.heap.size->(∀b, ¬β a b)->w1.heap[a]? =w.heap[a]?
omit [bg] [aL] [bj] in
theorem mX.refl(β:Bj)(w W:World):mX β β w w W W:=
 ⟨Le.refl _,rfl,rfl,rfl,rfl,qa3 _,by omega,qa3 _,qa3 _,λ_ _ _=>rfl,λ_ _=>rfl,λ_ h=>h,λ_ _ h=>h,λ_ _ h=> .inl h,λb h1 h2=>by omega,λ_ _ h=> .inl h,by omega,λ_ _ _=>rfl⟩
omit [bg] [aL] [bj] in
theorem mX.trans{β cq jg:Bj}{w w1 w2 W W1 W2:World}(h:mX β cq w w1 W W1)(k:mX cq jg w1 w2 W1 W2):mX β jg w w2 W W2 where
 le:=h.le.trans k.le
 Mr:=k.Mr.trans h.Mr
 tape:=k.tape.trans h.tape
 os:=k.os.trans h.os
 output:=k.output.trans h.output
 ze:=qaa h.ze k.ze
 drawn:=by have:=h.drawn;have:=k.drawn;have:=h.ze;have:=k.ze;omega
 size:=qaa h.size k.size
 HG:=qaa h.HG k.HG
 stay:=λb hb hn=>by
  have h1: ∀a, ¬cq a b:=λa ha=>by
   rcases h.fresh a b ha with hh | ⟨_,hh,_⟩
   ·exact hn a hh
   ·omega
  exact (k.stay b (qa2 hb h.size) h1).trans (h.stay b hb hn)
 lock:=λb hb=>(k.lock b (h.Ep b hb)).trans (h.lock b hb)
 Ep:=λb hb=>k.Ep b (h.Ep b hb)
 unlock:=λb ⟨a,ha⟩ hn=>k.unlock b ⟨a,h.le a b ha⟩ (h.unlock b ⟨a,ha⟩ hn)
 fresh:=λa b nM=>by
  rcases k.fresh a b nM with hh | ⟨g1,g2,g3,g4⟩
  ·rcases h.fresh a b hh with h1 | ⟨h1,h2,h3,h4⟩
   ·exact .inl h1
   ·exact .inr ⟨h1,h2,qa2 h3 k.size,k.unlock b ⟨a,hh⟩ h4⟩
  ·exact .inr ⟨qaa h.HG g1,qaa h.size g2,g3,g4⟩
 all:=λb h1 h2=>by
  by_cases hb:b<W1.heap.size
  ·obtain ⟨a,ha⟩:=h.all b h1 hb;exact ⟨a,k.le a b ha⟩
  ·exact k.all b (by omega) h2
 ofs:=λa b nM=>by
  have h1:=h.grow;rcases k.ofs a b nM with hh | hh
  ·exact h.ofs a b hh
  ·exact .inr (by omega)
 grow:=by have:=h.grow;have:=k.grow;omega
 Qh:=λa ha hn=>by
  have h1: ∀b, ¬cq a b:=λb hb=>by
   rcases h.fresh a b hb with hh | ⟨hh,_⟩
   ·exact hn b hh
   ·omega
  exact (k.Qh a (qa2 ha h.HG) h1).trans (h.Qh a ha hn)
omit [bg] [aL] [bj] in
theorem uk.nN{β cq:Bj}{w w1 W W1:World}{e:Event}(h:uk β w e)(k:mX β cq w w1 W W1):uk cq w1 e:=by
 obtain ⟨h0,⟨ad,a,h1,h2,h3⟩ | ⟨r,a,h1,h2,h3⟩⟩ | h:=h
 ·exact .inl ⟨h0, .inl ⟨ad,a,h1,k.le _ _ h2,λhw=>k.unlock _ ⟨a,h2⟩ (h3 hw)⟩⟩
 ·exact .inl ⟨h0, .inr ⟨r,a,h1,k.le _ _ h2,k.unlock _ ⟨a,h2⟩ h3⟩⟩
 ·exact .inr h
def iR(w W:World):Prop:= ∀(j:Nat) (q:Question),W.tape (W.drawn+j) q=w.tape (w.drawn+j) q
omit [bg] [aL] [bj] in
theorem iR.nN{β cq:Bj}{w w1 W W1:World}(h:iR w W)(k:mX β cq w w1 W W1):iR w1 W1:=λj q=>by
 have:=k.drawn;have:=k.ze;have e1:W1.drawn+j=W.drawn+((w1.drawn - w.drawn)+j):=by omega
 have e2:w1.drawn+j=w.drawn+((w1.drawn - w.drawn)+j):=by omega
 rw [k.tape,k.Mr,e1,e2];exact h _ q
omit [bg] [aL] [bj] in
theorem rU{w:World}{a:Addr}{v:Value}(h:w.cell? a=some v): ∃c e f,w.heap[a.block]? =some (.cells c e f)/\a.spot=none/\c[a.off]? =some v:=by
 unfold World.cell? at h;split at h
 ·rename_i c e f heq;split at h
  ·cases h
  ·rename_i hs;exact ⟨c,e,f,heq,by simpa using hs,h⟩
 ·cases h
omit [bg] [aL] [bj] in
theorem cell_of{w:World}{a:Addr}{v:Value}{c:Array Value}{e:TypeId}{f:Nat×Nat}(h:w.heap[a.block]? =some (.cells c e f))(hs:a.spot=none)(hc:c[a.off]? =some v):w.cell? a=some v:=by
 unfold World.cell?; rw [h];simp [hs,hc]
theorem cH.cell{β:Bj}{w W:World}(h:cH β w W){a a':Addr}(ha:jD β a a'){v:Value}(hv:w.cell? a=some v): ∃v',W.cell? a'=some v'/\ay β v v':=by
 obtain ⟨c,e,f,h1,h2,h3⟩:=rU hv;obtain ⟨o,o',k1,k2,k3⟩:=h.obj _ _ ha.block;rw [h1] at k1;cases k1;cases k3 with
 | cells e hc=>
  obtain ⟨v',g1,g2⟩:=hc.get h3;exact ⟨v',cell_of k2 (ha.spot.trans h2) (ha.off▸g1),g2⟩
 | lock e hc=>
  obtain ⟨v',g1,g2⟩:=hc.get h3;exact ⟨v',cell_of k2 (ha.spot.trans h2) (ha.off▸g1),g2⟩
omit [bg] [aL] [bj] in
theorem size_setCell{w:World}{a:Addr}{v:Value}:(w.setCell a v).heap.size=w.heap.size:=by simp [World.setCell]
omit [bg] [aL] [bj] in
theorem jc{w:World}{a:Addr}{v:Value}{b:Nat}(h:b≠a.block):(w.setCell a v).heap[b]? =w.heap[b]? :=by
 unfold World.setCell;simp only;rw [qc2,if_neg (λe=>h e.symm)]
omit [bg] [aL] [bj] in
theorem xE{w:World}{a:Addr}{v:Value}{c:Array Value}{e:TypeId}{f:Nat×Nat}(h:w.heap[a.block]? =some (.cells c e f))(hs:a.spot=none):(w.setCell a v).heap[a.block]? =some (.cells (c.setIfInBounds a.off v) e f):=by
 unfold World.setCell;simp only;rw [qc2,if_pos rfl,h];simp [hs]
end Go.Cx
namespace Go.Cx
open Go
variable[bg][aL][bj]
theorem cH.Va{β:Bj}{w W:World}(h:cH β w W){a a' b b':Nat}(h1:β a b)(h2:β a' b'):a=a'↔b=b':=
 ⟨λe=>by subst e;exact h.fn _ _ _ h1 h2,λe=>by subst e;exact h.inj _ _ _ h1 h2⟩
theorem wO{β:Bj}{w W:World}(h:cH β w W){a a':Addr}{v v':Value}(ha:jD β a a')(hv:ay β v v'){u:Value}(hc:w.cell? a=some u)(hf:w.frozen? a=false):
  (∃u',W.cell? a'=some u')/\W.frozen? a'=false/\cH β (w.setCell a v) (W.setCell a' v')/\mX β β w (w.setCell a v) W (W.setCell a' v')/\uk β (w.setCell a v) ⟨.cell a',true,false⟩:=by
 obtain ⟨c,e,f,h1,h2,h3⟩:=rU hc;obtain ⟨o,o',k1,k2,k3⟩:=h.obj _ _ ha.block;rw [h1] at k1;cases k1;have bG:=(qa1.1 h3).1;have Fy:a'.spot=none:=ha.spot.trans h2;cases k3 with
 | lock e hcc=>
  exfalso;unfold World.frozen? at hf;rw [h1] at hf;simp at hf;omega
 | @cells _ c' _ hcc=>
  have Yi: ¬gR β w a'.block:=by
   rintro ⟨x,c2,e2,q1,q2,q3⟩;have:=h.inj _ _ _ q1 ha.block;subst this;rw [h1] at q3;injection q3 with q3
   injection q3 with q4 q5 q6
   simp at q6
  have ab9:=xE (v:=v) h1 h2;have Yj:=xE (v:=v') k2 Fy;have afY: ∀x y,β x y-> ∃o o',(w.setCell a v).heap[x]? =some o/\(W.setCell a' v').heap[y]? =some o'/\th β o o':=by
   intro x y J3;by_cases hx:x=a.block
   ·subst hx;have:=h.fn _ _ _ J3 ha.block;subst this;rw [ha.off] at Yj;exact ⟨_,_,ab9,Yj, .cells e (hcc.set hv _)⟩
   ·have hy:y≠a'.block:=λq=>hx ((h.Va J3 ha.block).2 q);rw [jc hx,jc hy];exact h.obj x y J3
  have Yk: ∀b,gR β w b->b≠a'.block:=λb hb q=>Yi (q▸hb);have dB: ∀b,gR β (w.setCell a v) b↔gR β w b:=by
   intro b
   constructor
   ·rintro ⟨x,c2,e2,q1,q2,q3⟩;by_cases hx:x=a.block
    ·subst hx;rw [ab9] at q3;injection q3 with q3
     injection q3 with q4 q5 q6
     simp at q6
    ·exact ⟨x,c2,e2,q1,q2,(jc hx)▸q3⟩
   ·rintro ⟨x,c2,e2,q1,q2,q3⟩;have hb:=Yk b ⟨x,c2,e2,q1,q2,q3⟩;have hx:x≠a.block:=λq=>hb ((h.Va q1 ha.block).1 q);exact ⟨x,c2,e2,q1,q2,(jc hx).trans q3⟩
  refine ⟨?_, ?_,⟨afY,h.inj,h.fn⟩, ?_, .inl ⟨rfl, .inl ⟨a',a.block,rfl,ha.block,λ_ hl=>Yi ((dB _).1 hl)⟩⟩⟩
  ·obtain ⟨u',hu,_⟩:=h.cell ha hc;exact ⟨u',hu⟩
  ·unfold World.frozen?; rw [k2];simp
  ·refine ⟨Le.refl _,rfl,rfl,rfl,rfl,qa3 _,by show _=_+(w.drawn - w.drawn);simp [World.setCell],by rw [size_setCell];exact qa3 _,by rw [size_setCell];exact qa3 _, ?_, ?_,λb hb=>(dB b).2 hb,λb _ hn hl=>hn ((dB b).1 hl),λx y q=> .inl q,λb q1 q2=>by rw [size_setCell] at q2;omega,λx y q=> .inl q,by rw [size_setCell,size_setCell];omega,λx _ hn=>jc λq=>hn a'.block (q▸ha.block)⟩
   ·intro b _ hn;exact jc λq=>hn a.block (q▸ha.block)
   ·intro b hb;exact jc (Yk b hb)
theorem BR{β:Bj}{w W:World}(h:cH β w W){o o':Obj}(ho:th β o o')(NM: ∀c e,o= .cells c e (0,c.size+1)->False):
  cH (λa b=>β a b\/(a=w.heap.size/\b=W.heap.size)) { w with heap:=w.heap.push o } { W with heap:=W.heap.push o' }/\
  mX β (λa b=>β a b\/(a=w.heap.size/\b=W.heap.size)) w { w with heap:=w.heap.push o } W { W with heap:=W.heap.push o' }:=by
 have hle:Le β (λa b=>β a b\/(a=w.heap.size/\b=W.heap.size)):=λa b h=> .inl h;have pL: ∀x,x<w.heap.size->(w.heap.push o)[x]? =w.heap[x]? :=λx hx=>by rw [qbt,if_neg (by omega)]
 have pC: ∀x,x<W.heap.size->(W.heap.push o')[x]? =W.heap[x]? :=λx hx=>by rw [qbt,if_neg (by omega)]
 have nL:(w.heap.push o)[w.heap.size]? =some o:=by rw [qbt,if_pos rfl]
 have nC:(W.heap.push o')[W.heap.size]? =some o':=by rw [qbt,if_pos rfl]
 have Vb: ∀b, ¬gR (λa b=>β a b\/(a=w.heap.size/\b=W.heap.size)) { w with heap:=w.heap.push o } b\/ ∃a,β a b:=by
  intro b;by_cases hb: ∃a,β a b
  ·exact .inr hb
  ·refine .inl ?_;rintro ⟨a,c,e,q1,q2,q3⟩;rcases q1 with q1 | ⟨rfl,rfl⟩
   ·exact hb ⟨a,q1⟩
   ·rw [nL] at q3;injection q3 with q3
    exact (NM c e q3).elim
 refine ⟨⟨?_, ?_, ?_⟩,⟨hle,rfl,rfl,rfl,rfl,qa3 _,by simp,by simp,by simp, ?_, ?_, ?_, ?_, ?_, ?_, ?_, ?_, ?_⟩⟩
 ·rintro a b (nM | ⟨rfl,rfl⟩)
  ·obtain ⟨x,x',h1,h2,h3⟩:=h.obj a b nM;exact ⟨x,x',(pL a (h.UG nM)).trans h1,(pC b (h.PT nM)).trans h2,h3.mono hle⟩
  ·exact ⟨o,o',nL,nC,ho.mono hle⟩
 ·rintro a a' b (h1 | ⟨rfl,rfl⟩) (h2 | ⟨h3,h4⟩)
  ·exact h.inj _ _ _ h1 h2
  ·exact absurd (h.PT h1) (by rw [h4];exact qc1 _)
  ·exact absurd (h.PT h2) (qc1 _)
  ·exact h3.symm
 ·rintro a b b' (h1 | ⟨rfl,rfl⟩) (h2 | ⟨h3,h4⟩)
  ·exact h.fn _ _ _ h1 h2
  ·exact absurd (h.UG h1) (by rw [h3];exact qc1 _)
  ·exact absurd (h.UG h2) (qc1 _)
  ·exact h4.symm
 ·intro b hb _;exact pC b hb
 ·rintro b ⟨a,c,e,q1,q2,q3⟩;exact pC b (h.PT q1)
 ·rintro b ⟨a,c,e,q1,q2,q3⟩;exact ⟨a,c,e, .inl q1,q2,(pL a (h.UG q1)).trans q3⟩
 ·rintro b ⟨a,ha⟩ hn ⟨x,c,e,q1,q2,q3⟩;rcases q1 with q1 | ⟨rfl,rfl⟩
  ·exact hn ⟨x,c,e,q1,q2,(pL x (h.UG q1))▸q3⟩
  ·exact absurd (h.PT ha) (qc1 _)
 ·rintro a b (nM | ⟨rfl,rfl⟩)
  ·exact .inl nM
  ·refine .inr ⟨qa3 _,qa3 _,by simp, ?_⟩;rcases Vb W.heap.size with hh | ⟨x,hx⟩
   ·exact hh
   ·exact absurd (h.PT hx) (qc1 _)
 ·intro b h1 h2;simp only [Array.size_push] at h2;exact ⟨w.heap.size, .inr ⟨rfl,by omega⟩⟩
 ·rintro a b (nM | ⟨rfl,rfl⟩)
  ·exact .inl nM
  ·exact .inr (by omega)
 ·simp only [Array.size_push];omega
 ·intro a ha _;exact pL a ha
theorem cH.draw{β:Bj}{w W:World}(h:cH β w W)(d D:Nat):cH β { w with drawn:=d } { W with drawn:=D }:=⟨h.obj,h.inj,h.fn⟩
theorem uJ{β:Bj}{w W:World}(h:cH β w W){r r':Nat}{o o' p:Obj}(hr:β r r')(ho:th β o o')(hp:w.heap[r]? =some p)(hn: ∀c e f,p≠ .cells c e f)(NM: ∀c e f,o≠ .cells c e f):
  (∃p',W.heap[r']? =some p'/\(∀c e f,p'≠ .cells c e f)/\p'.isChan=false)/\cH β { w with heap:=w.heap.setIfInBounds r o } { W with heap:=W.heap.setIfInBounds r' o' }/\
  mX β β w { w with heap:=w.heap.setIfInBounds r o } W { W with heap:=W.heap.setIfInBounds r' o' }:=by
 obtain ⟨x,x',k1,k2,k3⟩:=h.obj _ _ hr;rw [hp] at k1;cases k1;have bG:=h.UG hr;have Zv:=h.PT hr;have sL:(w.heap.setIfInBounds r o)[r]? =some o:=by rw [qag,if_pos rfl,if_pos bG]
 have sC:(W.heap.setIfInBounds r' o')[r']? =some o':=by rw [qag,if_pos rfl,if_pos Zv]
 have tL: ∀b,b≠r->(w.heap.setIfInBounds r o)[b]? =w.heap[b]? :=λb hb=>by rw [qag,if_neg λq=>hb q.symm]
 have tC: ∀b,b≠r'->(W.heap.setIfInBounds r' o')[b]? =W.heap[b]? :=λb hb=>by rw [qag,if_neg λq=>hb q.symm]
 have dB: ∀b,gR β { w with heap:=w.heap.setIfInBounds r o } b↔gR β w b:=by
  intro b
  constructor
  ·rintro ⟨y,c,e,q1,q2,q3⟩;by_cases hy:y=r
   ·subst hy;rw [sL] at q3;injection q3 with q3
    exact absurd q3 (NM _ _ _)
   ·exact ⟨y,c,e,q1,q2,(tL y hy)▸q3⟩
  ·rintro ⟨y,c,e,q1,q2,q3⟩;by_cases hy:y=r
   ·subst hy;rw [hp] at q3;injection q3 with q3
    exact absurd q3 (hn _ _ _)
   ·exact ⟨y,c,e,q1,q2,(tL y hy).trans q3⟩
 refine ⟨?_,⟨?_,h.inj,h.fn⟩,⟨Le.refl _,rfl,rfl,rfl,rfl,qa3 _,by simp,by simp,by simp, ?_, ?_,λb hb=>(dB b).2 hb,λb _ hh hl=>hh ((dB b).1 hl),λ_ _ q=> .inl q,λb q1 q2=>by simp at q2;omega,λ_ _ q=> .inl q,by simp only [Array.size_setIfInBounds];omega,λa _ hn=>tL a λq=>hn r' (q▸hr)⟩⟩
 ·refine ⟨x',k2, ?_, ?_⟩
  ·cases k3 with
   | cells e hc=>exact absurd rfl (hn _ _ _)
   | lock e hc=>exact absurd rfl (hn _ _ _)
   | loop hl=>intro c e f q;cases q
   | num b h=>intro c e f q;cases q
   | DF b=>intro c e f q;cases q
  ·cases k3 with
   | cells e hc=>rfl
   | lock e hc=>rfl
   | loop hl=>rfl
   | num b h=>rfl
   | DF b=>rfl
 ·intro a b nM;by_cases ha:a=r
  ·subst ha;have:=h.fn _ _ _ nM hr;subst this;exact ⟨o,o',sL,sC,ho⟩
  ·have hb:b≠r':=λq=>ha ((h.Va nM hr).2 q);rw [tL a ha,tC b hb];exact h.obj a b nM
 ·intro b _ hb;exact tC b λq=>hb r (q▸hr)
 ·rintro b ⟨y,c,e,q1,q2,q3⟩;refine tC b λq=> ?_;have:=(h.Va q1 hr).2 q;subst this;rw [hp] at q3;injection q3 with q3
  exact absurd q3 (hn _ _ _)
omit [bg] [aL] [bj] in
theorem NN{β:Bj}{w W:World}(n:Nat):mX β β w { w with drawn:=w.drawn+n } W { W with drawn:=W.drawn+n }:=
 ⟨Le.refl _,rfl,rfl,rfl,rfl,Nat.le_add_right _ _,by simp,qa3 _,qa3 _,λ_ _ _=>rfl,λ_ _=>rfl,λ_ h=>h,λ_ _ h=>h,λ_ _ h=> .inl h,λb h1 h2=>by simp at h2;omega,λ_ _ h=> .inl h,by simp only [];omega,λ_ _ _=>rfl⟩
end Go.Cx
namespace Go.Cx
open Go
variable[bg][aL][bj]
theorem cH.Yl{β:Bj}{w W:World}(h:cH β w W){a:Addr}{b:Nat}(hb:β a.block b)(p:Program)(m:Bool): ∃e,w.farLoad p a m= .error e/\Kl e:=by
 obtain ⟨o,o',k1,_,k3⟩:=h.obj _ _ hb;unfold World.farLoad World.noCell;rw [k1];cases k3 <;> exact ⟨_,rfl,trivial⟩
theorem cH.Ym{β:Bj}{w W:World}(h:cH β w W){a:Addr}{b:Nat}(hb:β a.block b)(p:Program)(v:Value)(m:Bool): ∃e,w.farStore p a v m= .error e/\Kl e:=by
 obtain ⟨o,o',k1,_,k3⟩:=h.obj _ _ hb;unfold World.farStore World.noCell;rw [k1];cases k3 <;> exact ⟨_,rfl,trivial⟩
theorem cH.aca{β:Bj}{w W:World}(h:cH β w W){a:Addr}{b:Nat}(hb:β a.block b)(p:Program)(m:Bool): ∃e,w.farLoad p a m= .error e:=let ⟨e,h,_⟩:=h.Yl hb p m;⟨e,h⟩
theorem cH.acb{β:Bj}{w W:World}(h:cH β w W){a:Addr}{b:Nat}(hb:β a.block b)(p:Program)(v:Value)(m:Bool): ∃e,w.farStore p a v m= .error e:=let ⟨e,h,_⟩:=h.Ym hb p v m;⟨e,h⟩
omit [bg] [aL] [bj] in
theorem FA{w:World}{o:Obj}(hd:Dw w)(ho: ∀ds,o= .deferred (some ds)->ds=[]):Dw { w with heap:=w.heap.push o }:=by
 intro r ds hr;rw [qbt] at hr;split at hr
 ·cases hr;exact ho ds rfl
 ·exact hd r ds hr
omit [bg] [aL] [bj] in
theorem zf{w:World}{r:Nat}{o:Obj}(hd:Dw w)(ho: ∀ds,o= .deferred (some ds)->ds=[]):Dw { w with heap:=w.heap.setIfInBounds r o }:=by
 intro r2 ds hr;simp only [qag] at hr;split at hr
 ·split at hr
  ·cases hr;exact ho ds rfl
  ·cases hr
 ·exact hd r2 ds hr
omit [bg] [aL] [bj] in
theorem BT{w:World}{a:Addr}{v:Value}(hd:Dw w):Dw (w.setCell a v):=by
 intro r ds hr;unfold World.setCell at hr;simp only [qc2] at hr;split at hr
 ·cases h:w.heap[r]? with
  | none=>rw [h] at hr;cases hr
  | some o=>
   rw [h] at hr;cases o <;> cases hr;exact hd r ds h
 ·exact hd r ds hr
theorem zd.dw{β:Bj}{o o':Obj}(h:zd β o o'): ∀ds,o= .deferred (some ds)->ds=[]:=by
 intro ds q;cases h with
 | DF b=>cases b <;> cases q;rfl
 | _=>cases q
theorem cH.FB{β:Bj}{w W:World}(h:cH β w W){r r':Nat}{o:Obj}(hb:β r r')(ho:w.heap[r]? =some o)(hn: ∀c e f,o≠ .cells c e f): ¬gR β w r':=by
 rintro ⟨a,c,e,h1,h2,h3⟩;have:=h.inj _ _ _ h1 hb;subst this;rw [ho] at h3;injection h3 with h3
 exact hn _ _ _ h3
theorem aH.run{Pl Pc:Program}{α:Type}{RA:Bj->α->α->Prop}{β:Bj}{s t:Sem α}(h:aH Pl Pc RA β s t): ∀{w W w1:World} {a:α} (uE:Array Event),cH β w W->iR w W->s.run Pl w= .ok a w1->
  ∃a' W1 cq es,t.runT Pc W uE=(.ok a' W1,uE++es)/\RA cq a a'/\cH cq w1 W1/\mX β cq w w1 W W1/\ ∀e∈es,uk cq w1 e:=by
 induction h with
 | pure ha=>
  intro w W w1 a uE hw ht hr;cases hr;exact ⟨_,W,_, #[],by simp [Sem.runT],ha,hw,mX.refl _ _ _,by simp⟩
 | @load β ad ov k k' Hv _ ih=>
  intro w W w1 a uE hw ht hr;simp only [Sem.run] at hr;cases hc:w.cell? ad with
  | none=>
   exfalso;obtain ⟨e,he⟩:=hw.aca Hv.block Pl (Mode.plain==Mode.atomic);rw [hc] at hr;simp only [he] at hr;cases hr
  | some v=>
   rw [hc] at hr;obtain ⟨v',Hw,hvr⟩:=hw.cell Hv hc;obtain ⟨a',W1,cq,es,h1,h2,h3,h4,h5⟩:=ih v v' hvr (uE.push ⟨.cell ov,false,false⟩) hw ht hr;refine ⟨a',W1,cq, #[⟨.cell ov,false,false⟩]++es, ?_,h2,h3,h4, ?_⟩
   ·simp only [Sem.runT,Hw];rw [show (Mode.plain==Mode.atomic)=false from rfl,h1];simp
   ·intro e he;rcases qca.1 he with he | he
    ·simp at he;subst he;exact uk.nN (β:=β) (w:=w) (.inl ⟨rfl, .inl ⟨ov,ad.block,rfl,Hv.block,λq=>by cases q⟩⟩) h4
    ·exact h5 e he
 | @store β ad ov v v' k k' Hv hv _ ih=>
  intro w W w1 a uE hw ht hr;have xF:(∀c,v≠ .agg c)/\ ∀c,v≠ .tuple c:=by
   constructor
   ·rintro c rfl;cases hr
   ·rintro c rfl;cases hr
  have bU:(match w.cell? ad with
    | some _=>if w.frozen? ad then Result.halt (.unsupported (.unsafePointer "a write to bytes that a string shares")) w else k.run Pl (w.setCell ad v)
    | none=>match w.farStore Pl ad v (Mode.plain==Mode.atomic) with
     | .ok (w,_)=>k.run Pl w
     | .error h=> .halt h w)= .ok a w1:=by
   cases v <;> first | exact hr | exact absurd rfl (xF.1 _) | exact absurd rfl (xF.2 _)
  cases hc:w.cell? ad with
  | none=>
   exfalso;obtain ⟨e,he⟩:=hw.acb Hv.block Pl v (Mode.plain==Mode.atomic);rw [hc] at bU;simp only [he] at bU;cases bU
  | some u=>
   rw [hc] at bU;simp only at bU;cases hf:w.frozen? ad with
   | true=>rw [hf] at bU;cases bU
   | false=>
    rw [hf] at bU;simp only [qa6,if_false] at bU;obtain ⟨⟨u',uI⟩,hf',Er,hT,hE⟩:=wO hw Hv hv hc hf;obtain ⟨a',W1,cq,es,h1,h2,h3,h4,h5⟩:=ih (uE.push ⟨.cell ov,true,false⟩) Er (ht.nN hT) bU;have acd:(∀c,v'≠ .agg c)/\ ∀c,v'≠ .tuple c:=by
     constructor
     ·rintro c rfl;cases hv <;> first | exact xF.1 _ rfl | exact xF.2 _ rfl
     ·rintro c rfl;cases hv <;> exact xF.2 _ rfl
    refine ⟨a',W1,cq, #[⟨.cell ov,true,false⟩]++es, ?_,h2,h3,hT.trans h4, ?_⟩
    ·have:(Sem.store .plain ov v' k').runT Pc W uE=(match W.cell? ov with
       | some _=>
        if W.frozen? ov then (.halt (.unsupported (.unsafePointer "a write to bytes that a string shares")) W,uE)
        else k'.runT Pc (W.setCell ov v') (uE.push ⟨.cell ov,true,Mode.plain== .atomic⟩)
       | none=>match W.farStore Pc ov v' (Mode.plain== .atomic) with
        | .ok (w,Ve)=>k'.runT Pc w (uE++Ve.toArray.map (⟨.cell ·,true,Mode.plain== .atomic⟩))
        | .error h=>(.halt h W,uE)):=by
      cases v' <;> first | rfl | exact absurd rfl (acd.1 _) | exact absurd rfl (acd.2 _)
     rw [this,uI];simp only [hf',qa6,if_false];rw [show (Mode.plain==Mode.atomic)=false from rfl,h1];simp
    ·intro e he;rcases qca.1 he with he | he
     ·simp at he;subst he;exact hE.nN h4
     ·exact h5 e he
 | @new β o o' k k' ho _ ih=>
  intro w W w1 a uE hw ht hr;obtain ⟨Er,hT⟩:=BR hw ho.o ho.no;obtain ⟨a',W1,cq,es,h1,h2,h3,h4,h5⟩:=ih _ w.heap.size W.heap.size hT.le (.inr ⟨rfl,rfl⟩) uE Er (ht.nN hT) hr;exact ⟨a',W1,cq,es,h1,h2,h3,hT.trans h4,h5⟩
 | @shape β r r' k k' hb _ ih=>
  intro w W w1 a uE hw ht hr;have:W.shape? r'=w.shape? r:=by
   obtain ⟨x,x',k1,k2,k3⟩:=hw.obj _ _ hb;unfold World.shape?;rw [k1,k2];cases k3 with
   | cells e hc=>simp [hc.1]
   | lock e hc=>simp [hc.1]
   | loop hl=>rfl
   | num b h=>rfl
   | DF b=>rfl
  simp only [Sem.runT,this];exact ih _ uE hw ht hr
 | @getObj β r r' k k' hb _ ih=>
  intro w W w1 a uE hw ht hr;obtain ⟨x,x',k1,k2,k3⟩:=hw.obj _ _ hb;simp only [Sem.run,k1] at hr;cases k3 with
  | cells e hc=>cases hr
  | lock e hc=>cases hr
  | @loop l l' hl=>
   obtain ⟨a',W1,cq,es,h1,h2,h3,h4,h5⟩:=ih (.loop l) (.loop l') (.loop hl) (uE.push ⟨.obj r',false,false⟩) hw ht hr;refine ⟨a',W1,cq, #[⟨.obj r',false,false⟩]++es, ?_,h2,h3,h4, ?_⟩
   ·simp only [Sem.runT,k2];rw [show (Obj.loop l').isChan=false from rfl,h1];simp
   ·intro e he;rcases qca.1 he with he | he
    ·simp at he;subst he;exact uk.nN (β:=β) (w:=w) (.inl ⟨rfl, .inr ⟨r',r,rfl,hb,hw.FB hb k1 (by intro c e f q;cases q)⟩⟩) h4
    ·exact h5 e he
  | @num ad ov lost ha=>
   obtain ⟨a',W1,cq,es,h1,h2,h3,h4,h5⟩:=ih _ _ (.num lost ha) (uE.push ⟨.obj r',false,false⟩) hw ht hr;refine ⟨a',W1,cq, #[⟨.obj r',false,false⟩]++es, ?_,h2,h3,h4, ?_⟩
   ·simp only [Sem.runT,k2];rw [show (Obj.number ov lost).isChan=false from rfl,h1];simp
   ·intro e he;rcases qca.1 he with he | he
    ·simp at he;subst he;exact uk.nN (β:=β) (w:=w) (.inl ⟨rfl, .inr ⟨r',r,rfl,hb,hw.FB hb k1 (by intro c e f q;cases q)⟩⟩) h4
    ·exact h5 e he
  | DF b=>
   obtain ⟨a',W1,cq,es,h1,h2,h3,h4,h5⟩:=ih _ _ (.DF b) (uE.push ⟨.obj r',false,false⟩) hw ht hr;refine ⟨a',W1,cq, #[⟨.obj r',false,false⟩]++es, ?_,h2,h3,h4, ?_⟩
   ·simp only [Sem.runT,k2];rw [show (Obj.deferred (if b then some [] else none)).isChan=false from rfl,h1];simp
   ·intro e he;rcases qca.1 he with he | he
    ·simp at he;subst he;exact uk.nN (β:=β) (w:=w) (.inl ⟨rfl, .inr ⟨r',r,rfl,hb,hw.FB hb k1 (by intro c e f q;cases q)⟩⟩) h4
    ·exact h5 e he
 | @setObj β r r' o o' k k' hb ho hn _ ih=>
  intro w W w1 a uE hw ht hr;obtain ⟨x,x',k1,k2,k3⟩:=hw.obj _ _ hb;have hx: ∀c e f,x≠ .cells c e f:=by
   rintro c e f rfl;simp only [Sem.run,k1] at hr;cases hr
  have hr':k.run Pl { w with heap:=w.heap.setIfInBounds r o }= .ok a w1:=by
   simp only [Sem.run,k1] at hr;cases x <;> first | exact hr | exact absurd rfl (hx _ _ _)
  obtain ⟨⟨p',g1,g2,g3⟩,Er,hT⟩:=uJ hw hb ho.o k1 hx hn;have hc:o'.isChan=false:=by cases ho <;> rfl
  obtain ⟨a',W1,cq,es,h1,h2,h3,h4,h5⟩:=ih (uE.push ⟨.obj r',true,false⟩) Er (ht.nN hT) hr';refine ⟨a',W1,cq, #[⟨.obj r',true,false⟩]++es, ?_,h2,h3,hT.trans h4, ?_⟩
  ·simp only [Sem.runT,g1];cases p' <;> first | exact absurd rfl (g2 _ _ _) | (simp only [hc,h1];simp)
  ·intro e he;rcases qca.1 he with he | he
   ·simp at he;subst he;exact uk.nN (β:=β) (w:=w) (.inl ⟨rfl, .inr ⟨r',r,rfl,hb,hw.FB hb k1 hx⟩⟩) (hT.trans h4)
   ·exact h5 e he
 | @choose β q k k' _ ih=>
  intro w W w1 a uE hw ht hr;simp only [Sem.run] at hr;simp only [Sem.runT];split at hr
  ·rename_i hq;rw [if_pos hq];exact ih 0 uE hw ht hr
  ·rename_i hq;rw [if_neg hq];have hT:=NN (β:=β) (w:=w) (W:=W) 1;have h0:=ht 0 q;simp only [qcj] at h0;rw [h0];obtain ⟨a',W1,cq,es,h1,h2,h3,h4,h5⟩:=ih _ uE (hw.draw _ _) (ht.nN hT) hr;exact ⟨a',W1,cq,es,h1,h2,h3,hT.trans h4,h5⟩
 | program _ ih=>
  intro w W w1 a uE hw ht hr;exact ih uE hw ht hr
 | mark _ ih=>
  intro w W w1 a uE hw ht hr;obtain ⟨a',W1,cq,es,h1,h2,h3,h4,h5⟩:=ih (uE.push ⟨.mark .noRoom,false,true⟩) hw ht hr;refine ⟨a',W1,cq, #[⟨.mark .noRoom,false,true⟩]++es, ?_,h2,h3,h4, ?_⟩
  ·simp only [Sem.runT,h1];simp
  ·intro e he;rcases qca.1 he with he | he
   ·simp at he;subst he;exact .inr rfl
   ·exact h5 e he
 | dead hd=>
  intro w W w1 a uE hw ht hr;exact absurd hr (hd.no _ _ _)
theorem aH.BQ{Pl Pc:Program}{α:Type}{RA:Bj->α->α->Prop}{β:Bj}{s t:Sem α}(h:aH Pl Pc RA β s t): ∀{w W w1:World} {hh:Halt},cH β w W->s.run Pl w= .halt hh w1->Kl hh/\(Dw w->Dw w1):=by
 induction h with
 | pure ha=>intro w W w1 hh hw hr;cases hr
 | @load β ad ov k k' Hv _ ih=>
  intro w W w1 hh hw hr;simp only [Sem.run] at hr;cases hc:w.cell? ad with
  | none=>
   obtain ⟨e,he,hm⟩:=hw.Yl Hv.block Pl (Mode.plain==Mode.atomic);rw [hc] at hr;simp only [he] at hr;cases hr;exact ⟨hm,id⟩
  | some v=>
   rw [hc] at hr;obtain ⟨v',Hw,hvr⟩:=hw.cell Hv hc;exact ih v v' hvr hw hr
 | @store β ad ov v v' k k' Hv hv _ ih=>
  intro w W w1 hh hw hr;by_cases xF:(∀c,v≠ .agg c)/\ ∀c,v≠ .tuple c
  ·have Ms:(Sem.store .plain ad v k).run Pl w=(match w.cell? ad with
     | some _=>if w.frozen? ad then Result.halt (.unsupported (.unsafePointer "a write to bytes that a string shares")) w else k.run Pl (w.setCell ad v)
     | none=>match w.farStore Pl ad v (Mode.plain==Mode.atomic) with
      | .ok (w,_)=>k.run Pl w
      | .error h=> .halt h w):=by
    cases v <;> first | rfl | exact absurd rfl (xF.1 _) | exact absurd rfl (xF.2 _)
   rw [Ms] at hr;cases hc:w.cell? ad with
   | none=>
    obtain ⟨e,he,hm⟩:=hw.Ym Hv.block Pl v (Mode.plain==Mode.atomic);rw [hc] at hr;simp only [he] at hr;cases hr;exact ⟨hm,id⟩
   | some u=>
    rw [hc] at hr;simp only at hr;cases hf:w.frozen? ad with
    | true=>rw [hf] at hr;cases hr;exact ⟨λg q=>(by cases q),id⟩
    | false=>
     rw [hf] at hr;simp only [qa6,if_false] at hr;obtain ⟨_,hf',Er,hT,hE⟩:=wO hw Hv hv hc hf;exact let ⟨h1,h2⟩:=ih Er hr;⟨h1,λh=>h2 (BT h)⟩
  ·cases v <;> first | (cases hr;exact ⟨trivial,id⟩) | exact (xF ⟨λc q=>(by cases q),λc q=>(by cases q)⟩).elim
 | @new β o o' k k' ho _ ih=>
  intro w W w1 hh hw hr;obtain ⟨Er,hT⟩:=BR hw ho.o ho.no;exact let ⟨h1,h2⟩:=ih _ w.heap.size W.heap.size hT.le (.inr ⟨rfl,rfl⟩) Er hr;⟨h1,λh=>h2 (FA h ho.dw)⟩
 | @shape β r r' k k' hb _ ih=>
  intro w W w1 hh hw hr;exact ih _ hw hr
 | @getObj β r r' k k' hb _ ih=>
  intro w W w1 hh hw hr;obtain ⟨x,x',k1,k2,k3⟩:=hw.obj _ _ hb;simp only [Sem.run,k1] at hr;cases k3 with
  | cells e hc=>cases hr;exact ⟨trivial,id⟩
  | lock e hc=>cases hr;exact ⟨trivial,id⟩
  | @loop l l' hl=>exact ih (.loop l) (.loop l') (.loop hl) hw hr
  | @num ad ov lost ha=>exact ih _ _ (.num lost ha) hw hr
  | DF b=>exact ih _ _ (.DF b) hw hr
 | @setObj β r r' o o' k k' hb ho hn _ ih=>
  intro w W w1 hh hw hr;obtain ⟨x,x',k1,k2,k3⟩:=hw.obj _ _ hb;by_cases hx: ∀c e f,x≠ .cells c e f
  ·have Ms:(Sem.setObj r o k).run Pl w=k.run Pl { w with heap:=w.heap.setIfInBounds r o }:=by
    simp only [Sem.run,k1]
   rw [Ms] at hr;obtain ⟨_,Er,hT⟩:=uJ hw hb ho.o k1 hx hn;exact let ⟨h1,h2⟩:=ih Er hr;⟨h1,λh=>h2 (zf h ho.dw)⟩
  ·cases k3 with
   | cells e hc=>simp only [Sem.run,k1] at hr;cases hr;exact ⟨trivial,id⟩
   | lock e hc=>simp only [Sem.run,k1] at hr;cases hr;exact ⟨trivial,id⟩
   | _=>exact (hx λc e f q=>by cases q).elim
 | @choose β q k k' _ ih=>
  intro w W w1 hh hw hr;simp only [Sem.run] at hr;split at hr
  ·exact ih 0 hw hr
  ·have:=ih _ (hw.draw (w.drawn+1) W.drawn) hr;exact ⟨this.1,λh=>this.2 h⟩
 | program _ ih=>intro w W w1 hh hw hr;exact ih hw hr
 | mark _ ih=>intro w W w1 hh hw hr;exact ih hw hr
 | dead hd=>intro w W w1 hh hw hr;exact ⟨hd.BQ _ _ _ hr,λh=>hd.kp _ _ _ h hr⟩
end Go.Cx
namespace Go.Cx
open Go
variable[bg][aL][bj]
def UH(L:Program)(t:TypeId):Prop:= ∀i v,L.info? t=some i->i.zero=some v->Plain v
def NO(L:Program)(t:TypeId):Prop:= ∀e,L.underlying t=some (.slice e)->UH L e
structure gS(L C:Program):Prop where
 info: ∀t,C.info? t=L.info? t
 und: ∀t,C.underlying t=L.underlying t
 PU:C.types.size=L.types.size
 fns: ∀(f:FuncId) (fn:Func),L.funcs[f]? =some fn->fn.body.isNone=false->bg.uj f/\(fn.name== "runtime.NumGoroutine")=false/\ ∃kl:Func,C.funcs[f]? =some kl/\kl.body.isNone=false/\(kl.name== "runtime.NumGoroutine")=false
 gl:L.globals.size=0
 sih: ∀t,C.stoodInHeld t=L.stoodInHeld t
 cc: ∀(t:TypeId) (i:TypeInfo) (n:TypeId),L.info? t=some i->i.desc≠ .named "sync.copyChecker" n
 cab: ∀e n o k,cellAtBytes C C.depth e (n / C.cellsOf e) o k=cellAtBytes L L.depth e (n / L.cellsOf e) o k
 bof: ∀e off,C.cellsOf e=L.cellsOf e/\byteOfCell C C.depth e off=byteOfCell L L.depth e off/\C.bytesOf e=L.bytesOf e
 mp: ∀(t:TypeId) (i:TypeInfo) (m:Method),L.info? t=some i->m∈i.methods->m.path.toList=[]/\ ∀f b,m.func=some (f,b)->bg.ok f
 nob: ∀(f:FuncId) (fn:Func),L.funcs[f]? =some fn->fn.body.isNone=true-> ∀args,aX L (callFunc f args)
section
variable{L C:Program}{α γ:Type}
omit [bg] [aL] [bj] in
theorem aX.halt{h:Halt}(hm:Kl h:=by first | exact trivial | (intro g q;cases q)):aX L (.halt h:Sem α):=⟨λ_ _ _ q=>(by cases q),λ_ _ _ q=>(by cases q;exact hm),λ_ _ _ hd q=>(by cases q;exact hd)⟩
def Kp(L:Program){α:Type}(s:Sem α):Prop:= ∀w,Dw w->(∀a w1,s.run L w= .ok a w1->Dw w1)/\ ∀h w1,s.run L w= .halt h w1->Dw w1
class nO(L:Program){α:Type}(s:Sem α):Prop where
 out:Mld L s
 kp:Kp L s
instance(a:α):nO L (pure a:Sem α):=⟨λw h w1 q=>(by cases q),λw hd=>⟨λa w1 q=>(by cases q;exact hd),λh w1 q=>(by cases q)⟩⟩
instance:nO L program:=⟨λw h w1 q=>(by cases q),λw hd=>⟨λa w1 q=>(by cases q;exact hd),λh w1 q=>(by cases q)⟩⟩
instance fT(s:Sem α)(f:α->Sem γ)[h1:nO L s][h2: ∀x,nO L (f x)]:nO L (s >>= f):=⟨λw h w1 q=>by
 rw [Sem.run_bind] at q;cases hs:s.run L w with
 | ok x w'=>rw [hs] at q;exact (h2 x).out _ _ _ q
 | halt hh w'=>rw [hs] at q;cases q;exact h1.out _ _ _ hs,λw hd=>by
 constructor
 ·intro a w1 q;rw [Sem.run_bind] at q;cases hs:s.run L w with
  | ok x w'=>rw [hs] at q;exact ((h2 x).kp w' ((h1.kp w hd).1 _ _ hs)).1 _ _ q
  | halt hh w'=>rw [hs] at q;cases q
 ·intro h w1 q;rw [Sem.run_bind] at q;cases hs:s.run L w with
  | ok x w'=>rw [hs] at q;exact ((h2 x).kp w' ((h1.kp w hd).1 _ _ hs)).2 _ _ q
  | halt hh w'=>rw [hs] at q;cases q;exact (h1.kp w hd).2 _ _ hs⟩
omit [bg] [aL] [bj] in
theorem jM{s:Sem α}(h: ∀w,(∃a w1,s.run L w= .ok a w1/\w1.heap=w.heap)\/ ∃x,s.run L w= .halt (.stuck x) w):nO L s:=⟨λw hh w1 q=>by
 rcases h w with ⟨a,w2,h,_⟩ | ⟨x,h⟩
 ·rw [h] at q;cases q
 ·rw [h] at q;cases q;trivial,λw hd=>by
 rcases h w with ⟨a,w2,h,he⟩ | ⟨x,h⟩
 ·constructor
  ·intro a w1 q;rw [h] at q;cases q;intro r ds hr;rw [he] at hr;exact hd r ds hr
  ·intro hh w1 q;rw [h] at q;cases q
 ·constructor
  ·intro a w1 q;rw [h] at q;cases q
  ·intro hh w1 q;rw [h] at q;cases q;exact hd⟩
instance(t:TypeId):nO L (typeInfo t):=jM λw=>by
 unfold typeInfo;rw [Sem.run_bind];change (∃a w1,Result.andThen (.ok L w) _=_/\_)\/ ∃x,Result.andThen (.ok L w) _=_;simp only [Result.andThen_ok];cases hi:L.info? t with
 | none=>exact .inr ⟨_,rfl⟩
 | some i=>exact .inl ⟨_,_,rfl,rfl⟩
instance(q:Question):nO L (choose q):=jM λw=>by
 unfold choose;simp only [Sem.run];split
 ·exact .inl ⟨_,_,rfl,rfl⟩
 ·exact .inl ⟨_,_,rfl,rfl⟩
instance(f:α->γ)(s:Sem α)[h:nO L s]:nO L (f <$> s):=by
 rw [map_eq_pure_bind];infer_instance
instance(s:String):nO L (stuck s:Sem α):=jM λw=> .inr ⟨_,rfl⟩
instance(r:Nat):nO L (shape r):=jM λw=> .inl ⟨_,_,rfl,rfl⟩
instance(m:Mark):nO L (mark m):=jM λw=> .inl ⟨_,_,rfl,rfl⟩
instance(r:Nat):nO L (getObj r):=jM λw=>by
 unfold getObj;simp only [Sem.run];split
 ·exact .inr ⟨_,rfl⟩
 ·exact .inl ⟨_,_,rfl,rfl⟩
 ·exact .inr ⟨_,rfl⟩
instance(t:TypeId)(cs:Array Value):nO L (newRow t cs):=⟨λw h w1 q=>(by cases q),λw hd=>⟨λa w1 q=>(by cases q;exact FA hd λds q=>(by cases q)),λh w1 q=>(by cases q)⟩⟩
instance(t:TypeId)(v:Value):nO L (newVar t v):=by unfold newVar;infer_instance
instance(t:TypeId):nO L (underlying t):=jM λw=>by
 unfold underlying;rw [Sem.run_bind];change (∃a w1,Result.andThen (.ok L w) _=_/\_)\/ ∃x,Result.andThen (.ok L w) _=_;simp only [Result.andThen_ok];split
 ·exact .inl ⟨_,_,rfl,rfl⟩
 ·exact .inr ⟨_,rfl⟩
instance(t:TypeId):nO L (elemOf t):=by
 unfold elemOf;refine @fT _ _ _ _ _ _ λd=> ?_;split <;> infer_instance
instance(r:Nat):nO L (numberAt r):=by
 unfold numberAt;refine @fT _ _ _ _ _ _ λd=> ?_;split
 ·infer_instance
 ·refine @fT _ _ _ _ _ _ λd=> ?_;split <;> infer_instance
instance(a:Addr):nO L (behindNumber a):=by unfold behindNumber;infer_instance
omit [bg] [aL] [bj] in
theorem aX.bind{s:Sem α}{f:α->Sem γ}[hm:nO L s](h: ∀x,aX L (f x)):aX L (s >>= f):=by
 refine ⟨λw a w1 q=> ?_,λw hh w1 q=> ?_,λw hh w1 hd q=> ?_⟩
 ·rw [Sem.run_bind] at q;cases hs:s.run L w with
  | ok x w'=>rw [hs] at q;exact (h x).no _ _ _ q
  | halt hh w'=>rw [hs] at q;cases q
 ·rw [Sem.run_bind] at q;cases hs:s.run L w with
  | ok x w'=>rw [hs] at q;exact (h x).BQ _ _ _ q
  | halt hh w'=>rw [hs] at q;cases q;exact hm.out _ _ _ hs
 ·rw [Sem.run_bind] at q;cases hs:s.run L w with
  | ok x w'=>rw [hs] at q;exact (h x).kp _ _ _ ((hm.kp w hd).1 _ _ hs) q
  | halt hh w'=>rw [hs] at q;cases q;exact (hm.kp w hd).2 _ _ hs
omit [bg] [aL] [bj] in
theorem bC{e:RuntimeError}:aX L (runtimePanic e:Sem α):=by
 unfold runtimePanic;refine aX.bind λp=> ?_;cases e
 case typeAssertion=>exact aX.bind λ_=>aX.bind λ_=>aX.halt
 case panicNil=>exact aX.bind λ_=>aX.bind λ_=>aX.halt
 all_goals exact aX.halt
omit [bg] [aL] [bj] in
theorem aX.prog{f:Program->Sem α}(h:aX L (f L)):aX L (program >>= f):=⟨λw a w1 q=>h.no w a w1 q,λw hh w1 q=>h.BQ w hh w1 q,λw hh w1 hd q=>h.kp w hh w1 hd q⟩
omit [bg] [aL] [bj] in
theorem Qi(t:TypeId)(f:TypeInfo->Sem α)(w:World):(typeInfo t >>= f).run L w=match L.info? t with | none=>(typeInfo t >>= f).run L w | some i=>(f i).run L w:=by
 cases hi:L.info? t with
 | none=>rfl
 | some i=>
  rw [Sem.run_bind];unfold typeInfo;rw [Sem.run_bind];change Result.andThen (Result.andThen (.ok L w) _) _=_;simp only [Result.andThen_ok,hi]
  rfl
omit [bg] [aL] [bj] in
theorem aX.info{t:TypeId}{f:TypeInfo->Sem α}(h: ∀i,L.info? t=some i->aX L (f i)):aX L (typeInfo t >>= f):=by
 cases hi:L.info? t with
 | none=>
  refine aX.fo ⟨λw a w1 q=> ?_,(inferInstance:nO L (typeInfo t)).out,λw h w1 hd q=>((inferInstance:nO L (typeInfo t)).kp w hd).2 _ _ q⟩;unfold typeInfo at q;rw [Sem.run_bind] at q;change Result.andThen (.ok L w) _=_ at q;simp only [Result.andThen_ok,hi] at q;cases q
 | some i=>
  have hr: ∀w,(typeInfo t >>= f).run L w=(f i).run L w:=λw=>by rw [Qi,hi]
  exact ⟨λw a w1 q=>(h i hi).no w a w1 (hr w▸q),λw hh w1 q=>(h i hi).BQ w hh w1 (hr w▸q),λw hh w1 hd q=>(h i hi).kp w hh w1 hd (hr w▸q)⟩
omit [bg] [aL] [bj] in
theorem mM{k:IntKind}{x y:Int}{c:BoundsCode}:aX L (boundsPanic k x y c:Sem α):=by
 unfold boundsPanic;simp only;split
 ·exact aX.bind λ_=>bC
 ·exact aX.bind λ_=>bC
variable{RA RB:Bj->α->α->Prop}{β:Bj}
theorem ar{h:Halt}{t:Sem α}(hm:Kl h:=by first | exact trivial | (intro g q;cases q)):aH L C RA β (.halt h) t:= .dead (aX.halt hm)
theorem aX.rel{s t:Sem α}(h:aX L s):aH L C RA β s t:= .dead h
theorem aH.bd{RG:Bj->γ->γ->Prop}{s t:Sem α}{f g:α->Sem γ}(h:aH L C RA β s t)(k: ∀cq a a',Le β cq->RA cq a a'->aH L C RG cq (f a) (g a')):aH L C RG β (s >>= f) (t >>= g):=aH.bind h k
def iB{α:Type}(P:α->Prop):Bj->α->α->Prop:=λ_ a a'=>a=a'/\P a
section
variable(H:gS L C)
include H
theorem lR(t:TypeId):aH L C (iB λi=>L.info? t=some i) β (typeInfo t) (typeInfo t):=by
 unfold typeInfo;refine .program ?_;show aH L C _ β (match L.info? t with | some i=>pure i | none=>stuck "no such type") (match C.info? t with | some i=>pure i | none=>stuck "no such type");rw [H.info];generalize h:L.info? t=o;cases o with
 | none=>exact ar
 | some i=>exact .pure ⟨rfl,rfl⟩
theorem im(t:TypeId):aH L C (iB λi=>L.underlying t=some i) β (underlying t) (underlying t):=by
 unfold underlying;refine .program ?_;show aH L C _ β (match L.underlying t with | some i=>pure i | none=>stuck "no such type") (match C.underlying t with | some i=>pure i | none=>stuck "no such type");rw [H.und];generalize h:L.underlying t=o;cases o with
 | none=>exact ar
 | some i=>exact .pure ⟨rfl,rfl⟩
theorem Km(t:TypeId)(J4:UH L t):aH L C ay β (zeroValue t) (zeroValue t):=by
 unfold zeroValue;refine (lR H t).bd ?_;rintro cq i _ hl ⟨rfl,hi⟩;cases hz:i.zero with
 | none=>exact ar
 | some v=>exact .pure (J4 i v hi hz).rel
theorem gT(t:TypeId):aH L C (iB λ_=>True) β (sizeOf t) (sizeOf t):=by
 unfold sizeOf;refine (lR H t).bd ?_;rintro cq i _ hl ⟨rfl,hi⟩;exact .pure ⟨rfl,trivial⟩
theorem Mt(t:TypeId):aH L C (iB λ_=>True) β (isAgg t) (isAgg t):=by
 unfold isAgg;refine (im H t).bd ?_;rintro cq i _ hl ⟨rfl,hi⟩;cases i <;> exact .pure ⟨rfl,trivial⟩
omit H in
theorem Qj{a a':Addr}(h:jD β a a'):aH L C ay β (load a) (load a'):= .load h λ_ _ hv=> .pure hv
omit H in
theorem Vf{a a':Addr}{v v':Value}(h:jD β a a')(hv:ay β v v'):aH L C (iB λ_=>True) β (store a v) (store a' v'):= .store h hv (.pure ⟨rfl,trivial⟩)
omit H in
theorem tV{a a':Addr}: ∀(n i:Nat) (acc Vg:Array Value) {β:Bj},jD β a a'->aM β acc Vg->aH L C aM β (loadCellsFrom a i n acc) (loadCellsFrom a' i n Vg)
 | 0,i,acc,Vg,β,h,k=> .pure k
 | n+1,i,acc,Vg,β,h,k=>by
  unfold loadCellsFrom;refine (Qj (h.add i)).bd ?_;intro cq v v' hl hv;exact tV n (i+1) _ _ (h.mono hl) ((k.mono hl).push hv)
omit H in
theorem Aq{a a':Addr}(h:jD β a a')(n:Nat):aH L C aM β (loadCells a n) (loadCells a' n):=tV n 0 _ _ h aM.empty
inductive pd(β:Bj):List Value->List Value->Prop
 | nil:pd β [] []
 | cons {v v':Value} {l l':List Value}:ay β v v'->pd β l l'->pd β (v::l) (v'::l')
omit H in
omit [aL] in
theorem pd.mono{β γ:Bj}(l:Le β γ){x x':List Value}(h:pd β x x'):pd γ x x':=by
 induction h with
 | nil=>exact .nil
 | cons hv _ ih=>exact .cons (hv.mono l) ih
omit H in
omit [aL] in
theorem aM.list{x x':Array Value}(h:aM β x x'):pd β x.toList x'.toList:=by
 obtain ⟨h1,h2⟩:=h;obtain ⟨x⟩:=x;obtain ⟨x'⟩:=x';simp only [qbn] at h1;simp only [qaq] at h2;show pd β x x'
 induction x generalizing x' with
 | nil=>cases x' with
  | nil=>exact .nil
  | cons=>simp at h1
 | cons v l ih=>cases x' with
  | nil=>simp at h1
  | cons v' l'=>exact .cons (h2 0 v v' rfl rfl) (ih l' (by simpa using h1) λi u u' a b=>h2 (i+1) u u' a b)
omit H in
theorem py{a a':Addr}: ∀{vs vs':List Value} (i:Nat) {β:Bj},jD β a a'->pd β vs vs'->aH L C (iB λ_=>True) β (storeCells a vs i) (storeCells a' vs' i)
 | _,_,i,β,h, .nil=> .pure ⟨rfl,trivial⟩
 | _,_,i,β,h, .cons hv hl=>by
  unfold storeCells;refine (Vf (h.add i) hv).bd ?_;intro cq u u' hle _;exact py (i+1) (h.mono hle) (hl.mono hle)
theorem vA(t:TypeId){a a':Addr}(h:jD β a a'):aH L C ay β (loadVar t a) (loadVar t a'):=by
 unfold loadVar;refine (Mt H t).bd ?_;rintro cq b _ hl ⟨rfl, -⟩;cases b with
 | true=>
  simp only [if_true];refine (gT H t).bd ?_;rintro jg n _ dB ⟨rfl, -⟩;refine (Aq ((h.mono hl).mono dB) n).bd ?_;intro rA c c' jN hc;exact .pure hc.Fv
 | false=>exact Qj (h.mono hl)
theorem Ko(t:TypeId){a a':Addr}{v v':Value}(h:jD β a a')(hv:ay β v v'):aH L C (iB λ_=>True) β (storeVar t a v) (storeVar t a' v'):=by
 unfold storeVar;refine (gT H t).bd ?_;rintro cq n _ hl ⟨rfl, -⟩;have hc:=hv.cells;rw [←hc.1];split
 ·exact (aX.fo aX.halt).rel
 ·exact py 0 (h.mono hl) (hc.mono hl).list
omit H in
theorem xG(e:TypeId){c c':Array Value}(h:aM β c c'):aH L C jD β (newRow e c) (newRow e c'):=by
 unfold newRow newObj;exact .new (.cells e h) λγ r r' hl hr=> .pure ⟨hr,rfl,rfl⟩
omit H in
theorem HH(t:TypeId){v v':Value}(h:ay β v v'):aH L C jD β (newVar t v) (newVar t v'):=xG t h.cells
omit H in
theorem vB{v v':Value}(h:ay β v v'):aH L C (iB λx=>v= .int x.1 x.2) β (asIntOf v) (asIntOf v'):=by
 cases h with
 | int k n=>exact .pure ⟨rfl,rfl⟩
 | ptr h=>exact ar
 | _=>exact ar
omit H in
theorem tj{v v':Value}(h:ay β v v'):aH L C (iB λ_=>True) β (asInt v) (asInt v'):=by
 unfold asInt;refine (vB h).bd ?_;rintro cq x _ hl ⟨rfl, -⟩;exact .pure ⟨rfl,trivial⟩
omit H in
theorem Qk{v v':Value}(h:ay β v v'):aH L C (iB λ_=>True) β (asBool v) (asBool v'):=by
 cases h with
 | bool b=>exact .pure ⟨rfl,trivial⟩
 | _=>exact ar
omit H in
theorem pY{v v':Value}(h:ay β v v'):aH L C jD β (Instr.sureAddr v) (Instr.sureAddr v'):=by
 cases h with
 | ptr h=>exact .pure h
 | _=>exact ar
omit H in
theorem xH{v v':Value}(h:ay β v v'):aH L C jD β (asAddr v) (asAddr v'):=by
 cases h with
 | ptr h=>exact .pure h
 | px=>
  show aH L C jD β (runtimePanic .nilDeref) _;exact bC.rel
 | _=>exact ar
end
end
end Go.Cx
namespace Go.Cx
open Go
variable[bg][aL][bj]
section
variable{L C:Program}{β:Bj}(H:gS L C)
include H
theorem Vh(e:TypeId)(J4:UH L e):aH L C ay β (Instr.alloc e true (.tuple #[])) (Instr.alloc e true (.tuple #[])):=by
 unfold Instr.alloc;refine (Km H e J4).bd ?_;intro cq v v' hl hv;refine (HH e hv).bd ?_;intro jg a a' dB ha;exact .pure (.ptr ha)
omit H in
theorem ace(e:TypeId){v v':Value}(hv:ay β v v'):aH L C ay β (Instr.box e v) (Instr.box e v'):=by
 unfold Instr.box;refine (HH e hv).bd ?_;intro jg a a' dB ha;exact .pure (.ptr ha)
theorem Ql(t:TypeId){v v':Value}(hv:ay β v v'):aH L C ay β (Instr.loadAt t v) (Instr.loadAt t v'):=by
 unfold Instr.loadAt;refine (pY hv).bd ?_;intro jg a a' dB ha;exact vA H t ha
theorem NP(t:TypeId){v v' u u':Value}(hv:ay β v v')(hu:ay β u u'):aH L C (iB λ_=>True) β (Instr.storeAt t v u) (Instr.storeAt t v' u'):=by
 unfold Instr.storeAt;refine (pY hv).bd ?_;intro jg a a' dB ha;exact Ko H t ha (hu.mono dB)
omit H in
theorem NQ(i:Nat){v v':Value}(hv:ay β v v'):aH L C ay β (Instr.extract v i) (Instr.extract v' i):=by
 cases hv with
 | @tuple x x' h k=>
  unfold Instr.extract;simp only;cases hx:x[i]? with
  | none=>exact ar
  | some u=>
   obtain ⟨u',h1,h2⟩:=aM.get ⟨h,k⟩ hx;rw [h1];exact .pure h2
 | _=>exact ar
omit H in
theorem Kq{f f':Fn}{x x' y y':Array Value}(hf:DO β f f')(hx:aM β x x')(hy:aM β y y'):aH L C ay β (Instr.makeFunc f x y) (Instr.makeFunc f' x' y'):= .pure (.func hf hx.1 hy.1 hx.2 hy.2)
theorem AO(t:TypeId){v v':Value}(hv:ay β v v'):aH L C ay β (Instr.makeInterface t v) (Instr.makeInterface t v'):=by
 unfold Instr.makeInterface;refine (im H t).bd ?_;rintro cq d _ hl ⟨rfl, -⟩;cases d <;> first | exact ar | exact .pure (.iface t (hv.mono hl))
theorem Kr(t:TypeId){x x':Array Value}(hx:aM β x x')(o:Nat):aH L C ay β (part t x o) (part t x' o):=by
 unfold part;refine (Mt H t).bd ?_;rintro cq b _ hl ⟨rfl, -⟩;cases b with
 | true=>
  simp only [if_true];refine (gT H t).bd ?_;rintro jg n _ dB ⟨rfl, -⟩;exact .pure (((hx.mono hl).mono dB).extract _ _).Fv
 | false=>
  simp only [qa6,if_false];cases hv:x[o]? with
  | none=>exact ar
  | some u=>
   obtain ⟨u',h1,h2⟩:=(hx.mono hl).get hv;rw [h1];exact .pure h2
theorem Vi(t:TypeId){v v' u u':Value}(hv:ay β v v')(hu:ay β u u'):aH L C ay β (Instr.index t v u) (Instr.index t v' u'):=by
 unfold Instr.index;refine (vB hu).bd ?_;rintro cq ⟨k,i⟩ _ hl ⟨rfl, -⟩;refine (im H t).bd ?_;rintro jg d _ dB ⟨rfl, -⟩;have wP:=(hv.mono hl).mono dB;cases d
 case array n e=>
  cases wP with
  | agg h hk=>
   simp only;split
   ·refine (gT H e).bd ?_;rintro rA m _ jN ⟨rfl, -⟩;exact Kr H e (aM.mono jN ⟨h,hk⟩) _
   ·exact mM.rel
  | _=>exact ar
 case string=>
  cases wP with
  | string s=>
   simp only;split
   ·exact .pure (.int _ _)
   ·exact mM.rel
  | _=>exact ar
 all_goals (cases wP <;> exact ar)
theorem NR(t:TypeId){v v' u u':Value}(hv:ay β v v')(hu:ay β u u'):aH L C ay β (Instr.indexAt t v u) (Instr.indexAt t v' u'):=by
 unfold Instr.indexAt;refine (vB hu).bd ?_;rintro cq ⟨k,i⟩ _ hl ⟨rfl, -⟩;simp only;refine (im H t).bd ?_;rintro jg d _ dB ⟨rfl, -⟩;have wP:=(hv.mono hl).mono dB;cases d
 case array n e=>
  refine (pY wP).bd ?_;intro rA a a' jN ha;refine aH.bd (RA:=λβ (x x':Option Addr×Nat×TypeId)=>x=(some a,n,e)/\x'=(some a',n,e)/\jD β a a') (.pure ⟨rfl,rfl,ha⟩) ?_;rintro wa _ _ qW ⟨rfl,rfl,ha4⟩;refine (im H t).bd ?_;rintro Mv d _ BU ⟨rfl, -⟩;simp only;split
  ·refine (gT H e).bd ?_;rintro PV m _ DR ⟨rfl, -⟩;exact .pure (.ptr (((ha4.mono BU).mono DR).add _))
  ·split <;> split <;> first | exact ar | exact mM.rel
 case slice e=>
  cases wP with
  | kT n c=>
   refine aH.bd (RA:=λβ (x x':Option Addr×Nat×TypeId)=>x=(none,n,e)/\x'=(none,n,e)) (.pure ⟨rfl,rfl⟩) ?_;rintro wa _ _ qW ⟨rfl,rfl⟩;refine (im H t).bd ?_;rintro Mv d _ BU ⟨rfl, -⟩;exact mM.rel
  | @slice a a' n c ha=>
   refine aH.bd (RA:=λβ (x x':Option Addr×Nat×TypeId)=>x=(some a,n,e)/\x'=(some a',n,e)/\jD β a a') (.pure ⟨rfl,rfl,ha⟩) ?_;rintro wa _ _ qW ⟨rfl,rfl,ha4⟩;refine (im H t).bd ?_;rintro Mv d _ BU ⟨rfl, -⟩;simp only;split
   ·refine (gT H e).bd ?_;rintro PV m _ DR ⟨rfl, -⟩;exact .pure (.ptr (((ha4.mono BU).mono DR).add _))
   ·split <;> split <;> first | exact ar | exact mM.rel
  | _=>exact (aX.fo aX.halt).rel
 all_goals (cases wP <;> exact (aX.fo aX.halt).rel)
omit H in
theorem pB{v v':Value}(hv:ay β v v')(y:Nat)(c:BoundsCode):aH L C (iB λ_=>True) β (Instr.sliceBound v y c) (Instr.sliceBound v' y c):=by
 unfold Instr.sliceBound;refine (vB hv).bd ?_;rintro cq ⟨k,i⟩ _ hl ⟨rfl, -⟩;simp only;split
 ·exact .pure ⟨rfl,trivial⟩
 ·exact mM.rel
inductive pg(β:Bj):Option Value->Option Value->Prop
 | none:pg β none none
 | some {v v':Value}:ay β v v'->pg β (some v) (some v')
omit H in
omit [aL] in
theorem pg.mono{γ:Bj}(l:Le β γ){x x':Option Value}(h:pg β x x'):pg γ x x':=by
 cases h with
 | none=>exact .none
 | some h=>exact .some (h.mono l)
omit H in
theorem Zw{lo pZ:Option Value}(qX:pg β lo pZ)(h m:Nat)(c:BoundsCode):aH L C (iB λ_=>True) β (lo.elim (do let l←pure 0;pure (l,h,m)) (λv=>do let l←Instr.sliceBound v h c;pure (l,h,m)):Sem (Nat×Nat×Nat)) (pZ.elim (do let l←pure 0;pure (l,h,m)) (λv=>do let l←Instr.sliceBound v h c;pure (l,h,m))):=by
 cases qX with
 | none=>exact .pure ⟨rfl,trivial⟩
 | some hv=>
  refine (pB hv _ _).bd ?_;rintro rA l _ jN ⟨rfl, -⟩;exact .pure ⟨rfl,trivial⟩
omit H in
theorem ma(b:Bool)(len cap:Nat){lo pZ hi gz mx Vj:Option Value}(qX:pg β lo pZ)(UI:pg β hi gz)(Qm:pg β mx Vj):aH L C (iB λ_=>True) β (Instr.sliceBounds b len cap lo hi mx) (Instr.sliceBounds b len cap pZ gz Vj):=by
 unfold Instr.sliceBounds;cases Qm with
 | none=>
  refine aH.bd (RA:=iB λ_=>True) (.pure ⟨rfl,trivial⟩) ?_;rintro rR m _ wQ ⟨rfl, -⟩;cases UI with
  | none=>
   have:=Zw (L:=L) (C:=C) (qX.mono wQ) len m .sliceB;cases qX <;> exact this
  | some hv=>
   refine (pB (hv.mono wQ) _ _).bd ?_;rintro jg h _ dB ⟨rfl, -⟩;have:=Zw (L:=L) (C:=C) ((qX.mono wQ).mono dB) h m .sliceB;cases qX <;> exact this
 | some hm=>
  refine (pB hm _ _).bd ?_;rintro rR m _ wQ ⟨rfl, -⟩;cases UI with
  | none=>exact (aX.fo aX.halt).rel
  | some hv=>
   refine (pB (hv.mono wQ) _ _).bd ?_;rintro jg h _ dB ⟨rfl, -⟩;have:=Zw (L:=L) (C:=C) ((qX.mono wQ).mono dB) h m .slice3C;cases qX <;> exact this
theorem Vk(t:TypeId){v v':Value}(hv:ay β v v'){lo pZ hi gz mx Vj:Option Value}(qX:pg β lo pZ)(UI:pg β hi gz)(Qm:pg β mx Vj):aH L C ay β (Instr.slice t v lo hi mx) (Instr.slice t v' pZ gz Vj):=by
 unfold Instr.slice;refine (im H t).bd ?_;rintro jg d _ dB ⟨rfl, -⟩;have wP:=hv.mono dB;cases d
 case slice e=>
  cases wP with
  | kT n c=>
   refine (ma true n c (qX.mono dB) (UI.mono dB) (Qm.mono dB)).bd ?_;rintro rA ⟨l,h,m⟩ _ jN ⟨rfl, -⟩;refine (gT H e).bd ?_;rintro wa z _ qW ⟨rfl, -⟩;simp only [Option.map_none,ite_self];exact .pure (.kT _ _)
  | slice n c ha=>
   refine (ma true n c (qX.mono dB) (UI.mono dB) (Qm.mono dB)).bd ?_;rintro rA ⟨l,h,m⟩ _ jN ⟨rfl, -⟩;refine (gT H e).bd ?_;rintro wa z _ qW ⟨rfl, -⟩;have ha4:=(ha.mono jN).mono qW;simp only [qac];split
   ·exact .pure (.slice _ _ ha4)
   ·exact .pure (.slice _ _ (ha4.add _))
  | _=>exact ar
 case string=>
  cases wP with
  | string s=>
   cases Qm with
   | some _=>exact (aX.fo aX.halt).rel
   | none=>
   simp only [qbp,qa6,if_false];refine (ma false _ _ (qX.mono dB) (UI.mono dB) .none).bd ?_;rintro rA ⟨l,h,m⟩ _ jN ⟨rfl, -⟩;exact .pure (.string _)
  | _=>exact ar
 case pointer arr=>
  have key:aH L C ay jg (do
    let a←asAddr v
    let .array n elem←underlying arr | stuck "Slice: array type expected"
    let (l,h,m)←Instr.sliceBounds false n n lo hi mx
    let size←sizeOf elem
    pure (.slice (some (if m=l then a else a.add (l*size))) (h - l) (m - l)):Sem Value) (do
    let a←asAddr v'
    let .array n elem←underlying arr | stuck "Slice: array type expected"
    let (l,h,m)←Instr.sliceBounds false n n pZ gz Vj
    let size←sizeOf elem
    pure (.slice (some (if m=l then a else a.add (l*size))) (h - l) (m - l))):=by
   refine (xH wP).bd ?_;intro rA a a' jN ha;refine (im H arr).bd ?_;rintro wa d _ qW ⟨rfl, -⟩;cases d
   case array n e=>
    refine (ma false n n (((qX.mono dB).mono jN).mono qW) (((UI.mono dB).mono jN).mono qW) (((Qm.mono dB).mono jN).mono qW)).bd ?_;rintro Mv ⟨l,h,m⟩ _ BU ⟨rfl, -⟩;refine (gT H e).bd ?_;rintro PV z _ DR ⟨rfl, -⟩;have ha6:=((ha.mono qW).mono BU).mono DR
    skip
    split
    ·exact .pure (.slice _ _ ha6)
    ·exact .pure (.slice _ _ (ha6.add _))
   all_goals exact ar
  cases wP <;> exact key
 all_goals (cases wP <;> exact ar)
theorem NS(t:TypeId){v v':Value}(hv:ay β v v'){lo pZ hi gz mx Vj:Option Value}(qX:pg β lo pZ)(UI:pg β hi gz)(Qm:pg β mx Vj):aH L C ay β (Instr.sliceAt t v lo hi mx) (Instr.sliceAt t v' pZ gz Vj):=by
 unfold Instr.sliceAt;refine (im H t).bd ?_;rintro jg d _ dB ⟨rfl, -⟩;cases d
 case array n e=>
  refine (pY (hv.mono dB)).bd ?_;intro rA a a' jN ha;refine (ma false n n ((qX.mono dB).mono jN) ((UI.mono dB).mono jN) ((Qm.mono dB).mono jN)).bd ?_;rintro wa ⟨l,h,m⟩ _ qW ⟨rfl, -⟩;refine (gT H e).bd ?_;rintro Mv z _ BU ⟨rfl, -⟩;have ha5:=(ha.mono qW).mono BU
  skip
  split
  ·exact .pure (.slice _ _ ha5)
  ·exact .pure (.slice _ _ (ha5.add _))
 all_goals exact Vk H t (hv.mono dB) (qX.mono dB) (UI.mono dB) (Qm.mono dB)
theorem NT(t:TypeId){v v':Value}(hv:ay β v v'):aH L C ay β (Instr.arrayAt t v) (Instr.arrayAt t v'):=by
 unfold Instr.arrayAt;refine (im H t).bd ?_;rintro jg d _ dB ⟨rfl, -⟩;cases d
 case array n e=>
  cases hv.mono dB with
  | kT l c=>
   simp only;split
   ·exact bC.rel
   ·exact .pure .px
  | slice l c ha=>
   simp only;split
   ·exact bC.rel
   ·exact .pure (.ptr ha)
  | _=>exact ar
 all_goals exact ar
end
end Go.Cx
namespace Go.Cx
open Go
variable[bg][aL][bj]
section
variable{L C:Program}{β:Bj}(H:gS L C)
include H
omit H in
omit [aL] in
theorem HI{β:Bj}{c c':Array Value}(h:aM β c c')(off:Nat): ∀(k:Nat) {x x':List Value} {z z':Array Value},pd β x x'->aM β z z'->
  aM β ((x.zipIdx k).foldl (λcs (c,j)=>cs.setIfInBounds (off+j) c) z) ((x'.zipIdx k).foldl (λcs (c,j)=>cs.setIfInBounds (off+j) c) z')
 | k,_,_,z,z', .nil,hz=>hz
 | k,_,_,z,z', .cons hv hl,hz=>by
  simp only [List.zipIdx_cons,List.foldl_cons];exact HI h off (k+1) hl (hz.set hv _)
inductive wz(β:Bj):List (Nat×Value)->List (Nat×Value)->Prop
 | nil:wz β [] []
 | cons (i:Nat) {v v':Value} {l l':List (Nat×Value)}:ay β v v'->wz β l l'->wz β ((i,v)::l) ((i,v')::l')
omit H in
omit [aL] in
theorem wz.mono{γ:Bj}(l:Le β γ){x x':List (Nat×Value)}(h:wz β x x'):wz γ x x':=by
 induction h with
 | nil=>exact .nil
 | cons i hv _ ih=>exact .cons i (hv.mono l) ih
omit H in
omit [aL] in
theorem xI{place:Nat->Option (Nat×Nat)}: ∀{l l':List (Nat×Value)} {z z':Array Value},wz β l l'->aM β z z'->
  (Instr.fill place z l=none/\Instr.fill place z' l'=none)\/ ∃c c',Instr.fill place z l=some c/\Instr.fill place z' l'=some c'/\aM β c c'
 | _,_,z,z', .nil,hz=> .inr ⟨z,z',rfl,rfl,hz⟩
 | _,_,z,z', .cons i hv hl,hz=>by
  unfold Instr.fill;cases place i with
  | none=>exact .inl ⟨rfl,rfl⟩
  | some p=>
   obtain ⟨off,size⟩:=p;have hc:=hv.cells;simp only [←hc.1, ←hz.1];split
   ·exact .inl ⟨rfl,rfl⟩
   ·refine xI hl ?_;have:=HI hc off 0 hc.list hz;have e: ∀(a y:Array Value),a.zipIdx.foldl (λcs (x:Value×Nat)=>cs.setIfInBounds (off+x.2) x.1) y=(a.toList.zipIdx 0).foldl (λcs (x:Value×Nat)=>cs.setIfInBounds (off+x.2) x.1) y:=λa y=>by rw [←Array.foldl_toList,Array.toList_zipIdx]
    exact (e _ z).symm▸(e _ z').symm▸this
omit H in
theorem uK{s:Sem Value}(h:(∃v,s= .pure v/\Plain v)\/aX L s):aH L C ay β s s:=by
 rcases h with ⟨v,rfl,hp⟩ | h
 ·exact .pure hp.rel
 ·exact h.rel
omit H in
theorem BV(op:BinOp)(k:IntKind)(x y:Int):aH L C ay β (Op.intArith op k x y) (Op.intArith op k x y):=by
 refine uK ?_;unfold Op.intArith;split <;> first | exact .inl ⟨_,rfl, .int _ _⟩ | exact .inr aX.halt
omit H in
theorem Qn(op:BinOp)(k:IntKind)(x y:Int):aH L C ay β (Op.intDiv op k x y) (Op.intDiv op k x y):=by
 refine uK ?_;unfold Op.intDiv;split
 ·exact .inr bC
 ·split <;> first | exact .inl ⟨_,rfl, .int _ _⟩ | exact .inr aX.halt
omit H in
theorem Es(op:BinOp)(k:IntKind)(x y:Int):aH L C ay β (Op.intBits op k x y) (Op.intBits op k x y):=by
 refine uK ?_;unfold Op.intBits;simp only;split <;> first | exact .inl ⟨_,rfl, .int _ _⟩ | exact .inr aX.halt
omit H in
theorem Bo(op:BinOp)(k:IntKind)(x:Int)(yk:IntKind)(y:Int):aH L C ay β (Op.shift op k x yk y) (Op.shift op k x yk y):=by
 refine uK ?_;unfold Op.shift;split
 ·exact .inr bC
 ·simp only;split <;> first | exact .inl ⟨_,rfl, .int _ _⟩ | exact .inr aX.halt
omit H in
theorem Qo(op:BinOp)(x y:Int):aH L C ay β (Op.intCmp op x y) (Op.intCmp op x y):=by
 refine uK ?_;unfold Op.intCmp;split <;> first | exact .inl ⟨_,rfl, .bool _⟩ | exact .inr aX.halt
omit H in
theorem Vm(op:UnOp){v v':Value}(hv:ay β v v'):aH L C ay β (Op.unary op v) (Op.unary op v'):=by
 cases hv with
 | int k n=>
  cases op
  case neg=>
   show aH L C ay β (Op.intArith .sub k 0 n) (Op.intArith .sub k 0 n);exact BV _ _ _ _
  case xor=>
   show aH L C ay β (Op.intBits .xor k (if k.signed then -1 else k.max) n) _;exact Es _ _ _ _
  all_goals exact ar
 | bool b=>
  cases op
  case not=>exact .pure (.bool _)
  all_goals exact ar
 | _=>cases op <;> exact ar
theorem NU(t:TypeId)(i:Nat)(hz: ∀(fs:Array Field) (f:Field) (inf:TypeInfo),L.underlying t=some (.struct fs)->fs[i]? =some f->L.info? f.type=some inf->inf.size≠0){v v':Value}(hv:ay β v v'):aH L C ay β (Instr.fieldAt t v i) (Instr.fieldAt t v' i):=by
 unfold Instr.fieldAt;refine (im H t).bd ?_;rintro jg d _ dB ⟨rfl,hd⟩;cases d
 case struct fs=>
  simp only;cases hf:fs[i]? with
  | none=>exact ar
  | some f=>
   refine (pY (hv.mono dB)).bd ?_;intro rA a a' jN ha;refine aH.bd (RA:=jD) ?_ ?_
   ·unfold fieldPlace sizeOf;simp only [bind_assoc];refine (lR H f.type).bd ?_;rintro wa inf _ qW ⟨rfl,hi⟩;have:=hz fs f inf hd hf hi;simp only [pure_bind,this,if_false];exact .pure ((ha.mono qW).add _)
   ·intro wa b b' qW hb;exact .pure (.ptr hb)
 all_goals exact ar
omit H in
omit [aL] in
theorem tk{z:Array Value}(hz: ∀(i:Nat) (v:Value),z[i]? =some v->Plain v)(n:Nat):aM β ((Array.range n).map (z[· % z.size]!)) ((Array.range n).map (z[· % z.size]!)):=by
 refine aM.map λx _=> ?_;by_cases h:x % z.size<z.size
 ·rw [getElem!_pos z _ h];exact (hz _ _ (Array.getElem?_eq_getElem h)).rel
 ·rw [getElem!_neg z _ h];exact ay.bool false
omit H in
omit [bg] [aL] [bj] in
theorem mN{v u:Value}(h:Plain v){k:Nat}(hu:(#[v]:Array Value)[k]? =some u):Plain u:=by
 cases k with
 | zero=>simp at hu;exact hu▸h
 | succ k=>simp at hu
theorem xJ(t:TypeId)(J4:UH L t):aH L C (iB λv=> ∀(i:Nat) (u:Value),v.cells[i]? =some u->Plain u) β (zeroValue t) (zeroValue t):=by
 unfold zeroValue;refine (lR H t).bd ?_;rintro cq i _ hl ⟨rfl,hi⟩;cases hz:i.zero with
 | none=>exact ar
 | some v=>
  refine .pure ⟨rfl,λk u hu=> ?_⟩;have hp:=J4 i v hi hz;cases hp with
  | agg h=>exact h k u hu
  | bool b=>exact mN (.bool b) hu
  | int a b=>exact mN (.int a b) hu
  | string b=>exact mN (.string b) hu
  | px=>exact mN .px hu
  | kT a b=>exact mN (.kT a b) hu
  | pX=>exact mN .pX hu
  | jb=>exact mN .jb hu
  | tuple h=>exact mN (.tuple h) hu
theorem FC(t:TypeId)(n:Nat)(AP:NO L t){ps ps':Array (Nat×Value)}(hp:wz β ps.toList ps'.toList):aH L C ay β (Instr.buildSlice t n ps) (Instr.buildSlice t n ps'):=by
 unfold Instr.buildSlice;refine (im H t).bd ?_;rintro jg d _ dB ⟨rfl,Ks⟩;cases d
 case slice e=>
  have J4:=AP e Ks;refine (gT H e).bd ?_;rintro rA size _ jN ⟨rfl, -⟩;simp only;split
  ·exact (aX.fo aX.halt).rel
  ·have key: ∀(wa:Bj) (z:Array Value),Le rA wa->(∀(i:Nat) (u:Value),z[i]? =some u->Plain u)->aH L C ay wa (do
     let some cells:=Instr.fill (λi=>some (i*size,size)) ((Array.range (n*size)).map (z[· % z.size]!)) ps.toList
      | stuck "buildSlice: a part of the wrong size"
     pure (.slice (some (←newRow e cells)) n n):Sem Value) (do
     let some cells:=Instr.fill (λi=>some (i*size,size)) ((Array.range (n*size)).map (z[· % z.size]!)) ps'.toList
      | stuck "buildSlice: a part of the wrong size"
     pure (.slice (some (←newRow e cells)) n n)):=by
    intro wa z qW hz;rcases xI (place:=λi=>some (i*size,size)) (((hp.mono dB).mono jN).mono qW) (tk hz (n*size)) with ⟨h1,h2⟩ | ⟨c,c',h1,h2,h3⟩
    ·rw [h1,h2];exact ar
    ·rw [h1,h2];refine (xG e h3).bd ?_;intro Mv a a' BU ha;exact .pure (.slice _ _ ha)
   split
   ·exact key rA #[] (Le.refl _) (λi u hu=>by simp at hu)
   ·refine (xJ H e J4).bd ?_;rintro wa v _ qW ⟨rfl,hz⟩;exact key wa _ qW hz
 all_goals exact ar
end
end Go.Cx
namespace Go.Cx
open Go
variable[bg][aL][bj]
section
variable{L C:Program}{β:Bj}(H:gS L C)
include H
omit H in
theorem Vn{α γ:Type}{f:α->Sem γ}(l:List α)(h: ∀x∈l, ∀β,aH L C (iB λ_=>True) β (f x) (f x)): ∀β,aH L C (iB λ_=>True) β (l.mapM f) (l.mapM f):=by
 induction l with
 | nil=>intro β;rw [List.mapM_nil];exact .pure ⟨rfl,trivial⟩
 | cons x l ih=>
  intro β;rw [List.mapM_cons];refine (h x (by simp) β).bd ?_;rintro jg a _ dB ⟨rfl, -⟩;refine (ih (λy hy=>h y (by simp [hy])) jg).bd ?_;rintro rA b _ jN ⟨rfl, -⟩;exact .pure ⟨rfl,trivial⟩
omit H in
theorem acf{α γ:Type}{RA:Bj->α->α->Prop}{RB:Bj->γ->γ->Prop}{s t:Sem α}{f:α->γ}(h:aH L C RA β s t)(k: ∀cq a a',Le β cq->RA cq a a'->RB cq (f a) (f a')):aH L C RB β (f <$> s) (f <$> t):=by
 rw [map_eq_pure_bind,map_eq_pure_bind];exact h.bd λcq a a' hl ha=> .pure (k cq a a' hl ha)
omit H in
theorem Vo{α γ:Type}{f:α->Sem γ}(xs:Array α)(h: ∀x∈xs, ∀β,aH L C (iB λ_=>True) β (f x) (f x)):aH L C (iB λ_=>True) β (xs.mapM f) (xs.mapM f):=by
 rw [Array.mapM_eq_mapM_toList];refine acf (Vn xs.toList (λx hx=>h x (by simpa using hx)) β) ?_;rintro cq a _ hl ⟨rfl, -⟩;exact ⟨rfl,trivial⟩
theorem Vp(t:TypeId)(J4:UH L t){ps ps':Array (Nat×Value)}(hp:wz β ps.toList ps'.toList):aH L C ay β (Instr.build t ps) (Instr.build t ps'):=by
 unfold Instr.build;refine (Km H t J4).bd ?_;intro rR z z' wQ hz;refine (im H t).bd ?_;rintro jg d _ dB ⟨rfl, -⟩;have hc:=(hz.mono dB).cells;cases d
 case struct fs=>
  refine (Vo fs (λf _ β=> ?_)).bd ?_
  ·refine (gT H f.type).bd ?_;rintro rA n _ jN ⟨rfl, -⟩;exact .pure ⟨rfl,trivial⟩
  ·rintro rA places _ jN ⟨rfl, -⟩;rcases xI (place:=(places[·]?)) (((hp.mono wQ).mono dB).mono jN) (hc.mono jN) with ⟨h1,h2⟩ | ⟨c,c',h1,h2,h3⟩
   ·simp only [h1,h2];exact ar
   ·simp only [h1,h2];exact .pure h3.Fv
 case array n e=>
  refine (gT H e).bd ?_;rintro rA size _ jN ⟨rfl, -⟩;rcases xI (place:=λi=>some (i*size,size)) (((hp.mono wQ).mono dB).mono jN) (hc.mono jN) with ⟨h1,h2⟩ | ⟨c,c',h1,h2,h3⟩
  ·simp only [h1,h2];exact ar
  ·simp only [h1,h2];exact .pure h3.Fv
 all_goals exact ar
omit H in
theorem Et(n:Nat):aH L C (iB λ_=>True) β (askRoom n) (askRoom n):=by
 unfold askRoom;split
 ·exact .mark (.pure ⟨rfl,trivial⟩)
 ·exact .pure ⟨rfl,trivial⟩
theorem HJ(t:TypeId)(AP:NO L t){n n' c c':Value}(hn:ay β n n')(hc:ay β c c'):aH L C ay β (Instr.makeSlice t n c) (Instr.makeSlice t n' c'):=by
 unfold Instr.makeSlice;refine (im H t).bd ?_;rintro rR d _ wQ ⟨rfl,Ks⟩;cases d
 case slice e=>
  have J4:=AP e Ks;refine (tj (hn.mono wQ)).bd ?_;rintro jg n _ dB ⟨rfl, -⟩;refine (tj ((hc.mono wQ).mono dB)).bd ?_;rintro rA c _ jN ⟨rfl, -⟩;refine (lR H e).bd ?_;rintro wa inf _ qW ⟨rfl, -⟩;simp only;split
  ·refine aX.rel ?_;split
   ·exact aX.fo bC
   ·split
    ·exact aX.fo bC
    ·exact aX.bind λ_=>(by first | exact bC | exact aX.fo bC)
  ·refine (Et _).bd ?_;rintro Mv _ _ BU -;refine (gT H e).bd ?_;rintro PV size _ DR ⟨rfl, -⟩;have key: ∀(β7:Bj) (z:Array Value),(∀(i:Nat) (u:Value),z[i]? =some u->Plain u)->aH L C ay β7 (do
     let a←newRow e ((Array.range ((IntKind.i64.wrap c).toNat*size)).map (z[· % z.size]!))
     pure (.slice (some a) (IntKind.i64.wrap n).toNat (IntKind.i64.wrap c).toNat):Sem Value) (do
     let a←newRow e ((Array.range ((IntKind.i64.wrap c).toNat*size)).map (z[· % z.size]!))
     pure (.slice (some a) (IntKind.i64.wrap n).toNat (IntKind.i64.wrap c).toNat)):=by
    intro β7 z hz;refine (xG e (tk hz _)).bd ?_;intro β8 a a' hl8 ha;exact .pure (.slice _ _ ha)
   split
   ·exact key _ #[] (λi u hu=>by simp at hu)
   ·refine (xJ H e J4).bd ?_;rintro β7 z _ hl7 ⟨rfl,hz⟩;exact key _ _ hz
 all_goals exact ar
omit H in
theorem NV(src dst:TypeId)(H:gS L C){v v':Value}(hv:ay β v v')(hs: ∃k,L.underlying src=some (.int k))(hd: ∃k,L.underlying dst=some (.int k)):aH L C ay β (convert src dst v) (convert src dst v'):=by
 unfold convert;obtain ⟨ks,hs⟩:=hs;obtain ⟨kd,hd⟩:=hd;refine (im H src).bd ?_;rintro rR ds _ wQ ⟨rfl,h1⟩;rw [hs] at h1;cases h1;refine (im H dst).bd ?_;rintro jg dd _ dB ⟨rfl,h2⟩;rw [hd] at h2;cases h2;cases (hv.mono wQ).mono dB with
 | int k n=>exact .pure (.int _ _)
 | ptr h=>exact ar
 | _=>exact ar
theorem acg(ts:Array TypeId)(t:TypeId){x x':Array Value}(hx:aM β x x'):aH L C ay β (Builtin.len_ ts t x) (Builtin.len_ ts t x'):=by
 unfold Builtin.len_;cases ht:ts[0]? with
 | none=>exact ar
 | some t0=>
  cases h0:x[0]? with
  | none=>rw [hx.none h0];exact ar
  | some v=>
   obtain ⟨v',h1,hv⟩:=hx.get h0;rw [h1];simp only;refine (im H t0).bd ?_;rintro rR d _ wQ ⟨rfl, -⟩;cases d
   case string=>cases hv <;> first | exact .pure (.int _ _) | exact ar
   case array=>cases hv <;> exact .pure (.int _ _)
   case slice=>cases hv <;> first | exact .pure (.int _ _) | exact ar
   case pointer arr=>
    have:aH L C ay rR (do
     let .array n _←underlying arr | stuck "len: pointer to array expected"
     pure (goInt n):Sem Value) (do
     let .array n _←underlying arr | stuck "len: pointer to array expected"
     pure (goInt n)):=by
     refine (im H arr).bd ?_;rintro jg d2 _ dB ⟨rfl, -⟩;cases d2 <;> first | exact .pure (.int _ _) | exact ar
    cases hv <;> exact this
   all_goals (cases hv <;> exact ar)
theorem ach(ts:Array TypeId)(t:TypeId){x x':Array Value}(hx:aM β x x'):aH L C ay β (Builtin.cap_ ts t x) (Builtin.cap_ ts t x'):=by
 unfold Builtin.cap_;cases ht:ts[0]? with
 | none=>exact ar
 | some t0=>
  cases h0:x[0]? with
  | none=>rw [hx.none h0];exact ar
  | some v=>
   obtain ⟨v',h1,hv⟩:=hx.get h0;rw [h1];simp only;refine (im H t0).bd ?_;rintro rR d _ wQ ⟨rfl, -⟩;cases d
   case array=>cases hv <;> exact .pure (.int _ _)
   case slice=>cases hv <;> first | exact .pure (.int _ _) | exact ar
   case pointer arr=>
    have:aH L C ay rR (do
     let .array n _←underlying arr | stuck "cap: pointer to array expected"
     pure (goInt n):Sem Value) (do
     let .array n _←underlying arr | stuck "cap: pointer to array expected"
     pure (goInt n)):=by
     refine (im H arr).bd ?_;rintro jg d2 _ dB ⟨rfl, -⟩;cases d2 <;> first | exact .pure (.int _ _) | exact ar
    cases hv <;> exact this
   all_goals (cases hv <;> exact ar)
omit H in
omit [aL] in
theorem rC{z:Array Value}(hz: ∀(i:Nat) (v:Value),z[i]? =some v->Plain v)(n:Nat):aM β (Builtin.zeroCells z n) (Builtin.zeroCells z n):=tk hz _
theorem Vq(ts:Array TypeId)(t:TypeId)(AP: ∀ty∈ts,NO L ty){x x':Array Value}(hx:aM β x x'):aH L C ay β (Builtin.clear_ ts t x) (Builtin.clear_ ts t x'):=by
 unfold Builtin.clear_;cases ht:ts[0]? with
 | none=>exact ar
 | some t0=>
  cases h0:x[0]? with
  | none=>rw [hx.none h0];exact ar
  | some v=>
   obtain ⟨v',h1,hv⟩:=hx.get h0;rw [h1];simp only;refine (im H t0).bd ?_;rintro rR d _ wQ ⟨rfl,Ks⟩;have Zx:aH L C ay rR (pure (.tuple #[]):Sem Value) (pure (.tuple #[])):= .pure (.tuple rfl λi v v' h=>by simp at h);have akk: ∀d:TypeDesc,aH L C ay rR (do pure ();pure (.tuple #[]):Sem Value) (do pure ();pure (.tuple #[])):=λ_=>Zx;cases hv.mono wQ with
   | kT l c=>cases d <;> exact Zx
   | @slice a a' l c ha=>
    cases l with
    | zero=>cases d <;> exact Zx
    | succ l=>
     cases d
     case slice e=>
      refine (xJ H e (AP t0 (qb5 ht) e Ks)).bd ?_;rintro jg z _ dB ⟨rfl,hz⟩;refine (py 0 (ha.mono dB) (rC hz _).list).bd ?_;rintro rA u u' jN -;exact .pure (.tuple rfl λi v v' h=>by simp at h)
     all_goals exact (aX.fo aX.halt).rel
   | _=>cases d <;> exact (aX.fo aX.halt).rel
omit H in
theorem Zy{v v' u u':Value}(hv:ay β v v')(hu:ay β u u'):aH L C ay β (Builtin.min2 v u) (Builtin.min2 v' u'):=by
 cases hv with
 | int k n=>cases hu with
  | int k2 m=>exact .pure (.int _ _)
  | ptr h=>exact ar
  | _=>exact ar
 | string s=>cases hu with
  | string s2=>
   refine uK ?_;by_cases h:True
   ·exact .inl ⟨_,rfl, .string _⟩
   ·exact absurd trivial h
  | ptr h=>exact ar
  | _=>exact ar
 | ptr h=>cases hu <;> exact ar
 | _=>cases hu <;> exact ar
omit H in
theorem Zz{v v' u u':Value}(hv:ay β v v')(hu:ay β u u'):aH L C ay β (Builtin.max2 v u) (Builtin.max2 v' u'):=by
 cases hv with
 | int k n=>cases hu with
  | int k2 m=>exact .pure (.int _ _)
  | ptr h=>exact ar
  | _=>exact ar
 | string s=>cases hu with
  | string s2=>exact uK (.inl ⟨_,rfl, .string _⟩)
  | ptr h=>exact ar
  | _=>exact ar
 | ptr h=>cases hu <;> exact ar
 | _=>cases hu <;> exact ar
omit H in
theorem FD{f:Value->Value->Sem Value}(hf: ∀(β:Bj) (v v' u u':Value),ay β v v'->ay β u u'->aH L C ay β (f v u) (f v' u')): ∀{l l':List Value} {v v':Value} {β:Bj},pd β l l'->ay β v v'->aH L C ay β (l.foldlM f v) (l'.foldlM f v')
 | _,_,v,v',β, .nil,hv=> .pure hv
 | _,_,v,v',β, .cons hu hl,hv=>by
  rw [List.foldlM_cons,List.foldlM_cons];refine (hf β _ _ _ _ hv hu).bd ?_;intro jg a a' dB ha;exact FD hf (hl.mono dB) ha
omit H in
theorem aci(ts:Array TypeId)(t:TypeId){x x':Array Value}(hx:aM β x x'):aH L C ay β (Builtin.min_ ts t x) (Builtin.min_ ts t x'):=by
 unfold Builtin.min_;have h:=hx.list;generalize x.toList=l at h;generalize x'.toList=l' at h;cases h with
 | nil=>exact ar
 | cons hv hl=>exact FD (λ_ _ _ _ _=>Zy) hl hv
omit H in
theorem acj(ts:Array TypeId)(t:TypeId){x x':Array Value}(hx:aM β x x'):aH L C ay β (Builtin.max_ ts t x) (Builtin.max_ ts t x'):=by
 unfold Builtin.max_;have h:=hx.list;generalize x.toList=l at h;generalize x'.toList=l' at h;cases h with
 | nil=>exact ar
 | cons hv hl=>exact FD (λ_ _ _ _ _=>Zz) hl hv
end
end Go.Cx
namespace Go.Cx
open Go
variable[bg][aL][bj]
section
variable{L C:Program}{β:Bj}(H:gS L C)
include H
omit H in
theorem Bp{v v':Value}(hv:ay β v v'):aH L C (iB λ_=>True) β (Builtin.lenOf v) (Builtin.lenOf v'):=by
 cases hv with
 | kT n c=>exact .pure ⟨rfl,trivial⟩
 | slice n c h=>exact .pure ⟨rfl,trivial⟩
 | string s=>exact .pure ⟨rfl,trivial⟩
 | _=>exact ar
omit H in
theorem xK(size n:Nat){v v':Value}(hv:ay β v v'):aH L C aM β (Builtin.firstCells size n v) (Builtin.firstCells size n v'):=by
 cases hv with
 | kT l c=>exact .pure aM.empty
 | slice l c h=>exact Aq h _
 | string s=>exact .pure (aM.map λ_ _=> .int _ _)
 | _=>exact ar
omit H in
omit [bg] [aL] [bj] in
theorem NW(a:Addr)(n:Nat):nO L (Builtin.holdsCells a n):=by
 unfold Builtin.holdsCells;refine @fT _ _ _ _ _ _ λd=> ?_;split <;> infer_instance
omit H in
omit [bg] [aL] [bj] in
theorem NX(size wR n:Nat)(base:Option Addr)(x:Value):nO L (Builtin.mayShare size wR n base x):=by
 have hf: ∀a,nO L (frozen a):=λa=>jM λw=> .inl ⟨_,_,rfl,rfl⟩;have hh:=λa n=>NW (L:=L) a n;unfold Builtin.mayShare;cases base with
 | none=>
  simp only [pure_bind];split
  ·infer_instance
  ·split <;> infer_instance
 | some a=>
  refine @fT _ _ _ _ _ (hh _ _) λd=> ?_;refine @fT _ _ _ _ _ (hf _) λd=> ?_;simp only [pure_bind];split
  ·infer_instance
  ·split
   ·exact @fT _ _ _ _ _ (hh _ _) λd=>inferInstance
   ·infer_instance
theorem Qp(ts:Array TypeId)(t:TypeId)(AP: ∀ty∈ts,NO L ty){x x':Array Value}(hx:aM β x x'):aH L C ay β (Builtin.append_ ts t x) (Builtin.append_ ts t x'):=by
 unfold Builtin.append_;cases ht:ts[0]? with
 | none=>exact ar
 | some t0=>
 cases h0:x[0]? with
 | none=>rw [hx.none h0];exact ar
 | some s=>
 obtain ⟨s',Hx,hs⟩:=hx.get h0;cases h1:x[1]? with
 | none=>rw [Hx,hx.none h1];exact ar
 | some u=>
 obtain ⟨u',Qq,hu⟩:=hx.get h1;rw [Hx,Qq];simp only;refine (im H t0).bd ?_;rintro rR d _ wQ ⟨rfl,Ks⟩;cases d
 case slice e=>
  have J4:=AP t0 (qb5 ht) e Ks;have hs1:=hs.mono wQ;have wS:=hu.mono wQ;have key: ∀(base pj:Option Addr) (wR zg:Nat) (rR:Bj),ay rR (.slice base wR zg) (.slice pj wR zg)->ay rR u u'->((base=none/\pj=none)\/ ∃a a',base=some a/\pj=some a'/\jD rR a a')-> ∀(xL:Bool) (size n:Nat),
    aH L C ay rR (let uL:Sem (Array Value):=
      if !xL then Builtin.firstCells size n u
      else if n*size=0 then pure #[]
      else do pure (Builtin.zeroCells (←zeroValue e).cells n)
     let need:=wR+n
     if need<=zg then do
      let new←uL
      if let some a:=base then storeCells (a.add (wR*size)) new.toList
      pure (.slice base need zg)
     else do
      if (need:Int)>IntKind.i64.max/\(xL\/(←typeInfo e).bytes=0) then runtimePanic (.error "growslice: len out of range")
      if Builtin.nextslicecap need zg*(←typeInfo e).bytes>2^48 then (if xL then runtimePanic (.error "growslice: len out of range") else do
       if !(←Builtin.mayShare size wR n base u) then mark .noRoom
       unsupported (.resourceLimit "append: a slice or a string whose bytes no memory bears"))
      let uM←choose (.appendCap need zg e)
      askRoom (uM*(←typeInfo e).bytes)
      let old←Builtin.firstCells size wR (.slice base wR zg)
      let new←uL
      let rest:=Builtin.zeroCells (←zeroValue e).cells (uM - need)
      pure (.slice (some (←newRow e (old++new++rest))) need uM):Sem Value)
     (let uL:Sem (Array Value):=
      if !xL then Builtin.firstCells size n u'
      else if n*size=0 then pure #[]
      else do pure (Builtin.zeroCells (←zeroValue e).cells n)
     let need:=wR+n
     if need<=zg then do
      let new←uL
      if let some a:=pj then storeCells (a.add (wR*size)) new.toList
      pure (.slice pj need zg)
     else do
      if (need:Int)>IntKind.i64.max/\(xL\/(←typeInfo e).bytes=0) then runtimePanic (.error "growslice: len out of range")
      if Builtin.nextslicecap need zg*(←typeInfo e).bytes>2^48 then (if xL then runtimePanic (.error "growslice: len out of range") else do
       if !(←Builtin.mayShare size wR n pj u') then mark .noRoom
       unsupported (.resourceLimit "append: a slice or a string whose bytes no memory bears"))
      let uM←choose (.appendCap need zg e)
      askRoom (uM*(←typeInfo e).bytes)
      let old←Builtin.firstCells size wR (.slice pj wR zg)
      let new←uL
      let rest:=Builtin.zeroCells (←zeroValue e).cells (uM - need)
      pure (.slice (some (←newRow e (old++new++rest))) need uM)):=by
   intro base pj wR zg rR oP wS hb xL size n;have ack: ∀{γ:Bj},Le rR γ->aH L C aM γ (if !xL then Builtin.firstCells size n u
      else if n*size=0 then pure #[]
      else do pure (Builtin.zeroCells (←zeroValue e).cells n)) (if !xL then Builtin.firstCells size n u'
      else if n*size=0 then pure #[]
      else do pure (Builtin.zeroCells (←zeroValue e).cells n)):=by
    intro γ hl;split
    ·exact xK _ _ (wS.mono hl)
    ·split
     ·exact .pure aM.empty
     ·refine (xJ H e J4).bd ?_;rintro jg z _ dB ⟨rfl,hz⟩;exact .pure (rC hz _)
   simp only;split
   ·refine (ack (Le.refl _)).bd ?_;intro jg c c' dB hc;rcases hb with ⟨rfl,rfl⟩ | ⟨a,a',rfl,rfl,ha⟩
    ·exact .pure (.kT _ _)
    ·refine (py 0 ((ha.mono dB).add _) hc.list).bd ?_;rintro rA _ _ jN -;exact .pure (.slice _ _ ((ha.mono dB).mono jN))
   ·refine (lR H e).bd ?_;rintro jg inf _ dB ⟨rfl, -⟩;split
    ·exact (aX.fo bC).rel
    ·refine (lR H e).bd ?_;rintro rA akl _ jN ⟨rfl, -⟩;split
     ·refine aX.rel (aX.fo ?_);split
      ·exact bC
      ·refine aX.bind (hm:=NX _ _ _ _ _) λb=> ?_;split
       ·exact aX.bind λ_=>aX.halt
       ·exact aX.halt
     ·refine aH.bd (RA:=iB λ_=>True) (.choose λk=> .pure ⟨rfl,trivial⟩) ?_;rintro wa uM _ qW ⟨rfl, -⟩;refine (lR H e).bd ?_;rintro Mv akm _ BU ⟨rfl, -⟩;refine (Et _).bd ?_;rintro PV _ _ DR -;have l6:=(((dB.trans jN).trans qW).trans BU).trans DR;refine (xK _ _ (oP.mono l6)).bd ?_;intro β7 old akn hl7 hold;refine (ack (l6.trans hl7)).bd ?_;intro β8 new ako hl8 AQ;refine (xJ H e J4).bd ?_;rintro β9 z _ hl9 ⟨rfl,hz⟩;refine (xG e ((((hold.mono hl8).mono hl9).append (AQ.mono hl9)).append (rC hz _))).bd ?_;intro akp a a' Vr ha;exact .pure (.slice _ _ ha)
  cases hs1 with
  | kT l c=>
   refine (gT H e).bd ?_;rintro jg size _ dB ⟨rfl, -⟩;cases ts[1]? with
   | none=>
    simp only;refine aH.bd (RA:=iB λ_=>True) (.pure ⟨rfl,trivial⟩) ?_;rintro rA z _ jN ⟨rfl, -⟩;cases z with
    | false=>
     rw [if_neg (show¬((false:Bool)=true) by decide),if_neg (show¬((false:Bool)=true) by decide)];refine (Bp (wS.mono (dB.trans jN))).bd ?_;rintro wa n _ qW ⟨rfl, -⟩;have l4:=(dB.trans jN).trans qW;exact key _ _ l c wa (.kT _ _) (wS.mono l4) (.inl ⟨rfl,rfl⟩) false size n
    | true=>
     rw [if_pos (show (true:Bool)=true from rfl),if_pos (show (true:Bool)=true from rfl)];refine (tj (wS.mono (dB.trans jN))).bd ?_;rintro wa k _ qW ⟨rfl, -⟩;by_cases hk:IntKind.i64.wrap k<0
     ·rw [if_pos hk,if_pos hk];exact (aX.fo bC).rel
     ·rw [if_neg hk,if_neg hk];refine (lR H e).bd ?_;rintro Mv inf _ BU ⟨rfl, -⟩;by_cases hb:IntKind.i64.wrap k*inf.bytes>2^48
      ·rw [if_pos hb,if_pos hb];exact aX.rel (aX.bind λ_=>aX.fo bC)
      ·rw [if_neg hb,if_neg hb];refine aH.bd (RA:=iB λ_=>True) (.pure ⟨rfl,trivial⟩) ?_;rintro PV n _ DR ⟨rfl, -⟩;have l4:=(((dB.trans jN).trans qW).trans BU).trans DR;exact key _ _ l c PV (.kT _ _) (wS.mono l4) (.inl ⟨rfl,rfl⟩) true size n
   | some xT=>
    simp only;refine (im H xT).bd ?_;rintro afZ d _ ZA ⟨rfl, -⟩;have Vt:=dB.trans ZA;refine aH.bd (RA:=iB λ_=>True) (.pure ⟨rfl,trivial⟩) ?_;rintro rA z _ jN ⟨rfl, -⟩;cases z with
    | false=>
     rw [if_neg (show¬((false:Bool)=true) by decide),if_neg (show¬((false:Bool)=true) by decide)];refine (Bp (wS.mono (Vt.trans jN))).bd ?_;rintro wa n _ qW ⟨rfl, -⟩;have l4:=(Vt.trans jN).trans qW;exact key _ _ l c wa (.kT _ _) (wS.mono l4) (.inl ⟨rfl,rfl⟩) false size n
    | true=>
     rw [if_pos (show (true:Bool)=true from rfl),if_pos (show (true:Bool)=true from rfl)];refine (tj (wS.mono (Vt.trans jN))).bd ?_;rintro wa k _ qW ⟨rfl, -⟩;by_cases hk:IntKind.i64.wrap k<0
     ·rw [if_pos hk,if_pos hk];exact (aX.fo bC).rel
     ·rw [if_neg hk,if_neg hk];refine (lR H e).bd ?_;rintro Mv inf _ BU ⟨rfl, -⟩;by_cases hb:IntKind.i64.wrap k*inf.bytes>2^48
      ·rw [if_pos hb,if_pos hb];exact aX.rel (aX.bind λ_=>aX.fo bC)
      ·rw [if_neg hb,if_neg hb];refine aH.bd (RA:=iB λ_=>True) (.pure ⟨rfl,trivial⟩) ?_;rintro PV n _ DR ⟨rfl, -⟩;have l4:=(((Vt.trans jN).trans qW).trans BU).trans DR;exact key _ _ l c PV (.kT _ _) (wS.mono l4) (.inl ⟨rfl,rfl⟩) true size n
  | slice l c ha=>
   refine (gT H e).bd ?_;rintro jg size _ dB ⟨rfl, -⟩;cases ts[1]? with
   | none=>
    simp only;refine aH.bd (RA:=iB λ_=>True) (.pure ⟨rfl,trivial⟩) ?_;rintro rA z _ jN ⟨rfl, -⟩;cases z with
    | false=>
     rw [if_neg (show¬((false:Bool)=true) by decide),if_neg (show¬((false:Bool)=true) by decide)];refine (Bp (wS.mono (dB.trans jN))).bd ?_;rintro wa n _ qW ⟨rfl, -⟩;have l4:=(dB.trans jN).trans qW;exact key _ _ l c wa (.slice _ _ (ha.mono l4)) (wS.mono l4) (.inr ⟨_,_,rfl,rfl,ha.mono l4⟩) false size n
    | true=>
     rw [if_pos (show (true:Bool)=true from rfl),if_pos (show (true:Bool)=true from rfl)];refine (tj (wS.mono (dB.trans jN))).bd ?_;rintro wa k _ qW ⟨rfl, -⟩;by_cases hk:IntKind.i64.wrap k<0
     ·rw [if_pos hk,if_pos hk];exact (aX.fo bC).rel
     ·rw [if_neg hk,if_neg hk];refine (lR H e).bd ?_;rintro Mv inf _ BU ⟨rfl, -⟩;by_cases hb:IntKind.i64.wrap k*inf.bytes>2^48
      ·rw [if_pos hb,if_pos hb];exact aX.rel (aX.bind λ_=>aX.fo bC)
      ·rw [if_neg hb,if_neg hb];refine aH.bd (RA:=iB λ_=>True) (.pure ⟨rfl,trivial⟩) ?_;rintro PV n _ DR ⟨rfl, -⟩;have l4:=(((dB.trans jN).trans qW).trans BU).trans DR;exact key _ _ l c PV (.slice _ _ (ha.mono l4)) (wS.mono l4) (.inr ⟨_,_,rfl,rfl,ha.mono l4⟩) true size n
   | some xT=>
    simp only;refine (im H xT).bd ?_;rintro afZ d _ ZA ⟨rfl, -⟩;have Vt:=dB.trans ZA;refine aH.bd (RA:=iB λ_=>True) (.pure ⟨rfl,trivial⟩) ?_;rintro rA z _ jN ⟨rfl, -⟩;cases z with
    | false=>
     rw [if_neg (show¬((false:Bool)=true) by decide),if_neg (show¬((false:Bool)=true) by decide)];refine (Bp (wS.mono (Vt.trans jN))).bd ?_;rintro wa n _ qW ⟨rfl, -⟩;have l4:=(Vt.trans jN).trans qW;exact key _ _ l c wa (.slice _ _ (ha.mono l4)) (wS.mono l4) (.inr ⟨_,_,rfl,rfl,ha.mono l4⟩) false size n
    | true=>
     rw [if_pos (show (true:Bool)=true from rfl),if_pos (show (true:Bool)=true from rfl)];refine (tj (wS.mono (Vt.trans jN))).bd ?_;rintro wa k _ qW ⟨rfl, -⟩;by_cases hk:IntKind.i64.wrap k<0
     ·rw [if_pos hk,if_pos hk];exact (aX.fo bC).rel
     ·rw [if_neg hk,if_neg hk];refine (lR H e).bd ?_;rintro Mv inf _ BU ⟨rfl, -⟩;by_cases hb:IntKind.i64.wrap k*inf.bytes>2^48
      ·rw [if_pos hb,if_pos hb];exact aX.rel (aX.bind λ_=>aX.fo bC)
      ·rw [if_neg hb,if_neg hb];refine aH.bd (RA:=iB λ_=>True) (.pure ⟨rfl,trivial⟩) ?_;rintro PV n _ DR ⟨rfl, -⟩;have l4:=(((Vt.trans jN).trans qW).trans BU).trans DR;exact key _ _ l c PV (.slice _ _ (ha.mono l4)) (wS.mono l4) (.inr ⟨_,_,rfl,rfl,ha.mono l4⟩) true size n
  | _=>exact ar
 all_goals exact ar
end
end Go.Cx
namespace Go.Cx
open Go
variable[bg][aL][bj]
section
variable{L C:Program}{β:Bj}(H:gS L C)
include H
inductive NY(L:Program):TypeId->Prop
 | bool {t:TypeId}:L.underlying t=some .bool->NY L t
 | int {t:TypeId} {k:IntKind}:L.underlying t=some (.int k)->NY L t
 | string {t:TypeId}:L.underlying t=some .string->NY L t
 | slice {t e:TypeId}:L.underlying t=some (.slice e)->NY L t
 | struct {t:TypeId} {fs:Array Field}:L.underlying t=some (.struct fs)->L.stoodInHeld t=false->(∀f∈fs,NY L f.type)->NY L t
omit H in
theorem Qr{α σ:Type}{f g:α->σ->Sem (ForInStep σ)}: ∀(l:List α),(∀x∈l, ∀(cq:Bj) (s:σ),Le β cq->aH L C (iB λ_=>True) cq (f x s) (g x s))-> ∀(cq:Bj) (s:σ),Le β cq->aH L C (iB λ_=>True) cq (forIn l s f) (forIn l s g)
 | [],h,cq,s,hl=>by simp only [List.forIn_nil];exact .pure ⟨rfl,trivial⟩
 | x::l,h,cq,s,hl=>by
  simp only [List.forIn_cons];refine (h x (by simp) cq s hl).bd ?_;rintro jg r _ dB ⟨rfl, -⟩;cases r with
  | done s=>exact .pure ⟨rfl,trivial⟩
  | yield s=>exact Qr l (λy hy=>h y (by simp [hy])) jg s (hl.trans dB)
omit H in
theorem ZB{α σ:Type}{f g:α->σ->Sem (ForInStep σ)}(xs:Array α)(h: ∀x∈xs, ∀(cq:Bj) (s:σ),Le β cq->aH L C (iB λ_=>True) cq (f x s) (g x s))(s:σ):aH L C (iB λ_=>True) β (forIn xs s f) (forIn xs s g):=by
 rw [←Array.forIn_toList, ←Array.forIn_toList];exact Qr xs.toList (λx hx=>h x (by simpa using hx)) β s (Le.refl _)
omit [aL] [bj] in
theorem NZ(t:TypeId)(a b:Addr):aX L (do
  let (a,b):=((←behindNumber a).1,(←behindNumber b).1)
  if a.block==b.block&&a.block<(←program).globals.size then return (←byteOf a)==(←byteOf b)
  let .named "sync.copyChecker" _:=(←typeInfo t).desc | unsupported .addressObserved
  if a==b then pure true else unsupported .addressObserved:Sem Bool):=by
 refine aX.bind λx=>aX.bind λy=>aX.prog ?_;simp only [H.gl,qar,decide_false,Bool.and_false,qa6,if_false];refine aX.info λi hi=> ?_;split
 ·rename_i n hd;exact absurd hd (H.cc t i _ hi)
 ·exact aX.halt
theorem zh: ∀(d:Nat) {t:TypeId},NY L t-> ∀{β:Bj} {v v' u u':Value},ay β v v'->ay β u u'->aH L C (iB λ_=>True) β (Op.equalIn d t v u) (Op.equalIn d t v' u')
 | 0,t,_,β,v,v',u,u',hv,hu=>ar
 | d+1,t,ht,β,v,v',u,u',hv,hu=>by
  unfold Op.equalIn;refine (im H t).bd ?_;rintro rR D _ wQ ⟨rfl,hD⟩;have Qs:=hv.mono wQ;have wS:=hu.mono wQ;cases ht with
  | bool h=>
   rw [h] at hD;cases hD;cases Qs <;> cases wS <;> first | exact .pure ⟨rfl,trivial⟩ | exact ar
  | int h=>
   rw [h] at hD;cases hD;cases Qs with
   | int k n=>
    cases wS with
    | int k2 m=>
     simp only;split
     ·exact .pure ⟨rfl,trivial⟩
     ·exact ar
    | ptr h=>
     by_cases hn:n=0
     ·subst hn;exact .pure ⟨rfl,trivial⟩
     ·refine aX.rel ?_;split <;> first | exact aX.halt | (exfalso;simp_all)
    | _=>exact ar
   | ptr h=>
    cases wS with
    | int k n=>
     by_cases hn:n=0
     ·subst hn;exact .pure ⟨rfl,trivial⟩
     ·refine aX.rel ?_;split <;> first | exact aX.halt | (exfalso;simp_all)
    | ptr h=>exact (NZ H t _ _).rel
    | _=>exact ar
   | _=>cases wS <;> exact ar
  | string h=>
   rw [h] at hD;cases hD;cases Qs <;> cases wS <;> first | exact .pure ⟨rfl,trivial⟩ | exact ar
  | slice h=>
   rw [h] at hD;cases hD;cases Qs <;> cases wS <;> first | exact .pure ⟨rfl,trivial⟩ | exact ar
  | struct h h2 h3=>
   rw [h] at hD;cases hD;cases Qs with
   | agg a1 a2=>
    cases wS with
    | agg b1 b2=>
     simp only;refine .program ?_;show aH L C _ rR (if L.stoodInHeld t=true then _ else _) (if C.stoodInHeld t=true then _ else _);rw [H.sih,h2];rw [if_neg (by decide),if_neg (by decide)];refine (ZB _ (λf hf jg s dB=> ?_) _).bd ?_
     ·by_cases hn:f.name≠ "_"
      ·rw [if_pos hn,if_pos hn];refine (Kr H f.type (aM.mono dB ⟨a1,a2⟩) _).bd ?_;intro rA p p' jN hp;refine (Kr H f.type (aM.mono (dB.trans jN) ⟨b1,b2⟩) _).bd ?_;intro wa q q' qW hq;refine (zh d (h3 f hf) (hp.mono qW) hq).bd ?_;rintro Mv b _ BU ⟨rfl, -⟩;split <;> exact .pure ⟨rfl,trivial⟩
      ·rw [if_neg hn,if_neg hn];exact .pure ⟨rfl,trivial⟩
     ·rintro jg r _ dB ⟨rfl, -⟩;split <;> exact .pure ⟨rfl,trivial⟩
    | _=>exact ar
   | _=>cases wS <;> exact ar
end
end Go.Cx
namespace Go.Cx
open Go
variable[bg][aL][bj]
section
variable{L C:Program}{β:Bj}(H:gS L C)
include H
omit H in
theorem xM{a b:Nat}(h:β a b):aH L C (iB λ_=>True) β (shape a) (shape b):= .shape h λ_=> .pure ⟨rfl,trivial⟩
omit H in
theorem BW{a b:Nat}(h:β a b):aH L C (λβ (x x':Option (Addr×Bool))=>(x=none/\x'=none)\/ ∃d d' z,x=some (d,z)/\x'=some (d',z)/\jD β d d') β (numberAt a) (numberAt b):=by
 unfold numberAt;refine (xM h).bd ?_;rintro jg s _ dB ⟨rfl, -⟩;split
 ·exact .pure (.inl ⟨rfl,rfl⟩)
 ·refine .getObj (dB _ _ h) λo o' ho=> ?_;cases ho with
  | num z hd=>exact .pure (.inr ⟨_,_,z,rfl,rfl,hd⟩)
  | DF z=>cases z <;> exact .pure (.inl ⟨rfl,rfl⟩)
  | _=>exact .pure (.inl ⟨rfl,rfl⟩)
omit H in
theorem HK{a b:Nat}(h:β a b):aH L C (λ_ (x x':Option (Addr×TypeId))=>x=none/\x'=none) β (viewAt a) (viewAt b):=by
 unfold viewAt;refine (xM h).bd ?_;rintro jg s _ dB ⟨rfl, -⟩;split
 ·exact .pure ⟨rfl,rfl⟩
 ·refine .getObj (dB _ _ h) λo o' ho=> ?_;cases ho with
  | DF z=>cases z <;> exact .pure ⟨rfl,rfl⟩
  | _=>exact .pure ⟨rfl,rfl⟩
omit H in
theorem HL{a a':Addr}(h:jD β a a'):aH L C (λβ (x x':Addr×Bool)=>x.2=x'.2/\jD β x.1 x'.1) β (behindNumber a) (behindNumber a'):=by
 unfold behindNumber;refine (BW h.block).bd ?_;rintro jg s s' dB (⟨rfl,rfl⟩ | ⟨d,d',z,rfl,rfl,hd⟩)
 ·exact .pure ⟨rfl,h.mono dB⟩
 ·exact .pure ⟨rfl,hd⟩
omit H in
def uAdd(ptr:Option Addr)(len_:Value):Sem Value:=do
 let n←asInt len_
 if n=0 then
  let some a:=ptr | unsupported (.unsafePointer "Add: from nil")
  if (←viewAt a.block).isSome then unsupported (.unsafePointer "Add: at a place where no cell lies")
  return .pointer ptr
 if n<0 then unsupported (.unsafePointer "Add: a move by a count below zero")
 let some a:=ptr | unsupported (.unsafePointer "Add")
 let some (e,cells)←shape a.block | unsupported (.unsafePointer "Add")
 let p←program
 match cellAtBytes p p.depth e (cells / p.cellsOf e) a.off n with
 | some off=>pure (.pointer (some { a with off }))
 | none=>unsupported (.unsafePointer "Add")
omit H in
omit [bg] [aL] [bj] in
theorem Mw(t:TypeId)(a:Option Addr)(y:Value):Builtin.unsafeAdd_ #[] t #[.pointer a,y]=uAdd a y:=rfl
def Yn(β:Bj)(v v':Value):Prop:= ∃a a',v= .pointer (some a)/\v'= .pointer (some a')/\jD β a a'
theorem xN(t:TypeId){a a':Option Addr}{y y':Value}(h:(a=none/\a'=none)\/ ∃d d',a=some d/\a'=some d'/\jD β d d')(hy:ay β y y'):
  aH L C Yn β (Builtin.unsafeAdd_ #[] t #[.pointer a,y]) (Builtin.unsafeAdd_ #[] t #[.pointer a',y']):=by
 rw [Mw,Mw];unfold uAdd;refine (tj hy).bd ?_;rintro jg n _ dB ⟨rfl, -⟩;rcases h with ⟨rfl,rfl⟩ | ⟨d,d',rfl,rfl,hd⟩
 ·refine aX.rel ?_;by_cases hn:n=0
  ·simp only [if_pos hn];exact aX.fo aX.halt
  ·by_cases N0:n<0
   ·simp only [if_neg hn,if_pos N0];exact aX.fo aX.halt
   ·simp only [if_neg hn,if_neg N0];exact aX.halt
 ·simp only;by_cases hn:n=0
  ·rw [if_pos hn,if_pos hn];refine (HK (hd.mono dB).block).bd ?_;rintro rA _ _ jN ⟨rfl,rfl⟩;exact .pure ⟨_,_,rfl,rfl,(hd.mono dB).mono jN⟩
  ·rw [if_neg hn,if_neg hn];by_cases N0:n<0
   ·rw [if_pos N0,if_pos N0];exact (aX.fo aX.halt).rel
   ·rw [if_neg N0,if_neg N0];refine (xM (hd.mono dB).block).bd ?_;rintro rA s _ jN ⟨rfl, -⟩;cases s with
    | none=>exact ar
    | some s=>
     obtain ⟨e,cells⟩:=s;refine .program ?_;have hd3:=(hd.mono dB).mono jN;show aH L C Yn rA (match cellAtBytes L L.depth e (cells / L.cellsOf e) d.off n with | some off=>pure (.pointer (some { d with off })) | none=>unsupported (.unsafePointer "Add")) (match cellAtBytes C C.depth e (cells / C.cellsOf e) d'.off n with | some off=>pure (.pointer (some { d' with off })) | none=>unsupported (.unsafePointer "Add"));rw [H.cab,hd3.off];cases cellAtBytes L L.depth e (cells / L.cellsOf e) d.off n with
     | none=>exact ar
     | some off=>exact .pure ⟨_,_,rfl,rfl,hd3.block,rfl,hd3.spot⟩
theorem uN(t:TypeId){a a':Option Addr}{y y':Value}(h:(a=none/\a'=none)\/ ∃d d',a=some d/\a'=some d'/\jD β d d')(hy:ay β y y'):
 aH L C ay β (Builtin.unsafeAdd_ #[] t #[.pointer a,y]) (Builtin.unsafeAdd_ #[] t #[.pointer a',y']):=(xN H t h hy).imp λcq v v' _ ⟨a,a',e1,e2,h⟩=>by subst e1;subst e2;exact .ptr h
omit H in
theorem Kt{a a':Addr}(h:jD β a a')(z:Bool):aH L C ay β (asNumber a z) (asNumber a' z):=by
 unfold asNumber newObj;exact .new (.num z h) λγ r r' hl hr=> .pure (.ptr ⟨hr,rfl,rfl⟩)
theorem mb(t:TypeId){x x' y y':Value}(hx:ay β x x')(hy:ay β y y'):aH L C ay β (movedNumber t x y) (movedNumber t x' y'):=by
 unfold movedNumber;refine (im H t).bd ?_;rintro jg d _ dB ⟨rfl, -⟩;have oN:=hx.mono dB;have hy2:=hy.mono dB;have key:aH L C ay jg (do
   let .pointer (some n):=x | Builtin.unsafeAdd_ #[] t #[x,y]
   let (a,lost)←behindNumber n
   match←Builtin.unsafeAdd_ #[] t #[.pointer (some a),y] with
   | .pointer (some b)=>asNumber b lost
   | v=>pure v:Sem Value) (do
   let .pointer (some n):=x' | Builtin.unsafeAdd_ #[] t #[x',y']
   let (a,lost)←behindNumber n
   match←Builtin.unsafeAdd_ #[] t #[.pointer (some a),y'] with
   | .pointer (some b)=>asNumber b lost
   | v=>pure v):=by
  cases oN with
  | ptr h=>
   refine (HL h).bd ?_;rintro rA ⟨a,z⟩ ⟨a',z'⟩ jN ⟨h1,h2⟩;simp only at h1 h2;subst h1;refine (xN H t (.inr ⟨a,a',rfl,rfl,h2⟩) (hy2.mono jN)).bd ?_;rintro wa v v' qW ⟨b,b',rfl,rfl,h⟩;exact Kt h _
  | px=>exact uN H t (.inl ⟨rfl,rfl⟩) hy2
  | _=>exact ar
 cases d
 case unsafePointer=>exact (aX.fo aX.halt).rel
 all_goals exact key
theorem BX(t:TypeId){x x' y y':Value}(hx:ay β x x')(hp: ∃a,x= .pointer a)(hy:ay β y y'):aH L C ay β (movedPointer t x y) (movedPointer t x' y'):=by
 unfold movedPointer;cases hx with
 | ptr h=>
  refine (BW h.block).bd ?_;rintro jg s s' dB (⟨rfl,rfl⟩ | ⟨d,d',z,rfl,rfl,hd⟩)
  ·exact uN H t (.inr ⟨_,_,rfl,rfl,h.mono dB⟩) (hy.mono dB)
  ·exact (aX.fo aX.halt).rel
 | px=>exact uN H t (.inl ⟨rfl,rfl⟩) hy
 | _=>obtain ⟨a,ha⟩:=hp;cases ha
omit [aL] [bj] in
theorem HM(a b:Addr):aX L (Op.twoPlaces a b):=by
 unfold Op.twoPlaces;refine aX.prog ?_;simp only [H.gl,qa8,ge_iff_le,decide_true,Bool.or_true,if_true];exact aX.fo aX.halt
end
end Go.Cx
namespace Go.Cx
open Go
variable[bg][aL][bj]
section
variable{L C:Program}{β:Bj}(H:gS L C)
include H
theorem Qu{a a':Addr}(h:jD β a a'):aH L C (iB λ_=>True) β (byteOf a) (byteOf a'):=by
 unfold byteOf;rw [h.spot];cases a.spot with
 | some s=>exact .pure ⟨rfl,trivial⟩
 | none=>
  refine .program ?_;unfold noView;simp only [bind_assoc];refine (HK h.block).bd ?_;rintro jg _ _ dB ⟨rfl,rfl⟩;simp only [qbp,qa6,if_false,pure_bind];refine (xM (h.mono dB).block).bd ?_;rintro rA s _ jN ⟨rfl, -⟩;cases s with
  | none=>exact ar
  | some s=>
   obtain ⟨e,n⟩:=s;obtain ⟨e1,e2,e3⟩:=H.bof e (a.off % L.cellsOf e);simp only [e1,h.off,e2,e3];split
   ·exact .pure ⟨rfl,trivial⟩
   ·cases byteOfCell L L.depth e (a.off % L.cellsOf e) with
    | none=>exact ar
    | some b=>exact .pure ⟨rfl,trivial⟩
theorem N1(k:IntKind)(n:Int){a a':Addr}(h:jD β a a'):aH L C ay β (Op.addrMod k a n) (Op.addrMod k a' n):=by
 unfold Op.addrMod;refine (xM h.block).bd ?_;rintro jg s _ dB ⟨rfl, -⟩;cases s with
 | none=>exact ar
 | some s=>
  obtain ⟨e,m⟩:=s;simp only;refine (lR H e).bd ?_;rintro rA i _ jN ⟨rfl, -⟩;split
  ·exact (aX.fo aX.halt).rel
  ·refine (Qu H ((h.mono dB).mono jN)).bd ?_;rintro wa b _ qW ⟨rfl, -⟩;exact .pure (.int _ _)
omit H in
theorem Ku(op:BinOp)(x y:ByteArray):aH L C ay β (Op.stringOp op x y) (Op.stringOp op x y):=by
 refine uK ?_;unfold Op.stringOp;simp only;split
 ·split
  ·exact .inr aX.halt
  ·exact .inl ⟨_,rfl, .string _⟩
 all_goals first | exact .inl ⟨_,rfl, .bool _⟩ | exact .inr aX.halt
omit H in
omit [bg] [aL] [bj] in
theorem Qv(d:Nat)(t:TypeId){x y:Value}(h:x= .tuple #[]\/y= .tuple #[]):aX L (Op.equalIn d t x y):=by
 cases d with
 | zero=>exact aX.halt
 | succ d=>
  unfold Op.equalIn;refine aX.bind λD=> ?_;rcases h with rfl | rfl
  ·cases D <;> first | exact aX.halt | (cases y <;> first | exact aX.halt | (rename_i a;cases a <;> exact aX.halt) | (rename_i a l c;cases a <;> exact aX.halt))
  ·cases D <;> first | exact aX.halt | (cases x <;> first | exact aX.halt | (rename_i a;cases a <;> exact aX.halt) | (rename_i a l c;cases a <;> exact aX.halt))
omit H in
omit [bg] [aL] [bj] in
theorem Qw(op:BinOp)(t:TypeId){x y:Value}(h:x= .tuple #[]\/y= .tuple #[]):aX L (binOp op t x y):=by
 have he:aX L (Op.equal t x y):=Qv _ t h;unfold binOp;rcases h with rfl | rfl
 ·cases op <;> cases y <;> first | exact aX.halt | exact aX.fo he | (rename_i a;cases a <;> exact aX.halt)
 ·cases op <;> cases x <;> first | exact aX.halt | exact aX.fo he | (rename_i a;cases a <;> exact aX.halt)
theorem Vu(op:BinOp)(t:TypeId)(ht:op= .eql\/op= .neq->NY L t){x x' y y':Value}(hx:ay β x x')(hy:ay β y y'):aH L C ay β (binOp op t x y) (binOp op t x' y'):=by
 have DT:NY L t->aH L C ay β (do pure (.bool (←Op.equal t x y)):Sem Value) (do pure (.bool (←Op.equal t x' y'))):=λh=>by
  refine (zh H _ h hx hy).bd ?_;rintro jg b _ dB ⟨rfl, -⟩;exact .pure (.bool _)
 have DU:NY L t->aH L C ay β (do pure (.bool (!(←Op.equal t x y))):Sem Value) (do pure (.bool (!(←Op.equal t x' y')))):=λh=>by
  refine (zh H _ h hx hy).bd ?_;rintro jg b _ dB ⟨rfl, -⟩;exact .pure (.bool _)
 have hii: ∀k a k' b,aH L C ay β (binOp op t (.int k a) (.int k' b)) (binOp op t (.int k a) (.int k' b)):=by
  intro k a k' b;unfold binOp;by_cases hk:k≠k'
  ·cases op
   case shl=>exact Bo _ _ _ _ _
   case shr=>exact Bo _ _ _ _ _
   all_goals (simp only [hk,ne_eq,not_false_eq_true,if_true];exact ar)
  ·cases op
   case shl=>exact Bo _ _ _ _ _
   case shr=>exact Bo _ _ _ _ _
   all_goals (simp only [hk,if_false];first | exact BV _ _ _ _ | exact Qn _ _ _ _ | exact Es _ _ _ _ | exact Qo _ _ _)
 have hss: ∀a b,aH L C ay β (binOp op t (.string a) (.string b)) (binOp op t (.string a) (.string b)):=by
  intro a b;unfold binOp;cases op <;> exact Ku _ _ _
 have ZC: ∀{a a':Addr} (k:IntKind) (n:Int),jD β a a'->aH L C ay β (do Op.addrMod k (←behindNumber a).1 n:Sem Value) (do Op.addrMod k (←behindNumber a').1 n):=λk n h=>by
  refine (HL h).bd ?_;rintro jg x x' dB ⟨h1,h2⟩;exact N1 H k n h2
 have acm: ∀{x x' y y':Value},ay β x x'->(∃a,x= .pointer a)->ay β y y'->aH L C ay β (do if (←underlying t) matches .unsafePointer then movedPointer t x y else movedNumber t x y:Sem Value) (do if (←underlying t) matches .unsafePointer then movedPointer t x' y' else movedNumber t x' y'):=λhx hp hy=>by
  refine (im H t).bd ?_;rintro jg d _ dB ⟨rfl, -⟩;cases d
  case unsafePointer=>exact BX H t (hx.mono dB) hp (hy.mono dB)
  all_goals exact mb H t (hx.mono dB) (hy.mono dB)
 by_cases hh:x= .tuple #[]\/y= .tuple #[]
 ·exact (Qw op t hh).rel
 have af0: ∀a b,aX L (do Op.addrSub .u64 (←behindNumber a).1 (←behindNumber b).1:Sem Value):=λa b=>aX.bind λ_=>aX.bind λ_=>aX.fo (HM H _ _);have af1: ∀o a b,aX L (do Op.addrCmp o (←behindNumber a).1 (←behindNumber b).1:Sem Value):=λo a b=>aX.bind λ_=>aX.bind λ_=>aX.fo (HM H _ _);cases hx with
 | int k a=>
  cases hy with
  | int k' b=>exact hii k a k' b
  | ptr h=>
   unfold binOp;cases op
   case eql=>exact DT (ht (.inl rfl))
   case neq=>exact DU (ht (.inr rfl))
   case add=>exact mb H t (.ptr h) (.int _ _)
   case and=>exact ZC _ _ h
   all_goals exact ar
  | px=>
   unfold binOp;cases op
   case eql=>exact DT (ht (.inl rfl))
   case neq=>exact DU (ht (.inr rfl))
   case add=>exact mb H t .px (.int _ _)
   all_goals exact ar
  | hole _ _=>exact (hh (.inr rfl)).elim
  | _=>
   unfold binOp;cases op
   case eql=>exact DT (ht (.inl rfl))
   case neq=>exact DU (ht (.inr rfl))
   all_goals exact ar
 | string a=>
  cases hy with
  | string b=>exact hss a b
  | hole _ _=>exact (hh (.inr rfl)).elim
  | _=>
   unfold binOp;cases op
   case eql=>exact DT (ht (.inl rfl))
   case neq=>exact DU (ht (.inr rfl))
   all_goals exact ar
 | ptr h=>
  cases hy with
  | int k n=>
   unfold binOp;cases op
   case eql=>exact DT (ht (.inl rfl))
   case neq=>exact DU (ht (.inr rfl))
   case add=>exact acm (.ptr h) ⟨_,rfl⟩ (.int _ _)
   case sub=>exact mb H t (.ptr h) (.int _ _)
   case rem=>exact ZC _ _ h
   case and=>exact ZC _ _ h
   all_goals exact ar
  | ptr h'=>
   unfold binOp;cases op
   case eql=>exact DT (ht (.inl rfl))
   case neq=>exact DU (ht (.inr rfl))
   case sub=>exact (af0 _ _).rel
   all_goals first | exact ar | exact (af1 _ _ _).rel
  | hole _ _=>exact (hh (.inr rfl)).elim
  | _=>
   unfold binOp;cases op
   case eql=>exact DT (ht (.inl rfl))
   case neq=>exact DU (ht (.inr rfl))
   all_goals exact ar
 | px=>
  cases hy with
  | int k n=>
   unfold binOp;cases op
   case eql=>exact DT (ht (.inl rfl))
   case neq=>exact DU (ht (.inr rfl))
   case add=>exact acm .px ⟨_,rfl⟩ (.int _ _)
   case sub=>exact mb H t .px (.int _ _)
   all_goals exact ar
  | hole _ _=>exact (hh (.inr rfl)).elim
  | _=>
   unfold binOp;cases op
   case eql=>exact DT (ht (.inl rfl))
   case neq=>exact DU (ht (.inr rfl))
   all_goals exact ar
 | hole _ _=>exact (hh (.inl rfl)).elim
 | _=>
  cases hy
  case hole=>exact (hh (.inr rfl)).elim
  all_goals
   unfold binOp;cases op
   case eql=>exact DT (ht (.inl rfl))
   case neq=>exact DU (ht (.inr rfl))
   all_goals exact ar
end
end Go.Cx
namespace Go.Cx
open Go
variable[bg][aL][bj]
inductive N2(β:Bj):Target->Target->Prop
 | fn {f f':Fn} {c c':Array Value}:DO β f f'->aM β c c'->N2 β (.fn f c) (.fn f' c')
 | method (n:String):N2 β (.fn (.method n) #[]) (.fn (.method n) #[])
 | builtin (b:Builtin) (ts:Array TypeId) (t:TypeId) (cs:Array Bool):N2 β (.builtin b ts t cs) (.builtin b ts t cs)
 | nil:N2 β .nil .nil
structure aco(β:Bj)(d d':Deferred):Prop where
 target:N2 β d.target d'.target
 args:aM β d.args d'.args
inductive mY(β:Bj):Next->Next->Prop
 | value {v v':Value}:ay β v v'->mY β (.value v) (.value v')
 | skip:mY β .skip .skip
 | enter (f:FuncId) {x x':Array Value}:bg.ok f->bg.uj f->aM β x x'->mY β (.enter f x) (.enter f x')
 | round {l l':Nat} (f:FuncId) {x x':Array Value} (a b:Code):aL.code a->aL.code b->β l l'->aM β x x'->mY β (.round l f x a b) (.round l' f x' a b)
section
variable{L C:Program}{β:Bj}(H:gS L C)
include H
theorem BY(f:FuncId)(um:bg.ok f){x x':Array Value}(hx:aM β x x'):aH L C mY β (callFunc f x) (callFunc f x'):=by
 cases hf:L.funcs[f]? with
 | none=>
  refine aX.rel ?_;unfold callFunc;refine aX.prog ?_;rw [hf];exact aX.halt
 | some fn=>
  by_cases hb:fn.body.isNone=true
  ·exact aX.rel (H.nob f fn hf hb x)
  ·simp only [qbg] at hb;obtain ⟨h0,h1,kl,h2,h3,h4⟩:=H.fns f fn hf hb;unfold callFunc;refine .program ?_;show aH L C mY β (match L.funcs[f]? with | none=>_ | some fn=>_) (match C.funcs[f]? with | none=>_ | some fn=>_);rw [hf,h2];simp only [h1,h4,hb,h3,qa6,if_false];exact .pure (.enter f um h0 hx)
omit H in
omit [bg] [aL] [bj] in
theorem N3(ts:Array TypeId)(t:TypeId)(a b:ByteArray):aX L (Builtin.ssaWrapNilChk_ ts t #[.pointer none, .string a, .string b]):=by
 change aX L (_ >>= _);refine aX.bind λn=> ?_;by_cases hn:(n==1)=true
 ·simp only [hn,if_true];exact aX.fo bC
 ·simp only [hn,if_false];cases ts[0]? with
  | none=>exact aX.halt
  | some pt=>
   refine aX.bind λd=> ?_;cases d
   case pointer t=>
    refine aX.bind λi=> ?_;split
    ·split
     ·split
      ·exact bC
      ·exact aX.halt
     ·exact aX.halt
    ·exact aX.halt
   all_goals exact aX.halt
theorem FE(t:TypeId){v v':Value}(hv:ay β v v')(p:Bool)(w:Option String):aH L C ay β (receiverAt t (.val v) p w) (receiverAt t (.val v') p w):=by
 unfold receiverAt;refine (im H t).bd ?_;rintro jg d _ dB ⟨rfl, -⟩;have wP:=hv.mono dB;cases d
 case pointer e=>
  cases p with
  | true=>exact .pure wP
  | false=>
   simp only [Place.get];refine aH.bd (RA:=ay) (.pure wP) ?_;intro rA u u' jN hu;cases w with
   | none=>
    refine aH.bd (RA:=ay) (.pure hu) ?_;intro wa q q' qW hq;refine (xH hq).bd ?_;intro Mv a a' BU ha;exact vA H e ha
   | some name=>
    refine aH.bd (RA:=ay) (s:=Builtin.ssaWrapNilChk_ #[t] t #[u,strVal "",strVal name]) (t:=Builtin.ssaWrapNilChk_ #[t] t #[u',strVal "",strVal name]) ?_ ?_
    ·cases hu with
     | ptr h=>exact .pure (.ptr h)
     | px=>exact (N3 _ _ _ _).rel
     | _=>exact ar
    ·intro wa q q' qW hq;refine (xH hq).bd ?_;intro Mv a a' BU ha;exact vA H e ha
 all_goals (cases p <;> first | exact ar | exact .pure wP)
theorem HN: ∀(fuel:Nat) (t:TypeId) {β:Bj} {v v':Value} (name:String),ay β v v'->aH L C (λβ (x x':FuncId×Value)=>x.1=x'.1/\bg.ok x.1/\ay β x.2 x'.2) β (method fuel t v name) (method fuel t v' name)
 | 0,t,β,v,v',name,hv=>ar
 | fuel+1,t,β,v,v',name,hv=>by
  unfold method;refine (lR H t).bd ?_;rintro jg i _ dB ⟨rfl,hi⟩;cases hm:i.methods.find? (·.name==name) with
  | none=>exact ar
  | some m=>
   obtain ⟨hp,y4⟩:=H.mp t i m hi (Array.mem_of_find?_eq_some hm);simp only [hp,follow,pure_bind];cases hmf:m.func with
   | none=>
    simp only;refine aH.bd (RA:=ay) (.pure (hv.mono dB)) ?_;intro rA u u' jN hu;cases hu with
    | iface t' h=>exact HN fuel t' name h
    | jb=>exact bC.rel
    | _=>exact ar
   | some fp=>
    obtain ⟨f,p⟩:=fp;simp only;refine (FE H t (hv.mono dB) p _).bd ?_;intro rA u u' jN hu;exact .pure ⟨rfl,y4 f p hmf,hu⟩
theorem BZ: ∀(fuel:Nat) (t:TypeId) {β:Bj} {v v':Value} (name:String),ay β v v'->aH L C (λ_ (x x':Option Bool)=>x'=x) β (nilAhead fuel t v name) (nilAhead fuel t v' name)
 | 0,t,β,v,v',name,hv=> .pure rfl
 | fuel+1,t,β,v,v',name,hv=>by
  unfold nilAhead;refine (lR H t).bd ?_;rintro jg i _ dB ⟨rfl,hi⟩;cases hm:i.methods.find? (·.name==name) with
  | none=>exact ar
  | some m=>
   obtain ⟨hp,y4⟩:=H.mp t i m hi (Array.mem_of_find?_eq_some hm);simp only [hp,followBlind,pure_bind];have wP:=hv.mono dB;cases hmf:m.func with
   | none=>
    try simp only
    cases wP with
    | iface t' h=>exact BZ fuel t' name h
    | jb=>exact .pure rfl
    | _=>exact ar
   | some fp=>
    obtain ⟨f,p⟩:=fp;cases p with
    | true=>exact .pure rfl
    | false=>
     try simp only
     refine (im H t).bd ?_;rintro rA d _ jN ⟨rfl, -⟩;cases d
     case pointer e=>
      cases wP with
      | px=>exact .pure rfl
      | ptr h=>exact .pure rfl
      | hole ho hp=>cases v' <;> first | exact ho.elim | exact .pure rfl | (rename_i a;cases a <;> first | exact ho.elim | exact .pure rfl)
      | _=>exact .pure rfl
     all_goals exact .pure rfl
theorem xO{v v':Value}(name:String){x x':Array Value}(hv:ay β v v')(hx:aM β x x'):aH L C mY β (callMethod v name x) (callMethod v' name x'):=by
 unfold callMethod;cases hv with
 | iface t h=>
  refine .program ?_;show aH L C mY β (do
   let (f,receiver)←method (L.types.size+Made.depth) t _ name
   callFunc f (#[receiver]++x)) (do
   let (f,receiver)←method (C.types.size+Made.depth) t _ name
   callFunc f (#[receiver]++x'))
  rw [H.PU];refine (HN H _ t name h).bd ?_;rintro jg ⟨f,r⟩ ⟨f',r'⟩ dB ⟨h1,h0,h2⟩;simp only at h1 h0 h2;subst h1;exact BY H f h0 ((aM.one h2).append (hx.mono dB))
 | jb=>exact bC.rel
 | _=>exact ar
omit H in
theorem rV{l l':Nat}(h:β l l'):aH L C Kk β (Instr.getLoop l) (Instr.getLoop l'):=by
 unfold Instr.getLoop;refine aH.bd (RA:=th) (.getObj h λo o' ho=> .pure ho) ?_;intro jg o o' dB ho;cases ho with
 | loop h=>exact .pure h
 | DF b=>cases b <;> exact ar
 | _=>exact ar
omit H in
omit [aL] in
theorem HQ(ps:Array Tmp){x x' t t':Array Value}(hx:aM β x x')(ht:aM β t t'):aM β ((ps.zip x).foldl (λtmps (t,a)=>tmps.setIfInBounds t a) t) ((ps.zip x').foldl (λtmps (t,a)=>tmps.setIfInBounds t a) t'):=by
 have key: ∀(l:List Tmp) {y y':List Value} {t t':Array Value},pd β y y'->aM β t t'->aM β ((l.zip y).foldl (λtmps (q:Tmp×Value)=>tmps.setIfInBounds q.1 q.2) t) ((l.zip y').foldl (λtmps (q:Tmp×Value)=>tmps.setIfInBounds q.1 q.2) t'):=by
  intro l
  induction l with
  | nil=>intro y y' t t' _ ht;exact ht
  | cons p l ih=>
   intro y y' t t' hy ht;cases hy with
   | nil=>exact ht
   | cons hv hl=>exact ih hl (ht.set hv p)
 have:=key ps.toList hx.list ht;rw [←Array.foldl_toList, ←Array.foldl_toList,Array.toList_zip,Array.toList_zip];exact this
omit H in
theorem Vv{l l':Nat}(h:β l l'){x x':Array Value}(hx:aM β x x'):aH L C mY β (Instr.yield l x) (Instr.yield l' x'):=by
 unfold Instr.yield;refine (rV h).bd ?_;intro jg r r' dB hr;rw [←hx.1,hr.params];split
 ·exact (aX.fo aX.halt).rel
 ·rw [hr.fn,hr.assign,hr.body];exact .pure (.round _ _ _ hr.ca hr.cb (dB _ _ h) (HQ _ (hx.mono dB) hr.tmps))
end
end Go.Cx
namespace Go.Cx
open Go
variable[bg][aL][bj]
def mC:Operand->Prop
 | .tmp _=>True
 | .const v=>Plain v
 | .global _=>False
 | .func f=>bg.ok f
def okB:Builtin->Bool
 | .append | .cap | .clear | .len | .max | .min=>true
 | _=>false
def B1:Callee->Prop
 | .value f=>mC f
 | .invoke r _=>mC r
 | .builtin b=>okB b=true
def Kv(L C:Program):Op->Prop
 | .move x | .assign x | .box _ x | .load _ x | .nilCheck x | .unOp _ _ x | .sliceToArrayPointer _ x | .makeInterface _ x | .extract x _ | .panic x=>mC x
 | .typeAssert x _ t _=>mC x/\UH L t
 | .pick c a b=>mC c/\mC a/\mC b
 | .alloc t=>UH L t
 | .build t ps=>(∀p∈ps,mC p.2)/\UH L t
 | .buildSlice t _ ps=>(∀p∈ps,mC p.2)/\NO L t
 | .makeSlice t a x=>mC a/\mC x/\NO L t
 | .store _ a x | .indexAddr _ a x | .index _ a x=>mC a/\mC x
 | .binOp op t x y _=>mC x/\mC y/\(op= .eql\/op= .neq->NY L t/\L.eqGuardType L.depth t=false/\C.eqGuardType C.depth t=false)
 | .convert s d x=>mC x/\(∃k,L.underlying s=some (.int k))/\ ∃k,L.underlying d=some (.int k)
 | .makeFunc (.func f) xs ys=>(∀x∈xs,mC x)/\(∀y∈ys,mC y)/\bg.ok f
 | .slice _ x l h m=>mC x/\(∀y∈l,mC y)/\(∀y∈h,mC y)/\ ∀y∈m,mC y
 | .fieldAddr s x i=>mC x/\ ∀(fs:Array Field) (f:Field) (inf:TypeInfo),L.underlying s=some (.struct fs)->fs[i]? =some f->L.info? f.type=some inf->inf.size≠0
 | .call c=>B1 c.callee/\(∀x∈c.args,mC x)/\ ∀ty∈c.argTypes,NO L ty
 | _=>False
section
variable{L C:Program}{β:Bj}(H:gS L C)
include H
omit H in
omit [aL] in
theorem Eu{v v':Value}(hv:ay β v v')(b:Bool):ay β (.tuple #[v, .bool b]) (.tuple #[v', .bool b]):=(aM.push (aM.one hv) (.bool b)).HE
theorem FF(xt at_:TypeId)(ok:Bool)(J4:UH L at_){v v':Value}(hv:ay β v v'):aH L C ay β (Instr.typeAssert v xt at_ ok) (Instr.typeAssert v' xt at_ ok):=by
 unfold Instr.typeAssert;refine (im H at_).bd ?_;rintro jg d _ dB ⟨rfl, -⟩;have wP:=hv.mono dB;have holds: ∀{β:Bj} {u u':Value},ay β u u'->aH L C ay β (pure (if ok then .tuple #[u, .bool true] else u):Sem Value) (pure (if ok then .tuple #[u', .bool true] else u')):=by
  intro β u u' hu;cases ok with
  | true=>exact .pure (Eu hu true)
  | false=>exact .pure hu
 have Mx: ∀(s d:Option TypeId) (m:String) {β:Bj},aH L C ay β (if ok then do pure (.tuple #[←zeroValue at_, .bool false]) else runtimePanic (.typeAssertion s d at_ m):Sem Value) (if ok then do pure (.tuple #[←zeroValue at_, .bool false]) else runtimePanic (.typeAssertion s d at_ m)):=by
  intro s d m β;split
  ·refine (Km H at_ J4).bd ?_;intro rA z z' jN hz;exact .pure (Eu hz false)
  ·exact bC.rel
 cases d
 case interface ms=>
  cases wP with
  | jb=>exact Mx _ _ _
  | iface t h=>
   refine (lR H t).bd ?_;rintro rA i _ jN ⟨rfl, -⟩;split
   ·exact holds (.iface t (h.mono jN))
   ·exact Mx _ _ _
  | _=>exact ar
 all_goals
  cases wP with
  | jb=>exact Mx _ _ _
  | iface t h=>
   simp only;split
   ·exact holds h
   ·exact Mx _ _ _
  | _=>exact ar
theorem N5(op:BinOp)(t:TypeId)(x y:Operand)(ht:op= .eql\/op= .neq->NY L t/\L.eqGuardType L.depth t=false/\C.eqGuardType C.depth t=false){a a' b b':Value}(ha:ay β a a')(hb:ay β b b'):
  aH L C (iB λ_=>True) β (eqGuard op t x y a b) (eqGuard op t x y a' b'):=by
 unfold eqGuard;by_cases ho:op= .eql\/op= .neq
 ·obtain ⟨h1,h2,h3⟩:=ht ho;rcases ho with rfl | rfl
  all_goals
   simp only [qae,qa6,if_false];cases ha with
   | jb=>
    cases hb with
    | jb=>
     simp only;have:aH L C (λ_ (x x':Bool)=>x=false/\x'=false) β (Op.eqGuardIn Op.maxDepth t .nilIface .nilIface) (Op.eqGuardIn Op.maxDepth t .nilIface .nilIface):=by
      show aH L C _ β (Op.eqGuardIn (9999+1) t .nilIface .nilIface) (Op.eqGuardIn (9999+1) t .nilIface .nilIface);unfold Op.eqGuardIn;refine (im H t).bd ?_;rintro jg d _ dB ⟨rfl,hd⟩;cases h1 with
      | bool h=>rw [h] at hd;cases hd;exact .pure ⟨rfl,rfl⟩
      | int h=>rw [h] at hd;cases hd;exact .pure ⟨rfl,rfl⟩
      | string h=>rw [h] at hd;cases hd;exact .pure ⟨rfl,rfl⟩
      | slice h=>rw [h] at hd;cases hd;exact .pure ⟨rfl,rfl⟩
      | struct h _ _=>rw [h] at hd;cases hd;exact .pure ⟨rfl,rfl⟩
     repeat' split
     all_goals first
      | exact .pure ⟨rfl,trivial⟩
      | (refine this.bd ?_;rintro jg _ _ dB ⟨rfl,rfl⟩;exact .pure ⟨rfl,trivial⟩)
    | @hole b' ho _=>cases b' <;> first | exact ho.elim | exact .pure ⟨rfl,trivial⟩
    | _=>exact .pure ⟨rfl,trivial⟩
   | agg h k=>
    cases hb with
    | agg h' k'=>
     refine .program ?_;show aH L C _ β (do
      if !L.eqGuardType (←program).depth t then return
      if←Op.eqGuardIn Op.maxDepth t _ _ then unsupported _) (do
      if !C.eqGuardType (←program).depth t then return
      if←Op.eqGuardIn Op.maxDepth t _ _ then unsupported _)
     refine .program ?_;show aH L C _ β (do
      if !L.eqGuardType L.depth t then return
      if←Op.eqGuardIn Op.maxDepth t _ _ then unsupported _) (do
      if !C.eqGuardType C.depth t then return
      if←Op.eqGuardIn Op.maxDepth t _ _ then unsupported _)
     rw [h2,h3];exact .pure ⟨rfl,trivial⟩
    | @hole b' ho _=>cases b' <;> first | exact ho.elim | exact .pure ⟨rfl,trivial⟩
    | _=>exact .pure ⟨rfl,trivial⟩
   | @hole a' ho _=>cases a' <;> first | exact ho.elim | exact .pure ⟨rfl,trivial⟩
   | _=>cases hb <;> exact .pure ⟨rfl,trivial⟩
 ·cases op <;> first | exact .pure ⟨rfl,trivial⟩ | exact absurd (.inl rfl) ho | exact absurd (.inr rfl) ho
omit H in
omit [bg] [aL] [bj] in
theorem FG:nO L Instr.panicnil:=by
 have hk: ∀{α:Type} (x:Ask α) (w:World),(w.ask x).2.heap=w.heap:=by
  intro α x
  induction x with
  | done a=>intro w;rfl
  | ask akq range k ih=>
   intro w;unfold World.ask;simp only;split
   ·exact ih _ w
   ·exact ih _ { w with drawn:=w.drawn+1 }
 have hs:nO L (sys .env):=jM λw=>by
  refine .inl ⟨_,_,rfl, ?_⟩;have:=hk (Kernel.perform .env w.os) w;unfold World.sys;generalize w.ask (Kernel.perform .env w.os)=q at this;obtain ⟨⟨r,os⟩,w'⟩:=q;cases r <;> first | exact this | rfl
 unfold Instr.panicnil;refine @fT _ _ _ _ _ hs λd=> ?_;split <;> infer_instance
omit H in
omit [bg] [aL] [bj] in
theorem Kw(v:Value):aX L (Instr.panic v):=by
 unfold Instr.panic;cases v <;> first | exact aX.halt | skip
 refine aX.bind (hm:=FG) λn=> ?_;split
 ·exact aX.halt
 ·exact bC
theorem Oa(b:Builtin)(hb:okB b=true)(ts:Array TypeId)(AP: ∀ty∈ts,NO L ty)(t:TypeId)(cs:Array Bool){x x':Array Value}(hx:aM β x x'):aH L C mY β (builtin b ts t cs x) (builtin b ts t cs x'):=by
 have fin: ∀{s s':Sem Value},aH L C ay β s s'->aH L C mY β (do pure (.value (←s))) (do pure (.value (←s'))):=λh=>h.bd λcq a a' hl ha=> .pure (.value ha);unfold builtin;cases b <;> first | (cases hb;done) | skip
 ·exact fin (Qp H ts t AP hx)
 ·exact fin (ach H ts t hx)
 ·exact fin (Vq H ts t AP hx)
 ·exact fin (acg H ts t hx)
 ·exact fin (acj ts t hx)
 ·exact fin (aci ts t hx)
end
end Go.Cx
namespace Go.Cx
open Go
variable[bg][aL][bj]
section
variable{L C:Program}{β:Bj}(H:gS L C)
include H
theorem HR{t t':Target}(ht:N2 β t t')(hb: ∀b ts u cs,t= .builtin b ts u cs->okB b=true/\ ∀ty∈ts,NO L ty){x x':Array Value}(hx:aM β x x'):aH L C mY β (invoke t x) (invoke t' x'):=by
 unfold invoke;cases ht with
 | nil=>exact bC.rel
 | builtin b ts u cs=>exact Oa H b (hb _ _ _ _ rfl).1 ts (hb _ _ _ _ rfl).2 u cs hx
 | method n=>
  simp only;cases h0:x[0]? with
  | none=>exact ar
  | some v=>
   obtain ⟨v',h1,hv⟩:=hx.get h0;rw [h1];simp only;rw [←hx.1];exact xO H n hv (hx.extract _ _)
 | fn hf hc=>
  cases hf with
  | func f hf=>exact BY H f hf (hx.append hc)
  | yield hl=>exact Vv hl hx
  | method n=>
   simp only;cases h0:x[0]? with
   | none=>exact ar
   | some v=>
    obtain ⟨v',h1,hv⟩:=hx.get h0;rw [h1];simp only;rw [←hx.1];exact xO H n hv (hx.extract _ _)
omit H in
theorem Oc{ρ rS:Operand->Value}(mZ: ∀x,mC x->ay β (ρ x) (rS x))(c:Call)(t:TypeId)(h1:B1 c.callee)(h2: ∀x∈c.args,mC x)(h3: ∀ty∈c.argTypes,NO L ty):
  aH L C (λβ (d d':Deferred)=>aco β d d'/\ ∀b ts u cs,d.target= .builtin b ts u cs->okB b=true/\ ∀ty∈ts,NO L ty) β (resolve ρ c t) (resolve rS c t):=by
 unfold resolve;have ha:aM β (c.args.map ρ) (c.args.map rS):=aM.map λx hx=>mZ x (h2 x hx);revert h1;cases c.callee with
 | builtin b=>
  intro h1;exact .pure ⟨⟨.builtin _ _ _ _,ha⟩,λb' ts u cs q=>by cases q;exact ⟨h1,h3⟩⟩
 | invoke r n=>
  intro h1;exact .pure ⟨⟨.method n,(aM.one (mZ r h1)).append ha⟩,λb' ts u cs q=>by cases q⟩
 | value f=>
  intro h1;have hf:=mZ f h1;unfold Deferred.ofValue;dsimp only;generalize ρ f=u at hf;generalize rS f=u' at hf;cases hf with
  | func g a1 a2 a3 a4=>exact .pure ⟨⟨.fn g ⟨a2,a4⟩,aM.append ⟨a1,a3⟩ ha⟩,λb' ts u cs q=>by cases q⟩
  | pX=>exact .pure ⟨⟨.nil,ha⟩,λb' ts u cs q=>by cases q⟩
  | _=>exact ar
omit H in
theorem nU{s s':Sem Value}(h:aH L C ay β s s'):aH L C mY β (do pure (.value (←s))) (do pure (.value (←s'))):=h.bd λcq a a' hl ha=> .pure (.value ha)
omit H in
omit [aL] in
theorem Kx{ρ rS:Operand->Value}: ∀(l:List (Nat×Operand)),(∀p∈l,ay β (ρ p.2) (rS p.2))->wz β (l.map fun (i,x)=>(i,ρ x)) (l.map fun (i,x)=>(i,rS x))
 | [],_=> .nil
 | (i,x)::l,h=> .cons i (h (i,x) (by simp)) (Kx l λp hp=>h p (by simp [hp]))
omit H in
omit [aL] in
theorem Ky{ρ rS:Operand->Value}(o:Option Operand)(h: ∀y∈o,ay β (ρ y) (rS y)):pg β (o.map ρ) (o.map rS):=by
 cases o with
 | none=>exact .none
 | some y=>exact .some (h y rfl)
theorem Kz{ρ rS:Operand->Value}(mZ: ∀x,mC x->ay β (ρ x) (rS x))(o:Oper)(ho:Kv L C o.op):aH L C mY β (execOp ρ o) (execOp rS o):=by
 unfold execOp;revert ho;cases o.op <;> intro ho <;> try exact False.elim ho
 case move x=>exact .pure (.value (mZ x ho))
 case assign x=>exact .pure (.value (mZ x ho))
 case pick c a b=>
  refine (Qk (mZ c ho.1)).bd ?_;rintro jg z _ hl ⟨rfl, -⟩;cases z with
  | true=>exact .pure (.value ((mZ a ho.2.1).mono hl))
  | false=>exact .pure (.value ((mZ b ho.2.2).mono hl))
 case alloc e=>exact nU (Vh H e ho)
 case box e x=>exact nU (ace e (mZ x ho))
 case build t ps=>
  refine nU (Vp H t ho.2 ?_);rw [Array.toList_map,Array.toList_map];exact Kx _ λp hp=>mZ _ (ho.1 p (by simpa using hp))
 case buildSlice t n ps=>
  refine nU (FC H t n ho.2 ?_);rw [Array.toList_map,Array.toList_map];exact Kx _ λp hp=>mZ _ (ho.1 p (by simpa using hp))
 case load t a=>exact nU (Ql H t (mZ a ho))
 case store t a x=>
  refine (NP H t (mZ a ho.1) (mZ x ho.2)).bd ?_;rintro jg z _ hl ⟨rfl, -⟩;exact .pure .skip
 case nilCheck x=>
  have hx:=mZ x ho;dsimp only;generalize ρ x=u at hx;generalize rS x=u' at hx;cases hx with
  | px=>exact bC.rel
  | jb=>exact bC.rel
  | pX=>exact bC.rel
  | bool b=>exact .pure (.value (.bool b))
  | int k n=>exact .pure (.value (.int k n))
  | string s=>exact .pure (.value (.string s))
  | ptr h=>exact .pure (.value (.ptr h))
  | kT n c=>exact .pure (.value (.kT n c))
  | slice n c h=>exact .pure (.value (.slice n c h))
  | @func _ _ x x' y y' h h1 h2 h3 h4=>
   cases h with
   | func f hf=>exact .pure (.value (.func (.func f hf) h1 h2 h3 h4))
   | yield h=>exact .pure (.value (.func (.yield h) h1 h2 h3 h4))
   | method n=>
    simp only;cases h0:x[0]? with
    | none=>
     have Hx:x'[0]? =none:=by
      rw [Array.getElem?_eq_none_iff] at h0 ⊢;rw [←h1];exact h0
     rw [Hx];exact .pure (.value (.func (.method n) h1 h2 h3 h4))
    | some z=>
     obtain ⟨z',Hx,hz⟩:=aM.get ⟨h1,h3⟩ h0;rw [Hx];cases hz with
     | jb=>exact bC.rel
     | iface t hw=>
      refine .program ?_;show aH L C _ β (nilAhead (L.types.size+Made.depth) t _ n >>= λr=>_) (nilAhead (C.types.size+Made.depth) t _ n >>= λr=>_);rw [H.PU];refine (BZ H _ t n hw).bd ?_;rintro jg r r' dB hr';rw [show r'=r from hr'];by_cases hr:(r != some false)=true
      ·simp only [hr,if_true];exact ar
      ·simp only [hr,if_false];exact .pure (.value ((ay.func (.method n) h1 h2 h3 h4).mono dB))
     | hole ho hp=>cases z' <;> first | exact ho.elim | exact (bj.noI _ _ hp).elim | exact .pure (.value (.func (.method n) h1 h2 h3 h4))
     | _=>exact .pure (.value (.func (.method n) h1 h2 h3 h4))
  | iface t h=>exact .pure (.value (.iface t h))
  | agg h k=>exact .pure (.value (.agg h k))
  | tuple h k=>exact .pure (.value (.tuple h k))
  | hole h k=>cases u' <;> first | exact h.elim | exact .pure (.value (.hole h k)) | (rename_i a;cases a <;> first | exact h.elim | exact .pure (.value (.hole h k))) | (rename_i a _ _;cases a <;> first | exact h.elim | exact .pure (.value (.hole h k)))
 case binOp op t x y u=>
  refine nU ?_;refine (N5 H op t x y ho.2.2 (mZ x ho.1) (mZ y ho.2.1)).bd ?_;rintro jg z _ hl ⟨rfl, -⟩;exact Vu H op t (λq=>(ho.2.2 q).1) ((mZ x ho.1).mono hl) ((mZ y ho.2.1).mono hl)
 case unOp op t x=>exact nU (Vm op (mZ x ho))
 case convert s d x=>exact nU (NV s d H (mZ x ho.1) ho.2.1 ho.2.2)
 case sliceToArrayPointer a x=>exact nU (NT H a (mZ x ho))
 case makeInterface t x=>exact nU (AO H t (mZ x ho))
 case makeFunc fn xs ys=>
  cases fn <;> try exact False.elim ho
  exact nU (Kq (.func _ ho.2.2) (aM.map λx hx=>mZ x (ho.1 x hx)) (aM.map λx hx=>mZ x (ho.2.1 x hx)))
 case makeSlice t a b=>exact nU (HJ H t ho.2.2 (mZ a ho.1) (mZ b ho.2.1))
 case slice t x l h m=>exact nU (NS H t (mZ x ho.1) (Ky l λy hy=>mZ y (ho.2.1 y hy)) (Ky h λy hy=>mZ y (ho.2.2.1 y hy)) (Ky m λy hy=>mZ y (ho.2.2.2 y hy)))
 case fieldAddr s x i=>exact nU (NU H s i ho.2 (mZ x ho.1))
 case indexAddr t a b=>exact nU (NR H t (mZ a ho.1) (mZ b ho.2))
 case index t a b=>exact nU (Vi H t (mZ a ho.1) (mZ b ho.2))
 case typeAssert x a b c=>exact nU (FF H a b c ho.2 (mZ x ho.1))
 case extract x i=>exact nU (NQ i (mZ x ho))
 case call c=>
  refine (Oc mZ c o.type ho.1 ho.2.1 ho.2.2).bd ?_;rintro jg d d' hl ⟨h1,h2⟩;exact HR H h1.target h2 h1.args
 case panic x=>exact aX.rel (aX.fo (Kw _))
end
end Go.Cx
namespace Go.Cx
open Go
section
variable[bg]
inductive cN(L C:Program):Code->Prop
 | skip:cN L C .skip
 | region (id:Nat) {ops:Array Oper} (draw:Bool):(∀o∈ops,Kv L C o.op)->cN L C (.region id ops draw)
 | seq {a b:Code}:cN L C a->cN L C b->cN L C (.seq a b)
 | cond {c:Operand} {a b:Code}:mC c->cN L C a->cN L C b->cN L C (.cond c a b)
 | block (id:Nat) {a:Code}:cN L C a->cN L C (.block id a)
 | loop {a:Code}:cN L C a->cN L C (.loop a)
 | rangeFunc {f:Operand} (ps:Array Tmp) {a b:Code}:mC f->cN L C a->cN L C b->cN L C (.rangeFunc f ps a b)
 | exit (id:Nat):cN L C (.exit id)
 | label (l:Nat):cN L C (.label l)
 | ret:cN L C .ret
end
variable[bg][aL][bj]
inductive qY(L C:Program)(β:Bj):Item->Item->Prop
 | code {c:Code}:cN L C c->qY L C β (.code c) (.code c)
 | inBlock (id:Nat):qY L C β (.inBlock id) (.inBlock id)
 | inLoop {c:Code}:cN L C c->qY L C β (.inLoop c) (.inLoop c)
 | inRegion {ops:Array Oper} (todo:List Nat):(∀o∈ops,Kv L C o.op)->qY L C β (.inRegion ops todo) (.inRegion ops todo)
 | na {l l':Nat}:β l l'->qY L C β (.inRangeFunc l) (.inRangeFunc l')
 | mc {l l':Nat}:β l l'->qY L C β (.endRangeFunc l) (.endRangeFunc l')
 | beginRound:qY L C β .beginRound .beginRound
inductive qa(L C:Program)(β:Bj):List Item->List Item->Prop
 | nil:qa L C β [] []
 | cons {i i':Item} {k k':List Item}:qY L C β i i'->qa L C β k k'->qa L C β (i::k) (i'::k')
inductive oy(β:Bj):List Deferred->List Deferred->Prop
 | nil:oy β [] []
 | cons {r r':Nat} {l l':List Deferred}:β r r'->oy β l l'->oy β ({ target:= .collected r,args:= #[] }::l) ({ target:= .collected r',args:= #[] }::l')
inductive B2(β:Bj):Option Nat->Option Nat->Prop
 | none:B2 β none none
 | some {l l':Nat}:β l l'->B2 β (some l) (some l')
structure j5(L C:Program)(β:Bj)(a b:Frame):Prop where
 fn:b.fn=a.fn
 tmps:aM β a.tmps b.tmps
 todo:qa L C β a.todo b.todo
 defers:oy β a.defers b.defers
 mode:(a.mode= .run/\b.mode= .run)\/(a.mode= .returning/\b.mode= .returning/\a.roundOf=none)
 kind:a.kind= .normal/\b.kind= .normal
 round:B2 β a.roundOf b.roundOf
 zi:a.roundOf=none-> ∃fn,L.funcs[a.fn]? =some fn/\C.funcs[a.fn]? =some fn
section
variable{L C:Program}{β γ:Bj}
omit [aL] [bj] in
theorem qY.mono(l:Le β γ){a b:Item}(h:qY L C β a b):qY L C γ a b:=by
 cases h with
 | code h=>exact .code h
 | inBlock id=>exact .inBlock id
 | inLoop h=>exact .inLoop h
 | inRegion t h=>exact .inRegion t h
 | na h=>exact .na (l _ _ h)
 | mc h=>exact .mc (l _ _ h)
 | beginRound=>exact .beginRound
omit [aL] [bj] in
theorem qa.mono(l:Le β γ){a b:List Item}(h:qa L C β a b):qa L C γ a b:=by
 induction h with
 | nil=>exact .nil
 | cons h _ ih=>exact .cons (h.mono l) ih
omit [bg] [aL] [bj] in
theorem oy.mono(l:Le β γ){a b:List Deferred}(h:oy β a b):oy γ a b:=by
 induction h with
 | nil=>exact .nil
 | cons h _ ih=>exact .cons (l _ _ h) ih
omit [bg] [aL] [bj] in
theorem oy.append{a b c d:List Deferred}(h:oy β a b)(k:oy β c d):oy β (a++c) (b++d):=by
 induction h with
 | nil=>exact k
 | cons h _ ih=>exact .cons h ih
omit [bg] [aL] [bj] in
theorem B2.mono(l:Le β γ){a b:Option Nat}(h:B2 β a b):B2 γ a b:=by
 cases h with
 | none=>exact .none
 | some h=>exact .some (l _ _ h)
omit [aL] in
theorem j5.mono(l:Le β γ){a b:Frame}(h:j5 L C β a b):j5 L C γ a b:=⟨h.fn,h.tmps.mono l,h.todo.mono l,h.defers.mono l,h.mode,h.kind,h.round.mono l,h.zi⟩
omit [aL] in
theorem vC:ay β undef undef:= .tuple rfl λi v v' h=>by simp at h
omit [aL] in
theorem aM.getD{x x':Array Value}(h:aM β x x')(i:Nat):ay β (x.getD i undef) (x'.getD i undef):=by
 cases hx:x[i]? with
 | none=>
  have h2:=h.none hx;have e1:x.getD i undef=undef:=by rw [qak, hx];rfl
  have e2:x'.getD i undef=undef:=by rw [qak, h2];rfl
  rw [e1,e2];exact vC
 | some v=>
  obtain ⟨v',h2,h3⟩:=h.get hx;have e1:x.getD i undef=v:=by rw [qak, hx];rfl
  have e2:x'.getD i undef=v':=by rw [qak, h2];rfl
  rw [e1,e2];exact h3
omit [aL] in
theorem j5.eval{a b:Frame}(h:j5 L C β a b): ∀x,mC x->ay β (a.eval x) (b.eval x):=by
 intro x hx;cases x with
 | tmp t=>exact h.tmps.getD t
 | const v=>exact (show Plain v from hx).rel
 | global g=>exact hx.elim
 | func f=>exact .func (.func f hx) rfl rfl (λi v v' q=>by simp at q) (λi v v' q=>by simp at q)
omit [aL] [bj] in
theorem B3(id:Nat){k k':List Item}(h:qa L C β k k'):(exitTo id k=none/\exitTo id k'=none)\/ ∃q q',exitTo id k=some q/\exitTo id k'=some q'/\qa L C β q q':=by
 induction h with
 | nil=>exact .inl ⟨rfl,rfl⟩
 | @cons i i' k k' hi hk ih=>
  cases hi with
  | inBlock id'=>
   unfold exitTo;by_cases hq:(id'==id)=true
   ·simp only [hq,if_true];exact .inr ⟨_,_,rfl,rfl,hk⟩
   ·simp only [hq,if_false];exact ih
  | _=>exact ih
omit [aL] in
theorem HS(ops:Array Oper){x x':Array Value}(h:aM β x x'):yielded ops x=yielded ops x':=by
 funext j;unfold yielded;cases (ops[j]?).bind (·.dst) with
 | none=>rfl
 | some d=>
  simp only [qa0];cases hx:x[d]? with
  | none=>rw [h.none hx]
  | some v=>
   obtain ⟨v',h2,h3⟩:=h.get hx;rw [h2];cases h3 with
   | hole ho _=>cases v' <;> first | rfl | exact ho.elim
   | _=>rfl
omit [aL] in
theorem j5.finish{a b:Frame}(h:j5 L C β a b){v v':Value}(hv:ay β v v'):j5 L C β (a.finish v) (b.finish v'):=by
 obtain ⟨h1,h2,h3,h4,h5,h6,h7,h8⟩:=h;obtain ⟨fn,tm,todo,df,md,kd,ro⟩:=a;obtain ⟨kl,Ev,uO,J5,KA,Hy,Ew⟩:=b;simp only at h1 h2 h3 h4 h5 h6 h7;cases h3 with
 | nil=>exact ⟨h1,h2, .nil,h4,h5,h6,h7,h8⟩
 | cons hi hk=>
  cases hi with
  | code h=>exact ⟨h1,h2, .cons (.code h) hk,h4,h5,h6,h7,h8⟩
  | inBlock id=>exact ⟨h1,h2, .cons (.inBlock id) hk,h4,h5,h6,h7,h8⟩
  | inLoop h=>exact ⟨h1,h2, .cons (.inLoop h) hk,h4,h5,h6,h7,h8⟩
  | @inRegion ops t h=>
   cases t with
   | nil=>exact ⟨h1,h2, .cons (.inRegion [] h) hk,h4,h5,h6,h7,h8⟩
   | cons i t=>
    refine ⟨h1, ?_, .cons (.inRegion t h) hk,h4,h5,h6,h7,h8⟩;show aM β (match (ops[i]?).bind (·.dst) with | some d=>tm.setIfInBounds d v | none=>tm) (match (ops[i]?).bind (·.dst) with | some d=>Ev.setIfInBounds d v' | none=>Ev);cases (ops[i]?).bind (·.dst) with
    | none=>exact h2
    | some d=>exact h2.set hv d
  | na hl=>exact ⟨h1,h2, .cons (.mc hl) hk,h4,h5,h6,h7,h8⟩
  | mc hl=>exact ⟨h1,h2, .cons (.mc hl) hk,h4,h5,h6,h7,h8⟩
  | beginRound=>exact ⟨h1,h2,hk,h4,h5,h6,h7,h8⟩
end
end Go.Cx
namespace Go.Cx
open Go
variable[bg][aL][bj]
abbrev ic(a:Frame)(cs:List Frame):Goroutine:={ frame:=a,callers:=cs,status:= .running,dying:=none }
structure PF(L C:Program)(Xs:FuncId->Prop):Prop where
 same: ∀f,bg.ok f->bg.uj f-> ¬Xs f-> ∃(fn:Func) (c:Code),L.funcs[f]? =some fn/\C.funcs[f]? =some fn/\fn.body=some c/\cN L C c
 follows:C.follows .mixedOrders=L.follows .mixedOrders
 code: ∀c,aL.code c↔cN L C c
omit [bg] [aL] [bj] in
theorem HT{p:Program}{f:FuncId}{es:Array Event}{e:Event}(h:e∈seen p f es):e∈es:=by
 have key: ∀(l:List Event) (F:Bool×Array Event->Event->Bool×Array Event),(∀q x,(F q x).2=q.2\/(F q x).2=q.2.push x)-> ∀(q:Bool×Array Event) (e:Event),e∈(l.foldl F q).2->e∈q.2\/e∈l:=by
  intro l F hF
  induction l with
  | nil=>intro q e h;exact .inl h
  | cons x l ih=>
   intro q e h;rcases ih _ e h with h | h
   ·rcases hF q x with hq | hq
    ·rw [hq] at h;exact .inl h
    ·rw [hq] at h;rcases Array.mem_push.1 h with h | h
     ·exact .inl h
     ·exact .inr (by simp [h])
   ·exact .inr (by simp [h])
 unfold seen at h;simp only at h;rw [←Array.foldl_toList] at h;refine (key es.toList _ ?_ _ e h).elim (λh=> ?_) (λh=> ?_)
 rotate_left
 ·simp at h
 ·simpa using h
 ·rintro ⟨q1,q2⟩ x;split
  ·exact .inl rfl
  ·simp only;split
   ·exact .inl rfl
   ·exact .inr rfl
inductive cM(L C:Program)(β:Bj):List Frame->List Frame->Prop
 | one {a b:Frame}:j5 L C β a b->a.roundOf=none->cM L C β [a] [b]
 | cons {a b:Frame} {k k':List Frame}:j5 L C β a b->cM L C β k k'->cM L C β (a::k) (b::k')
omit [aL] in
theorem cM.mono{L C:Program}{β γ:Bj}(l:Le β γ){a b:List Frame}(h:cM L C β a b):cM L C γ a b:=by
 induction h with
 | one h hr=>exact .one (h.mono l) hr
 | cons h _ ih=>exact .cons (h.mono l) ih
omit [aL] in
theorem cM.swap{L C:Program}{β:Bj}{a b a2 b2:Frame}{k k':List Frame}(h:cM L C β (a::k) (b::k'))(hf:j5 L C β a2 b2)(hr:a2.roundOf=a.roundOf):cM L C β (a2::k) (b2::k'):=by
 cases h with
 | one _ h2=>exact .one hf (hr.trans h2)
 | cons _ h=>exact .cons hf h
omit [aL] in
theorem cM.top{L C:Program}{β:Bj}{a b:Frame}{k k':List Frame}(h:cM L C β (a::k) (b::k')):j5 L C β a b:=by
 cases h with
 | one h _=>exact h
 | cons h _=>exact h
omit [bg] [aL] [bj] in
theorem lC(a:Frame)(v:Value):(a.finish v).roundOf=a.roundOf:=by
 unfold Frame.finish;split <;> rfl
inductive My(L C:Program)(Xs:FuncId->Prop)(β:Bj)(base pj:List Frame):Goroutine->Goroutine->Prop
 | on {a b:Frame} {k k':List Frame}:cM L C β (a::k) (b::k')->My L C Xs β base pj (ic a (k++base)) (ic b (k'++pj))
 | enter (f:FuncId) {x x':Array Value} {k k':List Frame}:Xs f->aM β x x'->cM L C β k k'->My L C Xs β base pj (ic (Frame.enter L f x .normal) (k++base)) (ic (Frame.enter C f x' .normal) (k'++pj))
omit [aL] in
theorem aM.rep{β:Bj}(n:Nat):aM β (Array.replicate n undef) (Array.replicate n undef):=by
 refine ⟨rfl,λi v v' h h'=> ?_⟩;rw [h] at h';cases h';rw [Array.getElem?_replicate] at h;split at h
 ·cases h;exact vC
 ·cases h
omit [aL] in
theorem pQ{L C:Program}{β:Bj}{f:FuncId}{fn:Func}{c:Code}(h1:L.funcs[f]? =some fn)(h2:C.funcs[f]? =some fn)(h3:fn.body=some c)(h4:cN L C c){x x':Array Value}(hx:aM β x x'):j5 L C β (Frame.enter L f x .normal) (Frame.enter C f x' .normal):=by
 unfold Frame.enter;rw [h1,h2];simp only [qac,qcb,qa0,h3, ←hx.1];exact ⟨rfl,hx.append (aM.rep _), .cons (.code h4) .nil, .nil, .inl ⟨rfl,rfl⟩,⟨rfl,rfl⟩, .none,λ_=>⟨fn,h1,h2⟩⟩
omit [aL] in
theorem Od{L C:Program}{β:Bj}{l l':Nat}{f:FuncId}{ca cb:Code}(h1:cN L C ca)(h2:cN L C cb)(hl:β l l'){x x':Array Value}(hx:aM β x x'):j5 L C β (Frame.round l f x ca cb .normal) (Frame.round l' f x' ca cb .normal):=
 ⟨rfl,hx, .cons (.code h1) (.cons .beginRound (.cons (.code h2) .nil)), .nil, .inl ⟨rfl,rfl⟩,⟨rfl,rfl⟩, .some hl,λq=>by cases q⟩
def di(g:Goroutine):Prop:= ∃ch,g.frame.mode= .panicking ch
section
variable{L C:Program}{Xs:FuncId->Prop}{β:Bj}
omit [bg] [aL] [bj] in
theorem uP{es es1:Array Event}{t:GStep}{g:Goroutine}{w:World}(h:GStep.after es t= .go g w es1): ∃tl,t= .go g w tl:=by
 cases t <;> simp only [GStep.after] at h <;> cases h;exact ⟨_,rfl⟩
omit [bg] [aL] [bj] in
theorem pS(fr:Frame)(vs:List PanicEntry): ∃ch,(fr.raise vs).mode= .panicking ch:=by
 unfold Frame.raise;split
 ·exact ⟨_,rfl⟩
 ·exact ⟨_,rfl⟩
theorem Oe(HP:gS L C)(HF:PF L C Xs){a b:Frame}{k k' base pj:List Frame}(gq:cM L C β (a::k) (b::k')){s s':Sem Next}(hs:aH L C mY β s s'){w W w1:World}{g1:Goroutine}{es:Array Event}
  (hw:cH β w W) (ht:iR w W) (h:stepG.apply L true a (k++base) none s w= .go g1 w1 es) (hp: ¬di g1):
  ∃cq W1 xP Ey,stepG.apply C true b (k'++pj) none s' W= .go xP W1 Ey/\My L C Xs cq base pj g1 xP/\cH cq w1 W1/\mX β cq w w1 W W1/\ ∀e∈Ey,uk cq w1 e:=by
 have ha:=gq.top;have HU:(a.kind== .early)=false:=by rw [ha.kind.1];rfl
 have zj:(b.kind== .early)=false:=by rw [ha.kind.2];rfl
 have kA:stepG.apply.match_1 (λ_=>CallKind) a.todo (λd resume saved tail=>CallKind.wrapped) (λx=>CallKind.normal)= .normal:=by
  have:=ha.todo;generalize a.todo=ta at this;generalize b.todo=tb at this;cases this with
  | nil=>rfl
  | cons hi _=>cases hi <;> rfl
 have kB:stepG.apply.match_1 (λ_=>CallKind) b.todo (λd resume saved tail=>CallKind.wrapped) (λx=>CallKind.normal)= .normal:=by
  have:=ha.todo;generalize a.todo=ta at this;generalize b.todo=tb at this;cases this with
  | nil=>rfl
  | cons hi _=>cases hi <;> rfl
 unfold stepG.apply at h ⊢;simp only [HU,zj,kA,kB,if_true,qa6,if_false] at h ⊢;rcases hR:s.runT L w #[] with ⟨r,uE⟩
 rw [hR] at h;obtain ⟨tl,h⟩:=uP h;have bU:s.run L w=r:=by rw [←Sem.runT_fst L s w #[],hR]
 cases r with
 | halt hh w2=>
  exfalso;have As:=(hs.BQ hw bU).1;cases hh with
  | panic v=>cases h;exact hp (pS _ _)
  | stuck s=>cases h
  | unsupported u=>
   cases u with
   | initOrder g=>exact As g rfl
   | _=>cases h
  | _=>exact As.elim
 | ok n w2=>
  obtain ⟨n',W1,cq,Ey,e1,e2,e3,e4,e5⟩:=hs.run #[] hw ht bU;rw [e1];simp only [Array.empty_append];have tW: ∀e∈seen C b.fn Ey,uk cq w2 e:=λe he=>e5 e (HT he);cases e2 with
  | value hv=>
   cases h;exact ⟨cq,W1,_,_,rfl, .on ((gq.mono e4.le).swap ((ha.mono e4.le).finish hv) (lC _ _)),e3,e4,by simpa [GStep.after] using tW⟩
  | skip=>
   cases h;exact ⟨cq,W1,_,_,rfl, .on ((gq.mono e4.le).swap ((ha.mono e4.le).finish vC) (lC _ _)),e3,e4,by simpa [GStep.after] using tW⟩
  | enter f um qS hx=>
   cases h;by_cases hX:Xs f
   ·exact ⟨cq,W1,_,_,rfl, .enter (k:=a::k) (k':=b::k') f hX hx (gq.mono e4.le),e3,e4,by simpa [GStep.after] using tW⟩
   ·obtain ⟨fn,c,g1,g2,g3,g4⟩:=HF.same f um qS hX;exact ⟨cq,W1,_,_,rfl, .on (k:=a::k) (k':=b::k') (.cons (pQ g1 g2 g3 g4 hx) (gq.mono e4.le)),e3,e4,by simpa [GStep.after] using tW⟩
  | round f ca cb hca ZD hl hx=>
   cases h;exact ⟨cq,W1,_,_,rfl, .on (k:=a::k) (k':=b::k') (.cons (Od ((HF.code _).1 hca) ((HF.code _).1 ZD) hl hx) (gq.mono e4.le)),e3,e4,by simpa [GStep.after] using tW⟩
end
end Go.Cx
namespace Go.Cx
open Go
variable[bg][aL][bj]
section
variable{L C:Program}{β:Bj}
theorem HV{o o':Obj}(h:zd β o o'):aH L C (λβ (x x':Nat)=>β x x') β (newObj o) (newObj o'):=
 .new h λγ r r' hl hr=> .pure hr
theorem uQ(fn:FuncId){x x':Array Value}(ps:Array Tmp){a b:Code}{o o':Option Nat}(hx:aM β x x')(ha:aL.code a)(hb:aL.code b)(ho:B2 β o o'):
  aH L C (λβ (y y':Nat×List Deferred)=>β y.1 y'.1/\oy β y.2 y'.2) β (Instr.enterLoop fn x ps a b o) (Instr.enterLoop fn x' ps a b o'):=by
 unfold Instr.enterLoop;have tail: ∀{jg:Bj} (d d':Nat) (m m':List Deferred),Le β jg->jg d d'->oy jg m m'->aH L C (λβ (y y':Nat×List Deferred)=>β y.1 y'.1/\oy β y.2 y'.2) jg
   (newObj (.loop { state:= .ready,pending:=none,fn,tmps:=x,params:=ps,assign:=a,body:=b,defers:=d }) >>= λq=>pure (q,m))
   (newObj (.loop { state:= .ready,pending:=none,fn,tmps:=x',params:=ps,assign:=a,body:=b,defers:=d' }) >>= λq=>pure (q,m')):=by
  intro jg d d' m m' dB h1 h2;refine (HV (β:=jg) (.loop (l:={ state:= .ready,pending:=none,fn,tmps:=x,params:=ps,assign:=a,body:=b,defers:=d }) (l':={ state:= .ready,pending:=none,fn,tmps:=x',params:=ps,assign:=a,body:=b,defers:=d' }) ⟨rfl,rfl,rfl,hx.mono dB,rfl,rfl,rfl,h1,ha,hb,λc h=>by cases h⟩)).bd ?_;intro rA l l' jN hl;exact .pure ⟨hl,h2.mono jN⟩
 cases ho with
 | none=>
  refine (HV (.DF true)).bd λjg r r' hl hr=> ?_;exact tail r r' _ _ hl hr (.cons hr .nil)
 | some hl=>
  refine (rV hl).bd λjg r r' hl hr=> ?_;exact tail _ _ _ _ hl hr.defers .nil
theorem zk{l l':Nat}(h:β l l'){r r':Loop}(hr:Kk β r r'):aH L C (iB λ_=>True) β (setObj l (.loop r)) (setObj l' (.loop r')):=
 .setObj h (.loop hr) (λc e f q=>by cases q) (.pure ⟨rfl,trivial⟩)
theorem tn{l l':Nat}(h:β l l'):aH L C (λ_ _ _=>True) β (Instr.beginRound l) (Instr.beginRound l'):=by
 unfold Instr.beginRound;refine (rV h).bd ?_;intro jg r r' dB hr;refine aH.bd (RA:=iB λ_=>True) (zk (dB _ _ h) ⟨rfl,hr.pending,hr.fn,hr.tmps,hr.params,hr.assign,hr.body,hr.defers,hr.ca,hr.cb,hr.cp⟩) ?_;intro rA _ _ jN _;rw [hr.state];cases r.state with
 | ready=>exact .pure trivial
 | _=>exact bC.rel
theorem wT{l l':Nat}(h:β l l')(j:Option Code)(hj: ∀c,j=some c->aL.code c):aH L C ay β (Instr.endRound l j) (Instr.endRound l' j):=by
 unfold Instr.endRound;refine (rV h).bd ?_;intro jg r r' dB hr;refine aH.bd (RA:=iB λ_=>True) (zk (dB _ _ h) ⟨rfl,rfl,hr.fn,hr.tmps,hr.params,hr.assign,hr.body,hr.defers,hr.ca,hr.cb,hj⟩) ?_;intro rA _ _ jN _;exact .pure (.bool _)
theorem zl{l l':Nat}(h:β l l'):aH L C (iB λx=> ∀c,x=some c->aL.code c) β (Instr.endLoop l) (Instr.endLoop l'):=by
 unfold Instr.endLoop;refine (rV h).bd ?_;intro jg r r' dB hr;rw [hr.state];split
 ·exact (aX.fo bC).rel
 ·refine aH.bd (RA:=iB λ_=>True) (zk (dB _ _ h) ⟨rfl,hr.pending,hr.fn,hr.tmps,hr.params,hr.assign,hr.body,hr.defers,hr.ca,hr.cb,hr.cp⟩) ?_;intro rA _ _ jN _;rw [hr.pending];exact .pure ⟨rfl,hr.cp⟩
theorem qb{l l':Nat}(h:β l l'):aH L C (λ_ (x x':List Deferred)=>x=[]/\x'=[]) β (Instr.takeDeferred l) (Instr.takeDeferred l'):=by
 unfold Instr.takeDeferred;refine aH.bd (RA:=th) (.getObj h λo o' ho=> .pure ho) ?_;intro jg o o' dB ho;cases ho with
 | DF b=>
  cases b with
  | false=>exact ar
  | true=>
   refine aH.bd (RA:=iB λ_=>True) (.setObj (dB _ _ h) (.DF false) (λc e f q=>by cases q) (.pure ⟨rfl,trivial⟩)) ?_;intro rA _ _ jN _;exact .pure ⟨rfl,rfl⟩
 | _=>exact ar
omit [aL] in
theorem pd.array{l l':List Value}(h:pd β l l'):aM β l.toArray l'.toArray:=by
 have key: ∀{l l':List Value},pd β l l'->l.length=l'.length/\ ∀(i:Nat) (v v':Value),l[i]? =some v->l'[i]? =some v'->ay β v v':=by
  intro l l' h
  induction h with
  | nil=>exact ⟨rfl,λi v v' h=>by simp at h⟩
  | cons hv _ ih=>
   refine ⟨by simp [ih.1],λi u u' h h'=> ?_⟩;cases i with
   | zero=>simp at h h';subst h;subst h';exact hv
   | succ i=>simp at h h';exact ih.2 i u u' h h'
 obtain ⟨h1,h2⟩:=key h;exact ⟨by simpa using h1,λi v v' a b=>h2 i v v' (by simpa using a) (by simpa using b)⟩
theorem vD(H:gS L C)(fn:Func){x x':Array Value}(hx:aM β x x'):aH L C ay β (results fn x) (results fn x'):=by
 unfold results;refine aH.bd (RA:=aM) ?_ ?_
 ·rw [Array.mapM_eq_mapM_toList,Array.mapM_eq_mapM_toList];have key: ∀(l:List ResultVar) {β:Bj},aM β x x'->aH L C pd β (l.mapM fun | .tmp t=>pure (x.getD t undef) | .cell a t=>do loadVar t (←asAddr (x.getD a undef))) (l.mapM fun | .tmp t=>pure (x'.getD t undef) | .cell a t=>do loadVar t (←asAddr (x'.getD a undef))):=by
   intro l
   induction l with
   | nil=>intro β _;simp only [List.mapM_nil];exact .pure .nil
   | cons r l ih=>
    intro β hx;simp only [List.mapM_cons];refine aH.bd (RA:=ay) ?_ ?_
    ·cases r with
     | tmp t=>exact .pure (hx.getD t)
     | cell a t=>exact (xH (hx.getD a)).bd λjg v v' hl hv=>vA H t hv
    ·intro jg v v' dB hv;refine (ih (hx.mono dB)).bd ?_;intro rA vs vs' jN Vw;exact .pure (.cons (hv.mono jN) Vw)
  rw [map_eq_pure_bind,map_eq_pure_bind];refine (key fn.results.toList hx).bd ?_;intro jg l l' hl hls;exact .pure hls.array
 ·intro jg v v' hl hv;refine .pure ?_;by_cases h1:v.size=1
  ·have h2:v'.size=1:=hv.1▸h1;rw [dif_pos h1,dif_pos h2];exact hv.2 0 _ _ (Array.getElem?_eq_getElem (by omega)) (Array.getElem?_eq_getElem (by omega))
  ·have h2: ¬v'.size=1:=hv.1▸h1;rw [dif_neg h1,dif_neg h2];exact hv.HE
end
end Go.Cx
namespace Go.Cx
open Go
variable[bg][aL][bj]
inductive Out(L C:Program)(Xs:FuncId->Prop)(t:Frame)(r bs':List Frame)(β:Bj)(g g':Goroutine):Prop
 | on:My L C Xs β (t::r) bs' g g'->Out L C Xs t r bs' β g g'
 | back {v v':Value} {t':Frame} {r':List Frame}:ay β v v'->g=ic (t.finish v) r->bs'=t'::r'->g'=ic (t'.finish v') r'->Out L C Xs t r bs' β g g'
def AR(L C:Program)(Xs:FuncId->Prop)(t:Frame)(r bs':List Frame)(β:Bj)(w W w1:World)(g1:Goroutine)(T:GStep):Prop:=
 ∃cq W1 xP Ey,T= .go xP W1 Ey/\Out L C Xs t r bs' cq g1 xP/\cH cq w1 W1/\mX β cq w w1 W W1/\ ∀e∈Ey,uk cq w1 e
section
variable{L C:Program}{Xs:FuncId->Prop}{β:Bj}{t:Frame}{r bs':List Frame}{w W w1:World}{g1:Goroutine}
theorem KB{β cq:Bj}{w2 W2:World}{es:Array Event}{T:GStep}(hT:mX β cq w w2 W W2)(he: ∀e∈es,uk cq w2 e)(h:AR L C Xs t r bs' cq w2 W2 w1 g1 T):AR L C Xs t r bs' β w W w1 g1 (GStep.after es T):=by
 obtain ⟨γ,W1,xP,Ey,h1,h2,h3,h4,h5⟩:=h;subst h1;refine ⟨γ,W1,xP,es++Ey,rfl,h2,h3,hT.trans h4,λe q=> ?_⟩;rcases qca.1 q with q | q
 ·exact (he e q).nN h4
 ·exact h5 e q
theorem uR{α:Type}{RA:Bj->α->α->Prop}{s s':Sem α}(hs:aH L C RA β s s')(hw:cH β w W)(ht:iR w W){f f':FuncId}{F F':Result α->GStep}{es:Array Event}
  (h:GStep.after (seen L f (s.runT L w #[]).2) (F (s.runT L w #[]).1)= .go g1 w1 es) (hh: ∀q w2 tl,F (.halt q w2)= .go g1 w1 tl->False)
  (um: ∀cq v v' w2 W2 tl,RA cq v v'->cH cq w2 W2->iR w2 W2->mX β cq w w2 W W2->F (.ok v w2)= .go g1 w1 tl->AR L C Xs t r bs' cq w2 W2 w1 g1 (F' (.ok v' W2))):
  AR L C Xs t r bs' β w W w1 g1 (GStep.after (seen C f' (s'.runT C W #[]).2) (F' (s'.runT C W #[]).1)):=by
 obtain ⟨tl,h⟩:=uP h;rw [Sem.runT_fst] at h;cases bU:s.run L w with
 | halt q w2=>rw [bU] at h;exact (hh _ _ _ h).elim
 | ok v w2=>
  rw [bU] at h;obtain ⟨v',W2,cq,Ey,e1,e2,e3,e4,e5⟩:=hs.run #[] hw ht bU;rw [e1];refine KB e4 (λe q=> ?_) (um cq v v' w2 W2 tl e2 e3 (ht.nN e4) e4 h);simp only [Array.empty_append] at q;exact e5 e (HT q)
theorem qZ{β:Bj}{T:GStep}{xP:Goroutine}(hT:T= .go xP W)(ho:Out L C Xs t r bs' β g1 xP)(hw:cH β w W):AR L C Xs t r bs' β w W w g1 T:=
 ⟨β,W,xP, #[],hT,ho,hw,mX.refl _ _ _,λe q=>by simp at q⟩
theorem Mz{a b:Frame}{k k':List Frame}{m m':Bool}(gq:cM L C β (a::k) (b::k'))(PW:bs'≠[]\/k≠[]){v v':Value}(hv:ay β v v')(hw:cH β w W){es:Array Event}
  (h:doReturn L m a (k++t::r) none v w= .go g1 w1 es):AR L C Xs t r bs' β w W w1 g1 (doReturn C m' b (k'++bs') none v' W):=by
 have ha:=gq.top;unfold doReturn at h ⊢;rw [ha.kind.1] at h;rw [ha.kind.2];cases gq with
 | one _ hr=>
  obtain ⟨t',r',rfl⟩: ∃t' r',bs'=t'::r':=by
   cases bs' with
   | nil=>rcases PW with h | h <;> exact absurd rfl h
   | cons t' r'=>exact ⟨t',r',rfl⟩
  simp only [qba] at h ⊢;cases h;exact qZ rfl (.back hv rfl rfl rfl) hw
 | cons _ hk=>
  cases hk with
  | one h2 hr=>
   simp only [qbr,qba] at h ⊢;cases h;exact qZ rfl (.on (.on (k:=[]) (k':=[]) (.one (h2.finish hv) ((lC _ _).trans hr)))) hw
  | cons h2 hk=>
   simp only [qbr] at h ⊢;cases h;exact qZ rfl (.on (.on (.cons (h2.finish hv) hk))) hw
end
end Go.Cx
namespace Go.Cx
open Go
variable[bg][aL][bj]
def Lv(p:Program)(main:Bool)(fr:Frame)(cs:List Frame)(w:World)(jump:Option Code):GStep:=
 match fr.roundOf with
 | none=>if jump matches none | some .ret then .go { frame:={ fr with mode:= .returning },callers:=cs,status:= .running,dying:=none } w else .ended (.stuck "exit, goto: no such block or label" (fr.pos p)) w
 | some l=>
  GStep.after (seen p fr.fn ((Instr.endRound l jump).runT p w #[]).2) <| match ((Instr.endRound l jump).runT p w #[]).1 with
  | .ok v w=>doReturn p main fr cs none v w
  | .halt _ w=> .ended (.stuck "range over a function: no such loop" (fr.pos p)) w
section
variable{L C:Program}{Xs:FuncId->Prop}{β:Bj}{t:Frame}{r bs':List Frame}{w W w1:World}{g1:Goroutine}
omit [bg] [aL] [bj] in
theorem FH(p:Program)(m:Bool)(a:Frame)(cs:List Frame)(w:World)(h:a.todo=[]):stepG.exec p m true a cs none w=Lv p m a cs w none:=by
 obtain ⟨fn,tm,todo,df,md,kd,ro⟩:=a;simp only at h;subst h;rfl
omit [bg] [aL] [bj] in
theorem FI(p:Program)(m:Bool)(a:Frame)(k:List Item)(cs:List Frame)(w:World)(h:a.todo= .code .ret::k):stepG.exec p m true a cs none w=Lv p m a cs w (some .ret):=by
 obtain ⟨fn,tm,todo,df,md,kd,ro⟩:=a;simp only at h;subst h;rfl
omit [bg] [aL] [bj] in
theorem Bq(p:Program)(m:Bool)(a:Frame)(id:Nat)(k:List Item)(cs:List Frame)(w:World)(h:a.todo= .code (.exit id)::k)(hx:exitTo id k=none):stepG.exec p m true a cs none w=Lv p m a cs w (some (.exit id)):=by
 obtain ⟨fn,tm,todo,df,md,kd,ro⟩:=a;simp only at h;subst h;unfold stepG.exec Lv;simp only [hx];rfl
omit [aL] in
theorem j5.acr{a b:Frame}(h:j5 L C β a b){x x':List Item}(hx:qa L C β x x'):j5 L C β { a with todo:=x } { b with todo:=x' }:=⟨h.fn,h.tmps,hx,h.defers,h.mode,h.kind,h.round,h.zi⟩
omit [aL] in
theorem cM.todo{a b:Frame}{k k':List Frame}(h:cM L C β (a::k) (b::k')){x x':List Item}(hx:qa L C β x x'):cM L C β ({ a with todo:=x }::k) ({ b with todo:=x' }::k'):=h.swap (h.top.acr hx) rfl
theorem KC(HF:PF L C Xs){a b:Frame}{k k':List Frame}{m m':Bool}(gq:cM L C β (a::k) (b::k'))(hm:a.mode= .run){j:Option Code}(hj: ∀c,j=some c->cN L C c)(hw:cH β w W)(ht:iR w W){es:Array Event}
  (h:Lv L m a (k++t::r) w j= .go g1 w1 es):AR L C Xs t r bs' β w W w1 g1 (Lv C m' b (k'++bs') W j):=by
 have ha:=gq.top;obtain ⟨fn,tm,todo,df,md,kd,ro⟩:=a;obtain ⟨kl,Ev,uO,J5,KA,Hy,Ew⟩:=b;have wU:=ha.round;simp only at wU hm;unfold Lv at h ⊢;cases wU with
 | none=>
  simp only at h ⊢;split at h
  all_goals first
   | (cases h;exact qZ rfl (.on (.on (gq.swap ⟨ha.fn,ha.tmps,ha.todo,ha.defers, .inr ⟨rfl,rfl,rfl⟩,ha.kind,ha.round,ha.zi⟩ rfl))) hw)
   | (simp at h)
 | some hl=>
  simp only at h ⊢;refine uR (F:=λq=>match q with
   | .ok v w=>doReturn L m _ (k++t::r) none v w
   | .halt _ w=> .ended (.stuck "range over a function: no such loop" _) w) (F':=λq=>match q with
   | .ok v w=>doReturn C m' _ (k'++bs') none v w
   | .halt _ w=> .ended (.stuck "range over a function: no such loop" _) w) (wT hl j λc hc=>(HF.code c).2 (hj c hc)) hw ht h ?_ ?_
  ·intro q w2 tl h;cases h
  ·intro cq v v' w2 W2 tl hv uF ht2 hT h;refine Mz (gq.mono hT.le) (.inr λq=> ?_) hv uF h;subst q;cases gq with
   | one _ q=>cases q
   | cons _ q=>cases q
theorem wV(HP:gS L C)(HF:PF L C Xs){a b:Frame}{k k':List Frame}(gq:cM L C β (a::k) (b::k')){s s':Sem Next}(hs:aH L C mY β s s')(hw:cH β w W)(ht:iR w W){es:Array Event}
  (h:stepG.apply L true a (k++t::r) none s w= .go g1 w1 es) (hp: ¬di g1):AR L C Xs t r bs' β w W w1 g1 (stepG.apply C true b (k'++bs') none s' W):=by
 obtain ⟨cq,W1,xP,Ey,h1,h2,h3,h4,h5⟩:=Oe HP HF gq hs hw ht h hp;exact ⟨cq,W1,xP,Ey,h1, .on h2,h3,h4,h5⟩
end
end Go.Cx
namespace Go.Cx
open Go
variable[bg][aL][bj]
section
variable{L C:Program}{Xs:FuncId->Prop}{β:Bj}{t:Frame}{r bs':List Frame}{w W w1:World}{g1:Goroutine}
theorem KD(HP:gS L C){ρ rS:Operand->Value}{f:Operand}{v v':Value}(hf:ay β (ρ f) (rS f))(hv:ay β (ρ (.const v)) (rS (.const v'))):
  aH L C mY β (do let d←resolve ρ { callee:= .value f,args:= #[.const v],argTypes:= #[] } 0;invoke d.target d.args) (do let d←resolve rS { callee:= .value f,args:= #[.const v'],argTypes:= #[] } 0;invoke d.target d.args):=by
 refine aH.bd (RA:=λβ (d d':Deferred)=>aco β d d'/\ ∀b ts u cs,d.target= .builtin b ts u cs->okB b=true/\ ∀ty∈ts,NO L ty) ?_ ?_
 ·unfold resolve;have ha:aM β (#[Operand.const v].map ρ) (#[Operand.const v'].map rS):=by
   simp only [qb8,qaz,qbm];exact aM.one hv
  dsimp only;unfold Deferred.ofValue;generalize ρ f=u at hf;generalize rS f=u' at hf;cases hf with
  | func g a1 a2 a3 a4=>exact .pure ⟨⟨.fn g ⟨a2,a4⟩,aM.append ⟨a1,a3⟩ ha⟩,λb' ts u cs q=>by cases q⟩
  | pX=>exact .pure ⟨⟨.nil,ha⟩,λb' ts u cs q=>by cases q⟩
  | _=>exact ar
 ·intro jg d d' hl ⟨h1,h2⟩;exact HR HP h1.target h2 h1.args
omit [bg] [aL] [bj] in
theorem Br(p:Program)(a:Frame)(cs:List Frame)(w:World){o:Oper}(ho:a.oper? =some o)(hd: ∀c,o.op≠ .defer c):stepG.oper p true a cs none w=stepG.apply p true a cs none (execOp a.eval o) w:=by
 unfold stepG.oper;rw [ho];simp only;split
 ·rename_i q;exact absurd q (hd _)
 ·rfl
theorem Qx(HP:gS L C)(HF:PF L C Xs){a b:Frame}{k k':List Frame}{m m':Bool}(gq:cM L C β (a::k) (b::k'))(hm:a.mode= .run)(hw:cH β w W)(ht:iR w W){es:Array Event}
  (h:stepG.exec L m true a (k++t::r) none w= .go g1 w1 es) (hp: ¬di g1):AR L C Xs t r bs' β w W w1 g1 (stepG.exec C m' true b (k'++bs') none W):=by
 have ha:=gq.top;obtain ⟨fn,tm,todo,df,md,kd,ro⟩:=a;obtain ⟨kl,Ev,uO,J5,KA,Hy,Ew⟩:=b;have hT:=ha.todo;have y4:=ha.fn;simp only at hT hm y4;subst y4;have Vx:KA= .run:=by rcases ha.mode with h | h;exact h.2;(rw [show md=_ from h.1] at hm;cases hm)
 subst hm;subst Vx;have PX: ∀{x x':List Item} {es:Array Event},qa L C β x x'->GStep.go { frame:={ fn:=kl,tmps:=tm,todo:=x,defers:=df,mode:= .run,kind:=kd,roundOf:=ro },callers:=k++t::r,status:= .running,dying:=none } w= .go g1 w1 es->
   AR L C Xs t r bs' β w W w1 g1 (GStep.go { frame:={ fn:=kl,tmps:=Ev,todo:=x',defers:=J5,mode:= .run,kind:=Hy,roundOf:=Ew },callers:=k'++bs',status:= .running,dying:=none } W):=by
  intro x x' es hx h;cases h;exact qZ rfl (.on (.on (gq.todo hx))) hw
 cases hT with
 | nil=>
  rw [FH _ _ _ _ _ rfl] at h;rw [FH _ _ _ _ _ rfl];exact KC HF gq rfl (λc h=>by cases h) hw ht h
 | @cons i_ i_' K K' hi hk=>
  cases hi with
  | inBlock id=>exact PX hk h
  | inLoop hc=>exact PX (.cons (.code hc) (.cons (.inLoop hc) hk)) h
  | na hl=>cases h
  | beginRound=>
   have wU:=ha.round;simp only at wU;refine wV HP HF gq ?_ hw ht h hp;cases wU with
   | none=>exact (aX.fo aX.halt).rel
   | some hl=>exact (tn hl).bd λjg _ _ hl _=> .pure .skip
  | @mc l l' hl=>
   refine uR (F:=λq=>match q with
     | .ok jump w=> .go { frame:={ fn:=kl,tmps:=tm,todo:=(jump.map Item.code).toList++_,defers:=df,mode:= .run,kind:=kd,roundOf:=ro },callers:=k++t::r,status:= .running,dying:=none } w
     | .halt (.panic v) w=> .go { frame:=Frame.raise _ [{ v,recovered:=false }],callers:=k++t::r,status:= .running,dying:=none } w
     | .halt _ w=> .ended (.stuck "range over a function: no such loop" _) w)
    (F':=λq=>match q with
     | .ok jump w=> .go { frame:={ fn:=kl,tmps:=Ev,todo:=(jump.map Item.code).toList++_,defers:=J5,mode:= .run,kind:=Hy,roundOf:=Ew },callers:=k'++bs',status:= .running,dying:=none } w
     | .halt (.panic v) w=> .go { frame:=Frame.raise _ [{ v,recovered:=false }],callers:=k'++bs',status:= .running,dying:=none } w
     | .halt _ w=> .ended (.stuck "range over a function: no such loop" _) w) (zl hl) hw ht h ?_ ?_
   ·intro q w2 tl h;cases q with
    | panic v=>cases h;exact hp (pS _ _)
    | _=>cases h
   ·intro cq v v' w2 W2 tl hv uF ht2 hT h;obtain ⟨rfl,hv⟩:=hv;cases h;refine qZ rfl (.on (.on ((gq.mono hT.le).todo ?_))) uF;cases v with
    | none=>exact hk.mono hT.le
    | some c=>exact .cons (.code ((HF.code _).1 (hv c rfl))) (hk.mono hT.le)
  | @inRegion ops td ho=>
   cases td with
   | nil=>exact PX hk h
   | cons i td=>
    simp only [stepG.exec] at h ⊢;rw [←HS ops ha.tmps];split at h
    ·rename_i hq;rw [if_pos hq];cases cU:ops[i]? with
     | none=>rw [cU] at hq;cases hq
     | some o=>
      have um:=ho o (qb5 cU);have hd: ∀c,o.op≠ .defer c:=λc q=>by rw [q] at um;exact um
      rw [Br _ _ _ _ (o:=o) (by simp only [Frame.oper?];exact cU) hd] at h;rw [Br _ _ _ _ (o:=o) (by simp only [Frame.oper?];exact cU) hd];exact wV HP HF gq (Kz HP ha.eval o um) hw ht h hp
    ·rename_i hq;rw [if_neg hq];cases h;exact qZ rfl (.on (.on (gq.swap (ha.finish vC) (lC _ _)))) hw
  | code hc=>
   cases hc with
   | skip=>exact PX hk h
   | label l=>exact PX hk h
   | ret=>
    rw [FI _ _ _ _ _ _ rfl] at h;rw [FI _ _ _ _ _ _ rfl];exact KC HF gq rfl (λc h=>by cases h;exact .ret) hw ht h
   | seq h1 h2=>exact PX (.cons (.code h1) (.cons (.code h2) hk)) h
   | block id h1=>exact PX (.cons (.code h1) (.cons (.inBlock id) hk)) h
   | loop h1=>exact PX (.cons (.code h1) (.cons (.inLoop h1) hk)) h
   | exit id=>
    rcases B3 id hk with ⟨e1,e2⟩ | ⟨q,q',e1,e2,hq⟩
    ·rw [Bq _ _ _ id _ _ _ rfl e1] at h;rw [Bq _ _ _ id _ _ _ rfl e2];exact KC HF gq rfl (λc h=>by cases h;exact .exit id) hw ht h
    ·simp only [stepG.exec,e1,Option.elim_some] at h;simp only [stepG.exec,e2,Option.elim_some];exact PX hq h
   | @cond c x y hc h1 h2=>
    have he:=ha.eval c hc;simp only [stepG.exec] at h ⊢;revert h;generalize Frame.eval _ c=u at he;generalize Frame.eval _ c=u' at he;intro h;cases he with
    | bool q=>
     cases q with
     | true=>exact PX (.cons (.code h1) hk) h
     | false=>exact PX (.cons (.code h2) hk) h
    | _=>cases h
   | @region id ops draw ho=>
    cases draw with
    | false=>exact PX (.cons (.inRegion _ ho) hk) h
    | true=>
     simp only [stepG.exec,qae,qa6,if_false] at h ⊢;rw [HF.follows];cases bU:(choose (.order kl id)).run L w with
     | halt q w2=>rw [bU] at h;cases h
     | ok n w2=>
      rw [bU] at h;have hs:aH L C (iB λ_=>True) β (choose (.order kl id)) (choose (.order kl id)):= .choose λn=> .pure ⟨rfl,trivial⟩;obtain ⟨n',W1,cq,Ey,e1,⟨e2,_⟩,e3,e4,e5⟩:=hs.run #[] hw ht bU;have e6:(choose (.order kl id)).run C W= .ok n' W1:=by rw [←Sem.runT_fst C _ W #[],e1]
      rw [e6];subst e2;cases h;exact ⟨cq,W1,_, #[],rfl, .on (.on ((gq.mono e4.le).todo (.cons (.inRegion _ ho) (hk.mono e4.le)))),e3,e4,λe q=>by simp at q⟩
   | @rangeFunc f ps x y hf h1 h2=>
    refine uR (F:=λq=>match q with
      | .ok (l,mark) w=>stepG.apply L true { fn:=kl,tmps:=tm,todo:= .inRangeFunc l::_,defers:=mark++df,mode:= .run,kind:=kd,roundOf:=ro } (k++t::r) none (do let d←resolve (Frame.eval { fn:=kl,tmps:=tm,todo:= .inRangeFunc l::_,defers:=mark++df,mode:= .run,kind:=kd,roundOf:=ro }) { callee:= .value f,args:= #[.const (.func (.yield l) #[] #[])],argTypes:= #[] } 0;invoke d.target d.args) w
      | .halt _ w=> .ended (.stuck "range over a function: no such loop" _) w)
     (F':=λq=>match q with
      | .ok (l,mark) w=>stepG.apply C true { fn:=kl,tmps:=Ev,todo:= .inRangeFunc l::_,defers:=mark++J5,mode:= .run,kind:=Hy,roundOf:=Ew } (k'++bs') none (do let d←resolve (Frame.eval { fn:=kl,tmps:=Ev,todo:= .inRangeFunc l::_,defers:=mark++J5,mode:= .run,kind:=Hy,roundOf:=Ew }) { callee:= .value f,args:= #[.const (.func (.yield l) #[] #[])],argTypes:= #[] } 0;invoke d.target d.args) w
      | .halt _ w=> .ended (.stuck "range over a function: no such loop" _) w) (uQ kl ps ha.tmps ((HF.code _).2 h1) ((HF.code _).2 h2) ha.round) hw ht h ?_ ?_
    ·intro q w2 tl h;cases h
    ·rintro cq ⟨l,mk⟩ ⟨l',mk'⟩ w2 W2 tl ⟨hl,hmk⟩ uF ht2 hT h;have rW:=ha.mono hT.le;have B4:cM L C cq ({ fn:=kl,tmps:=tm,todo:= .inRangeFunc l::K,defers:=mk++df,mode:= .run,kind:=kd,roundOf:=ro }::k) ({ fn:=kl,tmps:=Ev,todo:= .inRangeFunc l'::K',defers:=mk'++J5,mode:= .run,kind:=Hy,roundOf:=Ew }::k'):=
      (gq.mono hT.le).swap ⟨rfl,rW.tmps, .cons (.na hl) (hk.mono hT.le),hmk.append rW.defers, .inl ⟨rfl,rfl⟩,ha.kind,rW.round,rW.zi⟩ rfl
     refine wV HP HF B4 (KD HP (B4.top.eval f hf) ?_) uF ht2 h hp;exact .func (.yield hl) rfl rfl (λi v v' q=>by simp at q) (λi v v' q=>by simp at q)
end
end Go.Cx
namespace Go.Cx
open Go
variable[bg][aL][bj]
section
variable{L C:Program}{Xs:FuncId->Prop}{β:Bj}{t:Frame}{r bs':List Frame}{w W w1:World}{g1:Goroutine}
theorem KE(HP:gS L C){a b:Frame}{k k':List Frame}{m m':Bool}(gq:cM L C β (a::k) (b::k'))(PW:bs'≠[]\/k≠[]\/a.defers≠[])(hm:a.mode= .returning)(hw:cH β w W)(ht:iR w W){es:Array Event}
  (h:unwind L m a (k++t::r) none w= .go g1 w1 es):AR L C Xs t r bs' β w W w1 g1 (unwind C m' b (k'++bs') none W):=by
 have ha:=gq.top;obtain ⟨fn,tm,todo,df,md,kd,ro⟩:=a;obtain ⟨kl,Ev,uO,J5,KA,Hy,Ew⟩:=b;have hD:=ha.defers;have y4:=ha.fn;simp only at hD hm y4;subst y4;subst hm;obtain ⟨Vx,wU⟩:KA= .returning/\ro=none:=by rcases ha.mode with h | h;(cases h.1);exact ⟨h.2.1,h.2.2⟩
 subst Vx;subst wU;unfold unwind at h ⊢;cases hD with
 | @cons q q' ds ds' hq hd=>
  simp only at h ⊢;refine uR (F:=λx=>match x with
    | .ok calls w=> .go { frame:={ fn:=kl,tmps:=tm,todo:=todo,defers:=calls++ds,mode:= .returning,kind:=kd,roundOf:=none },callers:=k++t::r,status:= .running,dying:=none } w
    | .halt _ w=> .ended (.stuck "the deferred calls of a range-over-func loop have been taken" _) w)
   (F':=λx=>match x with
    | .ok calls w=> .go { frame:={ fn:=kl,tmps:=Ev,todo:=uO,defers:=calls++ds',mode:= .returning,kind:=Hy,roundOf:=Ew },callers:=k'++bs',status:= .running,dying:=none } w
    | .halt _ w=> .ended (.stuck "the deferred calls of a range-over-func loop have been taken" _) w) (qb hq) hw ht h ?_ ?_
  ·intro q w2 tl h;cases h
  ·rintro cq v v' w2 W2 tl ⟨rfl,rfl⟩ uF ht2 hT h;have rW:=ha.mono hT.le;cases h;exact qZ rfl (.on (.on ((gq.mono hT.le).swap ⟨rfl,rW.tmps,rW.todo,hd.mono hT.le, .inr ⟨rfl,rfl,rfl⟩,ha.kind,rW.round,rW.zi⟩ rfl))) uF
 | nil=>
  simp only at h ⊢;obtain ⟨f,e1,e2⟩:=ha.zi rfl;simp only at e1 e2;rw [e1] at h;rw [e2];simp only at h ⊢;refine uR (F:=λx=>match x with
    | .ok v w=>doReturn L m { fn:=kl,tmps:=tm,todo:=todo,defers:=[],mode:= .returning,kind:=kd,roundOf:=none } (k++t::r) none v w
    | .halt (.stuck s) w=> .ended (.stuck s _) w
    | .halt _ w=> .ended (.stuck "return: the result variables cannot be read" _) w)
   (F':=λx=>match x with
    | .ok v w=>doReturn C m' { fn:=kl,tmps:=Ev,todo:=uO,defers:=[],mode:= .returning,kind:=Hy,roundOf:=Ew } (k'++bs') none v w
    | .halt (.stuck s) w=> .ended (.stuck s _) w
    | .halt _ w=> .ended (.stuck "return: the result variables cannot be read" _) w) (vD HP f ha.tmps) hw ht h ?_ ?_
  ·intro q w2 tl h;cases q <;> cases h
  ·rintro cq v v' w2 W2 tl hv uF ht2 hT h;exact Mz (gq.mono hT.le) (PW.imp id λh=>h.resolve_right λq=>q rfl) hv uF h
theorem uS(HP:gS L C)(HF:PF L C Xs){a b:Frame}{k k':List Frame}{m m':Bool}(gq:cM L C β (a::k) (b::k'))(PW:bs'≠[]\/k≠[]\/a.mode= .run\/a.defers≠[])(hw:cH β w W)(ht:iR w W){es:Array Event}
  (h:stepG L m (ic a (k++t::r)) w= .go g1 w1 es) (hp: ¬di g1):AR L C Xs t r bs' β w W w1 g1 (stepG C m' (ic b (k'++bs')) W):=by
 rcases gq.top.mode with ⟨m1,m2⟩ | ⟨m1,m2,_⟩
 ·unfold stepG ic at h ⊢;simp only [m1,m2] at h ⊢;exact Qx HP HF gq m1 hw ht h hp
 ·unfold stepG ic at h ⊢;simp only [m1,m2] at h ⊢;exact KE HP gq (PW.imp id λh=>h.imp id λh=>h.resolve_left λq=>by rw [m1] at q;cases q) m1 hw ht h
end
end Go.Cx
namespace Go.Cx
open Go
variable[bg][aL][bj]
abbrev TW(w:World)(τ:Tape):World:={ w with tape:=τ }
theorem aH.tape{Pl Pc:Program}{α:Type}{RA:Bj->α->α->Prop}{β:Bj}{s t:Sem α}(h:aH Pl Pc RA β s t): ∀{w W w1:World} {a:α},cH β w W->s.run Pl w= .ok a w1->
  (∃a' W1 cq,RA cq a a'/\cH cq w1 W1/\Le β cq)/\w.drawn<=w1.drawn/\w1.tape=w.tape/\(Dw w->Dw w1)/\ ∀τ:Tape,(∀j q,w.drawn<=j->j<w1.drawn->τ j q=w.tape j q)->s.run Pl (TW w τ)= .ok a (TW w1 τ):=by
 induction h with
 | pure ha=>
  intro w W w1 a hw hr;cases hr;exact ⟨⟨_,W,_,ha,hw,Le.refl _⟩,qa3 _,rfl,id,λτ _=>rfl⟩
 | @load β ad ov k k' Hv _ ih=>
  intro w W w1 a hw hr;simp only [Sem.run] at hr;cases hc:w.cell? ad with
  | none=>
   exfalso;obtain ⟨e,he⟩:=hw.aca Hv.block Pl (Mode.plain==Mode.atomic);rw [hc] at hr;simp only [he] at hr;cases hr
  | some v=>
   rw [hc] at hr;obtain ⟨v',Hw,hvr⟩:=hw.cell Hv hc;obtain ⟨h1,h2,h3,hd,h4⟩:=ih v v' hvr hw hr;refine ⟨h1,h2,h3,hd,λτ pD=> ?_⟩;have Qy:(TW w τ).cell? ad=some v:=hc;simp only [Sem.run,Qy];exact h4 τ pD
 | @store β ad ov v v' k k' Hv hv _ ih=>
  intro w W w1 a hw hr;have xF:(∀c,v≠ .agg c)/\ ∀c,v≠ .tuple c:=by
   constructor
   ·rintro c rfl;cases hr
   ·rintro c rfl;cases hr
  have Ms: ∀w,(Sem.store .plain ad v k).run Pl w=(match w.cell? ad with
    | some _=>if w.frozen? ad then Result.halt (.unsupported (.unsafePointer "a write to bytes that a string shares")) w else k.run Pl (w.setCell ad v)
    | none=>match w.farStore Pl ad v (Mode.plain==Mode.atomic) with
     | .ok (w,_)=>k.run Pl w
     | .error h=> .halt h w):=by
   intro w;cases v <;> first | rfl | exact absurd rfl (xF.1 _) | exact absurd rfl (xF.2 _)
  rw [Ms] at hr;cases hc:w.cell? ad with
  | none=>
   exfalso;obtain ⟨e,he⟩:=hw.acb Hv.block Pl v (Mode.plain==Mode.atomic);rw [hc] at hr;simp only [he] at hr;cases hr
  | some u=>
   rw [hc] at hr;simp only at hr;cases hf:w.frozen? ad with
   | true=>rw [hf] at hr;cases hr
   | false=>
    rw [hf] at hr;simp only [qa6,if_false] at hr;obtain ⟨_,hf',Er,hT,hE⟩:=wO hw Hv hv hc hf;obtain ⟨⟨a',W1,cq,g1,g2,g3⟩,h2,h3,hd,h4⟩:=ih Er hr;refine ⟨⟨a',W1,cq,g1,g2,hT.le.trans g3⟩,h2,h3,λh=>hd (BT h),λτ pD=> ?_⟩;have Qy:(TW w τ).cell? ad=some u:=hc;have hf2:(TW w τ).frozen? ad=false:=hf;rw [Ms,Qy];simp only [hf2,qa6,if_false];exact h4 τ pD
 | @new β o o' k k' ho _ ih=>
  intro w W w1 a hw hr;obtain ⟨Er,hT⟩:=BR hw ho.o ho.no;obtain ⟨⟨a',W1,cq,g1,g2,g3⟩,h2,h3,hd,h4⟩:=ih _ w.heap.size W.heap.size hT.le (.inr ⟨rfl,rfl⟩) Er hr;exact ⟨⟨a',W1,cq,g1,g2,hT.le.trans g3⟩,h2,h3,λh=>hd (FA h ho.dw),h4⟩
 | @shape β r r' k k' hb _ ih=>
  intro w W w1 a hw hr;exact ih _ hw hr
 | @getObj β r r' k k' hb _ ih=>
  intro w W w1 a hw hr;obtain ⟨x,x',k1,k2,k3⟩:=hw.obj _ _ hb;simp only [Sem.run,k1] at hr;cases k3 with
  | cells e hc=>cases hr
  | lock e hc=>cases hr
  | @loop l l' hl=>
   obtain ⟨h1,h2,h3,hd,h4⟩:=ih (.loop l) (.loop l') (.loop hl) hw hr;exact ⟨h1,h2,h3,hd,λτ pD=>by simp only [Sem.run,k1];exact h4 τ pD⟩
  | @num ad ov lost ha=>
   obtain ⟨h1,h2,h3,hd,h4⟩:=ih _ _ (.num lost ha) hw hr;exact ⟨h1,h2,h3,hd,λτ pD=>by simp only [Sem.run,k1];exact h4 τ pD⟩
  | DF b=>
   obtain ⟨h1,h2,h3,hd,h4⟩:=ih _ _ (.DF b) hw hr;exact ⟨h1,h2,h3,hd,λτ pD=>by simp only [Sem.run,k1];exact h4 τ pD⟩
 | @setObj β r r' o o' k k' hb ho hn _ ih=>
  intro w W w1 a hw hr;obtain ⟨x,x',k1,k2,k3⟩:=hw.obj _ _ hb;have hx: ∀c e f,x≠ .cells c e f:=by
   rintro c e f rfl;simp only [Sem.run,k1] at hr;cases hr
  have Ms: ∀w:World,w.heap[r]? =some x->(Sem.setObj r o k).run Pl w=k.run Pl { w with heap:=w.heap.setIfInBounds r o }:=by
   intro w hk;simp only [Sem.run,hk]
  rw [Ms w k1] at hr;obtain ⟨_,Er,hT⟩:=uJ hw hb ho.o k1 hx hn;obtain ⟨⟨a',W1,cq,g1,g2,g3⟩,h2,h3,hd,h4⟩:=ih Er hr;exact ⟨⟨a',W1,cq,g1,g2,hT.le.trans g3⟩,h2,h3,λh=>hd (zf h ho.dw),λτ pD=>by rw [Ms (TW w τ) k1];exact h4 τ pD⟩
 | @choose β q k k' _ ih=>
  intro w W w1 a hw hr;simp only [Sem.run] at hr;split at hr
  ·rename_i hq;obtain ⟨h1,h2,h3,hd,h4⟩:=ih 0 hw hr;exact ⟨h1,h2,h3,hd,λτ pD=>by simp only [Sem.run,hq,if_true];exact h4 τ pD⟩
  ·rename_i hq;obtain ⟨h1,h2,h3,hd,h4⟩:=ih _ (hw.draw (w.drawn+1) W.drawn) hr;have J6:w.drawn+1<=w1.drawn:=h2;refine ⟨h1,by omega,h3,λh=>hd h,λτ pD=> ?_⟩;simp only [Sem.run,hq,if_false];have h0:τ w.drawn q=w.tape w.drawn q:=pD _ _ (qa3 _) (by omega);show (k (q.cut (τ w.drawn q))).run Pl _=_;rw [h0];exact h4 τ λj q hj=>pD j q (by have:w.drawn+1<=j:=hj;omega)
 | program _ ih=>
  intro w W w1 a hw hr;exact ih hw hr
 | mark _ ih=>
  intro w W w1 a hw hr;exact ih hw hr
 | dead hd=>
  intro w W w1 a hw hr;exact absurd hr (hd.no _ _ _)
end Go.Cx
