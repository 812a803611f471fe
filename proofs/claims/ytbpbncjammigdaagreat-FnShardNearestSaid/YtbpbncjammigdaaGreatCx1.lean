/- One program beside another, one goroutine among others. -/
import Derived.Test.YtbpbncjammigdaaGreatAl
import GoSem.Step
import Derived.Laws.Sem
import Derived.Calls
set_option linter.unusedVariables false
set_option linter.unusedSimpArgs false
set_option maxHeartbeats 4000000
namespace Go.Cx
open Go
class ba where
 ok:FuncId->Prop
 th:FuncId->Prop
class aH where
 code:Code->Prop
class bg where
 hp:Value->Prop
 noI: ∀t w, ¬hp (.iface t w)
def Odd:Value->Prop
 | .bool _ | .int _ _ | .string _ | .agg _ | .pointer none | .slice none _ _ | .nilFunc | .nilIface | .func (.method _) _ _=>False
 | _=>True
variable[ba][aH][bg]
abbrev Bj:=Nat->Nat->Prop
def Le(β γ:Bj):Prop:= ∀a b,β a b->γ a b
omit [ba] [aH] [bg] in
theorem Le.refl(β:Bj):Le β β:=λ_ _ h=>h
omit [ba] [aH] [bg] in
theorem Le.trans{β γ δ:Bj}(h:Le β γ)(k:Le γ δ):Le β δ:=λa b x=>k a b (h a b x)
structure jj(β:Bj)(a a':Addr):Prop where
 block:β a.block a'.block
 off:a'.off=a.off
 spot:a'.spot=a.spot
omit [ba] [aH] [bg] in
theorem jj.mono{β γ:Bj}(l:Le β γ){a a':Addr}(h:jj β a a'):jj γ a a':=⟨l _ _ h.block,h.off,h.spot⟩
omit [ba] [aH] [bg] in
theorem jj.add{β:Bj}{a a':Addr}(h:jj β a a')(n:Nat):jj β (a.add n) (a'.add n):=by
 unfold Addr.add;by_cases hn:n=0
 ·simp only [hn,if_true];exact h
 ·simp only [hn,if_false];exact ⟨h.block,by simp [h.off],rfl⟩
inductive Cu(β:Bj):Fn->Fn->Prop
 | func (f:FuncId):ba.ok f->Cu β (.func f) (.func f)
 | yield {l l':Nat}:β l l'->Cu β (.yield l) (.yield l')
 | method (n:String):Cu β (.method n) (.method n)
omit [aH] [bg] in
theorem Cu.mono{β γ:Bj}(l:Le β γ){f f':Fn}(h:Cu β f f'):Cu γ f f':=by
 cases h with
 | func f h=>exact .func f h
 | yield h=>exact .yield (l _ _ h)
 | method n=>exact .method n
inductive ax(β:Bj):Value->Value->Prop
 | bool (b:Bool):ax β (.bool b) (.bool b)
 | int (k:IntKind) (n:Int):ax β (.int k n) (.int k n)
 | string (s:ByteArray):ax β (.string s) (.string s)
 | oH:ax β (.pointer none) (.pointer none)
 | ptr {a a':Addr}:jj β a a'->ax β (.pointer (some a)) (.pointer (some a'))
 | kg (l c:Nat):ax β (.slice none l c) (.slice none l c)
 | ya (a a':Addr):ax β (.slice (some a) 0 0) (.slice (some a') 0 0)
 | slice {a a':Addr} (l c:Nat):jj β a a'->ax β (.slice (some a) l c) (.slice (some a') l c)
 | func {f f':Fn} {x x' y y':Array Value}:Cu β f f'->x.size=x'.size->y.size=y'.size->(∀(i:Nat) (v v':Value),x[i]? =some v->x'[i]? =some v'->ax β v v')->(∀(i:Nat) (v v':Value),y[i]? =some v->y'[i]? =some v'->ax β v v')->
  ax β (.func f x y) (.func f' x' y')
 | pg:ax β .nilFunc .nilFunc
 | iface (t:TypeId) {v v':Value}:ax β v v'->ax β (.iface t v) (.iface t v')
 | iK:ax β .nilIface .nilIface
 | agg {x x':Array Value}:x.size=x'.size->(∀(i:Nat) (v v':Value),x[i]? =some v->x'[i]? =some v'->ax β v v')->ax β (.agg x) (.agg x')
 | tuple {x x':Array Value}:x.size=x'.size->(∀(i:Nat) (v v':Value),x[i]? =some v->x'[i]? =some v'->ax β v v')->ax β (.tuple x) (.tuple x')
 | hole {v':Value}:Odd v'->bg.hp v'->ax β (.tuple #[]) v'
omit [aH] in
theorem ax.mono{β γ:Bj}(l:Le β γ){v v':Value}(h:ax β v v'):ax γ v v':=by
 induction h with
 | bool b=>exact .bool b
 | int k n=>exact .int k n
 | string s=>exact .string s
 | oH=>exact .oH
 | ptr h=>exact .ptr (h.mono l)
 | kg n c=>exact .kg n c
 | ya a a'=>exact .ya a a'
 | slice n c h=>exact .slice n c (h.mono l)
 | func h h1 h2 _ _ i1 i2=>exact .func (h.mono l) h1 h2 i1 i2
 | pg=>exact .pg
 | iface t _ ih=>exact .iface t ih
 | iK=>exact .iK
 | agg h _ ih=>exact .agg h ih
 | tuple h _ ih=>exact .tuple h ih
 | hole h k=>exact .hole h k
def aF(β:Bj)(x x':Array Value):Prop:=x.size=x'.size/\ ∀(i:Nat) (v v':Value),x[i]? =some v->x'[i]? =some v'->ax β v v'
omit [aH] in
theorem aF.mono{β γ:Bj}(l:Le β γ){x x':Array Value}(h:aF β x x'):aF γ x x':=⟨h.1,λi v v' a b=>(h.2 i v v' a b).mono l⟩
omit [aH] in
theorem aF.get{β:Bj}{x x':Array Value}(h:aF β x x'){i:Nat}{v:Value}(hv:x[i]? =some v): ∃v',x'[i]? =some v'/\ax β v v':=by
 obtain ⟨hi,_⟩:=qa1.1 hv;have fU:i<x'.size:=h.1▸hi;exact ⟨x'[i],Array.getElem?_eq_getElem fU,h.2 i _ _ hv (Array.getElem?_eq_getElem fU)⟩
omit [aH] in
theorem aF.none{β:Bj}{x x':Array Value}(h:aF β x x'){i:Nat}(hv:x[i]? =none):x'[i]? =none:=by
 rw [Array.getElem?_eq_none_iff] at hv ⊢;rw [←h.1];exact hv
omit [aH] in
theorem aF.empty{β:Bj}:aF β #[] #[]:=⟨rfl,λi v v' h=>by simp at h⟩
omit [aH] in
theorem aF.push{β:Bj}{x x':Array Value}{v v':Value}(h:aF β x x')(hv:ax β v v'):aF β (x.push v) (x'.push v'):=by
 refine ⟨by simp [h.1],λi u u' hu tO=> ?_⟩;rw [qbq] at hu tO;split at hu
 ·rename_i e;rw [if_pos (e.trans h.1)] at tO;cases hu;cases tO;exact hv
 ·rename_i e;rw [if_neg (by rw [←h.1];exact e)] at tO;exact h.2 i u u' hu tO
omit [aH] in
theorem aF.append{β:Bj}{x x' y y':Array Value}(h:aF β x x')(k:aF β y y'):aF β (x++y) (x'++y'):=by
 refine ⟨by simp [h.1,k.1],λi u u' hu tO=> ?_⟩;rw [Array.getElem?_append] at hu tO;split at hu
 ·rename_i e;rw [if_pos (by rw [←h.1];exact e)] at tO;exact h.2 i u u' hu tO
 ·rename_i e;rw [if_neg (by rw [←h.1];exact e), ←h.1] at tO;exact k.2 _ u u' hu tO
omit [aH] in
theorem aF.set{β:Bj}{x x':Array Value}{v v':Value}(h:aF β x x')(hv:ax β v v')(k:Nat):aF β (x.setIfInBounds k v) (x'.setIfInBounds k v'):=by
 refine ⟨by simp [h.1],λi u u' hu tO=> ?_⟩;rw [qad] at hu tO;split at hu
 ·rename_i e;rw [if_pos e, ←h.1] at tO;split at hu
  ·rename_i e2;rw [if_pos e2] at tO;cases hu;cases tO;exact hv
  ·cases hu
 ·rename_i e;rw [if_neg e] at tO;exact h.2 i u u' hu tO
omit [aH] in
theorem aF.extract{β:Bj}{x x':Array Value}(h:aF β x x')(a b:Nat):aF β (x.extract a b) (x'.extract a b):=by
 refine ⟨by simp [h.1],λi u u' hu tO=> ?_⟩;rw [Array.getElem?_extract] at hu tO;split at hu
 ·rename_i e;rw [if_pos (by rw [←h.1];exact e)] at tO;exact h.2 _ u u' hu tO
 ·cases hu
omit [aH] in
theorem aF.one{β:Bj}{v v':Value}(h:ax β v v'):aF β #[v] #[v']:=aF.empty.push h
omit [aH] in
theorem aF.Eg{β:Bj}{x x':Array Value}(h:aF β x x'):ax β (.agg x) (.agg x'):= .agg h.1 h.2
omit [aH] in
theorem aF.Gp{β:Bj}{x x':Array Value}(h:aF β x x'):ax β (.tuple x) (.tuple x'):= .tuple h.1 h.2
omit [aH] in
theorem ax.cells{β:Bj}{v v':Value}(h:ax β v v'):aF β v.cells v'.cells:=by
 cases h with
 | agg h k=>exact ⟨h,k⟩
 | bool b=>exact aF.one (.bool b)
 | int k n=>exact aF.one (.int k n)
 | string s=>exact aF.one (.string s)
 | oH=>exact aF.one .oH
 | ptr h=>exact aF.one (.ptr h)
 | kg n c=>exact aF.one (.kg n c)
 | ya a a'=>exact aF.one (.ya a a')
 | slice n c h=>exact aF.one (.slice n c h)
 | func h h1 h2 h3 h4=>exact aF.one (.func h h1 h2 h3 h4)
 | pg=>exact aF.one .pg
 | iface t h=>exact aF.one (.iface t h)
 | iK=>exact aF.one .iK
 | tuple h k=>exact aF.one (.tuple h k)
 | @hole v' h k=>exact (show v'.cells= #[v'] by cases v' <;> first | rfl | exact h.elim)▸aF.one (.hole h k)
omit [aH] in
theorem aF.map{β:Bj}{α:Type}{xs:Array α}{f g:α->Value}(h: ∀x∈xs,ax β (f x) (g x)):aF β (xs.map f) (xs.map g):=by
 refine ⟨by simp,λi u u' hu tO=> ?_⟩;rw [qc3] at hu tO;cases hx:xs[i]? with
 | none=>rw [hx] at hu;cases hu
 | some x=>rw [hx] at hu tO;cases hu;cases tO;exact h x (qb1 hx)
inductive Plain:Value->Prop
 | bool (b:Bool):Plain (.bool b)
 | int (k:IntKind) (n:Int):Plain (.int k n)
 | string (s:ByteArray):Plain (.string s)
 | oH:Plain (.pointer none)
 | kg (l c:Nat):Plain (.slice none l c)
 | pg:Plain .nilFunc
 | iK:Plain .nilIface
 | agg {x:Array Value}:(∀(i:Nat) (v:Value),x[i]? =some v->Plain v)->Plain (.agg x)
 | tuple {x:Array Value}:(∀(i:Nat) (v:Value),x[i]? =some v->Plain v)->Plain (.tuple x)
omit [aH] in
theorem Plain.rel{β:Bj}{v:Value}(h:Plain v):ax β v v:=by
 induction h with
 | bool b=>exact .bool b
 | int k n=>exact .int k n
 | string s=>exact .string s
 | oH=>exact .oH
 | kg n c=>exact .kg n c
 | pg=>exact .pg
 | iK=>exact .iK
 | agg _ ih=>exact .agg rfl λi v v' h h'=>by rw [h] at h';cases h';exact ih i v h
 | tuple _ ih=>exact .tuple rfl λi v v' h h'=>by rw [h] at h';cases h';exact ih i v h
structure I1(β:Bj)(l l':Loop):Prop where
 state:l'.state=l.state
 pending:l'.pending=l.pending
 fn:l'.fn=l.fn
 tmps:aF β l.tmps l'.tmps
 params:l'.params=l.params
 assign:l'.assign=l.assign
 body:l'.body=l.body
 defers:β l.defers l'.defers
 ca:aH.code l.assign
 cb:aH.code l.body
 cp: ∀c,l.pending=some c->aH.code c
theorem I1.mono{β γ:Bj}(l:Le β γ){x x':Loop}(h:I1 β x x'):I1 γ x x':=⟨h.state,h.pending,h.fn,h.tmps.mono l,h.params,h.assign,h.body,l _ _ h.defers,h.ca,h.cb,h.cp⟩
inductive rV(β:Bj):Obj->Obj->Prop
 | cells {c c':Array Value} (e:TypeId):aF β c c'->rV β (.cells c e) (.cells c' e)
 | lock {c c':Array Value} {f':Nat×Nat} (e:TypeId):aF β c c'->rV β (.cells c e (0,c.size+1)) (.cells c' e f')
 | loop {l l':Loop}:I1 β l l'->rV β (.loop l) (.loop l')
 | num {a a':Addr} (lost:Bool):jj β a a'->rV β (.number a lost) (.number a' lost)
 | Cn (b:Bool):rV β (.deferred (if b then some [] else none)) (.deferred (if b then some [] else none))
theorem rV.mono{β γ:Bj}(l:Le β γ){x x':Obj}(h:rV β x x'):rV γ x x':=by
 cases h with
 | cells e h=>exact .cells e (h.mono l)
 | lock e h=>exact .lock e (h.mono l)
 | loop h=>exact .loop (h.mono l)
 | num b h=>exact .num b (h.mono l)
 | Cn b=>exact .Cn b
inductive yh(β:Bj):Obj->Obj->Prop
 | cells {c c':Array Value} (e:TypeId):aF β c c'->yh β (.cells c e) (.cells c' e)
 | loop {l l':Loop}:I1 β l l'->yh β (.loop l) (.loop l')
 | num {a a':Addr} (lost:Bool):jj β a a'->yh β (.number a lost) (.number a' lost)
 | Cn (b:Bool):yh β (.deferred (if b then some [] else none)) (.deferred (if b then some [] else none))
theorem yh.o{β:Bj}{x x':Obj}(h:yh β x x'):rV β x x':=by
 cases h with
 | cells e h=>exact .cells e h
 | loop h=>exact .loop h
 | num b h=>exact .num b h
 | Cn b=>exact .Cn b
theorem yh.no{β:Bj}{x x':Obj}(h:yh β x x')(c:Array Value)(e:TypeId)(q:x= .cells c e (0,c.size+1)):False:=by
 cases h with
 | cells e h=>injection q with q1 q2 q3;simp at q3
 | loop h=>cases q
 | num b h=>cases q
 | Cn b=>cases q
end Go.Cx
namespace Go.Cx
open Go
variable[ba][aH][bg]
def I2:Halt->Prop
 | .panic _ | .stuck _=>True
 | .unsupported u=> ∀g,u≠ .initOrder g
 | _=>False
def Mld(L:Program){α:Type}(s:Sem α):Prop:= ∀w h w1,s.run L w= .halt h w1->I2 h
def Dw(w:World):Prop:= ∀(r:Nat) (ds:List Deferred),w.heap[r]? =some (Obj.deferred (some ds))->ds=[]
structure aR(L:Program){α:Type}(s:Sem α):Prop where
 no: ∀w a w1,s.run L w≠ .ok a w1
 AG:Mld L s
 kp: ∀w h w1,Dw w->s.run L w= .halt h w1->Dw w1
omit [ba] [aH] [bg] in
theorem aR.eh{L:Program}{α γ:Type}{s:Sem α}{f:α->Sem γ}(h:aR L s):aR L (s >>= f):=by
 refine ⟨λw a w1 q=> ?_,λw hh w1 q=> ?_,λw hh w1 hd q=> ?_⟩
 ·rw [Sem.run_bind] at q;cases hs:s.run L w with
  | ok x w'=>exact h.no _ _ _ hs
  | halt hh w'=>rw [hs] at q;cases q
 ·rw [Sem.run_bind] at q;cases hs:s.run L w with
  | ok x w'=>exact (h.no _ _ _ hs).elim
  | halt hh w'=>rw [hs] at q;cases q;exact h.AG _ _ _ hs
 ·rw [Sem.run_bind] at q;cases hs:s.run L w with
  | ok x w'=>exact (h.no _ _ _ hs).elim
  | halt hh w'=>rw [hs] at q;cases q;exact h.kp _ _ _ hd hs
section
variable(Pl Pc:Program)
inductive ay{α:Type}(RA:Bj->α->α->Prop):Bj->Sem α->Sem α->Prop
 | pure {β:Bj} {a a':α}:RA β a a'->ay RA β (.pure a) (.pure a')
 | load {β:Bj} {a a':Addr} {k k':Value->Sem α}:jj β a a'->(∀v v',ax β v v'->ay RA β (k v) (k' v'))->ay RA β (.load .plain a k) (.load .plain a' k')
 | store {β:Bj} {a a':Addr} {v v':Value} {k k':Sem α}:jj β a a'->ax β v v'->ay RA β k k'->ay RA β (.store .plain a v k) (.store .plain a' v' k')
 | new {β:Bj} {o o':Obj} {k k':Nat->Sem α}:yh β o o'->(∀γ r r',Le β γ->γ r r'->ay RA γ (k r) (k' r'))->ay RA β (.new o k) (.new o' k')
 | shape {β:Bj} {r r':Nat} {k k':Option (TypeId×Nat)->Sem α}:β r r'->(∀s,ay RA β (k s) (k' s))->ay RA β (.shape r k) (.shape r' k')
 | getObj {β:Bj} {r r':Nat} {k k':Obj->Sem α}:β r r'->(∀o o',rV β o o'->ay RA β (k o) (k' o'))->ay RA β (.getObj r k) (.getObj r' k')
 | setObj {β:Bj} {r r':Nat} {o o':Obj} {k k':Sem α}:β r r'->yh β o o'->(∀c e f,o≠ .cells c e f)->ay RA β k k'->ay RA β (.setObj r o k) (.setObj r' o' k')
 | choose {β:Bj} {q:Question} {k k':Nat->Sem α}:(∀n,ay RA β (k n) (k' n))->ay RA β (.choose q k) (.choose q k')
 | program {β:Bj} {k k':Program->Sem α}:ay RA β (k Pl) (k' Pc)->ay RA β (.program k) (.program k')
 | mark {β:Bj} {k k':Sem α}:ay RA β k k'->ay RA β (.mark .noRoom k) (.mark .noRoom k')
 | dead {β:Bj} {s t:Sem α}:aR Pl s->ay RA β s t
variable{Pl Pc}
theorem ay.bind{α γ:Type}{RA:Bj->α->α->Prop}{RB:Bj->γ->γ->Prop}{β:Bj}{s t:Sem α}{f g:α->Sem γ}(h:ay Pl Pc RA β s t)(k: ∀bS a a',Le β bS->RA bS a a'->ay Pl Pc RB bS (f a) (g a')):ay Pl Pc RB β (s.bind f) (t.bind g):=by
 induction h with
 | pure h=>exact k _ _ _ (Le.refl _) h
 | load ha _ ih=>exact .load ha λv v' hv=>ih v v' hv k
 | store ha hv _ ih=>exact .store ha hv (ih k)
 | new ho _ ih=>exact .new ho λγ r r' hl hr=>ih γ r r' hl hr λbS a a' qI h=>k bS a a' (hl.trans qI) h
 | shape hr _ ih=>exact .shape hr λs=>ih s k
 | getObj hr _ ih=>exact .getObj hr λo o' ho=>ih o o' ho k
 | setObj hr ho hn _ ih=>exact .setObj hr ho hn (ih k)
 | choose _ ih=>exact .choose λn=>ih n k
 | program _ ih=>exact .program (ih k)
 | mark _ ih=>exact .mark (ih k)
 | dead hd=>exact .dead (aR.eh hd)
theorem ay.imp{α:Type}{RA RB:Bj->α->α->Prop}{β:Bj}{s t:Sem α}(h:ay Pl Pc RA β s t)(k: ∀bS a a',Le β bS->RA bS a a'->RB bS a a'):ay Pl Pc RB β s t:=by
 induction h with
 | pure h=>exact .pure (k _ _ _ (Le.refl _) h)
 | load ha _ ih=>exact .load ha λv v' hv=>ih v v' hv k
 | store ha hv _ ih=>exact .store ha hv (ih k)
 | new ho _ ih=>exact .new ho λγ r r' hl hr=>ih γ r r' hl hr λbS a a' qI h=>k bS a a' (hl.trans qI) h
 | shape hr _ ih=>exact .shape hr λs=>ih s k
 | getObj hr _ ih=>exact .getObj hr λo o' ho=>ih o o' ho k
 | setObj hr ho hn _ ih=>exact .setObj hr ho hn (ih k)
 | choose _ ih=>exact .choose λn=>ih n k
 | program _ ih=>exact .program (ih k)
 | mark _ ih=>exact .mark (ih k)
 | dead h=>exact .dead h
end
structure cn(β:Bj)(w W:World):Prop where
 obj: ∀a b,β a b-> ∃o o',w.heap[a]? =some o/\W.heap[b]? =some o'/\rV β o o'
 inj: ∀a a' b,β a b->β a' b->a=a'
 fn: ∀a b b',β a b->β a b'->b=b'
theorem cn.SN{β:Bj}{w W:World}(h:cn β w W){a b:Nat}(hb:β a b):a<w.heap.size:=by
 obtain ⟨o,_,h1,_⟩:=h.obj a b hb;exact (qa1.1 h1).1
theorem cn.Oq{β:Bj}{w W:World}(h:cn β w W){a b:Nat}(hb:β a b):b<W.heap.size:=by
 obtain ⟨_,o',_,h1,_⟩:=h.obj a b hb;exact (qa1.1 h1).1
def gB(β:Bj)(w:World)(b:Nat):Prop:= ∃a c e,β a b/\True/\w.heap[a]? =some (.cells c e (0,c.size+1))
def tj(β:Bj)(w:World)(e:Event):Prop:=
 (e.sync=false/\((∃ad a,e.loc= .cell ad/\β a ad.block/\(e.write=true-> ¬gB β w ad.block))\/(∃r a,e.loc= .obj r/\β a r/\ ¬gB β w r)))\/e=⟨.mark .noRoom,false,true⟩
structure mB(β bS:Bj)(w w1 W W1:World):Prop where
 le:Le β bS
 KX:w1.tape=w.tape
 tape:W1.tape=W.tape
 os:W1.os=W.os
 output:W1.output=W.output
 yi:w.drawn<=w1.drawn
 drawn:W1.drawn=W.drawn+(w1.drawn - w.drawn)
 size:W.heap.size<=W1.heap.size
 Gq:w.heap.size<=w1.heap.size
 stay: ∀b,b<W.heap.size->(∀a, ¬β a b)->W1.heap[b]? =W.heap[b]?
 lock: ∀b,gB β w b->W1.heap[b]? =W.heap[b]?
 C7: ∀b,gB β w b->gB bS w1 b
 unlock: ∀b,(∃a,β a b)-> ¬gB β w b-> ¬gB bS w1 b
 fresh: ∀a b,bS a b->β a b\/(w.heap.size<=a/\W.heap.size<=b/\b<W1.heap.size/\ ¬gB bS w1 b)
 all: ∀b,W.heap.size<=b->b<W1.heap.size-> ∃a,bS a b
 ofs: ∀a b,bS a b->β a b\/a+W.heap.size=b+w.heap.size
 grow:w1.heap.size+W.heap.size=W1.heap.size+w.heap.size
 OP: ∀a,a<w.heap.size->(∀b, ¬β a b)->w1.heap[a]? =w.heap[a]?
omit [ba] [aH] [bg] in
theorem mB.refl(β:Bj)(w W:World):mB β β w w W W:=
 ⟨Le.refl _,rfl,rfl,rfl,rfl,qa3 _,by omega,qa3 _,qa3 _,λ_ _ _=>rfl,λ_ _=>rfl,λ_ h=>h,λ_ _ h=>h,λ_ _ h=> .inl h,λb h1 h2=>by omega,λ_ _ h=> .inl h,by omega,λ_ _ _=>rfl⟩
omit [ba] [aH] [bg] in
theorem mB.trans{β bS iJ:Bj}{w w1 w2 W W1 W2:World}(h:mB β bS w w1 W W1)(k:mB bS iJ w1 w2 W1 W2):mB β iJ w w2 W W2 where
 le:=h.le.trans k.le
 KX:=k.KX.trans h.KX
 tape:=k.tape.trans h.tape
 os:=k.os.trans h.os
 output:=k.output.trans h.output
 yi:=qaa h.yi k.yi
 drawn:=by have:=h.drawn;have:=k.drawn;have:=h.yi;have:=k.yi;omega
 size:=qaa h.size k.size
 Gq:=qaa h.Gq k.Gq
 stay:=λb hb hn=>by
  have h1: ∀a, ¬bS a b:=λa ha=>by
   rcases h.fresh a b ha with hh | ⟨_,hh,_⟩
   ·exact hn a hh
   ·omega
  exact (k.stay b (qa2 hb h.size) h1).trans (h.stay b hb hn)
 lock:=λb hb=>(k.lock b (h.C7 b hb)).trans (h.lock b hb)
 C7:=λb hb=>k.C7 b (h.C7 b hb)
 unlock:=λb ⟨a,ha⟩ hn=>k.unlock b ⟨a,h.le a b ha⟩ (h.unlock b ⟨a,ha⟩ hn)
 fresh:=λa b nj=>by
  rcases k.fresh a b nj with hh | ⟨g1,g2,g3,g4⟩
  ·rcases h.fresh a b hh with h1 | ⟨h1,h2,h3,h4⟩
   ·exact .inl h1
   ·exact .inr ⟨h1,h2,qa2 h3 k.size,k.unlock b ⟨a,hh⟩ h4⟩
  ·exact .inr ⟨qaa h.Gq g1,qaa h.size g2,g3,g4⟩
 all:=λb h1 h2=>by
  by_cases hb:b<W1.heap.size
  ·obtain ⟨a,ha⟩:=h.all b h1 hb;exact ⟨a,k.le a b ha⟩
  ·exact k.all b (by omega) h2
 ofs:=λa b nj=>by
  have h1:=h.grow;rcases k.ofs a b nj with hh | hh
  ·exact h.ofs a b hh
  ·exact .inr (by omega)
 grow:=by have:=h.grow;have:=k.grow;omega
 OP:=λa ha hn=>by
  have h1: ∀b, ¬bS a b:=λb hb=>by
   rcases h.fresh a b hb with hh | ⟨hh,_⟩
   ·exact hn b hh
   ·omega
  exact (k.OP a (qa2 ha h.Gq) h1).trans (h.OP a ha hn)
omit [ba] [aH] [bg] in
theorem tj.nb{β bS:Bj}{w w1 W W1:World}{e:Event}(h:tj β w e)(k:mB β bS w w1 W W1):tj bS w1 e:=by
 obtain ⟨h0,⟨ad,a,h1,h2,h3⟩ | ⟨r,a,h1,h2,h3⟩⟩ | h:=h
 ·exact .inl ⟨h0, .inl ⟨ad,a,h1,k.le _ _ h2,λhw=>k.unlock _ ⟨a,h2⟩ (h3 hw)⟩⟩
 ·exact .inl ⟨h0, .inr ⟨r,a,h1,k.le _ _ h2,k.unlock _ ⟨a,h2⟩ h3⟩⟩
 ·exact .inr h
def iy(w W:World):Prop:= ∀(j:Nat) (q:Question),W.tape (W.drawn+j) q=w.tape (w.drawn+j) q
omit [ba] [aH] [bg] in
theorem iy.nb{β bS:Bj}{w w1 W W1:World}(h:iy w W)(k:mB β bS w w1 W W1):iy w1 W1:=λj q=>by
 have:=k.drawn;have:=k.yi;have e1:W1.drawn+j=W.drawn+((w1.drawn - w.drawn)+j):=by omega
 have e2:w1.drawn+j=w.drawn+((w1.drawn - w.drawn)+j):=by omega
 rw [k.tape,k.KX,e1,e2];exact h _ q
omit [ba] [aH] [bg] in
theorem qV{w:World}{a:Addr}{v:Value}(h:w.cell? a=some v): ∃c e f,w.heap[a.block]? =some (.cells c e f)/\a.spot=none/\c[a.off]? =some v:=by
 unfold World.cell? at h;split at h
 ·rename_i c e f heq;split at h
  ·cases h
  ·rename_i hs;exact ⟨c,e,f,heq,by simpa using hs,h⟩
 ·cases h
omit [ba] [aH] [bg] in
theorem cell_of{w:World}{a:Addr}{v:Value}{c:Array Value}{e:TypeId}{f:Nat×Nat}(h:w.heap[a.block]? =some (.cells c e f))(hs:a.spot=none)(hc:c[a.off]? =some v):w.cell? a=some v:=by
 unfold World.cell?; rw [h];simp [hs,hc]
theorem cn.cell{β:Bj}{w W:World}(h:cn β w W){a a':Addr}(ha:jj β a a'){v:Value}(hv:w.cell? a=some v): ∃v',W.cell? a'=some v'/\ax β v v':=by
 obtain ⟨c,e,f,h1,h2,h3⟩:=qV hv;obtain ⟨o,o',k1,k2,k3⟩:=h.obj _ _ ha.block;rw [h1] at k1;cases k1;cases k3 with
 | cells e hc=>
  obtain ⟨v',g1,g2⟩:=hc.get h3;exact ⟨v',cell_of k2 (ha.spot.trans h2) (ha.off▸g1),g2⟩
 | lock e hc=>
  obtain ⟨v',g1,g2⟩:=hc.get h3;exact ⟨v',cell_of k2 (ha.spot.trans h2) (ha.off▸g1),g2⟩
omit [ba] [aH] [bg] in
theorem size_setCell{w:World}{a:Addr}{v:Value}:(w.setCell a v).heap.size=w.heap.size:=by simp [World.setCell]
omit [ba] [aH] [bg] in
theorem iL{w:World}{a:Addr}{v:Value}{b:Nat}(h:b≠a.block):(w.setCell a v).heap[b]? =w.heap[b]? :=by
 unfold World.setCell;simp only;rw [qby,if_neg (λe=>h e.symm)]
omit [ba] [aH] [bg] in
theorem wD{w:World}{a:Addr}{v:Value}{c:Array Value}{e:TypeId}{f:Nat×Nat}(h:w.heap[a.block]? =some (.cells c e f))(hs:a.spot=none):(w.setCell a v).heap[a.block]? =some (.cells (c.setIfInBounds a.off v) e f):=by
 unfold World.setCell;simp only;rw [qby,if_pos rfl,h];simp [hs]
end Go.Cx
namespace Go.Cx
open Go
variable[ba][aH][bg]
theorem cn.Tk{β:Bj}{w W:World}(h:cn β w W){a a' b b':Nat}(h1:β a b)(h2:β a' b'):a=a'↔b=b':=
 ⟨λe=>by subst e;exact h.fn _ _ _ h1 h2,λe=>by subst e;exact h.inj _ _ _ h1 h2⟩
theorem vH{β:Bj}{w W:World}(h:cn β w W){a a':Addr}{v v':Value}(ha:jj β a a')(hv:ax β v v'){u:Value}(hc:w.cell? a=some u)(hf:w.frozen? a=false):
  (∃u',W.cell? a'=some u')/\W.frozen? a'=false/\cn β (w.setCell a v) (W.setCell a' v')/\mB β β w (w.setCell a v) W (W.setCell a' v')/\tj β (w.setCell a v) ⟨.cell a',true,false⟩:=by
 obtain ⟨c,e,f,h1,h2,h3⟩:=qV hc;obtain ⟨o,o',k1,k2,k3⟩:=h.obj _ _ ha.block;rw [h1] at k1;cases k1;have bG:=(qa1.1 h3).1;have Eh:a'.spot=none:=ha.spot.trans h2;cases k3 with
 | lock e hcc=>
  exfalso;unfold World.frozen? at hf;rw [h1] at hf;simp at hf;omega
 | @cells _ c' _ hcc=>
  have Wi: ¬gB β w a'.block:=by
   rintro ⟨x,c2,e2,q1,q2,q3⟩;have:=h.inj _ _ _ q1 ha.block;subst this;rw [h1] at q3;injection q3 with q3
   injection q3 with q4 q5 q6
   simp at q6
  have aaN:=wD (v:=v) h1 h2;have Wj:=wD (v:=v') k2 Eh;have aeB: ∀x y,β x y-> ∃o o',(w.setCell a v).heap[x]? =some o/\(W.setCell a' v').heap[y]? =some o'/\rV β o o':=by
   intro x y KY;by_cases hx:x=a.block
   ·subst hx;have:=h.fn _ _ _ KY ha.block;subst this;rw [ha.off] at Wj;exact ⟨_,_,aaN,Wj, .cells e (hcc.set hv _)⟩
   ·have hy:y≠a'.block:=λq=>hx ((h.Tk KY ha.block).2 q);rw [iL hx,iL hy];exact h.obj x y KY
  have Wl: ∀b,gB β w b->b≠a'.block:=λb hb q=>Wi (q▸hb);have cU: ∀b,gB β (w.setCell a v) b↔gB β w b:=by
   intro b
   constructor
   ·rintro ⟨x,c2,e2,q1,q2,q3⟩;by_cases hx:x=a.block
    ·subst hx;rw [aaN] at q3;injection q3 with q3
     injection q3 with q4 q5 q6
     simp at q6
    ·exact ⟨x,c2,e2,q1,q2,(iL hx)▸q3⟩
   ·rintro ⟨x,c2,e2,q1,q2,q3⟩;have hb:=Wl b ⟨x,c2,e2,q1,q2,q3⟩;have hx:x≠a.block:=λq=>hb ((h.Tk q1 ha.block).1 q);exact ⟨x,c2,e2,q1,q2,(iL hx).trans q3⟩
  refine ⟨?_, ?_,⟨aeB,h.inj,h.fn⟩, ?_, .inl ⟨rfl, .inl ⟨a',a.block,rfl,ha.block,λ_ hl=>Wi ((cU _).1 hl)⟩⟩⟩
  ·obtain ⟨u',hu,_⟩:=h.cell ha hc;exact ⟨u',hu⟩
  ·unfold World.frozen?; rw [k2];simp
  ·refine ⟨Le.refl _,rfl,rfl,rfl,rfl,qa3 _,by show _=_+(w.drawn - w.drawn);simp [World.setCell],by rw [size_setCell];exact qa3 _,by rw [size_setCell];exact qa3 _, ?_, ?_,λb hb=>(cU b).2 hb,λb _ hn hl=>hn ((cU b).1 hl),λx y q=> .inl q,λb q1 q2=>by rw [size_setCell] at q2;omega,λx y q=> .inl q,by rw [size_setCell,size_setCell];omega,λx _ hn=>iL λq=>hn a'.block (q▸ha.block)⟩
   ·intro b _ hn;exact iL λq=>hn a.block (q▸ha.block)
   ·intro b hb;exact iL (Wl b hb)
theorem AH{β:Bj}{w W:World}(h:cn β w W){o o':Obj}(ho:rV β o o')(OQ: ∀c e,o= .cells c e (0,c.size+1)->False):
  cn (λa b=>β a b\/(a=w.heap.size/\b=W.heap.size)) { w with heap:=w.heap.push o } { W with heap:=W.heap.push o' }/\
  mB β (λa b=>β a b\/(a=w.heap.size/\b=W.heap.size)) w { w with heap:=w.heap.push o } W { W with heap:=W.heap.push o' }:=by
 have hle:Le β (λa b=>β a b\/(a=w.heap.size/\b=W.heap.size)):=λa b h=> .inl h;have pL: ∀x,x<w.heap.size->(w.heap.push o)[x]? =w.heap[x]? :=λx hx=>by rw [qbq,if_neg (by omega)]
 have pC: ∀x,x<W.heap.size->(W.heap.push o')[x]? =W.heap[x]? :=λx hx=>by rw [qbq,if_neg (by omega)]
 have nL:(w.heap.push o)[w.heap.size]? =some o:=by rw [qbq,if_pos rfl]
 have nC:(W.heap.push o')[W.heap.size]? =some o':=by rw [qbq,if_pos rfl]
 have XM: ∀b, ¬gB (λa b=>β a b\/(a=w.heap.size/\b=W.heap.size)) { w with heap:=w.heap.push o } b\/ ∃a,β a b:=by
  intro b;by_cases hb: ∃a,β a b
  ·exact .inr hb
  ·refine .inl ?_;rintro ⟨a,c,e,q1,q2,q3⟩;rcases q1 with q1 | ⟨rfl,rfl⟩
   ·exact hb ⟨a,q1⟩
   ·rw [nL] at q3;injection q3 with q3
    exact (OQ c e q3).elim
 refine ⟨⟨?_, ?_, ?_⟩,⟨hle,rfl,rfl,rfl,rfl,qa3 _,by simp,by simp,by simp, ?_, ?_, ?_, ?_, ?_, ?_, ?_, ?_, ?_⟩⟩
 ·rintro a b (nj | ⟨rfl,rfl⟩)
  ·obtain ⟨x,x',h1,h2,h3⟩:=h.obj a b nj;exact ⟨x,x',(pL a (h.SN nj)).trans h1,(pC b (h.Oq nj)).trans h2,h3.mono hle⟩
  ·exact ⟨o,o',nL,nC,ho.mono hle⟩
 ·rintro a a' b (h1 | ⟨rfl,rfl⟩) (h2 | ⟨h3,h4⟩)
  ·exact h.inj _ _ _ h1 h2
  ·exact absurd (h.Oq h1) (by rw [h4];exact qbx _)
  ·exact absurd (h.Oq h2) (qbx _)
  ·exact h3.symm
 ·rintro a b b' (h1 | ⟨rfl,rfl⟩) (h2 | ⟨h3,h4⟩)
  ·exact h.fn _ _ _ h1 h2
  ·exact absurd (h.SN h1) (by rw [h3];exact qbx _)
  ·exact absurd (h.SN h2) (qbx _)
  ·exact h4.symm
 ·intro b hb _;exact pC b hb
 ·rintro b ⟨a,c,e,q1,q2,q3⟩;exact pC b (h.Oq q1)
 ·rintro b ⟨a,c,e,q1,q2,q3⟩;exact ⟨a,c,e, .inl q1,q2,(pL a (h.SN q1)).trans q3⟩
 ·rintro b ⟨a,ha⟩ hn ⟨x,c,e,q1,q2,q3⟩;rcases q1 with q1 | ⟨rfl,rfl⟩
  ·exact hn ⟨x,c,e,q1,q2,(pL x (h.SN q1))▸q3⟩
  ·exact absurd (h.Oq ha) (qbx _)
 ·rintro a b (nj | ⟨rfl,rfl⟩)
  ·exact .inl nj
  ·refine .inr ⟨qa3 _,qa3 _,by simp, ?_⟩;rcases XM W.heap.size with hh | ⟨x,hx⟩
   ·exact hh
   ·exact absurd (h.Oq hx) (qbx _)
 ·intro b h1 h2;simp only [Array.size_push] at h2;exact ⟨w.heap.size, .inr ⟨rfl,by omega⟩⟩
 ·rintro a b (nj | ⟨rfl,rfl⟩)
  ·exact .inl nj
  ·exact .inr (by omega)
 ·simp only [Array.size_push];omega
 ·intro a ha _;exact pL a ha
theorem cn.draw{β:Bj}{w W:World}(h:cn β w W)(d D:Nat):cn β { w with drawn:=d } { W with drawn:=D }:=⟨h.obj,h.inj,h.fn⟩
theorem tP{β:Bj}{w W:World}(h:cn β w W){r r':Nat}{o o' p:Obj}(hr:β r r')(ho:rV β o o')(hp:w.heap[r]? =some p)(hn: ∀c e f,p≠ .cells c e f)(OQ: ∀c e f,o≠ .cells c e f):
  (∃p',W.heap[r']? =some p'/\(∀c e f,p'≠ .cells c e f)/\p'.isChan=false)/\cn β { w with heap:=w.heap.setIfInBounds r o } { W with heap:=W.heap.setIfInBounds r' o' }/\
  mB β β w { w with heap:=w.heap.setIfInBounds r o } W { W with heap:=W.heap.setIfInBounds r' o' }:=by
 obtain ⟨x,x',k1,k2,k3⟩:=h.obj _ _ hr;rw [hp] at k1;cases k1;have bG:=h.SN hr;have XN:=h.Oq hr;have sL:(w.heap.setIfInBounds r o)[r]? =some o:=by rw [qad,if_pos rfl,if_pos bG]
 have sC:(W.heap.setIfInBounds r' o')[r']? =some o':=by rw [qad,if_pos rfl,if_pos XN]
 have tL: ∀b,b≠r->(w.heap.setIfInBounds r o)[b]? =w.heap[b]? :=λb hb=>by rw [qad,if_neg λq=>hb q.symm]
 have tC: ∀b,b≠r'->(W.heap.setIfInBounds r' o')[b]? =W.heap[b]? :=λb hb=>by rw [qad,if_neg λq=>hb q.symm]
 have cU: ∀b,gB β { w with heap:=w.heap.setIfInBounds r o } b↔gB β w b:=by
  intro b
  constructor
  ·rintro ⟨y,c,e,q1,q2,q3⟩;by_cases hy:y=r
   ·subst hy;rw [sL] at q3;injection q3 with q3
    exact absurd q3 (OQ _ _ _)
   ·exact ⟨y,c,e,q1,q2,(tL y hy)▸q3⟩
  ·rintro ⟨y,c,e,q1,q2,q3⟩;by_cases hy:y=r
   ·subst hy;rw [hp] at q3;injection q3 with q3
    exact absurd q3 (hn _ _ _)
   ·exact ⟨y,c,e,q1,q2,(tL y hy).trans q3⟩
 refine ⟨?_,⟨?_,h.inj,h.fn⟩,⟨Le.refl _,rfl,rfl,rfl,rfl,qa3 _,by simp,by simp,by simp, ?_, ?_,λb hb=>(cU b).2 hb,λb _ hh hl=>hh ((cU b).1 hl),λ_ _ q=> .inl q,λb q1 q2=>by simp at q2;omega,λ_ _ q=> .inl q,by simp only [Array.size_setIfInBounds];omega,λa _ hn=>tL a λq=>hn r' (q▸hr)⟩⟩
 ·refine ⟨x',k2, ?_, ?_⟩
  ·cases k3 with
   | cells e hc=>exact absurd rfl (hn _ _ _)
   | lock e hc=>exact absurd rfl (hn _ _ _)
   | loop hl=>intro c e f q;cases q
   | num b h=>intro c e f q;cases q
   | Cn b=>intro c e f q;cases q
  ·cases k3 with
   | cells e hc=>rfl
   | lock e hc=>rfl
   | loop hl=>rfl
   | num b h=>rfl
   | Cn b=>rfl
 ·intro a b nj;by_cases ha:a=r
  ·subst ha;have:=h.fn _ _ _ nj hr;subst this;exact ⟨o,o',sL,sC,ho⟩
  ·have hb:b≠r':=λq=>ha ((h.Tk nj hr).2 q);rw [tL a ha,tC b hb];exact h.obj a b nj
 ·intro b _ hb;exact tC b λq=>hb r (q▸hr)
 ·rintro b ⟨y,c,e,q1,q2,q3⟩;refine tC b λq=> ?_;have:=(h.Tk q1 hr).2 q;subst this;rw [hp] at q3;injection q3 with q3
  exact absurd q3 (hn _ _ _)
omit [ba] [aH] [bg] in
theorem Mw{β:Bj}{w W:World}(n:Nat):mB β β w { w with drawn:=w.drawn+n } W { W with drawn:=W.drawn+n }:=
 ⟨Le.refl _,rfl,rfl,rfl,rfl,Nat.le_add_right _ _,by simp,qa3 _,qa3 _,λ_ _ _=>rfl,λ_ _=>rfl,λ_ h=>h,λ_ _ h=>h,λ_ _ h=> .inl h,λb h1 h2=>by simp at h2;omega,λ_ _ h=> .inl h,by simp only [];omega,λ_ _ _=>rfl⟩
end Go.Cx
namespace Go.Cx
open Go
variable[ba][aH][bg]
theorem cn.Wm{β:Bj}{w W:World}(h:cn β w W){a:Addr}{b:Nat}(hb:β a.block b)(p:Program)(m:Bool): ∃e,w.farLoad p a m= .error e/\I2 e:=by
 obtain ⟨o,o',k1,_,k3⟩:=h.obj _ _ hb;unfold World.farLoad World.noCell;rw [k1];cases k3 <;> exact ⟨_,rfl,trivial⟩
theorem cn.Wn{β:Bj}{w W:World}(h:cn β w W){a:Addr}{b:Nat}(hb:β a.block b)(p:Program)(v:Value)(m:Bool): ∃e,w.farStore p a v m= .error e/\I2 e:=by
 obtain ⟨o,o',k1,_,k3⟩:=h.obj _ _ hb;unfold World.farStore World.noCell;rw [k1];cases k3 <;> exact ⟨_,rfl,trivial⟩
theorem cn.aaO{β:Bj}{w W:World}(h:cn β w W){a:Addr}{b:Nat}(hb:β a.block b)(p:Program)(m:Bool): ∃e,w.farLoad p a m= .error e:=let ⟨e,h,_⟩:=h.Wm hb p m;⟨e,h⟩
theorem cn.aaP{β:Bj}{w W:World}(h:cn β w W){a:Addr}{b:Nat}(hb:β a.block b)(p:Program)(v:Value)(m:Bool): ∃e,w.farStore p a v m= .error e:=let ⟨e,h,_⟩:=h.Wn hb p v m;⟨e,h⟩
omit [ba] [aH] [bg] in
theorem Ei{w:World}{o:Obj}(hd:Dw w)(ho: ∀ds,o= .deferred (some ds)->ds=[]):Dw { w with heap:=w.heap.push o }:=by
 intro r ds hr;rw [qbq] at hr;split at hr
 ·cases hr;exact ho ds rfl
 ·exact hd r ds hr
omit [ba] [aH] [bg] in
theorem yj{w:World}{r:Nat}{o:Obj}(hd:Dw w)(ho: ∀ds,o= .deferred (some ds)->ds=[]):Dw { w with heap:=w.heap.setIfInBounds r o }:=by
 intro r2 ds hr;simp only [qad] at hr;split at hr
 ·split at hr
  ·cases hr;exact ho ds rfl
  ·cases hr
 ·exact hd r2 ds hr
omit [ba] [aH] [bg] in
theorem AI{w:World}{a:Addr}{v:Value}(hd:Dw w):Dw (w.setCell a v):=by
 intro r ds hr;unfold World.setCell at hr;simp only [qby] at hr;split at hr
 ·cases h:w.heap[r]? with
  | none=>rw [h] at hr;cases hr
  | some o=>
   rw [h] at hr;cases o <;> cases hr;exact hd r ds h
 ·exact hd r ds hr
theorem yh.dw{β:Bj}{o o':Obj}(h:yh β o o'): ∀ds,o= .deferred (some ds)->ds=[]:=by
 intro ds q;cases h with
 | Cn b=>cases b <;> cases q;rfl
 | _=>cases q
theorem cn.Ej{β:Bj}{w W:World}(h:cn β w W){r r':Nat}{o:Obj}(hb:β r r')(ho:w.heap[r]? =some o)(hn: ∀c e f,o≠ .cells c e f): ¬gB β w r':=by
 rintro ⟨a,c,e,h1,h2,h3⟩;have:=h.inj _ _ _ h1 hb;subst this;rw [ho] at h3;injection h3 with h3
 exact hn _ _ _ h3
theorem ay.run{Pl Pc:Program}{α:Type}{RA:Bj->α->α->Prop}{β:Bj}{s t:Sem α}(h:ay Pl Pc RA β s t): ∀{w W w1:World} {a:α} (tJ:Array Event),cn β w W->iy w W->s.run Pl w= .ok a w1->
  ∃a' W1 bS es,t.runT Pc W tJ=(.ok a' W1,tJ++es)/\RA bS a a'/\cn bS w1 W1/\mB β bS w w1 W W1/\ ∀e∈es,tj bS w1 e:=by
 induction h with
 | pure ha=>
  intro w W w1 a tJ hw ht hr;cases hr;exact ⟨_,W,_, #[],by simp [Sem.runT],ha,hw,mB.refl _ _ _,by simp⟩
 | @load β ad oa k k' Ge _ ih=>
  intro w W w1 a tJ hw ht hr;simp only [Sem.run] at hr;cases hc:w.cell? ad with
  | none=>
   exfalso;obtain ⟨e,he⟩:=hw.aaO Ge.block Pl (Mode.plain==Mode.atomic);rw [hc] at hr;simp only [he] at hr;cases hr
  | some v=>
   rw [hc] at hr;obtain ⟨v',Gf,hvr⟩:=hw.cell Ge hc;obtain ⟨a',W1,bS,es,h1,h2,h3,h4,h5⟩:=ih v v' hvr (tJ.push ⟨.cell oa,false,false⟩) hw ht hr;refine ⟨a',W1,bS, #[⟨.cell oa,false,false⟩]++es, ?_,h2,h3,h4, ?_⟩
   ·simp only [Sem.runT,Gf];rw [show (Mode.plain==Mode.atomic)=false from rfl,h1];simp
   ·intro e he;rcases qc6.1 he with he | he
    ·simp at he;subst he;exact tj.nb (β:=β) (w:=w) (.inl ⟨rfl, .inl ⟨oa,ad.block,rfl,Ge.block,λq=>by cases q⟩⟩) h4
    ·exact h5 e he
 | @store β ad oa v v' k k' Ge hv _ ih=>
  intro w W w1 a tJ hw ht hr;have wE:(∀c,v≠ .agg c)/\ ∀c,v≠ .tuple c:=by
   constructor
   ·rintro c rfl;cases hr
   ·rintro c rfl;cases hr
  have bM:(match w.cell? ad with
    | some _=>if w.frozen? ad then Result.halt (.unsupported (.unsafePointer "a write to bytes that a string shares")) w else k.run Pl (w.setCell ad v)
    | none=>match w.farStore Pl ad v (Mode.plain==Mode.atomic) with
     | .ok (w,_)=>k.run Pl w
     | .error h=> .halt h w)= .ok a w1:=by
   cases v <;> first | exact hr | exact absurd rfl (wE.1 _) | exact absurd rfl (wE.2 _)
  cases hc:w.cell? ad with
  | none=>
   exfalso;obtain ⟨e,he⟩:=hw.aaP Ge.block Pl v (Mode.plain==Mode.atomic);rw [hc] at bM;simp only [he] at bM;cases bM
  | some u=>
   rw [hc] at bM;simp only at bM;cases hf:w.frozen? ad with
   | true=>rw [hf] at bM;cases bM
   | false=>
    rw [hf] at bM;simp only [qa6,if_false] at bM;obtain ⟨⟨u',tO⟩,hf',C8,hT,hE⟩:=vH hw Ge hv hc hf;obtain ⟨a',W1,bS,es,h1,h2,h3,h4,h5⟩:=ih (tJ.push ⟨.cell oa,true,false⟩) C8 (ht.nb hT) bM;have aaQ:(∀c,v'≠ .agg c)/\ ∀c,v'≠ .tuple c:=by
     constructor
     ·rintro c rfl;cases hv <;> first | exact wE.1 _ rfl | exact wE.2 _ rfl
     ·rintro c rfl;cases hv <;> exact wE.2 _ rfl
    refine ⟨a',W1,bS, #[⟨.cell oa,true,false⟩]++es, ?_,h2,h3,hT.trans h4, ?_⟩
    ·have:(Sem.store .plain oa v' k').runT Pc W tJ=(match W.cell? oa with
       | some _=>
        if W.frozen? oa then (.halt (.unsupported (.unsafePointer "a write to bytes that a string shares")) W,tJ)
        else k'.runT Pc (W.setCell oa v') (tJ.push ⟨.cell oa,true,Mode.plain== .atomic⟩)
       | none=>match W.farStore Pc oa v' (Mode.plain== .atomic) with
        | .ok (w,Tl)=>k'.runT Pc w (tJ++Tl.toArray.map (⟨.cell ·,true,Mode.plain== .atomic⟩))
        | .error h=>(.halt h W,tJ)):=by
      cases v' <;> first | rfl | exact absurd rfl (aaQ.1 _) | exact absurd rfl (aaQ.2 _)
     rw [this,tO];simp only [hf',qa6,if_false];rw [show (Mode.plain==Mode.atomic)=false from rfl,h1];simp
    ·intro e he;rcases qc6.1 he with he | he
     ·simp at he;subst he;exact hE.nb h4
     ·exact h5 e he
 | @new β o o' k k' ho _ ih=>
  intro w W w1 a tJ hw ht hr;obtain ⟨C8,hT⟩:=AH hw ho.o ho.no;obtain ⟨a',W1,bS,es,h1,h2,h3,h4,h5⟩:=ih _ w.heap.size W.heap.size hT.le (.inr ⟨rfl,rfl⟩) tJ C8 (ht.nb hT) hr;exact ⟨a',W1,bS,es,h1,h2,h3,hT.trans h4,h5⟩
 | @shape β r r' k k' hb _ ih=>
  intro w W w1 a tJ hw ht hr;have:W.shape? r'=w.shape? r:=by
   obtain ⟨x,x',k1,k2,k3⟩:=hw.obj _ _ hb;unfold World.shape?;rw [k1,k2];cases k3 with
   | cells e hc=>simp [hc.1]
   | lock e hc=>simp [hc.1]
   | loop hl=>rfl
   | num b h=>rfl
   | Cn b=>rfl
  simp only [Sem.runT,this];exact ih _ tJ hw ht hr
 | @getObj β r r' k k' hb _ ih=>
  intro w W w1 a tJ hw ht hr;obtain ⟨x,x',k1,k2,k3⟩:=hw.obj _ _ hb;simp only [Sem.run,k1] at hr;cases k3 with
  | cells e hc=>cases hr
  | lock e hc=>cases hr
  | @loop l l' hl=>
   obtain ⟨a',W1,bS,es,h1,h2,h3,h4,h5⟩:=ih (.loop l) (.loop l') (.loop hl) (tJ.push ⟨.obj r',false,false⟩) hw ht hr;refine ⟨a',W1,bS, #[⟨.obj r',false,false⟩]++es, ?_,h2,h3,h4, ?_⟩
   ·simp only [Sem.runT,k2];rw [show (Obj.loop l').isChan=false from rfl,h1];simp
   ·intro e he;rcases qc6.1 he with he | he
    ·simp at he;subst he;exact tj.nb (β:=β) (w:=w) (.inl ⟨rfl, .inr ⟨r',r,rfl,hb,hw.Ej hb k1 (by intro c e f q;cases q)⟩⟩) h4
    ·exact h5 e he
  | @num ad oa lost ha=>
   obtain ⟨a',W1,bS,es,h1,h2,h3,h4,h5⟩:=ih _ _ (.num lost ha) (tJ.push ⟨.obj r',false,false⟩) hw ht hr;refine ⟨a',W1,bS, #[⟨.obj r',false,false⟩]++es, ?_,h2,h3,h4, ?_⟩
   ·simp only [Sem.runT,k2];rw [show (Obj.number oa lost).isChan=false from rfl,h1];simp
   ·intro e he;rcases qc6.1 he with he | he
    ·simp at he;subst he;exact tj.nb (β:=β) (w:=w) (.inl ⟨rfl, .inr ⟨r',r,rfl,hb,hw.Ej hb k1 (by intro c e f q;cases q)⟩⟩) h4
    ·exact h5 e he
  | Cn b=>
   obtain ⟨a',W1,bS,es,h1,h2,h3,h4,h5⟩:=ih _ _ (.Cn b) (tJ.push ⟨.obj r',false,false⟩) hw ht hr;refine ⟨a',W1,bS, #[⟨.obj r',false,false⟩]++es, ?_,h2,h3,h4, ?_⟩
   ·simp only [Sem.runT,k2];rw [show (Obj.deferred (if b then some [] else none)).isChan=false from rfl,h1];simp
   ·intro e he;rcases qc6.1 he with he | he
    ·simp at he;subst he;exact tj.nb (β:=β) (w:=w) (.inl ⟨rfl, .inr ⟨r',r,rfl,hb,hw.Ej hb k1 (by intro c e f q;cases q)⟩⟩) h4
    ·exact h5 e he
 | @setObj β r r' o o' k k' hb ho hn _ ih=>
  intro w W w1 a tJ hw ht hr;obtain ⟨x,x',k1,k2,k3⟩:=hw.obj _ _ hb;have hx: ∀c e f,x≠ .cells c e f:=by
   rintro c e f rfl;simp only [Sem.run,k1] at hr;cases hr
  have hr':k.run Pl { w with heap:=w.heap.setIfInBounds r o }= .ok a w1:=by
   simp only [Sem.run,k1] at hr;cases x <;> first | exact hr | exact absurd rfl (hx _ _ _)
  obtain ⟨⟨p',g1,g2,g3⟩,C8,hT⟩:=tP hw hb ho.o k1 hx hn;have hc:o'.isChan=false:=by cases ho <;> rfl
  obtain ⟨a',W1,bS,es,h1,h2,h3,h4,h5⟩:=ih (tJ.push ⟨.obj r',true,false⟩) C8 (ht.nb hT) hr';refine ⟨a',W1,bS, #[⟨.obj r',true,false⟩]++es, ?_,h2,h3,hT.trans h4, ?_⟩
  ·simp only [Sem.runT,g1];cases p' <;> first | exact absurd rfl (g2 _ _ _) | (simp only [hc,h1];simp)
  ·intro e he;rcases qc6.1 he with he | he
   ·simp at he;subst he;exact tj.nb (β:=β) (w:=w) (.inl ⟨rfl, .inr ⟨r',r,rfl,hb,hw.Ej hb k1 hx⟩⟩) (hT.trans h4)
   ·exact h5 e he
 | @choose β q k k' _ ih=>
  intro w W w1 a tJ hw ht hr;simp only [Sem.run] at hr;simp only [Sem.runT];split at hr
  ·rename_i hq;rw [if_pos hq];exact ih 0 tJ hw ht hr
  ·rename_i hq;rw [if_neg hq];have hT:=Mw (β:=β) (w:=w) (W:=W) 1;have h0:=ht 0 q;simp only [qcc] at h0;rw [h0];obtain ⟨a',W1,bS,es,h1,h2,h3,h4,h5⟩:=ih _ tJ (hw.draw _ _) (ht.nb hT) hr;exact ⟨a',W1,bS,es,h1,h2,h3,hT.trans h4,h5⟩
 | program _ ih=>
  intro w W w1 a tJ hw ht hr;exact ih tJ hw ht hr
 | mark _ ih=>
  intro w W w1 a tJ hw ht hr;obtain ⟨a',W1,bS,es,h1,h2,h3,h4,h5⟩:=ih (tJ.push ⟨.mark .noRoom,false,true⟩) hw ht hr;refine ⟨a',W1,bS, #[⟨.mark .noRoom,false,true⟩]++es, ?_,h2,h3,h4, ?_⟩
  ·simp only [Sem.runT,h1];simp
  ·intro e he;rcases qc6.1 he with he | he
   ·simp at he;subst he;exact .inr rfl
   ·exact h5 e he
 | dead hd=>
  intro w W w1 a tJ hw ht hr;exact absurd hr (hd.no _ _ _)
theorem ay.AG{Pl Pc:Program}{α:Type}{RA:Bj->α->α->Prop}{β:Bj}{s t:Sem α}(h:ay Pl Pc RA β s t): ∀{w W w1:World} {hh:Halt},cn β w W->s.run Pl w= .halt hh w1->I2 hh/\(Dw w->Dw w1):=by
 induction h with
 | pure ha=>intro w W w1 hh hw hr;cases hr
 | @load β ad oa k k' Ge _ ih=>
  intro w W w1 hh hw hr;simp only [Sem.run] at hr;cases hc:w.cell? ad with
  | none=>
   obtain ⟨e,he,hm⟩:=hw.Wm Ge.block Pl (Mode.plain==Mode.atomic);rw [hc] at hr;simp only [he] at hr;cases hr;exact ⟨hm,id⟩
  | some v=>
   rw [hc] at hr;obtain ⟨v',Gf,hvr⟩:=hw.cell Ge hc;exact ih v v' hvr hw hr
 | @store β ad oa v v' k k' Ge hv _ ih=>
  intro w W w1 hh hw hr;by_cases wE:(∀c,v≠ .agg c)/\ ∀c,v≠ .tuple c
  ·have KZ:(Sem.store .plain ad v k).run Pl w=(match w.cell? ad with
     | some _=>if w.frozen? ad then Result.halt (.unsupported (.unsafePointer "a write to bytes that a string shares")) w else k.run Pl (w.setCell ad v)
     | none=>match w.farStore Pl ad v (Mode.plain==Mode.atomic) with
      | .ok (w,_)=>k.run Pl w
      | .error h=> .halt h w):=by
    cases v <;> first | rfl | exact absurd rfl (wE.1 _) | exact absurd rfl (wE.2 _)
   rw [KZ] at hr;cases hc:w.cell? ad with
   | none=>
    obtain ⟨e,he,hm⟩:=hw.Wn Ge.block Pl v (Mode.plain==Mode.atomic);rw [hc] at hr;simp only [he] at hr;cases hr;exact ⟨hm,id⟩
   | some u=>
    rw [hc] at hr;simp only at hr;cases hf:w.frozen? ad with
    | true=>rw [hf] at hr;cases hr;exact ⟨λg q=>(by cases q),id⟩
    | false=>
     rw [hf] at hr;simp only [qa6,if_false] at hr;obtain ⟨_,hf',C8,hT,hE⟩:=vH hw Ge hv hc hf;exact let ⟨h1,h2⟩:=ih C8 hr;⟨h1,λh=>h2 (AI h)⟩
  ·cases v <;> first | (cases hr;exact ⟨trivial,id⟩) | exact (wE ⟨λc q=>(by cases q),λc q=>(by cases q)⟩).elim
 | @new β o o' k k' ho _ ih=>
  intro w W w1 hh hw hr;obtain ⟨C8,hT⟩:=AH hw ho.o ho.no;exact let ⟨h1,h2⟩:=ih _ w.heap.size W.heap.size hT.le (.inr ⟨rfl,rfl⟩) C8 hr;⟨h1,λh=>h2 (Ei h ho.dw)⟩
 | @shape β r r' k k' hb _ ih=>
  intro w W w1 hh hw hr;exact ih _ hw hr
 | @getObj β r r' k k' hb _ ih=>
  intro w W w1 hh hw hr;obtain ⟨x,x',k1,k2,k3⟩:=hw.obj _ _ hb;simp only [Sem.run,k1] at hr;cases k3 with
  | cells e hc=>cases hr;exact ⟨trivial,id⟩
  | lock e hc=>cases hr;exact ⟨trivial,id⟩
  | @loop l l' hl=>exact ih (.loop l) (.loop l') (.loop hl) hw hr
  | @num ad oa lost ha=>exact ih _ _ (.num lost ha) hw hr
  | Cn b=>exact ih _ _ (.Cn b) hw hr
 | @setObj β r r' o o' k k' hb ho hn _ ih=>
  intro w W w1 hh hw hr;obtain ⟨x,x',k1,k2,k3⟩:=hw.obj _ _ hb;by_cases hx: ∀c e f,x≠ .cells c e f
  ·have KZ:(Sem.setObj r o k).run Pl w=k.run Pl { w with heap:=w.heap.setIfInBounds r o }:=by
    simp only [Sem.run,k1]
   rw [KZ] at hr;obtain ⟨_,C8,hT⟩:=tP hw hb ho.o k1 hx hn;exact let ⟨h1,h2⟩:=ih C8 hr;⟨h1,λh=>h2 (yj h ho.dw)⟩
  ·cases k3 with
   | cells e hc=>simp only [Sem.run,k1] at hr;cases hr;exact ⟨trivial,id⟩
   | lock e hc=>simp only [Sem.run,k1] at hr;cases hr;exact ⟨trivial,id⟩
   | _=>exact (hx λc e f q=>by cases q).elim
 | @choose β q k k' _ ih=>
  intro w W w1 hh hw hr;simp only [Sem.run] at hr;split at hr
  ·exact ih 0 hw hr
  ·have:=ih _ (hw.draw (w.drawn+1) W.drawn) hr;exact ⟨this.1,λh=>this.2 h⟩
 | program _ ih=>intro w W w1 hh hw hr;exact ih hw hr
 | mark _ ih=>intro w W w1 hh hw hr;exact ih hw hr
 | dead hd=>intro w W w1 hh hw hr;exact ⟨hd.AG _ _ _ hr,λh=>hd.kp _ _ _ h hr⟩
end Go.Cx
namespace Go.Cx
open Go
variable[ba][aH][bg]
def SP(L:Program)(t:TypeId):Prop:= ∀i v,L.info? t=some i->i.zero=some v->Plain v
def Mx(L:Program)(t:TypeId):Prop:= ∀e,L.underlying t=some (.slice e)->SP L e
structure gC(L C:Program):Prop where
 info: ∀t,C.info? t=L.info? t
 und: ∀t,C.underlying t=L.underlying t
 Ot:C.types.size=L.types.size
 fns: ∀(f:FuncId) (fn:Func),L.funcs[f]? =some fn->fn.body.isNone=false->ba.th f/\(fn.name== "runtime.NumGoroutine")=false/\ ∃jN:Func,C.funcs[f]? =some jN/\jN.body.isNone=false/\(jN.name== "runtime.NumGoroutine")=false
 gl:L.globals.size=0
 sih: ∀t,C.stoodInHeld t=L.stoodInHeld t
 cc: ∀(t:TypeId) (i:TypeInfo) (n:TypeId),L.info? t=some i->i.desc≠ .named "sync.copyChecker" n
 cab: ∀e n o k,cellAtBytes C C.depth e (n / C.cellsOf e) o k=cellAtBytes L L.depth e (n / L.cellsOf e) o k
 bof: ∀e off,C.cellsOf e=L.cellsOf e/\byteOfCell C C.depth e off=byteOfCell L L.depth e off/\C.bytesOf e=L.bytesOf e
 mp: ∀(t:TypeId) (i:TypeInfo) (m:Method),L.info? t=some i->m∈i.methods->m.path.toList=[]/\ ∀f b,m.func=some (f,b)->ba.ok f
 nob: ∀(f:FuncId) (fn:Func),L.funcs[f]? =some fn->fn.body.isNone=true-> ∀args,aR L (callFunc f args)
section
variable{L C:Program}{α γ:Type}
omit [ba] [aH] [bg] in
theorem aR.halt{h:Halt}(hm:I2 h:=by first | exact trivial | (intro g q;cases q)):aR L (.halt h:Sem α):=⟨λ_ _ _ q=>(by cases q),λ_ _ _ q=>(by cases q;exact hm),λ_ _ _ hd q=>(by cases q;exact hd)⟩
def Kp(L:Program){α:Type}(s:Sem α):Prop:= ∀w,Dw w->(∀a w1,s.run L w= .ok a w1->Dw w1)/\ ∀h w1,s.run L w= .halt h w1->Dw w1
class nc(L:Program){α:Type}(s:Sem α):Prop where
 out:Mld L s
 kp:Kp L s
instance(a:α):nc L (pure a:Sem α):=⟨λw h w1 q=>(by cases q),λw hd=>⟨λa w1 q=>(by cases q;exact hd),λh w1 q=>(by cases q)⟩⟩
instance:nc L program:=⟨λw h w1 q=>(by cases q),λw hd=>⟨λa w1 q=>(by cases q;exact hd),λh w1 q=>(by cases q)⟩⟩
instance fz(s:Sem α)(f:α->Sem γ)[h1:nc L s][h2: ∀x,nc L (f x)]:nc L (s >>= f):=⟨λw h w1 q=>by
 rw [Sem.run_bind] at q;cases hs:s.run L w with
 | ok x w'=>rw [hs] at q;exact (h2 x).out _ _ _ q
 | halt hh w'=>rw [hs] at q;cases q;exact h1.out _ _ _ hs,λw hd=>by
 constructor
 ·intro a w1 q;rw [Sem.run_bind] at q;cases hs:s.run L w with
  | ok x w'=>rw [hs] at q;exact ((h2 x).kp w' ((h1.kp w hd).1 _ _ hs)).1 _ _ q
  | halt hh w'=>rw [hs] at q;cases q
 ·intro h w1 q;rw [Sem.run_bind] at q;cases hs:s.run L w with
  | ok x w'=>rw [hs] at q;exact ((h2 x).kp w' ((h1.kp w hd).1 _ _ hs)).2 _ _ q
  | halt hh w'=>rw [hs] at q;cases q;exact (h1.kp w hd).2 _ _ hs⟩
omit [ba] [aH] [bg] in
theorem jq{s:Sem α}(h: ∀w,(∃a w1,s.run L w= .ok a w1/\w1.heap=w.heap)\/ ∃x,s.run L w= .halt (.stuck x) w):nc L s:=⟨λw hh w1 q=>by
 rcases h w with ⟨a,w2,h,_⟩ | ⟨x,h⟩
 ·rw [h] at q;cases q
 ·rw [h] at q;cases q;trivial,λw hd=>by
 rcases h w with ⟨a,w2,h,he⟩ | ⟨x,h⟩
 ·constructor
  ·intro a w1 q;rw [h] at q;cases q;intro r ds hr;rw [he] at hr;exact hd r ds hr
  ·intro hh w1 q;rw [h] at q;cases q
 ·constructor
  ·intro a w1 q;rw [h] at q;cases q
  ·intro hh w1 q;rw [h] at q;cases q;exact hd⟩
instance(t:TypeId):nc L (typeInfo t):=jq λw=>by
 unfold typeInfo;rw [Sem.run_bind];change (∃a w1,Result.andThen (.ok L w) _=_/\_)\/ ∃x,Result.andThen (.ok L w) _=_;simp only [Result.andThen_ok];cases hi:L.info? t with
 | none=>exact .inr ⟨_,rfl⟩
 | some i=>exact .inl ⟨_,_,rfl,rfl⟩
instance(q:Question):nc L (choose q):=jq λw=>by
 unfold choose;simp only [Sem.run];split
 ·exact .inl ⟨_,_,rfl,rfl⟩
 ·exact .inl ⟨_,_,rfl,rfl⟩
instance(f:α->γ)(s:Sem α)[h:nc L s]:nc L (Functor.map f s):=by
 rw [map_eq_pure_bind];infer_instance
instance(s:String):nc L (stuck s:Sem α):=jq λw=> .inr ⟨_,rfl⟩
instance(r:Nat):nc L (shape r):=jq λw=> .inl ⟨_,_,rfl,rfl⟩
instance(m:Mark):nc L (mark m):=jq λw=> .inl ⟨_,_,rfl,rfl⟩
instance(r:Nat):nc L (getObj r):=jq λw=>by
 unfold getObj;simp only [Sem.run];split
 ·exact .inr ⟨_,rfl⟩
 ·exact .inl ⟨_,_,rfl,rfl⟩
 ·exact .inr ⟨_,rfl⟩
instance(t:TypeId)(cs:Array Value):nc L (newRow t cs):=⟨λw h w1 q=>(by cases q),λw hd=>⟨λa w1 q=>(by cases q;exact Ei hd λds q=>(by cases q)),λh w1 q=>(by cases q)⟩⟩
instance(t:TypeId)(v:Value):nc L (newVar t v):=by unfold newVar;infer_instance
instance(t:TypeId):nc L (underlying t):=jq λw=>by
 unfold underlying;rw [Sem.run_bind];change (∃a w1,Result.andThen (.ok L w) _=_/\_)\/ ∃x,Result.andThen (.ok L w) _=_;simp only [Result.andThen_ok];split
 ·exact .inl ⟨_,_,rfl,rfl⟩
 ·exact .inr ⟨_,rfl⟩
instance(t:TypeId):nc L (elemOf t):=by
 unfold elemOf;refine @fz _ _ _ _ _ _ λd=> ?_;split <;> infer_instance
instance(r:Nat):nc L (numberAt r):=by
 unfold numberAt;refine @fz _ _ _ _ _ _ λd=> ?_;split
 ·infer_instance
 ·refine @fz _ _ _ _ _ _ λd=> ?_;split <;> infer_instance
instance(a:Addr):nc L (behindNumber a):=by unfold behindNumber;infer_instance
omit [ba] [aH] [bg] in
theorem aR.bind{s:Sem α}{f:α->Sem γ}[hm:nc L s](h: ∀x,aR L (f x)):aR L (s >>= f):=by
 refine ⟨λw a w1 q=> ?_,λw hh w1 q=> ?_,λw hh w1 hd q=> ?_⟩
 ·rw [Sem.run_bind] at q;cases hs:s.run L w with
  | ok x w'=>rw [hs] at q;exact (h x).no _ _ _ q
  | halt hh w'=>rw [hs] at q;cases q
 ·rw [Sem.run_bind] at q;cases hs:s.run L w with
  | ok x w'=>rw [hs] at q;exact (h x).AG _ _ _ q
  | halt hh w'=>rw [hs] at q;cases q;exact hm.out _ _ _ hs
 ·rw [Sem.run_bind] at q;cases hs:s.run L w with
  | ok x w'=>rw [hs] at q;exact (h x).kp _ _ _ ((hm.kp w hd).1 _ _ hs) q
  | halt hh w'=>rw [hs] at q;cases q;exact (hm.kp w hd).2 _ _ hs
omit [ba] [aH] [bg] in
theorem bb{e:RuntimeError}:aR L (runtimePanic e:Sem α):=by
 unfold runtimePanic;refine aR.bind λp=> ?_;cases e
 case typeAssertion=>exact aR.bind λ_=>aR.bind λ_=>aR.halt
 case panicNil=>exact aR.bind λ_=>aR.bind λ_=>aR.halt
 all_goals exact aR.halt
omit [ba] [aH] [bg] in
theorem aR.prog{f:Program->Sem α}(h:aR L (f L)):aR L (program >>= f):=⟨λw a w1 q=>h.no w a w1 q,λw hh w1 q=>h.AG w hh w1 q,λw hh w1 hd q=>h.kp w hh w1 hd q⟩
omit [ba] [aH] [bg] in
theorem OR(t:TypeId)(f:TypeInfo->Sem α)(w:World):(typeInfo t >>= f).run L w=match L.info? t with | none=>(typeInfo t >>= f).run L w | some i=>(f i).run L w:=by
 cases hi:L.info? t with
 | none=>rfl
 | some i=>
  rw [Sem.run_bind];unfold typeInfo;rw [Sem.run_bind];change Result.andThen (Result.andThen (.ok L w) _) _=_;simp only [Result.andThen_ok,hi]
  rfl
omit [ba] [aH] [bg] in
theorem aR.info{t:TypeId}{f:TypeInfo->Sem α}(h: ∀i,L.info? t=some i->aR L (f i)):aR L (typeInfo t >>= f):=by
 cases hi:L.info? t with
 | none=>
  refine aR.eh ⟨λw a w1 q=> ?_,(inferInstance:nc L (typeInfo t)).out,λw h w1 hd q=>((inferInstance:nc L (typeInfo t)).kp w hd).2 _ _ q⟩;unfold typeInfo at q;rw [Sem.run_bind] at q;change Result.andThen (.ok L w) _=_ at q;simp only [Result.andThen_ok,hi] at q;cases q
 | some i=>
  have hr: ∀w,(typeInfo t >>= f).run L w=(f i).run L w:=λw=>by rw [OR,hi]
  exact ⟨λw a w1 q=>(h i hi).no w a w1 (hr w▸q),λw hh w1 q=>(h i hi).AG w hh w1 (hr w▸q),λw hh w1 hd q=>(h i hi).kp w hh w1 hd (hr w▸q)⟩
omit [ba] [aH] [bg] in
theorem ki{k:IntKind}{x y:Int}{c:BoundsCode}:aR L (boundsPanic k x y c:Sem α):=by
 unfold boundsPanic;simp only;split
 ·exact aR.bind λ_=>bb
 ·exact aR.bind λ_=>bb
variable{RA RB:Bj->α->α->Prop}{β:Bj}
theorem ao{h:Halt}{t:Sem α}(hm:I2 h:=by first | exact trivial | (intro g q;cases q)):ay L C RA β (.halt h) t:= .dead (aR.halt hm)
theorem aR.rel{s t:Sem α}(h:aR L s):ay L C RA β s t:= .dead h
theorem ay.bd{RG:Bj->γ->γ->Prop}{s t:Sem α}{f g:α->Sem γ}(h:ay L C RA β s t)(k: ∀bS a a',Le β bS->RA bS a a'->ay L C RG bS (f a) (g a')):ay L C RG β (s >>= f) (t >>= g):=ay.bind h k
def gb{α:Type}(P:α->Prop):Bj->α->α->Prop:=λ_ a a'=>a=a'/\P a
section
variable(H:gC L C)
include H
theorem jY(t:TypeId):ay L C (gb λi=>L.info? t=some i) β (typeInfo t) (typeInfo t):=by
 unfold typeInfo;refine .program ?_;show ay L C _ β (match L.info? t with | some i=>pure i | none=>stuck "no such type") (match C.info? t with | some i=>pure i | none=>stuck "no such type");rw [H.info];generalize h:L.info? t=o;cases o with
 | none=>exact ao
 | some i=>exact .pure ⟨rfl,rfl⟩
theorem gk(t:TypeId):ay L C (gb λi=>L.underlying t=some i) β (underlying t) (underlying t):=by
 unfold underlying;refine .program ?_;show ay L C _ β (match L.underlying t with | some i=>pure i | none=>stuck "no such type") (match C.underlying t with | some i=>pure i | none=>stuck "no such type");rw [H.und];generalize h:L.underlying t=o;cases o with
 | none=>exact ao
 | some i=>exact .pure ⟨rfl,rfl⟩
theorem I3(t:TypeId)(IF:SP L t):ay L C ax β (zeroValue t) (zeroValue t):=by
 unfold zeroValue;refine (jY H t).bd ?_;rintro bS i _ hl ⟨rfl,hi⟩;cases hz:i.zero with
 | none=>exact ao
 | some v=>exact .pure (IF i v hi hz).rel
theorem fL(t:TypeId):ay L C (gb λ_=>True) β (sizeOf t) (sizeOf t):=by
 unfold sizeOf;refine (jY H t).bd ?_;rintro bS i _ hl ⟨rfl,hi⟩;exact .pure ⟨rfl,trivial⟩
theorem K1(t:TypeId):ay L C (gb λ_=>True) β (isAgg t) (isAgg t):=by
 unfold isAgg;refine (gk H t).bd ?_;rintro bS i _ hl ⟨rfl,hi⟩;cases i <;> exact .pure ⟨rfl,trivial⟩
omit H in
theorem OS{a a':Addr}(h:jj β a a'):ay L C ax β (load a) (load a'):= .load h λ_ _ hv=> .pure hv
omit H in
theorem Tm{a a':Addr}{v v':Value}(h:jj β a a')(hv:ax β v v'):ay L C (gb λ_=>True) β (store a v) (store a' v'):= .store h hv (.pure ⟨rfl,trivial⟩)
omit H in
theorem sT{a a':Addr}: ∀(n i:Nat) (acc Tn:Array Value) {β:Bj},jj β a a'->aF β acc Tn->ay L C aF β (loadCellsFrom a i n acc) (loadCellsFrom a' i n Tn)
 | 0,i,acc,Tn,β,h,k=> .pure k
 | n+1,i,acc,Tn,β,h,k=>by
  unfold loadCellsFrom;refine (OS (h.add i)).bd ?_;intro bS v v' hl hv;exact sT n (i+1) _ _ (h.mono hl) ((k.mono hl).push hv)
omit H in
theorem zj{a a':Addr}(h:jj β a a')(n:Nat):ay L C aF β (loadCells a n) (loadCells a' n):=sT n 0 _ _ h aF.empty
inductive oz(β:Bj):List Value->List Value->Prop
 | nil:oz β [] []
 | cons {v v':Value} {l l':List Value}:ax β v v'->oz β l l'->oz β (v::l) (v'::l')
omit H in
omit [aH] in
theorem oz.mono{β γ:Bj}(l:Le β γ){x x':List Value}(h:oz β x x'):oz γ x x':=by
 induction h with
 | nil=>exact .nil
 | cons hv _ ih=>exact .cons (hv.mono l) ih
omit H in
omit [aH] in
theorem aF.list{x x':Array Value}(h:aF β x x'):oz β x.toList x'.toList:=by
 obtain ⟨h1,h2⟩:=h;obtain ⟨x⟩:=x;obtain ⟨x'⟩:=x';simp only [qbk] at h1;simp only [qau] at h2;show oz β x x'
 induction x generalizing x' with
 | nil=>cases x' with
  | nil=>exact .nil
  | cons=>simp at h1
 | cons v l ih=>cases x' with
  | nil=>simp at h1
  | cons v' l'=>exact .cons (h2 0 v v' rfl rfl) (ih l' (by simpa using h1) λi u u' a b=>h2 (i+1) u u' a b)
omit H in
theorem oI{a a':Addr}: ∀{vs vs':List Value} (i:Nat) {β:Bj},jj β a a'->oz β vs vs'->ay L C (gb λ_=>True) β (storeCells a vs i) (storeCells a' vs' i)
 | _,_,i,β,h, .nil=> .pure ⟨rfl,trivial⟩
 | _,_,i,β,h, .cons hv hl=>by
  unfold storeCells;refine (Tm (h.add i) hv).bd ?_;intro bS u u' hle _;exact oI (i+1) (h.mono hle) (hl.mono hle)
theorem uD(t:TypeId){a a':Addr}(h:jj β a a'):ay L C ax β (loadVar t a) (loadVar t a'):=by
 unfold loadVar;refine (K1 H t).bd ?_;rintro bS b _ hl ⟨rfl, -⟩;cases b with
 | true=>
  simp only [if_true];refine (fL H t).bd ?_;rintro iJ n _ cU ⟨rfl, -⟩;refine (zj ((h.mono hl).mono cU) n).bd ?_;intro qi c c' iq hc;exact .pure hc.Eg
 | false=>exact OS (h.mono hl)
theorem I4(t:TypeId){a a':Addr}{v v':Value}(h:jj β a a')(hv:ax β v v'):ay L C (gb λ_=>True) β (storeVar t a v) (storeVar t a' v'):=by
 unfold storeVar;refine (fL H t).bd ?_;rintro bS n _ hl ⟨rfl, -⟩;have hc:=hv.cells;rw [←hc.1];split
 ·exact (aR.eh aR.halt).rel
 ·exact oI 0 (h.mono hl) (hc.mono hl).list
omit H in
theorem wF(e:TypeId){c c':Array Value}(h:aF β c c'):ay L C jj β (newRow e c) (newRow e c'):=by
 unfold newRow newObj;exact .new (.cells e h) λγ r r' hl hr=> .pure ⟨hr,rfl,rfl⟩
omit H in
theorem Gr(t:TypeId){v v':Value}(h:ax β v v'):ay L C jj β (newVar t v) (newVar t v'):=wF t h.cells
omit H in
theorem uE{v v':Value}(h:ax β v v'):ay L C (gb λx=>v= .int x.1 x.2) β (asIntOf v) (asIntOf v'):=by
 cases h with
 | int k n=>exact .pure ⟨rfl,rfl⟩
 | ptr h=>exact ao
 | _=>exact ao
omit H in
theorem oJ{v v':Value}(h:ax β v v'):ay L C (gb λ_=>True) β (asInt v) (asInt v'):=by
 unfold asInt;refine (uE h).bd ?_;rintro bS x _ hl ⟨rfl, -⟩;exact .pure ⟨rfl,trivial⟩
omit H in
theorem OT{v v':Value}(h:ax β v v'):ay L C (gb λ_=>True) β (asBool v) (asBool v'):=by
 cases h with
 | bool b=>exact .pure ⟨rfl,trivial⟩
 | _=>exact ao
omit H in
theorem pj{v v':Value}(h:ax β v v'):ay L C jj β (Instr.sureAddr v) (Instr.sureAddr v'):=by
 cases h with
 | ptr h=>exact .pure h
 | _=>exact ao
omit H in
theorem wG{v v':Value}(h:ax β v v'):ay L C jj β (asAddr v) (asAddr v'):=by
 cases h with
 | ptr h=>exact .pure h
 | oH=>
  show ay L C jj β (runtimePanic .nilDeref) _;exact bb.rel
 | _=>exact ao
end
end
end Go.Cx
namespace Go.Cx
open Go
variable[ba][aH][bg]
section
variable{L C:Program}{β:Bj}(H:gC L C)
include H
theorem To(e:TypeId)(IF:SP L e):ay L C ax β (Instr.alloc e true (.tuple #[])) (Instr.alloc e true (.tuple #[])):=by
 unfold Instr.alloc;refine (I3 H e IF).bd ?_;intro bS v v' hl hv;refine (Gr e hv).bd ?_;intro iJ a a' cU ha;exact .pure (.ptr ha)
omit H in
theorem aaR(e:TypeId){v v':Value}(hv:ax β v v'):ay L C ax β (Instr.box e v) (Instr.box e v'):=by
 unfold Instr.box;refine (Gr e hv).bd ?_;intro iJ a a' cU ha;exact .pure (.ptr ha)
theorem OU(t:TypeId){v v':Value}(hv:ax β v v'):ay L C ax β (Instr.loadAt t v) (Instr.loadAt t v'):=by
 unfold Instr.loadAt;refine (pj hv).bd ?_;intro iJ a a' cU ha;exact uD H t ha
theorem My(t:TypeId){v v' u u':Value}(hv:ax β v v')(hu:ax β u u'):ay L C (gb λ_=>True) β (Instr.storeAt t v u) (Instr.storeAt t v' u'):=by
 unfold Instr.storeAt;refine (pj hv).bd ?_;intro iJ a a' cU ha;exact I4 H t ha (hu.mono cU)
omit H in
theorem Mz(i:Nat){v v':Value}(hv:ax β v v'):ay L C ax β (Instr.extract v i) (Instr.extract v' i):=by
 cases hv with
 | @tuple x x' h k=>
  unfold Instr.extract;simp only;cases hx:x[i]? with
  | none=>exact ao
  | some u=>
   obtain ⟨u',h1,h2⟩:=aF.get ⟨h,k⟩ hx;rw [h1];exact .pure h2
 | _=>exact ao
omit H in
theorem I5{f f':Fn}{x x' y y':Array Value}(hf:Cu β f f')(hx:aF β x x')(hy:aF β y y'):ay L C ax β (Instr.makeFunc f x y) (Instr.makeFunc f' x' y'):= .pure (.func hf hx.1 hy.1 hx.2 hy.2)
theorem zI(t:TypeId){v v':Value}(hv:ax β v v'):ay L C ax β (Instr.makeInterface t v) (Instr.makeInterface t v'):=by
 unfold Instr.makeInterface;refine (gk H t).bd ?_;rintro bS d _ hl ⟨rfl, -⟩;cases d <;> first | exact ao | exact .pure (.iface t (hv.mono hl))
theorem I6(t:TypeId){x x':Array Value}(hx:aF β x x')(o:Nat):ay L C ax β (part t x o) (part t x' o):=by
 unfold part;refine (K1 H t).bd ?_;rintro bS b _ hl ⟨rfl, -⟩;cases b with
 | true=>
  simp only [if_true];refine (fL H t).bd ?_;rintro iJ n _ cU ⟨rfl, -⟩;exact .pure (((hx.mono hl).mono cU).extract _ _).Eg
 | false=>
  simp only [qa6,if_false];cases hv:x[o]? with
  | none=>exact ao
  | some u=>
   obtain ⟨u',h1,h2⟩:=(hx.mono hl).get hv;rw [h1];exact .pure h2
theorem Tp(t:TypeId){v v' u u':Value}(hv:ax β v v')(hu:ax β u u'):ay L C ax β (Instr.index t v u) (Instr.index t v' u'):=by
 unfold Instr.index;refine (uE hu).bd ?_;rintro bS ⟨k,i⟩ _ hl ⟨rfl, -⟩;refine (gk H t).bd ?_;rintro iJ d _ cU ⟨rfl, -⟩;have vI:=(hv.mono hl).mono cU;cases d
 case array n e=>
  cases vI with
  | agg h hk=>
   simp only;split
   ·refine (fL H e).bd ?_;rintro qi m _ iq ⟨rfl, -⟩;exact I6 H e (aF.mono iq ⟨h,hk⟩) _
   ·exact ki.rel
  | _=>exact ao
 case string=>
  cases vI with
  | string s=>
   simp only;split
   ·exact .pure (.int _ _)
   ·exact ki.rel
  | _=>exact ao
 all_goals (cases vI <;> exact ao)
theorem MA(t:TypeId){v v' u u':Value}(hv:ax β v v')(hu:ax β u u'):ay L C ax β (Instr.indexAt t v u) (Instr.indexAt t v' u'):=by
 unfold Instr.indexAt;refine (uE hu).bd ?_;rintro bS ⟨k,i⟩ _ hl ⟨rfl, -⟩;simp only;refine (gk H t).bd ?_;rintro iJ d _ cU ⟨rfl, -⟩;have vI:=(hv.mono hl).mono cU;cases d
 case array n e=>
  refine (pj vI).bd ?_;intro qi a a' iq ha;refine ay.bd (RA:=λβ (x x':Option Addr×Nat×TypeId)=>x=(some a,n,e)/\x'=(some a',n,e)/\jj β a a') (.pure ⟨rfl,rfl,ha⟩) ?_;rintro qW _ _ nI ⟨rfl,rfl,ha4⟩;refine (gk H t).bd ?_;rintro Gs d _ yb ⟨rfl, -⟩;simp only;split
  ·refine (fL H e).bd ?_;rintro IG m _ zJ ⟨rfl, -⟩;exact .pure (.ptr (((ha4.mono yb).mono zJ).add _))
  ·split <;> split <;> first | exact ao | exact ki.rel
 case slice e=>
  cases vI with
  | kg n c=>
   refine ay.bd (RA:=λβ (x x':Option Addr×Nat×TypeId)=>x=(none,n,e)/\x'=(none,n,e)) (.pure ⟨rfl,rfl⟩) ?_;rintro qW _ _ nI ⟨rfl,rfl⟩;refine (gk H t).bd ?_;rintro Gs d _ yb ⟨rfl, -⟩;exact ki.rel
  | ya a a'=>
   refine ay.bd (RA:=λβ (x x':Option Addr×Nat×TypeId)=>x=(some a,0,e)/\x'=(some a',0,e)) (.pure ⟨rfl,rfl⟩) ?_;rintro qW _ _ nI ⟨rfl,rfl⟩;refine (gk H t).bd ?_;rintro Gs d _ yb ⟨rfl, -⟩;simp only;split
   ·rename_i hh;omega
   ·split <;> split <;> first | exact ao | exact ki.rel
  | @slice a a' n c ha=>
   refine ay.bd (RA:=λβ (x x':Option Addr×Nat×TypeId)=>x=(some a,n,e)/\x'=(some a',n,e)/\jj β a a') (.pure ⟨rfl,rfl,ha⟩) ?_;rintro qW _ _ nI ⟨rfl,rfl,ha4⟩;refine (gk H t).bd ?_;rintro Gs d _ yb ⟨rfl, -⟩;simp only;split
   ·refine (fL H e).bd ?_;rintro IG m _ zJ ⟨rfl, -⟩;exact .pure (.ptr (((ha4.mono yb).mono zJ).add _))
   ·split <;> split <;> first | exact ao | exact ki.rel
  | _=>exact (aR.eh aR.halt).rel
 all_goals (cases vI <;> exact (aR.eh aR.halt).rel)
omit H in
theorem oK{v v':Value}(hv:ax β v v')(y:Nat)(c:BoundsCode):ay L C (gb λx=>x<=y) β (Instr.sliceBound v y c) (Instr.sliceBound v' y c):=by
 unfold Instr.sliceBound;refine (uE hv).bd ?_;rintro bS ⟨k,i⟩ _ hl ⟨rfl, -⟩;simp only;split
 ·rename_i hh;exact .pure ⟨rfl,by omega⟩
 ·exact ki.rel
inductive oC(β:Bj):Option Value->Option Value->Prop
 | none:oC β none none
 | some {v v':Value}:ax β v v'->oC β (some v) (some v')
omit H in
omit [aH] in
theorem oC.mono{γ:Bj}(l:Le β γ){x x':Option Value}(h:oC β x x'):oC γ x x':=by
 cases h with
 | none=>exact .none
 | some h=>exact .some (h.mono l)
omit H in
theorem XO{lo pk:Option Value}(qJ:oC β lo pk)(h m:Nat)(c:BoundsCode):ay L C (gb λx=>x.1<=h/\x.2=(h,m)) β (lo.elim (do let l←pure 0;pure (l,h,m)) (λv=>do let l←Instr.sliceBound v h c;pure (l,h,m)):Sem (Nat×Nat×Nat)) (pk.elim (do let l←pure 0;pure (l,h,m)) (λv=>do let l←Instr.sliceBound v h c;pure (l,h,m))):=by
 cases qJ with
 | none=>exact .pure ⟨rfl,qa8 _,rfl⟩
 | some hv=>
  refine (oK hv _ _).bd ?_;rintro qi l _ iq ⟨rfl,hq⟩;exact .pure ⟨rfl,hq,rfl⟩
omit H in
theorem jO(b:Bool)(len cap:Nat){lo pk hi fU mx Tq:Option Value}(qJ:oC β lo pk)(OV:oC β hi fU)(Ou:oC β mx Tq):ay L C (gb λx=>x.1<=x.2.1/\(x.2.1=len\/x.2.1<=x.2.2)/\x.2.2<=cap) β (Instr.sliceBounds b len cap lo hi mx) (Instr.sliceBounds b len cap pk fU Tq):=by
 unfold Instr.sliceBounds;cases Ou with
 | none=>
  refine ay.bd (RA:=gb λm=>m<=cap) (.pure ⟨rfl,qa3 _⟩) ?_;rintro qT m _ vJ ⟨rfl,Tt⟩;cases OV with
  | none=>
   have:=(XO (L:=L) (C:=C) (qJ.mono vJ) len m .sliceB).imp (RB:=gb λx=>x.1<=x.2.1/\(x.2.1=len\/x.2.1<=x.2.2)/\x.2.2<=cap) (by rintro _ ⟨x1,x2⟩ _ _ ⟨rfl,h1,h2⟩;obtain rfl:x2=_:=h2;exact ⟨rfl,h1, .inl rfl,Tt⟩);cases qJ <;> exact this
  | some hv=>
   refine (oK (hv.mono vJ) _ _).bd ?_;rintro iJ h _ cU ⟨rfl,OW⟩;have:=(XO (L:=L) (C:=C) ((qJ.mono vJ).mono cU) h m .sliceB).imp (RB:=gb λx=>x.1<=x.2.1/\(x.2.1=len\/x.2.1<=x.2.2)/\x.2.2<=cap) (by rintro _ ⟨x1,x2⟩ _ _ ⟨rfl,h1,h2⟩;obtain rfl:x2=_:=h2;exact ⟨rfl,h1, .inr OW,Tt⟩);cases qJ <;> exact this
 | some hm=>
  refine (oK hm _ _).bd ?_;rintro qT m _ vJ ⟨rfl,Tt⟩;cases OV with
  | none=>exact (aR.eh aR.halt).rel
  | some hv=>
   refine (oK (hv.mono vJ) _ _).bd ?_;rintro iJ h _ cU ⟨rfl,OW⟩;have:=(XO (L:=L) (C:=C) ((qJ.mono vJ).mono cU) h m .slice3C).imp (RB:=gb λx=>x.1<=x.2.1/\(x.2.1=len\/x.2.1<=x.2.2)/\x.2.2<=cap) (by rintro _ ⟨x1,x2⟩ _ _ ⟨rfl,h1,h2⟩;obtain rfl:x2=_:=h2;exact ⟨rfl,h1, .inr OW,Tt⟩);cases qJ <;> exact this
theorem Tu(t:TypeId){v v':Value}(hv:ax β v v'){lo pk hi fU mx Tq:Option Value}(qJ:oC β lo pk)(OV:oC β hi fU)(Ou:oC β mx Tq):ay L C ax β (Instr.slice t v lo hi mx) (Instr.slice t v' pk fU Tq):=by
 unfold Instr.slice;refine (gk H t).bd ?_;rintro iJ d _ cU ⟨rfl, -⟩;have vI:=hv.mono cU;cases d
 case slice e=>
  cases vI with
  | kg n c=>
   refine (jO true n c (qJ.mono cU) (OV.mono cU) (Ou.mono cU)).bd ?_;rintro qi ⟨l,h,m⟩ _ iq ⟨rfl, -⟩;refine (fL H e).bd ?_;rintro qW z _ nI ⟨rfl, -⟩;simp only [Option.map_none,ite_self];exact .pure (.kg _ _)
  | ya a a'=>
   refine (jO true 0 0 (qJ.mono cU) (OV.mono cU) (Ou.mono cU)).bd ?_;rintro qi ⟨l,h,m⟩ _ iq ⟨rfl,h1,h2,h3⟩;refine (fL H e).bd ?_;rintro qW z _ nI ⟨rfl, -⟩;obtain rfl:m=0:=Nat.le_zero.1 h3;obtain rfl:h=0:=by simp only at h2;omega
   obtain rfl:l=0:=Nat.le_zero.1 h1;exact .pure (.ya a a')
  | slice n c ha=>
   refine (jO true n c (qJ.mono cU) (OV.mono cU) (Ou.mono cU)).bd ?_;rintro qi ⟨l,h,m⟩ _ iq ⟨rfl, -⟩;refine (fL H e).bd ?_;rintro qW z _ nI ⟨rfl, -⟩;have ha4:=(ha.mono iq).mono nI;simp only [qac];split
   ·exact .pure (.slice _ _ ha4)
   ·exact .pure (.slice _ _ (ha4.add _))
  | _=>exact ao
 case string=>
  cases vI with
  | string s=>
   cases Ou with
   | some _=>exact (aR.eh aR.halt).rel
   | none=>
   simp only [qbn,qa6,if_false];refine (jO false _ _ (qJ.mono cU) (OV.mono cU) .none).bd ?_;rintro qi ⟨l,h,m⟩ _ iq ⟨rfl, -⟩;exact .pure (.string _)
  | _=>exact ao
 case pointer arr=>
  have key:ay L C ax iJ (do
    let a←asAddr v
    let .array n elem←underlying arr | stuck "Slice: array type expected"
    let (l,h,m)←Instr.sliceBounds false n n lo hi mx
    let size←sizeOf elem
    pure (.slice (some (if m=l then a else a.add (l*size))) (h - l) (m - l)):Sem Value) (do
    let a←asAddr v'
    let .array n elem←underlying arr | stuck "Slice: array type expected"
    let (l,h,m)←Instr.sliceBounds false n n pk fU Tq
    let size←sizeOf elem
    pure (.slice (some (if m=l then a else a.add (l*size))) (h - l) (m - l))):=by
   refine (wG vI).bd ?_;intro qi a a' iq ha;refine (gk H arr).bd ?_;rintro qW d _ nI ⟨rfl, -⟩;cases d
   case array n e=>
    refine (jO false n n (((qJ.mono cU).mono iq).mono nI) (((OV.mono cU).mono iq).mono nI) (((Ou.mono cU).mono iq).mono nI)).bd ?_;rintro Gs ⟨l,h,m⟩ _ yb ⟨rfl, -⟩;refine (fL H e).bd ?_;rintro IG z _ zJ ⟨rfl, -⟩;have ha6:=((ha.mono nI).mono yb).mono zJ
    skip
    split
    ·exact .pure (.slice _ _ ha6)
    ·exact .pure (.slice _ _ (ha6.add _))
   all_goals exact ao
  cases vI <;> exact key
 all_goals (cases vI <;> exact ao)
theorem MB(t:TypeId){v v':Value}(hv:ax β v v'){lo pk hi fU mx Tq:Option Value}(qJ:oC β lo pk)(OV:oC β hi fU)(Ou:oC β mx Tq):ay L C ax β (Instr.sliceAt t v lo hi mx) (Instr.sliceAt t v' pk fU Tq):=by
 unfold Instr.sliceAt;refine (gk H t).bd ?_;rintro iJ d _ cU ⟨rfl, -⟩;cases d
 case array n e=>
  refine (pj (hv.mono cU)).bd ?_;intro qi a a' iq ha;refine (jO false n n ((qJ.mono cU).mono iq) ((OV.mono cU).mono iq) ((Ou.mono cU).mono iq)).bd ?_;rintro qW ⟨l,h,m⟩ _ nI ⟨rfl, -⟩;refine (fL H e).bd ?_;rintro Gs z _ yb ⟨rfl, -⟩;have ha5:=(ha.mono nI).mono yb
  skip
  split
  ·exact .pure (.slice _ _ ha5)
  ·exact .pure (.slice _ _ (ha5.add _))
 all_goals exact Tu H t (hv.mono cU) (qJ.mono cU) (OV.mono cU) (Ou.mono cU)
theorem MC(t:TypeId)(hn: ∀n e,L.underlying t=some (.array n e)->n≠0){v v':Value}(hv:ax β v v'):ay L C ax β (Instr.arrayAt t v) (Instr.arrayAt t v'):=by
 unfold Instr.arrayAt;refine (gk H t).bd ?_;rintro iJ d _ cU ⟨rfl,Ek⟩;cases d
 case array n e=>
  cases hv.mono cU with
  | kg l c=>
   simp only;split
   ·exact bb.rel
   ·exact .pure .oH
  | ya a a'=>
   have:=hn n e Ek;simp only;rw [if_pos (by omega),if_pos (by omega)];exact bb.rel
  | slice l c ha=>
   simp only;split
   ·exact bb.rel
   ·exact .pure (.ptr ha)
  | _=>exact ao
 all_goals exact ao
end
end Go.Cx
namespace Go.Cx
open Go
variable[ba][aH][bg]
section
variable{L C:Program}{β:Bj}(H:gC L C)
include H
omit H in
omit [aH] in
theorem Gt{β:Bj}{c c':Array Value}(h:aF β c c')(off:Nat): ∀(k:Nat) {x x':List Value} {z z':Array Value},oz β x x'->aF β z z'->
  aF β ((x.zipIdx k).foldl (λcs (c,j)=>cs.setIfInBounds (off+j) c) z) ((x'.zipIdx k).foldl (λcs (c,j)=>cs.setIfInBounds (off+j) c) z')
 | k,_,_,z,z', .nil,hz=>hz
 | k,_,_,z,z', .cons hv hl,hz=>by
  simp only [List.zipIdx_cons,List.foldl_cons];exact Gt h off (k+1) hl (hz.set hv _)
inductive vr(β:Bj):List (Nat×Value)->List (Nat×Value)->Prop
 | nil:vr β [] []
 | cons (i:Nat) {v v':Value} {l l':List (Nat×Value)}:ax β v v'->vr β l l'->vr β ((i,v)::l) ((i,v')::l')
omit H in
omit [aH] in
theorem vr.mono{γ:Bj}(l:Le β γ){x x':List (Nat×Value)}(h:vr β x x'):vr γ x x':=by
 induction h with
 | nil=>exact .nil
 | cons i hv _ ih=>exact .cons i (hv.mono l) ih
omit H in
omit [aH] in
theorem wH{place:Nat->Option (Nat×Nat)}: ∀{l l':List (Nat×Value)} {z z':Array Value},vr β l l'->aF β z z'->
  (Instr.fill place z l=none/\Instr.fill place z' l'=none)\/ ∃c c',Instr.fill place z l=some c/\Instr.fill place z' l'=some c'/\aF β c c'
 | _,_,z,z', .nil,hz=> .inr ⟨z,z',rfl,rfl,hz⟩
 | _,_,z,z', .cons i hv hl,hz=>by
  unfold Instr.fill;cases place i with
  | none=>exact .inl ⟨rfl,rfl⟩
  | some p=>
   obtain ⟨off,size⟩:=p;have hc:=hv.cells;simp only [←hc.1, ←hz.1];split
   ·exact .inl ⟨rfl,rfl⟩
   ·refine wH hl ?_;have:=Gt hc off 0 hc.list hz;have e: ∀(a y:Array Value),a.zipIdx.foldl (λcs (x:Value×Nat)=>cs.setIfInBounds (off+x.2) x.1) y=(a.toList.zipIdx 0).foldl (λcs (x:Value×Nat)=>cs.setIfInBounds (off+x.2) x.1) y:=λa y=>by rw [←Array.foldl_toList,Array.toList_zipIdx]
    exact (e _ z).symm▸(e _ z').symm▸this
omit H in
theorem tQ{s:Sem Value}(h:(∃v,s= .pure v/\Plain v)\/aR L s):ay L C ax β s s:=by
 rcases h with ⟨v,rfl,hp⟩ | h
 ·exact .pure hp.rel
 ·exact h.rel
omit H in
theorem AJ(op:BinOp)(k:IntKind)(x y:Int):ay L C ax β (Op.intArith op k x y) (Op.intArith op k x y):=by
 refine tQ ?_;unfold Op.intArith;split <;> first | exact .inl ⟨_,rfl, .int _ _⟩ | exact .inr aR.halt
omit H in
theorem OX(op:BinOp)(k:IntKind)(x y:Int):ay L C ax β (Op.intDiv op k x y) (Op.intDiv op k x y):=by
 refine tQ ?_;unfold Op.intDiv;split
 ·exact .inr bb
 ·split <;> first | exact .inl ⟨_,rfl, .int _ _⟩ | exact .inr aR.halt
omit H in
theorem C9(op:BinOp)(k:IntKind)(x y:Int):ay L C ax β (Op.intBits op k x y) (Op.intBits op k x y):=by
 refine tQ ?_;unfold Op.intBits;simp only;split <;> first | exact .inl ⟨_,rfl, .int _ _⟩ | exact .inr aR.halt
omit H in
theorem Af(op:BinOp)(k:IntKind)(x:Int)(yk:IntKind)(y:Int):ay L C ax β (Op.shift op k x yk y) (Op.shift op k x yk y):=by
 refine tQ ?_;unfold Op.shift;split
 ·exact .inr bb
 ·simp only;split <;> first | exact .inl ⟨_,rfl, .int _ _⟩ | exact .inr aR.halt
omit H in
theorem OY(op:BinOp)(x y:Int):ay L C ax β (Op.intCmp op x y) (Op.intCmp op x y):=by
 refine tQ ?_;unfold Op.intCmp;split <;> first | exact .inl ⟨_,rfl, .bool _⟩ | exact .inr aR.halt
omit H in
theorem Tv(op:UnOp){v v':Value}(hv:ax β v v'):ay L C ax β (Op.unary op v) (Op.unary op v'):=by
 cases hv with
 | int k n=>
  cases op
  case neg=>
   show ay L C ax β (Op.intArith .sub k 0 n) (Op.intArith .sub k 0 n);exact AJ _ _ _ _
  case xor=>
   show ay L C ax β (Op.intBits .xor k (if k.signed then -1 else k.max) n) _;exact C9 _ _ _ _
  all_goals exact ao
 | bool b=>
  cases op
  case not=>exact .pure (.bool _)
  all_goals exact ao
 | _=>cases op <;> exact ao
theorem MD(t:TypeId)(i:Nat)(hz: ∀(fs:Array Field) (f:Field) (inf:TypeInfo),L.underlying t=some (.struct fs)->fs[i]? =some f->L.info? f.type=some inf->inf.size≠0){v v':Value}(hv:ax β v v'):ay L C ax β (Instr.fieldAt t v i) (Instr.fieldAt t v' i):=by
 unfold Instr.fieldAt;refine (gk H t).bd ?_;rintro iJ d _ cU ⟨rfl,hd⟩;cases d
 case struct fs=>
  simp only;cases hf:fs[i]? with
  | none=>exact ao
  | some f=>
   refine (pj (hv.mono cU)).bd ?_;intro qi a a' iq ha;refine ay.bd (RA:=jj) ?_ ?_
   ·unfold fieldPlace sizeOf;simp only [bind_assoc];refine (jY H f.type).bd ?_;rintro qW inf _ nI ⟨rfl,hi⟩;have:=hz fs f inf hd hf hi;simp only [pure_bind,this,if_false];exact .pure ((ha.mono nI).add _)
   ·intro qW b b' nI hb;exact .pure (.ptr hb)
 all_goals exact ao
omit H in
omit [aH] in
theorem rW{z:Array Value}(hz: ∀(i:Nat) (v:Value),z[i]? =some v->Plain v)(n:Nat):aF β ((Array.range n).map (z[· % z.size]!)) ((Array.range n).map (z[· % z.size]!)):=by
 refine aF.map λx _=> ?_;by_cases h:x % z.size<z.size
 ·rw [getElem!_pos z _ h];exact (hz _ _ (Array.getElem?_eq_getElem h)).rel
 ·rw [getElem!_neg z _ h];exact ax.bool false
omit H in
omit [ba] [aH] [bg] in
theorem mc{v u:Value}(h:Plain v){k:Nat}(hu:(#[v]:Array Value)[k]? =some u):Plain u:=by
 cases k with
 | zero=>simp at hu;exact hu▸h
 | succ k=>simp at hu
theorem wI(t:TypeId)(IF:SP L t):ay L C (gb λv=> ∀(i:Nat) (u:Value),v.cells[i]? =some u->Plain u) β (zeroValue t) (zeroValue t):=by
 unfold zeroValue;refine (jY H t).bd ?_;rintro bS i _ hl ⟨rfl,hi⟩;cases hz:i.zero with
 | none=>exact ao
 | some v=>
  refine .pure ⟨rfl,λk u hu=> ?_⟩;have hp:=IF i v hi hz;cases hp with
  | agg h=>exact h k u hu
  | bool b=>exact mc (.bool b) hu
  | int a b=>exact mc (.int a b) hu
  | string b=>exact mc (.string b) hu
  | oH=>exact mc .oH hu
  | kg a b=>exact mc (.kg a b) hu
  | pg=>exact mc .pg hu
  | iK=>exact mc .iK hu
  | tuple h=>exact mc (.tuple h) hu
theorem El(t:TypeId)(n:Nat)(Da:Mx L t){ps ps':Array (Nat×Value)}(hp:vr β ps.toList ps'.toList):ay L C ax β (Instr.buildSlice t n ps) (Instr.buildSlice t n ps'):=by
 unfold Instr.buildSlice;refine (gk H t).bd ?_;rintro iJ d _ cU ⟨rfl,Ek⟩;cases d
 case slice e=>
  have IF:=Da e Ek;refine (fL H e).bd ?_;rintro qi size _ iq ⟨rfl, -⟩;simp only;split
  ·exact (aR.eh aR.halt).rel
  ·have key: ∀(qW:Bj) (z:Array Value),Le qi qW->(∀(i:Nat) (u:Value),z[i]? =some u->Plain u)->ay L C ax qW (do
     let some cells:=Instr.fill (λi=>some (i*size,size)) ((Array.range (n*size)).map (z[· % z.size]!)) ps.toList
      | stuck "buildSlice: a part of the wrong size"
     pure (.slice (some (←newRow e cells)) n n):Sem Value) (do
     let some cells:=Instr.fill (λi=>some (i*size,size)) ((Array.range (n*size)).map (z[· % z.size]!)) ps'.toList
      | stuck "buildSlice: a part of the wrong size"
     pure (.slice (some (←newRow e cells)) n n)):=by
    intro qW z nI hz;rcases wH (place:=λi=>some (i*size,size)) (((hp.mono cU).mono iq).mono nI) (rW hz (n*size)) with ⟨h1,h2⟩ | ⟨c,c',h1,h2,h3⟩
    ·rw [h1,h2];exact ao
    ·rw [h1,h2];refine (wF e h3).bd ?_;intro Gs a a' yb ha;exact .pure (.slice _ _ ha)
   split
   ·exact key qi #[] (Le.refl _) (λi u hu=>by simp at hu)
   ·refine (wI H e IF).bd ?_;rintro qW v _ nI ⟨rfl,hz⟩;exact key qW _ nI hz
 all_goals exact ao
end
end Go.Cx
namespace Go.Cx
open Go
variable[ba][aH][bg]
section
variable{L C:Program}{β:Bj}(H:gC L C)
include H
omit H in
theorem Tx{α γ:Type}{f:α->Sem γ}(l:List α)(h: ∀x∈l, ∀β,ay L C (gb λ_=>True) β (f x) (f x)): ∀β,ay L C (gb λ_=>True) β (l.mapM f) (l.mapM f):=by
 induction l with
 | nil=>intro β;rw [List.mapM_nil];exact .pure ⟨rfl,trivial⟩
 | cons x l ih=>
  intro β;rw [List.mapM_cons];refine (h x (by simp) β).bd ?_;rintro iJ a _ cU ⟨rfl, -⟩;refine (ih (λy hy=>h y (by simp [hy])) iJ).bd ?_;rintro qi b _ iq ⟨rfl, -⟩;exact .pure ⟨rfl,trivial⟩
omit H in
theorem aaS{α γ:Type}{RA:Bj->α->α->Prop}{RB:Bj->γ->γ->Prop}{s t:Sem α}{f:α->γ}(h:ay L C RA β s t)(k: ∀bS a a',Le β bS->RA bS a a'->RB bS (f a) (f a')):ay L C RB β (Functor.map f s) (Functor.map f t):=by
 rw [map_eq_pure_bind,map_eq_pure_bind];exact h.bd λbS a a' hl ha=> .pure (k bS a a' hl ha)
omit H in
theorem Ty{α γ:Type}{f:α->Sem γ}(xs:Array α)(h: ∀x∈xs, ∀β,ay L C (gb λ_=>True) β (f x) (f x)):ay L C (gb λ_=>True) β (xs.mapM f) (xs.mapM f):=by
 rw [Array.mapM_eq_mapM_toList];refine aaS (Tx xs.toList (λx hx=>h x (by simpa using hx)) β) ?_;rintro bS a _ hl ⟨rfl, -⟩;exact ⟨rfl,trivial⟩
theorem Tz(t:TypeId)(IF:SP L t){ps ps':Array (Nat×Value)}(hp:vr β ps.toList ps'.toList):ay L C ax β (Instr.build t ps) (Instr.build t ps'):=by
 unfold Instr.build;refine (I3 H t IF).bd ?_;intro qT z z' vJ hz;refine (gk H t).bd ?_;rintro iJ d _ cU ⟨rfl, -⟩;have hc:=(hz.mono cU).cells;cases d
 case struct fs=>
  refine (Ty fs (λf _ β=> ?_)).bd ?_
  ·refine (fL H f.type).bd ?_;rintro qi n _ iq ⟨rfl, -⟩;exact .pure ⟨rfl,trivial⟩
  ·rintro qi places _ iq ⟨rfl, -⟩;rcases wH (place:=(places[·]?)) (((hp.mono vJ).mono cU).mono iq) (hc.mono iq) with ⟨h1,h2⟩ | ⟨c,c',h1,h2,h3⟩
   ·simp only [h1,h2];exact ao
   ·simp only [h1,h2];exact .pure h3.Eg
 case array n e=>
  refine (fL H e).bd ?_;rintro qi size _ iq ⟨rfl, -⟩;rcases wH (place:=λi=>some (i*size,size)) (((hp.mono vJ).mono cU).mono iq) (hc.mono iq) with ⟨h1,h2⟩ | ⟨c,c',h1,h2,h3⟩
  ·simp only [h1,h2];exact ao
  ·simp only [h1,h2];exact .pure h3.Eg
 all_goals exact ao
omit H in
theorem Db(n:Nat):ay L C (gb λ_=>True) β (askRoom n) (askRoom n):=by
 unfold askRoom;split
 ·exact .mark (.pure ⟨rfl,trivial⟩)
 ·exact .pure ⟨rfl,trivial⟩
theorem Gu(t:TypeId)(Da:Mx L t){n n' c c':Value}(hn:ax β n n')(hc:ax β c c'):ay L C ax β (Instr.makeSlice t n c) (Instr.makeSlice t n' c'):=by
 unfold Instr.makeSlice;refine (gk H t).bd ?_;rintro qT d _ vJ ⟨rfl,Ek⟩;cases d
 case slice e=>
  have IF:=Da e Ek;refine (oJ (hn.mono vJ)).bd ?_;rintro iJ n _ cU ⟨rfl, -⟩;refine (oJ ((hc.mono vJ).mono cU)).bd ?_;rintro qi c _ iq ⟨rfl, -⟩;refine (jY H e).bd ?_;rintro qW inf _ nI ⟨rfl, -⟩;simp only;split
  ·refine aR.rel ?_;split
   ·exact aR.eh bb
   ·split
    ·exact aR.eh bb
    ·exact aR.bind λ_=>(by first | exact bb | exact aR.eh bb)
  ·refine (Db _).bd ?_;rintro Gs _ _ yb -;refine (fL H e).bd ?_;rintro IG size _ zJ ⟨rfl, -⟩;have key: ∀(β7:Bj) (z:Array Value),(∀(i:Nat) (u:Value),z[i]? =some u->Plain u)->ay L C ax β7 (do
     let a←newRow e ((Array.range ((IntKind.i64.wrap c).toNat*size)).map (z[· % z.size]!))
     pure (.slice (some a) (IntKind.i64.wrap n).toNat (IntKind.i64.wrap c).toNat):Sem Value) (do
     let a←newRow e ((Array.range ((IntKind.i64.wrap c).toNat*size)).map (z[· % z.size]!))
     pure (.slice (some a) (IntKind.i64.wrap n).toNat (IntKind.i64.wrap c).toNat)):=by
    intro β7 z hz;refine (wF e (rW hz _)).bd ?_;intro β8 a a' hl8 ha;exact .pure (.slice _ _ ha)
   split
   ·exact key _ #[] (λi u hu=>by simp at hu)
   ·refine (wI H e IF).bd ?_;rintro β7 z _ hl7 ⟨rfl,hz⟩;exact key _ _ hz
 all_goals exact ao
omit H in
theorem ME(src dst:TypeId)(H:gC L C){v v':Value}(hv:ax β v v')(hs: ∃k,L.underlying src=some (.int k))(hd: ∃k,L.underlying dst=some (.int k)):ay L C ax β (convert src dst v) (convert src dst v'):=by
 unfold convert;obtain ⟨ks,hs⟩:=hs;obtain ⟨kd,hd⟩:=hd;refine (gk H src).bd ?_;rintro qT ds _ vJ ⟨rfl,h1⟩;rw [hs] at h1;cases h1;refine (gk H dst).bd ?_;rintro iJ dd _ cU ⟨rfl,h2⟩;rw [hd] at h2;cases h2;cases (hv.mono vJ).mono cU with
 | int k n=>exact .pure (.int _ _)
 | ptr h=>exact ao
 | _=>exact ao
theorem aaT(ts:Array TypeId)(t:TypeId){x x':Array Value}(hx:aF β x x'):ay L C ax β (Builtin.len_ ts t x) (Builtin.len_ ts t x'):=by
 unfold Builtin.len_;cases ht:ts[0]? with
 | none=>exact ao
 | some t0=>
  cases h0:x[0]? with
  | none=>rw [hx.none h0];exact ao
  | some v=>
   obtain ⟨v',h1,hv⟩:=hx.get h0;rw [h1];simp only;refine (gk H t0).bd ?_;rintro qT d _ vJ ⟨rfl, -⟩;cases d
   case string=>cases hv <;> first | exact .pure (.int _ _) | exact ao
   case array=>cases hv <;> exact .pure (.int _ _)
   case slice=>cases hv <;> first | exact .pure (.int _ _) | exact ao
   case pointer arr=>
    have:ay L C ax qT (do
     let .array n _←underlying arr | stuck "len: pointer to array expected"
     pure (goInt n):Sem Value) (do
     let .array n _←underlying arr | stuck "len: pointer to array expected"
     pure (goInt n)):=by
     refine (gk H arr).bd ?_;rintro iJ d2 _ cU ⟨rfl, -⟩;cases d2 <;> first | exact .pure (.int _ _) | exact ao
    cases hv <;> exact this
   all_goals (cases hv <;> exact ao)
theorem aaU(ts:Array TypeId)(t:TypeId){x x':Array Value}(hx:aF β x x'):ay L C ax β (Builtin.cap_ ts t x) (Builtin.cap_ ts t x'):=by
 unfold Builtin.cap_;cases ht:ts[0]? with
 | none=>exact ao
 | some t0=>
  cases h0:x[0]? with
  | none=>rw [hx.none h0];exact ao
  | some v=>
   obtain ⟨v',h1,hv⟩:=hx.get h0;rw [h1];simp only;refine (gk H t0).bd ?_;rintro qT d _ vJ ⟨rfl, -⟩;cases d
   case array=>cases hv <;> exact .pure (.int _ _)
   case slice=>cases hv <;> first | exact .pure (.int _ _) | exact ao
   case pointer arr=>
    have:ay L C ax qT (do
     let .array n _←underlying arr | stuck "cap: pointer to array expected"
     pure (goInt n):Sem Value) (do
     let .array n _←underlying arr | stuck "cap: pointer to array expected"
     pure (goInt n)):=by
     refine (gk H arr).bd ?_;rintro iJ d2 _ cU ⟨rfl, -⟩;cases d2 <;> first | exact .pure (.int _ _) | exact ao
    cases hv <;> exact this
   all_goals (cases hv <;> exact ao)
omit H in
omit [aH] in
theorem qK{z:Array Value}(hz: ∀(i:Nat) (v:Value),z[i]? =some v->Plain v)(n:Nat):aF β (Builtin.zeroCells z n) (Builtin.zeroCells z n):=rW hz _
theorem TA(ts:Array TypeId)(t:TypeId)(Da: ∀ty∈ts,Mx L ty){x x':Array Value}(hx:aF β x x'):ay L C ax β (Builtin.clear_ ts t x) (Builtin.clear_ ts t x'):=by
 unfold Builtin.clear_;cases ht:ts[0]? with
 | none=>exact ao
 | some t0=>
  cases h0:x[0]? with
  | none=>rw [hx.none h0];exact ao
  | some v=>
   obtain ⟨v',h1,hv⟩:=hx.get h0;rw [h1];simp only;refine (gk H t0).bd ?_;rintro qT d _ vJ ⟨rfl,Ek⟩;have TB:ay L C ax qT (pure (.tuple #[]):Sem Value) (pure (.tuple #[])):= .pure (.tuple rfl λi v v' h=>by simp at h);have aiP: ∀d:TypeDesc,ay L C ax qT (do pure ();pure (.tuple #[]):Sem Value) (do pure ();pure (.tuple #[])):=λ_=>TB;cases hv.mono vJ with
   | kg l c=>cases d <;> exact TB
   | ya a a'=>cases d <;> exact TB
   | @slice a a' l c ha=>
    cases l with
    | zero=>cases d <;> exact TB
    | succ l=>
     cases d
     case slice e=>
      refine (wI H e (Da t0 (qb1 ht) e Ek)).bd ?_;rintro iJ z _ cU ⟨rfl,hz⟩;refine (oI 0 (ha.mono cU) (qK hz _).list).bd ?_;rintro qi u u' iq -;exact .pure (.tuple rfl λi v v' h=>by simp at h)
     all_goals exact (aR.eh aR.halt).rel
   | _=>cases d <;> exact (aR.eh aR.halt).rel
omit H in
theorem XP{v v' u u':Value}(hv:ax β v v')(hu:ax β u u'):ay L C ax β (Builtin.min2 v u) (Builtin.min2 v' u'):=by
 cases hv with
 | int k n=>cases hu with
  | int k2 m=>exact .pure (.int _ _)
  | ptr h=>exact ao
  | _=>exact ao
 | string s=>cases hu with
  | string s2=>
   refine tQ ?_;by_cases h:True
   ·exact .inl ⟨_,rfl, .string _⟩
   ·exact absurd trivial h
  | ptr h=>exact ao
  | _=>exact ao
 | ptr h=>cases hu <;> exact ao
 | _=>cases hu <;> exact ao
omit H in
theorem XQ{v v' u u':Value}(hv:ax β v v')(hu:ax β u u'):ay L C ax β (Builtin.max2 v u) (Builtin.max2 v' u'):=by
 cases hv with
 | int k n=>cases hu with
  | int k2 m=>exact .pure (.int _ _)
  | ptr h=>exact ao
  | _=>exact ao
 | string s=>cases hu with
  | string s2=>exact tQ (.inl ⟨_,rfl, .string _⟩)
  | ptr h=>exact ao
  | _=>exact ao
 | ptr h=>cases hu <;> exact ao
 | _=>cases hu <;> exact ao
omit H in
theorem Em{f:Value->Value->Sem Value}(hf: ∀(β:Bj) (v v' u u':Value),ax β v v'->ax β u u'->ay L C ax β (f v u) (f v' u')): ∀{l l':List Value} {v v':Value} {β:Bj},oz β l l'->ax β v v'->ay L C ax β (l.foldlM f v) (l'.foldlM f v')
 | _,_,v,v',β, .nil,hv=> .pure hv
 | _,_,v,v',β, .cons hu hl,hv=>by
  rw [List.foldlM_cons,List.foldlM_cons];refine (hf β _ _ _ _ hv hu).bd ?_;intro iJ a a' cU ha;exact Em hf (hl.mono cU) ha
omit H in
theorem aaV(ts:Array TypeId)(t:TypeId){x x':Array Value}(hx:aF β x x'):ay L C ax β (Builtin.min_ ts t x) (Builtin.min_ ts t x'):=by
 unfold Builtin.min_;have h:=hx.list;generalize x.toList=l at h;generalize x'.toList=l' at h;cases h with
 | nil=>exact ao
 | cons hv hl=>exact Em (λ_ _ _ _ _=>XP) hl hv
omit H in
theorem aaW(ts:Array TypeId)(t:TypeId){x x':Array Value}(hx:aF β x x'):ay L C ax β (Builtin.max_ ts t x) (Builtin.max_ ts t x'):=by
 unfold Builtin.max_;have h:=hx.list;generalize x.toList=l at h;generalize x'.toList=l' at h;cases h with
 | nil=>exact ao
 | cons hv hl=>exact Em (λ_ _ _ _ _=>XQ) hl hv
end
end Go.Cx
namespace Go.Cx
open Go
variable[ba][aH][bg]
section
variable{L C:Program}{β:Bj}(H:gC L C)
include H
omit H in
theorem uF{v v':Value}(hv:ax β v v'):ay L C (gb λn=> ∀a,v= .slice (some a) 0 0->n=0) β (Builtin.lenOf v) (Builtin.lenOf v'):=by
 cases hv with
 | kg n c=>exact .pure ⟨rfl,nofun⟩
 | ya a a'=>exact .pure ⟨rfl,λ_ _=>rfl⟩
 | slice n c h=>exact .pure ⟨rfl,λ_ q=>by injection q⟩
 | string s=>exact .pure ⟨rfl,nofun⟩
 | _=>exact ao
omit H in
theorem wJ(size n:Nat){v v':Value}(hv:ax β v v')(hz: ∀a,v= .slice (some a) 0 0->n=0):ay L C aF β (Builtin.firstCells size n v) (Builtin.firstCells size n v'):=by
 cases hv with
 | kg l c=>exact .pure aF.empty
 | ya a a'=>
  obtain rfl:=hz a rfl;simp only [Builtin.firstCells,Nat.zero_mul];exact .pure aF.empty
 | slice l c h=>exact zj h _
 | string s=>exact .pure (aF.map λ_ _=> .int _ _)
 | _=>exact ao
omit H in
theorem OZ{size:Nat}{v v':Value}(hv:ax β v v'):ay L C (λ_ c c'=>c= #[]/\c'= #[]) β (Builtin.firstCells size 0 v) (Builtin.firstCells size 0 v'):=by
 cases hv with
 | kg l c=>exact .pure ⟨rfl,rfl⟩
 | ya a a'=>simp only [Builtin.firstCells,Nat.zero_mul];exact .pure ⟨rfl,rfl⟩
 | slice l c h=>simp only [Builtin.firstCells,Nat.zero_mul];exact .pure ⟨rfl,rfl⟩
 | string s=>exact .pure ⟨by simp,by simp⟩
 | _=>exact ao
omit H in
omit [ba] [aH] [bg] in
theorem MF(a:Addr)(n:Nat):nc L (Builtin.holdsCells a n):=by
 unfold Builtin.holdsCells;refine @fz _ _ _ _ _ _ λd=> ?_;split <;> infer_instance
omit H in
omit [ba] [aH] [bg] in
theorem MG(size tR n:Nat)(base:Option Addr)(x:Value):nc L (Builtin.mayShare size tR n base x):=by
 have hf: ∀a,nc L (frozen a):=λa=>jq λw=> .inl ⟨_,_,rfl,rfl⟩;have hh:=λa n=>MF (L:=L) a n;unfold Builtin.mayShare;cases base with
 | none=>
  simp only [pure_bind];split
  ·infer_instance
  ·split <;> infer_instance
 | some a=>
  refine @fz _ _ _ _ _ (hh _ _) λd=> ?_;refine @fz _ _ _ _ _ (hf _) λd=> ?_;simp only [pure_bind];split
  ·infer_instance
  ·split
   ·exact @fz _ _ _ _ _ (hh _ _) λd=>inferInstance
   ·infer_instance
theorem O0(ts:Array TypeId)(t:TypeId)(Da: ∀ty∈ts,Mx L ty){x x':Array Value}(hx:aF β x x'):ay L C ax β (Builtin.append_ ts t x) (Builtin.append_ ts t x'):=by
 unfold Builtin.append_;cases ht:ts[0]? with
 | none=>exact ao
 | some t0=>
 cases h0:x[0]? with
 | none=>rw [hx.none h0];exact ao
 | some s=>
 obtain ⟨s',Gg,hs⟩:=hx.get h0;cases h1:x[1]? with
 | none=>rw [Gg,hx.none h1];exact ao
 | some u=>
 obtain ⟨u',O1,hu⟩:=hx.get h1;rw [Gg,O1];simp only;refine (gk H t0).bd ?_;rintro qT d _ vJ ⟨rfl,Ek⟩;cases d
 case slice e=>
  have IF:=Da t0 (qb1 ht) e Ek;have hs1:=hs.mono vJ;have rT:=hu.mono vJ;have key: ∀(base nh:Option Addr) (tR vK:Nat) (qT:Bj),ax qT (.slice base tR vK) (.slice nh tR vK)->ax qT u u'->((base=none/\nh=none)\/(∃a a',base=some a/\nh=some a'/\tR=0/\vK=0)\/ ∃a a',base=some a/\nh=some a'/\jj qT a a')-> ∀(vt:Bool) (size n:Nat),(vt=false-> ∀a,u= .slice (some a) 0 0->n=0)->
    ay L C ax qT (let tS:Sem (Array Value):=
      if !vt then Builtin.firstCells size n u
      else if n*size=0 then pure #[]
      else do pure (Builtin.zeroCells (←zeroValue e).cells n)
     let need:=tR+n
     if need<=vK then do
      let new←tS
      if let some a:=base then storeCells (a.add (tR*size)) new.toList
      pure (.slice base need vK)
     else do
      if (need:Int)>IntKind.i64.max/\(vt\/(←typeInfo e).bytes=0) then runtimePanic (.error "growslice: len out of range")
      if Builtin.nextslicecap need vK*(←typeInfo e).bytes>2^48 then (if vt then runtimePanic (.error "growslice: len out of range") else do
       if !(←Builtin.mayShare size tR n base u) then mark .noRoom
       unsupported (.resourceLimit "append: a slice or a string whose bytes no memory bears"))
      let tT←choose (.appendCap need vK e)
      askRoom (tT*(←typeInfo e).bytes)
      let old←Builtin.firstCells size tR (.slice base tR vK)
      let new←tS
      let rest:=Builtin.zeroCells (←zeroValue e).cells (tT - need)
      pure (.slice (some (←newRow e (old++new++rest))) need tT):Sem Value)
     (let tS:Sem (Array Value):=
      if !vt then Builtin.firstCells size n u'
      else if n*size=0 then pure #[]
      else do pure (Builtin.zeroCells (←zeroValue e).cells n)
     let need:=tR+n
     if need<=vK then do
      let new←tS
      if let some a:=nh then storeCells (a.add (tR*size)) new.toList
      pure (.slice nh need vK)
     else do
      if (need:Int)>IntKind.i64.max/\(vt\/(←typeInfo e).bytes=0) then runtimePanic (.error "growslice: len out of range")
      if Builtin.nextslicecap need vK*(←typeInfo e).bytes>2^48 then (if vt then runtimePanic (.error "growslice: len out of range") else do
       if !(←Builtin.mayShare size tR n nh u') then mark .noRoom
       unsupported (.resourceLimit "append: a slice or a string whose bytes no memory bears"))
      let tT←choose (.appendCap need vK e)
      askRoom (tT*(←typeInfo e).bytes)
      let old←Builtin.firstCells size tR (.slice nh tR vK)
      let new←tS
      let rest:=Builtin.zeroCells (←zeroValue e).cells (tT - need)
      pure (.slice (some (←newRow e (old++new++rest))) need tT)):=by
   intro base nh tR vK qT oL rT hb vt size n hn;have aaX: ∀{γ:Bj},Le qT γ->ay L C aF γ (if !vt then Builtin.firstCells size n u
      else if n*size=0 then pure #[]
      else do pure (Builtin.zeroCells (←zeroValue e).cells n)) (if !vt then Builtin.firstCells size n u'
      else if n*size=0 then pure #[]
      else do pure (Builtin.zeroCells (←zeroValue e).cells n)):=by
    intro γ hl;split
    ·rename_i hz;exact wJ _ _ (rT.mono hl) (hn (by simpa using hz))
    ·split
     ·exact .pure aF.empty
     ·refine (wI H e IF).bd ?_;rintro iJ z _ cU ⟨rfl,hz⟩;exact .pure (qK hz _)
   simp only;split
   ·by_cases hzz: ∃a a',base=some a/\nh=some a'/\tR=0/\vK=0
    ·obtain ⟨a,a',rfl,rfl,rfl,rfl⟩:=hzz;rename_i hle;obtain rfl:n=0:=by omega
     refine ay.bd (RA:=λ_ c c'=>c= #[]/\c'= #[]) ?_ ?_
     ·split
      ·exact OZ rT
      ·rw [if_pos (Nat.zero_mul _)];exact .pure ⟨rfl,rfl⟩
     ·rintro iJ _ _ cU ⟨rfl,rfl⟩;exact .pure (.ya a a')
    refine (aaX (Le.refl _)).bd ?_;intro iJ c c' cU hc;rcases hb with ⟨rfl,rfl⟩ | h | ⟨a,a',rfl,rfl,ha⟩
    ·exact .pure (.kg _ _)
    ·exact absurd h hzz
    ·refine (oI 0 ((ha.mono cU).add _) hc.list).bd ?_;rintro qi _ _ iq -;exact .pure (.slice _ _ ((ha.mono cU).mono iq))
   ·refine (jY H e).bd ?_;rintro iJ inf _ cU ⟨rfl, -⟩;split
    ·exact (aR.eh bb).rel
    ·refine (jY H e).bd ?_;rintro qi aiQ _ iq ⟨rfl, -⟩;split
     ·refine aR.rel (aR.eh ?_);split
      ·exact bb
      ·refine aR.bind (hm:=MG _ _ _ _ _) λb=> ?_;split
       ·exact aR.bind λ_=>aR.halt
       ·exact aR.halt
     ·refine ay.bd (RA:=gb λ_=>True) (.choose λk=> .pure ⟨rfl,trivial⟩) ?_;rintro qW tT _ nI ⟨rfl, -⟩;refine (jY H e).bd ?_;rintro Gs aiR _ yb ⟨rfl, -⟩;refine (Db _).bd ?_;rintro IG _ _ zJ -;have l6:=(((cU.trans iq).trans nI).trans yb).trans zJ;refine (wJ _ _ (oL.mono l6) (λa q=>by injection q)).bd ?_;intro β7 old aiS hl7 hold;refine (aaX (l6.trans hl7)).bd ?_;intro β8 new aiT hl8 zK;refine (wI H e IF).bd ?_;rintro β9 z _ hl9 ⟨rfl,hz⟩;refine (wF e ((((hold.mono hl8).mono hl9).append (zK.mono hl9)).append (qK hz _))).bd ?_;intro aiU a a' aaY ha;exact .pure (.slice _ _ ha)
  cases hs1 with
  | kg l c=>
   refine (fL H e).bd ?_;rintro iJ size _ cU ⟨rfl, -⟩;cases ts[1]? with
   | none=>
    simp only;refine ay.bd (RA:=gb λ_=>True) (.pure ⟨rfl,trivial⟩) ?_;rintro qi z _ iq ⟨rfl, -⟩;cases z with
    | false=>
     rw [if_neg (show¬((false:Bool)=true) by decide),if_neg (show¬((false:Bool)=true) by decide)];refine (uF (rT.mono (cU.trans iq))).bd ?_;rintro qW n _ nI ⟨rfl,O2⟩;have l4:=(cU.trans iq).trans nI;exact key _ _ l c qW (.kg _ _) (rT.mono l4) (.inl ⟨rfl,rfl⟩) false size n (λ_ a q=>O2 a q)
    | true=>
     rw [if_pos (show (true:Bool)=true from rfl),if_pos (show (true:Bool)=true from rfl)];refine (oJ (rT.mono (cU.trans iq))).bd ?_;rintro qW k _ nI ⟨rfl, -⟩;by_cases hk:IntKind.i64.wrap k<0
     ·rw [if_pos hk,if_pos hk];exact (aR.eh bb).rel
     ·rw [if_neg hk,if_neg hk];refine (jY H e).bd ?_;rintro Gs inf _ yb ⟨rfl, -⟩;by_cases hb:IntKind.i64.wrap k*inf.bytes>2^48
      ·rw [if_pos hb,if_pos hb];exact aR.rel (aR.bind λ_=>aR.eh bb)
      ·rw [if_neg hb,if_neg hb];refine ay.bd (RA:=gb λ_=>True) (.pure ⟨rfl,trivial⟩) ?_;rintro IG n _ zJ ⟨rfl, -⟩;have l4:=(((cU.trans iq).trans nI).trans yb).trans zJ;exact key _ _ l c IG (.kg _ _) (rT.mono l4) (.inl ⟨rfl,rfl⟩) true size n nofun
   | some xT=>
    simp only;refine (gk H xT).bd ?_;rintro aaZ d _ O3 ⟨rfl, -⟩;have K2:=cU.trans O3;refine ay.bd (RA:=gb λ_=>True) (.pure ⟨rfl,trivial⟩) ?_;rintro qi z _ iq ⟨rfl, -⟩;cases z with
    | false=>
     rw [if_neg (show¬((false:Bool)=true) by decide),if_neg (show¬((false:Bool)=true) by decide)];refine (uF (rT.mono (K2.trans iq))).bd ?_;rintro qW n _ nI ⟨rfl,O2⟩;have l4:=(K2.trans iq).trans nI;exact key _ _ l c qW (.kg _ _) (rT.mono l4) (.inl ⟨rfl,rfl⟩) false size n (λ_ a q=>O2 a q)
    | true=>
     rw [if_pos (show (true:Bool)=true from rfl),if_pos (show (true:Bool)=true from rfl)];refine (oJ (rT.mono (K2.trans iq))).bd ?_;rintro qW k _ nI ⟨rfl, -⟩;by_cases hk:IntKind.i64.wrap k<0
     ·rw [if_pos hk,if_pos hk];exact (aR.eh bb).rel
     ·rw [if_neg hk,if_neg hk];refine (jY H e).bd ?_;rintro Gs inf _ yb ⟨rfl, -⟩;by_cases hb:IntKind.i64.wrap k*inf.bytes>2^48
      ·rw [if_pos hb,if_pos hb];exact aR.rel (aR.bind λ_=>aR.eh bb)
      ·rw [if_neg hb,if_neg hb];refine ay.bd (RA:=gb λ_=>True) (.pure ⟨rfl,trivial⟩) ?_;rintro IG n _ zJ ⟨rfl, -⟩;have l4:=(((K2.trans iq).trans nI).trans yb).trans zJ;exact key _ _ l c IG (.kg _ _) (rT.mono l4) (.inl ⟨rfl,rfl⟩) true size n nofun
  | ya a a'=>
   refine (fL H e).bd ?_;rintro iJ size _ cU ⟨rfl, -⟩;cases ts[1]? with
   | none=>
    simp only;refine ay.bd (RA:=gb λ_=>True) (.pure ⟨rfl,trivial⟩) ?_;rintro qi z _ iq ⟨rfl, -⟩;cases z with
    | false=>
     rw [if_neg (show¬((false:Bool)=true) by decide),if_neg (show¬((false:Bool)=true) by decide)];refine (uF (rT.mono (cU.trans iq))).bd ?_;rintro qW n _ nI ⟨rfl,O2⟩;have l4:=(cU.trans iq).trans nI;exact key _ _ 0 0 qW (.ya a a') (rT.mono l4) (.inr (.inl ⟨_,_,rfl,rfl,rfl,rfl⟩)) false size n (λ_ a q=>O2 a q)
    | true=>
     rw [if_pos (show (true:Bool)=true from rfl),if_pos (show (true:Bool)=true from rfl)];refine (oJ (rT.mono (cU.trans iq))).bd ?_;rintro qW k _ nI ⟨rfl, -⟩;by_cases hk:IntKind.i64.wrap k<0
     ·rw [if_pos hk,if_pos hk];exact (aR.eh bb).rel
     ·rw [if_neg hk,if_neg hk];refine (jY H e).bd ?_;rintro Gs inf _ yb ⟨rfl, -⟩;by_cases hb:IntKind.i64.wrap k*inf.bytes>2^48
      ·rw [if_pos hb,if_pos hb];exact aR.rel (aR.bind λ_=>aR.eh bb)
      ·rw [if_neg hb,if_neg hb];refine ay.bd (RA:=gb λ_=>True) (.pure ⟨rfl,trivial⟩) ?_;rintro IG n _ zJ ⟨rfl, -⟩;have l4:=(((cU.trans iq).trans nI).trans yb).trans zJ;exact key _ _ 0 0 IG (.ya a a') (rT.mono l4) (.inr (.inl ⟨_,_,rfl,rfl,rfl,rfl⟩)) true size n nofun
   | some xT=>
    simp only;refine (gk H xT).bd ?_;rintro aaZ d _ O3 ⟨rfl, -⟩;have K2:=cU.trans O3;refine ay.bd (RA:=gb λ_=>True) (.pure ⟨rfl,trivial⟩) ?_;rintro qi z _ iq ⟨rfl, -⟩;cases z with
    | false=>
     rw [if_neg (show¬((false:Bool)=true) by decide),if_neg (show¬((false:Bool)=true) by decide)];refine (uF (rT.mono (K2.trans iq))).bd ?_;rintro qW n _ nI ⟨rfl,O2⟩;have l4:=(K2.trans iq).trans nI;exact key _ _ 0 0 qW (.ya a a') (rT.mono l4) (.inr (.inl ⟨_,_,rfl,rfl,rfl,rfl⟩)) false size n (λ_ a q=>O2 a q)
    | true=>
     rw [if_pos (show (true:Bool)=true from rfl),if_pos (show (true:Bool)=true from rfl)];refine (oJ (rT.mono (K2.trans iq))).bd ?_;rintro qW k _ nI ⟨rfl, -⟩;by_cases hk:IntKind.i64.wrap k<0
     ·rw [if_pos hk,if_pos hk];exact (aR.eh bb).rel
     ·rw [if_neg hk,if_neg hk];refine (jY H e).bd ?_;rintro Gs inf _ yb ⟨rfl, -⟩;by_cases hb:IntKind.i64.wrap k*inf.bytes>2^48
      ·rw [if_pos hb,if_pos hb];exact aR.rel (aR.bind λ_=>aR.eh bb)
      ·rw [if_neg hb,if_neg hb];refine ay.bd (RA:=gb λ_=>True) (.pure ⟨rfl,trivial⟩) ?_;rintro IG n _ zJ ⟨rfl, -⟩;have l4:=(((K2.trans iq).trans nI).trans yb).trans zJ;exact key _ _ 0 0 IG (.ya a a') (rT.mono l4) (.inr (.inl ⟨_,_,rfl,rfl,rfl,rfl⟩)) true size n nofun
  | slice l c ha=>
   refine (fL H e).bd ?_;rintro iJ size _ cU ⟨rfl, -⟩;cases ts[1]? with
   | none=>
    simp only;refine ay.bd (RA:=gb λ_=>True) (.pure ⟨rfl,trivial⟩) ?_;rintro qi z _ iq ⟨rfl, -⟩;cases z with
    | false=>
     rw [if_neg (show¬((false:Bool)=true) by decide),if_neg (show¬((false:Bool)=true) by decide)];refine (uF (rT.mono (cU.trans iq))).bd ?_;rintro qW n _ nI ⟨rfl,O2⟩;have l4:=(cU.trans iq).trans nI;exact key _ _ l c qW (.slice _ _ (ha.mono l4)) (rT.mono l4) (.inr (.inr ⟨_,_,rfl,rfl,ha.mono l4⟩)) false size n (λ_ a q=>O2 a q)
    | true=>
     rw [if_pos (show (true:Bool)=true from rfl),if_pos (show (true:Bool)=true from rfl)];refine (oJ (rT.mono (cU.trans iq))).bd ?_;rintro qW k _ nI ⟨rfl, -⟩;by_cases hk:IntKind.i64.wrap k<0
     ·rw [if_pos hk,if_pos hk];exact (aR.eh bb).rel
     ·rw [if_neg hk,if_neg hk];refine (jY H e).bd ?_;rintro Gs inf _ yb ⟨rfl, -⟩;by_cases hb:IntKind.i64.wrap k*inf.bytes>2^48
      ·rw [if_pos hb,if_pos hb];exact aR.rel (aR.bind λ_=>aR.eh bb)
      ·rw [if_neg hb,if_neg hb];refine ay.bd (RA:=gb λ_=>True) (.pure ⟨rfl,trivial⟩) ?_;rintro IG n _ zJ ⟨rfl, -⟩;have l4:=(((cU.trans iq).trans nI).trans yb).trans zJ;exact key _ _ l c IG (.slice _ _ (ha.mono l4)) (rT.mono l4) (.inr (.inr ⟨_,_,rfl,rfl,ha.mono l4⟩)) true size n nofun
   | some xT=>
    simp only;refine (gk H xT).bd ?_;rintro aaZ d _ O3 ⟨rfl, -⟩;have K2:=cU.trans O3;refine ay.bd (RA:=gb λ_=>True) (.pure ⟨rfl,trivial⟩) ?_;rintro qi z _ iq ⟨rfl, -⟩;cases z with
    | false=>
     rw [if_neg (show¬((false:Bool)=true) by decide),if_neg (show¬((false:Bool)=true) by decide)];refine (uF (rT.mono (K2.trans iq))).bd ?_;rintro qW n _ nI ⟨rfl,O2⟩;have l4:=(K2.trans iq).trans nI;exact key _ _ l c qW (.slice _ _ (ha.mono l4)) (rT.mono l4) (.inr (.inr ⟨_,_,rfl,rfl,ha.mono l4⟩)) false size n (λ_ a q=>O2 a q)
    | true=>
     rw [if_pos (show (true:Bool)=true from rfl),if_pos (show (true:Bool)=true from rfl)];refine (oJ (rT.mono (K2.trans iq))).bd ?_;rintro qW k _ nI ⟨rfl, -⟩;by_cases hk:IntKind.i64.wrap k<0
     ·rw [if_pos hk,if_pos hk];exact (aR.eh bb).rel
     ·rw [if_neg hk,if_neg hk];refine (jY H e).bd ?_;rintro Gs inf _ yb ⟨rfl, -⟩;by_cases hb:IntKind.i64.wrap k*inf.bytes>2^48
      ·rw [if_pos hb,if_pos hb];exact aR.rel (aR.bind λ_=>aR.eh bb)
      ·rw [if_neg hb,if_neg hb];refine ay.bd (RA:=gb λ_=>True) (.pure ⟨rfl,trivial⟩) ?_;rintro IG n _ zJ ⟨rfl, -⟩;have l4:=(((K2.trans iq).trans nI).trans yb).trans zJ;exact key _ _ l c IG (.slice _ _ (ha.mono l4)) (rT.mono l4) (.inr (.inr ⟨_,_,rfl,rfl,ha.mono l4⟩)) true size n nofun
  | _=>exact ao
 all_goals exact ao
end
end Go.Cx
namespace Go.Cx
open Go
variable[ba][aH][bg]
section
variable{L C:Program}{β:Bj}(H:gC L C)
include H
inductive MH(L:Program):TypeId->Prop
 | bool {t:TypeId}:L.underlying t=some .bool->MH L t
 | int {t:TypeId} {k:IntKind}:L.underlying t=some (.int k)->MH L t
 | string {t:TypeId}:L.underlying t=some .string->MH L t
 | slice {t e:TypeId}:L.underlying t=some (.slice e)->MH L t
 | struct {t:TypeId} {fs:Array Field}:L.underlying t=some (.struct fs)->L.stoodInHeld t=false->(∀f∈fs,MH L f.type)->MH L t
omit H in
theorem O4{α σ:Type}{f g:α->σ->Sem (ForInStep σ)}: ∀(l:List α),(∀x∈l, ∀(bS:Bj) (s:σ),Le β bS->ay L C (gb λ_=>True) bS (f x s) (g x s))-> ∀(bS:Bj) (s:σ),Le β bS->ay L C (gb λ_=>True) bS (forIn l s f) (forIn l s g)
 | [],h,bS,s,hl=>by simp only [List.forIn_nil];exact .pure ⟨rfl,trivial⟩
 | x::l,h,bS,s,hl=>by
  simp only [List.forIn_cons];refine (h x (by simp) bS s hl).bd ?_;rintro iJ r _ cU ⟨rfl, -⟩;cases r with
  | done s=>exact .pure ⟨rfl,trivial⟩
  | yield s=>exact O4 l (λy hy=>h y (by simp [hy])) iJ s (hl.trans cU)
omit H in
theorem XR{α σ:Type}{f g:α->σ->Sem (ForInStep σ)}(xs:Array α)(h: ∀x∈xs, ∀(bS:Bj) (s:σ),Le β bS->ay L C (gb λ_=>True) bS (f x s) (g x s))(s:σ):ay L C (gb λ_=>True) β (forIn xs s f) (forIn xs s g):=by
 rw [←Array.forIn_toList, ←Array.forIn_toList];exact O4 xs.toList (λx hx=>h x (by simpa using hx)) β s (Le.refl _)
omit [aH] [bg] in
theorem MI(t:TypeId)(a b:Addr):aR L (do
  let (a,b):=((←behindNumber a).1,(←behindNumber b).1)
  if a.block==b.block&&a.block<(←program).globals.size then return (←byteOf a)==(←byteOf b)
  let .named "sync.copyChecker" _:=(←typeInfo t).desc | unsupported .addressObserved
  if a==b then pure true else unsupported .addressObserved:Sem Bool):=by
 refine aR.bind λx=>aR.bind λy=>aR.prog ?_;simp only [H.gl,qap,decide_false,Bool.and_false,qa6,if_false];refine aR.info λi hi=> ?_;split
 ·rename_i n hd;exact absurd hd (H.cc t i _ hi)
 ·exact aR.halt
theorem yl: ∀(d:Nat) {t:TypeId},MH L t-> ∀{β:Bj} {v v' u u':Value},ax β v v'->ax β u u'->ay L C (gb λ_=>True) β (Op.equalIn d t v u) (Op.equalIn d t v' u')
 | 0,t,_,β,v,v',u,u',hv,hu=>ao
 | d+1,t,ht,β,v,v',u,u',hv,hu=>by
  unfold Op.equalIn;refine (gk H t).bd ?_;rintro qT D _ vJ ⟨rfl,hD⟩;have O5:=hv.mono vJ;have rT:=hu.mono vJ;cases ht with
  | bool h=>
   rw [h] at hD;cases hD;cases O5 <;> cases rT <;> first | exact .pure ⟨rfl,trivial⟩ | exact ao
  | int h=>
   rw [h] at hD;cases hD;cases O5 with
   | int k n=>
    cases rT with
    | int k2 m=>
     simp only;split
     ·exact .pure ⟨rfl,trivial⟩
     ·exact ao
    | ptr h=>
     by_cases hn:n=0
     ·subst hn;exact .pure ⟨rfl,trivial⟩
     ·refine aR.rel ?_;split <;> first | exact aR.halt | (exfalso;simp_all)
    | _=>exact ao
   | ptr h=>
    cases rT with
    | int k n=>
     by_cases hn:n=0
     ·subst hn;exact .pure ⟨rfl,trivial⟩
     ·refine aR.rel ?_;split <;> first | exact aR.halt | (exfalso;simp_all)
    | ptr h=>exact (MI H t _ _).rel
    | _=>exact ao
   | _=>cases rT <;> exact ao
  | string h=>
   rw [h] at hD;cases hD;cases O5 <;> cases rT <;> first | exact .pure ⟨rfl,trivial⟩ | exact ao
  | slice h=>
   rw [h] at hD;cases hD;cases O5 <;> cases rT <;> first | exact .pure ⟨rfl,trivial⟩ | exact ao
  | struct h h2 h3=>
   rw [h] at hD;cases hD;cases O5 with
   | agg a1 a2=>
    cases rT with
    | agg b1 b2=>
     simp only;refine .program ?_;show ay L C _ qT (if L.stoodInHeld t=true then _ else _) (if C.stoodInHeld t=true then _ else _);rw [H.sih,h2];rw [if_neg (by decide),if_neg (by decide)];refine (XR _ (λf hf iJ s cU=> ?_) _).bd ?_
     ·by_cases hn:f.name≠ "_"
      ·rw [if_pos hn,if_pos hn];refine (I6 H f.type (aF.mono cU ⟨a1,a2⟩) _).bd ?_;intro qi p p' iq hp;refine (I6 H f.type (aF.mono (cU.trans iq) ⟨b1,b2⟩) _).bd ?_;intro qW q q' nI hq;refine (yl d (h3 f hf) (hp.mono nI) hq).bd ?_;rintro Gs b _ yb ⟨rfl, -⟩;split <;> exact .pure ⟨rfl,trivial⟩
      ·rw [if_neg hn,if_neg hn];exact .pure ⟨rfl,trivial⟩
     ·rintro iJ r _ cU ⟨rfl, -⟩;split <;> exact .pure ⟨rfl,trivial⟩
    | _=>exact ao
   | _=>cases rT <;> exact ao
end
end Go.Cx
namespace Go.Cx
open Go
variable[ba][aH][bg]
section
variable{L C:Program}{β:Bj}(H:gC L C)
include H
omit H in
theorem wK{a b:Nat}(h:β a b):ay L C (gb λ_=>True) β (shape a) (shape b):= .shape h λ_=> .pure ⟨rfl,trivial⟩
omit H in
theorem AK{a b:Nat}(h:β a b):ay L C (λβ (x x':Option (Addr×Bool))=>(x=none/\x'=none)\/ ∃d d' z,x=some (d,z)/\x'=some (d',z)/\jj β d d') β (numberAt a) (numberAt b):=by
 unfold numberAt;refine (wK h).bd ?_;rintro iJ s _ cU ⟨rfl, -⟩;split
 ·exact .pure (.inl ⟨rfl,rfl⟩)
 ·refine .getObj (cU _ _ h) λo o' ho=> ?_;cases ho with
  | num z hd=>exact .pure (.inr ⟨_,_,z,rfl,rfl,hd⟩)
  | Cn z=>cases z <;> exact .pure (.inl ⟨rfl,rfl⟩)
  | _=>exact .pure (.inl ⟨rfl,rfl⟩)
omit H in
theorem Gv{a b:Nat}(h:β a b):ay L C (λ_ (x x':Option (Addr×TypeId))=>x=none/\x'=none) β (viewAt a) (viewAt b):=by
 unfold viewAt;refine (wK h).bd ?_;rintro iJ s _ cU ⟨rfl, -⟩;split
 ·exact .pure ⟨rfl,rfl⟩
 ·refine .getObj (cU _ _ h) λo o' ho=> ?_;cases ho with
  | Cn z=>cases z <;> exact .pure ⟨rfl,rfl⟩
  | _=>exact .pure ⟨rfl,rfl⟩
omit H in
theorem Gw{a a':Addr}(h:jj β a a'):ay L C (λβ (x x':Addr×Bool)=>x.2=x'.2/\jj β x.1 x'.1) β (behindNumber a) (behindNumber a'):=by
 unfold behindNumber;refine (AK h.block).bd ?_;rintro iJ s s' cU (⟨rfl,rfl⟩ | ⟨d,d',z,rfl,rfl,hd⟩)
 ·exact .pure ⟨rfl,h.mono cU⟩
 ·exact .pure ⟨rfl,hd⟩
omit H in
def uAdd(ptr:Option Addr)(len_:Value):Sem Value:=do
 let n←asInt len_
 if n=0 then
  let some a:=ptr | unsupported (.unsafePointer "Add: from nil")
  if (←viewAt a.block).isSome then unsupported (.unsafePointer "Add: at a place where no cell lies")
  return .pointer ptr
 if n<0 then unsupported (.unsafePointer "Add: a move by a count below zero")
 let some a:=ptr | unsupported (.unsafePointer "Add")
 let some (e,cells)←shape a.block | unsupported (.unsafePointer "Add")
 let p←program
 match cellAtBytes p p.depth e (cells / p.cellsOf e) a.off n with
 | some off=>pure (.pointer (some { a with off }))
 | none=>unsupported (.unsafePointer "Add")
omit H in
omit [ba] [aH] [bg] in
theorem K3(t:TypeId)(a:Option Addr)(y:Value):Builtin.unsafeAdd_ #[] t #[.pointer a,y]=uAdd a y:=rfl
def Wo(β:Bj)(v v':Value):Prop:= ∃a a',v= .pointer (some a)/\v'= .pointer (some a')/\jj β a a'
theorem wL(t:TypeId){a a':Option Addr}{y y':Value}(h:(a=none/\a'=none)\/ ∃d d',a=some d/\a'=some d'/\jj β d d')(hy:ax β y y'):
  ay L C Wo β (Builtin.unsafeAdd_ #[] t #[.pointer a,y]) (Builtin.unsafeAdd_ #[] t #[.pointer a',y']):=by
 rw [K3,K3];unfold uAdd;refine (oJ hy).bd ?_;rintro iJ n _ cU ⟨rfl, -⟩;rcases h with ⟨rfl,rfl⟩ | ⟨d,d',rfl,rfl,hd⟩
 ·refine aR.rel ?_;by_cases hn:n=0
  ·simp only [if_pos hn];exact aR.eh aR.halt
  ·by_cases MJ:n<0
   ·simp only [if_neg hn,if_pos MJ];exact aR.eh aR.halt
   ·simp only [if_neg hn,if_neg MJ];exact aR.halt
 ·simp only;by_cases hn:n=0
  ·rw [if_pos hn,if_pos hn];refine (Gv (hd.mono cU).block).bd ?_;rintro qi _ _ iq ⟨rfl,rfl⟩;exact .pure ⟨_,_,rfl,rfl,(hd.mono cU).mono iq⟩
  ·rw [if_neg hn,if_neg hn];by_cases MJ:n<0
   ·rw [if_pos MJ,if_pos MJ];exact (aR.eh aR.halt).rel
   ·rw [if_neg MJ,if_neg MJ];refine (wK (hd.mono cU).block).bd ?_;rintro qi s _ iq ⟨rfl, -⟩;cases s with
    | none=>exact ao
    | some s=>
     obtain ⟨e,cells⟩:=s;refine .program ?_;have hd3:=(hd.mono cU).mono iq;show ay L C Wo qi (match cellAtBytes L L.depth e (cells / L.cellsOf e) d.off n with | some off=>pure (.pointer (some { d with off })) | none=>unsupported (.unsafePointer "Add")) (match cellAtBytes C C.depth e (cells / C.cellsOf e) d'.off n with | some off=>pure (.pointer (some { d' with off })) | none=>unsupported (.unsafePointer "Add"));rw [H.cab,hd3.off];cases cellAtBytes L L.depth e (cells / L.cellsOf e) d.off n with
     | none=>exact ao
     | some off=>exact .pure ⟨_,_,rfl,rfl,hd3.block,rfl,hd3.spot⟩
theorem tU(t:TypeId){a a':Option Addr}{y y':Value}(h:(a=none/\a'=none)\/ ∃d d',a=some d/\a'=some d'/\jj β d d')(hy:ax β y y'):
 ay L C ax β (Builtin.unsafeAdd_ #[] t #[.pointer a,y]) (Builtin.unsafeAdd_ #[] t #[.pointer a',y']):=(wL H t h hy).imp λbS v v' _ ⟨a,a',e1,e2,h⟩=>by subst e1;subst e2;exact .ptr h
omit H in
theorem I7{a a':Addr}(h:jj β a a')(z:Bool):ay L C ax β (asNumber a z) (asNumber a' z):=by
 unfold asNumber newObj;exact .new (.num z h) λγ r r' hl hr=> .pure (.ptr ⟨hr,rfl,rfl⟩)
theorem ly(t:TypeId){x x' y y':Value}(hx:ax β x x')(hy:ax β y y'):ay L C ax β (movedNumber t x y) (movedNumber t x' y'):=by
 unfold movedNumber;refine (gk H t).bd ?_;rintro iJ d _ cU ⟨rfl, -⟩;have ql:=hx.mono cU;have hy2:=hy.mono cU;have key:ay L C ax iJ (do
   let .pointer (some n):=x | Builtin.unsafeAdd_ #[] t #[x,y]
   let (a,lost)←behindNumber n
   match←Builtin.unsafeAdd_ #[] t #[.pointer (some a),y] with
   | .pointer (some b)=>asNumber b lost
   | v=>pure v:Sem Value) (do
   let .pointer (some n):=x' | Builtin.unsafeAdd_ #[] t #[x',y']
   let (a,lost)←behindNumber n
   match←Builtin.unsafeAdd_ #[] t #[.pointer (some a),y'] with
   | .pointer (some b)=>asNumber b lost
   | v=>pure v):=by
  cases ql with
  | ptr h=>
   refine (Gw h).bd ?_;rintro qi ⟨a,z⟩ ⟨a',z'⟩ iq ⟨h1,h2⟩;simp only at h1 h2;subst h1;refine (wL H t (.inr ⟨a,a',rfl,rfl,h2⟩) (hy2.mono iq)).bd ?_;rintro qW v v' nI ⟨b,b',rfl,rfl,h⟩;exact I7 h _
  | oH=>exact tU H t (.inl ⟨rfl,rfl⟩) hy2
  | _=>exact ao
 cases d
 case unsafePointer=>exact (aR.eh aR.halt).rel
 all_goals exact key
theorem AL(t:TypeId){x x' y y':Value}(hx:ax β x x')(hp: ∃a,x= .pointer a)(hy:ax β y y'):ay L C ax β (movedPointer t x y) (movedPointer t x' y'):=by
 unfold movedPointer;cases hx with
 | ptr h=>
  refine (AK h.block).bd ?_;rintro iJ s s' cU (⟨rfl,rfl⟩ | ⟨d,d',z,rfl,rfl,hd⟩)
  ·exact tU H t (.inr ⟨_,_,rfl,rfl,h.mono cU⟩) (hy.mono cU)
  ·exact (aR.eh aR.halt).rel
 | oH=>exact tU H t (.inl ⟨rfl,rfl⟩) hy
 | _=>obtain ⟨a,ha⟩:=hp;cases ha
omit [aH] [bg] in
theorem Gx(a b:Addr):aR L (Op.twoPlaces a b):=by
 unfold Op.twoPlaces;refine aR.prog ?_;simp only [H.gl,qa8,ge_iff_le,decide_true,Bool.or_true,if_true];exact aR.eh aR.halt
end
end Go.Cx
namespace Go.Cx
open Go
variable[ba][aH][bg]
section
variable{L C:Program}{β:Bj}(H:gC L C)
include H
theorem O6{a a':Addr}(h:jj β a a'):ay L C (gb λ_=>True) β (byteOf a) (byteOf a'):=by
 unfold byteOf;rw [h.spot];cases a.spot with
 | some s=>exact .pure ⟨rfl,trivial⟩
 | none=>
  refine .program ?_;unfold noView;simp only [bind_assoc];refine (Gv h.block).bd ?_;rintro iJ _ _ cU ⟨rfl,rfl⟩;simp only [qbn,qa6,if_false,pure_bind];refine (wK (h.mono cU).block).bd ?_;rintro qi s _ iq ⟨rfl, -⟩;cases s with
  | none=>exact ao
  | some s=>
   obtain ⟨e,n⟩:=s;obtain ⟨e1,e2,e3⟩:=H.bof e (a.off % L.cellsOf e);simp only [e1,h.off,e2,e3];split
   ·exact .pure ⟨rfl,trivial⟩
   ·cases byteOfCell L L.depth e (a.off % L.cellsOf e) with
    | none=>exact ao
    | some b=>exact .pure ⟨rfl,trivial⟩
theorem MK(k:IntKind)(n:Int){a a':Addr}(h:jj β a a'):ay L C ax β (Op.addrMod k a n) (Op.addrMod k a' n):=by
 unfold Op.addrMod;refine (wK h.block).bd ?_;rintro iJ s _ cU ⟨rfl, -⟩;cases s with
 | none=>exact ao
 | some s=>
  obtain ⟨e,m⟩:=s;simp only;refine (jY H e).bd ?_;rintro qi i _ iq ⟨rfl, -⟩;split
  ·exact (aR.eh aR.halt).rel
  ·refine (O6 H ((h.mono cU).mono iq)).bd ?_;rintro qW b _ nI ⟨rfl, -⟩;exact .pure (.int _ _)
omit H in
theorem I8(op:BinOp)(x y:ByteArray):ay L C ax β (Op.stringOp op x y) (Op.stringOp op x y):=by
 refine tQ ?_;unfold Op.stringOp;simp only;split
 ·split
  ·exact .inr aR.halt
  ·exact .inl ⟨_,rfl, .string _⟩
 all_goals first | exact .inl ⟨_,rfl, .bool _⟩ | exact .inr aR.halt
omit H in
omit [ba] [aH] [bg] in
theorem O7(d:Nat)(t:TypeId){x y:Value}(h:x= .tuple #[]\/y= .tuple #[]):aR L (Op.equalIn d t x y):=by
 cases d with
 | zero=>exact aR.halt
 | succ d=>
  unfold Op.equalIn;refine aR.bind λD=> ?_;rcases h with rfl | rfl
  ·cases D <;> first | exact aR.halt | (cases y <;> first | exact aR.halt | (rename_i a;cases a <;> exact aR.halt) | (rename_i a l c;cases a <;> exact aR.halt))
  ·cases D <;> first | exact aR.halt | (cases x <;> first | exact aR.halt | (rename_i a;cases a <;> exact aR.halt) | (rename_i a l c;cases a <;> exact aR.halt))
omit H in
omit [ba] [aH] [bg] in
theorem O8(op:BinOp)(t:TypeId){x y:Value}(h:x= .tuple #[]\/y= .tuple #[]):aR L (binOp op t x y):=by
 have he:aR L (Op.equal t x y):=O7 _ t h;unfold binOp;rcases h with rfl | rfl
 ·cases op <;> cases y <;> first | exact aR.halt | exact aR.eh he | (rename_i a;cases a <;> exact aR.halt)
 ·cases op <;> cases x <;> first | exact aR.halt | exact aR.eh he | (rename_i a;cases a <;> exact aR.halt)
theorem TC(op:BinOp)(t:TypeId)(ht:op= .eql\/op= .neq->MH L t){x x' y y':Value}(hx:ax β x x')(hy:ax β y y'):ay L C ax β (binOp op t x y) (binOp op t x' y'):=by
 have Cv:MH L t->ay L C ax β (do pure (.bool (←Op.equal t x y)):Sem Value) (do pure (.bool (←Op.equal t x' y'))):=λh=>by
  refine (yl H _ h hx hy).bd ?_;rintro iJ b _ cU ⟨rfl, -⟩;exact .pure (.bool _)
 have Cw:MH L t->ay L C ax β (do pure (.bool (!(←Op.equal t x y))):Sem Value) (do pure (.bool (!(←Op.equal t x' y')))):=λh=>by
  refine (yl H _ h hx hy).bd ?_;rintro iJ b _ cU ⟨rfl, -⟩;exact .pure (.bool _)
 have hii: ∀k a k' b,ay L C ax β (binOp op t (.int k a) (.int k' b)) (binOp op t (.int k a) (.int k' b)):=by
  intro k a k' b;unfold binOp;by_cases hk:k≠k'
  ·cases op
   case shl=>exact Af _ _ _ _ _
   case shr=>exact Af _ _ _ _ _
   all_goals (simp only [hk,ne_eq,not_false_eq_true,if_true];exact ao)
  ·cases op
   case shl=>exact Af _ _ _ _ _
   case shr=>exact Af _ _ _ _ _
   all_goals (simp only [hk,if_false];first | exact AJ _ _ _ _ | exact OX _ _ _ _ | exact C9 _ _ _ _ | exact OY _ _ _)
 have hss: ∀a b,ay L C ax β (binOp op t (.string a) (.string b)) (binOp op t (.string a) (.string b)):=by
  intro a b;unfold binOp;cases op <;> exact I8 _ _ _
 have XS: ∀{a a':Addr} (k:IntKind) (n:Int),jj β a a'->ay L C ax β (do Op.addrMod k (←behindNumber a).1 n:Sem Value) (do Op.addrMod k (←behindNumber a').1 n):=λk n h=>by
  refine (Gw h).bd ?_;rintro iJ x x' cU ⟨h1,h2⟩;exact MK H k n h2
 have aa0: ∀{x x' y y':Value},ax β x x'->(∃a,x= .pointer a)->ax β y y'->ay L C ax β (do if (←underlying t) matches .unsafePointer then movedPointer t x y else movedNumber t x y:Sem Value) (do if (←underlying t) matches .unsafePointer then movedPointer t x' y' else movedNumber t x' y'):=λhx hp hy=>by
  refine (gk H t).bd ?_;rintro iJ d _ cU ⟨rfl, -⟩;cases d
  case unsafePointer=>exact AL H t (hx.mono cU) hp (hy.mono cU)
  all_goals exact ly H t (hx.mono cU) (hy.mono cU)
 by_cases hh:x= .tuple #[]\/y= .tuple #[]
 ·exact (O8 op t hh).rel
 have aeC: ∀a b,aR L (do Op.addrSub .u64 (←behindNumber a).1 (←behindNumber b).1:Sem Value):=λa b=>aR.bind λ_=>aR.bind λ_=>aR.eh (Gx H _ _);have aeD: ∀o a b,aR L (do Op.addrCmp o (←behindNumber a).1 (←behindNumber b).1:Sem Value):=λo a b=>aR.bind λ_=>aR.bind λ_=>aR.eh (Gx H _ _);cases hx with
 | int k a=>
  cases hy with
  | int k' b=>exact hii k a k' b
  | ptr h=>
   unfold binOp;cases op
   case eql=>exact Cv (ht (.inl rfl))
   case neq=>exact Cw (ht (.inr rfl))
   case add=>exact ly H t (.ptr h) (.int _ _)
   case and=>exact XS _ _ h
   all_goals exact ao
  | oH=>
   unfold binOp;cases op
   case eql=>exact Cv (ht (.inl rfl))
   case neq=>exact Cw (ht (.inr rfl))
   case add=>exact ly H t .oH (.int _ _)
   all_goals exact ao
  | hole _ _=>exact (hh (.inr rfl)).elim
  | _=>
   unfold binOp;cases op
   case eql=>exact Cv (ht (.inl rfl))
   case neq=>exact Cw (ht (.inr rfl))
   all_goals exact ao
 | string a=>
  cases hy with
  | string b=>exact hss a b
  | hole _ _=>exact (hh (.inr rfl)).elim
  | _=>
   unfold binOp;cases op
   case eql=>exact Cv (ht (.inl rfl))
   case neq=>exact Cw (ht (.inr rfl))
   all_goals exact ao
 | ptr h=>
  cases hy with
  | int k n=>
   unfold binOp;cases op
   case eql=>exact Cv (ht (.inl rfl))
   case neq=>exact Cw (ht (.inr rfl))
   case add=>exact aa0 (.ptr h) ⟨_,rfl⟩ (.int _ _)
   case sub=>exact ly H t (.ptr h) (.int _ _)
   case rem=>exact XS _ _ h
   case and=>exact XS _ _ h
   all_goals exact ao
  | ptr h'=>
   unfold binOp;cases op
   case eql=>exact Cv (ht (.inl rfl))
   case neq=>exact Cw (ht (.inr rfl))
   case sub=>exact (aeC _ _).rel
   all_goals first | exact ao | exact (aeD _ _ _).rel
  | hole _ _=>exact (hh (.inr rfl)).elim
  | _=>
   unfold binOp;cases op
   case eql=>exact Cv (ht (.inl rfl))
   case neq=>exact Cw (ht (.inr rfl))
   all_goals exact ao
 | oH=>
  cases hy with
  | int k n=>
   unfold binOp;cases op
   case eql=>exact Cv (ht (.inl rfl))
   case neq=>exact Cw (ht (.inr rfl))
   case add=>exact aa0 .oH ⟨_,rfl⟩ (.int _ _)
   case sub=>exact ly H t .oH (.int _ _)
   all_goals exact ao
  | hole _ _=>exact (hh (.inr rfl)).elim
  | _=>
   unfold binOp;cases op
   case eql=>exact Cv (ht (.inl rfl))
   case neq=>exact Cw (ht (.inr rfl))
   all_goals exact ao
 | hole _ _=>exact (hh (.inl rfl)).elim
 | _=>
  cases hy
  case hole=>exact (hh (.inr rfl)).elim
  all_goals
   unfold binOp;cases op
   case eql=>exact Cv (ht (.inl rfl))
   case neq=>exact Cw (ht (.inr rfl))
   all_goals exact ao
end
end Go.Cx
namespace Go.Cx
open Go
variable[ba][aH][bg]
inductive ML(β:Bj):Target->Target->Prop
 | fn {f f':Fn} {c c':Array Value}:Cu β f f'->aF β c c'->ML β (.fn f c) (.fn f' c')
 | method (n:String):ML β (.fn (.method n) #[]) (.fn (.method n) #[])
 | builtin (b:Builtin) (ts:Array TypeId) (t:TypeId) (cs:Array Bool):ML β (.builtin b ts t cs) (.builtin b ts t cs)
 | nil:ML β .nil .nil
structure aa1(β:Bj)(d d':Deferred):Prop where
 target:ML β d.target d'.target
 args:aF β d.args d'.args
inductive mC(β:Bj):Next->Next->Prop
 | value {v v':Value}:ax β v v'->mC β (.value v) (.value v')
 | skip:mC β .skip .skip
 | enter (f:FuncId) {x x':Array Value}:ba.ok f->ba.th f->aF β x x'->mC β (.enter f x) (.enter f x')
 | round {l l':Nat} (f:FuncId) {x x':Array Value} (a b:Code):aH.code a->aH.code b->β l l'->aF β x x'->mC β (.round l f x a b) (.round l' f x' a b)
section
variable{L C:Program}{β:Bj}(H:gC L C)
include H
theorem AM(f:FuncId)(tk:ba.ok f){x x':Array Value}(hx:aF β x x'):ay L C mC β (callFunc f x) (callFunc f x'):=by
 cases hf:L.funcs[f]? with
 | none=>
  refine aR.rel ?_;unfold callFunc;refine aR.prog ?_;rw [hf];exact aR.halt
 | some fn=>
  by_cases hb:fn.body.isNone=true
  ·exact aR.rel (H.nob f fn hf hb x)
  ·simp only [qbd] at hb;obtain ⟨h0,h1,jN,h2,h3,h4⟩:=H.fns f fn hf hb;unfold callFunc;refine .program ?_;show ay L C mC β (match L.funcs[f]? with | none=>_ | some fn=>_) (match C.funcs[f]? with | none=>_ | some fn=>_);rw [hf,h2];simp only [h1,h4,hb,h3,qa6,if_false];exact .pure (.enter f tk h0 hx)
omit H in
omit [ba] [aH] [bg] in
theorem MM(ts:Array TypeId)(t:TypeId)(a b:ByteArray):aR L (Builtin.ssaWrapNilChk_ ts t #[.pointer none, .string a, .string b]):=by
 change aR L (_ >>= _);refine aR.bind λn=> ?_;by_cases hn:(n==1)=true
 ·simp only [hn,if_true];exact aR.eh bb
 ·simp only [hn,if_false];cases ts[0]? with
  | none=>exact aR.halt
  | some pt=>
   refine aR.bind λd=> ?_;cases d
   case pointer t=>
    refine aR.bind λi=> ?_;split
    ·split
     ·split
      ·exact bb
      ·exact aR.halt
     ·exact aR.halt
    ·exact aR.halt
   all_goals exact aR.halt
theorem En(t:TypeId){v v':Value}(hv:ax β v v')(p:Bool)(w:Option String):ay L C ax β (receiverAt t (.val v) p w) (receiverAt t (.val v') p w):=by
 unfold receiverAt;refine (gk H t).bd ?_;rintro iJ d _ cU ⟨rfl, -⟩;have vI:=hv.mono cU;cases d
 case pointer e=>
  cases p with
  | true=>exact .pure vI
  | false=>
   simp only [Place.get];refine ay.bd (RA:=ax) (.pure vI) ?_;intro qi u u' iq hu;cases w with
   | none=>
    refine ay.bd (RA:=ax) (.pure hu) ?_;intro qW q q' nI hq;refine (wG hq).bd ?_;intro Gs a a' yb ha;exact uD H e ha
   | some name=>
    refine ay.bd (RA:=ax) (s:=Builtin.ssaWrapNilChk_ #[t] t #[u,strVal "",strVal name]) (t:=Builtin.ssaWrapNilChk_ #[t] t #[u',strVal "",strVal name]) ?_ ?_
    ·cases hu with
     | ptr h=>exact .pure (.ptr h)
     | oH=>exact (MM _ _ _ _).rel
     | _=>exact ao
    ·intro qW q q' nI hq;refine (wG hq).bd ?_;intro Gs a a' yb ha;exact uD H e ha
 all_goals (cases p <;> first | exact ao | exact .pure vI)
theorem Gy: ∀(fuel:Nat) (t:TypeId) {β:Bj} {v v':Value} (name:String),ax β v v'->ay L C (λβ (x x':FuncId×Value)=>x.1=x'.1/\ba.ok x.1/\ax β x.2 x'.2) β (method fuel t v name) (method fuel t v' name)
 | 0,t,β,v,v',name,hv=>ao
 | fuel+1,t,β,v,v',name,hv=>by
  unfold method;refine (jY H t).bd ?_;rintro iJ i _ cU ⟨rfl,hi⟩;cases hm:i.methods.find? (·.name==name) with
  | none=>exact ao
  | some m=>
   obtain ⟨hp,yc⟩:=H.mp t i m hi (Array.mem_of_find?_eq_some hm);simp only [hp,follow,pure_bind];cases hmf:m.func with
   | none=>
    simp only;refine ay.bd (RA:=ax) (.pure (hv.mono cU)) ?_;intro qi u u' iq hu;cases hu with
    | iface t' h=>exact Gy fuel t' name h
    | iK=>exact bb.rel
    | _=>exact ao
   | some fp=>
    obtain ⟨f,p⟩:=fp;simp only;refine (En H t (hv.mono cU) p _).bd ?_;intro qi u u' iq hu;exact .pure ⟨rfl,yc f p hmf,hu⟩
theorem AN: ∀(fuel:Nat) (t:TypeId) {β:Bj} {v v':Value} (name:String),ax β v v'->ay L C (λ_ (x x':Option Bool)=>x'=x) β (nilAhead fuel t v name) (nilAhead fuel t v' name)
 | 0,t,β,v,v',name,hv=> .pure rfl
 | fuel+1,t,β,v,v',name,hv=>by
  unfold nilAhead;refine (jY H t).bd ?_;rintro iJ i _ cU ⟨rfl,hi⟩;cases hm:i.methods.find? (·.name==name) with
  | none=>exact ao
  | some m=>
   obtain ⟨hp,yc⟩:=H.mp t i m hi (Array.mem_of_find?_eq_some hm);simp only [hp,followBlind,pure_bind];have vI:=hv.mono cU;cases hmf:m.func with
   | none=>
    try simp only
    cases vI with
    | iface t' h=>exact AN fuel t' name h
    | iK=>exact .pure rfl
    | _=>exact ao
   | some fp=>
    obtain ⟨f,p⟩:=fp;cases p with
    | true=>exact .pure rfl
    | false=>
     try simp only
     refine (gk H t).bd ?_;rintro qi d _ iq ⟨rfl, -⟩;cases d
     case pointer e=>
      cases vI with
      | oH=>exact .pure rfl
      | ptr h=>exact .pure rfl
      | hole ho hp=>cases v' <;> first | exact ho.elim | exact .pure rfl | (rename_i a;cases a <;> first | exact ho.elim | exact .pure rfl)
      | _=>exact .pure rfl
     all_goals exact .pure rfl
theorem wM{v v':Value}(name:String){x x':Array Value}(hv:ax β v v')(hx:aF β x x'):ay L C mC β (callMethod v name x) (callMethod v' name x'):=by
 unfold callMethod;cases hv with
 | iface t h=>
  refine .program ?_;show ay L C mC β (do
   let (f,receiver)←method (L.types.size+Made.depth) t _ name
   callFunc f (#[receiver]++x)) (do
   let (f,receiver)←method (C.types.size+Made.depth) t _ name
   callFunc f (#[receiver]++x'))
  rw [H.Ot];refine (Gy H _ t name h).bd ?_;rintro iJ ⟨f,r⟩ ⟨f',r'⟩ cU ⟨h1,h0,h2⟩;simp only at h1 h0 h2;subst h1;exact AM H f h0 ((aF.one h2).append (hx.mono cU))
 | iK=>exact bb.rel
 | _=>exact ao
omit H in
theorem qX{l l':Nat}(h:β l l'):ay L C I1 β (Instr.getLoop l) (Instr.getLoop l'):=by
 unfold Instr.getLoop;refine ay.bd (RA:=rV) (.getObj h λo o' ho=> .pure ho) ?_;intro iJ o o' cU ho;cases ho with
 | loop h=>exact .pure h
 | Cn b=>cases b <;> exact ao
 | _=>exact ao
omit H in
omit [aH] in
theorem Gz(ps:Array Tmp){x x' t t':Array Value}(hx:aF β x x')(ht:aF β t t'):aF β ((ps.zip x).foldl (λtmps (t,a)=>tmps.setIfInBounds t a) t) ((ps.zip x').foldl (λtmps (t,a)=>tmps.setIfInBounds t a) t'):=by
 have key: ∀(l:List Tmp) {y y':List Value} {t t':Array Value},oz β y y'->aF β t t'->aF β ((l.zip y).foldl (λtmps (q:Tmp×Value)=>tmps.setIfInBounds q.1 q.2) t) ((l.zip y').foldl (λtmps (q:Tmp×Value)=>tmps.setIfInBounds q.1 q.2) t'):=by
  intro l
  induction l with
  | nil=>intro y y' t t' _ ht;exact ht
  | cons p l ih=>
   intro y y' t t' hy ht;cases hy with
   | nil=>exact ht
   | cons hv hl=>exact ih hl (ht.set hv p)
 have:=key ps.toList hx.list ht;rw [←Array.foldl_toList, ←Array.foldl_toList,Array.toList_zip,Array.toList_zip];exact this
omit H in
theorem TD{l l':Nat}(h:β l l'){x x':Array Value}(hx:aF β x x'):ay L C mC β (Instr.yield l x) (Instr.yield l' x'):=by
 unfold Instr.yield;refine (qX h).bd ?_;intro iJ r r' cU hr;rw [←hx.1,hr.params];split
 ·exact (aR.eh aR.halt).rel
 ·rw [hr.fn,hr.assign,hr.body];exact .pure (.round _ _ _ hr.ca hr.cb (cU _ _ h) (Gz _ (hx.mono cU) hr.tmps))
end
end Go.Cx
namespace Go.Cx
open Go
variable[ba][aH][bg]
def lz:Operand->Prop
 | .tmp _=>True
 | .const v=>Plain v
 | .global _=>False
 | .func f=>ba.ok f
def okB:Builtin->Bool
 | .append | .cap | .clear | .len | .max | .min=>true
 | _=>false
def AO:Callee->Prop
 | .value f=>lz f
 | .invoke r _=>lz r
 | .builtin b=>okB b=true
def I9(L C:Program):Op->Prop
 | .move x | .assign x | .box _ x | .load _ x | .nilCheck x | .unOp _ _ x | .makeInterface _ x | .extract x _ | .panic x=>lz x
 | .typeAssert x _ t _=>lz x/\SP L t
 | .sliceToArrayPointer t x=>lz x/\ ∀n e,L.underlying t=some (.array n e)->n≠0
 | .pick c a b=>lz c/\lz a/\lz b
 | .alloc t=>SP L t
 | .build t ps=>(∀p∈ps,lz p.2)/\SP L t
 | .buildSlice t _ ps=>(∀p∈ps,lz p.2)/\Mx L t
 | .makeSlice t a x=>lz a/\lz x/\Mx L t
 | .store _ a x | .indexAddr _ a x | .index _ a x=>lz a/\lz x
 | .binOp op t x y _=>lz x/\lz y/\(op= .eql\/op= .neq->MH L t/\L.eqGuardType L.depth t=false/\C.eqGuardType C.depth t=false)
 | .convert s d x=>lz x/\(∃k,L.underlying s=some (.int k))/\ ∃k,L.underlying d=some (.int k)
 | .makeFunc (.func f) xs ys=>(∀x∈xs,lz x)/\(∀y∈ys,lz y)/\ba.ok f
 | .slice _ x l h m=>lz x/\(∀y∈l,lz y)/\(∀y∈h,lz y)/\ ∀y∈m,lz y
 | .fieldAddr s x i=>lz x/\ ∀(fs:Array Field) (f:Field) (inf:TypeInfo),L.underlying s=some (.struct fs)->fs[i]? =some f->L.info? f.type=some inf->inf.size≠0
 | .call c=>AO c.callee/\(∀x∈c.args,lz x)/\ ∀ty∈c.argTypes,Mx L ty
 | _=>False
section
variable{L C:Program}{β:Bj}(H:gC L C)
include H
omit H in
omit [aH] in
theorem Dc{v v':Value}(hv:ax β v v')(b:Bool):ax β (.tuple #[v, .bool b]) (.tuple #[v', .bool b]):=(aF.push (aF.one hv) (.bool b)).Gp
theorem Eo(xt at_:TypeId)(ok:Bool)(IF:SP L at_){v v':Value}(hv:ax β v v'):ay L C ax β (Instr.typeAssert v xt at_ ok) (Instr.typeAssert v' xt at_ ok):=by
 unfold Instr.typeAssert;refine (gk H at_).bd ?_;rintro iJ d _ cU ⟨rfl, -⟩;have vI:=hv.mono cU;have holds: ∀{β:Bj} {u u':Value},ax β u u'->ay L C ax β (pure (if ok then .tuple #[u, .bool true] else u):Sem Value) (pure (if ok then .tuple #[u', .bool true] else u')):=by
  intro β u u' hu;cases ok with
  | true=>exact .pure (Dc hu true)
  | false=>exact .pure hu
 have K4: ∀(s d:Option TypeId) (m:String) {β:Bj},ay L C ax β (if ok then do pure (.tuple #[←zeroValue at_, .bool false]) else runtimePanic (.typeAssertion s d at_ m):Sem Value) (if ok then do pure (.tuple #[←zeroValue at_, .bool false]) else runtimePanic (.typeAssertion s d at_ m)):=by
  intro s d m β;split
  ·refine (I3 H at_ IF).bd ?_;intro qi z z' iq hz;exact .pure (Dc hz false)
  ·exact bb.rel
 cases d
 case interface ms=>
  cases vI with
  | iK=>exact K4 _ _ _
  | iface t h=>
   refine (jY H t).bd ?_;rintro qi i _ iq ⟨rfl, -⟩;split
   ·exact holds (.iface t (h.mono iq))
   ·exact K4 _ _ _
  | _=>exact ao
 all_goals
  cases vI with
  | iK=>exact K4 _ _ _
  | iface t h=>
   simp only;split
   ·exact holds h
   ·exact K4 _ _ _
  | _=>exact ao
theorem MN(op:BinOp)(t:TypeId)(x y:Operand)(ht:op= .eql\/op= .neq->MH L t/\L.eqGuardType L.depth t=false/\C.eqGuardType C.depth t=false){a a' b b':Value}(ha:ax β a a')(hb:ax β b b'):
  ay L C (gb λ_=>True) β (eqGuard op t x y a b) (eqGuard op t x y a' b'):=by
 unfold eqGuard;by_cases ho:op= .eql\/op= .neq
 ·obtain ⟨h1,h2,h3⟩:=ht ho;rcases ho with rfl | rfl
  all_goals
   simp only [qah,qa6,if_false];cases ha with
   | iK=>
    cases hb with
    | iK=>
     simp only;have:ay L C (λ_ (x x':Bool)=>x=false/\x'=false) β (Op.eqGuardIn Op.maxDepth t .nilIface .nilIface) (Op.eqGuardIn Op.maxDepth t .nilIface .nilIface):=by
      show ay L C _ β (Op.eqGuardIn (9999+1) t .nilIface .nilIface) (Op.eqGuardIn (9999+1) t .nilIface .nilIface);unfold Op.eqGuardIn;refine (gk H t).bd ?_;rintro iJ d _ cU ⟨rfl,hd⟩;cases h1 with
      | bool h=>rw [h] at hd;cases hd;exact .pure ⟨rfl,rfl⟩
      | int h=>rw [h] at hd;cases hd;exact .pure ⟨rfl,rfl⟩
      | string h=>rw [h] at hd;cases hd;exact .pure ⟨rfl,rfl⟩
      | slice h=>rw [h] at hd;cases hd;exact .pure ⟨rfl,rfl⟩
      | struct h _ _=>rw [h] at hd;cases hd;exact .pure ⟨rfl,rfl⟩
     repeat' split
     all_goals first
      | exact .pure ⟨rfl,trivial⟩
      | (refine this.bd ?_;rintro iJ _ _ cU ⟨rfl,rfl⟩;exact .pure ⟨rfl,trivial⟩)
    | @hole b' ho _=>cases b' <;> first | exact ho.elim | exact .pure ⟨rfl,trivial⟩
    | _=>exact .pure ⟨rfl,trivial⟩
   | agg h k=>
    cases hb with
    | agg h' k'=>
     refine .program ?_;show ay L C _ β (do
      if !L.eqGuardType (←program).depth t then return
      if←Op.eqGuardIn Op.maxDepth t _ _ then unsupported _) (do
      if !C.eqGuardType (←program).depth t then return
      if←Op.eqGuardIn Op.maxDepth t _ _ then unsupported _)
     refine .program ?_;show ay L C _ β (do
      if !L.eqGuardType L.depth t then return
      if←Op.eqGuardIn Op.maxDepth t _ _ then unsupported _) (do
      if !C.eqGuardType C.depth t then return
      if←Op.eqGuardIn Op.maxDepth t _ _ then unsupported _)
     rw [h2,h3];exact .pure ⟨rfl,trivial⟩
    | @hole b' ho _=>cases b' <;> first | exact ho.elim | exact .pure ⟨rfl,trivial⟩
    | _=>exact .pure ⟨rfl,trivial⟩
   | @hole a' ho _=>cases a' <;> first | exact ho.elim | exact .pure ⟨rfl,trivial⟩
   | _=>cases hb <;> exact .pure ⟨rfl,trivial⟩
 ·cases op <;> first | exact .pure ⟨rfl,trivial⟩ | exact absurd (.inl rfl) ho | exact absurd (.inr rfl) ho
omit H in
omit [ba] [aH] [bg] in
theorem Ep:nc L Instr.panicnil:=by
 have hk: ∀{α:Type} (x:Ask α) (w:World),(w.ask x).2.heap=w.heap:=by
  intro α x
  induction x with
  | done a=>intro w;rfl
  | ask aiV range k ih=>
   intro w;unfold World.ask;simp only;split
   ·exact ih _ w
   ·exact ih _ { w with drawn:=w.drawn+1 }
 have hs:nc L (sys .env):=jq λw=>by
  refine .inl ⟨_,_,rfl, ?_⟩;have:=hk (Kernel.perform .env w.os) w;unfold World.sys;generalize w.ask (Kernel.perform .env w.os)=q at this;obtain ⟨⟨r,os⟩,w'⟩:=q;cases r <;> first | exact this | rfl
 unfold Instr.panicnil;refine @fz _ _ _ _ _ hs λd=> ?_;split <;> infer_instance
omit H in
omit [ba] [aH] [bg] in
theorem Ja(v:Value):aR L (Instr.panic v):=by
 unfold Instr.panic;cases v <;> first | exact aR.halt | skip
 refine aR.bind (hm:=Ep) λn=> ?_;split
 ·exact aR.halt
 ·exact bb
theorem MO(b:Builtin)(hb:okB b=true)(ts:Array TypeId)(Da: ∀ty∈ts,Mx L ty)(t:TypeId)(cs:Array Bool){x x':Array Value}(hx:aF β x x'):ay L C mC β (builtin b ts t cs x) (builtin b ts t cs x'):=by
 have fin: ∀{s s':Sem Value},ay L C ax β s s'->ay L C mC β (do pure (.value (←s))) (do pure (.value (←s'))):=λh=>h.bd λbS a a' hl ha=> .pure (.value ha);unfold builtin;cases b <;> first | (cases hb;done) | skip
 ·exact fin (O0 H ts t Da hx)
 ·exact fin (aaU H ts t hx)
 ·exact fin (TA H ts t Da hx)
 ·exact fin (aaT H ts t hx)
 ·exact fin (aaW ts t hx)
 ·exact fin (aaV ts t hx)
end
end Go.Cx
namespace Go.Cx
open Go
variable[ba][aH][bg]
section
variable{L C:Program}{β:Bj}(H:gC L C)
include H
theorem GA{t t':Target}(ht:ML β t t')(hb: ∀b ts u cs,t= .builtin b ts u cs->okB b=true/\ ∀ty∈ts,Mx L ty){x x':Array Value}(hx:aF β x x'):ay L C mC β (invoke t x) (invoke t' x'):=by
 unfold invoke;cases ht with
 | nil=>exact bb.rel
 | builtin b ts u cs=>exact MO H b (hb _ _ _ _ rfl).1 ts (hb _ _ _ _ rfl).2 u cs hx
 | method n=>
  simp only;cases h0:x[0]? with
  | none=>exact ao
  | some v=>
   obtain ⟨v',h1,hv⟩:=hx.get h0;rw [h1];simp only;rw [←hx.1];exact wM H n hv (hx.extract _ _)
 | fn hf hc=>
  cases hf with
  | func f hf=>exact AM H f hf (hx.append hc)
  | yield hl=>exact TD hl hx
  | method n=>
   simp only;cases h0:x[0]? with
   | none=>exact ao
   | some v=>
    obtain ⟨v',h1,hv⟩:=hx.get h0;rw [h1];simp only;rw [←hx.1];exact wM H n hv (hx.extract _ _)
omit H in
theorem MP{ρ qU:Operand->Value}(mD: ∀x,lz x->ax β (ρ x) (qU x))(c:Call)(t:TypeId)(h1:AO c.callee)(h2: ∀x∈c.args,lz x)(h3: ∀ty∈c.argTypes,Mx L ty):
  ay L C (λβ (d d':Deferred)=>aa1 β d d'/\ ∀b ts u cs,d.target= .builtin b ts u cs->okB b=true/\ ∀ty∈ts,Mx L ty) β (resolve ρ c t) (resolve qU c t):=by
 unfold resolve;have ha:aF β (c.args.map ρ) (c.args.map qU):=aF.map λx hx=>mD x (h2 x hx);revert h1;cases c.callee with
 | builtin b=>
  intro h1;exact .pure ⟨⟨.builtin _ _ _ _,ha⟩,λb' ts u cs q=>by cases q;exact ⟨h1,h3⟩⟩
 | invoke r n=>
  intro h1;exact .pure ⟨⟨.method n,(aF.one (mD r h1)).append ha⟩,λb' ts u cs q=>by cases q⟩
 | value f=>
  intro h1;have hf:=mD f h1;unfold Deferred.ofValue;dsimp only;generalize ρ f=u at hf;generalize qU f=u' at hf;cases hf with
  | func g a1 a2 a3 a4=>exact .pure ⟨⟨.fn g ⟨a2,a4⟩,aF.append ⟨a1,a3⟩ ha⟩,λb' ts u cs q=>by cases q⟩
  | pg=>exact .pure ⟨⟨.nil,ha⟩,λb' ts u cs q=>by cases q⟩
  | _=>exact ao
omit H in
theorem ni{s s':Sem Value}(h:ay L C ax β s s'):ay L C mC β (do pure (.value (←s))) (do pure (.value (←s'))):=h.bd λbS a a' hl ha=> .pure (.value ha)
omit H in
omit [aH] in
theorem Jb{ρ qU:Operand->Value}: ∀(l:List (Nat×Operand)),(∀p∈l,ax β (ρ p.2) (qU p.2))->vr β (l.map fun (i,x)=>(i,ρ x)) (l.map fun (i,x)=>(i,qU x))
 | [],_=> .nil
 | (i,x)::l,h=> .cons i (h (i,x) (by simp)) (Jb l λp hp=>h p (by simp [hp]))
omit H in
omit [aH] in
theorem Jc{ρ qU:Operand->Value}(o:Option Operand)(h: ∀y∈o,ax β (ρ y) (qU y)):oC β (o.map ρ) (o.map qU):=by
 cases o with
 | none=>exact .none
 | some y=>exact .some (h y rfl)
theorem Jd{ρ qU:Operand->Value}(mD: ∀x,lz x->ax β (ρ x) (qU x))(o:Oper)(ho:I9 L C o.op):ay L C mC β (execOp ρ o) (execOp qU o):=by
 unfold execOp;revert ho;cases o.op <;> intro ho <;> try exact False.elim ho
 case move x=>exact .pure (.value (mD x ho))
 case assign x=>exact .pure (.value (mD x ho))
 case pick c a b=>
  refine (OT (mD c ho.1)).bd ?_;rintro iJ z _ hl ⟨rfl, -⟩;cases z with
  | true=>exact .pure (.value ((mD a ho.2.1).mono hl))
  | false=>exact .pure (.value ((mD b ho.2.2).mono hl))
 case alloc e=>exact ni (To H e ho)
 case box e x=>exact ni (aaR e (mD x ho))
 case build t ps=>
  refine ni (Tz H t ho.2 ?_);rw [Array.toList_map,Array.toList_map];exact Jb _ λp hp=>mD _ (ho.1 p (by simpa using hp))
 case buildSlice t n ps=>
  refine ni (El H t n ho.2 ?_);rw [Array.toList_map,Array.toList_map];exact Jb _ λp hp=>mD _ (ho.1 p (by simpa using hp))
 case load t a=>exact ni (OU H t (mD a ho))
 case store t a x=>
  refine (My H t (mD a ho.1) (mD x ho.2)).bd ?_;rintro iJ z _ hl ⟨rfl, -⟩;exact .pure .skip
 case nilCheck x=>
  have hx:=mD x ho;dsimp only;generalize ρ x=u at hx;generalize qU x=u' at hx;cases hx with
  | oH=>exact bb.rel
  | iK=>exact bb.rel
  | pg=>exact bb.rel
  | bool b=>exact .pure (.value (.bool b))
  | int k n=>exact .pure (.value (.int k n))
  | string s=>exact .pure (.value (.string s))
  | ptr h=>exact .pure (.value (.ptr h))
  | kg n c=>exact .pure (.value (.kg n c))
  | ya a a'=>exact .pure (.value (.ya a a'))
  | slice n c h=>exact .pure (.value (.slice n c h))
  | @func _ _ x x' y y' h h1 h2 h3 h4=>
   cases h with
   | func f hf=>exact .pure (.value (.func (.func f hf) h1 h2 h3 h4))
   | yield h=>exact .pure (.value (.func (.yield h) h1 h2 h3 h4))
   | method n=>
    simp only;cases h0:x[0]? with
    | none=>
     have Gg:x'[0]? =none:=by
      rw [Array.getElem?_eq_none_iff] at h0 ⊢;rw [←h1];exact h0
     rw [Gg];exact .pure (.value (.func (.method n) h1 h2 h3 h4))
    | some z=>
     obtain ⟨z',Gg,hz⟩:=aF.get ⟨h1,h3⟩ h0;rw [Gg];cases hz with
     | iK=>exact bb.rel
     | iface t hw=>
      refine .program ?_;show ay L C _ β (nilAhead (L.types.size+Made.depth) t _ n >>= λr=>_) (nilAhead (C.types.size+Made.depth) t _ n >>= λr=>_);rw [H.Ot];refine (AN H _ t n hw).bd ?_;rintro iJ r r' cU hr';rw [show r'=r from hr'];by_cases hr:(r != some false)=true
      ·simp only [hr,if_true];exact ao
      ·simp only [hr,if_false];exact .pure (.value ((ax.func (.method n) h1 h2 h3 h4).mono cU))
     | hole ho hp=>cases z' <;> first | exact ho.elim | exact (bg.noI _ _ hp).elim | exact .pure (.value (.func (.method n) h1 h2 h3 h4))
     | _=>exact .pure (.value (.func (.method n) h1 h2 h3 h4))
  | iface t h=>exact .pure (.value (.iface t h))
  | agg h k=>exact .pure (.value (.agg h k))
  | tuple h k=>exact .pure (.value (.tuple h k))
  | hole h k=>cases u' <;> first | exact h.elim | exact .pure (.value (.hole h k)) | (rename_i a;cases a <;> first | exact h.elim | exact .pure (.value (.hole h k))) | (rename_i a _ _;cases a <;> first | exact h.elim | exact .pure (.value (.hole h k)))
 case binOp op t x y u=>
  refine ni ?_;refine (MN H op t x y ho.2.2 (mD x ho.1) (mD y ho.2.1)).bd ?_;rintro iJ z _ hl ⟨rfl, -⟩;exact TC H op t (λq=>(ho.2.2 q).1) ((mD x ho.1).mono hl) ((mD y ho.2.1).mono hl)
 case unOp op t x=>exact ni (Tv op (mD x ho))
 case convert s d x=>exact ni (ME s d H (mD x ho.1) ho.2.1 ho.2.2)
 case sliceToArrayPointer a x=>exact ni (MC H a ho.2 (mD x ho.1))
 case makeInterface t x=>exact ni (zI H t (mD x ho))
 case makeFunc fn xs ys=>
  cases fn <;> try exact False.elim ho
  exact ni (I5 (.func _ ho.2.2) (aF.map λx hx=>mD x (ho.1 x hx)) (aF.map λx hx=>mD x (ho.2.1 x hx)))
 case makeSlice t a b=>exact ni (Gu H t ho.2.2 (mD a ho.1) (mD b ho.2.1))
 case slice t x l h m=>exact ni (MB H t (mD x ho.1) (Jc l λy hy=>mD y (ho.2.1 y hy)) (Jc h λy hy=>mD y (ho.2.2.1 y hy)) (Jc m λy hy=>mD y (ho.2.2.2 y hy)))
 case fieldAddr s x i=>exact ni (MD H s i ho.2 (mD x ho.1))
 case indexAddr t a b=>exact ni (MA H t (mD a ho.1) (mD b ho.2))
 case index t a b=>exact ni (Tp H t (mD a ho.1) (mD b ho.2))
 case typeAssert x a b c=>exact ni (Eo H a b c ho.2 (mD x ho.1))
 case extract x i=>exact ni (Mz i (mD x ho))
 case call c=>
  refine (MP mD c o.type ho.1 ho.2.1 ho.2.2).bd ?_;rintro iJ d d' hl ⟨h1,h2⟩;exact GA H h1.target h2 h1.args
 case panic x=>exact aR.rel (aR.eh (Ja _))
end
end Go.Cx
namespace Go.Cx
open Go
section
variable[ba]
inductive cG(L C:Program):Code->Prop
 | skip:cG L C .skip
 | region (id:Nat) {ops:Array Oper} (draw:Bool):(∀o∈ops,I9 L C o.op)->cG L C (.region id ops draw)
 | seq {a b:Code}:cG L C a->cG L C b->cG L C (.seq a b)
 | cond {c:Operand} {a b:Code}:lz c->cG L C a->cG L C b->cG L C (.cond c a b)
 | block (id:Nat) {a:Code}:cG L C a->cG L C (.block id a)
 | loop {a:Code}:cG L C a->cG L C (.loop a)
 | rangeFunc {f:Operand} (ps:Array Tmp) {a b:Code}:lz f->cG L C a->cG L C b->cG L C (.rangeFunc f ps a b)
 | exit (id:Nat):cG L C (.exit id)
 | label (l:Nat):cG L C (.label l)
 | ret:cG L C .ret
end
variable[ba][aH][bg]
inductive qp(L C:Program)(β:Bj):Item->Item->Prop
 | code {c:Code}:cG L C c->qp L C β (.code c) (.code c)
 | inBlock (id:Nat):qp L C β (.inBlock id) (.inBlock id)
 | inLoop {c:Code}:cG L C c->qp L C β (.inLoop c) (.inLoop c)
 | inRegion {ops:Array Oper} (todo:List Nat):(∀o∈ops,I9 L C o.op)->qp L C β (.inRegion ops todo) (.inRegion ops todo)
 | mE {l l':Nat}:β l l'->qp L C β (.inRangeFunc l) (.inRangeFunc l')
 | lB {l l':Nat}:β l l'->qp L C β (.endRangeFunc l) (.endRangeFunc l')
 | beginRound:qp L C β .beginRound .beginRound
inductive pn(L C:Program)(β:Bj):List Item->List Item->Prop
 | nil:pn L C β [] []
 | cons {i i':Item} {k k':List Item}:qp L C β i i'->pn L C β k k'->pn L C β (i::k) (i'::k')
inductive nM(β:Bj):List Deferred->List Deferred->Prop
 | nil:nM β [] []
 | cons {r r':Nat} {l l':List Deferred}:β r r'->nM β l l'->nM β ({ target:= .collected r,args:= #[] }::l) ({ target:= .collected r',args:= #[] }::l')
inductive AP(β:Bj):Option Nat->Option Nat->Prop
 | none:AP β none none
 | some {l l':Nat}:β l l'->AP β (some l) (some l')
structure jE(L C:Program)(β:Bj)(a b:Frame):Prop where
 fn:b.fn=a.fn
 tmps:aF β a.tmps b.tmps
 todo:pn L C β a.todo b.todo
 defers:nM β a.defers b.defers
 mode:(a.mode= .run/\b.mode= .run)\/(a.mode= .returning/\b.mode= .returning/\a.roundOf=none)
 kind:a.kind= .normal/\b.kind= .normal
 round:AP β a.roundOf b.roundOf
 ym:a.roundOf=none-> ∃fn,L.funcs[a.fn]? =some fn/\C.funcs[a.fn]? =some fn
section
variable{L C:Program}{β γ:Bj}
omit [aH] [bg] in
theorem qp.mono(l:Le β γ){a b:Item}(h:qp L C β a b):qp L C γ a b:=by
 cases h with
 | code h=>exact .code h
 | inBlock id=>exact .inBlock id
 | inLoop h=>exact .inLoop h
 | inRegion t h=>exact .inRegion t h
 | mE h=>exact .mE (l _ _ h)
 | lB h=>exact .lB (l _ _ h)
 | beginRound=>exact .beginRound
omit [aH] [bg] in
theorem pn.mono(l:Le β γ){a b:List Item}(h:pn L C β a b):pn L C γ a b:=by
 induction h with
 | nil=>exact .nil
 | cons h _ ih=>exact .cons (h.mono l) ih
omit [ba] [aH] [bg] in
theorem nM.mono(l:Le β γ){a b:List Deferred}(h:nM β a b):nM γ a b:=by
 induction h with
 | nil=>exact .nil
 | cons h _ ih=>exact .cons (l _ _ h) ih
omit [ba] [aH] [bg] in
theorem nM.append{a b c d:List Deferred}(h:nM β a b)(k:nM β c d):nM β (a++c) (b++d):=by
 induction h with
 | nil=>exact k
 | cons h _ ih=>exact .cons h ih
omit [ba] [aH] [bg] in
theorem AP.mono(l:Le β γ){a b:Option Nat}(h:AP β a b):AP γ a b:=by
 cases h with
 | none=>exact .none
 | some h=>exact .some (l _ _ h)
omit [aH] in
theorem jE.mono(l:Le β γ){a b:Frame}(h:jE L C β a b):jE L C γ a b:=⟨h.fn,h.tmps.mono l,h.todo.mono l,h.defers.mono l,h.mode,h.kind,h.round.mono l,h.ym⟩
omit [aH] in
theorem uG:ax β undef undef:= .tuple rfl λi v v' h=>by simp at h
omit [aH] in
theorem aF.getD{x x':Array Value}(h:aF β x x')(i:Nat):ax β (x.getD i undef) (x'.getD i undef):=by
 cases hx:x[i]? with
 | none=>
  have h2:=h.none hx;have e1:x.getD i undef=undef:=by rw [qaj, hx];rfl
  have e2:x'.getD i undef=undef:=by rw [qaj, h2];rfl
  rw [e1,e2];exact uG
 | some v=>
  obtain ⟨v',h2,h3⟩:=h.get hx;have e1:x.getD i undef=v:=by rw [qaj, hx];rfl
  have e2:x'.getD i undef=v':=by rw [qaj, h2];rfl
  rw [e1,e2];exact h3
omit [aH] in
theorem jE.eval{a b:Frame}(h:jE L C β a b): ∀x,lz x->ax β (a.eval x) (b.eval x):=by
 intro x hx;cases x with
 | tmp t=>exact h.tmps.getD t
 | const v=>exact (show Plain v from hx).rel
 | global g=>exact hx.elim
 | func f=>exact .func (.func f hx) rfl rfl (λi v v' q=>by simp at q) (λi v v' q=>by simp at q)
omit [aH] [bg] in
theorem AQ(id:Nat){k k':List Item}(h:pn L C β k k'):(exitTo id k=none/\exitTo id k'=none)\/ ∃q q',exitTo id k=some q/\exitTo id k'=some q'/\pn L C β q q':=by
 induction h with
 | nil=>exact .inl ⟨rfl,rfl⟩
 | @cons i i' k k' hi hk ih=>
  cases hi with
  | inBlock id'=>
   unfold exitTo;by_cases hq:(id'==id)=true
   ·simp only [hq,if_true];exact .inr ⟨_,_,rfl,rfl,hk⟩
   ·simp only [hq,if_false];exact ih
  | _=>exact ih
omit [aH] in
theorem GB(ops:Array Oper){x x':Array Value}(h:aF β x x'):yielded ops x=yielded ops x':=by
 funext j;unfold yielded;cases (ops[j]?).bind (·.dst) with
 | none=>rfl
 | some d=>
  simp only [qa0];cases hx:x[d]? with
  | none=>rw [h.none hx]
  | some v=>
   obtain ⟨v',h2,h3⟩:=h.get hx;rw [h2];cases h3 with
   | hole ho _=>cases v' <;> first | rfl | exact ho.elim
   | _=>rfl
omit [aH] in
theorem jE.finish{a b:Frame}(h:jE L C β a b){v v':Value}(hv:ax β v v'):jE L C β (a.finish v) (b.finish v'):=by
 obtain ⟨h1,h2,h3,h4,h5,h6,h7,h8⟩:=h;obtain ⟨fn,tm,todo,df,md,kd,ro⟩:=a;obtain ⟨jN,Dd,tV,IH,Je,Gh,De⟩:=b;simp only at h1 h2 h3 h4 h5 h6 h7;cases h3 with
 | nil=>exact ⟨h1,h2, .nil,h4,h5,h6,h7,h8⟩
 | cons hi hk=>
  cases hi with
  | code h=>exact ⟨h1,h2, .cons (.code h) hk,h4,h5,h6,h7,h8⟩
  | inBlock id=>exact ⟨h1,h2, .cons (.inBlock id) hk,h4,h5,h6,h7,h8⟩
  | inLoop h=>exact ⟨h1,h2, .cons (.inLoop h) hk,h4,h5,h6,h7,h8⟩
  | @inRegion ops t h=>
   cases t with
   | nil=>exact ⟨h1,h2, .cons (.inRegion [] h) hk,h4,h5,h6,h7,h8⟩
   | cons i t=>
    refine ⟨h1, ?_, .cons (.inRegion t h) hk,h4,h5,h6,h7,h8⟩;show aF β (match (ops[i]?).bind (·.dst) with | some d=>tm.setIfInBounds d v | none=>tm) (match (ops[i]?).bind (·.dst) with | some d=>Dd.setIfInBounds d v' | none=>Dd);cases (ops[i]?).bind (·.dst) with
    | none=>exact h2
    | some d=>exact h2.set hv d
  | mE hl=>exact ⟨h1,h2, .cons (.lB hl) hk,h4,h5,h6,h7,h8⟩
  | lB hl=>exact ⟨h1,h2, .cons (.lB hl) hk,h4,h5,h6,h7,h8⟩
  | beginRound=>exact ⟨h1,h2,hk,h4,h5,h6,h7,h8⟩
end
end Go.Cx
namespace Go.Cx
open Go
variable[ba][aH][bg]
abbrev gJ(a:Frame)(cs:List Frame):Goroutine:={ frame:=a,callers:=cs,status:= .running,dying:=none }
structure PF(L C:Program)(Xs:FuncId->Prop):Prop where
 same: ∀f,ba.ok f->ba.th f-> ¬Xs f-> ∃(fn:Func) (c:Code),L.funcs[f]? =some fn/\C.funcs[f]? =some fn/\fn.body=some c/\cG L C c
 follows:C.follows .mixedOrders=L.follows .mixedOrders
 code: ∀c,aH.code c↔cG L C c
omit [ba] [aH] [bg] in
theorem GC{p:Program}{f:FuncId}{es:Array Event}{e:Event}(h:e∈seen p f es):e∈es:=by
 have key: ∀(l:List Event) (F:Bool×Array Event->Event->Bool×Array Event),(∀q x,(F q x).2=q.2\/(F q x).2=q.2.push x)-> ∀(q:Bool×Array Event) (e:Event),e∈(l.foldl F q).2->e∈q.2\/e∈l:=by
  intro l F hF
  induction l with
  | nil=>intro q e h;exact .inl h
  | cons x l ih=>
   intro q e h;rcases ih _ e h with h | h
   ·rcases hF q x with hq | hq
    ·rw [hq] at h;exact .inl h
    ·rw [hq] at h;rcases Array.mem_push.1 h with h | h
     ·exact .inl h
     ·exact .inr (by simp [h])
   ·exact .inr (by simp [h])
 unfold seen at h;simp only at h;rw [←Array.foldl_toList] at h;refine (key es.toList _ ?_ _ e h).elim (λh=> ?_) (λh=> ?_)
 rotate_left
 ·simp at h
 ·simpa using h
 ·rintro ⟨q1,q2⟩ x;split
  ·exact .inl rfl
  ·simp only;split
   ·exact .inl rfl
   ·exact .inr rfl
inductive cL(L C:Program)(β:Bj):List Frame->List Frame->Prop
 | one {a b:Frame}:jE L C β a b->a.roundOf=none->cL L C β [a] [b]
 | cons {a b:Frame} {k k':List Frame}:jE L C β a b->cL L C β k k'->cL L C β (a::k) (b::k')
omit [aH] in
theorem cL.mono{L C:Program}{β γ:Bj}(l:Le β γ){a b:List Frame}(h:cL L C β a b):cL L C γ a b:=by
 induction h with
 | one h hr=>exact .one (h.mono l) hr
 | cons h _ ih=>exact .cons (h.mono l) ih
omit [aH] in
theorem cL.swap{L C:Program}{β:Bj}{a b a2 b2:Frame}{k k':List Frame}(h:cL L C β (a::k) (b::k'))(hf:jE L C β a2 b2)(hr:a2.roundOf=a.roundOf):cL L C β (a2::k) (b2::k'):=by
 cases h with
 | one _ h2=>exact .one hf (hr.trans h2)
 | cons _ h=>exact .cons hf h
omit [aH] in
theorem cL.top{L C:Program}{β:Bj}{a b:Frame}{k k':List Frame}(h:cL L C β (a::k) (b::k')):jE L C β a b:=by
 cases h with
 | one h _=>exact h
 | cons h _=>exact h
omit [ba] [aH] [bg] in
theorem kS(a:Frame)(v:Value):(a.finish v).roundOf=a.roundOf:=by
 unfold Frame.finish;split <;> rfl
inductive K5(L C:Program)(Xs:FuncId->Prop)(β:Bj)(base nh:List Frame):Goroutine->Goroutine->Prop
 | on {a b:Frame} {k k':List Frame}:cL L C β (a::k) (b::k')->K5 L C Xs β base nh (gJ a (k++base)) (gJ b (k'++nh))
 | enter (f:FuncId) {x x':Array Value} {k k':List Frame}:Xs f->aF β x x'->cL L C β k k'->K5 L C Xs β base nh (gJ (Frame.enter L f x .normal) (k++base)) (gJ (Frame.enter C f x' .normal) (k'++nh))
omit [aH] in
theorem aF.rep{β:Bj}(n:Nat):aF β (Array.replicate n undef) (Array.replicate n undef):=by
 refine ⟨rfl,λi v v' h h'=> ?_⟩;rw [h] at h';cases h';rw [Array.getElem?_replicate] at h;split at h
 ·cases h;exact uG
 ·cases h
omit [aH] in
theorem oW{L C:Program}{β:Bj}{f:FuncId}{fn:Func}{c:Code}(h1:L.funcs[f]? =some fn)(h2:C.funcs[f]? =some fn)(h3:fn.body=some c)(h4:cG L C c){x x':Array Value}(hx:aF β x x'):jE L C β (Frame.enter L f x .normal) (Frame.enter C f x' .normal):=by
 unfold Frame.enter;rw [h1,h2];simp only [qac,qc7,qa0,h3, ←hx.1];exact ⟨rfl,hx.append (aF.rep _), .cons (.code h4) .nil, .nil, .inl ⟨rfl,rfl⟩,⟨rfl,rfl⟩, .none,λ_=>⟨fn,h1,h2⟩⟩
omit [aH] in
theorem MQ{L C:Program}{β:Bj}{l l':Nat}{f:FuncId}{ca cb:Code}(h1:cG L C ca)(h2:cG L C cb)(hl:β l l'){x x':Array Value}(hx:aF β x x'):jE L C β (Frame.round l f x ca cb .normal) (Frame.round l' f x' ca cb .normal):=
 ⟨rfl,hx, .cons (.code h1) (.cons .beginRound (.cons (.code h2) .nil)), .nil, .inl ⟨rfl,rfl⟩,⟨rfl,rfl⟩, .some hl,λq=>by cases q⟩
def cX(g:Goroutine):Prop:= ∃ch,g.frame.mode= .panicking ch
section
variable{L C:Program}{Xs:FuncId->Prop}{β:Bj}
omit [ba] [aH] [bg] in
theorem tW{es es1:Array Event}{t:GStep}{g:Goroutine}{w:World}(h:GStep.after es t= .go g w es1): ∃rX,t= .go g w rX:=by
 cases t <;> simp only [GStep.after] at h <;> cases h;exact ⟨_,rfl⟩
omit [ba] [aH] [bg] in
theorem oX(fr:Frame)(vs:List PanicEntry): ∃ch,(fr.raise vs).mode= .panicking ch:=by
 unfold Frame.raise;split
 ·exact ⟨_,rfl⟩
 ·exact ⟨_,rfl⟩
theorem MR(HP:gC L C)(HF:PF L C Xs){a b:Frame}{k k' base nh:List Frame}(fM:cL L C β (a::k) (b::k')){s s':Sem Next}(hs:ay L C mC β s s'){w W w1:World}{g1:Goroutine}{es:Array Event}
  (hw:cn β w W) (ht:iy w W) (h:stepG.apply L true a (k++base) none s w= .go g1 w1 es) (hp: ¬cX g1):
  ∃bS W1 wN Df,stepG.apply C true b (k'++nh) none s' W= .go wN W1 Df/\K5 L C Xs bS base nh g1 wN/\cn bS w1 W1/\mB β bS w w1 W W1/\ ∀e∈Df,tj bS w1 e:=by
 have ha:=fM.top;have GD:(a.kind== .early)=false:=by rw [ha.kind.1];rfl
 have yn:(b.kind== .early)=false:=by rw [ha.kind.2];rfl
 have kA:stepG.apply.match_1 (λ_=>CallKind) a.todo (λd resume saved tail=>CallKind.wrapped) (λx=>CallKind.normal)= .normal:=by
  have:=ha.todo;generalize a.todo=ta at this;generalize b.todo=tb at this;cases this with
  | nil=>rfl
  | cons hi _=>cases hi <;> rfl
 have kB:stepG.apply.match_1 (λ_=>CallKind) b.todo (λd resume saved tail=>CallKind.wrapped) (λx=>CallKind.normal)= .normal:=by
  have:=ha.todo;generalize a.todo=ta at this;generalize b.todo=tb at this;cases this with
  | nil=>rfl
  | cons hi _=>cases hi <;> rfl
 unfold stepG.apply at h ⊢;simp only [GD,yn,kA,kB,if_true,qa6,if_false] at h ⊢;rcases hR:s.runT L w #[] with ⟨r,tJ⟩
 rw [hR] at h;obtain ⟨rX,h⟩:=tW h;have bM:s.run L w=r:=by rw [←Sem.runT_fst L s w #[],hR]
 cases r with
 | halt hh w2=>
  exfalso;have zk:=(hs.AG hw bM).1;cases hh with
  | panic v=>cases h;exact hp (oX _ _)
  | stuck s=>cases h
  | unsupported u=>
   cases u with
   | initOrder g=>exact zk g rfl
   | _=>cases h
  | _=>exact zk.elim
 | ok n w2=>
  obtain ⟨n',W1,bS,Df,e1,e2,e3,e4,e5⟩:=hs.run #[] hw ht bM;rw [e1];simp only [Array.empty_append];have sU: ∀e∈seen C b.fn Df,tj bS w2 e:=λe he=>e5 e (GC he);cases e2 with
  | value hv=>
   cases h;exact ⟨bS,W1,_,_,rfl, .on ((fM.mono e4.le).swap ((ha.mono e4.le).finish hv) (kS _ _)),e3,e4,by simpa [GStep.after] using sU⟩
  | skip=>
   cases h;exact ⟨bS,W1,_,_,rfl, .on ((fM.mono e4.le).swap ((ha.mono e4.le).finish uG) (kS _ _)),e3,e4,by simpa [GStep.after] using sU⟩
  | enter f tk qm hx=>
   cases h;by_cases hX:Xs f
   ·exact ⟨bS,W1,_,_,rfl, .enter (k:=a::k) (k':=b::k') f hX hx (fM.mono e4.le),e3,e4,by simpa [GStep.after] using sU⟩
   ·obtain ⟨fn,c,g1,g2,g3,g4⟩:=HF.same f tk qm hX;exact ⟨bS,W1,_,_,rfl, .on (k:=a::k) (k':=b::k') (.cons (oW g1 g2 g3 g4 hx) (fM.mono e4.le)),e3,e4,by simpa [GStep.after] using sU⟩
  | round f ca cb hca hcb hl hx=>
   cases h;exact ⟨bS,W1,_,_,rfl, .on (k:=a::k) (k':=b::k') (.cons (MQ ((HF.code _).1 hca) ((HF.code _).1 hcb) hl hx) (fM.mono e4.le)),e3,e4,by simpa [GStep.after] using sU⟩
end
end Go.Cx
namespace Go.Cx
open Go
variable[ba][aH][bg]
section
variable{L C:Program}{β:Bj}
theorem GF{o o':Obj}(h:yh β o o'):ay L C (λβ (x x':Nat)=>β x x') β (newObj o) (newObj o'):=
 .new h λγ r r' hl hr=> .pure hr
theorem tX(fn:FuncId){x x':Array Value}(ps:Array Tmp){a b:Code}{o o':Option Nat}(hx:aF β x x')(ha:aH.code a)(hb:aH.code b)(ho:AP β o o'):
  ay L C (λβ (y y':Nat×List Deferred)=>β y.1 y'.1/\nM β y.2 y'.2) β (Instr.enterLoop fn x ps a b o) (Instr.enterLoop fn x' ps a b o'):=by
 unfold Instr.enterLoop;have tail: ∀{iJ:Bj} (d d':Nat) (m m':List Deferred),Le β iJ->iJ d d'->nM iJ m m'->ay L C (λβ (y y':Nat×List Deferred)=>β y.1 y'.1/\nM β y.2 y'.2) iJ
   (newObj (.loop { state:= .ready,pending:=none,fn,tmps:=x,params:=ps,assign:=a,body:=b,defers:=d }) >>= λq=>pure (q,m))
   (newObj (.loop { state:= .ready,pending:=none,fn,tmps:=x',params:=ps,assign:=a,body:=b,defers:=d' }) >>= λq=>pure (q,m')):=by
  intro iJ d d' m m' cU h1 h2;refine (GF (β:=iJ) (.loop (l:={ state:= .ready,pending:=none,fn,tmps:=x,params:=ps,assign:=a,body:=b,defers:=d }) (l':={ state:= .ready,pending:=none,fn,tmps:=x',params:=ps,assign:=a,body:=b,defers:=d' }) ⟨rfl,rfl,rfl,hx.mono cU,rfl,rfl,rfl,h1,ha,hb,λc h=>by cases h⟩)).bd ?_;intro qi l l' iq hl;exact .pure ⟨hl,h2.mono iq⟩
 cases ho with
 | none=>
  refine (GF (.Cn true)).bd λiJ r r' hl hr=> ?_;exact tail r r' _ _ hl hr (.cons hr .nil)
 | some hl=>
  refine (qX hl).bd λiJ r r' hl hr=> ?_;exact tail _ _ _ _ hl hr.defers .nil
theorem yo{l l':Nat}(h:β l l'){r r':Loop}(hr:I1 β r r'):ay L C (gb λ_=>True) β (setObj l (.loop r)) (setObj l' (.loop r')):=
 .setObj h (.loop hr) (λc e f q=>by cases q) (.pure ⟨rfl,trivial⟩)
theorem rY{l l':Nat}(h:β l l'):ay L C (λ_ _ _=>True) β (Instr.beginRound l) (Instr.beginRound l'):=by
 unfold Instr.beginRound;refine (qX h).bd ?_;intro iJ r r' cU hr;refine ay.bd (RA:=gb λ_=>True) (yo (cU _ _ h) ⟨rfl,hr.pending,hr.fn,hr.tmps,hr.params,hr.assign,hr.body,hr.defers,hr.ca,hr.cb,hr.cp⟩) ?_;intro qi _ _ iq _;rw [hr.state];cases r.state with
 | ready=>exact .pure trivial
 | _=>exact bb.rel
theorem vM{l l':Nat}(h:β l l')(j:Option Code)(hj: ∀c,j=some c->aH.code c):ay L C ax β (Instr.endRound l j) (Instr.endRound l' j):=by
 unfold Instr.endRound;refine (qX h).bd ?_;intro iJ r r' cU hr;refine ay.bd (RA:=gb λ_=>True) (yo (cU _ _ h) ⟨rfl,rfl,hr.fn,hr.tmps,hr.params,hr.assign,hr.body,hr.defers,hr.ca,hr.cb,hj⟩) ?_;intro qi _ _ iq _;exact .pure (.bool _)
theorem yp{l l':Nat}(h:β l l'):ay L C (gb λx=> ∀c,x=some c->aH.code c) β (Instr.endLoop l) (Instr.endLoop l'):=by
 unfold Instr.endLoop;refine (qX h).bd ?_;intro iJ r r' cU hr;rw [hr.state];split
 ·exact (aR.eh bb).rel
 ·refine ay.bd (RA:=gb λ_=>True) (yo (cU _ _ h) ⟨rfl,hr.pending,hr.fn,hr.tmps,hr.params,hr.assign,hr.body,hr.defers,hr.ca,hr.cb,hr.cp⟩) ?_;intro qi _ _ iq _;rw [hr.pending];exact .pure ⟨rfl,hr.cp⟩
theorem po{l l':Nat}(h:β l l'):ay L C (λ_ (x x':List Deferred)=>x=[]/\x'=[]) β (Instr.takeDeferred l) (Instr.takeDeferred l'):=by
 unfold Instr.takeDeferred;refine ay.bd (RA:=rV) (.getObj h λo o' ho=> .pure ho) ?_;intro iJ o o' cU ho;cases ho with
 | Cn b=>
  cases b with
  | false=>exact ao
  | true=>
   refine ay.bd (RA:=gb λ_=>True) (.setObj (cU _ _ h) (.Cn false) (λc e f q=>by cases q) (.pure ⟨rfl,trivial⟩)) ?_;intro qi _ _ iq _;exact .pure ⟨rfl,rfl⟩
 | _=>exact ao
omit [aH] in
theorem oz.array{l l':List Value}(h:oz β l l'):aF β l.toArray l'.toArray:=by
 have key: ∀{l l':List Value},oz β l l'->l.length=l'.length/\ ∀(i:Nat) (v v':Value),l[i]? =some v->l'[i]? =some v'->ax β v v':=by
  intro l l' h
  induction h with
  | nil=>exact ⟨rfl,λi v v' h=>by simp at h⟩
  | cons hv _ ih=>
   refine ⟨by simp [ih.1],λi u u' h h'=> ?_⟩;cases i with
   | zero=>simp at h h';subst h;subst h';exact hv
   | succ i=>simp at h h';exact ih.2 i u u' h h'
 obtain ⟨h1,h2⟩:=key h;exact ⟨by simpa using h1,λi v v' a b=>h2 i v v' (by simpa using a) (by simpa using b)⟩
theorem uH(H:gC L C)(fn:Func){x x':Array Value}(hx:aF β x x'):ay L C ax β (results fn x) (results fn x'):=by
 unfold results;refine ay.bd (RA:=aF) ?_ ?_
 ·rw [Array.mapM_eq_mapM_toList,Array.mapM_eq_mapM_toList];have key: ∀(l:List ResultVar) {β:Bj},aF β x x'->ay L C oz β (l.mapM fun | .tmp t=>pure (x.getD t undef) | .cell a t=>do loadVar t (←asAddr (x.getD a undef))) (l.mapM fun | .tmp t=>pure (x'.getD t undef) | .cell a t=>do loadVar t (←asAddr (x'.getD a undef))):=by
   intro l
   induction l with
   | nil=>intro β _;simp only [List.mapM_nil];exact .pure .nil
   | cons r l ih=>
    intro β hx;simp only [List.mapM_cons];refine ay.bd (RA:=ax) ?_ ?_
    ·cases r with
     | tmp t=>exact .pure (hx.getD t)
     | cell a t=>exact (wG (hx.getD a)).bd λiJ v v' hl hv=>uD H t hv
    ·intro iJ v v' cU hv;refine (ih (hx.mono cU)).bd ?_;intro qi vs vs' iq TE;exact .pure (.cons (hv.mono iq) TE)
  rw [map_eq_pure_bind,map_eq_pure_bind];refine (key fn.results.toList hx).bd ?_;intro iJ l l' hl hls;exact .pure hls.array
 ·intro iJ v v' hl hv;refine .pure ?_;by_cases h1:v.size=1
  ·have h2:v'.size=1:=hv.1▸h1;rw [dif_pos h1,dif_pos h2];exact hv.2 0 _ _ (Array.getElem?_eq_getElem (by omega)) (Array.getElem?_eq_getElem (by omega))
  ·have h2: ¬v'.size=1:=hv.1▸h1;rw [dif_neg h1,dif_neg h2];exact hv.Gp
end
end Go.Cx
namespace Go.Cx
open Go
variable[ba][aH][bg]
inductive Out(L C:Program)(Xs:FuncId->Prop)(t:Frame)(r bs':List Frame)(β:Bj)(g g':Goroutine):Prop
 | on:K5 L C Xs β (t::r) bs' g g'->Out L C Xs t r bs' β g g'
 | back {v v':Value} {t':Frame} {r':List Frame}:ax β v v'->g=gJ (t.finish v) r->bs'=t'::r'->g'=gJ (t'.finish v') r'->Out L C Xs t r bs' β g g'
def zL(L C:Program)(Xs:FuncId->Prop)(t:Frame)(r bs':List Frame)(β:Bj)(w W w1:World)(g1:Goroutine)(T:GStep):Prop:=
 ∃bS W1 wN Df,T= .go wN W1 Df/\Out L C Xs t r bs' bS g1 wN/\cn bS w1 W1/\mB β bS w w1 W W1/\ ∀e∈Df,tj bS w1 e
section
variable{L C:Program}{Xs:FuncId->Prop}{β:Bj}{t:Frame}{r bs':List Frame}{w W w1:World}{g1:Goroutine}
theorem Jf{β bS:Bj}{w2 W2:World}{es:Array Event}{T:GStep}(hT:mB β bS w w2 W W2)(he: ∀e∈es,tj bS w2 e)(h:zL L C Xs t r bs' bS w2 W2 w1 g1 T):zL L C Xs t r bs' β w W w1 g1 (GStep.after es T):=by
 obtain ⟨γ,W1,wN,Df,h1,h2,h3,h4,h5⟩:=h;subst h1;refine ⟨γ,W1,wN,es++Df,rfl,h2,h3,hT.trans h4,λe q=> ?_⟩;rcases qc6.1 q with q | q
 ·exact (he e q).nb h4
 ·exact h5 e q
theorem tY{α:Type}{RA:Bj->α->α->Prop}{s s':Sem α}(hs:ay L C RA β s s')(hw:cn β w W)(ht:iy w W){f f':FuncId}{F F':Result α->GStep}{es:Array Event}
  (h:GStep.after (seen L f (s.runT L w #[]).2) (F (s.runT L w #[]).1)= .go g1 w1 es) (hh: ∀q w2 rX,F (.halt q w2)= .go g1 w1 rX->False)
  (tk: ∀bS v v' w2 W2 rX,RA bS v v'->cn bS w2 W2->iy w2 W2->mB β bS w w2 W W2->F (.ok v w2)= .go g1 w1 rX->zL L C Xs t r bs' bS w2 W2 w1 g1 (F' (.ok v' W2))):
  zL L C Xs t r bs' β w W w1 g1 (GStep.after (seen C f' (s'.runT C W #[]).2) (F' (s'.runT C W #[]).1)):=by
 obtain ⟨rX,h⟩:=tW h;rw [Sem.runT_fst] at h;cases bM:s.run L w with
 | halt q w2=>rw [bM] at h;exact (hh _ _ _ h).elim
 | ok v w2=>
  rw [bM] at h;obtain ⟨v',W2,bS,Df,e1,e2,e3,e4,e5⟩:=hs.run #[] hw ht bM;rw [e1];refine Jf e4 (λe q=> ?_) (tk bS v v' w2 W2 rX e2 e3 (ht.nb e4) e4 h);simp only [Array.empty_append] at q;exact e5 e (GC q)
theorem qq{β:Bj}{T:GStep}{wN:Goroutine}(hT:T= .go wN W)(ho:Out L C Xs t r bs' β g1 wN)(hw:cn β w W):zL L C Xs t r bs' β w W w g1 T:=
 ⟨β,W,wN, #[],hT,ho,hw,mB.refl _ _ _,λe q=>by simp at q⟩
theorem K6{a b:Frame}{k k':List Frame}{m m':Bool}(fM:cL L C β (a::k) (b::k'))(Ov:bs'≠[]\/k≠[]){v v':Value}(hv:ax β v v')(hw:cn β w W){es:Array Event}
  (h:doReturn L m a (k++t::r) none v w= .go g1 w1 es):zL L C Xs t r bs' β w W w1 g1 (doReturn C m' b (k'++bs') none v' W):=by
 have ha:=fM.top;unfold doReturn at h ⊢;rw [ha.kind.1] at h;rw [ha.kind.2];cases fM with
 | one _ hr=>
  obtain ⟨t',r',rfl⟩: ∃t' r',bs'=t'::r':=by
   cases bs' with
   | nil=>rcases Ov with h | h <;> exact absurd rfl h
   | cons t' r'=>exact ⟨t',r',rfl⟩
  simp only [qb7] at h ⊢;cases h;exact qq rfl (.back hv rfl rfl rfl) hw
 | cons _ hk=>
  cases hk with
  | one h2 hr=>
   simp only [qbp,qb7] at h ⊢;cases h;exact qq rfl (.on (.on (k:=[]) (k':=[]) (.one (h2.finish hv) ((kS _ _).trans hr)))) hw
  | cons h2 hk=>
   simp only [qbp] at h ⊢;cases h;exact qq rfl (.on (.on (.cons (h2.finish hv) hk))) hw
end
end Go.Cx
namespace Go.Cx
open Go
variable[ba][aH][bg]
def Lv(p:Program)(main:Bool)(fr:Frame)(cs:List Frame)(w:World)(jump:Option Code):GStep:=
 match fr.roundOf with
 | none=>if jump matches none | some .ret then .go { frame:={ fr with mode:= .returning },callers:=cs,status:= .running,dying:=none } w else .ended (.stuck "exit, goto: no such block or label" (fr.pos p)) w
 | some l=>
  GStep.after (seen p fr.fn ((Instr.endRound l jump).runT p w #[]).2) <| match ((Instr.endRound l jump).runT p w #[]).1 with
  | .ok v w=>doReturn p main fr cs none v w
  | .halt _ w=> .ended (.stuck "range over a function: no such loop" (fr.pos p)) w
section
variable{L C:Program}{Xs:FuncId->Prop}{β:Bj}{t:Frame}{r bs':List Frame}{w W w1:World}{g1:Goroutine}
omit [ba] [aH] [bg] in
theorem Er(p:Program)(m:Bool)(a:Frame)(cs:List Frame)(w:World)(h:a.todo=[]):stepG.exec p m true a cs none w=Lv p m a cs w none:=by
 obtain ⟨fn,tm,todo,df,md,kd,ro⟩:=a;simp only at h;subst h;rfl
omit [ba] [aH] [bg] in
theorem Es(p:Program)(m:Bool)(a:Frame)(k:List Item)(cs:List Frame)(w:World)(h:a.todo= .code .ret::k):stepG.exec p m true a cs none w=Lv p m a cs w (some .ret):=by
 obtain ⟨fn,tm,todo,df,md,kd,ro⟩:=a;simp only at h;subst h;rfl
omit [ba] [aH] [bg] in
theorem Ah(p:Program)(m:Bool)(a:Frame)(id:Nat)(k:List Item)(cs:List Frame)(w:World)(h:a.todo= .code (.exit id)::k)(hx:exitTo id k=none):stepG.exec p m true a cs none w=Lv p m a cs w (some (.exit id)):=by
 obtain ⟨fn,tm,todo,df,md,kd,ro⟩:=a;simp only at h;subst h;unfold stepG.exec Lv;simp only [hx];rfl
omit [aH] in
theorem jE.aa2{a b:Frame}(h:jE L C β a b){x x':List Item}(hx:pn L C β x x'):jE L C β { a with todo:=x } { b with todo:=x' }:=⟨h.fn,h.tmps,hx,h.defers,h.mode,h.kind,h.round,h.ym⟩
omit [aH] in
theorem cL.todo{a b:Frame}{k k':List Frame}(h:cL L C β (a::k) (b::k')){x x':List Item}(hx:pn L C β x x'):cL L C β ({ a with todo:=x }::k) ({ b with todo:=x' }::k'):=h.swap (h.top.aa2 hx) rfl
theorem Jg(HF:PF L C Xs){a b:Frame}{k k':List Frame}{m m':Bool}(fM:cL L C β (a::k) (b::k'))(hm:a.mode= .run){j:Option Code}(hj: ∀c,j=some c->cG L C c)(hw:cn β w W)(ht:iy w W){es:Array Event}
  (h:Lv L m a (k++t::r) w j= .go g1 w1 es):zL L C Xs t r bs' β w W w1 g1 (Lv C m' b (k'++bs') W j):=by
 have ha:=fM.top;obtain ⟨fn,tm,todo,df,md,kd,ro⟩:=a;obtain ⟨jN,Dd,tV,IH,Je,Gh,De⟩:=b;have vN:=ha.round;simp only at vN hm;unfold Lv at h ⊢;cases vN with
 | none=>
  simp only at h ⊢;split at h
  all_goals first
   | (cases h;exact qq rfl (.on (.on (fM.swap ⟨ha.fn,ha.tmps,ha.todo,ha.defers, .inr ⟨rfl,rfl,rfl⟩,ha.kind,ha.round,ha.ym⟩ rfl))) hw)
   | (simp at h)
 | some hl=>
  simp only at h ⊢;refine tY (F:=λq=>match q with
   | .ok v w=>doReturn L m _ (k++t::r) none v w
   | .halt _ w=> .ended (.stuck "range over a function: no such loop" _) w) (F':=λq=>match q with
   | .ok v w=>doReturn C m' _ (k'++bs') none v w
   | .halt _ w=> .ended (.stuck "range over a function: no such loop" _) w) (vM hl j λc hc=>(HF.code c).2 (hj c hc)) hw ht h ?_ ?_
  ·intro q w2 rX h;cases h
  ·intro bS v v' w2 W2 rX hv tK ht2 hT h;refine K6 (fM.mono hT.le) (.inr λq=> ?_) hv tK h;subst q;cases fM with
   | one _ q=>cases q
   | cons _ q=>cases q
theorem vO(HP:gC L C)(HF:PF L C Xs){a b:Frame}{k k':List Frame}(fM:cL L C β (a::k) (b::k')){s s':Sem Next}(hs:ay L C mC β s s')(hw:cn β w W)(ht:iy w W){es:Array Event}
  (h:stepG.apply L true a (k++t::r) none s w= .go g1 w1 es) (hp: ¬cX g1):zL L C Xs t r bs' β w W w1 g1 (stepG.apply C true b (k'++bs') none s' W):=by
 obtain ⟨bS,W1,wN,Df,h1,h2,h3,h4,h5⟩:=MR HP HF fM hs hw ht h hp;exact ⟨bS,W1,wN,Df,h1, .on h2,h3,h4,h5⟩
end
end Go.Cx
namespace Go.Cx
open Go
variable[ba][aH][bg]
section
variable{L C:Program}{Xs:FuncId->Prop}{β:Bj}{t:Frame}{r bs':List Frame}{w W w1:World}{g1:Goroutine}
theorem Jh(HP:gC L C){ρ qU:Operand->Value}{f:Operand}{v v':Value}(hf:ax β (ρ f) (qU f))(hv:ax β (ρ (.const v)) (qU (.const v'))):
  ay L C mC β (do let d←resolve ρ { callee:= .value f,args:= #[.const v],argTypes:= #[] } 0;invoke d.target d.args) (do let d←resolve qU { callee:= .value f,args:= #[.const v'],argTypes:= #[] } 0;invoke d.target d.args):=by
 refine ay.bd (RA:=λβ (d d':Deferred)=>aa1 β d d'/\ ∀b ts u cs,d.target= .builtin b ts u cs->okB b=true/\ ∀ty∈ts,Mx L ty) ?_ ?_
 ·unfold resolve;have ha:aF β (#[Operand.const v].map ρ) (#[Operand.const v'].map qU):=by
   simp only [qbj,qb2,qbs];exact aF.one hv
  dsimp only;unfold Deferred.ofValue;generalize ρ f=u at hf;generalize qU f=u' at hf;cases hf with
  | func g a1 a2 a3 a4=>exact .pure ⟨⟨.fn g ⟨a2,a4⟩,aF.append ⟨a1,a3⟩ ha⟩,λb' ts u cs q=>by cases q⟩
  | pg=>exact .pure ⟨⟨.nil,ha⟩,λb' ts u cs q=>by cases q⟩
  | _=>exact ao
 ·intro iJ d d' hl ⟨h1,h2⟩;exact GA HP h1.target h2 h1.args
omit [ba] [aH] [bg] in
theorem Ai(p:Program)(a:Frame)(cs:List Frame)(w:World){o:Oper}(ho:a.oper? =some o)(hd: ∀c,o.op≠ .defer c):stepG.oper p true a cs none w=stepG.apply p true a cs none (execOp a.eval o) w:=by
 unfold stepG.oper;rw [ho];simp only;split
 ·rename_i q;exact absurd q (hd _)
 ·rfl
theorem O9(HP:gC L C)(HF:PF L C Xs){a b:Frame}{k k':List Frame}{m m':Bool}(fM:cL L C β (a::k) (b::k'))(hm:a.mode= .run)(hw:cn β w W)(ht:iy w W){es:Array Event}
  (h:stepG.exec L m true a (k++t::r) none w= .go g1 w1 es) (hp: ¬cX g1):zL L C Xs t r bs' β w W w1 g1 (stepG.exec C m' true b (k'++bs') none W):=by
 have ha:=fM.top;obtain ⟨fn,tm,todo,df,md,kd,ro⟩:=a;obtain ⟨jN,Dd,tV,IH,Je,Gh,De⟩:=b;have hT:=ha.todo;have yc:=ha.fn;simp only at hT hm yc;subst yc;have TF:Je= .run:=by rcases ha.mode with h | h;exact h.2;(rw [show md=_ from h.1] at hm;cases hm)
 subst hm;subst TF;have Ox: ∀{x x':List Item} {es:Array Event},pn L C β x x'->GStep.go { frame:={ fn:=jN,tmps:=tm,todo:=x,defers:=df,mode:= .run,kind:=kd,roundOf:=ro },callers:=k++t::r,status:= .running,dying:=none } w= .go g1 w1 es->
   zL L C Xs t r bs' β w W w1 g1 (GStep.go { frame:={ fn:=jN,tmps:=Dd,todo:=x',defers:=IH,mode:= .run,kind:=Gh,roundOf:=De },callers:=k'++bs',status:= .running,dying:=none } W):=by
  intro x x' es hx h;cases h;exact qq rfl (.on (.on (fM.todo hx))) hw
 cases hT with
 | nil=>
  rw [Er _ _ _ _ _ rfl] at h;rw [Er _ _ _ _ _ rfl];exact Jg HF fM rfl (λc h=>by cases h) hw ht h
 | @cons i_ i_' K K' hi hk=>
  cases hi with
  | inBlock id=>exact Ox hk h
  | inLoop hc=>exact Ox (.cons (.code hc) (.cons (.inLoop hc) hk)) h
  | mE hl=>cases h
  | beginRound=>
   have vN:=ha.round;simp only at vN;refine vO HP HF fM ?_ hw ht h hp;cases vN with
   | none=>exact (aR.eh aR.halt).rel
   | some hl=>exact (rY hl).bd λiJ _ _ hl _=> .pure .skip
  | @lB l l' hl=>
   refine tY (F:=λq=>match q with
     | .ok jump w=> .go { frame:={ fn:=jN,tmps:=tm,todo:=(jump.map Item.code).toList++_,defers:=df,mode:= .run,kind:=kd,roundOf:=ro },callers:=k++t::r,status:= .running,dying:=none } w
     | .halt (.panic v) w=> .go { frame:=Frame.raise _ [{ v,recovered:=false }],callers:=k++t::r,status:= .running,dying:=none } w
     | .halt _ w=> .ended (.stuck "range over a function: no such loop" _) w)
    (F':=λq=>match q with
     | .ok jump w=> .go { frame:={ fn:=jN,tmps:=Dd,todo:=(jump.map Item.code).toList++_,defers:=IH,mode:= .run,kind:=Gh,roundOf:=De },callers:=k'++bs',status:= .running,dying:=none } w
     | .halt (.panic v) w=> .go { frame:=Frame.raise _ [{ v,recovered:=false }],callers:=k'++bs',status:= .running,dying:=none } w
     | .halt _ w=> .ended (.stuck "range over a function: no such loop" _) w) (yp hl) hw ht h ?_ ?_
   ·intro q w2 rX h;cases q with
    | panic v=>cases h;exact hp (oX _ _)
    | _=>cases h
   ·intro bS v v' w2 W2 rX hv tK ht2 hT h;obtain ⟨rfl,hv⟩:=hv;cases h;refine qq rfl (.on (.on ((fM.mono hT.le).todo ?_))) tK;cases v with
    | none=>exact hk.mono hT.le
    | some c=>exact .cons (.code ((HF.code _).1 (hv c rfl))) (hk.mono hT.le)
  | @inRegion ops td ho=>
   cases td with
   | nil=>exact Ox hk h
   | cons i td=>
    simp only [stepG.exec] at h ⊢;rw [←GB ops ha.tmps];split at h
    ·rename_i hq;rw [if_pos hq];cases cM:ops[i]? with
     | none=>rw [cM] at hq;cases hq
     | some o=>
      have tk:=ho o (qb1 cM);have hd: ∀c,o.op≠ .defer c:=λc q=>by rw [q] at tk;exact tk
      rw [Ai _ _ _ _ (o:=o) (by simp only [Frame.oper?];exact cM) hd] at h;rw [Ai _ _ _ _ (o:=o) (by simp only [Frame.oper?];exact cM) hd];exact vO HP HF fM (Jd HP ha.eval o tk) hw ht h hp
    ·rename_i hq;rw [if_neg hq];cases h;exact qq rfl (.on (.on (fM.swap (ha.finish uG) (kS _ _)))) hw
  | code hc=>
   cases hc with
   | skip=>exact Ox hk h
   | label l=>exact Ox hk h
   | ret=>
    rw [Es _ _ _ _ _ _ rfl] at h;rw [Es _ _ _ _ _ _ rfl];exact Jg HF fM rfl (λc h=>by cases h;exact .ret) hw ht h
   | seq h1 h2=>exact Ox (.cons (.code h1) (.cons (.code h2) hk)) h
   | block id h1=>exact Ox (.cons (.code h1) (.cons (.inBlock id) hk)) h
   | loop h1=>exact Ox (.cons (.code h1) (.cons (.inLoop h1) hk)) h
   | exit id=>
    rcases AQ id hk with ⟨e1,e2⟩ | ⟨q,q',e1,e2,hq⟩
    ·rw [Ah _ _ _ id _ _ _ rfl e1] at h;rw [Ah _ _ _ id _ _ _ rfl e2];exact Jg HF fM rfl (λc h=>by cases h;exact .exit id) hw ht h
    ·simp only [stepG.exec,e1,Option.elim_some] at h;simp only [stepG.exec,e2,Option.elim_some];exact Ox hq h
   | @cond c x y hc h1 h2=>
    have he:=ha.eval c hc;simp only [stepG.exec] at h ⊢;revert h;generalize Frame.eval _ c=u at he;generalize Frame.eval _ c=u' at he;intro h;cases he with
    | bool q=>
     cases q with
     | true=>exact Ox (.cons (.code h1) hk) h
     | false=>exact Ox (.cons (.code h2) hk) h
    | _=>cases h
   | @region id ops draw ho=>
    cases draw with
    | false=>exact Ox (.cons (.inRegion _ ho) hk) h
    | true=>
     simp only [stepG.exec,qah,qa6,if_false] at h ⊢;rw [HF.follows];cases bM:(choose (.order jN id)).run L w with
     | halt q w2=>rw [bM] at h;cases h
     | ok n w2=>
      rw [bM] at h;have hs:ay L C (gb λ_=>True) β (choose (.order jN id)) (choose (.order jN id)):= .choose λn=> .pure ⟨rfl,trivial⟩;obtain ⟨n',W1,bS,Df,e1,⟨e2,_⟩,e3,e4,e5⟩:=hs.run #[] hw ht bM;have e6:(choose (.order jN id)).run C W= .ok n' W1:=by rw [←Sem.runT_fst C _ W #[],e1]
      rw [e6];subst e2;cases h;exact ⟨bS,W1,_, #[],rfl, .on (.on ((fM.mono e4.le).todo (.cons (.inRegion _ ho) (hk.mono e4.le)))),e3,e4,λe q=>by simp at q⟩
   | @rangeFunc f ps x y hf h1 h2=>
    refine tY (F:=λq=>match q with
      | .ok (l,mark) w=>stepG.apply L true { fn:=jN,tmps:=tm,todo:= .inRangeFunc l::_,defers:=mark++df,mode:= .run,kind:=kd,roundOf:=ro } (k++t::r) none (do let d←resolve (Frame.eval { fn:=jN,tmps:=tm,todo:= .inRangeFunc l::_,defers:=mark++df,mode:= .run,kind:=kd,roundOf:=ro }) { callee:= .value f,args:= #[.const (.func (.yield l) #[] #[])],argTypes:= #[] } 0;invoke d.target d.args) w
      | .halt _ w=> .ended (.stuck "range over a function: no such loop" _) w)
     (F':=λq=>match q with
      | .ok (l,mark) w=>stepG.apply C true { fn:=jN,tmps:=Dd,todo:= .inRangeFunc l::_,defers:=mark++IH,mode:= .run,kind:=Gh,roundOf:=De } (k'++bs') none (do let d←resolve (Frame.eval { fn:=jN,tmps:=Dd,todo:= .inRangeFunc l::_,defers:=mark++IH,mode:= .run,kind:=Gh,roundOf:=De }) { callee:= .value f,args:= #[.const (.func (.yield l) #[] #[])],argTypes:= #[] } 0;invoke d.target d.args) w
      | .halt _ w=> .ended (.stuck "range over a function: no such loop" _) w) (tX jN ps ha.tmps ((HF.code _).2 h1) ((HF.code _).2 h2) ha.round) hw ht h ?_ ?_
    ·intro q w2 rX h;cases h
    ·rintro bS ⟨l,mk⟩ ⟨l',mk'⟩ w2 W2 rX ⟨hl,hmk⟩ tK ht2 hT h;have qY:=ha.mono hT.le;have AR:cL L C bS ({ fn:=jN,tmps:=tm,todo:= .inRangeFunc l::K,defers:=mk++df,mode:= .run,kind:=kd,roundOf:=ro }::k) ({ fn:=jN,tmps:=Dd,todo:= .inRangeFunc l'::K',defers:=mk'++IH,mode:= .run,kind:=Gh,roundOf:=De }::k'):=
      (fM.mono hT.le).swap ⟨rfl,qY.tmps, .cons (.mE hl) (hk.mono hT.le),hmk.append qY.defers, .inl ⟨rfl,rfl⟩,ha.kind,qY.round,qY.ym⟩ rfl
     refine vO HP HF AR (Jh HP (AR.top.eval f hf) ?_) tK ht2 h hp;exact .func (.yield hl) rfl rfl (λi v v' q=>by simp at q) (λi v v' q=>by simp at q)
end
end Go.Cx
namespace Go.Cx
open Go
variable[ba][aH][bg]
section
variable{L C:Program}{Xs:FuncId->Prop}{β:Bj}{t:Frame}{r bs':List Frame}{w W w1:World}{g1:Goroutine}
theorem Ji(HP:gC L C){a b:Frame}{k k':List Frame}{m m':Bool}(fM:cL L C β (a::k) (b::k'))(Ov:bs'≠[]\/k≠[]\/a.defers≠[])(hm:a.mode= .returning)(hw:cn β w W)(ht:iy w W){es:Array Event}
  (h:unwind L m a (k++t::r) none w= .go g1 w1 es):zL L C Xs t r bs' β w W w1 g1 (unwind C m' b (k'++bs') none W):=by
 have ha:=fM.top;obtain ⟨fn,tm,todo,df,md,kd,ro⟩:=a;obtain ⟨jN,Dd,tV,IH,Je,Gh,De⟩:=b;have hD:=ha.defers;have yc:=ha.fn;simp only at hD hm yc;subst yc;subst hm;obtain ⟨TF,vN⟩:Je= .returning/\ro=none:=by rcases ha.mode with h | h;(cases h.1);exact ⟨h.2.1,h.2.2⟩
 subst TF;subst vN;unfold unwind at h ⊢;cases hD with
 | @cons q q' ds ds' hq hd=>
  simp only at h ⊢;refine tY (F:=λx=>match x with
    | .ok calls w=> .go { frame:={ fn:=jN,tmps:=tm,todo:=todo,defers:=calls++ds,mode:= .returning,kind:=kd,roundOf:=none },callers:=k++t::r,status:= .running,dying:=none } w
    | .halt _ w=> .ended (.stuck "the deferred calls of a range-over-func loop have been taken" _) w)
   (F':=λx=>match x with
    | .ok calls w=> .go { frame:={ fn:=jN,tmps:=Dd,todo:=tV,defers:=calls++ds',mode:= .returning,kind:=Gh,roundOf:=De },callers:=k'++bs',status:= .running,dying:=none } w
    | .halt _ w=> .ended (.stuck "the deferred calls of a range-over-func loop have been taken" _) w) (po hq) hw ht h ?_ ?_
  ·intro q w2 rX h;cases h
  ·rintro bS v v' w2 W2 rX ⟨rfl,rfl⟩ tK ht2 hT h;have qY:=ha.mono hT.le;cases h;exact qq rfl (.on (.on ((fM.mono hT.le).swap ⟨rfl,qY.tmps,qY.todo,hd.mono hT.le, .inr ⟨rfl,rfl,rfl⟩,ha.kind,qY.round,qY.ym⟩ rfl))) tK
 | nil=>
  simp only at h ⊢;obtain ⟨f,e1,e2⟩:=ha.ym rfl;simp only at e1 e2;rw [e1] at h;rw [e2];simp only at h ⊢;refine tY (F:=λx=>match x with
    | .ok v w=>doReturn L m { fn:=jN,tmps:=tm,todo:=todo,defers:=[],mode:= .returning,kind:=kd,roundOf:=none } (k++t::r) none v w
    | .halt (.stuck s) w=> .ended (.stuck s _) w
    | .halt _ w=> .ended (.stuck "return: the result variables cannot be read" _) w)
   (F':=λx=>match x with
    | .ok v w=>doReturn C m' { fn:=jN,tmps:=Dd,todo:=tV,defers:=[],mode:= .returning,kind:=Gh,roundOf:=De } (k'++bs') none v w
    | .halt (.stuck s) w=> .ended (.stuck s _) w
    | .halt _ w=> .ended (.stuck "return: the result variables cannot be read" _) w) (uH HP f ha.tmps) hw ht h ?_ ?_
  ·intro q w2 rX h;cases q <;> cases h
  ·rintro bS v v' w2 W2 rX hv tK ht2 hT h;exact K6 (fM.mono hT.le) (Ov.imp id λh=>h.resolve_right λq=>q rfl) hv tK h
theorem tZ(HP:gC L C)(HF:PF L C Xs){a b:Frame}{k k':List Frame}{m m':Bool}(fM:cL L C β (a::k) (b::k'))(Ov:bs'≠[]\/k≠[]\/a.mode= .run\/a.defers≠[])(hw:cn β w W)(ht:iy w W){es:Array Event}
  (h:stepG L m (gJ a (k++t::r)) w= .go g1 w1 es) (hp: ¬cX g1):zL L C Xs t r bs' β w W w1 g1 (stepG C m' (gJ b (k'++bs')) W):=by
 rcases fM.top.mode with ⟨m1,m2⟩ | ⟨m1,m2,_⟩
 ·unfold stepG gJ at h ⊢;simp only [m1,m2] at h ⊢;exact O9 HP HF fM m1 hw ht h hp
 ·unfold stepG gJ at h ⊢;simp only [m1,m2] at h ⊢;exact Ji HP fM (Ov.imp id λh=>h.imp id λh=>h.resolve_left λq=>by rw [m1] at q;cases q) m1 hw ht h
end
end Go.Cx
namespace Go.Cx
open Go
variable[ba][aH][bg]
abbrev TW(w:World)(τ:Tape):World:={ w with tape:=τ }
theorem ay.tape{Pl Pc:Program}{α:Type}{RA:Bj->α->α->Prop}{β:Bj}{s t:Sem α}(h:ay Pl Pc RA β s t): ∀{w W w1:World} {a:α},cn β w W->s.run Pl w= .ok a w1->
  (∃a' W1 bS,RA bS a a'/\cn bS w1 W1/\Le β bS)/\w.drawn<=w1.drawn/\w1.tape=w.tape/\(Dw w->Dw w1)/\ ∀τ:Tape,(∀j q,w.drawn<=j->j<w1.drawn->τ j q=w.tape j q)->s.run Pl (TW w τ)= .ok a (TW w1 τ):=by
 induction h with
 | pure ha=>
  intro w W w1 a hw hr;cases hr;exact ⟨⟨_,W,_,ha,hw,Le.refl _⟩,qa3 _,rfl,id,λτ _=>rfl⟩
 | @load β ad oa k k' Ge _ ih=>
  intro w W w1 a hw hr;simp only [Sem.run] at hr;cases hc:w.cell? ad with
  | none=>
   exfalso;obtain ⟨e,he⟩:=hw.aaO Ge.block Pl (Mode.plain==Mode.atomic);rw [hc] at hr;simp only [he] at hr;cases hr
  | some v=>
   rw [hc] at hr;obtain ⟨v',Gf,hvr⟩:=hw.cell Ge hc;obtain ⟨h1,h2,h3,hd,h4⟩:=ih v v' hvr hw hr;refine ⟨h1,h2,h3,hd,λτ oM=> ?_⟩;have Pa:(TW w τ).cell? ad=some v:=hc;simp only [Sem.run,Pa];exact h4 τ oM
 | @store β ad oa v v' k k' Ge hv _ ih=>
  intro w W w1 a hw hr;have wE:(∀c,v≠ .agg c)/\ ∀c,v≠ .tuple c:=by
   constructor
   ·rintro c rfl;cases hr
   ·rintro c rfl;cases hr
  have KZ: ∀w,(Sem.store .plain ad v k).run Pl w=(match w.cell? ad with
    | some _=>if w.frozen? ad then Result.halt (.unsupported (.unsafePointer "a write to bytes that a string shares")) w else k.run Pl (w.setCell ad v)
    | none=>match w.farStore Pl ad v (Mode.plain==Mode.atomic) with
     | .ok (w,_)=>k.run Pl w
     | .error h=> .halt h w):=by
   intro w;cases v <;> first | rfl | exact absurd rfl (wE.1 _) | exact absurd rfl (wE.2 _)
  rw [KZ] at hr;cases hc:w.cell? ad with
  | none=>
   exfalso;obtain ⟨e,he⟩:=hw.aaP Ge.block Pl v (Mode.plain==Mode.atomic);rw [hc] at hr;simp only [he] at hr;cases hr
  | some u=>
   rw [hc] at hr;simp only at hr;cases hf:w.frozen? ad with
   | true=>rw [hf] at hr;cases hr
   | false=>
    rw [hf] at hr;simp only [qa6,if_false] at hr;obtain ⟨_,hf',C8,hT,hE⟩:=vH hw Ge hv hc hf;obtain ⟨⟨a',W1,bS,g1,g2,g3⟩,h2,h3,hd,h4⟩:=ih C8 hr;refine ⟨⟨a',W1,bS,g1,g2,hT.le.trans g3⟩,h2,h3,λh=>hd (AI h),λτ oM=> ?_⟩;have Pa:(TW w τ).cell? ad=some u:=hc;have hf2:(TW w τ).frozen? ad=false:=hf;rw [KZ,Pa];simp only [hf2,qa6,if_false];exact h4 τ oM
 | @new β o o' k k' ho _ ih=>
  intro w W w1 a hw hr;obtain ⟨C8,hT⟩:=AH hw ho.o ho.no;obtain ⟨⟨a',W1,bS,g1,g2,g3⟩,h2,h3,hd,h4⟩:=ih _ w.heap.size W.heap.size hT.le (.inr ⟨rfl,rfl⟩) C8 hr;exact ⟨⟨a',W1,bS,g1,g2,hT.le.trans g3⟩,h2,h3,λh=>hd (Ei h ho.dw),h4⟩
 | @shape β r r' k k' hb _ ih=>
  intro w W w1 a hw hr;exact ih _ hw hr
 | @getObj β r r' k k' hb _ ih=>
  intro w W w1 a hw hr;obtain ⟨x,x',k1,k2,k3⟩:=hw.obj _ _ hb;simp only [Sem.run,k1] at hr;cases k3 with
  | cells e hc=>cases hr
  | lock e hc=>cases hr
  | @loop l l' hl=>
   obtain ⟨h1,h2,h3,hd,h4⟩:=ih (.loop l) (.loop l') (.loop hl) hw hr;exact ⟨h1,h2,h3,hd,λτ oM=>by simp only [Sem.run,k1];exact h4 τ oM⟩
  | @num ad oa lost ha=>
   obtain ⟨h1,h2,h3,hd,h4⟩:=ih _ _ (.num lost ha) hw hr;exact ⟨h1,h2,h3,hd,λτ oM=>by simp only [Sem.run,k1];exact h4 τ oM⟩
  | Cn b=>
   obtain ⟨h1,h2,h3,hd,h4⟩:=ih _ _ (.Cn b) hw hr;exact ⟨h1,h2,h3,hd,λτ oM=>by simp only [Sem.run,k1];exact h4 τ oM⟩
 | @setObj β r r' o o' k k' hb ho hn _ ih=>
  intro w W w1 a hw hr;obtain ⟨x,x',k1,k2,k3⟩:=hw.obj _ _ hb;have hx: ∀c e f,x≠ .cells c e f:=by
   rintro c e f rfl;simp only [Sem.run,k1] at hr;cases hr
  have KZ: ∀w:World,w.heap[r]? =some x->(Sem.setObj r o k).run Pl w=k.run Pl { w with heap:=w.heap.setIfInBounds r o }:=by
   intro w hk;simp only [Sem.run,hk]
  rw [KZ w k1] at hr;obtain ⟨_,C8,hT⟩:=tP hw hb ho.o k1 hx hn;obtain ⟨⟨a',W1,bS,g1,g2,g3⟩,h2,h3,hd,h4⟩:=ih C8 hr;exact ⟨⟨a',W1,bS,g1,g2,hT.le.trans g3⟩,h2,h3,λh=>hd (yj h ho.dw),λτ oM=>by rw [KZ (TW w τ) k1];exact h4 τ oM⟩
 | @choose β q k k' _ ih=>
  intro w W w1 a hw hr;simp only [Sem.run] at hr;split at hr
  ·rename_i hq;obtain ⟨h1,h2,h3,hd,h4⟩:=ih 0 hw hr;exact ⟨h1,h2,h3,hd,λτ oM=>by simp only [Sem.run,hq,if_true];exact h4 τ oM⟩
  ·rename_i hq;obtain ⟨h1,h2,h3,hd,h4⟩:=ih _ (hw.draw (w.drawn+1) W.drawn) hr;have II:w.drawn+1<=w1.drawn:=h2;refine ⟨h1,by omega,h3,λh=>hd h,λτ oM=> ?_⟩;simp only [Sem.run,hq,if_false];have h0:τ w.drawn q=w.tape w.drawn q:=oM _ _ (qa3 _) (by omega);show (k (q.cut (τ w.drawn q))).run Pl _=_;rw [h0];exact h4 τ λj q hj=>oM j q (by have:w.drawn+1<=j:=hj;omega)
 | program _ ih=>
  intro w W w1 a hw hr;exact ih hw hr
 | mark _ ih=>
  intro w W w1 a hw hr;exact ih hw hr
 | dead hd=>
  intro w W w1 a hw hr;exact absurd hr (hd.no _ _ _)
end Go.Cx
