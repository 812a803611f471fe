/- One program beside another, one goroutine among others. -/
import Derived.Test.YtbpbncjammigdaaGreatAl
import GoSem.Step
import Derived.Laws.Sem
import Derived.Calls
set_option linter.unusedVariables false
set_option linter.unusedSimpArgs false
set_option maxHeartbeats 4000000
namespace Go.Cx
open Go
class bq where
 ok:FuncId->Prop
 qu:FuncId->Prop
class aR where
 code:Code->Prop
class bs where
 hp:Value->Prop
 noI: ∀t w, ¬hp (.iface t w)
def Odd:Value->Prop
 | .bool _ | .int _ _ | .string _ | .agg _ | .pointer none | .slice none _ _ | .nilFunc | .nilIface | .func (.method _) _ _=>False
 | _=>True
variable[bq][aR][bs]
abbrev Bj:=Nat->Nat->Prop
def Le(β γ:Bj):Prop:= ∀a b,β a b->γ a b
omit [bq] [aR] [bs] in
theorem Le.refl(β:Bj):Le β β:=λ_ _ h=>h
omit [bq] [aR] [bs] in
theorem Le.trans{β γ δ:Bj}(h:Le β γ)(k:Le γ δ):Le β δ:=λa b x=>k a b (h a b x)
structure gR(β:Bj)(a a':Addr):Prop where
 block:β a.block a'.block
 off:a'.off=a.off
 spot:a'.spot=a.spot
omit [bq] [aR] [bs] in
theorem gR.mono{β γ:Bj}(l:Le β γ){a a':Addr}(h:gR β a a'):gR γ a a':=⟨l _ _ h.block,h.off,h.spot⟩
omit [bq] [aR] [bs] in
theorem gR.add{β:Bj}{a a':Addr}(h:gR β a a')(n:Nat):gR β (a.add n) (a'.add n):=by
 unfold Addr.add;by_cases hn:n=0
 ·simp only [hn,if_true];exact h
 ·simp only [hn,if_false];exact ⟨h.block,by simp [h.off],rfl⟩
inductive AM(β:Bj):Fn->Fn->Prop
 | func (f:FuncId):bq.ok f->AM β (.func f) (.func f)
 | yield {l l':Nat}:β l l'->AM β (.yield l) (.yield l')
 | method (n:String):AM β (.method n) (.method n)
omit [aR] [bs] in
theorem AM.mono{β γ:Bj}(l:Le β γ){f f':Fn}(h:AM β f f'):AM γ f f':=by
 cases h with
 | func f h=>exact .func f h
 | yield h=>exact .yield (l _ _ h)
 | method n=>exact .method n
inductive aF(β:Bj):Value->Value->Prop
 | bool (b:Bool):aF β (.bool b) (.bool b)
 | int (k:IntKind) (n:Int):aF β (.int k n) (.int k n)
 | string (s:ByteArray):aF β (.string s) (.string s)
 | mE:aF β (.pointer none) (.pointer none)
 | ptr {a a':Addr}:gR β a a'->aF β (.pointer (some a)) (.pointer (some a'))
 | jc (l c:Nat):aF β (.slice none l c) (.slice none l c)
 | slice {a a':Addr} (l c:Nat):gR β a a'->aF β (.slice (some a) l c) (.slice (some a') l c)
 | func {f f':Fn} {x x' y y':Array Value}:AM β f f'->x.size=x'.size->y.size=y'.size->(∀(i:Nat) (v v':Value),x[i]? =some v->x'[i]? =some v'->aF β v v')->(∀(i:Nat) (v v':Value),y[i]? =some v->y'[i]? =some v'->aF β v v')->
  aF β (.func f x y) (.func f' x' y')
 | ni:aF β .nilFunc .nilFunc
 | iface (t:TypeId) {v v':Value}:aF β v v'->aF β (.iface t v) (.iface t v')
 | gv:aF β .nilIface .nilIface
 | agg {x x':Array Value}:x.size=x'.size->(∀(i:Nat) (v v':Value),x[i]? =some v->x'[i]? =some v'->aF β v v')->aF β (.agg x) (.agg x')
 | tuple {x x':Array Value}:x.size=x'.size->(∀(i:Nat) (v v':Value),x[i]? =some v->x'[i]? =some v'->aF β v v')->aF β (.tuple x) (.tuple x')
 | hole {v':Value}:Odd v'->bs.hp v'->aF β (.tuple #[]) v'
omit [aR] in
theorem aF.mono{β γ:Bj}(l:Le β γ){v v':Value}(h:aF β v v'):aF γ v v':=by
 induction h with
 | bool b=>exact .bool b
 | int k n=>exact .int k n
 | string s=>exact .string s
 | mE=>exact .mE
 | ptr h=>exact .ptr (h.mono l)
 | jc n c=>exact .jc n c
 | slice n c h=>exact .slice n c (h.mono l)
 | func h h1 h2 _ _ i1 i2=>exact .func (h.mono l) h1 h2 i1 i2
 | ni=>exact .ni
 | iface t _ ih=>exact .iface t ih
 | gv=>exact .gv
 | agg h _ ih=>exact .agg h ih
 | tuple h _ ih=>exact .tuple h ih
 | hole h k=>exact .hole h k
def aQ(β:Bj)(x x':Array Value):Prop:=x.size=x'.size/\ ∀(i:Nat) (v v':Value),x[i]? =some v->x'[i]? =some v'->aF β v v'
omit [aR] in
theorem aQ.mono{β γ:Bj}(l:Le β γ){x x':Array Value}(h:aQ β x x'):aQ γ x x':=⟨h.1,λi v v' a b=>(h.2 i v v' a b).mono l⟩
omit [aR] in
theorem aQ.get{β:Bj}{x x':Array Value}(h:aQ β x x'){i:Nat}{v:Value}(hv:x[i]? =some v): ∃v',x'[i]? =some v'/\aF β v v':=by
 obtain ⟨hi,_⟩:=qa1.1 hv;have fa:i<x'.size:=h.1▸hi;exact ⟨x'[i],Array.getElem?_eq_getElem fa,h.2 i _ _ hv (Array.getElem?_eq_getElem fa)⟩
omit [aR] in
theorem aQ.none{β:Bj}{x x':Array Value}(h:aQ β x x'){i:Nat}(hv:x[i]? =none):x'[i]? =none:=by
 rw [Array.getElem?_eq_none_iff] at hv ⊢;rw [←h.1];exact hv
omit [aR] in
theorem aQ.empty{β:Bj}:aQ β #[] #[]:=⟨rfl,λi v v' h=>by simp at h⟩
omit [aR] in
theorem aQ.push{β:Bj}{x x':Array Value}{v v':Value}(h:aQ β x x')(hv:aF β v v'):aQ β (x.push v) (x'.push v'):=by
 refine ⟨by simp [h.1],λi u u' hu qT=> ?_⟩;rw [qbr] at hu qT;split at hu
 ·rename_i e;rw [if_pos (e.trans h.1)] at qT;cases hu;cases qT;exact hv
 ·rename_i e;rw [if_neg (by rw [←h.1];exact e)] at qT;exact h.2 i u u' hu qT
omit [aR] in
theorem aQ.append{β:Bj}{x x' y y':Array Value}(h:aQ β x x')(k:aQ β y y'):aQ β (x++y) (x'++y'):=by
 refine ⟨by simp [h.1,k.1],λi u u' hu qT=> ?_⟩;rw [Array.getElem?_append] at hu qT;split at hu
 ·rename_i e;rw [if_pos (by rw [←h.1];exact e)] at qT;exact h.2 i u u' hu qT
 ·rename_i e;rw [if_neg (by rw [←h.1];exact e), ←h.1] at qT;exact k.2 _ u u' hu qT
omit [aR] in
theorem aQ.set{β:Bj}{x x':Array Value}{v v':Value}(h:aQ β x x')(hv:aF β v v')(k:Nat):aQ β (x.setIfInBounds k v) (x'.setIfInBounds k v'):=by
 refine ⟨by simp [h.1],λi u u' hu qT=> ?_⟩;rw [qag] at hu qT;split at hu
 ·rename_i e;rw [if_pos e, ←h.1] at qT;split at hu
  ·rename_i e2;rw [if_pos e2] at qT;cases hu;cases qT;exact hv
  ·cases hu
 ·rename_i e;rw [if_neg e] at qT;exact h.2 i u u' hu qT
omit [aR] in
theorem aQ.extract{β:Bj}{x x':Array Value}(h:aQ β x x')(a b:Nat):aQ β (x.extract a b) (x'.extract a b):=by
 refine ⟨by simp [h.1],λi u u' hu qT=> ?_⟩;rw [Array.getElem?_extract] at hu qT;split at hu
 ·rename_i e;rw [if_pos (by rw [←h.1];exact e)] at qT;exact h.2 _ u u' hu qT
 ·cases hu
omit [aR] in
theorem aQ.one{β:Bj}{v v':Value}(h:aF β v v'):aQ β #[v] #[v']:=aQ.empty.push h
omit [aR] in
theorem aQ.EI{β:Bj}{x x':Array Value}(h:aQ β x x'):aF β (.agg x) (.agg x'):= .agg h.1 h.2
omit [aR] in
theorem aQ.HI{β:Bj}{x x':Array Value}(h:aQ β x x'):aF β (.tuple x) (.tuple x'):= .tuple h.1 h.2
omit [aR] in
theorem aF.cells{β:Bj}{v v':Value}(h:aF β v v'):aQ β v.cells v'.cells:=by
 cases h with
 | agg h k=>exact ⟨h,k⟩
 | bool b=>exact aQ.one (.bool b)
 | int k n=>exact aQ.one (.int k n)
 | string s=>exact aQ.one (.string s)
 | mE=>exact aQ.one .mE
 | ptr h=>exact aQ.one (.ptr h)
 | jc n c=>exact aQ.one (.jc n c)
 | slice n c h=>exact aQ.one (.slice n c h)
 | func h h1 h2 h3 h4=>exact aQ.one (.func h h1 h2 h3 h4)
 | ni=>exact aQ.one .ni
 | iface t h=>exact aQ.one (.iface t h)
 | gv=>exact aQ.one .gv
 | tuple h k=>exact aQ.one (.tuple h k)
 | @hole v' h k=>exact (show v'.cells= #[v'] by cases v' <;> first | rfl | exact h.elim)▸aQ.one (.hole h k)
omit [aR] in
theorem aQ.map{β:Bj}{α:Type}{xs:Array α}{f g:α->Value}(h: ∀x∈xs,aF β (f x) (g x)):aQ β (xs.map f) (xs.map g):=by
 refine ⟨by simp,λi u u' hu qT=> ?_⟩;rw [qc4] at hu qT;cases hx:xs[i]? with
 | none=>rw [hx] at hu;cases hu
 | some x=>rw [hx] at hu qT;cases hu;cases qT;exact h x (qb2 hx)
inductive Plain:Value->Prop
 | bool (b:Bool):Plain (.bool b)
 | int (k:IntKind) (n:Int):Plain (.int k n)
 | string (s:ByteArray):Plain (.string s)
 | mE:Plain (.pointer none)
 | jc (l c:Nat):Plain (.slice none l c)
 | ni:Plain .nilFunc
 | gv:Plain .nilIface
 | agg {x:Array Value}:(∀(i:Nat) (v:Value),x[i]? =some v->Plain v)->Plain (.agg x)
 | tuple {x:Array Value}:(∀(i:Nat) (v:Value),x[i]? =some v->Plain v)->Plain (.tuple x)
omit [aR] in
theorem Plain.rel{β:Bj}{v:Value}(h:Plain v):aF β v v:=by
 induction h with
 | bool b=>exact .bool b
 | int k n=>exact .int k n
 | string s=>exact .string s
 | mE=>exact .mE
 | jc n c=>exact .jc n c
 | ni=>exact .ni
 | gv=>exact .gv
 | agg _ ih=>exact .agg rfl λi v v' h h'=>by rw [h] at h';cases h';exact ih i v h
 | tuple _ ih=>exact .tuple rfl λi v v' h h'=>by rw [h] at h';cases h';exact ih i v h
structure Kq(β:Bj)(l l':Loop):Prop where
 state:l'.state=l.state
 pending:l'.pending=l.pending
 fn:l'.fn=l.fn
 tmps:aQ β l.tmps l'.tmps
 params:l'.params=l.params
 assign:l'.assign=l.assign
 body:l'.body=l.body
 defers:β l.defers l'.defers
 ca:aR.code l.assign
 cb:aR.code l.body
 cp: ∀c,l.pending=some c->aR.code c
theorem Kq.mono{β γ:Bj}(l:Le β γ){x x':Loop}(h:Kq β x x'):Kq γ x x':=⟨h.state,h.pending,h.fn,h.tmps.mono l,h.params,h.assign,h.body,l _ _ h.defers,h.ca,h.cb,h.cp⟩
inductive pJ(β:Bj):Obj->Obj->Prop
 | cells {c c':Array Value} (e:TypeId):aQ β c c'->pJ β (.cells c e) (.cells c' e)
 | lock {c c':Array Value} {f':Nat×Nat} (e:TypeId):aQ β c c'->pJ β (.cells c e (0,c.size+1)) (.cells c' e f')
 | loop {l l':Loop}:Kq β l l'->pJ β (.loop l) (.loop l')
 | num {a a':Addr} (lost:Bool):gR β a a'->pJ β (.number a lost) (.number a' lost)
 | z6 (b:Bool):pJ β (.deferred (if b then some [] else none)) (.deferred (if b then some [] else none))
theorem pJ.mono{β γ:Bj}(l:Le β γ){x x':Obj}(h:pJ β x x'):pJ γ x x':=by
 cases h with
 | cells e h=>exact .cells e (h.mono l)
 | lock e h=>exact .lock e (h.mono l)
 | loop h=>exact .loop (h.mono l)
 | num b h=>exact .num b (h.mono l)
 | z6 b=>exact .z6 b
inductive vG(β:Bj):Obj->Obj->Prop
 | cells {c c':Array Value} (e:TypeId):aQ β c c'->vG β (.cells c e) (.cells c' e)
 | loop {l l':Loop}:Kq β l l'->vG β (.loop l) (.loop l')
 | num {a a':Addr} (lost:Bool):gR β a a'->vG β (.number a lost) (.number a' lost)
 | z6 (b:Bool):vG β (.deferred (if b then some [] else none)) (.deferred (if b then some [] else none))
theorem vG.o{β:Bj}{x x':Obj}(h:vG β x x'):pJ β x x':=by
 cases h with
 | cells e h=>exact .cells e h
 | loop h=>exact .loop h
 | num b h=>exact .num b h
 | z6 b=>exact .z6 b
theorem vG.no{β:Bj}{x x':Obj}(h:vG β x x')(c:Array Value)(e:TypeId)(q:x= .cells c e (0,c.size+1)):False:=by
 cases h with
 | cells e h=>injection q with q1 q2 q3;simp at q3
 | loop h=>cases q
 | num b h=>cases q
 | z6 b=>cases q
end Go.Cx
namespace Go.Cx
open Go
variable[bq][aR][bs]
def Kr:Halt->Prop
 | .panic _ | .stuck _=>True
 | .unsupported u=> ∀g,u≠ .initOrder g
 | _=>False
def Mld(L:Program){α:Type}(s:Sem α):Prop:= ∀w h w1,s.run L w= .halt h w1->Kr h
def Dw(w:World):Prop:= ∀(r:Nat) (ds:List Deferred),w.heap[r]? =some (Obj.deferred (some ds))->ds=[]
structure bk(L:Program){α:Type}(s:Sem α):Prop where
 no: ∀w a w1,s.run L w≠ .ok a w1
 yz:Mld L s
 kp: ∀w h w1,Dw w->s.run L w= .halt h w1->Dw w1
omit [bq] [aR] [bs] in
theorem bk.ee{L:Program}{α γ:Type}{s:Sem α}{f:α->Sem γ}(h:bk L s):bk L (s >>= f):=by
 refine ⟨λw a w1 q=> ?_,λw hh w1 q=> ?_,λw hh w1 hd q=> ?_⟩
 ·rw [Sem.run_bind] at q;cases hs:s.run L w with
  | ok x w'=>exact h.no _ _ _ hs
  | halt hh w'=>rw [hs] at q;cases q
 ·rw [Sem.run_bind] at q;cases hs:s.run L w with
  | ok x w'=>exact (h.no _ _ _ hs).elim
  | halt hh w'=>rw [hs] at q;cases q;exact h.yz _ _ _ hs
 ·rw [Sem.run_bind] at q;cases hs:s.run L w with
  | ok x w'=>exact (h.no _ _ _ hs).elim
  | halt hh w'=>rw [hs] at q;cases q;exact h.kp _ _ _ hd hs
section
variable(Pl Pc:Program)
inductive aM{α:Type}(RA:Bj->α->α->Prop):Bj->Sem α->Sem α->Prop
 | pure {β:Bj} {a a':α}:RA β a a'->aM RA β (.pure a) (.pure a')
 | load {β:Bj} {a a':Addr} {k k':Value->Sem α}:gR β a a'->(∀v v',aF β v v'->aM RA β (k v) (k' v'))->aM RA β (.load .plain a k) (.load .plain a' k')
 | store {β:Bj} {a a':Addr} {v v':Value} {k k':Sem α}:gR β a a'->aF β v v'->aM RA β k k'->aM RA β (.store .plain a v k) (.store .plain a' v' k')
 | new {β:Bj} {o o':Obj} {k k':Nat->Sem α}:vG β o o'->(∀γ r r',Le β γ->γ r r'->aM RA γ (k r) (k' r'))->aM RA β (.new o k) (.new o' k')
 | shape {β:Bj} {r r':Nat} {k k':Option (TypeId×Nat)->Sem α}:β r r'->(∀s,aM RA β (k s) (k' s))->aM RA β (.shape r k) (.shape r' k')
 | getObj {β:Bj} {r r':Nat} {k k':Obj->Sem α}:β r r'->(∀o o',pJ β o o'->aM RA β (k o) (k' o'))->aM RA β (.getObj r k) (.getObj r' k')
 | setObj {β:Bj} {r r':Nat} {o o':Obj} {k k':Sem α}:β r r'->vG β o o'->(∀c e f,o≠ .cells c e f)->aM RA β k k'->aM RA β (.setObj r o k) (.setObj r' o' k')
 | choose {β:Bj} {q:Question} {k k':Nat->Sem α}:(∀n,aM RA β (k n) (k' n))->aM RA β (.choose q k) (.choose q k')
 | program {β:Bj} {k k':Program->Sem α}:aM RA β (k Pl) (k' Pc)->aM RA β (.program k) (.program k')
 | mark {β:Bj} {k k':Sem α}:aM RA β k k'->aM RA β (.mark .noRoom k) (.mark .noRoom k')
 | dead {β:Bj} {s t:Sem α}:bk Pl s->aM RA β s t
variable{Pl Pc}
theorem aM.bind{α γ:Type}{RA:Bj->α->α->Prop}{RB:Bj->γ->γ->Prop}{β:Bj}{s t:Sem α}{f g:α->Sem γ}(h:aM Pl Pc RA β s t)(k: ∀bV a a',Le β bV->RA bV a a'->aM Pl Pc RB bV (f a) (g a')):aM Pl Pc RB β (s.bind f) (t.bind g):=by
 induction h with
 | pure h=>exact k _ _ _ (Le.refl _) h
 | load ha _ ih=>exact .load ha λv v' hv=>ih v v' hv k
 | store ha hv _ ih=>exact .store ha hv (ih k)
 | new ho _ ih=>exact .new ho λγ r r' hl hr=>ih γ r r' hl hr λbV a a' om h=>k bV a a' (hl.trans om) h
 | shape hr _ ih=>exact .shape hr λs=>ih s k
 | getObj hr _ ih=>exact .getObj hr λo o' ho=>ih o o' ho k
 | setObj hr ho hn _ ih=>exact .setObj hr ho hn (ih k)
 | choose _ ih=>exact .choose λn=>ih n k
 | program _ ih=>exact .program (ih k)
 | mark _ ih=>exact .mark (ih k)
 | dead hd=>exact .dead (bk.ee hd)
theorem aM.imp{α:Type}{RA RB:Bj->α->α->Prop}{β:Bj}{s t:Sem α}(h:aM Pl Pc RA β s t)(k: ∀bV a a',Le β bV->RA bV a a'->RB bV a a'):aM Pl Pc RB β s t:=by
 induction h with
 | pure h=>exact .pure (k _ _ _ (Le.refl _) h)
 | load ha _ ih=>exact .load ha λv v' hv=>ih v v' hv k
 | store ha hv _ ih=>exact .store ha hv (ih k)
 | new ho _ ih=>exact .new ho λγ r r' hl hr=>ih γ r r' hl hr λbV a a' om h=>k bV a a' (hl.trans om) h
 | shape hr _ ih=>exact .shape hr λs=>ih s k
 | getObj hr _ ih=>exact .getObj hr λo o' ho=>ih o o' ho k
 | setObj hr ho hn _ ih=>exact .setObj hr ho hn (ih k)
 | choose _ ih=>exact .choose λn=>ih n k
 | program _ ih=>exact .program (ih k)
 | mark _ ih=>exact .mark (ih k)
 | dead h=>exact .dead h
end
structure cz(β:Bj)(w W:World):Prop where
 obj: ∀a b,β a b-> ∃o o',w.heap[a]? =some o/\W.heap[b]? =some o'/\pJ β o o'
 inj: ∀a a' b,β a b->β a' b->a=a'
 fn: ∀a b b',β a b->β a b'->b=b'
theorem cz.TZ{β:Bj}{w W:World}(h:cz β w W){a b:Nat}(hb:β a b):a<w.heap.size:=by
 obtain ⟨o,_,h1,_⟩:=h.obj a b hb;exact (qa1.1 h1).1
theorem cz.Py{β:Bj}{w W:World}(h:cz β w W){a b:Nat}(hb:β a b):b<W.heap.size:=by
 obtain ⟨_,o',_,h1,_⟩:=h.obj a b hb;exact (qa1.1 h1).1
def fw(β:Bj)(w:World)(b:Nat):Prop:= ∃a c e,β a b/\True/\w.heap[a]? =some (.cells c e (0,c.size+1))
def qv(β:Bj)(w:World)(e:Event):Prop:=
 (e.sync=false/\((∃ad a,e.loc= .cell ad/\β a ad.block/\(e.write=true-> ¬fw β w ad.block))\/(∃r a,e.loc= .obj r/\β a r/\ ¬fw β w r)))\/e=⟨.mark .noRoom,false,true⟩
structure kP(β bV:Bj)(w w1 W W1:World):Prop where
 le:Le β bV
 Mz:w1.tape=w.tape
 tape:W1.tape=W.tape
 os:W1.os=W.os
 output:W1.output=W.output
 vH:w.drawn<=w1.drawn
 drawn:W1.drawn=W.drawn+(w1.drawn - w.drawn)
 size:W.heap.size<=W1.heap.size
 HJ:w.heap.size<=w1.heap.size
 stay: ∀b,b<W.heap.size->(∀a, ¬β a b)->W1.heap[b]? =W.heap[b]?
 lock: ∀b,fw β w b->W1.heap[b]? =W.heap[b]?
 B6: ∀b,fw β w b->fw bV w1 b
 unlock: ∀b,(∃a,β a b)-> ¬fw β w b-> ¬fw bV w1 b
 fresh: ∀a b,bV a b->β a b\/(w.heap.size<=a/\W.heap.size<=b/\b<W1.heap.size/\ ¬fw bV w1 b)
 all: ∀b,W.heap.size<=b->b<W1.heap.size-> ∃a,bV a b
 ofs: ∀a b,bV a b->β a b\/a+W.heap.size=b+w.heap.size
 grow:w1.heap.size+W.heap.size=W1.heap.size+w.heap.size
 QS: ∀a,a<w.heap.size->(∀b, ¬β a b)->w1.heap[a]? =w.heap[a]?
omit [bq] [aR] [bs] in
theorem kP.refl(β:Bj)(w W:World):kP β β w w W W:=
 ⟨Le.refl _,rfl,rfl,rfl,rfl,qa3 _,by omega,qa3 _,qa3 _,λ_ _ _=>rfl,λ_ _=>rfl,λ_ h=>h,λ_ _ h=>h,λ_ _ h=> .inl h,λb h1 h2=>by omega,λ_ _ h=> .inl h,by omega,λ_ _ _=>rfl⟩
omit [bq] [aR] [bs] in
theorem kP.trans{β bV gA:Bj}{w w1 w2 W W1 W2:World}(h:kP β bV w w1 W W1)(k:kP bV gA w1 w2 W1 W2):kP β gA w w2 W W2 where
 le:=h.le.trans k.le
 Mz:=k.Mz.trans h.Mz
 tape:=k.tape.trans h.tape
 os:=k.os.trans h.os
 output:=k.output.trans h.output
 vH:=qac h.vH k.vH
 drawn:=by have:=h.drawn;have:=k.drawn;have:=h.vH;have:=k.vH;omega
 size:=qac h.size k.size
 HJ:=qac h.HJ k.HJ
 stay:=λb hb hn=>by
  have h1: ∀a, ¬bV a b:=λa ha=>by
   rcases h.fresh a b ha with hh | ⟨_,hh,_⟩
   ·exact hn a hh
   ·omega
  exact (k.stay b (qa4 hb h.size) h1).trans (h.stay b hb hn)
 lock:=λb hb=>(k.lock b (h.B6 b hb)).trans (h.lock b hb)
 B6:=λb hb=>k.B6 b (h.B6 b hb)
 unlock:=λb ⟨a,ha⟩ hn=>k.unlock b ⟨a,h.le a b ha⟩ (h.unlock b ⟨a,ha⟩ hn)
 fresh:=λa b lL=>by
  rcases k.fresh a b lL with hh | ⟨g1,g2,g3,g4⟩
  ·rcases h.fresh a b hh with h1 | ⟨h1,h2,h3,h4⟩
   ·exact .inl h1
   ·exact .inr ⟨h1,h2,qa4 h3 k.size,k.unlock b ⟨a,hh⟩ h4⟩
  ·exact .inr ⟨qac h.HJ g1,qac h.size g2,g3,g4⟩
 all:=λb h1 h2=>by
  by_cases hb:b<W1.heap.size
  ·obtain ⟨a,ha⟩:=h.all b h1 hb;exact ⟨a,k.le a b ha⟩
  ·exact k.all b (by omega) h2
 ofs:=λa b lL=>by
  have h1:=h.grow;rcases k.ofs a b lL with hh | hh
  ·exact h.ofs a b hh
  ·exact .inr (by omega)
 grow:=by have:=h.grow;have:=k.grow;omega
 QS:=λa ha hn=>by
  have h1: ∀b, ¬bV a b:=λb hb=>by
   rcases h.fresh a b hb with hh | ⟨hh,_⟩
   ·exact hn b hh
   ·omega
  exact (k.QS a (qa4 ha h.HJ) h1).trans (h.QS a ha hn)
omit [bq] [aR] [bs] in
theorem qv.lh{β bV:Bj}{w w1 W W1:World}{e:Event}(h:qv β w e)(k:kP β bV w w1 W W1):qv bV w1 e:=by
 obtain ⟨h0,⟨ad,a,h1,h2,h3⟩ | ⟨r,a,h1,h2,h3⟩⟩ | h:=h
 ·exact .inl ⟨h0, .inl ⟨ad,a,h1,k.le _ _ h2,λhw=>k.unlock _ ⟨a,h2⟩ (h3 hw)⟩⟩
 ·exact .inl ⟨h0, .inr ⟨r,a,h1,k.le _ _ h2,k.unlock _ ⟨a,h2⟩ h3⟩⟩
 ·exact .inr h
def gp(w W:World):Prop:= ∀(j:Nat) (q:Question),W.tape (W.drawn+j) q=w.tape (w.drawn+j) q
omit [bq] [aR] [bs] in
theorem gp.lh{β bV:Bj}{w w1 W W1:World}(h:gp w W)(k:kP β bV w w1 W W1):gp w1 W1:=λj q=>by
 have:=k.drawn;have:=k.vH;have e1:W1.drawn+j=W.drawn+((w1.drawn - w.drawn)+j):=by omega
 have e2:w1.drawn+j=w.drawn+((w1.drawn - w.drawn)+j):=by omega
 rw [k.tape,k.Mz,e1,e2];exact h _ q
omit [bq] [aR] [bs] in
theorem oP{w:World}{a:Addr}{v:Value}(h:w.cell? a=some v): ∃c e f,w.heap[a.block]? =some (.cells c e f)/\a.spot=none/\c[a.off]? =some v:=by
 unfold World.cell? at h;split at h
 ·rename_i c e f heq;split at h
  ·cases h
  ·rename_i hs;exact ⟨c,e,f,heq,by simpa using hs,h⟩
 ·cases h
omit [bq] [aR] [bs] in
theorem cell_of{w:World}{a:Addr}{v:Value}{c:Array Value}{e:TypeId}{f:Nat×Nat}(h:w.heap[a.block]? =some (.cells c e f))(hs:a.spot=none)(hc:c[a.off]? =some v):w.cell? a=some v:=by
 unfold World.cell?; rw [h];simp [hs,hc]
theorem cz.cell{β:Bj}{w W:World}(h:cz β w W){a a':Addr}(ha:gR β a a'){v:Value}(hv:w.cell? a=some v): ∃v',W.cell? a'=some v'/\aF β v v':=by
 obtain ⟨c,e,f,h1,h2,h3⟩:=oP hv;obtain ⟨o,o',k1,k2,k3⟩:=h.obj _ _ ha.block;rw [h1] at k1;cases k1;cases k3 with
 | cells e hc=>
  obtain ⟨v',g1,g2⟩:=hc.get h3;exact ⟨v',cell_of k2 (ha.spot.trans h2) (ha.off▸g1),g2⟩
 | lock e hc=>
  obtain ⟨v',g1,g2⟩:=hc.get h3;exact ⟨v',cell_of k2 (ha.spot.trans h2) (ha.off▸g1),g2⟩
omit [bq] [aR] [bs] in
theorem size_setCell{w:World}{a:Addr}{v:Value}:(w.setCell a v).heap.size=w.heap.size:=by simp [World.setCell]
omit [bq] [aR] [bs] in
theorem gw{w:World}{a:Addr}{v:Value}{b:Nat}(h:b≠a.block):(w.setCell a v).heap[b]? =w.heap[b]? :=by
 unfold World.setCell;simp only;rw [qbz,if_neg (λe=>h e.symm)]
omit [bq] [aR] [bs] in
theorem um{w:World}{a:Addr}{v:Value}{c:Array Value}{e:TypeId}{f:Nat×Nat}(h:w.heap[a.block]? =some (.cells c e f))(hs:a.spot=none):(w.setCell a v).heap[a.block]? =some (.cells (c.setIfInBounds a.off v) e f):=by
 unfold World.setCell;simp only;rw [qbz,if_pos rfl,h];simp [hs]
end Go.Cx
namespace Go.Cx
open Go
variable[bq][aR][bs]
theorem cz.UO{β:Bj}{w W:World}(h:cz β w W){a a' b b':Nat}(h1:β a b)(h2:β a' b'):a=a'↔b=b':=
 ⟨λe=>by subst e;exact h.fn _ _ _ h1 h2,λe=>by subst e;exact h.inj _ _ _ h1 h2⟩
theorem tl{β:Bj}{w W:World}(h:cz β w W){a a':Addr}{v v':Value}(ha:gR β a a')(hv:aF β v v'){u:Value}(hc:w.cell? a=some u)(hf:w.frozen? a=false):
  (∃u',W.cell? a'=some u')/\W.frozen? a'=false/\cz β (w.setCell a v) (W.setCell a' v')/\kP β β w (w.setCell a v) W (W.setCell a' v')/\qv β (w.setCell a v) ⟨.cell a',true,false⟩:=by
 obtain ⟨c,e,f,h1,h2,h3⟩:=oP hc;obtain ⟨o,o',k1,k2,k3⟩:=h.obj _ _ ha.block;rw [h1] at k1;cases k1;have bJ:=(qa1.1 h3).1;have DJ:a'.spot=none:=ha.spot.trans h2;cases k3 with
 | lock e hcc=>
  exfalso;unfold World.frozen? at hf;rw [h1] at hf;simp at hf;omega
 | @cells _ c' _ hcc=>
  have XH: ¬fw β w a'.block:=by
   rintro ⟨x,c2,e2,q1,q2,q3⟩;have:=h.inj _ _ _ q1 ha.block;subst this;rw [h1] at q3;injection q3 with q3
   injection q3 with q4 q5 q6
   simp at q6
  have ab4:=um (v:=v) h1 h2;have XI:=um (v:=v') k2 DJ;have afT: ∀x y,β x y-> ∃o o',(w.setCell a v).heap[x]? =some o/\(W.setCell a' v').heap[y]? =some o'/\pJ β o o':=by
   intro x y MA;by_cases hx:x=a.block
   ·subst hx;have:=h.fn _ _ _ MA ha.block;subst this;rw [ha.off] at XI;exact ⟨_,_,ab4,XI, .cells e (hcc.set hv _)⟩
   ·have hy:y≠a'.block:=λq=>hx ((h.UO MA ha.block).2 q);rw [gw hx,gw hy];exact h.obj x y MA
  have XJ: ∀b,fw β w b->b≠a'.block:=λb hb q=>XH (q▸hb);have de: ∀b,fw β (w.setCell a v) b↔fw β w b:=by
   intro b
   constructor
   ·rintro ⟨x,c2,e2,q1,q2,q3⟩;by_cases hx:x=a.block
    ·subst hx;rw [ab4] at q3;injection q3 with q3
     injection q3 with q4 q5 q6
     simp at q6
    ·exact ⟨x,c2,e2,q1,q2,(gw hx)▸q3⟩
   ·rintro ⟨x,c2,e2,q1,q2,q3⟩;have hb:=XJ b ⟨x,c2,e2,q1,q2,q3⟩;have hx:x≠a.block:=λq=>hb ((h.UO q1 ha.block).1 q);exact ⟨x,c2,e2,q1,q2,(gw hx).trans q3⟩
  refine ⟨?_, ?_,⟨afT,h.inj,h.fn⟩, ?_, .inl ⟨rfl, .inl ⟨a',a.block,rfl,ha.block,λ_ hl=>XH ((de _).1 hl)⟩⟩⟩
  ·obtain ⟨u',hu,_⟩:=h.cell ha hc;exact ⟨u',hu⟩
  ·unfold World.frozen?; rw [k2];simp
  ·refine ⟨Le.refl _,rfl,rfl,rfl,rfl,qa3 _,by show _=_+(w.drawn - w.drawn);simp [World.setCell],by rw [size_setCell];exact qa3 _,by rw [size_setCell];exact qa3 _, ?_, ?_,λb hb=>(de b).2 hb,λb _ hn hl=>hn ((de b).1 hl),λx y q=> .inl q,λb q1 q2=>by rw [size_setCell] at q2;omega,λx y q=> .inl q,by rw [size_setCell,size_setCell];omega,λx _ hn=>gw λq=>hn a'.block (q▸ha.block)⟩
   ·intro b _ hn;exact gw λq=>hn a.block (q▸ha.block)
   ·intro b hb;exact gw (XJ b hb)
theorem yA{β:Bj}{w W:World}(h:cz β w W){o o':Obj}(ho:pJ β o o')(QT: ∀c e,o= .cells c e (0,c.size+1)->False):
  cz (λa b=>β a b\/(a=w.heap.size/\b=W.heap.size)) { w with heap:=w.heap.push o } { W with heap:=W.heap.push o' }/\
  kP β (λa b=>β a b\/(a=w.heap.size/\b=W.heap.size)) w { w with heap:=w.heap.push o } W { W with heap:=W.heap.push o' }:=by
 have hle:Le β (λa b=>β a b\/(a=w.heap.size/\b=W.heap.size)):=λa b h=> .inl h;have pL: ∀x,x<w.heap.size->(w.heap.push o)[x]? =w.heap[x]? :=λx hx=>by rw [qbr,if_neg (by omega)]
 have pC: ∀x,x<W.heap.size->(W.heap.push o')[x]? =W.heap[x]? :=λx hx=>by rw [qbr,if_neg (by omega)]
 have nL:(w.heap.push o)[w.heap.size]? =some o:=by rw [qbr,if_pos rfl]
 have nC:(W.heap.push o')[W.heap.size]? =some o':=by rw [qbr,if_pos rfl]
 have YX: ∀b, ¬fw (λa b=>β a b\/(a=w.heap.size/\b=W.heap.size)) { w with heap:=w.heap.push o } b\/ ∃a,β a b:=by
  intro b;by_cases hb: ∃a,β a b
  ·exact .inr hb
  ·refine .inl ?_;rintro ⟨a,c,e,q1,q2,q3⟩;rcases q1 with q1 | ⟨rfl,rfl⟩
   ·exact hb ⟨a,q1⟩
   ·rw [nL] at q3;injection q3 with q3
    exact (QT c e q3).elim
 refine ⟨⟨?_, ?_, ?_⟩,⟨hle,rfl,rfl,rfl,rfl,qa3 _,by simp,by simp,by simp, ?_, ?_, ?_, ?_, ?_, ?_, ?_, ?_, ?_⟩⟩
 ·rintro a b (lL | ⟨rfl,rfl⟩)
  ·obtain ⟨x,x',h1,h2,h3⟩:=h.obj a b lL;exact ⟨x,x',(pL a (h.TZ lL)).trans h1,(pC b (h.Py lL)).trans h2,h3.mono hle⟩
  ·exact ⟨o,o',nL,nC,ho.mono hle⟩
 ·rintro a a' b (h1 | ⟨rfl,rfl⟩) (h2 | ⟨h3,h4⟩)
  ·exact h.inj _ _ _ h1 h2
  ·exact absurd (h.Py h1) (by rw [h4];exact qby _)
  ·exact absurd (h.Py h2) (qby _)
  ·exact h3.symm
 ·rintro a b b' (h1 | ⟨rfl,rfl⟩) (h2 | ⟨h3,h4⟩)
  ·exact h.fn _ _ _ h1 h2
  ·exact absurd (h.TZ h1) (by rw [h3];exact qby _)
  ·exact absurd (h.TZ h2) (qby _)
  ·exact h4.symm
 ·intro b hb _;exact pC b hb
 ·rintro b ⟨a,c,e,q1,q2,q3⟩;exact pC b (h.Py q1)
 ·rintro b ⟨a,c,e,q1,q2,q3⟩;exact ⟨a,c,e, .inl q1,q2,(pL a (h.TZ q1)).trans q3⟩
 ·rintro b ⟨a,ha⟩ hn ⟨x,c,e,q1,q2,q3⟩;rcases q1 with q1 | ⟨rfl,rfl⟩
  ·exact hn ⟨x,c,e,q1,q2,(pL x (h.TZ q1))▸q3⟩
  ·exact absurd (h.Py ha) (qby _)
 ·rintro a b (lL | ⟨rfl,rfl⟩)
  ·exact .inl lL
  ·refine .inr ⟨qa3 _,qa3 _,by simp, ?_⟩;rcases YX W.heap.size with hh | ⟨x,hx⟩
   ·exact hh
   ·exact absurd (h.Py hx) (qby _)
 ·intro b h1 h2;simp only [Array.size_push] at h2;exact ⟨w.heap.size, .inr ⟨rfl,by omega⟩⟩
 ·rintro a b (lL | ⟨rfl,rfl⟩)
  ·exact .inl lL
  ·exact .inr (by omega)
 ·simp only [Array.size_push];omega
 ·intro a ha _;exact pL a ha
theorem cz.draw{β:Bj}{w W:World}(h:cz β w W)(d D:Nat):cz β { w with drawn:=d } { W with drawn:=D }:=⟨h.obj,h.inj,h.fn⟩
theorem qU{β:Bj}{w W:World}(h:cz β w W){r r':Nat}{o o' p:Obj}(hr:β r r')(ho:pJ β o o')(hp:w.heap[r]? =some p)(hn: ∀c e f,p≠ .cells c e f)(QT: ∀c e f,o≠ .cells c e f):
  (∃p',W.heap[r']? =some p'/\(∀c e f,p'≠ .cells c e f)/\p'.isChan=false)/\cz β { w with heap:=w.heap.setIfInBounds r o } { W with heap:=W.heap.setIfInBounds r' o' }/\
  kP β β w { w with heap:=w.heap.setIfInBounds r o } W { W with heap:=W.heap.setIfInBounds r' o' }:=by
 obtain ⟨x,x',k1,k2,k3⟩:=h.obj _ _ hr;rw [hp] at k1;cases k1;have bJ:=h.TZ hr;have YQ:=h.Py hr;have sL:(w.heap.setIfInBounds r o)[r]? =some o:=by rw [qag,if_pos rfl,if_pos bJ]
 have sC:(W.heap.setIfInBounds r' o')[r']? =some o':=by rw [qag,if_pos rfl,if_pos YQ]
 have tL: ∀b,b≠r->(w.heap.setIfInBounds r o)[b]? =w.heap[b]? :=λb hb=>by rw [qag,if_neg λq=>hb q.symm]
 have tC: ∀b,b≠r'->(W.heap.setIfInBounds r' o')[b]? =W.heap[b]? :=λb hb=>by rw [qag,if_neg λq=>hb q.symm]
 have de: ∀b,fw β { w with heap:=w.heap.setIfInBounds r o } b↔fw β w b:=by
  intro b
  constructor
  ·rintro ⟨y,c,e,q1,q2,q3⟩;by_cases hy:y=r
   ·subst hy;rw [sL] at q3;injection q3 with q3
    exact absurd q3 (QT _ _ _)
   ·exact ⟨y,c,e,q1,q2,(tL y hy)▸q3⟩
  ·rintro ⟨y,c,e,q1,q2,q3⟩;by_cases hy:y=r
   ·subst hy;rw [hp] at q3;injection q3 with q3
    exact absurd q3 (hn _ _ _)
   ·exact ⟨y,c,e,q1,q2,(tL y hy).trans q3⟩
 refine ⟨?_,⟨?_,h.inj,h.fn⟩,⟨Le.refl _,rfl,rfl,rfl,rfl,qa3 _,by simp,by simp,by simp, ?_, ?_,λb hb=>(de b).2 hb,λb _ hh hl=>hh ((de b).1 hl),λ_ _ q=> .inl q,λb q1 q2=>by simp at q2;omega,λ_ _ q=> .inl q,by simp only [Array.size_setIfInBounds];omega,λa _ hn=>tL a λq=>hn r' (q▸hr)⟩⟩
 ·refine ⟨x',k2, ?_, ?_⟩
  ·cases k3 with
   | cells e hc=>exact absurd rfl (hn _ _ _)
   | lock e hc=>exact absurd rfl (hn _ _ _)
   | loop hl=>intro c e f q;cases q
   | num b h=>intro c e f q;cases q
   | z6 b=>intro c e f q;cases q
  ·cases k3 with
   | cells e hc=>rfl
   | lock e hc=>rfl
   | loop hl=>rfl
   | num b h=>rfl
   | z6 b=>rfl
 ·intro a b lL;by_cases ha:a=r
  ·subst ha;have:=h.fn _ _ _ lL hr;subst this;exact ⟨o,o',sL,sC,ho⟩
  ·have hb:b≠r':=λq=>ha ((h.UO lL hr).2 q);rw [tL a ha,tC b hb];exact h.obj a b lL
 ·intro b _ hb;exact tC b λq=>hb r (q▸hr)
 ·rintro b ⟨y,c,e,q1,q2,q3⟩;refine tC b λq=> ?_;have:=(h.UO q1 hr).2 q;subst this;rw [hp] at q3;injection q3 with q3
  exact absurd q3 (hn _ _ _)
omit [bq] [aR] [bs] in
theorem NT{β:Bj}{w W:World}(n:Nat):kP β β w { w with drawn:=w.drawn+n } W { W with drawn:=W.drawn+n }:=
 ⟨Le.refl _,rfl,rfl,rfl,rfl,Nat.le_add_right _ _,by simp,qa3 _,qa3 _,λ_ _ _=>rfl,λ_ _=>rfl,λ_ h=>h,λ_ _ h=>h,λ_ _ h=> .inl h,λb h1 h2=>by simp at h2;omega,λ_ _ h=> .inl h,by simp only [];omega,λ_ _ _=>rfl⟩
end Go.Cx
namespace Go.Cx
open Go
variable[bq][aR][bs]
theorem cz.XK{β:Bj}{w W:World}(h:cz β w W){a:Addr}{b:Nat}(hb:β a.block b)(p:Program)(m:Bool): ∃e,w.farLoad p a m= .error e/\Kr e:=by
 obtain ⟨o,o',k1,_,k3⟩:=h.obj _ _ hb;unfold World.farLoad World.noCell;rw [k1];cases k3 <;> exact ⟨_,rfl,trivial⟩
theorem cz.XL{β:Bj}{w W:World}(h:cz β w W){a:Addr}{b:Nat}(hb:β a.block b)(p:Program)(v:Value)(m:Bool): ∃e,w.farStore p a v m= .error e/\Kr e:=by
 obtain ⟨o,o',k1,_,k3⟩:=h.obj _ _ hb;unfold World.farStore World.noCell;rw [k1];cases k3 <;> exact ⟨_,rfl,trivial⟩
theorem cz.ab5{β:Bj}{w W:World}(h:cz β w W){a:Addr}{b:Nat}(hb:β a.block b)(p:Program)(m:Bool): ∃e,w.farLoad p a m= .error e:=let ⟨e,h,_⟩:=h.XK hb p m;⟨e,h⟩
theorem cz.ab6{β:Bj}{w W:World}(h:cz β w W){a:Addr}{b:Nat}(hb:β a.block b)(p:Program)(v:Value)(m:Bool): ∃e,w.farStore p a v m= .error e:=let ⟨e,h,_⟩:=h.XL hb p v m;⟨e,h⟩
omit [bq] [aR] [bs] in
theorem EJ{w:World}{o:Obj}(hd:Dw w)(ho: ∀ds,o= .deferred (some ds)->ds=[]):Dw { w with heap:=w.heap.push o }:=by
 intro r ds hr;rw [qbr] at hr;split at hr
 ·cases hr;exact ho ds rfl
 ·exact hd r ds hr
omit [bq] [aR] [bs] in
theorem vI{w:World}{r:Nat}{o:Obj}(hd:Dw w)(ho: ∀ds,o= .deferred (some ds)->ds=[]):Dw { w with heap:=w.heap.setIfInBounds r o }:=by
 intro r2 ds hr;simp only [qag] at hr;split at hr
 ·split at hr
  ·cases hr;exact ho ds rfl
  ·cases hr
 ·exact hd r2 ds hr
omit [bq] [aR] [bs] in
theorem yB{w:World}{a:Addr}{v:Value}(hd:Dw w):Dw (w.setCell a v):=by
 intro r ds hr;unfold World.setCell at hr;simp only [qbz] at hr;split at hr
 ·cases h:w.heap[r]? with
  | none=>rw [h] at hr;cases hr
  | some o=>
   rw [h] at hr;cases o <;> cases hr;exact hd r ds h
 ·exact hd r ds hr
theorem vG.dw{β:Bj}{o o':Obj}(h:vG β o o'): ∀ds,o= .deferred (some ds)->ds=[]:=by
 intro ds q;cases h with
 | z6 b=>cases b <;> cases q;rfl
 | _=>cases q
theorem cz.EK{β:Bj}{w W:World}(h:cz β w W){r r':Nat}{o:Obj}(hb:β r r')(ho:w.heap[r]? =some o)(hn: ∀c e f,o≠ .cells c e f): ¬fw β w r':=by
 rintro ⟨a,c,e,h1,h2,h3⟩;have:=h.inj _ _ _ h1 hb;subst this;rw [ho] at h3;injection h3 with h3
 exact hn _ _ _ h3
theorem aM.run{Pl Pc:Program}{α:Type}{RA:Bj->α->α->Prop}{β:Bj}{s t:Sem α}(h:aM Pl Pc RA β s t): ∀{w W w1:World} {a:α} (qH:Array Event),cz β w W->gp w W->s.run Pl w= .ok a w1->
  ∃a' W1 bV es,t.runT Pc W qH=(.ok a' W1,qH++es)/\RA bV a a'/\cz bV w1 W1/\kP β bV w w1 W W1/\ ∀e∈es,qv bV w1 e:=by
 induction h with
 | pure ha=>
  intro w W w1 a qH hw ht hr;cases hr;exact ⟨_,W,_, #[],by simp [Sem.runT],ha,hw,kP.refl _ _ _,by simp⟩
 | @load β ad lZ k k' GW _ ih=>
  intro w W w1 a qH hw ht hr;simp only [Sem.run] at hr;cases hc:w.cell? ad with
  | none=>
   exfalso;obtain ⟨e,he⟩:=hw.ab5 GW.block Pl (Mode.plain==Mode.atomic);rw [hc] at hr;simp only [he] at hr;cases hr
  | some v=>
   rw [hc] at hr;obtain ⟨v',GX,hvr⟩:=hw.cell GW hc;obtain ⟨a',W1,bV,es,h1,h2,h3,h4,h5⟩:=ih v v' hvr (qH.push ⟨.cell lZ,false,false⟩) hw ht hr;refine ⟨a',W1,bV, #[⟨.cell lZ,false,false⟩]++es, ?_,h2,h3,h4, ?_⟩
   ·simp only [Sem.runT,GX];rw [show (Mode.plain==Mode.atomic)=false from rfl,h1];simp
   ·intro e he;rcases qc8.1 he with he | he
    ·simp at he;subst he;exact qv.lh (β:=β) (w:=w) (.inl ⟨rfl, .inl ⟨lZ,ad.block,rfl,GW.block,λq=>by cases q⟩⟩) h4
    ·exact h5 e he
 | @store β ad lZ v v' k k' GW hv _ ih=>
  intro w W w1 a qH hw ht hr;have ua:(∀c,v≠ .agg c)/\ ∀c,v≠ .tuple c:=by
   constructor
   ·rintro c rfl;cases hr
   ·rintro c rfl;cases hr
  have bP:(match w.cell? ad with
    | some _=>if w.frozen? ad then Result.halt (.unsupported (.unsafePointer "a write to bytes that a string shares")) w else k.run Pl (w.setCell ad v)
    | none=>match w.farStore Pl ad v (Mode.plain==Mode.atomic) with
     | .ok (w,_)=>k.run Pl w
     | .error h=> .halt h w)= .ok a w1:=by
   cases v <;> first | exact hr | exact absurd rfl (ua.1 _) | exact absurd rfl (ua.2 _)
  cases hc:w.cell? ad with
  | none=>
   exfalso;obtain ⟨e,he⟩:=hw.ab6 GW.block Pl v (Mode.plain==Mode.atomic);rw [hc] at bP;simp only [he] at bP;cases bP
  | some u=>
   rw [hc] at bP;simp only at bP;cases hf:w.frozen? ad with
   | true=>rw [hf] at bP;cases bP
   | false=>
    rw [hf] at bP;simp only [qa7,if_false] at bP;obtain ⟨⟨u',qT⟩,hf',B7,hT,hE⟩:=tl hw GW hv hc hf;obtain ⟨a',W1,bV,es,h1,h2,h3,h4,h5⟩:=ih (qH.push ⟨.cell lZ,true,false⟩) B7 (ht.lh hT) bP;have ab7:(∀c,v'≠ .agg c)/\ ∀c,v'≠ .tuple c:=by
     constructor
     ·rintro c rfl;cases hv <;> first | exact ua.1 _ rfl | exact ua.2 _ rfl
     ·rintro c rfl;cases hv <;> exact ua.2 _ rfl
    refine ⟨a',W1,bV, #[⟨.cell lZ,true,false⟩]++es, ?_,h2,h3,hT.trans h4, ?_⟩
    ·have:(Sem.store .plain lZ v' k').runT Pc W qH=(match W.cell? lZ with
       | some _=>
        if W.frozen? lZ then (.halt (.unsupported (.unsafePointer "a write to bytes that a string shares")) W,qH)
        else k'.runT Pc (W.setCell lZ v') (qH.push ⟨.cell lZ,true,Mode.plain== .atomic⟩)
       | none=>match W.farStore Pc lZ v' (Mode.plain== .atomic) with
        | .ok (w,UP)=>k'.runT Pc w (qH++UP.toArray.map (⟨.cell ·,true,Mode.plain== .atomic⟩))
        | .error h=>(.halt h W,qH)):=by
      cases v' <;> first | rfl | exact absurd rfl (ab7.1 _) | exact absurd rfl (ab7.2 _)
     rw [this,qT];simp only [hf',qa7,if_false];rw [show (Mode.plain==Mode.atomic)=false from rfl,h1];simp
    ·intro e he;rcases qc8.1 he with he | he
     ·simp at he;subst he;exact hE.lh h4
     ·exact h5 e he
 | @new β o o' k k' ho _ ih=>
  intro w W w1 a qH hw ht hr;obtain ⟨B7,hT⟩:=yA hw ho.o ho.no;obtain ⟨a',W1,bV,es,h1,h2,h3,h4,h5⟩:=ih _ w.heap.size W.heap.size hT.le (.inr ⟨rfl,rfl⟩) qH B7 (ht.lh hT) hr;exact ⟨a',W1,bV,es,h1,h2,h3,hT.trans h4,h5⟩
 | @shape β r r' k k' hb _ ih=>
  intro w W w1 a qH hw ht hr;have:W.shape? r'=w.shape? r:=by
   obtain ⟨x,x',k1,k2,k3⟩:=hw.obj _ _ hb;unfold World.shape?;rw [k1,k2];cases k3 with
   | cells e hc=>simp [hc.1]
   | lock e hc=>simp [hc.1]
   | loop hl=>rfl
   | num b h=>rfl
   | z6 b=>rfl
  simp only [Sem.runT,this];exact ih _ qH hw ht hr
 | @getObj β r r' k k' hb _ ih=>
  intro w W w1 a qH hw ht hr;obtain ⟨x,x',k1,k2,k3⟩:=hw.obj _ _ hb;simp only [Sem.run,k1] at hr;cases k3 with
  | cells e hc=>cases hr
  | lock e hc=>cases hr
  | @loop l l' hl=>
   obtain ⟨a',W1,bV,es,h1,h2,h3,h4,h5⟩:=ih (.loop l) (.loop l') (.loop hl) (qH.push ⟨.obj r',false,false⟩) hw ht hr;refine ⟨a',W1,bV, #[⟨.obj r',false,false⟩]++es, ?_,h2,h3,h4, ?_⟩
   ·simp only [Sem.runT,k2];rw [show (Obj.loop l').isChan=false from rfl,h1];simp
   ·intro e he;rcases qc8.1 he with he | he
    ·simp at he;subst he;exact qv.lh (β:=β) (w:=w) (.inl ⟨rfl, .inr ⟨r',r,rfl,hb,hw.EK hb k1 (by intro c e f q;cases q)⟩⟩) h4
    ·exact h5 e he
  | @num ad lZ lost ha=>
   obtain ⟨a',W1,bV,es,h1,h2,h3,h4,h5⟩:=ih _ _ (.num lost ha) (qH.push ⟨.obj r',false,false⟩) hw ht hr;refine ⟨a',W1,bV, #[⟨.obj r',false,false⟩]++es, ?_,h2,h3,h4, ?_⟩
   ·simp only [Sem.runT,k2];rw [show (Obj.number lZ lost).isChan=false from rfl,h1];simp
   ·intro e he;rcases qc8.1 he with he | he
    ·simp at he;subst he;exact qv.lh (β:=β) (w:=w) (.inl ⟨rfl, .inr ⟨r',r,rfl,hb,hw.EK hb k1 (by intro c e f q;cases q)⟩⟩) h4
    ·exact h5 e he
  | z6 b=>
   obtain ⟨a',W1,bV,es,h1,h2,h3,h4,h5⟩:=ih _ _ (.z6 b) (qH.push ⟨.obj r',false,false⟩) hw ht hr;refine ⟨a',W1,bV, #[⟨.obj r',false,false⟩]++es, ?_,h2,h3,h4, ?_⟩
   ·simp only [Sem.runT,k2];rw [show (Obj.deferred (if b then some [] else none)).isChan=false from rfl,h1];simp
   ·intro e he;rcases qc8.1 he with he | he
    ·simp at he;subst he;exact qv.lh (β:=β) (w:=w) (.inl ⟨rfl, .inr ⟨r',r,rfl,hb,hw.EK hb k1 (by intro c e f q;cases q)⟩⟩) h4
    ·exact h5 e he
 | @setObj β r r' o o' k k' hb ho hn _ ih=>
  intro w W w1 a qH hw ht hr;obtain ⟨x,x',k1,k2,k3⟩:=hw.obj _ _ hb;have hx: ∀c e f,x≠ .cells c e f:=by
   rintro c e f rfl;simp only [Sem.run,k1] at hr;cases hr
  have hr':k.run Pl { w with heap:=w.heap.setIfInBounds r o }= .ok a w1:=by
   simp only [Sem.run,k1] at hr;cases x <;> first | exact hr | exact absurd rfl (hx _ _ _)
  obtain ⟨⟨p',g1,g2,g3⟩,B7,hT⟩:=qU hw hb ho.o k1 hx hn;have hc:o'.isChan=false:=by cases ho <;> rfl
  obtain ⟨a',W1,bV,es,h1,h2,h3,h4,h5⟩:=ih (qH.push ⟨.obj r',true,false⟩) B7 (ht.lh hT) hr';refine ⟨a',W1,bV, #[⟨.obj r',true,false⟩]++es, ?_,h2,h3,hT.trans h4, ?_⟩
  ·simp only [Sem.runT,g1];cases p' <;> first | exact absurd rfl (g2 _ _ _) | (simp only [hc,h1];simp)
  ·intro e he;rcases qc8.1 he with he | he
   ·simp at he;subst he;exact qv.lh (β:=β) (w:=w) (.inl ⟨rfl, .inr ⟨r',r,rfl,hb,hw.EK hb k1 hx⟩⟩) (hT.trans h4)
   ·exact h5 e he
 | @choose β q k k' _ ih=>
  intro w W w1 a qH hw ht hr;simp only [Sem.run] at hr;simp only [Sem.runT];split at hr
  ·rename_i hq;rw [if_pos hq];exact ih 0 qH hw ht hr
  ·rename_i hq;rw [if_neg hq];have hT:=NT (β:=β) (w:=w) (W:=W) 1;have h0:=ht 0 q;simp only [qcd] at h0;rw [h0];obtain ⟨a',W1,bV,es,h1,h2,h3,h4,h5⟩:=ih _ qH (hw.draw _ _) (ht.lh hT) hr;exact ⟨a',W1,bV,es,h1,h2,h3,hT.trans h4,h5⟩
 | program _ ih=>
  intro w W w1 a qH hw ht hr;exact ih qH hw ht hr
 | mark _ ih=>
  intro w W w1 a qH hw ht hr;obtain ⟨a',W1,bV,es,h1,h2,h3,h4,h5⟩:=ih (qH.push ⟨.mark .noRoom,false,true⟩) hw ht hr;refine ⟨a',W1,bV, #[⟨.mark .noRoom,false,true⟩]++es, ?_,h2,h3,h4, ?_⟩
  ·simp only [Sem.runT,h1];simp
  ·intro e he;rcases qc8.1 he with he | he
   ·simp at he;subst he;exact .inr rfl
   ·exact h5 e he
 | dead hd=>
  intro w W w1 a qH hw ht hr;exact absurd hr (hd.no _ _ _)
theorem aM.yz{Pl Pc:Program}{α:Type}{RA:Bj->α->α->Prop}{β:Bj}{s t:Sem α}(h:aM Pl Pc RA β s t): ∀{w W w1:World} {hh:Halt},cz β w W->s.run Pl w= .halt hh w1->Kr hh/\(Dw w->Dw w1):=by
 induction h with
 | pure ha=>intro w W w1 hh hw hr;cases hr
 | @load β ad lZ k k' GW _ ih=>
  intro w W w1 hh hw hr;simp only [Sem.run] at hr;cases hc:w.cell? ad with
  | none=>
   obtain ⟨e,he,hm⟩:=hw.XK GW.block Pl (Mode.plain==Mode.atomic);rw [hc] at hr;simp only [he] at hr;cases hr;exact ⟨hm,id⟩
  | some v=>
   rw [hc] at hr;obtain ⟨v',GX,hvr⟩:=hw.cell GW hc;exact ih v v' hvr hw hr
 | @store β ad lZ v v' k k' GW hv _ ih=>
  intro w W w1 hh hw hr;by_cases ua:(∀c,v≠ .agg c)/\ ∀c,v≠ .tuple c
  ·have MB:(Sem.store .plain ad v k).run Pl w=(match w.cell? ad with
     | some _=>if w.frozen? ad then Result.halt (.unsupported (.unsafePointer "a write to bytes that a string shares")) w else k.run Pl (w.setCell ad v)
     | none=>match w.farStore Pl ad v (Mode.plain==Mode.atomic) with
      | .ok (w,_)=>k.run Pl w
      | .error h=> .halt h w):=by
    cases v <;> first | rfl | exact absurd rfl (ua.1 _) | exact absurd rfl (ua.2 _)
   rw [MB] at hr;cases hc:w.cell? ad with
   | none=>
    obtain ⟨e,he,hm⟩:=hw.XL GW.block Pl v (Mode.plain==Mode.atomic);rw [hc] at hr;simp only [he] at hr;cases hr;exact ⟨hm,id⟩
   | some u=>
    rw [hc] at hr;simp only at hr;cases hf:w.frozen? ad with
    | true=>rw [hf] at hr;cases hr;exact ⟨λg q=>(by cases q),id⟩
    | false=>
     rw [hf] at hr;simp only [qa7,if_false] at hr;obtain ⟨_,hf',B7,hT,hE⟩:=tl hw GW hv hc hf;exact let ⟨h1,h2⟩:=ih B7 hr;⟨h1,λh=>h2 (yB h)⟩
  ·cases v <;> first | (cases hr;exact ⟨trivial,id⟩) | exact (ua ⟨λc q=>(by cases q),λc q=>(by cases q)⟩).elim
 | @new β o o' k k' ho _ ih=>
  intro w W w1 hh hw hr;obtain ⟨B7,hT⟩:=yA hw ho.o ho.no;exact let ⟨h1,h2⟩:=ih _ w.heap.size W.heap.size hT.le (.inr ⟨rfl,rfl⟩) B7 hr;⟨h1,λh=>h2 (EJ h ho.dw)⟩
 | @shape β r r' k k' hb _ ih=>
  intro w W w1 hh hw hr;exact ih _ hw hr
 | @getObj β r r' k k' hb _ ih=>
  intro w W w1 hh hw hr;obtain ⟨x,x',k1,k2,k3⟩:=hw.obj _ _ hb;simp only [Sem.run,k1] at hr;cases k3 with
  | cells e hc=>cases hr;exact ⟨trivial,id⟩
  | lock e hc=>cases hr;exact ⟨trivial,id⟩
  | @loop l l' hl=>exact ih (.loop l) (.loop l') (.loop hl) hw hr
  | @num ad lZ lost ha=>exact ih _ _ (.num lost ha) hw hr
  | z6 b=>exact ih _ _ (.z6 b) hw hr
 | @setObj β r r' o o' k k' hb ho hn _ ih=>
  intro w W w1 hh hw hr;obtain ⟨x,x',k1,k2,k3⟩:=hw.obj _ _ hb;by_cases hx: ∀c e f,x≠ .cells c e f
  ·have MB:(Sem.setObj r o k).run Pl w=k.run Pl { w with heap:=w.heap.setIfInBounds r o }:=by
    simp only [Sem.run,k1]
   rw [MB] at hr;obtain ⟨_,B7,hT⟩:=qU hw hb ho.o k1 hx hn;exact let ⟨h1,h2⟩:=ih B7 hr;⟨h1,λh=>h2 (vI h ho.dw)⟩
  ·cases k3 with
   | cells e hc=>simp only [Sem.run,k1] at hr;cases hr;exact ⟨trivial,id⟩
   | lock e hc=>simp only [Sem.run,k1] at hr;cases hr;exact ⟨trivial,id⟩
   | _=>exact (hx λc e f q=>by cases q).elim
 | @choose β q k k' _ ih=>
  intro w W w1 hh hw hr;simp only [Sem.run] at hr;split at hr
  ·exact ih 0 hw hr
  ·have:=ih _ (hw.draw (w.drawn+1) W.drawn) hr;exact ⟨this.1,λh=>this.2 h⟩
 | program _ ih=>intro w W w1 hh hw hr;exact ih hw hr
 | mark _ ih=>intro w W w1 hh hw hr;exact ih hw hr
 | dead hd=>intro w W w1 hh hw hr;exact ⟨hd.yz _ _ _ hr,λh=>hd.kp _ _ _ h hr⟩
end Go.Cx
namespace Go.Cx
open Go
variable[bq][aR][bs]
def T1(L:Program)(t:TypeId):Prop:= ∀i v,L.info? t=some i->i.zero=some v->Plain v
def NU(L:Program)(t:TypeId):Prop:= ∀e,L.underlying t=some (.slice e)->T1 L e
structure fx(L C:Program):Prop where
 info: ∀t,C.info? t=L.info? t
 und: ∀t,C.underlying t=L.underlying t
 Pz:C.types.size=L.types.size
 fns: ∀(f:FuncId) (fn:Func),L.funcs[f]? =some fn->fn.body.isNone=false->bq.qu f/\(fn.name== "runtime.NumGoroutine")=false/\ ∃iF:Func,C.funcs[f]? =some iF/\iF.body.isNone=false/\(iF.name== "runtime.NumGoroutine")=false
 gl:L.globals.size=0
 sih: ∀t,C.stoodInHeld t=L.stoodInHeld t
 cc: ∀(t:TypeId) (i:TypeInfo) (n:TypeId),L.info? t=some i->i.desc≠ .named "sync.copyChecker" n
 cab: ∀e n o k,cellAtBytes C C.depth e (n / C.cellsOf e) o k=cellAtBytes L L.depth e (n / L.cellsOf e) o k
 bof: ∀e off,C.cellsOf e=L.cellsOf e/\byteOfCell C C.depth e off=byteOfCell L L.depth e off/\C.bytesOf e=L.bytesOf e
 mp: ∀(t:TypeId) (i:TypeInfo) (m:Method),L.info? t=some i->m∈i.methods->m.path.toList=[]/\ ∀f b,m.func=some (f,b)->bq.ok f
 nob: ∀(f:FuncId) (fn:Func),L.funcs[f]? =some fn->fn.body.isNone=true-> ∀args,bk L (callFunc f args)
section
variable{L C:Program}{α γ:Type}
omit [bq] [aR] [bs] in
theorem bk.halt{h:Halt}(hm:Kr h:=by first | exact trivial | (intro g q;cases q)):bk L (.halt h:Sem α):=⟨λ_ _ _ q=>(by cases q),λ_ _ _ q=>(by cases q;exact hm),λ_ _ _ hd q=>(by cases q;exact hd)⟩
def Kp(L:Program){α:Type}(s:Sem α):Prop:= ∀w,Dw w->(∀a w1,s.run L w= .ok a w1->Dw w1)/\ ∀h w1,s.run L w= .halt h w1->Dw w1
class lk(L:Program){α:Type}(s:Sem α):Prop where
 out:Mld L s
 kp:Kp L s
instance(a:α):lk L (pure a:Sem α):=⟨λw h w1 q=>(by cases q),λw hd=>⟨λa w1 q=>(by cases q;exact hd),λh w1 q=>(by cases q)⟩⟩
instance:lk L program:=⟨λw h w1 q=>(by cases q),λw hd=>⟨λa w1 q=>(by cases q;exact hd),λh w1 q=>(by cases q)⟩⟩
instance eJ(s:Sem α)(f:α->Sem γ)[h1:lk L s][h2: ∀x,lk L (f x)]:lk L (s >>= f):=⟨λw h w1 q=>by
 rw [Sem.run_bind] at q;cases hs:s.run L w with
 | ok x w'=>rw [hs] at q;exact (h2 x).out _ _ _ q
 | halt hh w'=>rw [hs] at q;cases q;exact h1.out _ _ _ hs,λw hd=>by
 constructor
 ·intro a w1 q;rw [Sem.run_bind] at q;cases hs:s.run L w with
  | ok x w'=>rw [hs] at q;exact ((h2 x).kp w' ((h1.kp w hd).1 _ _ hs)).1 _ _ q
  | halt hh w'=>rw [hs] at q;cases q
 ·intro h w1 q;rw [Sem.run_bind] at q;cases hs:s.run L w with
  | ok x w'=>rw [hs] at q;exact ((h2 x).kp w' ((h1.kp w hd).1 _ _ hs)).2 _ _ q
  | halt hh w'=>rw [hs] at q;cases q;exact (h1.kp w hd).2 _ _ hs⟩
omit [bq] [aR] [bs] in
theorem gZ{s:Sem α}(h: ∀w,(∃a w1,s.run L w= .ok a w1/\w1.heap=w.heap)\/ ∃x,s.run L w= .halt (.stuck x) w):lk L s:=⟨λw hh w1 q=>by
 rcases h w with ⟨a,w2,h,_⟩ | ⟨x,h⟩
 ·rw [h] at q;cases q
 ·rw [h] at q;cases q;trivial,λw hd=>by
 rcases h w with ⟨a,w2,h,he⟩ | ⟨x,h⟩
 ·constructor
  ·intro a w1 q;rw [h] at q;cases q;intro r ds hr;rw [he] at hr;exact hd r ds hr
  ·intro hh w1 q;rw [h] at q;cases q
 ·constructor
  ·intro a w1 q;rw [h] at q;cases q
  ·intro hh w1 q;rw [h] at q;cases q;exact hd⟩
instance(t:TypeId):lk L (typeInfo t):=gZ λw=>by
 unfold typeInfo;rw [Sem.run_bind];change (∃a w1,Result.andThen (.ok L w) _=_/\_)\/ ∃x,Result.andThen (.ok L w) _=_;simp only [Result.andThen_ok];cases hi:L.info? t with
 | none=>exact .inr ⟨_,rfl⟩
 | some i=>exact .inl ⟨_,_,rfl,rfl⟩
instance(q:Question):lk L (choose q):=gZ λw=>by
 unfold choose;simp only [Sem.run];split
 ·exact .inl ⟨_,_,rfl,rfl⟩
 ·exact .inl ⟨_,_,rfl,rfl⟩
instance(f:α->γ)(s:Sem α)[h:lk L s]:lk L (f <$> s):=by
 rw [map_eq_pure_bind];infer_instance
instance(s:String):lk L (stuck s:Sem α):=gZ λw=> .inr ⟨_,rfl⟩
instance(r:Nat):lk L (shape r):=gZ λw=> .inl ⟨_,_,rfl,rfl⟩
instance(m:Mark):lk L (mark m):=gZ λw=> .inl ⟨_,_,rfl,rfl⟩
instance(r:Nat):lk L (getObj r):=gZ λw=>by
 unfold getObj;simp only [Sem.run];split
 ·exact .inr ⟨_,rfl⟩
 ·exact .inl ⟨_,_,rfl,rfl⟩
 ·exact .inr ⟨_,rfl⟩
instance(t:TypeId)(cs:Array Value):lk L (newRow t cs):=⟨λw h w1 q=>(by cases q),λw hd=>⟨λa w1 q=>(by cases q;exact EJ hd λds q=>(by cases q)),λh w1 q=>(by cases q)⟩⟩
instance(t:TypeId)(v:Value):lk L (newVar t v):=by unfold newVar;infer_instance
instance(t:TypeId):lk L (underlying t):=gZ λw=>by
 unfold underlying;rw [Sem.run_bind];change (∃a w1,Result.andThen (.ok L w) _=_/\_)\/ ∃x,Result.andThen (.ok L w) _=_;simp only [Result.andThen_ok];split
 ·exact .inl ⟨_,_,rfl,rfl⟩
 ·exact .inr ⟨_,rfl⟩
instance(t:TypeId):lk L (elemOf t):=by
 unfold elemOf;refine @eJ _ _ _ _ _ _ λd=> ?_;split <;> infer_instance
instance(r:Nat):lk L (numberAt r):=by
 unfold numberAt;refine @eJ _ _ _ _ _ _ λd=> ?_;split
 ·infer_instance
 ·refine @eJ _ _ _ _ _ _ λd=> ?_;split <;> infer_instance
instance(a:Addr):lk L (behindNumber a):=by unfold behindNumber;infer_instance
omit [bq] [aR] [bs] in
theorem bk.bind{s:Sem α}{f:α->Sem γ}[hm:lk L s](h: ∀x,bk L (f x)):bk L (s >>= f):=by
 refine ⟨λw a w1 q=> ?_,λw hh w1 q=> ?_,λw hh w1 hd q=> ?_⟩
 ·rw [Sem.run_bind] at q;cases hs:s.run L w with
  | ok x w'=>rw [hs] at q;exact (h x).no _ _ _ q
  | halt hh w'=>rw [hs] at q;cases q
 ·rw [Sem.run_bind] at q;cases hs:s.run L w with
  | ok x w'=>rw [hs] at q;exact (h x).yz _ _ _ q
  | halt hh w'=>rw [hs] at q;cases q;exact hm.out _ _ _ hs
 ·rw [Sem.run_bind] at q;cases hs:s.run L w with
  | ok x w'=>rw [hs] at q;exact (h x).kp _ _ _ ((hm.kp w hd).1 _ _ hs) q
  | halt hh w'=>rw [hs] at q;cases q;exact (hm.kp w hd).2 _ _ hs
omit [bq] [aR] [bs] in
theorem bE{e:RuntimeError}:bk L (runtimePanic e:Sem α):=by
 unfold runtimePanic;refine bk.bind λp=> ?_;cases e
 case typeAssertion=>exact bk.bind λ_=>bk.bind λ_=>bk.halt
 case panicNil=>exact bk.bind λ_=>bk.bind λ_=>bk.halt
 all_goals exact bk.halt
omit [bq] [aR] [bs] in
theorem bk.prog{f:Program->Sem α}(h:bk L (f L)):bk L (program >>= f):=⟨λw a w1 q=>h.no w a w1 q,λw hh w1 q=>h.yz w hh w1 q,λw hh w1 hd q=>h.kp w hh w1 hd q⟩
omit [bq] [aR] [bs] in
theorem QU(t:TypeId)(f:TypeInfo->Sem α)(w:World):(typeInfo t >>= f).run L w=match L.info? t with | none=>(typeInfo t >>= f).run L w | some i=>(f i).run L w:=by
 cases hi:L.info? t with
 | none=>rfl
 | some i=>
  rw [Sem.run_bind];unfold typeInfo;rw [Sem.run_bind];change Result.andThen (Result.andThen (.ok L w) _) _=_;simp only [Result.andThen_ok,hi]
  rfl
omit [bq] [aR] [bs] in
theorem bk.info{t:TypeId}{f:TypeInfo->Sem α}(h: ∀i,L.info? t=some i->bk L (f i)):bk L (typeInfo t >>= f):=by
 cases hi:L.info? t with
 | none=>
  refine bk.ee ⟨λw a w1 q=> ?_,(inferInstance:lk L (typeInfo t)).out,λw h w1 hd q=>((inferInstance:lk L (typeInfo t)).kp w hd).2 _ _ q⟩;unfold typeInfo at q;rw [Sem.run_bind] at q;change Result.andThen (.ok L w) _=_ at q;simp only [Result.andThen_ok,hi] at q;cases q
 | some i=>
  have hr: ∀w,(typeInfo t >>= f).run L w=(f i).run L w:=λw=>by rw [QU,hi]
  exact ⟨λw a w1 q=>(h i hi).no w a w1 (hr w▸q),λw hh w1 q=>(h i hi).yz w hh w1 (hr w▸q),λw hh w1 hd q=>(h i hi).kp w hh w1 hd (hr w▸q)⟩
omit [bq] [aR] [bs] in
theorem kq{k:IntKind}{x y:Int}{c:BoundsCode}:bk L (boundsPanic k x y c:Sem α):=by
 unfold boundsPanic;simp only;split
 ·exact bk.bind λ_=>bE
 ·exact bk.bind λ_=>bE
variable{RA RB:Bj->α->α->Prop}{β:Bj}
theorem az{h:Halt}{t:Sem α}(hm:Kr h:=by first | exact trivial | (intro g q;cases q)):aM L C RA β (.halt h) t:= .dead (bk.halt hm)
theorem bk.rel{s t:Sem α}(h:bk L s):aM L C RA β s t:= .dead h
theorem aM.bd{RG:Bj->γ->γ->Prop}{s t:Sem α}{f g:α->Sem γ}(h:aM L C RA β s t)(k: ∀bV a a',Le β bV->RA bV a a'->aM L C RG bV (f a) (g a')):aM L C RG β (s >>= f) (t >>= g):=aM.bind h k
def fR{α:Type}(P:α->Prop):Bj->α->α->Prop:=λ_ a a'=>a=a'/\P a
section
variable(H:fx L C)
include H
theorem jG(t:TypeId):aM L C (fR λi=>L.info? t=some i) β (typeInfo t) (typeInfo t):=by
 unfold typeInfo;refine .program ?_;show aM L C _ β (match L.info? t with | some i=>pure i | none=>stuck "no such type") (match C.info? t with | some i=>pure i | none=>stuck "no such type");rw [H.info];generalize h:L.info? t=o;cases o with
 | none=>exact az
 | some i=>exact .pure ⟨rfl,rfl⟩
theorem fI(t:TypeId):aM L C (fR λi=>L.underlying t=some i) β (underlying t) (underlying t):=by
 unfold underlying;refine .program ?_;show aM L C _ β (match L.underlying t with | some i=>pure i | none=>stuck "no such type") (match C.underlying t with | some i=>pure i | none=>stuck "no such type");rw [H.und];generalize h:L.underlying t=o;cases o with
 | none=>exact az
 | some i=>exact .pure ⟨rfl,rfl⟩
theorem Ks(t:TypeId)(JC:T1 L t):aM L C aF β (zeroValue t) (zeroValue t):=by
 unfold zeroValue;refine (jG H t).bd ?_;rintro bV i _ hl ⟨rfl,hi⟩;cases hz:i.zero with
 | none=>exact az
 | some v=>exact .pure (JC i v hi hz).rel
theorem fy(t:TypeId):aM L C (fR λ_=>True) β (sizeOf t) (sizeOf t):=by
 unfold sizeOf;refine (jG H t).bd ?_;rintro bV i _ hl ⟨rfl,hi⟩;exact .pure ⟨rfl,trivial⟩
theorem MC(t:TypeId):aM L C (fR λ_=>True) β (isAgg t) (isAgg t):=by
 unfold isAgg;refine (fI H t).bd ?_;rintro bV i _ hl ⟨rfl,hi⟩;cases i <;> exact .pure ⟨rfl,trivial⟩
omit H in
theorem QV{a a':Addr}(h:gR β a a'):aM L C aF β (load a) (load a'):= .load h λ_ _ hv=> .pure hv
omit H in
theorem UQ{a a':Addr}{v v':Value}(h:gR β a a')(hv:aF β v v'):aM L C (fR λ_=>True) β (store a v) (store a' v'):= .store h hv (.pure ⟨rfl,trivial⟩)
omit H in
theorem qm{a a':Addr}: ∀(n i:Nat) (acc UR:Array Value) {β:Bj},gR β a a'->aQ β acc UR->aM L C aQ β (loadCellsFrom a i n acc) (loadCellsFrom a' i n UR)
 | 0,i,acc,UR,β,h,k=> .pure k
 | n+1,i,acc,UR,β,h,k=>by
  unfold loadCellsFrom;refine (QV (h.add i)).bd ?_;intro bV v v' hl hv;exact qm n (i+1) _ _ (h.mono hl) ((k.mono hl).push hv)
omit H in
theorem wO{a a':Addr}(h:gR β a a')(n:Nat):aM L C aQ β (loadCells a n) (loadCells a' n):=qm n 0 _ _ h aQ.empty
inductive ml(β:Bj):List Value->List Value->Prop
 | nil:ml β [] []
 | cons {v v':Value} {l l':List Value}:aF β v v'->ml β l l'->ml β (v::l) (v'::l')
omit H in
omit [aR] in
theorem ml.mono{β γ:Bj}(l:Le β γ){x x':List Value}(h:ml β x x'):ml γ x x':=by
 induction h with
 | nil=>exact .nil
 | cons hv _ ih=>exact .cons (hv.mono l) ih
omit H in
omit [aR] in
theorem aQ.list{x x':Array Value}(h:aQ β x x'):ml β x.toList x'.toList:=by
 obtain ⟨h1,h2⟩:=h;obtain ⟨x⟩:=x;obtain ⟨x'⟩:=x';simp only [qbl] at h1;simp only [qaw] at h2;show ml β x x'
 induction x generalizing x' with
 | nil=>cases x' with
  | nil=>exact .nil
  | cons=>simp at h1
 | cons v l ih=>cases x' with
  | nil=>simp at h1
  | cons v' l'=>exact .cons (h2 0 v v' rfl rfl) (ih l' (by simpa using h1) λi u u' a b=>h2 (i+1) u u' a b)
omit H in
theorem mF{a a':Addr}: ∀{vs vs':List Value} (i:Nat) {β:Bj},gR β a a'->ml β vs vs'->aM L C (fR λ_=>True) β (storeCells a vs i) (storeCells a' vs' i)
 | _,_,i,β,h, .nil=> .pure ⟨rfl,trivial⟩
 | _,_,i,β,h, .cons hv hl=>by
  unfold storeCells;refine (UQ (h.add i) hv).bd ?_;intro bV u u' hle _;exact mF (i+1) (h.mono hle) (hl.mono hle)
theorem rT(t:TypeId){a a':Addr}(h:gR β a a'):aM L C aF β (loadVar t a) (loadVar t a'):=by
 unfold loadVar;refine (MC H t).bd ?_;rintro bV b _ hl ⟨rfl, -⟩;cases b with
 | true=>
  simp only [if_true];refine (fy H t).bd ?_;rintro gA n _ de ⟨rfl, -⟩;refine (wO ((h.mono hl).mono de) n).bd ?_;intro ov c c' ic hc;exact .pure hc.EI
 | false=>exact QV (h.mono hl)
theorem Kt(t:TypeId){a a':Addr}{v v':Value}(h:gR β a a')(hv:aF β v v'):aM L C (fR λ_=>True) β (storeVar t a v) (storeVar t a' v'):=by
 unfold storeVar;refine (fy H t).bd ?_;rintro bV n _ hl ⟨rfl, -⟩;have hc:=hv.cells;rw [←hc.1];split
 ·exact (bk.ee bk.halt).rel
 ·exact mF 0 (h.mono hl) (hc.mono hl).list
omit H in
theorem uo(e:TypeId){c c':Array Value}(h:aQ β c c'):aM L C gR β (newRow e c) (newRow e c'):=by
 unfold newRow newObj;exact .new (.cells e h) λγ r r' hl hr=> .pure ⟨hr,rfl,rfl⟩
omit H in
theorem HK(t:TypeId){v v':Value}(h:aF β v v'):aM L C gR β (newVar t v) (newVar t v'):=uo t h.cells
omit H in
theorem rU{v v':Value}(h:aF β v v'):aM L C (fR λx=>v= .int x.1 x.2) β (asIntOf v) (asIntOf v'):=by
 cases h with
 | int k n=>exact .pure ⟨rfl,rfl⟩
 | ptr h=>exact az
 | _=>exact az
omit H in
theorem pK{v v':Value}(h:aF β v v'):aM L C (fR λ_=>True) β (asInt v) (asInt v'):=by
 unfold asInt;refine (rU h).bd ?_;rintro bV x _ hl ⟨rfl, -⟩;exact .pure ⟨rfl,trivial⟩
omit H in
theorem QW{v v':Value}(h:aF β v v'):aM L C (fR λ_=>True) β (asBool v) (asBool v'):=by
 cases h with
 | bool b=>exact .pure ⟨rfl,trivial⟩
 | _=>exact az
omit H in
theorem nj{v v':Value}(h:aF β v v'):aM L C gR β (Instr.sureAddr v) (Instr.sureAddr v'):=by
 cases h with
 | ptr h=>exact .pure h
 | _=>exact az
omit H in
theorem uq{v v':Value}(h:aF β v v'):aM L C gR β (asAddr v) (asAddr v'):=by
 cases h with
 | ptr h=>exact .pure h
 | mE=>
  show aM L C gR β (runtimePanic .nilDeref) _;exact bE.rel
 | _=>exact az
end
end
end Go.Cx
namespace Go.Cx
open Go
variable[bq][aR][bs]
section
variable{L C:Program}{β:Bj}(H:fx L C)
include H
theorem US(e:TypeId)(JC:T1 L e):aM L C aF β (Instr.alloc e true (.tuple #[])) (Instr.alloc e true (.tuple #[])):=by
 unfold Instr.alloc;refine (Ks H e JC).bd ?_;intro bV v v' hl hv;refine (HK e hv).bd ?_;intro gA a a' de ha;exact .pure (.ptr ha)
omit H in
theorem ab8(e:TypeId){v v':Value}(hv:aF β v v'):aM L C aF β (Instr.box e v) (Instr.box e v'):=by
 unfold Instr.box;refine (HK e hv).bd ?_;intro gA a a' de ha;exact .pure (.ptr ha)
theorem QX(t:TypeId){v v':Value}(hv:aF β v v'):aM L C aF β (Instr.loadAt t v) (Instr.loadAt t v'):=by
 unfold Instr.loadAt;refine (nj hv).bd ?_;intro gA a a' de ha;exact rT H t ha
theorem NV(t:TypeId){v v' u u':Value}(hv:aF β v v')(hu:aF β u u'):aM L C (fR λ_=>True) β (Instr.storeAt t v u) (Instr.storeAt t v' u'):=by
 unfold Instr.storeAt;refine (nj hv).bd ?_;intro gA a a' de ha;exact Kt H t ha (hu.mono de)
omit H in
theorem NW(i:Nat){v v':Value}(hv:aF β v v'):aM L C aF β (Instr.extract v i) (Instr.extract v' i):=by
 cases hv with
 | @tuple x x' h k=>
  unfold Instr.extract;simp only;cases hx:x[i]? with
  | none=>exact az
  | some u=>
   obtain ⟨u',h1,h2⟩:=aQ.get ⟨h,k⟩ hx;rw [h1];exact .pure h2
 | _=>exact az
omit H in
theorem Ku{f f':Fn}{x x' y y':Array Value}(hf:AM β f f')(hx:aQ β x x')(hy:aQ β y y'):aM L C aF β (Instr.makeFunc f x y) (Instr.makeFunc f' x' y'):= .pure (.func hf hx.1 hy.1 hx.2 hy.2)
theorem xr(t:TypeId){v v':Value}(hv:aF β v v'):aM L C aF β (Instr.makeInterface t v) (Instr.makeInterface t v'):=by
 unfold Instr.makeInterface;refine (fI H t).bd ?_;rintro bV d _ hl ⟨rfl, -⟩;cases d <;> first | exact az | exact .pure (.iface t (hv.mono hl))
theorem Kv(t:TypeId){x x':Array Value}(hx:aQ β x x')(o:Nat):aM L C aF β (part t x o) (part t x' o):=by
 unfold part;refine (MC H t).bd ?_;rintro bV b _ hl ⟨rfl, -⟩;cases b with
 | true=>
  simp only [if_true];refine (fy H t).bd ?_;rintro gA n _ de ⟨rfl, -⟩;exact .pure (((hx.mono hl).mono de).extract _ _).EI
 | false=>
  simp only [qa7,if_false];cases hv:x[o]? with
  | none=>exact az
  | some u=>
   obtain ⟨u',h1,h2⟩:=(hx.mono hl).get hv;rw [h1];exact .pure h2
theorem UT(t:TypeId){v v' u u':Value}(hv:aF β v v')(hu:aF β u u'):aM L C aF β (Instr.index t v u) (Instr.index t v' u'):=by
 unfold Instr.index;refine (rU hu).bd ?_;rintro bV ⟨k,i⟩ _ hl ⟨rfl, -⟩;refine (fI H t).bd ?_;rintro gA d _ de ⟨rfl, -⟩;have th:=(hv.mono hl).mono de;cases d
 case array n e=>
  cases th with
  | agg h hk=>
   simp only;split
   ·refine (fy H e).bd ?_;rintro ov m _ ic ⟨rfl, -⟩;exact Kv H e (aQ.mono ic ⟨h,hk⟩) _
   ·exact kq.rel
  | _=>exact az
 case string=>
  cases th with
  | string s=>
   simp only;split
   ·exact .pure (.int _ _)
   ·exact kq.rel
  | _=>exact az
 all_goals (cases th <;> exact az)
theorem NX(t:TypeId){v v' u u':Value}(hv:aF β v v')(hu:aF β u u'):aM L C aF β (Instr.indexAt t v u) (Instr.indexAt t v' u'):=by
 unfold Instr.indexAt;refine (rU hu).bd ?_;rintro bV ⟨k,i⟩ _ hl ⟨rfl, -⟩;simp only;refine (fI H t).bd ?_;rintro gA d _ de ⟨rfl, -⟩;have th:=(hv.mono hl).mono de;cases d
 case array n e=>
  refine (nj th).bd ?_;intro ov a a' ic ha;refine aM.bd (RA:=λβ (x x':Option Addr×Nat×TypeId)=>x=(some a,n,e)/\x'=(some a',n,e)/\gR β a a') (.pure ⟨rfl,rfl,ha⟩) ?_;rintro sx _ _ nV ⟨rfl,rfl,ha4⟩;refine (fI H t).bd ?_;rintro MD d _ yC ⟨rfl, -⟩;simp only;split
  ·refine (fy H e).bd ?_;rintro PC m _ AN ⟨rfl, -⟩;exact .pure (.ptr (((ha4.mono yC).mono AN).add _))
  ·split <;> split <;> first | exact az | exact kq.rel
 case slice e=>
  cases th with
  | jc n c=>
   refine aM.bd (RA:=λβ (x x':Option Addr×Nat×TypeId)=>x=(none,n,e)/\x'=(none,n,e)) (.pure ⟨rfl,rfl⟩) ?_;rintro sx _ _ nV ⟨rfl,rfl⟩;refine (fI H t).bd ?_;rintro MD d _ yC ⟨rfl, -⟩;exact kq.rel
  | @slice a a' n c ha=>
   refine aM.bd (RA:=λβ (x x':Option Addr×Nat×TypeId)=>x=(some a,n,e)/\x'=(some a',n,e)/\gR β a a') (.pure ⟨rfl,rfl,ha⟩) ?_;rintro sx _ _ nV ⟨rfl,rfl,ha4⟩;refine (fI H t).bd ?_;rintro MD d _ yC ⟨rfl, -⟩;simp only;split
   ·refine (fy H e).bd ?_;rintro PC m _ AN ⟨rfl, -⟩;exact .pure (.ptr (((ha4.mono yC).mono AN).add _))
   ·split <;> split <;> first | exact az | exact kq.rel
  | _=>exact (bk.ee bk.halt).rel
 all_goals (cases th <;> exact (bk.ee bk.halt).rel)
omit H in
theorem mG{v v':Value}(hv:aF β v v')(y:Nat)(c:BoundsCode):aM L C (fR λ_=>True) β (Instr.sliceBound v y c) (Instr.sliceBound v' y c):=by
 unfold Instr.sliceBound;refine (rU hv).bd ?_;rintro bV ⟨k,i⟩ _ hl ⟨rfl, -⟩;simp only;split
 ·exact .pure ⟨rfl,trivial⟩
 ·exact kq.rel
inductive mn(β:Bj):Option Value->Option Value->Prop
 | none:mn β none none
 | some {v v':Value}:aF β v v'->mn β (some v) (some v')
omit H in
omit [aR] in
theorem mn.mono{γ:Bj}(l:Le β γ){x x':Option Value}(h:mn β x x'):mn γ x x':=by
 cases h with
 | none=>exact .none
 | some h=>exact .some (h.mono l)
omit H in
theorem Zp{lo mY:Option Value}(oJ:mn β lo mY)(h m:Nat)(c:BoundsCode):aM L C (fR λ_=>True) β (lo.elim (do let l←pure 0;pure (l,h,m)) (λv=>do let l←Instr.sliceBound v h c;pure (l,h,m)):Sem (Nat×Nat×Nat)) (mY.elim (do let l←pure 0;pure (l,h,m)) (λv=>do let l←Instr.sliceBound v h c;pure (l,h,m))):=by
 cases oJ with
 | none=>exact .pure ⟨rfl,trivial⟩
 | some hv=>
  refine (mG hv _ _).bd ?_;rintro ov l _ ic ⟨rfl, -⟩;exact .pure ⟨rfl,trivial⟩
omit H in
theorem jR(b:Bool)(len cap:Nat){lo mY hi fa mx UU:Option Value}(oJ:mn β lo mY)(T2:mn β hi fa)(QY:mn β mx UU):aM L C (fR λ_=>True) β (Instr.sliceBounds b len cap lo hi mx) (Instr.sliceBounds b len cap mY fa UU):=by
 unfold Instr.sliceBounds;cases QY with
 | none=>
  refine aM.bd (RA:=fR λ_=>True) (.pure ⟨rfl,trivial⟩) ?_;rintro oK m _ tk ⟨rfl, -⟩;cases T2 with
  | none=>
   have:=Zp (L:=L) (C:=C) (oJ.mono tk) len m .sliceB;cases oJ <;> exact this
  | some hv=>
   refine (mG (hv.mono tk) _ _).bd ?_;rintro gA h _ de ⟨rfl, -⟩;have:=Zp (L:=L) (C:=C) ((oJ.mono tk).mono de) h m .sliceB;cases oJ <;> exact this
 | some hm=>
  refine (mG hm _ _).bd ?_;rintro oK m _ tk ⟨rfl, -⟩;cases T2 with
  | none=>exact (bk.ee bk.halt).rel
  | some hv=>
   refine (mG (hv.mono tk) _ _).bd ?_;rintro gA h _ de ⟨rfl, -⟩;have:=Zp (L:=L) (C:=C) ((oJ.mono tk).mono de) h m .slice3C;cases oJ <;> exact this
theorem UW(t:TypeId){v v':Value}(hv:aF β v v'){lo mY hi fa mx UU:Option Value}(oJ:mn β lo mY)(T2:mn β hi fa)(QY:mn β mx UU):aM L C aF β (Instr.slice t v lo hi mx) (Instr.slice t v' mY fa UU):=by
 unfold Instr.slice;refine (fI H t).bd ?_;rintro gA d _ de ⟨rfl, -⟩;have th:=hv.mono de;cases d
 case slice e=>
  cases th with
  | jc n c=>
   refine (jR true n c (oJ.mono de) (T2.mono de) (QY.mono de)).bd ?_;rintro ov ⟨l,h,m⟩ _ ic ⟨rfl, -⟩;refine (fy H e).bd ?_;rintro sx z _ nV ⟨rfl, -⟩;simp only [Option.map_none,ite_self];exact .pure (.jc _ _)
  | slice n c ha=>
   refine (jR true n c (oJ.mono de) (T2.mono de) (QY.mono de)).bd ?_;rintro ov ⟨l,h,m⟩ _ ic ⟨rfl, -⟩;refine (fy H e).bd ?_;rintro sx z _ nV ⟨rfl, -⟩;have ha4:=(ha.mono ic).mono nV;simp only [qae];split
   ·exact .pure (.slice _ _ ha4)
   ·exact .pure (.slice _ _ (ha4.add _))
  | _=>exact az
 case string=>
  cases th with
  | string s=>
   cases QY with
   | some _=>exact (bk.ee bk.halt).rel
   | none=>
   simp only [qbo,qa7,if_false];refine (jR false _ _ (oJ.mono de) (T2.mono de) .none).bd ?_;rintro ov ⟨l,h,m⟩ _ ic ⟨rfl, -⟩;exact .pure (.string _)
  | _=>exact az
 case pointer arr=>
  have key:aM L C aF gA (do
    let a←asAddr v
    let .array n elem←underlying arr | stuck "Slice: array type expected"
    let (l,h,m)←Instr.sliceBounds false n n lo hi mx
    let size←sizeOf elem
    pure (.slice (some (if m=l then a else a.add (l*size))) (h - l) (m - l)):Sem Value) (do
    let a←asAddr v'
    let .array n elem←underlying arr | stuck "Slice: array type expected"
    let (l,h,m)←Instr.sliceBounds false n n mY fa UU
    let size←sizeOf elem
    pure (.slice (some (if m=l then a else a.add (l*size))) (h - l) (m - l))):=by
   refine (uq th).bd ?_;intro ov a a' ic ha;refine (fI H arr).bd ?_;rintro sx d _ nV ⟨rfl, -⟩;cases d
   case array n e=>
    refine (jR false n n (((oJ.mono de).mono ic).mono nV) (((T2.mono de).mono ic).mono nV) (((QY.mono de).mono ic).mono nV)).bd ?_;rintro MD ⟨l,h,m⟩ _ yC ⟨rfl, -⟩;refine (fy H e).bd ?_;rintro PC z _ AN ⟨rfl, -⟩;have ha6:=((ha.mono nV).mono yC).mono AN
    skip
    split
    ·exact .pure (.slice _ _ ha6)
    ·exact .pure (.slice _ _ (ha6.add _))
   all_goals exact az
  cases th <;> exact key
 all_goals (cases th <;> exact az)
theorem NY(t:TypeId){v v':Value}(hv:aF β v v'){lo mY hi fa mx UU:Option Value}(oJ:mn β lo mY)(T2:mn β hi fa)(QY:mn β mx UU):aM L C aF β (Instr.sliceAt t v lo hi mx) (Instr.sliceAt t v' mY fa UU):=by
 unfold Instr.sliceAt;refine (fI H t).bd ?_;rintro gA d _ de ⟨rfl, -⟩;cases d
 case array n e=>
  refine (nj (hv.mono de)).bd ?_;intro ov a a' ic ha;refine (jR false n n ((oJ.mono de).mono ic) ((T2.mono de).mono ic) ((QY.mono de).mono ic)).bd ?_;rintro sx ⟨l,h,m⟩ _ nV ⟨rfl, -⟩;refine (fy H e).bd ?_;rintro MD z _ yC ⟨rfl, -⟩;have ha5:=(ha.mono nV).mono yC
  skip
  split
  ·exact .pure (.slice _ _ ha5)
  ·exact .pure (.slice _ _ (ha5.add _))
 all_goals exact UW H t (hv.mono de) (oJ.mono de) (T2.mono de) (QY.mono de)
theorem NZ(t:TypeId){v v':Value}(hv:aF β v v'):aM L C aF β (Instr.arrayAt t v) (Instr.arrayAt t v'):=by
 unfold Instr.arrayAt;refine (fI H t).bd ?_;rintro gA d _ de ⟨rfl, -⟩;cases d
 case array n e=>
  cases hv.mono de with
  | jc l c=>
   simp only;split
   ·exact bE.rel
   ·exact .pure .mE
  | slice l c ha=>
   simp only;split
   ·exact bE.rel
   ·exact .pure (.ptr ha)
  | _=>exact az
 all_goals exact az
end
end Go.Cx
namespace Go.Cx
open Go
variable[bq][aR][bs]
section
variable{L C:Program}{β:Bj}(H:fx L C)
include H
omit H in
omit [aR] in
theorem HL{β:Bj}{c c':Array Value}(h:aQ β c c')(off:Nat): ∀(k:Nat) {x x':List Value} {z z':Array Value},ml β x x'->aQ β z z'->
  aQ β ((x.zipIdx k).foldl (λcs (c,j)=>cs.setIfInBounds (off+j) c) z) ((x'.zipIdx k).foldl (λcs (c,j)=>cs.setIfInBounds (off+j) c) z')
 | k,_,_,z,z', .nil,hz=>hz
 | k,_,_,z,z', .cons hv hl,hz=>by
  simp only [List.zipIdx_cons,List.foldl_cons];exact HL h off (k+1) hl (hz.set hv _)
inductive sP(β:Bj):List (Nat×Value)->List (Nat×Value)->Prop
 | nil:sP β [] []
 | cons (i:Nat) {v v':Value} {l l':List (Nat×Value)}:aF β v v'->sP β l l'->sP β ((i,v)::l) ((i,v')::l')
omit H in
omit [aR] in
theorem sP.mono{γ:Bj}(l:Le β γ){x x':List (Nat×Value)}(h:sP β x x'):sP γ x x':=by
 induction h with
 | nil=>exact .nil
 | cons i hv _ ih=>exact .cons i (hv.mono l) ih
omit H in
omit [aR] in
theorem ur{place:Nat->Option (Nat×Nat)}: ∀{l l':List (Nat×Value)} {z z':Array Value},sP β l l'->aQ β z z'->
  (Instr.fill place z l=none/\Instr.fill place z' l'=none)\/ ∃c c',Instr.fill place z l=some c/\Instr.fill place z' l'=some c'/\aQ β c c'
 | _,_,z,z', .nil,hz=> .inr ⟨z,z',rfl,rfl,hz⟩
 | _,_,z,z', .cons i hv hl,hz=>by
  unfold Instr.fill;cases place i with
  | none=>exact .inl ⟨rfl,rfl⟩
  | some p=>
   obtain ⟨off,size⟩:=p;have hc:=hv.cells;simp only [←hc.1, ←hz.1];split
   ·exact .inl ⟨rfl,rfl⟩
   ·refine ur hl ?_;have:=HL hc off 0 hc.list hz;have e: ∀(a y:Array Value),a.zipIdx.foldl (λcs (x:Value×Nat)=>cs.setIfInBounds (off+x.2) x.1) y=(a.toList.zipIdx 0).foldl (λcs (x:Value×Nat)=>cs.setIfInBounds (off+x.2) x.1) y:=λa y=>by rw [←Array.foldl_toList,Array.toList_zipIdx]
    exact (e _ z).symm▸(e _ z').symm▸this
omit H in
theorem qV{s:Sem Value}(h:(∃v,s= .pure v/\Plain v)\/bk L s):aM L C aF β s s:=by
 rcases h with ⟨v,rfl,hp⟩ | h
 ·exact .pure hp.rel
 ·exact h.rel
omit H in
theorem yD(op:BinOp)(k:IntKind)(x y:Int):aM L C aF β (Op.intArith op k x y) (Op.intArith op k x y):=by
 refine qV ?_;unfold Op.intArith;split <;> first | exact .inl ⟨_,rfl, .int _ _⟩ | exact .inr bk.halt
omit H in
theorem QZ(op:BinOp)(k:IntKind)(x y:Int):aM L C aF β (Op.intDiv op k x y) (Op.intDiv op k x y):=by
 refine qV ?_;unfold Op.intDiv;split
 ·exact .inr bE
 ·split <;> first | exact .inl ⟨_,rfl, .int _ _⟩ | exact .inr bk.halt
omit H in
theorem B8(op:BinOp)(k:IntKind)(x y:Int):aM L C aF β (Op.intBits op k x y) (Op.intBits op k x y):=by
 refine qV ?_;unfold Op.intBits;simp only;split <;> first | exact .inl ⟨_,rfl, .int _ _⟩ | exact .inr bk.halt
omit H in
theorem xS(op:BinOp)(k:IntKind)(x:Int)(yk:IntKind)(y:Int):aM L C aF β (Op.shift op k x yk y) (Op.shift op k x yk y):=by
 refine qV ?_;unfold Op.shift;split
 ·exact .inr bE
 ·simp only;split <;> first | exact .inl ⟨_,rfl, .int _ _⟩ | exact .inr bk.halt
omit H in
theorem Q0(op:BinOp)(x y:Int):aM L C aF β (Op.intCmp op x y) (Op.intCmp op x y):=by
 refine qV ?_;unfold Op.intCmp;split <;> first | exact .inl ⟨_,rfl, .bool _⟩ | exact .inr bk.halt
omit H in
theorem UX(op:UnOp){v v':Value}(hv:aF β v v'):aM L C aF β (Op.unary op v) (Op.unary op v'):=by
 cases hv with
 | int k n=>
  cases op
  case neg=>
   show aM L C aF β (Op.intArith .sub k 0 n) (Op.intArith .sub k 0 n);exact yD _ _ _ _
  case xor=>
   show aM L C aF β (Op.intBits .xor k (if k.signed then -1 else k.max) n) _;exact B8 _ _ _ _
  all_goals exact az
 | bool b=>
  cases op
  case not=>exact .pure (.bool _)
  all_goals exact az
 | _=>cases op <;> exact az
theorem N0(t:TypeId)(i:Nat)(hz: ∀(fs:Array Field) (f:Field) (inf:TypeInfo),L.underlying t=some (.struct fs)->fs[i]? =some f->L.info? f.type=some inf->inf.size≠0){v v':Value}(hv:aF β v v'):aM L C aF β (Instr.fieldAt t v i) (Instr.fieldAt t v' i):=by
 unfold Instr.fieldAt;refine (fI H t).bd ?_;rintro gA d _ de ⟨rfl,hd⟩;cases d
 case struct fs=>
  simp only;cases hf:fs[i]? with
  | none=>exact az
  | some f=>
   refine (nj (hv.mono de)).bd ?_;intro ov a a' ic ha;refine aM.bd (RA:=gR) ?_ ?_
   ·unfold fieldPlace sizeOf;simp only [bind_assoc];refine (jG H f.type).bd ?_;rintro sx inf _ nV ⟨rfl,hi⟩;have:=hz fs f inf hd hf hi;simp only [pure_bind,this,if_false];exact .pure ((ha.mono nV).add _)
   ·intro sx b b' nV hb;exact .pure (.ptr hb)
 all_goals exact az
omit H in
omit [aR] in
theorem pM{z:Array Value}(hz: ∀(i:Nat) (v:Value),z[i]? =some v->Plain v)(n:Nat):aQ β ((Array.range n).map (z[· % z.size]!)) ((Array.range n).map (z[· % z.size]!)):=by
 refine aQ.map λx _=> ?_;by_cases h:x % z.size<z.size
 ·rw [getElem!_pos z _ h];exact (hz _ _ (Array.getElem?_eq_getElem h)).rel
 ·rw [getElem!_neg z _ h];exact aF.bool false
omit H in
omit [bq] [aR] [bs] in
theorem kr{v u:Value}(h:Plain v){k:Nat}(hu:(#[v]:Array Value)[k]? =some u):Plain u:=by
 cases k with
 | zero=>simp at hu;exact hu▸h
 | succ k=>simp at hu
theorem uu(t:TypeId)(JC:T1 L t):aM L C (fR λv=> ∀(i:Nat) (u:Value),v.cells[i]? =some u->Plain u) β (zeroValue t) (zeroValue t):=by
 unfold zeroValue;refine (jG H t).bd ?_;rintro bV i _ hl ⟨rfl,hi⟩;cases hz:i.zero with
 | none=>exact az
 | some v=>
  refine .pure ⟨rfl,λk u hu=> ?_⟩;have hp:=JC i v hi hz;cases hp with
  | agg h=>exact h k u hu
  | bool b=>exact kr (.bool b) hu
  | int a b=>exact kr (.int a b) hu
  | string b=>exact kr (.string b) hu
  | mE=>exact kr .mE hu
  | jc a b=>exact kr (.jc a b) hu
  | ni=>exact kr .ni hu
  | gv=>exact kr .gv hu
  | tuple h=>exact kr (.tuple h) hu
theorem EL(t:TypeId)(n:Nat)(BN:NU L t){ps ps':Array (Nat×Value)}(hp:sP β ps.toList ps'.toList):aM L C aF β (Instr.buildSlice t n ps) (Instr.buildSlice t n ps'):=by
 unfold Instr.buildSlice;refine (fI H t).bd ?_;rintro gA d _ de ⟨rfl,Kw⟩;cases d
 case slice e=>
  have JC:=BN e Kw;refine (fy H e).bd ?_;rintro ov size _ ic ⟨rfl, -⟩;simp only;split
  ·exact (bk.ee bk.halt).rel
  ·have key: ∀(sx:Bj) (z:Array Value),Le ov sx->(∀(i:Nat) (u:Value),z[i]? =some u->Plain u)->aM L C aF sx (do
     let some cells:=Instr.fill (λi=>some (i*size,size)) ((Array.range (n*size)).map (z[· % z.size]!)) ps.toList
      | stuck "buildSlice: a part of the wrong size"
     pure (.slice (some (←newRow e cells)) n n):Sem Value) (do
     let some cells:=Instr.fill (λi=>some (i*size,size)) ((Array.range (n*size)).map (z[· % z.size]!)) ps'.toList
      | stuck "buildSlice: a part of the wrong size"
     pure (.slice (some (←newRow e cells)) n n)):=by
    intro sx z nV hz;rcases ur (place:=λi=>some (i*size,size)) (((hp.mono de).mono ic).mono nV) (pM hz (n*size)) with ⟨h1,h2⟩ | ⟨c,c',h1,h2,h3⟩
    ·rw [h1,h2];exact az
    ·rw [h1,h2];refine (uo e h3).bd ?_;intro MD a a' yC ha;exact .pure (.slice _ _ ha)
   split
   ·exact key ov #[] (Le.refl _) (λi u hu=>by simp at hu)
   ·refine (uu H e JC).bd ?_;rintro sx v _ nV ⟨rfl,hz⟩;exact key sx _ nV hz
 all_goals exact az
end
end Go.Cx
namespace Go.Cx
open Go
variable[bq][aR][bs]
section
variable{L C:Program}{β:Bj}(H:fx L C)
include H
omit H in
theorem UY{α γ:Type}{f:α->Sem γ}(l:List α)(h: ∀x∈l, ∀β,aM L C (fR λ_=>True) β (f x) (f x)): ∀β,aM L C (fR λ_=>True) β (l.mapM f) (l.mapM f):=by
 induction l with
 | nil=>intro β;rw [List.mapM_nil];exact .pure ⟨rfl,trivial⟩
 | cons x l ih=>
  intro β;rw [List.mapM_cons];refine (h x (by simp) β).bd ?_;rintro gA a _ de ⟨rfl, -⟩;refine (ih (λy hy=>h y (by simp [hy])) gA).bd ?_;rintro ov b _ ic ⟨rfl, -⟩;exact .pure ⟨rfl,trivial⟩
omit H in
theorem ab9{α γ:Type}{RA:Bj->α->α->Prop}{RB:Bj->γ->γ->Prop}{s t:Sem α}{f:α->γ}(h:aM L C RA β s t)(k: ∀bV a a',Le β bV->RA bV a a'->RB bV (f a) (f a')):aM L C RB β (f <$> s) (f <$> t):=by
 rw [map_eq_pure_bind,map_eq_pure_bind];exact h.bd λbV a a' hl ha=> .pure (k bV a a' hl ha)
omit H in
theorem UZ{α γ:Type}{f:α->Sem γ}(xs:Array α)(h: ∀x∈xs, ∀β,aM L C (fR λ_=>True) β (f x) (f x)):aM L C (fR λ_=>True) β (xs.mapM f) (xs.mapM f):=by
 rw [Array.mapM_eq_mapM_toList];refine ab9 (UY xs.toList (λx hx=>h x (by simpa using hx)) β) ?_;rintro bV a _ hl ⟨rfl, -⟩;exact ⟨rfl,trivial⟩
theorem U2(t:TypeId)(JC:T1 L t){ps ps':Array (Nat×Value)}(hp:sP β ps.toList ps'.toList):aM L C aF β (Instr.build t ps) (Instr.build t ps'):=by
 unfold Instr.build;refine (Ks H t JC).bd ?_;intro oK z z' tk hz;refine (fI H t).bd ?_;rintro gA d _ de ⟨rfl, -⟩;have hc:=(hz.mono de).cells;cases d
 case struct fs=>
  refine (UZ fs (λf _ β=> ?_)).bd ?_
  ·refine (fy H f.type).bd ?_;rintro ov n _ ic ⟨rfl, -⟩;exact .pure ⟨rfl,trivial⟩
  ·rintro ov D4 _ ic ⟨rfl, -⟩;rcases ur (place:=(D4[·]?)) (((hp.mono tk).mono de).mono ic) (hc.mono ic) with ⟨h1,h2⟩ | ⟨c,c',h1,h2,h3⟩
   ·simp only [h1,h2];exact az
   ·simp only [h1,h2];exact .pure h3.EI
 case array n e=>
  refine (fy H e).bd ?_;rintro ov size _ ic ⟨rfl, -⟩;rcases ur (place:=λi=>some (i*size,size)) (((hp.mono tk).mono de).mono ic) (hc.mono ic) with ⟨h1,h2⟩ | ⟨c,c',h1,h2,h3⟩
  ·simp only [h1,h2];exact az
  ·simp only [h1,h2];exact .pure h3.EI
 all_goals exact az
omit H in
theorem B9(n:Nat):aM L C (fR λ_=>True) β (askRoom n) (askRoom n):=by
 unfold askRoom;split
 ·exact .mark (.pure ⟨rfl,trivial⟩)
 ·exact .pure ⟨rfl,trivial⟩
theorem HM(t:TypeId)(BN:NU L t){n n' c c':Value}(hn:aF β n n')(hc:aF β c c'):aM L C aF β (Instr.makeSlice t n c) (Instr.makeSlice t n' c'):=by
 unfold Instr.makeSlice;refine (fI H t).bd ?_;rintro oK d _ tk ⟨rfl,Kw⟩;cases d
 case slice e=>
  have JC:=BN e Kw;refine (pK (hn.mono tk)).bd ?_;rintro gA n _ de ⟨rfl, -⟩;refine (pK ((hc.mono tk).mono de)).bd ?_;rintro ov c _ ic ⟨rfl, -⟩;refine (jG H e).bd ?_;rintro sx inf _ nV ⟨rfl, -⟩;simp only;split
  ·refine bk.rel ?_;split
   ·exact bk.ee bE
   ·split
    ·exact bk.ee bE
    ·exact bk.bind λ_=>(by first | exact bE | exact bk.ee bE)
  ·refine (B9 _).bd ?_;rintro MD _ _ yC -;refine (fy H e).bd ?_;rintro PC size _ AN ⟨rfl, -⟩;have key: ∀(β7:Bj) (z:Array Value),(∀(i:Nat) (u:Value),z[i]? =some u->Plain u)->aM L C aF β7 (do
     let a←newRow e ((Array.range ((IntKind.i64.wrap c).toNat*size)).map (z[· % z.size]!))
     pure (.slice (some a) (IntKind.i64.wrap n).toNat (IntKind.i64.wrap c).toNat):Sem Value) (do
     let a←newRow e ((Array.range ((IntKind.i64.wrap c).toNat*size)).map (z[· % z.size]!))
     pure (.slice (some a) (IntKind.i64.wrap n).toNat (IntKind.i64.wrap c).toNat)):=by
    intro β7 z hz;refine (uo e (pM hz _)).bd ?_;intro β8 a a' hl8 ha;exact .pure (.slice _ _ ha)
   split
   ·exact key _ #[] (λi u hu=>by simp at hu)
   ·refine (uu H e JC).bd ?_;rintro β7 z _ hl7 ⟨rfl,hz⟩;exact key _ _ hz
 all_goals exact az
omit H in
theorem N1(src dst:TypeId)(H:fx L C){v v':Value}(hv:aF β v v')(hs: ∃k,L.underlying src=some (.int k))(hd: ∃k,L.underlying dst=some (.int k)):aM L C aF β (convert src dst v) (convert src dst v'):=by
 unfold convert;obtain ⟨ks,hs⟩:=hs;obtain ⟨kd,hd⟩:=hd;refine (fI H src).bd ?_;rintro oK ds _ tk ⟨rfl,h1⟩;rw [hs] at h1;cases h1;refine (fI H dst).bd ?_;rintro gA dd _ de ⟨rfl,h2⟩;rw [hd] at h2;cases h2;cases (hv.mono tk).mono de with
 | int k n=>exact .pure (.int _ _)
 | ptr h=>exact az
 | _=>exact az
theorem aca(ts:Array TypeId)(t:TypeId){x x':Array Value}(hx:aQ β x x'):aM L C aF β (Builtin.len_ ts t x) (Builtin.len_ ts t x'):=by
 unfold Builtin.len_;cases ht:ts[0]? with
 | none=>exact az
 | some t0=>
  cases h0:x[0]? with
  | none=>rw [hx.none h0];exact az
  | some v=>
   obtain ⟨v',h1,hv⟩:=hx.get h0;rw [h1];simp only;refine (fI H t0).bd ?_;rintro oK d _ tk ⟨rfl, -⟩;cases d
   case string=>cases hv <;> first | exact .pure (.int _ _) | exact az
   case array=>cases hv <;> exact .pure (.int _ _)
   case slice=>cases hv <;> first | exact .pure (.int _ _) | exact az
   case pointer arr=>
    have:aM L C aF oK (do
     let .array n _←underlying arr | stuck "len: pointer to array expected"
     pure (goInt n):Sem Value) (do
     let .array n _←underlying arr | stuck "len: pointer to array expected"
     pure (goInt n)):=by
     refine (fI H arr).bd ?_;rintro gA d2 _ de ⟨rfl, -⟩;cases d2 <;> first | exact .pure (.int _ _) | exact az
    cases hv <;> exact this
   all_goals (cases hv <;> exact az)
theorem acb(ts:Array TypeId)(t:TypeId){x x':Array Value}(hx:aQ β x x'):aM L C aF β (Builtin.cap_ ts t x) (Builtin.cap_ ts t x'):=by
 unfold Builtin.cap_;cases ht:ts[0]? with
 | none=>exact az
 | some t0=>
  cases h0:x[0]? with
  | none=>rw [hx.none h0];exact az
  | some v=>
   obtain ⟨v',h1,hv⟩:=hx.get h0;rw [h1];simp only;refine (fI H t0).bd ?_;rintro oK d _ tk ⟨rfl, -⟩;cases d
   case array=>cases hv <;> exact .pure (.int _ _)
   case slice=>cases hv <;> first | exact .pure (.int _ _) | exact az
   case pointer arr=>
    have:aM L C aF oK (do
     let .array n _←underlying arr | stuck "cap: pointer to array expected"
     pure (goInt n):Sem Value) (do
     let .array n _←underlying arr | stuck "cap: pointer to array expected"
     pure (goInt n)):=by
     refine (fI H arr).bd ?_;rintro gA d2 _ de ⟨rfl, -⟩;cases d2 <;> first | exact .pure (.int _ _) | exact az
    cases hv <;> exact this
   all_goals (cases hv <;> exact az)
omit H in
omit [aR] in
theorem oy{z:Array Value}(hz: ∀(i:Nat) (v:Value),z[i]? =some v->Plain v)(n:Nat):aQ β (Builtin.zeroCells z n) (Builtin.zeroCells z n):=pM hz _
theorem U6(ts:Array TypeId)(t:TypeId)(BN: ∀ty∈ts,NU L ty){x x':Array Value}(hx:aQ β x x'):aM L C aF β (Builtin.clear_ ts t x) (Builtin.clear_ ts t x'):=by
 unfold Builtin.clear_;cases ht:ts[0]? with
 | none=>exact az
 | some t0=>
  cases h0:x[0]? with
  | none=>rw [hx.none h0];exact az
  | some v=>
   obtain ⟨v',h1,hv⟩:=hx.get h0;rw [h1];simp only;refine (fI H t0).bd ?_;rintro oK d _ tk ⟨rfl,Kw⟩;have Zq:aM L C aF oK (pure (.tuple #[]):Sem Value) (pure (.tuple #[])):= .pure (.tuple rfl λi v v' h=>by simp at h);have ajs: ∀d:TypeDesc,aM L C aF oK (do pure ();pure (.tuple #[]):Sem Value) (do pure ();pure (.tuple #[])):=λ_=>Zq;cases hv.mono tk with
   | jc l c=>cases d <;> exact Zq
   | @slice a a' l c ha=>
    cases l with
    | zero=>cases d <;> exact Zq
    | succ l=>
     cases d
     case slice e=>
      refine (uu H e (BN t0 (qb2 ht) e Kw)).bd ?_;rintro gA z _ de ⟨rfl,hz⟩;refine (mF 0 (ha.mono de) (oy hz _).list).bd ?_;rintro ov u u' ic -;exact .pure (.tuple rfl λi v v' h=>by simp at h)
     all_goals exact (bk.ee bk.halt).rel
   | _=>cases d <;> exact (bk.ee bk.halt).rel
omit H in
theorem Zr{v v' u u':Value}(hv:aF β v v')(hu:aF β u u'):aM L C aF β (Builtin.min2 v u) (Builtin.min2 v' u'):=by
 cases hv with
 | int k n=>cases hu with
  | int k2 m=>exact .pure (.int _ _)
  | ptr h=>exact az
  | _=>exact az
 | string s=>cases hu with
  | string s2=>
   refine qV ?_;by_cases h:True
   ·exact .inl ⟨_,rfl, .string _⟩
   ·exact absurd trivial h
  | ptr h=>exact az
  | _=>exact az
 | ptr h=>cases hu <;> exact az
 | _=>cases hu <;> exact az
omit H in
theorem Zs{v v' u u':Value}(hv:aF β v v')(hu:aF β u u'):aM L C aF β (Builtin.max2 v u) (Builtin.max2 v' u'):=by
 cases hv with
 | int k n=>cases hu with
  | int k2 m=>exact .pure (.int _ _)
  | ptr h=>exact az
  | _=>exact az
 | string s=>cases hu with
  | string s2=>exact qV (.inl ⟨_,rfl, .string _⟩)
  | ptr h=>exact az
  | _=>exact az
 | ptr h=>cases hu <;> exact az
 | _=>cases hu <;> exact az
omit H in
theorem EM{f:Value->Value->Sem Value}(hf: ∀(β:Bj) (v v' u u':Value),aF β v v'->aF β u u'->aM L C aF β (f v u) (f v' u')): ∀{l l':List Value} {v v':Value} {β:Bj},ml β l l'->aF β v v'->aM L C aF β (l.foldlM f v) (l'.foldlM f v')
 | _,_,v,v',β, .nil,hv=> .pure hv
 | _,_,v,v',β, .cons hu hl,hv=>by
  rw [List.foldlM_cons,List.foldlM_cons];refine (hf β _ _ _ _ hv hu).bd ?_;intro gA a a' de ha;exact EM hf (hl.mono de) ha
omit H in
theorem acd(ts:Array TypeId)(t:TypeId){x x':Array Value}(hx:aQ β x x'):aM L C aF β (Builtin.min_ ts t x) (Builtin.min_ ts t x'):=by
 unfold Builtin.min_;have h:=hx.list;generalize x.toList=l at h;generalize x'.toList=l' at h;cases h with
 | nil=>exact az
 | cons hv hl=>exact EM (λ_ _ _ _ _=>Zr) hl hv
omit H in
theorem ace(ts:Array TypeId)(t:TypeId){x x':Array Value}(hx:aQ β x x'):aM L C aF β (Builtin.max_ ts t x) (Builtin.max_ ts t x'):=by
 unfold Builtin.max_;have h:=hx.list;generalize x.toList=l at h;generalize x'.toList=l' at h;cases h with
 | nil=>exact az
 | cons hv hl=>exact EM (λ_ _ _ _ _=>Zs) hl hv
end
end Go.Cx
namespace Go.Cx
open Go
variable[bq][aR][bs]
section
variable{L C:Program}{β:Bj}(H:fx L C)
include H
omit H in
theorem xU{v v':Value}(hv:aF β v v'):aM L C (fR λ_=>True) β (Builtin.lenOf v) (Builtin.lenOf v'):=by
 cases hv with
 | jc n c=>exact .pure ⟨rfl,trivial⟩
 | slice n c h=>exact .pure ⟨rfl,trivial⟩
 | string s=>exact .pure ⟨rfl,trivial⟩
 | _=>exact az
omit H in
theorem uv(size n:Nat){v v':Value}(hv:aF β v v'):aM L C aQ β (Builtin.firstCells size n v) (Builtin.firstCells size n v'):=by
 cases hv with
 | jc l c=>exact .pure aQ.empty
 | slice l c h=>exact wO h _
 | string s=>exact .pure (aQ.map λ_ _=> .int _ _)
 | _=>exact az
omit H in
omit [bq] [aR] [bs] in
theorem N2(a:Addr)(n:Nat):lk L (Builtin.holdsCells a n):=by
 unfold Builtin.holdsCells;refine @eJ _ _ _ _ _ _ λd=> ?_;split <;> infer_instance
omit H in
omit [bq] [aR] [bs] in
theorem N4(size tn n:Nat)(base:Option Addr)(x:Value):lk L (Builtin.mayShare size tn n base x):=by
 have hf: ∀a,lk L (frozen a):=λa=>gZ λw=> .inl ⟨_,_,rfl,rfl⟩;have hh:=λa n=>N2 (L:=L) a n;unfold Builtin.mayShare;cases base with
 | none=>
  simp only [pure_bind];split
  ·infer_instance
  ·split <;> infer_instance
 | some a=>
  refine @eJ _ _ _ _ _ (hh _ _) λd=> ?_;refine @eJ _ _ _ _ _ (hf _) λd=> ?_;simp only [pure_bind];split
  ·infer_instance
  ·split
   ·exact @eJ _ _ _ _ _ (hh _ _) λd=>inferInstance
   ·infer_instance
theorem Q1(ts:Array TypeId)(t:TypeId)(BN: ∀ty∈ts,NU L ty){x x':Array Value}(hx:aQ β x x'):aM L C aF β (Builtin.append_ ts t x) (Builtin.append_ ts t x'):=by
 unfold Builtin.append_;cases ht:ts[0]? with
 | none=>exact az
 | some t0=>
 cases h0:x[0]? with
 | none=>rw [hx.none h0];exact az
 | some s=>
 obtain ⟨s',GR,hs⟩:=hx.get h0;cases h1:x[1]? with
 | none=>rw [GR,hx.none h1];exact az
 | some u=>
 obtain ⟨u',QI,hu⟩:=hx.get h1;rw [GR,QI];simp only;refine (fI H t0).bd ?_;rintro oK d _ tk ⟨rfl,Kw⟩;cases d
 case slice e=>
  have JC:=BN t0 (qb2 ht) e Kw;have hs1:=hs.mono tk;have tq:=hu.mono tk;have key: ∀(base mo:Option Addr) (tn vJ:Nat) (oK:Bj),aF oK (.slice base tn vJ) (.slice mo tn vJ)->aF oK u u'->((base=none/\mo=none)\/ ∃a a',base=some a/\mo=some a'/\gR oK a a')-> ∀(uw:Bool) (size n:Nat),
    aM L C aF oK (let qW:Sem (Array Value):=
      if !uw then Builtin.firstCells size n u
      else if n*size=0 then pure #[]
      else do pure (Builtin.zeroCells (←zeroValue e).cells n)
     let need:=tn+n
     if need<=vJ then do
      let new←qW
      if let some a:=base then storeCells (a.add (tn*size)) new.toList
      pure (.slice base need vJ)
     else do
      if (need:Int)>IntKind.i64.max/\(uw\/(←typeInfo e).bytes=0) then runtimePanic (.error "growslice: len out of range")
      if Builtin.nextslicecap need vJ*(←typeInfo e).bytes>2^48 then (if uw then runtimePanic (.error "growslice: len out of range") else do
       if !(←Builtin.mayShare size tn n base u) then mark .noRoom
       unsupported (.resourceLimit "append: a slice or a string whose bytes no memory bears"))
      let qX←choose (.appendCap need vJ e)
      askRoom (qX*(←typeInfo e).bytes)
      let old←Builtin.firstCells size tn (.slice base tn vJ)
      let new←qW
      let rest:=Builtin.zeroCells (←zeroValue e).cells (qX - need)
      pure (.slice (some (←newRow e (old++new++rest))) need qX):Sem Value)
     (let qW:Sem (Array Value):=
      if !uw then Builtin.firstCells size n u'
      else if n*size=0 then pure #[]
      else do pure (Builtin.zeroCells (←zeroValue e).cells n)
     let need:=tn+n
     if need<=vJ then do
      let new←qW
      if let some a:=mo then storeCells (a.add (tn*size)) new.toList
      pure (.slice mo need vJ)
     else do
      if (need:Int)>IntKind.i64.max/\(uw\/(←typeInfo e).bytes=0) then runtimePanic (.error "growslice: len out of range")
      if Builtin.nextslicecap need vJ*(←typeInfo e).bytes>2^48 then (if uw then runtimePanic (.error "growslice: len out of range") else do
       if !(←Builtin.mayShare size tn n mo u') then mark .noRoom
       unsupported (.resourceLimit "append: a slice or a string whose bytes no memory bears"))
      let qX←choose (.appendCap need vJ e)
      askRoom (qX*(←typeInfo e).bytes)
      let old←Builtin.firstCells size tn (.slice mo tn vJ)
      let new←qW
      let rest:=Builtin.zeroCells (←zeroValue e).cells (qX - need)
      pure (.slice (some (←newRow e (old++new++rest))) need qX)):=by
   intro base mo tn vJ oK mH tq hb uw size n;have acf: ∀{γ:Bj},Le oK γ->aM L C aQ γ (if !uw then Builtin.firstCells size n u
      else if n*size=0 then pure #[]
      else do pure (Builtin.zeroCells (←zeroValue e).cells n)) (if !uw then Builtin.firstCells size n u'
      else if n*size=0 then pure #[]
      else do pure (Builtin.zeroCells (←zeroValue e).cells n)):=by
    intro γ hl;split
    ·exact uv _ _ (tq.mono hl)
    ·split
     ·exact .pure aQ.empty
     ·refine (uu H e JC).bd ?_;rintro gA z _ de ⟨rfl,hz⟩;exact .pure (oy hz _)
   simp only;split
   ·refine (acf (Le.refl _)).bd ?_;intro gA c c' de hc;rcases hb with ⟨rfl,rfl⟩ | ⟨a,a',rfl,rfl,ha⟩
    ·exact .pure (.jc _ _)
    ·refine (mF 0 ((ha.mono de).add _) hc.list).bd ?_;rintro ov _ _ ic -;exact .pure (.slice _ _ ((ha.mono de).mono ic))
   ·refine (jG H e).bd ?_;rintro gA inf _ de ⟨rfl, -⟩;split
    ·exact (bk.ee bE).rel
    ·refine (jG H e).bd ?_;rintro ov ajt _ ic ⟨rfl, -⟩;split
     ·refine bk.rel (bk.ee ?_);split
      ·exact bE
      ·refine bk.bind (hm:=N4 _ _ _ _ _) λb=> ?_;split
       ·exact bk.bind λ_=>bk.halt
       ·exact bk.halt
     ·refine aM.bd (RA:=fR λ_=>True) (.choose λk=> .pure ⟨rfl,trivial⟩) ?_;rintro sx qX _ nV ⟨rfl, -⟩;refine (jG H e).bd ?_;rintro MD aju _ yC ⟨rfl, -⟩;refine (B9 _).bd ?_;rintro PC _ _ AN -;have l6:=(((de.trans ic).trans nV).trans yC).trans AN;refine (uv _ _ (mH.mono l6)).bd ?_;intro β7 old ajv hl7 hold;refine (acf (l6.trans hl7)).bd ?_;intro β8 new ajw hl8 xi;refine (uu H e JC).bd ?_;rintro β9 z _ hl9 ⟨rfl,hz⟩;refine (uo e ((((hold.mono hl8).mono hl9).append (xi.mono hl9)).append (oy hz _))).bd ?_;intro ajx a a' acg ha;exact .pure (.slice _ _ ha)
  cases hs1 with
  | jc l c=>
   refine (fy H e).bd ?_;rintro gA size _ de ⟨rfl, -⟩;cases ts[1]? with
   | none=>
    simp only;refine aM.bd (RA:=fR λ_=>True) (.pure ⟨rfl,trivial⟩) ?_;rintro ov z _ ic ⟨rfl, -⟩;cases z with
    | false=>
     rw [if_neg (show¬((false:Bool)=true) by decide),if_neg (show¬((false:Bool)=true) by decide)];refine (xU (tq.mono (de.trans ic))).bd ?_;rintro sx n _ nV ⟨rfl, -⟩;have l4:=(de.trans ic).trans nV;exact key _ _ l c sx (.jc _ _) (tq.mono l4) (.inl ⟨rfl,rfl⟩) false size n
    | true=>
     rw [if_pos (show (true:Bool)=true from rfl),if_pos (show (true:Bool)=true from rfl)];refine (pK (tq.mono (de.trans ic))).bd ?_;rintro sx k _ nV ⟨rfl, -⟩;by_cases hk:IntKind.i64.wrap k<0
     ·rw [if_pos hk,if_pos hk];exact (bk.ee bE).rel
     ·rw [if_neg hk,if_neg hk];refine (jG H e).bd ?_;rintro MD inf _ yC ⟨rfl, -⟩;by_cases hb:IntKind.i64.wrap k*inf.bytes>2^48
      ·rw [if_pos hb,if_pos hb];exact bk.rel (bk.bind λ_=>bk.ee bE)
      ·rw [if_neg hb,if_neg hb];refine aM.bd (RA:=fR λ_=>True) (.pure ⟨rfl,trivial⟩) ?_;rintro PC n _ AN ⟨rfl, -⟩;have l4:=(((de.trans ic).trans nV).trans yC).trans AN;exact key _ _ l c PC (.jc _ _) (tq.mono l4) (.inl ⟨rfl,rfl⟩) true size n
   | some xT=>
    simp only;refine (fI H xT).bd ?_;rintro afU d _ Zt ⟨rfl, -⟩;have U7:=de.trans Zt;refine aM.bd (RA:=fR λ_=>True) (.pure ⟨rfl,trivial⟩) ?_;rintro ov z _ ic ⟨rfl, -⟩;cases z with
    | false=>
     rw [if_neg (show¬((false:Bool)=true) by decide),if_neg (show¬((false:Bool)=true) by decide)];refine (xU (tq.mono (U7.trans ic))).bd ?_;rintro sx n _ nV ⟨rfl, -⟩;have l4:=(U7.trans ic).trans nV;exact key _ _ l c sx (.jc _ _) (tq.mono l4) (.inl ⟨rfl,rfl⟩) false size n
    | true=>
     rw [if_pos (show (true:Bool)=true from rfl),if_pos (show (true:Bool)=true from rfl)];refine (pK (tq.mono (U7.trans ic))).bd ?_;rintro sx k _ nV ⟨rfl, -⟩;by_cases hk:IntKind.i64.wrap k<0
     ·rw [if_pos hk,if_pos hk];exact (bk.ee bE).rel
     ·rw [if_neg hk,if_neg hk];refine (jG H e).bd ?_;rintro MD inf _ yC ⟨rfl, -⟩;by_cases hb:IntKind.i64.wrap k*inf.bytes>2^48
      ·rw [if_pos hb,if_pos hb];exact bk.rel (bk.bind λ_=>bk.ee bE)
      ·rw [if_neg hb,if_neg hb];refine aM.bd (RA:=fR λ_=>True) (.pure ⟨rfl,trivial⟩) ?_;rintro PC n _ AN ⟨rfl, -⟩;have l4:=(((U7.trans ic).trans nV).trans yC).trans AN;exact key _ _ l c PC (.jc _ _) (tq.mono l4) (.inl ⟨rfl,rfl⟩) true size n
  | slice l c ha=>
   refine (fy H e).bd ?_;rintro gA size _ de ⟨rfl, -⟩;cases ts[1]? with
   | none=>
    simp only;refine aM.bd (RA:=fR λ_=>True) (.pure ⟨rfl,trivial⟩) ?_;rintro ov z _ ic ⟨rfl, -⟩;cases z with
    | false=>
     rw [if_neg (show¬((false:Bool)=true) by decide),if_neg (show¬((false:Bool)=true) by decide)];refine (xU (tq.mono (de.trans ic))).bd ?_;rintro sx n _ nV ⟨rfl, -⟩;have l4:=(de.trans ic).trans nV;exact key _ _ l c sx (.slice _ _ (ha.mono l4)) (tq.mono l4) (.inr ⟨_,_,rfl,rfl,ha.mono l4⟩) false size n
    | true=>
     rw [if_pos (show (true:Bool)=true from rfl),if_pos (show (true:Bool)=true from rfl)];refine (pK (tq.mono (de.trans ic))).bd ?_;rintro sx k _ nV ⟨rfl, -⟩;by_cases hk:IntKind.i64.wrap k<0
     ·rw [if_pos hk,if_pos hk];exact (bk.ee bE).rel
     ·rw [if_neg hk,if_neg hk];refine (jG H e).bd ?_;rintro MD inf _ yC ⟨rfl, -⟩;by_cases hb:IntKind.i64.wrap k*inf.bytes>2^48
      ·rw [if_pos hb,if_pos hb];exact bk.rel (bk.bind λ_=>bk.ee bE)
      ·rw [if_neg hb,if_neg hb];refine aM.bd (RA:=fR λ_=>True) (.pure ⟨rfl,trivial⟩) ?_;rintro PC n _ AN ⟨rfl, -⟩;have l4:=(((de.trans ic).trans nV).trans yC).trans AN;exact key _ _ l c PC (.slice _ _ (ha.mono l4)) (tq.mono l4) (.inr ⟨_,_,rfl,rfl,ha.mono l4⟩) true size n
   | some xT=>
    simp only;refine (fI H xT).bd ?_;rintro afU d _ Zt ⟨rfl, -⟩;have U7:=de.trans Zt;refine aM.bd (RA:=fR λ_=>True) (.pure ⟨rfl,trivial⟩) ?_;rintro ov z _ ic ⟨rfl, -⟩;cases z with
    | false=>
     rw [if_neg (show¬((false:Bool)=true) by decide),if_neg (show¬((false:Bool)=true) by decide)];refine (xU (tq.mono (U7.trans ic))).bd ?_;rintro sx n _ nV ⟨rfl, -⟩;have l4:=(U7.trans ic).trans nV;exact key _ _ l c sx (.slice _ _ (ha.mono l4)) (tq.mono l4) (.inr ⟨_,_,rfl,rfl,ha.mono l4⟩) false size n
    | true=>
     rw [if_pos (show (true:Bool)=true from rfl),if_pos (show (true:Bool)=true from rfl)];refine (pK (tq.mono (U7.trans ic))).bd ?_;rintro sx k _ nV ⟨rfl, -⟩;by_cases hk:IntKind.i64.wrap k<0
     ·rw [if_pos hk,if_pos hk];exact (bk.ee bE).rel
     ·rw [if_neg hk,if_neg hk];refine (jG H e).bd ?_;rintro MD inf _ yC ⟨rfl, -⟩;by_cases hb:IntKind.i64.wrap k*inf.bytes>2^48
      ·rw [if_pos hb,if_pos hb];exact bk.rel (bk.bind λ_=>bk.ee bE)
      ·rw [if_neg hb,if_neg hb];refine aM.bd (RA:=fR λ_=>True) (.pure ⟨rfl,trivial⟩) ?_;rintro PC n _ AN ⟨rfl, -⟩;have l4:=(((U7.trans ic).trans nV).trans yC).trans AN;exact key _ _ l c PC (.slice _ _ (ha.mono l4)) (tq.mono l4) (.inr ⟨_,_,rfl,rfl,ha.mono l4⟩) true size n
  | _=>exact az
 all_goals exact az
end
end Go.Cx
namespace Go.Cx
open Go
variable[bq][aR][bs]
section
variable{L C:Program}{β:Bj}(H:fx L C)
include H
inductive N5(L:Program):TypeId->Prop
 | bool {t:TypeId}:L.underlying t=some .bool->N5 L t
 | int {t:TypeId} {k:IntKind}:L.underlying t=some (.int k)->N5 L t
 | string {t:TypeId}:L.underlying t=some .string->N5 L t
 | slice {t e:TypeId}:L.underlying t=some (.slice e)->N5 L t
 | struct {t:TypeId} {fs:Array Field}:L.underlying t=some (.struct fs)->L.stoodInHeld t=false->(∀f∈fs,N5 L f.type)->N5 L t
omit H in
theorem Q2{α σ:Type}{f g:α->σ->Sem (ForInStep σ)}: ∀(l:List α),(∀x∈l, ∀(bV:Bj) (s:σ),Le β bV->aM L C (fR λ_=>True) bV (f x s) (g x s))-> ∀(bV:Bj) (s:σ),Le β bV->aM L C (fR λ_=>True) bV (forIn l s f) (forIn l s g)
 | [],h,bV,s,hl=>by simp only [List.forIn_nil];exact .pure ⟨rfl,trivial⟩
 | x::l,h,bV,s,hl=>by
  simp only [List.forIn_cons];refine (h x (by simp) bV s hl).bd ?_;rintro gA r _ de ⟨rfl, -⟩;cases r with
  | done s=>exact .pure ⟨rfl,trivial⟩
  | yield s=>exact Q2 l (λy hy=>h y (by simp [hy])) gA s (hl.trans de)
omit H in
theorem Zu{α σ:Type}{f g:α->σ->Sem (ForInStep σ)}(xs:Array α)(h: ∀x∈xs, ∀(bV:Bj) (s:σ),Le β bV->aM L C (fR λ_=>True) bV (f x s) (g x s))(s:σ):aM L C (fR λ_=>True) β (forIn xs s f) (forIn xs s g):=by
 rw [←Array.forIn_toList, ←Array.forIn_toList];exact Q2 xs.toList (λx hx=>h x (by simpa using hx)) β s (Le.refl _)
omit [aR] [bs] in
theorem Oa(t:TypeId)(a b:Addr):bk L (do
  let (a,b):=((←behindNumber a).1,(←behindNumber b).1)
  if a.block==b.block&&a.block<(←program).globals.size then return (←byteOf a)==(←byteOf b)
  let .named "sync.copyChecker" _:=(←typeInfo t).desc | unsupported .addressObserved
  if a==b then pure true else unsupported .addressObserved:Sem Bool):=by
 refine bk.bind λx=>bk.bind λy=>bk.prog ?_;simp only [H.gl,qaq,decide_false,Bool.and_false,qa7,if_false];refine bk.info λi hi=> ?_;split
 ·rename_i n hd;exact absurd hd (H.cc t i _ hi)
 ·exact bk.halt
theorem vK: ∀(d:Nat) {t:TypeId},N5 L t-> ∀{β:Bj} {v v' u u':Value},aF β v v'->aF β u u'->aM L C (fR λ_=>True) β (Op.equalIn d t v u) (Op.equalIn d t v' u')
 | 0,t,_,β,v,v',u,u',hv,hu=>az
 | d+1,t,ht,β,v,v',u,u',hv,hu=>by
  unfold Op.equalIn;refine (fI H t).bd ?_;rintro oK D _ tk ⟨rfl,hD⟩;have Qi:=hv.mono tk;have tq:=hu.mono tk;cases ht with
  | bool h=>
   rw [h] at hD;cases hD;cases Qi <;> cases tq <;> first | exact .pure ⟨rfl,trivial⟩ | exact az
  | int h=>
   rw [h] at hD;cases hD;cases Qi with
   | int k n=>
    cases tq with
    | int k2 m=>
     simp only;split
     ·exact .pure ⟨rfl,trivial⟩
     ·exact az
    | ptr h=>
     by_cases hn:n=0
     ·subst hn;exact .pure ⟨rfl,trivial⟩
     ·refine bk.rel ?_;split <;> first | exact bk.halt | (exfalso;simp_all)
    | _=>exact az
   | ptr h=>
    cases tq with
    | int k n=>
     by_cases hn:n=0
     ·subst hn;exact .pure ⟨rfl,trivial⟩
     ·refine bk.rel ?_;split <;> first | exact bk.halt | (exfalso;simp_all)
    | ptr h=>exact (Oa H t _ _).rel
    | _=>exact az
   | _=>cases tq <;> exact az
  | string h=>
   rw [h] at hD;cases hD;cases Qi <;> cases tq <;> first | exact .pure ⟨rfl,trivial⟩ | exact az
  | slice h=>
   rw [h] at hD;cases hD;cases Qi <;> cases tq <;> first | exact .pure ⟨rfl,trivial⟩ | exact az
  | struct h h2 h3=>
   rw [h] at hD;cases hD;cases Qi with
   | agg a1 a2=>
    cases tq with
    | agg b1 b2=>
     simp only;refine .program ?_;show aM L C _ oK (if L.stoodInHeld t=true then _ else _) (if C.stoodInHeld t=true then _ else _);rw [H.sih,h2];rw [if_neg (by decide),if_neg (by decide)];refine (Zu _ (λf hf gA s de=> ?_) _).bd ?_
     ·by_cases hn:f.name≠ "_"
      ·rw [if_pos hn,if_pos hn];refine (Kv H f.type (aQ.mono de ⟨a1,a2⟩) _).bd ?_;intro ov p p' ic hp;refine (Kv H f.type (aQ.mono (de.trans ic) ⟨b1,b2⟩) _).bd ?_;intro sx q q' nV hq;refine (vK d (h3 f hf) (hp.mono nV) hq).bd ?_;rintro MD b _ yC ⟨rfl, -⟩;split <;> exact .pure ⟨rfl,trivial⟩
      ·rw [if_neg hn,if_neg hn];exact .pure ⟨rfl,trivial⟩
     ·rintro gA r _ de ⟨rfl, -⟩;split <;> exact .pure ⟨rfl,trivial⟩
    | _=>exact az
   | _=>cases tq <;> exact az
end
end Go.Cx
namespace Go.Cx
open Go
variable[bq][aR][bs]
section
variable{L C:Program}{β:Bj}(H:fx L C)
include H
omit H in
theorem ux{a b:Nat}(h:β a b):aM L C (fR λ_=>True) β (shape a) (shape b):= .shape h λ_=> .pure ⟨rfl,trivial⟩
omit H in
theorem yE{a b:Nat}(h:β a b):aM L C (λβ (x x':Option (Addr×Bool))=>(x=none/\x'=none)\/ ∃d d' z,x=some (d,z)/\x'=some (d',z)/\gR β d d') β (numberAt a) (numberAt b):=by
 unfold numberAt;refine (ux h).bd ?_;rintro gA s _ de ⟨rfl, -⟩;split
 ·exact .pure (.inl ⟨rfl,rfl⟩)
 ·refine .getObj (de _ _ h) λo o' ho=> ?_;cases ho with
  | num z hd=>exact .pure (.inr ⟨_,_,z,rfl,rfl,hd⟩)
  | z6 z=>cases z <;> exact .pure (.inl ⟨rfl,rfl⟩)
  | _=>exact .pure (.inl ⟨rfl,rfl⟩)
omit H in
theorem HN{a b:Nat}(h:β a b):aM L C (λ_ (x x':Option (Addr×TypeId))=>x=none/\x'=none) β (viewAt a) (viewAt b):=by
 unfold viewAt;refine (ux h).bd ?_;rintro gA s _ de ⟨rfl, -⟩;split
 ·exact .pure ⟨rfl,rfl⟩
 ·refine .getObj (de _ _ h) λo o' ho=> ?_;cases ho with
  | z6 z=>cases z <;> exact .pure ⟨rfl,rfl⟩
  | _=>exact .pure ⟨rfl,rfl⟩
omit H in
theorem HQ{a a':Addr}(h:gR β a a'):aM L C (λβ (x x':Addr×Bool)=>x.2=x'.2/\gR β x.1 x'.1) β (behindNumber a) (behindNumber a'):=by
 unfold behindNumber;refine (yE h.block).bd ?_;rintro gA s s' de (⟨rfl,rfl⟩ | ⟨d,d',z,rfl,rfl,hd⟩)
 ·exact .pure ⟨rfl,h.mono de⟩
 ·exact .pure ⟨rfl,hd⟩
omit H in
def uAdd(ptr:Option Addr)(len_:Value):Sem Value:=do
 let n←asInt len_
 if n=0 then
  let some a:=ptr | unsupported (.unsafePointer "Add: from nil")
  if (←viewAt a.block).isSome then unsupported (.unsafePointer "Add: at a place where no cell lies")
  return .pointer ptr
 if n<0 then unsupported (.unsafePointer "Add: a move by a count below zero")
 let some a:=ptr | unsupported (.unsafePointer "Add")
 let some (e,cells)←shape a.block | unsupported (.unsafePointer "Add")
 let p←program
 match cellAtBytes p p.depth e (cells / p.cellsOf e) a.off n with
 | some off=>pure (.pointer (some { a with off }))
 | none=>unsupported (.unsafePointer "Add")
omit H in
omit [bq] [aR] [bs] in
theorem ME(t:TypeId)(a:Option Addr)(y:Value):Builtin.unsafeAdd_ #[] t #[.pointer a,y]=uAdd a y:=rfl
def XM(β:Bj)(v v':Value):Prop:= ∃a a',v= .pointer (some a)/\v'= .pointer (some a')/\gR β a a'
theorem uy(t:TypeId){a a':Option Addr}{y y':Value}(h:(a=none/\a'=none)\/ ∃d d',a=some d/\a'=some d'/\gR β d d')(hy:aF β y y'):
  aM L C XM β (Builtin.unsafeAdd_ #[] t #[.pointer a,y]) (Builtin.unsafeAdd_ #[] t #[.pointer a',y']):=by
 rw [ME,ME];unfold uAdd;refine (pK hy).bd ?_;rintro gA n _ de ⟨rfl, -⟩;rcases h with ⟨rfl,rfl⟩ | ⟨d,d',rfl,rfl,hd⟩
 ·refine bk.rel ?_;by_cases hn:n=0
  ·simp only [if_pos hn];exact bk.ee bk.halt
  ·by_cases Oc:n<0
   ·simp only [if_neg hn,if_pos Oc];exact bk.ee bk.halt
   ·simp only [if_neg hn,if_neg Oc];exact bk.halt
 ·simp only;by_cases hn:n=0
  ·rw [if_pos hn,if_pos hn];refine (HN (hd.mono de).block).bd ?_;rintro ov _ _ ic ⟨rfl,rfl⟩;exact .pure ⟨_,_,rfl,rfl,(hd.mono de).mono ic⟩
  ·rw [if_neg hn,if_neg hn];by_cases Oc:n<0
   ·rw [if_pos Oc,if_pos Oc];exact (bk.ee bk.halt).rel
   ·rw [if_neg Oc,if_neg Oc];refine (ux (hd.mono de).block).bd ?_;rintro ov s _ ic ⟨rfl, -⟩;cases s with
    | none=>exact az
    | some s=>
     obtain ⟨e,cells⟩:=s;refine .program ?_;have hd3:=(hd.mono de).mono ic;show aM L C XM ov (match cellAtBytes L L.depth e (cells / L.cellsOf e) d.off n with | some off=>pure (.pointer (some { d with off })) | none=>unsupported (.unsafePointer "Add")) (match cellAtBytes C C.depth e (cells / C.cellsOf e) d'.off n with | some off=>pure (.pointer (some { d' with off })) | none=>unsupported (.unsafePointer "Add"));rw [H.cab,hd3.off];cases cellAtBytes L L.depth e (cells / L.cellsOf e) d.off n with
     | none=>exact az
     | some off=>exact .pure ⟨_,_,rfl,rfl,hd3.block,rfl,hd3.spot⟩
theorem qY(t:TypeId){a a':Option Addr}{y y':Value}(h:(a=none/\a'=none)\/ ∃d d',a=some d/\a'=some d'/\gR β d d')(hy:aF β y y'):
 aM L C aF β (Builtin.unsafeAdd_ #[] t #[.pointer a,y]) (Builtin.unsafeAdd_ #[] t #[.pointer a',y']):=(uy H t h hy).imp λbV v v' _ ⟨a,a',e1,e2,h⟩=>by subst e1;subst e2;exact .ptr h
omit H in
theorem Kx{a a':Addr}(h:gR β a a')(z:Bool):aM L C aF β (asNumber a z) (asNumber a' z):=by
 unfold asNumber newObj;exact .new (.num z h) λγ r r' hl hr=> .pure (.ptr ⟨hr,rfl,rfl⟩)
theorem jS(t:TypeId){x x' y y':Value}(hx:aF β x x')(hy:aF β y y'):aM L C aF β (movedNumber t x y) (movedNumber t x' y'):=by
 unfold movedNumber;refine (fI H t).bd ?_;rintro gA d _ de ⟨rfl, -⟩;have nN:=hx.mono de;have hy2:=hy.mono de;have key:aM L C aF gA (do
   let .pointer (some n):=x | Builtin.unsafeAdd_ #[] t #[x,y]
   let (a,lost)←behindNumber n
   match←Builtin.unsafeAdd_ #[] t #[.pointer (some a),y] with
   | .pointer (some b)=>asNumber b lost
   | v=>pure v:Sem Value) (do
   let .pointer (some n):=x' | Builtin.unsafeAdd_ #[] t #[x',y']
   let (a,lost)←behindNumber n
   match←Builtin.unsafeAdd_ #[] t #[.pointer (some a),y'] with
   | .pointer (some b)=>asNumber b lost
   | v=>pure v):=by
  cases nN with
  | ptr h=>
   refine (HQ h).bd ?_;rintro ov ⟨a,z⟩ ⟨a',z'⟩ ic ⟨h1,h2⟩;simp only at h1 h2;subst h1;refine (uy H t (.inr ⟨a,a',rfl,rfl,h2⟩) (hy2.mono ic)).bd ?_;rintro sx v v' nV ⟨b,b',rfl,rfl,h⟩;exact Kx h _
  | mE=>exact qY H t (.inl ⟨rfl,rfl⟩) hy2
  | _=>exact az
 cases d
 case unsafePointer=>exact (bk.ee bk.halt).rel
 all_goals exact key
theorem yF(t:TypeId){x x' y y':Value}(hx:aF β x x')(hp: ∃a,x= .pointer a)(hy:aF β y y'):aM L C aF β (movedPointer t x y) (movedPointer t x' y'):=by
 unfold movedPointer;cases hx with
 | ptr h=>
  refine (yE h.block).bd ?_;rintro gA s s' de (⟨rfl,rfl⟩ | ⟨d,d',z,rfl,rfl,hd⟩)
  ·exact qY H t (.inr ⟨_,_,rfl,rfl,h.mono de⟩) (hy.mono de)
  ·exact (bk.ee bk.halt).rel
 | mE=>exact qY H t (.inl ⟨rfl,rfl⟩) hy
 | _=>obtain ⟨a,ha⟩:=hp;cases ha
omit [aR] [bs] in
theorem HR(a b:Addr):bk L (Op.twoPlaces a b):=by
 unfold Op.twoPlaces;refine bk.prog ?_;simp only [H.gl,qa9,ge_iff_le,decide_true,Bool.or_true,if_true];exact bk.ee bk.halt
end
end Go.Cx
namespace Go.Cx
open Go
variable[bq][aR][bs]
section
variable{L C:Program}{β:Bj}(H:fx L C)
include H
theorem Q3{a a':Addr}(h:gR β a a'):aM L C (fR λ_=>True) β (byteOf a) (byteOf a'):=by
 unfold byteOf;rw [h.spot];cases a.spot with
 | some s=>exact .pure ⟨rfl,trivial⟩
 | none=>
  refine .program ?_;unfold noView;simp only [bind_assoc];refine (HN h.block).bd ?_;rintro gA _ _ de ⟨rfl,rfl⟩;simp only [qbo,qa7,if_false,pure_bind];refine (ux (h.mono de).block).bd ?_;rintro ov s _ ic ⟨rfl, -⟩;cases s with
  | none=>exact az
  | some s=>
   obtain ⟨e,n⟩:=s;obtain ⟨e1,e2,e3⟩:=H.bof e (a.off % L.cellsOf e);simp only [e1,h.off,e2,e3];split
   ·exact .pure ⟨rfl,trivial⟩
   ·cases byteOfCell L L.depth e (a.off % L.cellsOf e) with
    | none=>exact az
    | some b=>exact .pure ⟨rfl,trivial⟩
theorem Od(k:IntKind)(n:Int){a a':Addr}(h:gR β a a'):aM L C aF β (Op.addrMod k a n) (Op.addrMod k a' n):=by
 unfold Op.addrMod;refine (ux h.block).bd ?_;rintro gA s _ de ⟨rfl, -⟩;cases s with
 | none=>exact az
 | some s=>
  obtain ⟨e,m⟩:=s;simp only;refine (jG H e).bd ?_;rintro ov i _ ic ⟨rfl, -⟩;split
  ·exact (bk.ee bk.halt).rel
  ·refine (Q3 H ((h.mono de).mono ic)).bd ?_;rintro sx b _ nV ⟨rfl, -⟩;exact .pure (.int _ _)
omit H in
theorem Ky(op:BinOp)(x y:ByteArray):aM L C aF β (Op.stringOp op x y) (Op.stringOp op x y):=by
 refine qV ?_;unfold Op.stringOp;simp only;split
 ·split
  ·exact .inr bk.halt
  ·exact .inl ⟨_,rfl, .string _⟩
 all_goals first | exact .inl ⟨_,rfl, .bool _⟩ | exact .inr bk.halt
omit H in
omit [bq] [aR] [bs] in
theorem Q4(d:Nat)(t:TypeId){x y:Value}(h:x= .tuple #[]\/y= .tuple #[]):bk L (Op.equalIn d t x y):=by
 cases d with
 | zero=>exact bk.halt
 | succ d=>
  unfold Op.equalIn;refine bk.bind λD=> ?_;rcases h with rfl | rfl
  ·cases D <;> first | exact bk.halt | (cases y <;> first | exact bk.halt | (rename_i a;cases a <;> exact bk.halt) | (rename_i a l c;cases a <;> exact bk.halt))
  ·cases D <;> first | exact bk.halt | (cases x <;> first | exact bk.halt | (rename_i a;cases a <;> exact bk.halt) | (rename_i a l c;cases a <;> exact bk.halt))
omit H in
omit [bq] [aR] [bs] in
theorem Q5(op:BinOp)(t:TypeId){x y:Value}(h:x= .tuple #[]\/y= .tuple #[]):bk L (binOp op t x y):=by
 have he:bk L (Op.equal t x y):=Q4 _ t h;unfold binOp;rcases h with rfl | rfl
 ·cases op <;> cases y <;> first | exact bk.halt | exact bk.ee he | (rename_i a;cases a <;> exact bk.halt)
 ·cases op <;> cases x <;> first | exact bk.halt | exact bk.ee he | (rename_i a;cases a <;> exact bk.halt)
theorem U8(op:BinOp)(t:TypeId)(ht:op= .eql\/op= .neq->N5 L t){x x' y y':Value}(hx:aF β x x')(hy:aF β y y'):aM L C aF β (binOp op t x y) (binOp op t x' y'):=by
 have AO:N5 L t->aM L C aF β (do pure (.bool (←Op.equal t x y)):Sem Value) (do pure (.bool (←Op.equal t x' y'))):=λh=>by
  refine (vK H _ h hx hy).bd ?_;rintro gA b _ de ⟨rfl, -⟩;exact .pure (.bool _)
 have AP:N5 L t->aM L C aF β (do pure (.bool (!(←Op.equal t x y))):Sem Value) (do pure (.bool (!(←Op.equal t x' y')))):=λh=>by
  refine (vK H _ h hx hy).bd ?_;rintro gA b _ de ⟨rfl, -⟩;exact .pure (.bool _)
 have hii: ∀k a k' b,aM L C aF β (binOp op t (.int k a) (.int k' b)) (binOp op t (.int k a) (.int k' b)):=by
  intro k a k' b;unfold binOp;by_cases hk:k≠k'
  ·cases op
   case shl=>exact xS _ _ _ _ _
   case shr=>exact xS _ _ _ _ _
   all_goals (simp only [hk,ne_eq,not_false_eq_true,if_true];exact az)
  ·cases op
   case shl=>exact xS _ _ _ _ _
   case shr=>exact xS _ _ _ _ _
   all_goals (simp only [hk,if_false];first | exact yD _ _ _ _ | exact QZ _ _ _ _ | exact B8 _ _ _ _ | exact Q0 _ _ _)
 have hss: ∀a b,aM L C aF β (binOp op t (.string a) (.string b)) (binOp op t (.string a) (.string b)):=by
  intro a b;unfold binOp;cases op <;> exact Ky _ _ _
 have Zv: ∀{a a':Addr} (k:IntKind) (n:Int),gR β a a'->aM L C aF β (do Op.addrMod k (←behindNumber a).1 n:Sem Value) (do Op.addrMod k (←behindNumber a').1 n):=λk n h=>by
  refine (HQ h).bd ?_;rintro gA x x' de ⟨h1,h2⟩;exact Od H k n h2
 have ach: ∀{x x' y y':Value},aF β x x'->(∃a,x= .pointer a)->aF β y y'->aM L C aF β (do if (←underlying t) matches .unsafePointer then movedPointer t x y else movedNumber t x y:Sem Value) (do if (←underlying t) matches .unsafePointer then movedPointer t x' y' else movedNumber t x' y'):=λhx hp hy=>by
  refine (fI H t).bd ?_;rintro gA d _ de ⟨rfl, -⟩;cases d
  case unsafePointer=>exact yF H t (hx.mono de) hp (hy.mono de)
  all_goals exact jS H t (hx.mono de) (hy.mono de)
 by_cases hh:x= .tuple #[]\/y= .tuple #[]
 ·exact (Q5 op t hh).rel
 have afV: ∀a b,bk L (do Op.addrSub .u64 (←behindNumber a).1 (←behindNumber b).1:Sem Value):=λa b=>bk.bind λ_=>bk.bind λ_=>bk.ee (HR H _ _);have afW: ∀o a b,bk L (do Op.addrCmp o (←behindNumber a).1 (←behindNumber b).1:Sem Value):=λo a b=>bk.bind λ_=>bk.bind λ_=>bk.ee (HR H _ _);cases hx with
 | int k a=>
  cases hy with
  | int k' b=>exact hii k a k' b
  | ptr h=>
   unfold binOp;cases op
   case eql=>exact AO (ht (.inl rfl))
   case neq=>exact AP (ht (.inr rfl))
   case add=>exact jS H t (.ptr h) (.int _ _)
   case and=>exact Zv _ _ h
   all_goals exact az
  | mE=>
   unfold binOp;cases op
   case eql=>exact AO (ht (.inl rfl))
   case neq=>exact AP (ht (.inr rfl))
   case add=>exact jS H t .mE (.int _ _)
   all_goals exact az
  | hole _ _=>exact (hh (.inr rfl)).elim
  | _=>
   unfold binOp;cases op
   case eql=>exact AO (ht (.inl rfl))
   case neq=>exact AP (ht (.inr rfl))
   all_goals exact az
 | string a=>
  cases hy with
  | string b=>exact hss a b
  | hole _ _=>exact (hh (.inr rfl)).elim
  | _=>
   unfold binOp;cases op
   case eql=>exact AO (ht (.inl rfl))
   case neq=>exact AP (ht (.inr rfl))
   all_goals exact az
 | ptr h=>
  cases hy with
  | int k n=>
   unfold binOp;cases op
   case eql=>exact AO (ht (.inl rfl))
   case neq=>exact AP (ht (.inr rfl))
   case add=>exact ach (.ptr h) ⟨_,rfl⟩ (.int _ _)
   case sub=>exact jS H t (.ptr h) (.int _ _)
   case rem=>exact Zv _ _ h
   case and=>exact Zv _ _ h
   all_goals exact az
  | ptr h'=>
   unfold binOp;cases op
   case eql=>exact AO (ht (.inl rfl))
   case neq=>exact AP (ht (.inr rfl))
   case sub=>exact (afV _ _).rel
   all_goals first | exact az | exact (afW _ _ _).rel
  | hole _ _=>exact (hh (.inr rfl)).elim
  | _=>
   unfold binOp;cases op
   case eql=>exact AO (ht (.inl rfl))
   case neq=>exact AP (ht (.inr rfl))
   all_goals exact az
 | mE=>
  cases hy with
  | int k n=>
   unfold binOp;cases op
   case eql=>exact AO (ht (.inl rfl))
   case neq=>exact AP (ht (.inr rfl))
   case add=>exact ach .mE ⟨_,rfl⟩ (.int _ _)
   case sub=>exact jS H t .mE (.int _ _)
   all_goals exact az
  | hole _ _=>exact (hh (.inr rfl)).elim
  | _=>
   unfold binOp;cases op
   case eql=>exact AO (ht (.inl rfl))
   case neq=>exact AP (ht (.inr rfl))
   all_goals exact az
 | hole _ _=>exact (hh (.inl rfl)).elim
 | _=>
  cases hy
  case hole=>exact (hh (.inr rfl)).elim
  all_goals
   unfold binOp;cases op
   case eql=>exact AO (ht (.inl rfl))
   case neq=>exact AP (ht (.inr rfl))
   all_goals exact az
end
end Go.Cx
namespace Go.Cx
open Go
variable[bq][aR][bs]
inductive Oe(β:Bj):Target->Target->Prop
 | fn {f f':Fn} {c c':Array Value}:AM β f f'->aQ β c c'->Oe β (.fn f c) (.fn f' c')
 | method (n:String):Oe β (.fn (.method n) #[]) (.fn (.method n) #[])
 | builtin (b:Builtin) (ts:Array TypeId) (t:TypeId) (cs:Array Bool):Oe β (.builtin b ts t cs) (.builtin b ts t cs)
 | nil:Oe β .nil .nil
structure aci(β:Bj)(d d':Deferred):Prop where
 target:Oe β d.target d'.target
 args:aQ β d.args d'.args
inductive kQ(β:Bj):Next->Next->Prop
 | value {v v':Value}:aF β v v'->kQ β (.value v) (.value v')
 | skip:kQ β .skip .skip
 | enter (f:FuncId) {x x':Array Value}:bq.ok f->bq.qu f->aQ β x x'->kQ β (.enter f x) (.enter f x')
 | round {l l':Nat} (f:FuncId) {x x':Array Value} (a b:Code):aR.code a->aR.code b->β l l'->aQ β x x'->kQ β (.round l f x a b) (.round l' f x' a b)
section
variable{L C:Program}{β:Bj}(H:fx L C)
include H
theorem yG(f:FuncId)(qx:bq.ok f){x x':Array Value}(hx:aQ β x x'):aM L C kQ β (callFunc f x) (callFunc f x'):=by
 cases hf:L.funcs[f]? with
 | none=>
  refine bk.rel ?_;unfold callFunc;refine bk.prog ?_;rw [hf];exact bk.halt
 | some fn=>
  by_cases hb:fn.body.isNone=true
  ·exact bk.rel (H.nob f fn hf hb x)
  ·simp only [qbd] at hb;obtain ⟨h0,h1,iF,h2,h3,h4⟩:=H.fns f fn hf hb;unfold callFunc;refine .program ?_;show aM L C kQ β (match L.funcs[f]? with | none=>_ | some fn=>_) (match C.funcs[f]? with | none=>_ | some fn=>_);rw [hf,h2];simp only [h1,h4,hb,h3,qa7,if_false];exact .pure (.enter f qx h0 hx)
omit H in
omit [bq] [aR] [bs] in
theorem Of(ts:Array TypeId)(t:TypeId)(a b:ByteArray):bk L (Builtin.ssaWrapNilChk_ ts t #[.pointer none, .string a, .string b]):=by
 change bk L (_ >>= _);refine bk.bind λn=> ?_;by_cases hn:(n==1)=true
 ·simp only [hn,if_true];exact bk.ee bE
 ·simp only [hn,if_false];cases ts[0]? with
  | none=>exact bk.halt
  | some pt=>
   refine bk.bind λd=> ?_;cases d
   case pointer t=>
    refine bk.bind λi=> ?_;split
    ·split
     ·split
      ·exact bE
      ·exact bk.halt
     ·exact bk.halt
    ·exact bk.halt
   all_goals exact bk.halt
theorem EN(t:TypeId){v v':Value}(hv:aF β v v')(p:Bool)(w:Option String):aM L C aF β (receiverAt t (.val v) p w) (receiverAt t (.val v') p w):=by
 unfold receiverAt;refine (fI H t).bd ?_;rintro gA d _ de ⟨rfl, -⟩;have th:=hv.mono de;cases d
 case pointer e=>
  cases p with
  | true=>exact .pure th
  | false=>
   simp only [Place.get];refine aM.bd (RA:=aF) (.pure th) ?_;intro ov u u' ic hu;cases w with
   | none=>
    refine aM.bd (RA:=aF) (.pure hu) ?_;intro sx q q' nV hq;refine (uq hq).bd ?_;intro MD a a' yC ha;exact rT H e ha
   | some name=>
    refine aM.bd (RA:=aF) (s:=Builtin.ssaWrapNilChk_ #[t] t #[u,strVal "",strVal name]) (t:=Builtin.ssaWrapNilChk_ #[t] t #[u',strVal "",strVal name]) ?_ ?_
    ·cases hu with
     | ptr h=>exact .pure (.ptr h)
     | mE=>exact (Of _ _ _ _).rel
     | _=>exact az
    ·intro sx q q' nV hq;refine (uq hq).bd ?_;intro MD a a' yC ha;exact rT H e ha
 all_goals (cases p <;> first | exact az | exact .pure th)
theorem HS: ∀(fuel:Nat) (t:TypeId) {β:Bj} {v v':Value} (name:String),aF β v v'->aM L C (λβ (x x':FuncId×Value)=>x.1=x'.1/\bq.ok x.1/\aF β x.2 x'.2) β (method fuel t v name) (method fuel t v' name)
 | 0,t,β,v,v',name,hv=>az
 | fuel+1,t,β,v,v',name,hv=>by
  unfold method;refine (jG H t).bd ?_;rintro gA i _ de ⟨rfl,hi⟩;cases hm:i.methods.find? (·.name==name) with
  | none=>exact az
  | some m=>
   obtain ⟨hp,vt⟩:=H.mp t i m hi (Array.mem_of_find?_eq_some hm);simp only [hp,follow,pure_bind];cases hmf:m.func with
   | none=>
    simp only;refine aM.bd (RA:=aF) (.pure (hv.mono de)) ?_;intro ov u u' ic hu;cases hu with
    | iface t' h=>exact HS fuel t' name h
    | gv=>exact bE.rel
    | _=>exact az
   | some fp=>
    obtain ⟨f,p⟩:=fp;simp only;refine (EN H t (hv.mono de) p _).bd ?_;intro ov u u' ic hu;exact .pure ⟨rfl,vt f p hmf,hu⟩
theorem yH: ∀(fuel:Nat) (t:TypeId) {β:Bj} {v v':Value} (name:String),aF β v v'->aM L C (λ_ (x x':Option Bool)=>x'=x) β (nilAhead fuel t v name) (nilAhead fuel t v' name)
 | 0,t,β,v,v',name,hv=> .pure rfl
 | fuel+1,t,β,v,v',name,hv=>by
  unfold nilAhead;refine (jG H t).bd ?_;rintro gA i _ de ⟨rfl,hi⟩;cases hm:i.methods.find? (·.name==name) with
  | none=>exact az
  | some m=>
   obtain ⟨hp,vt⟩:=H.mp t i m hi (Array.mem_of_find?_eq_some hm);simp only [hp,followBlind,pure_bind];have th:=hv.mono de;cases hmf:m.func with
   | none=>
    try simp only
    cases th with
    | iface t' h=>exact yH fuel t' name h
    | gv=>exact .pure rfl
    | _=>exact az
   | some fp=>
    obtain ⟨f,p⟩:=fp;cases p with
    | true=>exact .pure rfl
    | false=>
     try simp only
     refine (fI H t).bd ?_;rintro ov d _ ic ⟨rfl, -⟩;cases d
     case pointer e=>
      cases th with
      | mE=>exact .pure rfl
      | ptr h=>exact .pure rfl
      | hole ho hp=>cases v' <;> first | exact ho.elim | exact .pure rfl | (rename_i a;cases a <;> first | exact ho.elim | exact .pure rfl)
      | _=>exact .pure rfl
     all_goals exact .pure rfl
theorem uz{v v':Value}(name:String){x x':Array Value}(hv:aF β v v')(hx:aQ β x x'):aM L C kQ β (callMethod v name x) (callMethod v' name x'):=by
 unfold callMethod;cases hv with
 | iface t h=>
  refine .program ?_;show aM L C kQ β (do
   let (f,receiver)←method (L.types.size+Made.depth) t _ name
   callFunc f (#[receiver]++x)) (do
   let (f,receiver)←method (C.types.size+Made.depth) t _ name
   callFunc f (#[receiver]++x'))
  rw [H.Pz];refine (HS H _ t name h).bd ?_;rintro gA ⟨f,r⟩ ⟨f',r'⟩ de ⟨h1,h0,h2⟩;simp only at h1 h0 h2;subst h1;exact yG H f h0 ((aQ.one h2).append (hx.mono de))
 | gv=>exact bE.rel
 | _=>exact az
omit H in
theorem oQ{l l':Nat}(h:β l l'):aM L C Kq β (Instr.getLoop l) (Instr.getLoop l'):=by
 unfold Instr.getLoop;refine aM.bd (RA:=pJ) (.getObj h λo o' ho=> .pure ho) ?_;intro gA o o' de ho;cases ho with
 | loop h=>exact .pure h
 | z6 b=>cases b <;> exact az
 | _=>exact az
omit H in
omit [aR] in
theorem HT(ps:Array Tmp){x x' t t':Array Value}(hx:aQ β x x')(ht:aQ β t t'):aQ β ((ps.zip x).foldl (λtmps (t,a)=>tmps.setIfInBounds t a) t) ((ps.zip x').foldl (λtmps (t,a)=>tmps.setIfInBounds t a) t'):=by
 have key: ∀(l:List Tmp) {y y':List Value} {t t':Array Value},ml β y y'->aQ β t t'->aQ β ((l.zip y).foldl (λtmps (q:Tmp×Value)=>tmps.setIfInBounds q.1 q.2) t) ((l.zip y').foldl (λtmps (q:Tmp×Value)=>tmps.setIfInBounds q.1 q.2) t'):=by
  intro l
  induction l with
  | nil=>intro y y' t t' _ ht;exact ht
  | cons p l ih=>
   intro y y' t t' hy ht;cases hy with
   | nil=>exact ht
   | cons hv hl=>exact ih hl (ht.set hv p)
 have:=key ps.toList hx.list ht;rw [←Array.foldl_toList, ←Array.foldl_toList,Array.toList_zip,Array.toList_zip];exact this
omit H in
theorem Va{l l':Nat}(h:β l l'){x x':Array Value}(hx:aQ β x x'):aM L C kQ β (Instr.yield l x) (Instr.yield l' x'):=by
 unfold Instr.yield;refine (oQ h).bd ?_;intro gA r r' de hr;rw [←hx.1,hr.params];split
 ·exact (bk.ee bk.halt).rel
 ·rw [hr.fn,hr.assign,hr.body];exact .pure (.round _ _ _ hr.ca hr.cb (de _ _ h) (HT _ (hx.mono de) hr.tmps))
end
end Go.Cx
namespace Go.Cx
open Go
variable[bq][aR][bs]
def kg:Operand->Prop
 | .tmp _=>True
 | .const v=>Plain v
 | .global _=>False
 | .func f=>bq.ok f
def okB:Builtin->Bool
 | .append | .cap | .clear | .len | .max | .min=>true
 | _=>false
def yI:Callee->Prop
 | .value f=>kg f
 | .invoke r _=>kg r
 | .builtin b=>okB b=true
def Kz(L C:Program):Op->Prop
 | .move x | .assign x | .box _ x | .load _ x | .nilCheck x | .unOp _ _ x | .sliceToArrayPointer _ x | .makeInterface _ x | .extract x _ | .panic x=>kg x
 | .typeAssert x _ t _=>kg x/\T1 L t
 | .pick c a b=>kg c/\kg a/\kg b
 | .alloc t=>T1 L t
 | .build t ps=>(∀p∈ps,kg p.2)/\T1 L t
 | .buildSlice t _ ps=>(∀p∈ps,kg p.2)/\NU L t
 | .makeSlice t a x=>kg a/\kg x/\NU L t
 | .store _ a x | .indexAddr _ a x | .index _ a x=>kg a/\kg x
 | .binOp op t x y _=>kg x/\kg y/\(op= .eql\/op= .neq->N5 L t/\L.eqGuardType L.depth t=false/\C.eqGuardType C.depth t=false)
 | .convert s d x=>kg x/\(∃k,L.underlying s=some (.int k))/\ ∃k,L.underlying d=some (.int k)
 | .makeFunc (.func f) xs ys=>(∀x∈xs,kg x)/\(∀y∈ys,kg y)/\bq.ok f
 | .slice _ x l h m=>kg x/\(∀y∈l,kg y)/\(∀y∈h,kg y)/\ ∀y∈m,kg y
 | .fieldAddr s x i=>kg x/\ ∀(fs:Array Field) (f:Field) (inf:TypeInfo),L.underlying s=some (.struct fs)->fs[i]? =some f->L.info? f.type=some inf->inf.size≠0
 | .call c=>yI c.callee/\(∀x∈c.args,kg x)/\ ∀ty∈c.argTypes,NU L ty
 | _=>False
section
variable{L C:Program}{β:Bj}(H:fx L C)
include H
omit H in
omit [aR] in
theorem CB{v v':Value}(hv:aF β v v')(b:Bool):aF β (.tuple #[v, .bool b]) (.tuple #[v', .bool b]):=(aQ.push (aQ.one hv) (.bool b)).HI
theorem EO(xt at_:TypeId)(ok:Bool)(JC:T1 L at_){v v':Value}(hv:aF β v v'):aM L C aF β (Instr.typeAssert v xt at_ ok) (Instr.typeAssert v' xt at_ ok):=by
 unfold Instr.typeAssert;refine (fI H at_).bd ?_;rintro gA d _ de ⟨rfl, -⟩;have th:=hv.mono de;have holds: ∀{β:Bj} {u u':Value},aF β u u'->aM L C aF β (pure (if ok then .tuple #[u, .bool true] else u):Sem Value) (pure (if ok then .tuple #[u', .bool true] else u')):=by
  intro β u u' hu;cases ok with
  | true=>exact .pure (CB hu true)
  | false=>exact .pure hu
 have MF: ∀(s d:Option TypeId) (m:String) {β:Bj},aM L C aF β (if ok then do pure (.tuple #[←zeroValue at_, .bool false]) else runtimePanic (.typeAssertion s d at_ m):Sem Value) (if ok then do pure (.tuple #[←zeroValue at_, .bool false]) else runtimePanic (.typeAssertion s d at_ m)):=by
  intro s d m β;split
  ·refine (Ks H at_ JC).bd ?_;intro ov z z' ic hz;exact .pure (CB hz false)
  ·exact bE.rel
 cases d
 case interface ms=>
  cases th with
  | gv=>exact MF _ _ _
  | iface t h=>
   refine (jG H t).bd ?_;rintro ov i _ ic ⟨rfl, -⟩;split
   ·exact holds (.iface t (h.mono ic))
   ·exact MF _ _ _
  | _=>exact az
 all_goals
  cases th with
  | gv=>exact MF _ _ _
  | iface t h=>
   simp only;split
   ·exact holds h
   ·exact MF _ _ _
  | _=>exact az
theorem Og(op:BinOp)(t:TypeId)(x y:Operand)(ht:op= .eql\/op= .neq->N5 L t/\L.eqGuardType L.depth t=false/\C.eqGuardType C.depth t=false){a a' b b':Value}(ha:aF β a a')(hb:aF β b b'):
  aM L C (fR λ_=>True) β (eqGuard op t x y a b) (eqGuard op t x y a' b'):=by
 unfold eqGuard;by_cases ho:op= .eql\/op= .neq
 ·obtain ⟨h1,h2,h3⟩:=ht ho;rcases ho with rfl | rfl
  all_goals
   simp only [qah,qa7,if_false];cases ha with
   | gv=>
    cases hb with
    | gv=>
     simp only;have:aM L C (λ_ (x x':Bool)=>x=false/\x'=false) β (Op.eqGuardIn Op.maxDepth t .nilIface .nilIface) (Op.eqGuardIn Op.maxDepth t .nilIface .nilIface):=by
      show aM L C _ β (Op.eqGuardIn (9999+1) t .nilIface .nilIface) (Op.eqGuardIn (9999+1) t .nilIface .nilIface);unfold Op.eqGuardIn;refine (fI H t).bd ?_;rintro gA d _ de ⟨rfl,hd⟩;cases h1 with
      | bool h=>rw [h] at hd;cases hd;exact .pure ⟨rfl,rfl⟩
      | int h=>rw [h] at hd;cases hd;exact .pure ⟨rfl,rfl⟩
      | string h=>rw [h] at hd;cases hd;exact .pure ⟨rfl,rfl⟩
      | slice h=>rw [h] at hd;cases hd;exact .pure ⟨rfl,rfl⟩
      | struct h _ _=>rw [h] at hd;cases hd;exact .pure ⟨rfl,rfl⟩
     repeat' split
     all_goals first
      | exact .pure ⟨rfl,trivial⟩
      | (refine this.bd ?_;rintro gA _ _ de ⟨rfl,rfl⟩;exact .pure ⟨rfl,trivial⟩)
    | @hole b' ho _=>cases b' <;> first | exact ho.elim | exact .pure ⟨rfl,trivial⟩
    | _=>exact .pure ⟨rfl,trivial⟩
   | agg h k=>
    cases hb with
    | agg h' k'=>
     refine .program ?_;show aM L C _ β (do
      if !L.eqGuardType (←program).depth t then return
      if←Op.eqGuardIn Op.maxDepth t _ _ then unsupported _) (do
      if !C.eqGuardType (←program).depth t then return
      if←Op.eqGuardIn Op.maxDepth t _ _ then unsupported _)
     refine .program ?_;show aM L C _ β (do
      if !L.eqGuardType L.depth t then return
      if←Op.eqGuardIn Op.maxDepth t _ _ then unsupported _) (do
      if !C.eqGuardType C.depth t then return
      if←Op.eqGuardIn Op.maxDepth t _ _ then unsupported _)
     rw [h2,h3];exact .pure ⟨rfl,trivial⟩
    | @hole b' ho _=>cases b' <;> first | exact ho.elim | exact .pure ⟨rfl,trivial⟩
    | _=>exact .pure ⟨rfl,trivial⟩
   | @hole a' ho _=>cases a' <;> first | exact ho.elim | exact .pure ⟨rfl,trivial⟩
   | _=>cases hb <;> exact .pure ⟨rfl,trivial⟩
 ·cases op <;> first | exact .pure ⟨rfl,trivial⟩ | exact absurd (.inl rfl) ho | exact absurd (.inr rfl) ho
omit H in
omit [bq] [aR] [bs] in
theorem EP:lk L Instr.panicnil:=by
 have hk: ∀{α:Type} (x:Ask α) (w:World),(w.ask x).2.heap=w.heap:=by
  intro α x
  induction x with
  | done a=>intro w;rfl
  | ask afX range k ih=>
   intro w;unfold World.ask;simp only;split
   ·exact ih _ w
   ·exact ih _ { w with drawn:=w.drawn+1 }
 have hs:lk L (sys .env):=gZ λw=>by
  refine .inl ⟨_,_,rfl, ?_⟩;have:=hk (Kernel.perform .env w.os) w;unfold World.sys;generalize w.ask (Kernel.perform .env w.os)=q at this;obtain ⟨⟨r,os⟩,w'⟩:=q;cases r <;> first | exact this | rfl
 unfold Instr.panicnil;refine @eJ _ _ _ _ _ hs λd=> ?_;split <;> infer_instance
omit H in
omit [bq] [aR] [bs] in
theorem KA(v:Value):bk L (Instr.panic v):=by
 unfold Instr.panic;cases v <;> first | exact bk.halt | skip
 refine bk.bind (hm:=EP) λn=> ?_;split
 ·exact bk.halt
 ·exact bE
theorem Oh(b:Builtin)(hb:okB b=true)(ts:Array TypeId)(BN: ∀ty∈ts,NU L ty)(t:TypeId)(cs:Array Bool){x x':Array Value}(hx:aQ β x x'):aM L C kQ β (builtin b ts t cs x) (builtin b ts t cs x'):=by
 have fin: ∀{s s':Sem Value},aM L C aF β s s'->aM L C kQ β (do pure (.value (←s))) (do pure (.value (←s'))):=λh=>h.bd λbV a a' hl ha=> .pure (.value ha);unfold builtin;cases b <;> first | (cases hb;done) | skip
 ·exact fin (Q1 H ts t BN hx)
 ·exact fin (acb H ts t hx)
 ·exact fin (U6 H ts t BN hx)
 ·exact fin (aca H ts t hx)
 ·exact fin (ace ts t hx)
 ·exact fin (acd ts t hx)
end
end Go.Cx
namespace Go.Cx
open Go
variable[bq][aR][bs]
section
variable{L C:Program}{β:Bj}(H:fx L C)
include H
theorem HU{t t':Target}(ht:Oe β t t')(hb: ∀b ts u cs,t= .builtin b ts u cs->okB b=true/\ ∀ty∈ts,NU L ty){x x':Array Value}(hx:aQ β x x'):aM L C kQ β (invoke t x) (invoke t' x'):=by
 unfold invoke;cases ht with
 | nil=>exact bE.rel
 | builtin b ts u cs=>exact Oh H b (hb _ _ _ _ rfl).1 ts (hb _ _ _ _ rfl).2 u cs hx
 | method n=>
  simp only;cases h0:x[0]? with
  | none=>exact az
  | some v=>
   obtain ⟨v',h1,hv⟩:=hx.get h0;rw [h1];simp only;rw [←hx.1];exact uz H n hv (hx.extract _ _)
 | fn hf hc=>
  cases hf with
  | func f hf=>exact yG H f hf (hx.append hc)
  | yield hl=>exact Va hl hx
  | method n=>
   simp only;cases h0:x[0]? with
   | none=>exact az
   | some v=>
    obtain ⟨v',h1,hv⟩:=hx.get h0;rw [h1];simp only;rw [←hx.1];exact uz H n hv (hx.extract _ _)
omit H in
theorem Oi{ρ oI:Operand->Value}(kR: ∀x,kg x->aF β (ρ x) (oI x))(c:Call)(t:TypeId)(h1:yI c.callee)(h2: ∀x∈c.args,kg x)(h3: ∀ty∈c.argTypes,NU L ty):
  aM L C (λβ (d d':Deferred)=>aci β d d'/\ ∀b ts u cs,d.target= .builtin b ts u cs->okB b=true/\ ∀ty∈ts,NU L ty) β (resolve ρ c t) (resolve oI c t):=by
 unfold resolve;have ha:aQ β (c.args.map ρ) (c.args.map oI):=aQ.map λx hx=>kR x (h2 x hx);revert h1;cases c.callee with
 | builtin b=>
  intro h1;exact .pure ⟨⟨.builtin _ _ _ _,ha⟩,λb' ts u cs q=>by cases q;exact ⟨h1,h3⟩⟩
 | invoke r n=>
  intro h1;exact .pure ⟨⟨.method n,(aQ.one (kR r h1)).append ha⟩,λb' ts u cs q=>by cases q⟩
 | value f=>
  intro h1;have hf:=kR f h1;unfold Deferred.ofValue;dsimp only;generalize ρ f=u at hf;generalize oI f=u' at hf;cases hf with
  | func g a1 a2 a3 a4=>exact .pure ⟨⟨.fn g ⟨a2,a4⟩,aQ.append ⟨a1,a3⟩ ha⟩,λb' ts u cs q=>by cases q⟩
  | ni=>exact .pure ⟨⟨.nil,ha⟩,λb' ts u cs q=>by cases q⟩
  | _=>exact az
omit H in
theorem lq{s s':Sem Value}(h:aM L C aF β s s'):aM L C kQ β (do pure (.value (←s))) (do pure (.value (←s'))):=h.bd λbV a a' hl ha=> .pure (.value ha)
omit H in
omit [aR] in
theorem KB{ρ oI:Operand->Value}: ∀(l:List (Nat×Operand)),(∀p∈l,aF β (ρ p.2) (oI p.2))->sP β (l.map fun (i,x)=>(i,ρ x)) (l.map fun (i,x)=>(i,oI x))
 | [],_=> .nil
 | (i,x)::l,h=> .cons i (h (i,x) (by simp)) (KB l λp hp=>h p (by simp [hp]))
omit H in
omit [aR] in
theorem KC{ρ oI:Operand->Value}(o:Option Operand)(h: ∀y∈o,aF β (ρ y) (oI y)):mn β (o.map ρ) (o.map oI):=by
 cases o with
 | none=>exact .none
 | some y=>exact .some (h y rfl)
theorem KD{ρ oI:Operand->Value}(kR: ∀x,kg x->aF β (ρ x) (oI x))(o:Oper)(ho:Kz L C o.op):aM L C kQ β (execOp ρ o) (execOp oI o):=by
 unfold execOp;revert ho;cases o.op <;> intro ho <;> try exact False.elim ho
 case move x=>exact .pure (.value (kR x ho))
 case assign x=>exact .pure (.value (kR x ho))
 case pick c a b=>
  refine (QW (kR c ho.1)).bd ?_;rintro gA z _ hl ⟨rfl, -⟩;cases z with
  | true=>exact .pure (.value ((kR a ho.2.1).mono hl))
  | false=>exact .pure (.value ((kR b ho.2.2).mono hl))
 case alloc e=>exact lq (US H e ho)
 case box e x=>exact lq (ab8 e (kR x ho))
 case build t ps=>
  refine lq (U2 H t ho.2 ?_);rw [Array.toList_map,Array.toList_map];exact KB _ λp hp=>kR _ (ho.1 p (by simpa using hp))
 case buildSlice t n ps=>
  refine lq (EL H t n ho.2 ?_);rw [Array.toList_map,Array.toList_map];exact KB _ λp hp=>kR _ (ho.1 p (by simpa using hp))
 case load t a=>exact lq (QX H t (kR a ho))
 case store t a x=>
  refine (NV H t (kR a ho.1) (kR x ho.2)).bd ?_;rintro gA z _ hl ⟨rfl, -⟩;exact .pure .skip
 case nilCheck x=>
  have hx:=kR x ho;dsimp only;generalize ρ x=u at hx;generalize oI x=u' at hx;cases hx with
  | mE=>exact bE.rel
  | gv=>exact bE.rel
  | ni=>exact bE.rel
  | bool b=>exact .pure (.value (.bool b))
  | int k n=>exact .pure (.value (.int k n))
  | string s=>exact .pure (.value (.string s))
  | ptr h=>exact .pure (.value (.ptr h))
  | jc n c=>exact .pure (.value (.jc n c))
  | slice n c h=>exact .pure (.value (.slice n c h))
  | @func _ _ x x' y y' h h1 h2 h3 h4=>
   cases h with
   | func f hf=>exact .pure (.value (.func (.func f hf) h1 h2 h3 h4))
   | yield h=>exact .pure (.value (.func (.yield h) h1 h2 h3 h4))
   | method n=>
    simp only;cases h0:x[0]? with
    | none=>
     have GR:x'[0]? =none:=by
      rw [Array.getElem?_eq_none_iff] at h0 ⊢;rw [←h1];exact h0
     rw [GR];exact .pure (.value (.func (.method n) h1 h2 h3 h4))
    | some z=>
     obtain ⟨z',GR,hz⟩:=aQ.get ⟨h1,h3⟩ h0;rw [GR];cases hz with
     | gv=>exact bE.rel
     | iface t hw=>
      refine .program ?_;show aM L C _ β (nilAhead (L.types.size+Made.depth) t _ n >>= λr=>_) (nilAhead (C.types.size+Made.depth) t _ n >>= λr=>_);rw [H.Pz];refine (yH H _ t n hw).bd ?_;rintro gA r r' de hr';rw [show r'=r from hr'];by_cases hr:(r != some false)=true
      ·simp only [hr,if_true];exact az
      ·simp only [hr,if_false];exact .pure (.value ((aF.func (.method n) h1 h2 h3 h4).mono de))
     | hole ho hp=>cases z' <;> first | exact ho.elim | exact (bs.noI _ _ hp).elim | exact .pure (.value (.func (.method n) h1 h2 h3 h4))
     | _=>exact .pure (.value (.func (.method n) h1 h2 h3 h4))
  | iface t h=>exact .pure (.value (.iface t h))
  | agg h k=>exact .pure (.value (.agg h k))
  | tuple h k=>exact .pure (.value (.tuple h k))
  | hole h k=>cases u' <;> first | exact h.elim | exact .pure (.value (.hole h k)) | (rename_i a;cases a <;> first | exact h.elim | exact .pure (.value (.hole h k))) | (rename_i a _ _;cases a <;> first | exact h.elim | exact .pure (.value (.hole h k)))
 case binOp op t x y u=>
  refine lq ?_;refine (Og H op t x y ho.2.2 (kR x ho.1) (kR y ho.2.1)).bd ?_;rintro gA z _ hl ⟨rfl, -⟩;exact U8 H op t (λq=>(ho.2.2 q).1) ((kR x ho.1).mono hl) ((kR y ho.2.1).mono hl)
 case unOp op t x=>exact lq (UX op (kR x ho))
 case convert s d x=>exact lq (N1 s d H (kR x ho.1) ho.2.1 ho.2.2)
 case sliceToArrayPointer a x=>exact lq (NZ H a (kR x ho))
 case makeInterface t x=>exact lq (xr H t (kR x ho))
 case makeFunc fn xs ys=>
  cases fn <;> try exact False.elim ho
  exact lq (Ku (.func _ ho.2.2) (aQ.map λx hx=>kR x (ho.1 x hx)) (aQ.map λx hx=>kR x (ho.2.1 x hx)))
 case makeSlice t a b=>exact lq (HM H t ho.2.2 (kR a ho.1) (kR b ho.2.1))
 case slice t x l h m=>exact lq (NY H t (kR x ho.1) (KC l λy hy=>kR y (ho.2.1 y hy)) (KC h λy hy=>kR y (ho.2.2.1 y hy)) (KC m λy hy=>kR y (ho.2.2.2 y hy)))
 case fieldAddr s x i=>exact lq (N0 H s i ho.2 (kR x ho.1))
 case indexAddr t a b=>exact lq (NX H t (kR a ho.1) (kR b ho.2))
 case index t a b=>exact lq (UT H t (kR a ho.1) (kR b ho.2))
 case typeAssert x a b c=>exact lq (EO H a b c ho.2 (kR x ho.1))
 case extract x i=>exact lq (NW i (kR x ho))
 case call c=>
  refine (Oi kR c o.type ho.1 ho.2.1 ho.2.2).bd ?_;rintro gA d d' hl ⟨h1,h2⟩;exact HU H h1.target h2 h1.args
 case panic x=>exact bk.rel (bk.ee (KA _))
end
end Go.Cx
namespace Go.Cx
open Go
section
variable[bq]
inductive cG(L C:Program):Code->Prop
 | skip:cG L C .skip
 | region (id:Nat) {ops:Array Oper} (draw:Bool):(∀o∈ops,Kz L C o.op)->cG L C (.region id ops draw)
 | seq {a b:Code}:cG L C a->cG L C b->cG L C (.seq a b)
 | cond {c:Operand} {a b:Code}:kg c->cG L C a->cG L C b->cG L C (.cond c a b)
 | block (id:Nat) {a:Code}:cG L C a->cG L C (.block id a)
 | loop {a:Code}:cG L C a->cG L C (.loop a)
 | rangeFunc {f:Operand} (ps:Array Tmp) {a b:Code}:kg f->cG L C a->cG L C b->cG L C (.rangeFunc f ps a b)
 | exit (id:Nat):cG L C (.exit id)
 | label (l:Nat):cG L C (.label l)
 | ret:cG L C .ret
end
variable[bq][aR][bs]
inductive nW(L C:Program)(β:Bj):Item->Item->Prop
 | code {c:Code}:cG L C c->nW L C β (.code c) (.code c)
 | inBlock (id:Nat):nW L C β (.inBlock id) (.inBlock id)
 | inLoop {c:Code}:cG L C c->nW L C β (.inLoop c) (.inLoop c)
 | inRegion {ops:Array Oper} (todo:List Nat):(∀o∈ops,Kz L C o.op)->nW L C β (.inRegion ops todo) (.inRegion ops todo)
 | kS {l l':Nat}:β l l'->nW L C β (.inRangeFunc l) (.inRangeFunc l')
 | jT {l l':Nat}:β l l'->nW L C β (.endRangeFunc l) (.endRangeFunc l')
 | beginRound:nW L C β .beginRound .beginRound
inductive nk(L C:Program)(β:Bj):List Item->List Item->Prop
 | nil:nk L C β [] []
 | cons {i i':Item} {k k':List Item}:nW L C β i i'->nk L C β k k'->nk L C β (i::k) (i'::k')
inductive lP(β:Bj):List Deferred->List Deferred->Prop
 | nil:lP β [] []
 | cons {r r':Nat} {l l':List Deferred}:β r r'->lP β l l'->lP β ({ target:= .collected r,args:= #[] }::l) ({ target:= .collected r',args:= #[] }::l')
inductive yJ(β:Bj):Option Nat->Option Nat->Prop
 | none:yJ β none none
 | some {l l':Nat}:β l l'->yJ β (some l) (some l')
structure iz(L C:Program)(β:Bj)(a b:Frame):Prop where
 fn:b.fn=a.fn
 tmps:aQ β a.tmps b.tmps
 todo:nk L C β a.todo b.todo
 defers:lP β a.defers b.defers
 mode:(a.mode= .run/\b.mode= .run)\/(a.mode= .returning/\b.mode= .returning/\a.roundOf=none)
 kind:a.kind= .normal/\b.kind= .normal
 round:yJ β a.roundOf b.roundOf
 vM:a.roundOf=none-> ∃fn,L.funcs[a.fn]? =some fn/\C.funcs[a.fn]? =some fn
section
variable{L C:Program}{β γ:Bj}
omit [aR] [bs] in
theorem nW.mono(l:Le β γ){a b:Item}(h:nW L C β a b):nW L C γ a b:=by
 cases h with
 | code h=>exact .code h
 | inBlock id=>exact .inBlock id
 | inLoop h=>exact .inLoop h
 | inRegion t h=>exact .inRegion t h
 | kS h=>exact .kS (l _ _ h)
 | jT h=>exact .jT (l _ _ h)
 | beginRound=>exact .beginRound
omit [aR] [bs] in
theorem nk.mono(l:Le β γ){a b:List Item}(h:nk L C β a b):nk L C γ a b:=by
 induction h with
 | nil=>exact .nil
 | cons h _ ih=>exact .cons (h.mono l) ih
omit [bq] [aR] [bs] in
theorem lP.mono(l:Le β γ){a b:List Deferred}(h:lP β a b):lP γ a b:=by
 induction h with
 | nil=>exact .nil
 | cons h _ ih=>exact .cons (l _ _ h) ih
omit [bq] [aR] [bs] in
theorem lP.append{a b c d:List Deferred}(h:lP β a b)(k:lP β c d):lP β (a++c) (b++d):=by
 induction h with
 | nil=>exact k
 | cons h _ ih=>exact .cons h ih
omit [bq] [aR] [bs] in
theorem yJ.mono(l:Le β γ){a b:Option Nat}(h:yJ β a b):yJ γ a b:=by
 cases h with
 | none=>exact .none
 | some h=>exact .some (l _ _ h)
omit [aR] in
theorem iz.mono(l:Le β γ){a b:Frame}(h:iz L C β a b):iz L C γ a b:=⟨h.fn,h.tmps.mono l,h.todo.mono l,h.defers.mono l,h.mode,h.kind,h.round.mono l,h.vM⟩
omit [aR] in
theorem rV:aF β undef undef:= .tuple rfl λi v v' h=>by simp at h
omit [aR] in
theorem aQ.getD{x x':Array Value}(h:aQ β x x')(i:Nat):aF β (x.getD i undef) (x'.getD i undef):=by
 cases hx:x[i]? with
 | none=>
  have h2:=h.none hx;have e1:x.getD i undef=undef:=by rw [qak, hx];rfl
  have e2:x'.getD i undef=undef:=by rw [qak, h2];rfl
  rw [e1,e2];exact rV
 | some v=>
  obtain ⟨v',h2,h3⟩:=h.get hx;have e1:x.getD i undef=v:=by rw [qak, hx];rfl
  have e2:x'.getD i undef=v':=by rw [qak, h2];rfl
  rw [e1,e2];exact h3
omit [aR] in
theorem iz.eval{a b:Frame}(h:iz L C β a b): ∀x,kg x->aF β (a.eval x) (b.eval x):=by
 intro x hx;cases x with
 | tmp t=>exact h.tmps.getD t
 | const v=>exact (show Plain v from hx).rel
 | global g=>exact hx.elim
 | func f=>exact .func (.func f hx) rfl rfl (λi v v' q=>by simp at q) (λi v v' q=>by simp at q)
omit [aR] [bs] in
theorem yK(id:Nat){k k':List Item}(h:nk L C β k k'):(exitTo id k=none/\exitTo id k'=none)\/ ∃q q',exitTo id k=some q/\exitTo id k'=some q'/\nk L C β q q':=by
 induction h with
 | nil=>exact .inl ⟨rfl,rfl⟩
 | @cons i i' k k' hi hk ih=>
  cases hi with
  | inBlock id'=>
   unfold exitTo;by_cases hq:(id'==id)=true
   ·simp only [hq,if_true];exact .inr ⟨_,_,rfl,rfl,hk⟩
   ·simp only [hq,if_false];exact ih
  | _=>exact ih
omit [aR] in
theorem HV(ops:Array Oper){x x':Array Value}(h:aQ β x x'):yielded ops x=yielded ops x':=by
 funext j;unfold yielded;cases (ops[j]?).bind (·.dst) with
 | none=>rfl
 | some d=>
  simp only [qa0];cases hx:x[d]? with
  | none=>rw [h.none hx]
  | some v=>
   obtain ⟨v',h2,h3⟩:=h.get hx;rw [h2];cases h3 with
   | hole ho _=>cases v' <;> first | rfl | exact ho.elim
   | _=>rfl
omit [aR] in
theorem iz.finish{a b:Frame}(h:iz L C β a b){v v':Value}(hv:aF β v v'):iz L C β (a.finish v) (b.finish v'):=by
 obtain ⟨h1,h2,h3,h4,h5,h6,h7,h8⟩:=h;obtain ⟨fn,tm,todo,df,md,kd,ro⟩:=a;obtain ⟨iF,CC,qZ,JD,KE,GY,CE⟩:=b;simp only at h1 h2 h3 h4 h5 h6 h7;cases h3 with
 | nil=>exact ⟨h1,h2, .nil,h4,h5,h6,h7,h8⟩
 | cons hi hk=>
  cases hi with
  | code h=>exact ⟨h1,h2, .cons (.code h) hk,h4,h5,h6,h7,h8⟩
  | inBlock id=>exact ⟨h1,h2, .cons (.inBlock id) hk,h4,h5,h6,h7,h8⟩
  | inLoop h=>exact ⟨h1,h2, .cons (.inLoop h) hk,h4,h5,h6,h7,h8⟩
  | @inRegion ops t h=>
   cases t with
   | nil=>exact ⟨h1,h2, .cons (.inRegion [] h) hk,h4,h5,h6,h7,h8⟩
   | cons i t=>
    refine ⟨h1, ?_, .cons (.inRegion t h) hk,h4,h5,h6,h7,h8⟩;show aQ β (match (ops[i]?).bind (·.dst) with | some d=>tm.setIfInBounds d v | none=>tm) (match (ops[i]?).bind (·.dst) with | some d=>CC.setIfInBounds d v' | none=>CC);cases (ops[i]?).bind (·.dst) with
    | none=>exact h2
    | some d=>exact h2.set hv d
  | kS hl=>exact ⟨h1,h2, .cons (.jT hl) hk,h4,h5,h6,h7,h8⟩
  | jT hl=>exact ⟨h1,h2, .cons (.jT hl) hk,h4,h5,h6,h7,h8⟩
  | beginRound=>exact ⟨h1,h2,hk,h4,h5,h6,h7,h8⟩
end
end Go.Cx
namespace Go.Cx
open Go
variable[bq][aR][bs]
abbrev fD(a:Frame)(cs:List Frame):Goroutine:={ frame:=a,callers:=cs,status:= .running,dying:=none }
structure PF(L C:Program)(Xs:FuncId->Prop):Prop where
 same: ∀f,bq.ok f->bq.qu f-> ¬Xs f-> ∃(fn:Func) (c:Code),L.funcs[f]? =some fn/\C.funcs[f]? =some fn/\fn.body=some c/\cG L C c
 follows:C.follows .mixedOrders=L.follows .mixedOrders
 code: ∀c,aR.code c↔cG L C c
omit [bq] [aR] [bs] in
theorem HW{p:Program}{f:FuncId}{es:Array Event}{e:Event}(h:e∈seen p f es):e∈es:=by
 have key: ∀(l:List Event) (F:Bool×Array Event->Event->Bool×Array Event),(∀q x,(F q x).2=q.2\/(F q x).2=q.2.push x)-> ∀(q:Bool×Array Event) (e:Event),e∈(l.foldl F q).2->e∈q.2\/e∈l:=by
  intro l F hF
  induction l with
  | nil=>intro q e h;exact .inl h
  | cons x l ih=>
   intro q e h;rcases ih _ e h with h | h
   ·rcases hF q x with hq | hq
    ·rw [hq] at h;exact .inl h
    ·rw [hq] at h;rcases Array.mem_push.1 h with h | h
     ·exact .inl h
     ·exact .inr (by simp [h])
   ·exact .inr (by simp [h])
 unfold seen at h;simp only at h;rw [←Array.foldl_toList] at h;refine (key es.toList _ ?_ _ e h).elim (λh=> ?_) (λh=> ?_)
 rotate_left
 ·simp at h
 ·simpa using h
 ·rintro ⟨q1,q2⟩ x;split
  ·exact .inl rfl
  ·simp only;split
   ·exact .inl rfl
   ·exact .inr rfl
inductive cM(L C:Program)(β:Bj):List Frame->List Frame->Prop
 | one {a b:Frame}:iz L C β a b->a.roundOf=none->cM L C β [a] [b]
 | cons {a b:Frame} {k k':List Frame}:iz L C β a b->cM L C β k k'->cM L C β (a::k) (b::k')
omit [aR] in
theorem cM.mono{L C:Program}{β γ:Bj}(l:Le β γ){a b:List Frame}(h:cM L C β a b):cM L C γ a b:=by
 induction h with
 | one h hr=>exact .one (h.mono l) hr
 | cons h _ ih=>exact .cons (h.mono l) ih
omit [aR] in
theorem cM.swap{L C:Program}{β:Bj}{a b a2 b2:Frame}{k k':List Frame}(h:cM L C β (a::k) (b::k'))(hf:iz L C β a2 b2)(hr:a2.roundOf=a.roundOf):cM L C β (a2::k) (b2::k'):=by
 cases h with
 | one _ h2=>exact .one hf (hr.trans h2)
 | cons _ h=>exact .cons hf h
omit [aR] in
theorem cM.top{L C:Program}{β:Bj}{a b:Frame}{k k':List Frame}(h:cM L C β (a::k) (b::k')):iz L C β a b:=by
 cases h with
 | one h _=>exact h
 | cons h _=>exact h
omit [bq] [aR] [bs] in
theorem jB(a:Frame)(v:Value):(a.finish v).roundOf=a.roundOf:=by
 unfold Frame.finish;split <;> rfl
inductive MG(L C:Program)(Xs:FuncId->Prop)(β:Bj)(base mo:List Frame):Goroutine->Goroutine->Prop
 | on {a b:Frame} {k k':List Frame}:cM L C β (a::k) (b::k')->MG L C Xs β base mo (fD a (k++base)) (fD b (k'++mo))
 | enter (f:FuncId) {x x':Array Value} {k k':List Frame}:Xs f->aQ β x x'->cM L C β k k'->MG L C Xs β base mo (fD (Frame.enter L f x .normal) (k++base)) (fD (Frame.enter C f x' .normal) (k'++mo))
omit [aR] in
theorem aQ.rep{β:Bj}(n:Nat):aQ β (Array.replicate n undef) (Array.replicate n undef):=by
 refine ⟨rfl,λi v v' h h'=> ?_⟩;rw [h] at h';cases h';rw [Array.getElem?_replicate] at h;split at h
 ·cases h;exact rV
 ·cases h
omit [aR] in
theorem mR{L C:Program}{β:Bj}{f:FuncId}{fn:Func}{c:Code}(h1:L.funcs[f]? =some fn)(h2:C.funcs[f]? =some fn)(h3:fn.body=some c)(h4:cG L C c){x x':Array Value}(hx:aQ β x x'):iz L C β (Frame.enter L f x .normal) (Frame.enter C f x' .normal):=by
 unfold Frame.enter;rw [h1,h2];simp only [qae,qc7,qa0,h3, ←hx.1];exact ⟨rfl,hx.append (aQ.rep _), .cons (.code h4) .nil, .nil, .inl ⟨rfl,rfl⟩,⟨rfl,rfl⟩, .none,λ_=>⟨fn,h1,h2⟩⟩
omit [aR] in
theorem Oj{L C:Program}{β:Bj}{l l':Nat}{f:FuncId}{ca cb:Code}(h1:cG L C ca)(h2:cG L C cb)(hl:β l l'){x x':Array Value}(hx:aQ β x x'):iz L C β (Frame.round l f x ca cb .normal) (Frame.round l' f x' ca cb .normal):=
 ⟨rfl,hx, .cons (.code h1) (.cons .beginRound (.cons (.code h2) .nil)), .nil, .inl ⟨rfl,rfl⟩,⟨rfl,rfl⟩, .some hl,λq=>by cases q⟩
def cY(g:Goroutine):Prop:= ∃ch,g.frame.mode= .panicking ch
section
variable{L C:Program}{Xs:FuncId->Prop}{β:Bj}
omit [bq] [aR] [bs] in
theorem rb{es es1:Array Event}{t:GStep}{g:Goroutine}{w:World}(h:GStep.after es t= .go g w es1): ∃pN,t= .go g w pN:=by
 cases t <;> simp only [GStep.after] at h <;> cases h;exact ⟨_,rfl⟩
omit [bq] [aR] [bs] in
theorem mS(fr:Frame)(vs:List PanicEntry): ∃ch,(fr.raise vs).mode= .panicking ch:=by
 unfold Frame.raise;split
 ·exact ⟨_,rfl⟩
 ·exact ⟨_,rfl⟩
theorem Ol(HP:fx L C)(HF:PF L C Xs){a b:Frame}{k k' base mo:List Frame}(eR:cM L C β (a::k) (b::k')){s s':Sem Next}(hs:aM L C kQ β s s'){w W w1:World}{g1:Goroutine}{es:Array Event}
  (hw:cz β w W) (ht:gp w W) (h:stepG.apply L true a (k++base) none s w= .go g1 w1 es) (hp: ¬cY g1):
  ∃bV W1 uA CF,stepG.apply C true b (k'++mo) none s' W= .go uA W1 CF/\MG L C Xs bV base mo g1 uA/\cz bV w1 W1/\kP β bV w w1 W W1/\ ∀e∈CF,qv bV w1 e:=by
 have ha:=eR.top;have Hq:(a.kind== .early)=false:=by rw [ha.kind.1];rfl
 have vB:(b.kind== .early)=false:=by rw [ha.kind.2];rfl
 have kA:stepG.apply.match_1 (λ_=>CallKind) a.todo (λd resume saved tail=>CallKind.wrapped) (λx=>CallKind.normal)= .normal:=by
  have:=ha.todo;generalize a.todo=ta at this;generalize b.todo=tb at this;cases this with
  | nil=>rfl
  | cons hi _=>cases hi <;> rfl
 have kB:stepG.apply.match_1 (λ_=>CallKind) b.todo (λd resume saved tail=>CallKind.wrapped) (λx=>CallKind.normal)= .normal:=by
  have:=ha.todo;generalize a.todo=ta at this;generalize b.todo=tb at this;cases this with
  | nil=>rfl
  | cons hi _=>cases hi <;> rfl
 unfold stepG.apply at h ⊢;simp only [Hq,vB,kA,kB,if_true,qa7,if_false] at h ⊢;rcases hR:s.runT L w #[] with ⟨r,qH⟩
 rw [hR] at h;obtain ⟨pN,h⟩:=rb h;have bP:s.run L w=r:=by rw [←Sem.runT_fst L s w #[],hR]
 cases r with
 | halt hh w2=>
  exfalso;have wP:=(hs.yz hw bP).1;cases hh with
  | panic v=>cases h;exact hp (mS _ _)
  | stuck s=>cases h
  | unsupported u=>
   cases u with
   | initOrder g=>exact wP g rfl
   | _=>cases h
  | _=>exact wP.elim
 | ok n w2=>
  obtain ⟨n',W1,bV,CF,e1,e2,e3,e4,e5⟩:=hs.run #[] hw ht bP;rw [e1];simp only [Array.empty_append];have ql: ∀e∈seen C b.fn CF,qv bV w2 e:=λe he=>e5 e (HW he);cases e2 with
  | value hv=>
   cases h;exact ⟨bV,W1,_,_,rfl, .on ((eR.mono e4.le).swap ((ha.mono e4.le).finish hv) (jB _ _)),e3,e4,by simpa [GStep.after] using ql⟩
  | skip=>
   cases h;exact ⟨bV,W1,_,_,rfl, .on ((eR.mono e4.le).swap ((ha.mono e4.le).finish rV) (jB _ _)),e3,e4,by simpa [GStep.after] using ql⟩
  | enter f qx nO hx=>
   cases h;by_cases hX:Xs f
   ·exact ⟨bV,W1,_,_,rfl, .enter (k:=a::k) (k':=b::k') f hX hx (eR.mono e4.le),e3,e4,by simpa [GStep.after] using ql⟩
   ·obtain ⟨fn,c,g1,g2,g3,g4⟩:=HF.same f qx nO hX;exact ⟨bV,W1,_,_,rfl, .on (k:=a::k) (k':=b::k') (.cons (mR g1 g2 g3 g4 hx) (eR.mono e4.le)),e3,e4,by simpa [GStep.after] using ql⟩
  | round f ca cb hca hcb hl hx=>
   cases h;exact ⟨bV,W1,_,_,rfl, .on (k:=a::k) (k':=b::k') (.cons (Oj ((HF.code _).1 hca) ((HF.code _).1 hcb) hl hx) (eR.mono e4.le)),e3,e4,by simpa [GStep.after] using ql⟩
end
end Go.Cx
namespace Go.Cx
open Go
variable[bq][aR][bs]
section
variable{L C:Program}{β:Bj}
theorem HX{o o':Obj}(h:vG β o o'):aM L C (λβ (x x':Nat)=>β x x') β (newObj o) (newObj o'):=
 .new h λγ r r' hl hr=> .pure hr
theorem re(fn:FuncId){x x':Array Value}(ps:Array Tmp){a b:Code}{o o':Option Nat}(hx:aQ β x x')(ha:aR.code a)(hb:aR.code b)(ho:yJ β o o'):
  aM L C (λβ (y y':Nat×List Deferred)=>β y.1 y'.1/\lP β y.2 y'.2) β (Instr.enterLoop fn x ps a b o) (Instr.enterLoop fn x' ps a b o'):=by
 unfold Instr.enterLoop;have tail: ∀{gA:Bj} (d d':Nat) (m m':List Deferred),Le β gA->gA d d'->lP gA m m'->aM L C (λβ (y y':Nat×List Deferred)=>β y.1 y'.1/\lP β y.2 y'.2) gA
   (newObj (.loop { state:= .ready,pending:=none,fn,tmps:=x,params:=ps,assign:=a,body:=b,defers:=d }) >>= λq=>pure (q,m))
   (newObj (.loop { state:= .ready,pending:=none,fn,tmps:=x',params:=ps,assign:=a,body:=b,defers:=d' }) >>= λq=>pure (q,m')):=by
  intro gA d d' m m' de h1 h2;refine (HX (β:=gA) (.loop (l:={ state:= .ready,pending:=none,fn,tmps:=x,params:=ps,assign:=a,body:=b,defers:=d }) (l':={ state:= .ready,pending:=none,fn,tmps:=x',params:=ps,assign:=a,body:=b,defers:=d' }) ⟨rfl,rfl,rfl,hx.mono de,rfl,rfl,rfl,h1,ha,hb,λc h=>by cases h⟩)).bd ?_;intro ov l l' ic hl;exact .pure ⟨hl,h2.mono ic⟩
 cases ho with
 | none=>
  refine (HX (.z6 true)).bd λgA r r' hl hr=> ?_;exact tail r r' _ _ hl hr (.cons hr .nil)
 | some hl=>
  refine (oQ hl).bd λgA r r' hl hr=> ?_;exact tail _ _ _ _ hl hr.defers .nil
theorem vN{l l':Nat}(h:β l l'){r r':Loop}(hr:Kq β r r'):aM L C (fR λ_=>True) β (setObj l (.loop r)) (setObj l' (.loop r')):=
 .setObj h (.loop hr) (λc e f q=>by cases q) (.pure ⟨rfl,trivial⟩)
theorem pO{l l':Nat}(h:β l l'):aM L C (λ_ _ _=>True) β (Instr.beginRound l) (Instr.beginRound l'):=by
 unfold Instr.beginRound;refine (oQ h).bd ?_;intro gA r r' de hr;refine aM.bd (RA:=fR λ_=>True) (vN (de _ _ h) ⟨rfl,hr.pending,hr.fn,hr.tmps,hr.params,hr.assign,hr.body,hr.defers,hr.ca,hr.cb,hr.cp⟩) ?_;intro ov _ _ ic _;rw [hr.state];cases r.state with
 | ready=>exact .pure trivial
 | _=>exact bE.rel
theorem tt{l l':Nat}(h:β l l')(j:Option Code)(hj: ∀c,j=some c->aR.code c):aM L C aF β (Instr.endRound l j) (Instr.endRound l' j):=by
 unfold Instr.endRound;refine (oQ h).bd ?_;intro gA r r' de hr;refine aM.bd (RA:=fR λ_=>True) (vN (de _ _ h) ⟨rfl,rfl,hr.fn,hr.tmps,hr.params,hr.assign,hr.body,hr.defers,hr.ca,hr.cb,hj⟩) ?_;intro ov _ _ ic _;exact .pure (.bool _)
theorem vO{l l':Nat}(h:β l l'):aM L C (fR λx=> ∀c,x=some c->aR.code c) β (Instr.endLoop l) (Instr.endLoop l'):=by
 unfold Instr.endLoop;refine (oQ h).bd ?_;intro gA r r' de hr;rw [hr.state];split
 ·exact (bk.ee bE).rel
 ·refine aM.bd (RA:=fR λ_=>True) (vN (de _ _ h) ⟨rfl,hr.pending,hr.fn,hr.tmps,hr.params,hr.assign,hr.body,hr.defers,hr.ca,hr.cb,hr.cp⟩) ?_;intro ov _ _ ic _;rw [hr.pending];exact .pure ⟨rfl,hr.cp⟩
theorem np{l l':Nat}(h:β l l'):aM L C (λ_ (x x':List Deferred)=>x=[]/\x'=[]) β (Instr.takeDeferred l) (Instr.takeDeferred l'):=by
 unfold Instr.takeDeferred;refine aM.bd (RA:=pJ) (.getObj h λo o' ho=> .pure ho) ?_;intro gA o o' de ho;cases ho with
 | z6 b=>
  cases b with
  | false=>exact az
  | true=>
   refine aM.bd (RA:=fR λ_=>True) (.setObj (de _ _ h) (.z6 false) (λc e f q=>by cases q) (.pure ⟨rfl,trivial⟩)) ?_;intro ov _ _ ic _;exact .pure ⟨rfl,rfl⟩
 | _=>exact az
omit [aR] in
theorem ml.array{l l':List Value}(h:ml β l l'):aQ β l.toArray l'.toArray:=by
 have key: ∀{l l':List Value},ml β l l'->l.length=l'.length/\ ∀(i:Nat) (v v':Value),l[i]? =some v->l'[i]? =some v'->aF β v v':=by
  intro l l' h
  induction h with
  | nil=>exact ⟨rfl,λi v v' h=>by simp at h⟩
  | cons hv _ ih=>
   refine ⟨by simp [ih.1],λi u u' h h'=> ?_⟩;cases i with
   | zero=>simp at h h';subst h;subst h';exact hv
   | succ i=>simp at h h';exact ih.2 i u u' h h'
 obtain ⟨h1,h2⟩:=key h;exact ⟨by simpa using h1,λi v v' a b=>h2 i v v' (by simpa using a) (by simpa using b)⟩
theorem rW(H:fx L C)(fn:Func){x x':Array Value}(hx:aQ β x x'):aM L C aF β (results fn x) (results fn x'):=by
 unfold results;refine aM.bd (RA:=aQ) ?_ ?_
 ·rw [Array.mapM_eq_mapM_toList,Array.mapM_eq_mapM_toList];have key: ∀(l:List ResultVar) {β:Bj},aQ β x x'->aM L C ml β (l.mapM fun | .tmp t=>pure (x.getD t undef) | .cell a t=>do loadVar t (←asAddr (x.getD a undef))) (l.mapM fun | .tmp t=>pure (x'.getD t undef) | .cell a t=>do loadVar t (←asAddr (x'.getD a undef))):=by
   intro l
   induction l with
   | nil=>intro β _;simp only [List.mapM_nil];exact .pure .nil
   | cons r l ih=>
    intro β hx;simp only [List.mapM_cons];refine aM.bd (RA:=aF) ?_ ?_
    ·cases r with
     | tmp t=>exact .pure (hx.getD t)
     | cell a t=>exact (uq (hx.getD a)).bd λgA v v' hl hv=>rT H t hv
    ·intro gA v v' de hv;refine (ih (hx.mono de)).bd ?_;intro ov vs vs' ic Ui;exact .pure (.cons (hv.mono ic) Ui)
  rw [map_eq_pure_bind,map_eq_pure_bind];refine (key fn.results.toList hx).bd ?_;intro gA l l' hl hls;exact .pure hls.array
 ·intro gA v v' hl hv;refine .pure ?_;by_cases h1:v.size=1
  ·have h2:v'.size=1:=hv.1▸h1;rw [dif_pos h1,dif_pos h2];exact hv.2 0 _ _ (Array.getElem?_eq_getElem (by omega)) (Array.getElem?_eq_getElem (by omega))
  ·have h2: ¬v'.size=1:=hv.1▸h1;rw [dif_neg h1,dif_neg h2];exact hv.HI
end
end Go.Cx
namespace Go.Cx
open Go
variable[bq][aR][bs]
inductive Out(L C:Program)(Xs:FuncId->Prop)(t:Frame)(r bs':List Frame)(β:Bj)(g g':Goroutine):Prop
 | on:MG L C Xs β (t::r) bs' g g'->Out L C Xs t r bs' β g g'
 | back {v v':Value} {t':Frame} {r':List Frame}:aF β v v'->g=fD (t.finish v) r->bs'=t'::r'->g'=fD (t'.finish v') r'->Out L C Xs t r bs' β g g'
def xu(L C:Program)(Xs:FuncId->Prop)(t:Frame)(r bs':List Frame)(β:Bj)(w W w1:World)(g1:Goroutine)(T:GStep):Prop:=
 ∃bV W1 uA CF,T= .go uA W1 CF/\Out L C Xs t r bs' bV g1 uA/\cz bV w1 W1/\kP β bV w w1 W W1/\ ∀e∈CF,qv bV w1 e
section
variable{L C:Program}{Xs:FuncId->Prop}{β:Bj}{t:Frame}{r bs':List Frame}{w W w1:World}{g1:Goroutine}
theorem KF{β bV:Bj}{w2 W2:World}{es:Array Event}{T:GStep}(hT:kP β bV w w2 W W2)(he: ∀e∈es,qv bV w2 e)(h:xu L C Xs t r bs' bV w2 W2 w1 g1 T):xu L C Xs t r bs' β w W w1 g1 (GStep.after es T):=by
 obtain ⟨γ,W1,uA,CF,h1,h2,h3,h4,h5⟩:=h;subst h1;refine ⟨γ,W1,uA,es++CF,rfl,h2,h3,hT.trans h4,λe q=> ?_⟩;rcases qc8.1 q with q | q
 ·exact (he e q).lh h4
 ·exact h5 e q
theorem rh{α:Type}{RA:Bj->α->α->Prop}{s s':Sem α}(hs:aM L C RA β s s')(hw:cz β w W)(ht:gp w W){f f':FuncId}{F F':Result α->GStep}{es:Array Event}
  (h:GStep.after (seen L f (s.runT L w #[]).2) (F (s.runT L w #[]).1)= .go g1 w1 es) (hh: ∀q w2 pN,F (.halt q w2)= .go g1 w1 pN->False)
  (qx: ∀bV v v' w2 W2 pN,RA bV v v'->cz bV w2 W2->gp w2 W2->kP β bV w w2 W W2->F (.ok v w2)= .go g1 w1 pN->xu L C Xs t r bs' bV w2 W2 w1 g1 (F' (.ok v' W2))):
  xu L C Xs t r bs' β w W w1 g1 (GStep.after (seen C f' (s'.runT C W #[]).2) (F' (s'.runT C W #[]).1)):=by
 obtain ⟨pN,h⟩:=rb h;rw [Sem.runT_fst] at h;cases bP:s.run L w with
 | halt q w2=>rw [bP] at h;exact (hh _ _ _ h).elim
 | ok v w2=>
  rw [bP] at h;obtain ⟨v',W2,bV,CF,e1,e2,e3,e4,e5⟩:=hs.run #[] hw ht bP;rw [e1];refine KF e4 (λe q=> ?_) (qx bV v v' w2 W2 pN e2 e3 (ht.lh e4) e4 h);simp only [Array.empty_append] at q;exact e5 e (HW q)
theorem nX{β:Bj}{T:GStep}{uA:Goroutine}(hT:T= .go uA W)(ho:Out L C Xs t r bs' β g1 uA)(hw:cz β w W):xu L C Xs t r bs' β w W w g1 T:=
 ⟨β,W,uA, #[],hT,ho,hw,kP.refl _ _ _,λe q=>by simp at q⟩
theorem MH{a b:Frame}{k k':List Frame}{m m':Bool}(eR:cM L C β (a::k) (b::k'))(Px:bs'≠[]\/k≠[]){v v':Value}(hv:aF β v v')(hw:cz β w W){es:Array Event}
  (h:doReturn L m a (k++t::r) none v w= .go g1 w1 es):xu L C Xs t r bs' β w W w1 g1 (doReturn C m' b (k'++bs') none v' W):=by
 have ha:=eR.top;unfold doReturn at h ⊢;rw [ha.kind.1] at h;rw [ha.kind.2];cases eR with
 | one _ hr=>
  obtain ⟨t',r',rfl⟩: ∃t' r',bs'=t'::r':=by
   cases bs' with
   | nil=>rcases Px with h | h <;> exact absurd rfl h
   | cons t' r'=>exact ⟨t',r',rfl⟩
  simp only [qb7] at h ⊢;cases h;exact nX rfl (.back hv rfl rfl rfl) hw
 | cons _ hk=>
  cases hk with
  | one h2 hr=>
   simp only [qbq,qb7] at h ⊢;cases h;exact nX rfl (.on (.on (k:=[]) (k':=[]) (.one (h2.finish hv) ((jB _ _).trans hr)))) hw
  | cons h2 hk=>
   simp only [qbq] at h ⊢;cases h;exact nX rfl (.on (.on (.cons (h2.finish hv) hk))) hw
end
end Go.Cx
namespace Go.Cx
open Go
variable[bq][aR][bs]
def Lv(p:Program)(main:Bool)(fr:Frame)(cs:List Frame)(w:World)(jump:Option Code):GStep:=
 match fr.roundOf with
 | none=>if jump matches none | some .ret then .go { frame:={ fr with mode:= .returning },callers:=cs,status:= .running,dying:=none } w else .ended (.stuck "exit, goto: no such block or label" (fr.pos p)) w
 | some l=>
  GStep.after (seen p fr.fn ((Instr.endRound l jump).runT p w #[]).2) <| match ((Instr.endRound l jump).runT p w #[]).1 with
  | .ok v w=>doReturn p main fr cs none v w
  | .halt _ w=> .ended (.stuck "range over a function: no such loop" (fr.pos p)) w
section
variable{L C:Program}{Xs:FuncId->Prop}{β:Bj}{t:Frame}{r bs':List Frame}{w W w1:World}{g1:Goroutine}
omit [bq] [aR] [bs] in
theorem ER(p:Program)(m:Bool)(a:Frame)(cs:List Frame)(w:World)(h:a.todo=[]):stepG.exec p m true a cs none w=Lv p m a cs w none:=by
 obtain ⟨fn,tm,todo,df,md,kd,ro⟩:=a;simp only at h;subst h;rfl
omit [bq] [aR] [bs] in
theorem ES(p:Program)(m:Bool)(a:Frame)(k:List Item)(cs:List Frame)(w:World)(h:a.todo= .code .ret::k):stepG.exec p m true a cs none w=Lv p m a cs w (some .ret):=by
 obtain ⟨fn,tm,todo,df,md,kd,ro⟩:=a;simp only at h;subst h;rfl
omit [bq] [aR] [bs] in
theorem xV(p:Program)(m:Bool)(a:Frame)(id:Nat)(k:List Item)(cs:List Frame)(w:World)(h:a.todo= .code (.exit id)::k)(hx:exitTo id k=none):stepG.exec p m true a cs none w=Lv p m a cs w (some (.exit id)):=by
 obtain ⟨fn,tm,todo,df,md,kd,ro⟩:=a;simp only at h;subst h;unfold stepG.exec Lv;simp only [hx];rfl
omit [aR] in
theorem iz.acj{a b:Frame}(h:iz L C β a b){x x':List Item}(hx:nk L C β x x'):iz L C β { a with todo:=x } { b with todo:=x' }:=⟨h.fn,h.tmps,hx,h.defers,h.mode,h.kind,h.round,h.vM⟩
omit [aR] in
theorem cM.todo{a b:Frame}{k k':List Frame}(h:cM L C β (a::k) (b::k')){x x':List Item}(hx:nk L C β x x'):cM L C β ({ a with todo:=x }::k) ({ b with todo:=x' }::k'):=h.swap (h.top.acj hx) rfl
theorem KG(HF:PF L C Xs){a b:Frame}{k k':List Frame}{m m':Bool}(eR:cM L C β (a::k) (b::k'))(hm:a.mode= .run){j:Option Code}(hj: ∀c,j=some c->cG L C c)(hw:cz β w W)(ht:gp w W){es:Array Event}
  (h:Lv L m a (k++t::r) w j= .go g1 w1 es):xu L C Xs t r bs' β w W w1 g1 (Lv C m' b (k'++bs') W j):=by
 have ha:=eR.top;obtain ⟨fn,tm,todo,df,md,kd,ro⟩:=a;obtain ⟨iF,CC,qZ,JD,KE,GY,CE⟩:=b;have tu:=ha.round;simp only at tu hm;unfold Lv at h ⊢;cases tu with
 | none=>
  simp only at h ⊢;split at h
  all_goals first
   | (cases h;exact nX rfl (.on (.on (eR.swap ⟨ha.fn,ha.tmps,ha.todo,ha.defers, .inr ⟨rfl,rfl,rfl⟩,ha.kind,ha.round,ha.vM⟩ rfl))) hw)
   | (simp at h)
 | some hl=>
  simp only at h ⊢;refine rh (F:=λq=>match q with
   | .ok v w=>doReturn L m _ (k++t::r) none v w
   | .halt _ w=> .ended (.stuck "range over a function: no such loop" _) w) (F':=λq=>match q with
   | .ok v w=>doReturn C m' _ (k'++bs') none v w
   | .halt _ w=> .ended (.stuck "range over a function: no such loop" _) w) (tt hl j λc hc=>(HF.code c).2 (hj c hc)) hw ht h ?_ ?_
  ·intro q w2 pN h;cases h
  ·intro bV v v' w2 W2 pN hv qF ht2 hT h;refine MH (eR.mono hT.le) (.inr λq=> ?_) hv qF h;subst q;cases eR with
   | one _ q=>cases q
   | cons _ q=>cases q
theorem tv(HP:fx L C)(HF:PF L C Xs){a b:Frame}{k k':List Frame}(eR:cM L C β (a::k) (b::k')){s s':Sem Next}(hs:aM L C kQ β s s')(hw:cz β w W)(ht:gp w W){es:Array Event}
  (h:stepG.apply L true a (k++t::r) none s w= .go g1 w1 es) (hp: ¬cY g1):xu L C Xs t r bs' β w W w1 g1 (stepG.apply C true b (k'++bs') none s' W):=by
 obtain ⟨bV,W1,uA,CF,h1,h2,h3,h4,h5⟩:=Ol HP HF eR hs hw ht h hp;exact ⟨bV,W1,uA,CF,h1, .on h2,h3,h4,h5⟩
end
end Go.Cx
namespace Go.Cx
open Go
variable[bq][aR][bs]
section
variable{L C:Program}{Xs:FuncId->Prop}{β:Bj}{t:Frame}{r bs':List Frame}{w W w1:World}{g1:Goroutine}
theorem KH(HP:fx L C){ρ oI:Operand->Value}{f:Operand}{v v':Value}(hf:aF β (ρ f) (oI f))(hv:aF β (ρ (.const v)) (oI (.const v'))):
  aM L C kQ β (do let d←resolve ρ { callee:= .value f,args:= #[.const v],argTypes:= #[] } 0;invoke d.target d.args) (do let d←resolve oI { callee:= .value f,args:= #[.const v'],argTypes:= #[] } 0;invoke d.target d.args):=by
 refine aM.bd (RA:=λβ (d d':Deferred)=>aci β d d'/\ ∀b ts u cs,d.target= .builtin b ts u cs->okB b=true/\ ∀ty∈ts,NU L ty) ?_ ?_
 ·unfold resolve;have ha:aQ β (#[Operand.const v].map ρ) (#[Operand.const v'].map oI):=by
   simp only [qbk,qbj,qbt];exact aQ.one hv
  dsimp only;unfold Deferred.ofValue;generalize ρ f=u at hf;generalize oI f=u' at hf;cases hf with
  | func g a1 a2 a3 a4=>exact .pure ⟨⟨.fn g ⟨a2,a4⟩,aQ.append ⟨a1,a3⟩ ha⟩,λb' ts u cs q=>by cases q⟩
  | ni=>exact .pure ⟨⟨.nil,ha⟩,λb' ts u cs q=>by cases q⟩
  | _=>exact az
 ·intro gA d d' hl ⟨h1,h2⟩;exact HU HP h1.target h2 h1.args
omit [bq] [aR] [bs] in
theorem xW(p:Program)(a:Frame)(cs:List Frame)(w:World){o:Oper}(ho:a.oper? =some o)(hd: ∀c,o.op≠ .defer c):stepG.oper p true a cs none w=stepG.apply p true a cs none (execOp a.eval o) w:=by
 unfold stepG.oper;rw [ho];simp only;split
 ·rename_i q;exact absurd q (hd _)
 ·rfl
theorem Q6(HP:fx L C)(HF:PF L C Xs){a b:Frame}{k k':List Frame}{m m':Bool}(eR:cM L C β (a::k) (b::k'))(hm:a.mode= .run)(hw:cz β w W)(ht:gp w W){es:Array Event}
  (h:stepG.exec L m true a (k++t::r) none w= .go g1 w1 es) (hp: ¬cY g1):xu L C Xs t r bs' β w W w1 g1 (stepG.exec C m' true b (k'++bs') none W):=by
 have ha:=eR.top;obtain ⟨fn,tm,todo,df,md,kd,ro⟩:=a;obtain ⟨iF,CC,qZ,JD,KE,GY,CE⟩:=b;have hT:=ha.todo;have vt:=ha.fn;simp only at hT hm vt;subst vt;have Vb:KE= .run:=by rcases ha.mode with h | h;exact h.2;(rw [show md=_ from h.1] at hm;cases hm)
 subst hm;subst Vb;have PD: ∀{x x':List Item} {es:Array Event},nk L C β x x'->GStep.go { frame:={ fn:=iF,tmps:=tm,todo:=x,defers:=df,mode:= .run,kind:=kd,roundOf:=ro },callers:=k++t::r,status:= .running,dying:=none } w= .go g1 w1 es->
   xu L C Xs t r bs' β w W w1 g1 (GStep.go { frame:={ fn:=iF,tmps:=CC,todo:=x',defers:=JD,mode:= .run,kind:=GY,roundOf:=CE },callers:=k'++bs',status:= .running,dying:=none } W):=by
  intro x x' es hx h;cases h;exact nX rfl (.on (.on (eR.todo hx))) hw
 cases hT with
 | nil=>
  rw [ER _ _ _ _ _ rfl] at h;rw [ER _ _ _ _ _ rfl];exact KG HF eR rfl (λc h=>by cases h) hw ht h
 | @cons i_ i_' K K' hi hk=>
  cases hi with
  | inBlock id=>exact PD hk h
  | inLoop hc=>exact PD (.cons (.code hc) (.cons (.inLoop hc) hk)) h
  | kS hl=>cases h
  | beginRound=>
   have tu:=ha.round;simp only at tu;refine tv HP HF eR ?_ hw ht h hp;cases tu with
   | none=>exact (bk.ee bk.halt).rel
   | some hl=>exact (pO hl).bd λgA _ _ hl _=> .pure .skip
  | @jT l l' hl=>
   refine rh (F:=λq=>match q with
     | .ok jump w=> .go { frame:={ fn:=iF,tmps:=tm,todo:=(jump.map Item.code).toList++_,defers:=df,mode:= .run,kind:=kd,roundOf:=ro },callers:=k++t::r,status:= .running,dying:=none } w
     | .halt (.panic v) w=> .go { frame:=Frame.raise _ [{ v,recovered:=false }],callers:=k++t::r,status:= .running,dying:=none } w
     | .halt _ w=> .ended (.stuck "range over a function: no such loop" _) w)
    (F':=λq=>match q with
     | .ok jump w=> .go { frame:={ fn:=iF,tmps:=CC,todo:=(jump.map Item.code).toList++_,defers:=JD,mode:= .run,kind:=GY,roundOf:=CE },callers:=k'++bs',status:= .running,dying:=none } w
     | .halt (.panic v) w=> .go { frame:=Frame.raise _ [{ v,recovered:=false }],callers:=k'++bs',status:= .running,dying:=none } w
     | .halt _ w=> .ended (.stuck "range over a function: no such loop" _) w) (vO hl) hw ht h ?_ ?_
   ·intro q w2 pN h;cases q with
    | panic v=>cases h;exact hp (mS _ _)
    | _=>cases h
   ·intro bV v v' w2 W2 pN hv qF ht2 hT h;obtain ⟨rfl,hv⟩:=hv;cases h;refine nX rfl (.on (.on ((eR.mono hT.le).todo ?_))) qF;cases v with
    | none=>exact hk.mono hT.le
    | some c=>exact .cons (.code ((HF.code _).1 (hv c rfl))) (hk.mono hT.le)
  | @inRegion ops td ho=>
   cases td with
   | nil=>exact PD hk h
   | cons i td=>
    simp only [stepG.exec] at h ⊢;rw [←HV ops ha.tmps];split at h
    ·rename_i hq;rw [if_pos hq];cases cL:ops[i]? with
     | none=>rw [cL] at hq;cases hq
     | some o=>
      have qx:=ho o (qb2 cL);have hd: ∀c,o.op≠ .defer c:=λc q=>by rw [q] at qx;exact qx
      rw [xW _ _ _ _ (o:=o) (by simp only [Frame.oper?];exact cL) hd] at h;rw [xW _ _ _ _ (o:=o) (by simp only [Frame.oper?];exact cL) hd];exact tv HP HF eR (KD HP ha.eval o qx) hw ht h hp
    ·rename_i hq;rw [if_neg hq];cases h;exact nX rfl (.on (.on (eR.swap (ha.finish rV) (jB _ _)))) hw
  | code hc=>
   cases hc with
   | skip=>exact PD hk h
   | label l=>exact PD hk h
   | ret=>
    rw [ES _ _ _ _ _ _ rfl] at h;rw [ES _ _ _ _ _ _ rfl];exact KG HF eR rfl (λc h=>by cases h;exact .ret) hw ht h
   | seq h1 h2=>exact PD (.cons (.code h1) (.cons (.code h2) hk)) h
   | block id h1=>exact PD (.cons (.code h1) (.cons (.inBlock id) hk)) h
   | loop h1=>exact PD (.cons (.code h1) (.cons (.inLoop h1) hk)) h
   | exit id=>
    rcases yK id hk with ⟨e1,e2⟩ | ⟨q,q',e1,e2,hq⟩
    ·rw [xV _ _ _ id _ _ _ rfl e1] at h;rw [xV _ _ _ id _ _ _ rfl e2];exact KG HF eR rfl (λc h=>by cases h;exact .exit id) hw ht h
    ·simp only [stepG.exec,e1,Option.elim_some] at h;simp only [stepG.exec,e2,Option.elim_some];exact PD hq h
   | @cond c x y hc h1 h2=>
    have he:=ha.eval c hc;simp only [stepG.exec] at h ⊢;revert h;generalize Frame.eval _ c=u at he;generalize Frame.eval _ c=u' at he;intro h;cases he with
    | bool q=>
     cases q with
     | true=>exact PD (.cons (.code h1) hk) h
     | false=>exact PD (.cons (.code h2) hk) h
    | _=>cases h
   | @region id ops draw ho=>
    cases draw with
    | false=>exact PD (.cons (.inRegion _ ho) hk) h
    | true=>
     simp only [stepG.exec,qah,qa7,if_false] at h ⊢;rw [HF.follows];cases bP:(choose (.order iF id)).run L w with
     | halt q w2=>rw [bP] at h;cases h
     | ok n w2=>
      rw [bP] at h;have hs:aM L C (fR λ_=>True) β (choose (.order iF id)) (choose (.order iF id)):= .choose λn=> .pure ⟨rfl,trivial⟩;obtain ⟨n',W1,bV,CF,e1,⟨e2,_⟩,e3,e4,e5⟩:=hs.run #[] hw ht bP;have e6:(choose (.order iF id)).run C W= .ok n' W1:=by rw [←Sem.runT_fst C _ W #[],e1]
      rw [e6];subst e2;cases h;exact ⟨bV,W1,_, #[],rfl, .on (.on ((eR.mono e4.le).todo (.cons (.inRegion _ ho) (hk.mono e4.le)))),e3,e4,λe q=>by simp at q⟩
   | @rangeFunc f ps x y hf h1 h2=>
    refine rh (F:=λq=>match q with
      | .ok (l,mark) w=>stepG.apply L true { fn:=iF,tmps:=tm,todo:= .inRangeFunc l::_,defers:=mark++df,mode:= .run,kind:=kd,roundOf:=ro } (k++t::r) none (do let d←resolve (Frame.eval { fn:=iF,tmps:=tm,todo:= .inRangeFunc l::_,defers:=mark++df,mode:= .run,kind:=kd,roundOf:=ro }) { callee:= .value f,args:= #[.const (.func (.yield l) #[] #[])],argTypes:= #[] } 0;invoke d.target d.args) w
      | .halt _ w=> .ended (.stuck "range over a function: no such loop" _) w)
     (F':=λq=>match q with
      | .ok (l,mark) w=>stepG.apply C true { fn:=iF,tmps:=CC,todo:= .inRangeFunc l::_,defers:=mark++JD,mode:= .run,kind:=GY,roundOf:=CE } (k'++bs') none (do let d←resolve (Frame.eval { fn:=iF,tmps:=CC,todo:= .inRangeFunc l::_,defers:=mark++JD,mode:= .run,kind:=GY,roundOf:=CE }) { callee:= .value f,args:= #[.const (.func (.yield l) #[] #[])],argTypes:= #[] } 0;invoke d.target d.args) w
      | .halt _ w=> .ended (.stuck "range over a function: no such loop" _) w) (re iF ps ha.tmps ((HF.code _).2 h1) ((HF.code _).2 h2) ha.round) hw ht h ?_ ?_
    ·intro q w2 pN h;cases h
    ·rintro bV ⟨l,mk⟩ ⟨l',mk'⟩ w2 W2 pN ⟨hl,hmk⟩ qF ht2 hT h;have oO:=ha.mono hT.le;have yL:cM L C bV ({ fn:=iF,tmps:=tm,todo:= .inRangeFunc l::K,defers:=mk++df,mode:= .run,kind:=kd,roundOf:=ro }::k) ({ fn:=iF,tmps:=CC,todo:= .inRangeFunc l'::K',defers:=mk'++JD,mode:= .run,kind:=GY,roundOf:=CE }::k'):=
      (eR.mono hT.le).swap ⟨rfl,oO.tmps, .cons (.kS hl) (hk.mono hT.le),hmk.append oO.defers, .inl ⟨rfl,rfl⟩,ha.kind,oO.round,oO.vM⟩ rfl
     refine tv HP HF yL (KH HP (yL.top.eval f hf) ?_) qF ht2 h hp;exact .func (.yield hl) rfl rfl (λi v v' q=>by simp at q) (λi v v' q=>by simp at q)
end
end Go.Cx
namespace Go.Cx
open Go
variable[bq][aR][bs]
section
variable{L C:Program}{Xs:FuncId->Prop}{β:Bj}{t:Frame}{r bs':List Frame}{w W w1:World}{g1:Goroutine}
theorem KI(HP:fx L C){a b:Frame}{k k':List Frame}{m m':Bool}(eR:cM L C β (a::k) (b::k'))(Px:bs'≠[]\/k≠[]\/a.defers≠[])(hm:a.mode= .returning)(hw:cz β w W)(ht:gp w W){es:Array Event}
  (h:unwind L m a (k++t::r) none w= .go g1 w1 es):xu L C Xs t r bs' β w W w1 g1 (unwind C m' b (k'++bs') none W):=by
 have ha:=eR.top;obtain ⟨fn,tm,todo,df,md,kd,ro⟩:=a;obtain ⟨iF,CC,qZ,JD,KE,GY,CE⟩:=b;have hD:=ha.defers;have vt:=ha.fn;simp only at hD hm vt;subst vt;subst hm;obtain ⟨Vb,tu⟩:KE= .returning/\ro=none:=by rcases ha.mode with h | h;(cases h.1);exact ⟨h.2.1,h.2.2⟩
 subst Vb;subst tu;unfold unwind at h ⊢;cases hD with
 | @cons q q' ds ds' hq hd=>
  simp only at h ⊢;refine rh (F:=λx=>match x with
    | .ok calls w=> .go { frame:={ fn:=iF,tmps:=tm,todo:=todo,defers:=calls++ds,mode:= .returning,kind:=kd,roundOf:=none },callers:=k++t::r,status:= .running,dying:=none } w
    | .halt _ w=> .ended (.stuck "the deferred calls of a range-over-func loop have been taken" _) w)
   (F':=λx=>match x with
    | .ok calls w=> .go { frame:={ fn:=iF,tmps:=CC,todo:=qZ,defers:=calls++ds',mode:= .returning,kind:=GY,roundOf:=CE },callers:=k'++bs',status:= .running,dying:=none } w
    | .halt _ w=> .ended (.stuck "the deferred calls of a range-over-func loop have been taken" _) w) (np hq) hw ht h ?_ ?_
  ·intro q w2 pN h;cases h
  ·rintro bV v v' w2 W2 pN ⟨rfl,rfl⟩ qF ht2 hT h;have oO:=ha.mono hT.le;cases h;exact nX rfl (.on (.on ((eR.mono hT.le).swap ⟨rfl,oO.tmps,oO.todo,hd.mono hT.le, .inr ⟨rfl,rfl,rfl⟩,ha.kind,oO.round,oO.vM⟩ rfl))) qF
 | nil=>
  simp only at h ⊢;obtain ⟨f,e1,e2⟩:=ha.vM rfl;simp only at e1 e2;rw [e1] at h;rw [e2];simp only at h ⊢;refine rh (F:=λx=>match x with
    | .ok v w=>doReturn L m { fn:=iF,tmps:=tm,todo:=todo,defers:=[],mode:= .returning,kind:=kd,roundOf:=none } (k++t::r) none v w
    | .halt (.stuck s) w=> .ended (.stuck s _) w
    | .halt _ w=> .ended (.stuck "return: the result variables cannot be read" _) w)
   (F':=λx=>match x with
    | .ok v w=>doReturn C m' { fn:=iF,tmps:=CC,todo:=qZ,defers:=[],mode:= .returning,kind:=GY,roundOf:=CE } (k'++bs') none v w
    | .halt (.stuck s) w=> .ended (.stuck s _) w
    | .halt _ w=> .ended (.stuck "return: the result variables cannot be read" _) w) (rW HP f ha.tmps) hw ht h ?_ ?_
  ·intro q w2 pN h;cases q <;> cases h
  ·rintro bV v v' w2 W2 pN hv qF ht2 hT h;exact MH (eR.mono hT.le) (Px.imp id λh=>h.resolve_right λq=>q rfl) hv qF h
theorem ri(HP:fx L C)(HF:PF L C Xs){a b:Frame}{k k':List Frame}{m m':Bool}(eR:cM L C β (a::k) (b::k'))(Px:bs'≠[]\/k≠[]\/a.mode= .run\/a.defers≠[])(hw:cz β w W)(ht:gp w W){es:Array Event}
  (h:stepG L m (fD a (k++t::r)) w= .go g1 w1 es) (hp: ¬cY g1):xu L C Xs t r bs' β w W w1 g1 (stepG C m' (fD b (k'++bs')) W):=by
 rcases eR.top.mode with ⟨m1,m2⟩ | ⟨m1,m2,_⟩
 ·unfold stepG fD at h ⊢;simp only [m1,m2] at h ⊢;exact Q6 HP HF eR m1 hw ht h hp
 ·unfold stepG fD at h ⊢;simp only [m1,m2] at h ⊢;exact KI HP eR (Px.imp id λh=>h.imp id λh=>h.resolve_left λq=>by rw [m1] at q;cases q) m1 hw ht h
end
end Go.Cx
namespace Go.Cx
open Go
variable[bq][aR][bs]
abbrev TW(w:World)(τ:Tape):World:={ w with tape:=τ }
theorem aM.tape{Pl Pc:Program}{α:Type}{RA:Bj->α->α->Prop}{β:Bj}{s t:Sem α}(h:aM Pl Pc RA β s t): ∀{w W w1:World} {a:α},cz β w W->s.run Pl w= .ok a w1->
  (∃a' W1 bV,RA bV a a'/\cz bV w1 W1/\Le β bV)/\w.drawn<=w1.drawn/\w1.tape=w.tape/\(Dw w->Dw w1)/\ ∀τ:Tape,(∀j q,w.drawn<=j->j<w1.drawn->τ j q=w.tape j q)->s.run Pl (TW w τ)= .ok a (TW w1 τ):=by
 induction h with
 | pure ha=>
  intro w W w1 a hw hr;cases hr;exact ⟨⟨_,W,_,ha,hw,Le.refl _⟩,qa3 _,rfl,id,λτ _=>rfl⟩
 | @load β ad lZ k k' GW _ ih=>
  intro w W w1 a hw hr;simp only [Sem.run] at hr;cases hc:w.cell? ad with
  | none=>
   exfalso;obtain ⟨e,he⟩:=hw.ab5 GW.block Pl (Mode.plain==Mode.atomic);rw [hc] at hr;simp only [he] at hr;cases hr
  | some v=>
   rw [hc] at hr;obtain ⟨v',GX,hvr⟩:=hw.cell GW hc;obtain ⟨h1,h2,h3,hd,h4⟩:=ih v v' hvr hw hr;refine ⟨h1,h2,h3,hd,λτ mI=> ?_⟩;have PX:(TW w τ).cell? ad=some v:=hc;simp only [Sem.run,PX];exact h4 τ mI
 | @store β ad lZ v v' k k' GW hv _ ih=>
  intro w W w1 a hw hr;have ua:(∀c,v≠ .agg c)/\ ∀c,v≠ .tuple c:=by
   constructor
   ·rintro c rfl;cases hr
   ·rintro c rfl;cases hr
  have MB: ∀w,(Sem.store .plain ad v k).run Pl w=(match w.cell? ad with
    | some _=>if w.frozen? ad then Result.halt (.unsupported (.unsafePointer "a write to bytes that a string shares")) w else k.run Pl (w.setCell ad v)
    | none=>match w.farStore Pl ad v (Mode.plain==Mode.atomic) with
     | .ok (w,_)=>k.run Pl w
     | .error h=> .halt h w):=by
   intro w;cases v <;> first | rfl | exact absurd rfl (ua.1 _) | exact absurd rfl (ua.2 _)
  rw [MB] at hr;cases hc:w.cell? ad with
  | none=>
   exfalso;obtain ⟨e,he⟩:=hw.ab6 GW.block Pl v (Mode.plain==Mode.atomic);rw [hc] at hr;simp only [he] at hr;cases hr
  | some u=>
   rw [hc] at hr;simp only at hr;cases hf:w.frozen? ad with
   | true=>rw [hf] at hr;cases hr
   | false=>
    rw [hf] at hr;simp only [qa7,if_false] at hr;obtain ⟨_,hf',B7,hT,hE⟩:=tl hw GW hv hc hf;obtain ⟨⟨a',W1,bV,g1,g2,g3⟩,h2,h3,hd,h4⟩:=ih B7 hr;refine ⟨⟨a',W1,bV,g1,g2,hT.le.trans g3⟩,h2,h3,λh=>hd (yB h),λτ mI=> ?_⟩;have PX:(TW w τ).cell? ad=some u:=hc;have hf2:(TW w τ).frozen? ad=false:=hf;rw [MB,PX];simp only [hf2,qa7,if_false];exact h4 τ mI
 | @new β o o' k k' ho _ ih=>
  intro w W w1 a hw hr;obtain ⟨B7,hT⟩:=yA hw ho.o ho.no;obtain ⟨⟨a',W1,bV,g1,g2,g3⟩,h2,h3,hd,h4⟩:=ih _ w.heap.size W.heap.size hT.le (.inr ⟨rfl,rfl⟩) B7 hr;exact ⟨⟨a',W1,bV,g1,g2,hT.le.trans g3⟩,h2,h3,λh=>hd (EJ h ho.dw),h4⟩
 | @shape β r r' k k' hb _ ih=>
  intro w W w1 a hw hr;exact ih _ hw hr
 | @getObj β r r' k k' hb _ ih=>
  intro w W w1 a hw hr;obtain ⟨x,x',k1,k2,k3⟩:=hw.obj _ _ hb;simp only [Sem.run,k1] at hr;cases k3 with
  | cells e hc=>cases hr
  | lock e hc=>cases hr
  | @loop l l' hl=>
   obtain ⟨h1,h2,h3,hd,h4⟩:=ih (.loop l) (.loop l') (.loop hl) hw hr;exact ⟨h1,h2,h3,hd,λτ mI=>by simp only [Sem.run,k1];exact h4 τ mI⟩
  | @num ad lZ lost ha=>
   obtain ⟨h1,h2,h3,hd,h4⟩:=ih _ _ (.num lost ha) hw hr;exact ⟨h1,h2,h3,hd,λτ mI=>by simp only [Sem.run,k1];exact h4 τ mI⟩
  | z6 b=>
   obtain ⟨h1,h2,h3,hd,h4⟩:=ih _ _ (.z6 b) hw hr;exact ⟨h1,h2,h3,hd,λτ mI=>by simp only [Sem.run,k1];exact h4 τ mI⟩
 | @setObj β r r' o o' k k' hb ho hn _ ih=>
  intro w W w1 a hw hr;obtain ⟨x,x',k1,k2,k3⟩:=hw.obj _ _ hb;have hx: ∀c e f,x≠ .cells c e f:=by
   rintro c e f rfl;simp only [Sem.run,k1] at hr;cases hr
  have MB: ∀w:World,w.heap[r]? =some x->(Sem.setObj r o k).run Pl w=k.run Pl { w with heap:=w.heap.setIfInBounds r o }:=by
   intro w hk;simp only [Sem.run,hk]
  rw [MB w k1] at hr;obtain ⟨_,B7,hT⟩:=qU hw hb ho.o k1 hx hn;obtain ⟨⟨a',W1,bV,g1,g2,g3⟩,h2,h3,hd,h4⟩:=ih B7 hr;exact ⟨⟨a',W1,bV,g1,g2,hT.le.trans g3⟩,h2,h3,λh=>hd (vI h ho.dw),λτ mI=>by rw [MB (TW w τ) k1];exact h4 τ mI⟩
 | @choose β q k k' _ ih=>
  intro w W w1 a hw hr;simp only [Sem.run] at hr;split at hr
  ·rename_i hq;obtain ⟨h1,h2,h3,hd,h4⟩:=ih 0 hw hr;exact ⟨h1,h2,h3,hd,λτ mI=>by simp only [Sem.run,hq,if_true];exact h4 τ mI⟩
  ·rename_i hq;obtain ⟨h1,h2,h3,hd,h4⟩:=ih _ (hw.draw (w.drawn+1) W.drawn) hr;have JB:w.drawn+1<=w1.drawn:=h2;refine ⟨h1,by omega,h3,λh=>hd h,λτ mI=> ?_⟩;simp only [Sem.run,hq,if_false];have h0:τ w.drawn q=w.tape w.drawn q:=mI _ _ (qa3 _) (by omega);show (k (q.cut (τ w.drawn q))).run Pl _=_;rw [h0];exact h4 τ λj q hj=>mI j q (by have:w.drawn+1<=j:=hj;omega)
 | program _ ih=>
  intro w W w1 a hw hr;exact ih hw hr
 | mark _ ih=>
  intro w W w1 a hw hr;exact ih hw hr
 | dead hd=>
  intro w W w1 a hw hr;exact absurd hr (hd.no _ _ _)
end Go.Cx
