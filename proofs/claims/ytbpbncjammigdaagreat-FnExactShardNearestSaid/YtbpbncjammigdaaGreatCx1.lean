/- One program beside another, one goroutine among others. -/
import Derived.Test.YtbpbncjammigdaaGreatAl
import GoSem.Step
import Derived.Laws.Sem
import Derived.Calls
set_option linter.unusedVariables false
set_option linter.unusedSimpArgs false
set_option maxHeartbeats 4000000
namespace Go.Cx
open Go
class aV where
 ok:FuncId->Prop
 sQ:FuncId->Prop
class aJ where
 code:Code->Prop
class aY where
 hp:Value->Prop
 noI: ∀t w, ¬hp (.iface t w)
def Odd:Value->Prop
 | .bool _ | .int _ _ | .string _ | .agg _ | .pointer none | .slice none _ _ | .nilFunc | .nilIface | .func (.method _) _ _=>False
 | _=>True
variable[aV][aJ][aY]
abbrev Bj:=Nat->Nat->Prop
def Le(β γ:Bj):Prop:= ∀a b,β a b->γ a b
omit [aV] [aJ] [aY] in
theorem Le.refl(β:Bj):Le β β:=λ_ _ h=>h
omit [aV] [aJ] [aY] in
theorem Le.trans{β γ δ:Bj}(h:Le β γ)(k:Le γ δ):Le β δ:=λa b x=>k a b (h a b x)
structure iE(β:Bj)(a a':Addr):Prop where
 block:β a.block a'.block
 off:a'.off=a.off
 spot:a'.spot=a.spot
omit [aV] [aJ] [aY] in
theorem iE.mono{β γ:Bj}(l:Le β γ){a a':Addr}(h:iE β a a'):iE γ a a':=⟨l _ _ h.block,h.off,h.spot⟩
omit [aV] [aJ] [aY] in
theorem iE.add{β:Bj}{a a':Addr}(h:iE β a a')(n:Nat):iE β (a.add n) (a'.add n):=by
 unfold Addr.add;by_cases hn:n=0
 ·simp only [hn,if_true];exact h
 ·simp only [hn,if_false];exact ⟨h.block,by simp [h.off],rfl⟩
inductive B4(β:Bj):Fn->Fn->Prop
 | func (f:FuncId):aV.ok f->B4 β (.func f) (.func f)
 | yield {l l':Nat}:β l l'->B4 β (.yield l) (.yield l')
 | method (n:String):B4 β (.method n) (.method n)
omit [aJ] [aY] in
theorem B4.mono{β γ:Bj}(l:Le β γ){f f':Fn}(h:B4 β f f'):B4 γ f f':=by
 cases h with
 | func f h=>exact .func f h
 | yield h=>exact .yield (l _ _ h)
 | method n=>exact .method n
inductive ay(β:Bj):Value->Value->Prop
 | bool (b:Bool):ay β (.bool b) (.bool b)
 | int (k:IntKind) (n:Int):ay β (.int k n) (.int k n)
 | string (s:ByteArray):ay β (.string s) (.string s)
 | nQ:ay β (.pointer none) (.pointer none)
 | ptr {a a':Addr}:iE β a a'->ay β (.pointer (some a)) (.pointer (some a'))
 | jB (l c:Nat):ay β (.slice none l c) (.slice none l c)
 | vY (a a':Addr):ay β (.slice (some a) 0 0) (.slice (some a') 0 0)
 | slice {a a':Addr} (l c:Nat):iE β a a'->ay β (.slice (some a) l c) (.slice (some a') l c)
 | func {f f':Fn} {x x' y y':Array Value}:B4 β f f'->x.size=x'.size->y.size=y'.size->(∀(i:Nat) (v v':Value),x[i]? =some v->x'[i]? =some v'->ay β v v')->(∀(i:Nat) (v v':Value),y[i]? =some v->y'[i]? =some v'->ay β v v')->
  ay β (.func f x y) (.func f' x' y')
 | oC:ay β .nilFunc .nilFunc
 | iface (t:TypeId) {v v':Value}:ay β v v'->ay β (.iface t v) (.iface t v')
 | gZ:ay β .nilIface .nilIface
 | agg {x x':Array Value}:x.size=x'.size->(∀(i:Nat) (v v':Value),x[i]? =some v->x'[i]? =some v'->ay β v v')->ay β (.agg x) (.agg x')
 | tuple {x x':Array Value}:x.size=x'.size->(∀(i:Nat) (v v':Value),x[i]? =some v->x'[i]? =some v'->ay β v v')->ay β (.tuple x) (.tuple x')
 | hole {v':Value}:Odd v'->aY.hp v'->ay β (.tuple #[]) v'
omit [aJ] in
theorem ay.mono{β γ:Bj}(l:Le β γ){v v':Value}(h:ay β v v'):ay γ v v':=by
 induction h with
 | bool b=>exact .bool b
 | int k n=>exact .int k n
 | string s=>exact .string s
 | nQ=>exact .nQ
 | ptr h=>exact .ptr (h.mono l)
 | jB n c=>exact .jB n c
 | vY a a'=>exact .vY a a'
 | slice n c h=>exact .slice n c (h.mono l)
 | func h h1 h2 _ _ i1 i2=>exact .func (h.mono l) h1 h2 i1 i2
 | oC=>exact .oC
 | iface t _ ih=>exact .iface t ih
 | gZ=>exact .gZ
 | agg h _ ih=>exact .agg h ih
 | tuple h _ ih=>exact .tuple h ih
 | hole h k=>exact .hole h k
def aG(β:Bj)(x x':Array Value):Prop:=x.size=x'.size/\ ∀(i:Nat) (v v':Value),x[i]? =some v->x'[i]? =some v'->ay β v v'
omit [aJ] in
theorem aG.mono{β γ:Bj}(l:Le β γ){x x':Array Value}(h:aG β x x'):aG γ x x':=⟨h.1,λi v v' a b=>(h.2 i v v' a b).mono l⟩
omit [aJ] in
theorem aG.get{β:Bj}{x x':Array Value}(h:aG β x x'){i:Nat}{v:Value}(hv:x[i]? =some v): ∃v',x'[i]? =some v'/\ay β v v':=by
 obtain ⟨hi,_⟩:=qa1.1 hv;have fz:i<x'.size:=h.1▸hi;exact ⟨x'[i],Array.getElem?_eq_getElem fz,h.2 i _ _ hv (Array.getElem?_eq_getElem fz)⟩
omit [aJ] in
theorem aG.none{β:Bj}{x x':Array Value}(h:aG β x x'){i:Nat}(hv:x[i]? =none):x'[i]? =none:=by
 rw [Array.getElem?_eq_none_iff] at hv ⊢;rw [←h.1];exact hv
omit [aJ] in
theorem aG.empty{β:Bj}:aG β #[] #[]:=⟨rfl,λi v v' h=>by simp at h⟩
omit [aJ] in
theorem aG.push{β:Bj}{x x':Array Value}{v v':Value}(h:aG β x x')(hv:ay β v v'):aG β (x.push v) (x'.push v'):=by
 refine ⟨by simp [h.1],λi u u' hu tj=> ?_⟩;rw [qbv] at hu tj;split at hu
 ·rename_i e;rw [if_pos (e.trans h.1)] at tj;cases hu;cases tj;exact hv
 ·rename_i e;rw [if_neg (by rw [←h.1];exact e)] at tj;exact h.2 i u u' hu tj
omit [aJ] in
theorem aG.append{β:Bj}{x x' y y':Array Value}(h:aG β x x')(k:aG β y y'):aG β (x++y) (x'++y'):=by
 refine ⟨by simp [h.1,k.1],λi u u' hu tj=> ?_⟩;rw [Array.getElem?_append] at hu tj;split at hu
 ·rename_i e;rw [if_pos (by rw [←h.1];exact e)] at tj;exact h.2 i u u' hu tj
 ·rename_i e;rw [if_neg (by rw [←h.1];exact e), ←h.1] at tj;exact k.2 _ u u' hu tj
omit [aJ] in
theorem aG.set{β:Bj}{x x':Array Value}{v v':Value}(h:aG β x x')(hv:ay β v v')(k:Nat):aG β (x.setIfInBounds k v) (x'.setIfInBounds k v'):=by
 refine ⟨by simp [h.1],λi u u' hu tj=> ?_⟩;rw [qah] at hu tj;split at hu
 ·rename_i e;rw [if_pos e, ←h.1] at tj;split at hu
  ·rename_i e2;rw [if_pos e2] at tj;cases hu;cases tj;exact hv
  ·cases hu
 ·rename_i e;rw [if_neg e] at tj;exact h.2 i u u' hu tj
omit [aJ] in
theorem aG.extract{β:Bj}{x x':Array Value}(h:aG β x x')(a b:Nat):aG β (x.extract a b) (x'.extract a b):=by
 refine ⟨by simp [h.1],λi u u' hu tj=> ?_⟩;rw [Array.getElem?_extract] at hu tj;split at hu
 ·rename_i e;rw [if_pos (by rw [←h.1];exact e)] at tj;exact h.2 _ u u' hu tj
 ·cases hu
omit [aJ] in
theorem aG.one{β:Bj}{v v':Value}(h:ay β v v'):aG β #[v] #[v']:=aG.empty.push h
omit [aJ] in
theorem aG.D7{β:Bj}{x x':Array Value}(h:aG β x x'):ay β (.agg x) (.agg x'):= .agg h.1 h.2
omit [aJ] in
theorem aG.F8{β:Bj}{x x':Array Value}(h:aG β x x'):ay β (.tuple x) (.tuple x'):= .tuple h.1 h.2
omit [aJ] in
theorem ay.cells{β:Bj}{v v':Value}(h:ay β v v'):aG β v.cells v'.cells:=by
 cases h with
 | agg h k=>exact ⟨h,k⟩
 | bool b=>exact aG.one (.bool b)
 | int k n=>exact aG.one (.int k n)
 | string s=>exact aG.one (.string s)
 | nQ=>exact aG.one .nQ
 | ptr h=>exact aG.one (.ptr h)
 | jB n c=>exact aG.one (.jB n c)
 | vY a a'=>exact aG.one (.vY a a')
 | slice n c h=>exact aG.one (.slice n c h)
 | func h h1 h2 h3 h4=>exact aG.one (.func h h1 h2 h3 h4)
 | oC=>exact aG.one .oC
 | iface t h=>exact aG.one (.iface t h)
 | gZ=>exact aG.one .gZ
 | tuple h k=>exact aG.one (.tuple h k)
 | @hole v' h k=>exact (show v'.cells= #[v'] by cases v' <;> first | rfl | exact h.elim)▸aG.one (.hole h k)
omit [aJ] in
theorem aG.map{β:Bj}{α:Type}{xs:Array α}{f g:α->Value}(h: ∀x∈xs,ay β (f x) (g x)):aG β (xs.map f) (xs.map g):=by
 refine ⟨by simp,λi u u' hu tj=> ?_⟩;rw [qc6] at hu tj;cases hx:xs[i]? with
 | none=>rw [hx] at hu;cases hu
 | some x=>rw [hx] at hu tj;cases hu;cases tj;exact h x (qb3 hx)
inductive Plain:Value->Prop
 | bool (b:Bool):Plain (.bool b)
 | int (k:IntKind) (n:Int):Plain (.int k n)
 | string (s:ByteArray):Plain (.string s)
 | nQ:Plain (.pointer none)
 | jB (l c:Nat):Plain (.slice none l c)
 | oC:Plain .nilFunc
 | gZ:Plain .nilIface
 | agg {x:Array Value}:(∀(i:Nat) (v:Value),x[i]? =some v->Plain v)->Plain (.agg x)
 | tuple {x:Array Value}:(∀(i:Nat) (v:Value),x[i]? =some v->Plain v)->Plain (.tuple x)
omit [aJ] in
theorem Plain.rel{β:Bj}{v:Value}(h:Plain v):ay β v v:=by
 induction h with
 | bool b=>exact .bool b
 | int k n=>exact .int k n
 | string s=>exact .string s
 | nQ=>exact .nQ
 | jB n c=>exact .jB n c
 | oC=>exact .oC
 | gZ=>exact .gZ
 | agg _ ih=>exact .agg rfl λi v v' h h'=>by rw [h] at h';cases h';exact ih i v h
 | tuple _ ih=>exact .tuple rfl λi v v' h h'=>by rw [h] at h';cases h';exact ih i v h
structure ID(β:Bj)(l l':Loop):Prop where
 state:l'.state=l.state
 pending:l'.pending=l.pending
 fn:l'.fn=l.fn
 tmps:aG β l.tmps l'.tmps
 params:l'.params=l.params
 assign:l'.assign=l.assign
 body:l'.body=l.body
 defers:β l.defers l'.defers
 ca:aJ.code l.assign
 cb:aJ.code l.body
 cp: ∀c,l.pending=some c->aJ.code c
theorem ID.mono{β γ:Bj}(l:Le β γ){x x':Loop}(h:ID β x x'):ID γ x x':=⟨h.state,h.pending,h.fn,h.tmps.mono l,h.params,h.assign,h.body,l _ _ h.defers,h.ca,h.cb,h.cp⟩
inductive rF(β:Bj):Obj->Obj->Prop
 | cells {c c':Array Value} (e:TypeId):aG β c c'->rF β (.cells c e) (.cells c' e)
 | lock {c c':Array Value} {f':Nat×Nat} (e:TypeId):aG β c c'->rF β (.cells c e (0,c.size+1)) (.cells c' e f')
 | loop {l l':Loop}:ID β l l'->rF β (.loop l) (.loop l')
 | num {a a':Addr} (lost:Bool):iE β a a'->rF β (.number a lost) (.number a' lost)
 | BT (b:Bool):rF β (.deferred (if b then some [] else none)) (.deferred (if b then some [] else none))
theorem rF.mono{β γ:Bj}(l:Le β γ){x x':Obj}(h:rF β x x'):rF γ x x':=by
 cases h with
 | cells e h=>exact .cells e (h.mono l)
 | lock e h=>exact .lock e (h.mono l)
 | loop h=>exact .loop (h.mono l)
 | num b h=>exact .num b (h.mono l)
 | BT b=>exact .BT b
inductive xG(β:Bj):Obj->Obj->Prop
 | cells {c c':Array Value} (e:TypeId):aG β c c'->xG β (.cells c e) (.cells c' e)
 | loop {l l':Loop}:ID β l l'->xG β (.loop l) (.loop l')
 | num {a a':Addr} (lost:Bool):iE β a a'->xG β (.number a lost) (.number a' lost)
 | BT (b:Bool):xG β (.deferred (if b then some [] else none)) (.deferred (if b then some [] else none))
theorem xG.o{β:Bj}{x x':Obj}(h:xG β x x'):rF β x x':=by
 cases h with
 | cells e h=>exact .cells e h
 | loop h=>exact .loop h
 | num b h=>exact .num b h
 | BT b=>exact .BT b
theorem xG.no{β:Bj}{x x':Obj}(h:xG β x x')(c:Array Value)(e:TypeId)(q:x= .cells c e (0,c.size+1)):False:=by
 cases h with
 | cells e h=>injection q with q1 q2 q3;simp at q3
 | loop h=>cases q
 | num b h=>cases q
 | BT b=>cases q
end Go.Cx
namespace Go.Cx
open Go
variable[aV][aJ][aY]
def IE:Halt->Prop
 | .panic _ | .stuck _=>True
 | .unsupported u=> ∀g,u≠ .initOrder g
 | _=>False
def Mld(L:Program){α:Type}(s:Sem α):Prop:= ∀w h w1,s.run L w= .halt h w1->IE h
def Dw(w:World):Prop:= ∀(r:Nat) (ds:List Deferred),w.heap[r]? =some (Obj.deferred (some ds))->ds=[]
structure aQ(L:Program){α:Type}(s:Sem α):Prop where
 no: ∀w a w1,s.run L w≠ .ok a w1
 zX:Mld L s
 kp: ∀w h w1,Dw w->s.run L w= .halt h w1->Dw w1
omit [aV] [aJ] [aY] in
theorem aQ.dP{L:Program}{α γ:Type}{s:Sem α}{f:α->Sem γ}(h:aQ L s):aQ L (s >>= f):=by
 refine ⟨λw a w1 q=> ?_,λw hh w1 q=> ?_,λw hh w1 hd q=> ?_⟩
 ·rw [Sem.run_bind] at q;cases hs:s.run L w with
  | ok x w'=>exact h.no _ _ _ hs
  | halt hh w'=>rw [hs] at q;cases q
 ·rw [Sem.run_bind] at q;cases hs:s.run L w with
  | ok x w'=>exact (h.no _ _ _ hs).elim
  | halt hh w'=>rw [hs] at q;cases q;exact h.zX _ _ _ hs
 ·rw [Sem.run_bind] at q;cases hs:s.run L w with
  | ok x w'=>exact (h.no _ _ _ hs).elim
  | halt hh w'=>rw [hs] at q;cases q;exact h.kp _ _ _ hd hs
section
variable(Pl Pc:Program)
inductive aC{α:Type}(RA:Bj->α->α->Prop):Bj->Sem α->Sem α->Prop
 | pure {β:Bj} {a a':α}:RA β a a'->aC RA β (.pure a) (.pure a')
 | load {β:Bj} {a a':Addr} {k k':Value->Sem α}:iE β a a'->(∀v v',ay β v v'->aC RA β (k v) (k' v'))->aC RA β (.load .plain a k) (.load .plain a' k')
 | store {β:Bj} {a a':Addr} {v v':Value} {k k':Sem α}:iE β a a'->ay β v v'->aC RA β k k'->aC RA β (.store .plain a v k) (.store .plain a' v' k')
 | new {β:Bj} {o o':Obj} {k k':Nat->Sem α}:xG β o o'->(∀γ r r',Le β γ->γ r r'->aC RA γ (k r) (k' r'))->aC RA β (.new o k) (.new o' k')
 | shape {β:Bj} {r r':Nat} {k k':Option (TypeId×Nat)->Sem α}:β r r'->(∀s,aC RA β (k s) (k' s))->aC RA β (.shape r k) (.shape r' k')
 | getObj {β:Bj} {r r':Nat} {k k':Obj->Sem α}:β r r'->(∀o o',rF β o o'->aC RA β (k o) (k' o'))->aC RA β (.getObj r k) (.getObj r' k')
 | setObj {β:Bj} {r r':Nat} {o o':Obj} {k k':Sem α}:β r r'->xG β o o'->(∀c e f,o≠ .cells c e f)->aC RA β k k'->aC RA β (.setObj r o k) (.setObj r' o' k')
 | choose {β:Bj} {q:Question} {k k':Nat->Sem α}:(∀n,aC RA β (k n) (k' n))->aC RA β (.choose q k) (.choose q k')
 | program {β:Bj} {k k':Program->Sem α}:aC RA β (k Pl) (k' Pc)->aC RA β (.program k) (.program k')
 | mark {β:Bj} {k k':Sem α}:aC RA β k k'->aC RA β (.mark .noRoom k) (.mark .noRoom k')
 | dead {β:Bj} {s t:Sem α}:aQ Pl s->aC RA β s t
variable{Pl Pc}
theorem aC.bind{α γ:Type}{RA:Bj->α->α->Prop}{RB:Bj->γ->γ->Prop}{β:Bj}{s t:Sem α}{f g:α->Sem γ}(h:aC Pl Pc RA β s t)(k: ∀bR a a',Le β bR->RA bR a a'->aC Pl Pc RB bR (f a) (g a')):aC Pl Pc RB β (s.bind f) (t.bind g):=by
 induction h with
 | pure h=>exact k _ _ _ (Le.refl _) h
 | load ha _ ih=>exact .load ha λv v' hv=>ih v v' hv k
 | store ha hv _ ih=>exact .store ha hv (ih k)
 | new ho _ ih=>exact .new ho λγ r r' hl hr=>ih γ r r' hl hr λbR a a' oi h=>k bR a a' (hl.trans oi) h
 | shape hr _ ih=>exact .shape hr λs=>ih s k
 | getObj hr _ ih=>exact .getObj hr λo o' ho=>ih o o' ho k
 | setObj hr ho hn _ ih=>exact .setObj hr ho hn (ih k)
 | choose _ ih=>exact .choose λn=>ih n k
 | program _ ih=>exact .program (ih k)
 | mark _ ih=>exact .mark (ih k)
 | dead hd=>exact .dead (aQ.dP hd)
theorem aC.imp{α:Type}{RA RB:Bj->α->α->Prop}{β:Bj}{s t:Sem α}(h:aC Pl Pc RA β s t)(k: ∀bR a a',Le β bR->RA bR a a'->RB bR a a'):aC Pl Pc RB β s t:=by
 induction h with
 | pure h=>exact .pure (k _ _ _ (Le.refl _) h)
 | load ha _ ih=>exact .load ha λv v' hv=>ih v v' hv k
 | store ha hv _ ih=>exact .store ha hv (ih k)
 | new ho _ ih=>exact .new ho λγ r r' hl hr=>ih γ r r' hl hr λbR a a' oi h=>k bR a a' (hl.trans oi) h
 | shape hr _ ih=>exact .shape hr λs=>ih s k
 | getObj hr _ ih=>exact .getObj hr λo o' ho=>ih o o' ho k
 | setObj hr ho hn _ ih=>exact .setObj hr ho hn (ih k)
 | choose _ ih=>exact .choose λn=>ih n k
 | program _ ih=>exact .program (ih k)
 | mark _ ih=>exact .mark (ih k)
 | dead h=>exact .dead h
end
structure bZ(β:Bj)(w W:World):Prop where
 obj: ∀a b,β a b-> ∃o o',w.heap[a]? =some o/\W.heap[b]? =some o'/\rF β o o'
 inj: ∀a a' b,β a b->β a' b->a=a'
 fn: ∀a b b',β a b->β a b'->b=b'
theorem bZ.RP{β:Bj}{w W:World}(h:bZ β w W){a b:Nat}(hb:β a b):a<w.heap.size:=by
 obtain ⟨o,_,h1,_⟩:=h.obj a b hb;exact (qa1.1 h1).1
theorem bZ.NA{β:Bj}{w W:World}(h:bZ β w W){a b:Nat}(hb:β a b):b<W.heap.size:=by
 obtain ⟨_,o',_,h1,_⟩:=h.obj a b hb;exact (qa1.1 h1).1
def ga(β:Bj)(w:World)(b:Nat):Prop:= ∃a c e,β a b/\True/\w.heap[a]? =some (.cells c e (0,c.size+1))
def sT(β:Bj)(w:World)(e:Event):Prop:=
 (e.sync=false/\((∃ad a,e.loc= .cell ad/\β a ad.block/\(e.write=true-> ¬ga β w ad.block))\/(∃r a,e.loc= .obj r/\β a r/\ ¬ga β w r)))\/e=⟨.mark .noRoom,false,true⟩
structure lM(β bR:Bj)(w w1 W W1:World):Prop where
 le:Le β bR
 Km:w1.tape=w.tape
 tape:W1.tape=W.tape
 os:W1.os=W.os
 output:W1.output=W.output
 xH:w.drawn<=w1.drawn
 drawn:W1.drawn=W.drawn+(w1.drawn - w.drawn)
 size:W.heap.size<=W1.heap.size
 F9:w.heap.size<=w1.heap.size
 stay: ∀b,b<W.heap.size->(∀a, ¬β a b)->W1.heap[b]? =W.heap[b]?
 lock: ∀b,ga β w b->W1.heap[b]? =W.heap[b]?
 CR: ∀b,ga β w b->ga bR w1 b
 unlock: ∀b,(∃a,β a b)-> ¬ga β w b-> ¬ga bR w1 b
 fresh: ∀a b,bR a b->β a b\/(w.heap.size<=a/\W.heap.size<=b/\b<W1.heap.size/\ ¬ga bR w1 b)
 all: ∀b,W.heap.size<=b->b<W1.heap.size-> ∃a,bR a b
 ofs: ∀a b,bR a b->β a b\/a+W.heap.size=b+w.heap.size
 grow:w1.heap.size+W.heap.size=W1.heap.size+w.heap.size
 NW: ∀a,a<w.heap.size->(∀b, ¬β a b)->w1.heap[a]? =w.heap[a]?
omit [aV] [aJ] [aY] in
theorem lM.refl(β:Bj)(w W:World):lM β β w w W W:=
 ⟨Le.refl _,rfl,rfl,rfl,rfl,qa3 _,by omega,qa3 _,qa3 _,λ_ _ _=>rfl,λ_ _=>rfl,λ_ h=>h,λ_ _ h=>h,λ_ _ h=> .inl h,λb h1 h2=>by omega,λ_ _ h=> .inl h,by omega,λ_ _ _=>rfl⟩
omit [aV] [aJ] [aY] in
theorem lM.trans{β bR gW:Bj}{w w1 w2 W W1 W2:World}(h:lM β bR w w1 W W1)(k:lM bR gW w1 w2 W1 W2):lM β gW w w2 W W2 where
 le:=h.le.trans k.le
 Km:=k.Km.trans h.Km
 tape:=k.tape.trans h.tape
 os:=k.os.trans h.os
 output:=k.output.trans h.output
 xH:=qa8 h.xH k.xH
 drawn:=by have:=h.drawn;have:=k.drawn;have:=h.xH;have:=k.xH;omega
 size:=qa8 h.size k.size
 F9:=qa8 h.F9 k.F9
 stay:=λb hb hn=>by
  have h1: ∀a, ¬bR a b:=λa ha=>by
   rcases h.fresh a b ha with hh | ⟨_,hh,_⟩
   ·exact hn a hh
   ·omega
  exact (k.stay b (qa2 hb h.size) h1).trans (h.stay b hb hn)
 lock:=λb hb=>(k.lock b (h.CR b hb)).trans (h.lock b hb)
 CR:=λb hb=>k.CR b (h.CR b hb)
 unlock:=λb ⟨a,ha⟩ hn=>k.unlock b ⟨a,h.le a b ha⟩ (h.unlock b ⟨a,ha⟩ hn)
 fresh:=λa b mw=>by
  rcases k.fresh a b mw with hh | ⟨g1,g2,g3,g4⟩
  ·rcases h.fresh a b hh with h1 | ⟨h1,h2,h3,h4⟩
   ·exact .inl h1
   ·exact .inr ⟨h1,h2,qa2 h3 k.size,k.unlock b ⟨a,hh⟩ h4⟩
  ·exact .inr ⟨qa8 h.F9 g1,qa8 h.size g2,g3,g4⟩
 all:=λb h1 h2=>by
  by_cases hb:b<W1.heap.size
  ·obtain ⟨a,ha⟩:=h.all b h1 hb;exact ⟨a,k.le a b ha⟩
  ·exact k.all b (by omega) h2
 ofs:=λa b mw=>by
  have h1:=h.grow;rcases k.ofs a b mw with hh | hh
  ·exact h.ofs a b hh
  ·exact .inr (by omega)
 grow:=by have:=h.grow;have:=k.grow;omega
 NW:=λa ha hn=>by
  have h1: ∀b, ¬bR a b:=λb hb=>by
   rcases h.fresh a b hb with hh | ⟨hh,_⟩
   ·exact hn b hh
   ·omega
  exact (k.NW a (qa2 ha h.F9) h1).trans (h.NW a ha hn)
omit [aV] [aJ] [aY] in
theorem sT.my{β bR:Bj}{w w1 W W1:World}{e:Event}(h:sT β w e)(k:lM β bR w w1 W W1):sT bR w1 e:=by
 obtain ⟨h0,⟨ad,a,h1,h2,h3⟩ | ⟨r,a,h1,h2,h3⟩⟩ | h:=h
 ·exact .inl ⟨h0, .inl ⟨ad,a,h1,k.le _ _ h2,λhw=>k.unlock _ ⟨a,h2⟩ (h3 hw)⟩⟩
 ·exact .inl ⟨h0, .inr ⟨r,a,h1,k.le _ _ h2,k.unlock _ ⟨a,h2⟩ h3⟩⟩
 ·exact .inr h
def gH(w W:World):Prop:= ∀(j:Nat) (q:Question),W.tape (W.drawn+j) q=w.tape (w.drawn+j) q
omit [aV] [aJ] [aY] in
theorem gH.my{β bR:Bj}{w w1 W W1:World}(h:gH w W)(k:lM β bR w w1 W W1):gH w1 W1:=λj q=>by
 have:=k.drawn;have:=k.xH;have e1:W1.drawn+j=W.drawn+((w1.drawn - w.drawn)+j):=by omega
 have e2:w1.drawn+j=w.drawn+((w1.drawn - w.drawn)+j):=by omega
 rw [k.tape,k.Km,e1,e2];exact h _ q
omit [aV] [aJ] [aY] in
theorem mz{w:World}{a:Addr}{v:Value}(h:w.cell? a=some v): ∃c e f,w.heap[a.block]? =some (.cells c e f)/\a.spot=none/\c[a.off]? =some v:=by
 unfold World.cell? at h;split at h
 ·rename_i c e f heq;split at h
  ·cases h
  ·rename_i hs;exact ⟨c,e,f,heq,by simpa using hs,h⟩
 ·cases h
omit [aV] [aJ] [aY] in
theorem cell_of{w:World}{a:Addr}{v:Value}{c:Array Value}{e:TypeId}{f:Nat×Nat}(h:w.heap[a.block]? =some (.cells c e f))(hs:a.spot=none)(hc:c[a.off]? =some v):w.cell? a=some v:=by
 unfold World.cell?; rw [h];simp [hs,hc]
theorem bZ.cell{β:Bj}{w W:World}(h:bZ β w W){a a':Addr}(ha:iE β a a'){v:Value}(hv:w.cell? a=some v): ∃v',W.cell? a'=some v'/\ay β v v':=by
 obtain ⟨c,e,f,h1,h2,h3⟩:=mz hv;obtain ⟨o,o',k1,k2,k3⟩:=h.obj _ _ ha.block;rw [h1] at k1;cases k1;cases k3 with
 | cells e hc=>
  obtain ⟨v',g1,g2⟩:=hc.get h3;exact ⟨v',cell_of k2 (ha.spot.trans h2) (ha.off▸g1),g2⟩
 | lock e hc=>
  obtain ⟨v',g1,g2⟩:=hc.get h3;exact ⟨v',cell_of k2 (ha.spot.trans h2) (ha.off▸g1),g2⟩
omit [aV] [aJ] [aY] in
theorem size_setCell{w:World}{a:Addr}{v:Value}:(w.setCell a v).heap.size=w.heap.size:=by simp [World.setCell]
omit [aV] [aJ] [aY] in
theorem hY{w:World}{a:Addr}{v:Value}{b:Nat}(h:b≠a.block):(w.setCell a v).heap[b]? =w.heap[b]? :=by
 unfold World.setCell;simp only;rw [qc1,if_neg (λe=>h e.symm)]
omit [aV] [aJ] [aY] in
theorem vZ{w:World}{a:Addr}{v:Value}{c:Array Value}{e:TypeId}{f:Nat×Nat}(h:w.heap[a.block]? =some (.cells c e f))(hs:a.spot=none):(w.setCell a v).heap[a.block]? =some (.cells (c.setIfInBounds a.off v) e f):=by
 unfold World.setCell;simp only;rw [qc1,if_pos rfl,h];simp [hs]
end Go.Cx
namespace Go.Cx
open Go
variable[aV][aJ][aY]
theorem bZ.Sm{β:Bj}{w W:World}(h:bZ β w W){a a' b b':Nat}(h1:β a b)(h2:β a' b'):a=a'↔b=b':=
 ⟨λe=>by subst e;exact h.fn _ _ _ h1 h2,λe=>by subst e;exact h.inj _ _ _ h1 h2⟩
theorem vp{β:Bj}{w W:World}(h:bZ β w W){a a':Addr}{v v':Value}(ha:iE β a a')(hv:ay β v v'){u:Value}(hc:w.cell? a=some u)(hf:w.frozen? a=false):
  (∃u',W.cell? a'=some u')/\W.frozen? a'=false/\bZ β (w.setCell a v) (W.setCell a' v')/\lM β β w (w.setCell a v) W (W.setCell a' v')/\sT β (w.setCell a v) ⟨.cell a',true,false⟩:=by
 obtain ⟨c,e,f,h1,h2,h3⟩:=mz hc;obtain ⟨o,o',k1,k2,k3⟩:=h.obj _ _ ha.block;rw [h1] at k1;cases k1;have bs:=(qa1.1 h3).1;have D8:a'.spot=none:=ha.spot.trans h2;cases k3 with
 | lock e RQ=>
  exfalso;unfold World.frozen? at hf;rw [h1] at hf;simp at hf;omega
 | @cells _ c' _ RQ=>
  have Vt: ¬ga β w a'.block:=by
   rintro ⟨x,c2,e2,q1,q2,q3⟩;have:=h.inj _ _ _ q1 ha.block;subst this;rw [h1] at q3;injection q3 with q3
   injection q3 with q4 q5 q6
   simp at q6
  have NX:=vZ (v:=v) h1 h2;have Vu:=vZ (v:=v') k2 D8;have adI: ∀x y,β x y-> ∃o o',(w.setCell a v).heap[x]? =some o/\(W.setCell a' v').heap[y]? =some o'/\rF β o o':=by
   intro x y Ko;by_cases hx:x=a.block
   ·subst hx;have:=h.fn _ _ _ Ko ha.block;subst this;rw [ha.off] at Vu;exact ⟨_,_,NX,Vu, .cells e (RQ.set hv _)⟩
   ·have hy:y≠a'.block:=λq=>hx ((h.Sm Ko ha.block).2 q);rw [hY hx,hY hy];exact h.obj x y Ko
  have Vv: ∀b,ga β w b->b≠a'.block:=λb hb q=>Vt (q▸hb);have cP: ∀b,ga β (w.setCell a v) b↔ga β w b:=by
   intro b
   constructor
   ·rintro ⟨x,c2,e2,q1,q2,q3⟩;by_cases hx:x=a.block
    ·subst hx;rw [NX] at q3;injection q3 with q3
     injection q3 with q4 q5 q6
     simp at q6
    ·exact ⟨x,c2,e2,q1,q2,(hY hx)▸q3⟩
   ·rintro ⟨x,c2,e2,q1,q2,q3⟩;have hb:=Vv b ⟨x,c2,e2,q1,q2,q3⟩;have hx:x≠a.block:=λq=>hb ((h.Sm q1 ha.block).1 q);exact ⟨x,c2,e2,q1,q2,(hY hx).trans q3⟩
  refine ⟨?_, ?_,⟨adI,h.inj,h.fn⟩, ?_, .inl ⟨rfl, .inl ⟨a',a.block,rfl,ha.block,λ_ hl=>Vt ((cP _).1 hl)⟩⟩⟩
  ·obtain ⟨u',hu,_⟩:=h.cell ha hc;exact ⟨u',hu⟩
  ·unfold World.frozen?; rw [k2];simp
  ·refine ⟨Le.refl _,rfl,rfl,rfl,rfl,qa3 _,by show _=_+(w.drawn - w.drawn);simp [World.setCell],by rw [size_setCell];exact qa3 _,by rw [size_setCell];exact qa3 _, ?_, ?_,λb hb=>(cP b).2 hb,λb _ hn hl=>hn ((cP b).1 hl),λx y q=> .inl q,λb q1 q2=>by rw [size_setCell] at q2;omega,λx y q=> .inl q,by rw [size_setCell,size_setCell];omega,λx _ hn=>hY λq=>hn a'.block (q▸ha.block)⟩
   ·intro b _ hn;exact hY λq=>hn a.block (q▸ha.block)
   ·intro b hb;exact hY (Vv b hb)
theorem zY{β:Bj}{w W:World}(h:bZ β w W){o o':Obj}(ho:rF β o o')(NY: ∀c e,o= .cells c e (0,c.size+1)->False):
  bZ (λa b=>β a b\/(a=w.heap.size/\b=W.heap.size)) { w with heap:=w.heap.push o } { W with heap:=W.heap.push o' }/\
  lM β (λa b=>β a b\/(a=w.heap.size/\b=W.heap.size)) w { w with heap:=w.heap.push o } W { W with heap:=W.heap.push o' }:=by
 have hle:Le β (λa b=>β a b\/(a=w.heap.size/\b=W.heap.size)):=λa b h=> .inl h;have pL: ∀x,x<w.heap.size->(w.heap.push o)[x]? =w.heap[x]? :=λx hx=>by rw [qbv,if_neg (by omega)]
 have pC: ∀x,x<W.heap.size->(W.heap.push o')[x]? =W.heap[x]? :=λx hx=>by rw [qbv,if_neg (by omega)]
 have nL:(w.heap.push o)[w.heap.size]? =some o:=by rw [qbv,if_pos rfl]
 have nC:(W.heap.push o')[W.heap.size]? =some o':=by rw [qbv,if_pos rfl]
 have W7: ∀b, ¬ga (λa b=>β a b\/(a=w.heap.size/\b=W.heap.size)) { w with heap:=w.heap.push o } b\/ ∃a,β a b:=by
  intro b;by_cases hb: ∃a,β a b
  ·exact .inr hb
  ·refine .inl ?_;rintro ⟨a,c,e,q1,q2,q3⟩;rcases q1 with q1 | ⟨rfl,rfl⟩
   ·exact hb ⟨a,q1⟩
   ·rw [nL] at q3;injection q3 with q3
    exact (NY c e q3).elim
 refine ⟨⟨?_, ?_, ?_⟩,⟨hle,rfl,rfl,rfl,rfl,qa3 _,by simp,by simp,by simp, ?_, ?_, ?_, ?_, ?_, ?_, ?_, ?_, ?_⟩⟩
 ·rintro a b (mw | ⟨rfl,rfl⟩)
  ·obtain ⟨x,x',h1,h2,h3⟩:=h.obj a b mw;exact ⟨x,x',(pL a (h.RP mw)).trans h1,(pC b (h.NA mw)).trans h2,h3.mono hle⟩
  ·exact ⟨o,o',nL,nC,ho.mono hle⟩
 ·rintro a a' b (h1 | ⟨rfl,rfl⟩) (h2 | ⟨h3,h4⟩)
  ·exact h.inj _ _ _ h1 h2
  ·exact absurd (h.NA h1) (by rw [h4];exact qc0 _)
  ·exact absurd (h.NA h2) (qc0 _)
  ·exact h3.symm
 ·rintro a b b' (h1 | ⟨rfl,rfl⟩) (h2 | ⟨h3,h4⟩)
  ·exact h.fn _ _ _ h1 h2
  ·exact absurd (h.RP h1) (by rw [h3];exact qc0 _)
  ·exact absurd (h.RP h2) (qc0 _)
  ·exact h4.symm
 ·intro b hb _;exact pC b hb
 ·rintro b ⟨a,c,e,q1,q2,q3⟩;exact pC b (h.NA q1)
 ·rintro b ⟨a,c,e,q1,q2,q3⟩;exact ⟨a,c,e, .inl q1,q2,(pL a (h.RP q1)).trans q3⟩
 ·rintro b ⟨a,ha⟩ hn ⟨x,c,e,q1,q2,q3⟩;rcases q1 with q1 | ⟨rfl,rfl⟩
  ·exact hn ⟨x,c,e,q1,q2,(pL x (h.RP q1))▸q3⟩
  ·exact absurd (h.NA ha) (qc0 _)
 ·rintro a b (mw | ⟨rfl,rfl⟩)
  ·exact .inl mw
  ·refine .inr ⟨qa3 _,qa3 _,by simp, ?_⟩;rcases W7 W.heap.size with hh | ⟨x,hx⟩
   ·exact hh
   ·exact absurd (h.NA hx) (qc0 _)
 ·intro b h1 h2;simp only [Array.size_push] at h2;exact ⟨w.heap.size, .inr ⟨rfl,by omega⟩⟩
 ·rintro a b (mw | ⟨rfl,rfl⟩)
  ·exact .inl mw
  ·exact .inr (by omega)
 ·simp only [Array.size_push];omega
 ·intro a ha _;exact pL a ha
theorem bZ.draw{β:Bj}{w W:World}(h:bZ β w W)(d D:Nat):bZ β { w with drawn:=d } { W with drawn:=D }:=⟨h.obj,h.inj,h.fn⟩
theorem tk{β:Bj}{w W:World}(h:bZ β w W){r r':Nat}{o o' p:Obj}(hr:β r r')(ho:rF β o o')(hp:w.heap[r]? =some p)(hn: ∀c e f,p≠ .cells c e f)(NY: ∀c e f,o≠ .cells c e f):
  (∃p',W.heap[r']? =some p'/\(∀c e f,p'≠ .cells c e f)/\p'.isChan=false)/\bZ β { w with heap:=w.heap.setIfInBounds r o } { W with heap:=W.heap.setIfInBounds r' o' }/\
  lM β β w { w with heap:=w.heap.setIfInBounds r o } W { W with heap:=W.heap.setIfInBounds r' o' }:=by
 obtain ⟨x,x',k1,k2,k3⟩:=h.obj _ _ hr;rw [hp] at k1;cases k1;have bs:=h.RP hr;have W8:=h.NA hr;have sL:(w.heap.setIfInBounds r o)[r]? =some o:=by rw [qah,if_pos rfl,if_pos bs]
 have sC:(W.heap.setIfInBounds r' o')[r']? =some o':=by rw [qah,if_pos rfl,if_pos W8]
 have tL: ∀b,b≠r->(w.heap.setIfInBounds r o)[b]? =w.heap[b]? :=λb hb=>by rw [qah,if_neg λq=>hb q.symm]
 have tC: ∀b,b≠r'->(W.heap.setIfInBounds r' o')[b]? =W.heap[b]? :=λb hb=>by rw [qah,if_neg λq=>hb q.symm]
 have cP: ∀b,ga β { w with heap:=w.heap.setIfInBounds r o } b↔ga β w b:=by
  intro b
  constructor
  ·rintro ⟨y,c,e,q1,q2,q3⟩;by_cases hy:y=r
   ·subst hy;rw [sL] at q3;injection q3 with q3
    exact absurd q3 (NY _ _ _)
   ·exact ⟨y,c,e,q1,q2,(tL y hy)▸q3⟩
  ·rintro ⟨y,c,e,q1,q2,q3⟩;by_cases hy:y=r
   ·subst hy;rw [hp] at q3;injection q3 with q3
    exact absurd q3 (hn _ _ _)
   ·exact ⟨y,c,e,q1,q2,(tL y hy).trans q3⟩
 refine ⟨?_,⟨?_,h.inj,h.fn⟩,⟨Le.refl _,rfl,rfl,rfl,rfl,qa3 _,by simp,by simp,by simp, ?_, ?_,λb hb=>(cP b).2 hb,λb _ hh hl=>hh ((cP b).1 hl),λ_ _ q=> .inl q,λb q1 q2=>by simp at q2;omega,λ_ _ q=> .inl q,by simp only [Array.size_setIfInBounds];omega,λa _ hn=>tL a λq=>hn r' (q▸hr)⟩⟩
 ·refine ⟨x',k2, ?_, ?_⟩
  ·cases k3 with
   | cells e hc=>exact absurd rfl (hn _ _ _)
   | lock e hc=>exact absurd rfl (hn _ _ _)
   | loop hl=>intro c e f q;cases q
   | num b h=>intro c e f q;cases q
   | BT b=>intro c e f q;cases q
  ·cases k3 with
   | cells e hc=>rfl
   | lock e hc=>rfl
   | loop hl=>rfl
   | num b h=>rfl
   | BT b=>rfl
 ·intro a b mw;by_cases ha:a=r
  ·subst ha;have:=h.fn _ _ _ mw hr;subst this;exact ⟨o,o',sL,sC,ho⟩
  ·have hb:b≠r':=λq=>ha ((h.Sm mw hr).2 q);rw [tL a ha,tC b hb];exact h.obj a b mw
 ·intro b _ hb;exact tC b λq=>hb r (q▸hr)
 ·rintro b ⟨y,c,e,q1,q2,q3⟩;refine tC b λq=> ?_;have:=(h.Sm q1 hr).2 q;subst this;rw [hp] at q3;injection q3 with q3
  exact absurd q3 (hn _ _ _)
omit [aV] [aJ] [aY] in
theorem LI{β:Bj}{w W:World}(n:Nat):lM β β w { w with drawn:=w.drawn+n } W { W with drawn:=W.drawn+n }:=
 ⟨Le.refl _,rfl,rfl,rfl,rfl,Nat.le_add_right _ _,by simp,qa3 _,qa3 _,λ_ _ _=>rfl,λ_ _=>rfl,λ_ h=>h,λ_ _ h=>h,λ_ _ h=> .inl h,λb h1 h2=>by simp at h2;omega,λ_ _ h=> .inl h,by simp only [];omega,λ_ _ _=>rfl⟩
end Go.Cx
namespace Go.Cx
open Go
variable[aV][aJ][aY]
theorem bZ.Vw{β:Bj}{w W:World}(h:bZ β w W){a:Addr}{b:Nat}(hb:β a.block b)(p:Program)(m:Bool): ∃e,w.farLoad p a m= .error e/\IE e:=by
 obtain ⟨o,o',k1,_,k3⟩:=h.obj _ _ hb;unfold World.farLoad World.noCell;rw [k1];cases k3 <;> exact ⟨_,rfl,trivial⟩
theorem bZ.Vx{β:Bj}{w W:World}(h:bZ β w W){a:Addr}{b:Nat}(hb:β a.block b)(p:Program)(v:Value)(m:Bool): ∃e,w.farStore p a v m= .error e/\IE e:=by
 obtain ⟨o,o',k1,_,k3⟩:=h.obj _ _ hb;unfold World.farStore World.noCell;rw [k1];cases k3 <;> exact ⟨_,rfl,trivial⟩
theorem bZ.aaa{β:Bj}{w W:World}(h:bZ β w W){a:Addr}{b:Nat}(hb:β a.block b)(p:Program)(m:Bool): ∃e,w.farLoad p a m= .error e:=let ⟨e,h,_⟩:=h.Vw hb p m;⟨e,h⟩
theorem bZ.aab{β:Bj}{w W:World}(h:bZ β w W){a:Addr}{b:Nat}(hb:β a.block b)(p:Program)(v:Value)(m:Bool): ∃e,w.farStore p a v m= .error e:=let ⟨e,h,_⟩:=h.Vx hb p v m;⟨e,h⟩
omit [aV] [aJ] [aY] in
theorem D9{w:World}{o:Obj}(hd:Dw w)(ho: ∀ds,o= .deferred (some ds)->ds=[]):Dw { w with heap:=w.heap.push o }:=by
 intro r ds hr;rw [qbv] at hr;split at hr
 ·cases hr;exact ho ds rfl
 ·exact hd r ds hr
omit [aV] [aJ] [aY] in
theorem xI{w:World}{r:Nat}{o:Obj}(hd:Dw w)(ho: ∀ds,o= .deferred (some ds)->ds=[]):Dw { w with heap:=w.heap.setIfInBounds r o }:=by
 intro r2 ds hr;simp only [qah] at hr;split at hr
 ·split at hr
  ·cases hr;exact ho ds rfl
  ·cases hr
 ·exact hd r2 ds hr
omit [aV] [aJ] [aY] in
theorem zZ{w:World}{a:Addr}{v:Value}(hd:Dw w):Dw (w.setCell a v):=by
 intro r ds hr;unfold World.setCell at hr;simp only [qc1] at hr;split at hr
 ·cases h:w.heap[r]? with
  | none=>rw [h] at hr;cases hr
  | some o=>
   rw [h] at hr;cases o <;> cases hr;exact hd r ds h
 ·exact hd r ds hr
theorem xG.dw{β:Bj}{o o':Obj}(h:xG β o o'): ∀ds,o= .deferred (some ds)->ds=[]:=by
 intro ds q;cases h with
 | BT b=>cases b <;> cases q;rfl
 | _=>cases q
theorem bZ.Ea{β:Bj}{w W:World}(h:bZ β w W){r r':Nat}{o:Obj}(hb:β r r')(ho:w.heap[r]? =some o)(hn: ∀c e f,o≠ .cells c e f): ¬ga β w r':=by
 rintro ⟨a,c,e,h1,h2,h3⟩;have:=h.inj _ _ _ h1 hb;subst this;rw [ho] at h3;injection h3 with h3
 exact hn _ _ _ h3
theorem aC.run{Pl Pc:Program}{α:Type}{RA:Bj->α->α->Prop}{β:Bj}{s t:Sem α}(h:aC Pl Pc RA β s t): ∀{w W w1:World} {a:α} (te:Array Event),bZ β w W->gH w W->s.run Pl w= .ok a w1->
  ∃a' W1 bR es,t.runT Pc W te=(.ok a' W1,te++es)/\RA bR a a'/\bZ bR w1 W1/\lM β bR w w1 W W1/\ ∀e∈es,sT bR w1 e:=by
 induction h with
 | pure ha=>
  intro w W w1 a te hw ht hr;cases hr;exact ⟨_,W,_, #[],by simp [Sem.runT],ha,hw,lM.refl _ _ _,by simp⟩
 | @load β ad nS k k' F0 _ ih=>
  intro w W w1 a te hw ht hr;simp only [Sem.run] at hr;cases hc:w.cell? ad with
  | none=>
   exfalso;obtain ⟨e,he⟩:=hw.aaa F0.block Pl (Mode.plain==Mode.atomic);rw [hc] at hr;simp only [he] at hr;cases hr
  | some v=>
   rw [hc] at hr;obtain ⟨v',BU,hvr⟩:=hw.cell F0 hc;obtain ⟨a',W1,bR,es,h1,h2,h3,h4,h5⟩:=ih v v' hvr (te.push ⟨.cell nS,false,false⟩) hw ht hr;refine ⟨a',W1,bR, #[⟨.cell nS,false,false⟩]++es, ?_,h2,h3,h4, ?_⟩
   ·simp only [Sem.runT,BU];rw [show (Mode.plain==Mode.atomic)=false from rfl,h1];simp
   ·intro e he;rcases qc7.1 he with he | he
    ·simp at he;subst he;exact sT.my (β:=β) (w:=w) (.inl ⟨rfl, .inl ⟨nS,ad.block,rfl,F0.block,λq=>by cases q⟩⟩) h4
    ·exact h5 e he
 | @store β ad nS v v' k k' F0 hv _ ih=>
  intro w W w1 a te hw ht hr;have xJ:(∀c,v≠ .agg c)/\ ∀c,v≠ .tuple c:=by
   constructor
   ·rintro c rfl;cases hr
   ·rintro c rfl;cases hr
  have bH:(match w.cell? ad with
    | some _=>if w.frozen? ad then Result.halt (.unsupported (.unsafePointer "a write to bytes that a string shares")) w else k.run Pl (w.setCell ad v)
    | none=>match w.farStore Pl ad v (Mode.plain==Mode.atomic) with
     | .ok (w,_)=>k.run Pl w
     | .error h=> .halt h w)= .ok a w1:=by
   cases v <;> first | exact hr | exact absurd rfl (xJ.1 _) | exact absurd rfl (xJ.2 _)
  cases hc:w.cell? ad with
  | none=>
   exfalso;obtain ⟨e,he⟩:=hw.aab F0.block Pl v (Mode.plain==Mode.atomic);rw [hc] at bH;simp only [he] at bH;cases bH
  | some u=>
   rw [hc] at bH;simp only at bH;cases hf:w.frozen? ad with
   | true=>rw [hf] at bH;cases bH
   | false=>
    rw [hf] at bH;simp only [qa7,if_false] at bH;obtain ⟨⟨u',tj⟩,hf',CS,hT,hE⟩:=vp hw F0 hv hc hf;obtain ⟨a',W1,bR,es,h1,h2,h3,h4,h5⟩:=ih (te.push ⟨.cell nS,true,false⟩) CS (ht.my hT) bH;have aac:(∀c,v'≠ .agg c)/\ ∀c,v'≠ .tuple c:=by
     constructor
     ·rintro c rfl;cases hv <;> first | exact xJ.1 _ rfl | exact xJ.2 _ rfl
     ·rintro c rfl;cases hv <;> exact xJ.2 _ rfl
    refine ⟨a',W1,bR, #[⟨.cell nS,true,false⟩]++es, ?_,h2,h3,hT.trans h4, ?_⟩
    ·have:(Sem.store .plain nS v' k').runT Pc W te=(match W.cell? nS with
       | some _=>
        if W.frozen? nS then (.halt (.unsupported (.unsafePointer "a write to bytes that a string shares")) W,te)
        else k'.runT Pc (W.setCell nS v') (te.push ⟨.cell nS,true,Mode.plain== .atomic⟩)
       | none=>match W.farStore Pc nS v' (Mode.plain== .atomic) with
        | .ok (w,Sn)=>k'.runT Pc w (te++Sn.toArray.map (⟨.cell ·,true,Mode.plain== .atomic⟩))
        | .error h=>(.halt h W,te)):=by
      cases v' <;> first | rfl | exact absurd rfl (aac.1 _) | exact absurd rfl (aac.2 _)
     rw [this,tj];simp only [hf',qa7,if_false];rw [show (Mode.plain==Mode.atomic)=false from rfl,h1];simp
    ·intro e he;rcases qc7.1 he with he | he
     ·simp at he;subst he;exact hE.my h4
     ·exact h5 e he
 | @new β o o' k k' ho _ ih=>
  intro w W w1 a te hw ht hr;obtain ⟨CS,hT⟩:=zY hw ho.o ho.no;obtain ⟨a',W1,bR,es,h1,h2,h3,h4,h5⟩:=ih _ w.heap.size W.heap.size hT.le (.inr ⟨rfl,rfl⟩) te CS (ht.my hT) hr;exact ⟨a',W1,bR,es,h1,h2,h3,hT.trans h4,h5⟩
 | @shape β r r' k k' hb _ ih=>
  intro w W w1 a te hw ht hr;have:W.shape? r'=w.shape? r:=by
   obtain ⟨x,x',k1,k2,k3⟩:=hw.obj _ _ hb;unfold World.shape?;rw [k1,k2];cases k3 with
   | cells e hc=>simp [hc.1]
   | lock e hc=>simp [hc.1]
   | loop hl=>rfl
   | num b h=>rfl
   | BT b=>rfl
  simp only [Sem.runT,this];exact ih _ te hw ht hr
 | @getObj β r r' k k' hb _ ih=>
  intro w W w1 a te hw ht hr;obtain ⟨x,x',k1,k2,k3⟩:=hw.obj _ _ hb;simp only [Sem.run,k1] at hr;cases k3 with
  | cells e hc=>cases hr
  | lock e hc=>cases hr
  | @loop l l' hl=>
   obtain ⟨a',W1,bR,es,h1,h2,h3,h4,h5⟩:=ih (.loop l) (.loop l') (.loop hl) (te.push ⟨.obj r',false,false⟩) hw ht hr;refine ⟨a',W1,bR, #[⟨.obj r',false,false⟩]++es, ?_,h2,h3,h4, ?_⟩
   ·simp only [Sem.runT,k2];rw [show (Obj.loop l').isChan=false from rfl,h1];simp
   ·intro e he;rcases qc7.1 he with he | he
    ·simp at he;subst he;exact sT.my (β:=β) (w:=w) (.inl ⟨rfl, .inr ⟨r',r,rfl,hb,hw.Ea hb k1 (by intro c e f q;cases q)⟩⟩) h4
    ·exact h5 e he
  | @num ad nS lost ha=>
   obtain ⟨a',W1,bR,es,h1,h2,h3,h4,h5⟩:=ih _ _ (.num lost ha) (te.push ⟨.obj r',false,false⟩) hw ht hr;refine ⟨a',W1,bR, #[⟨.obj r',false,false⟩]++es, ?_,h2,h3,h4, ?_⟩
   ·simp only [Sem.runT,k2];rw [show (Obj.number nS lost).isChan=false from rfl,h1];simp
   ·intro e he;rcases qc7.1 he with he | he
    ·simp at he;subst he;exact sT.my (β:=β) (w:=w) (.inl ⟨rfl, .inr ⟨r',r,rfl,hb,hw.Ea hb k1 (by intro c e f q;cases q)⟩⟩) h4
    ·exact h5 e he
  | BT b=>
   obtain ⟨a',W1,bR,es,h1,h2,h3,h4,h5⟩:=ih _ _ (.BT b) (te.push ⟨.obj r',false,false⟩) hw ht hr;refine ⟨a',W1,bR, #[⟨.obj r',false,false⟩]++es, ?_,h2,h3,h4, ?_⟩
   ·simp only [Sem.runT,k2];rw [show (Obj.deferred (if b then some [] else none)).isChan=false from rfl,h1];simp
   ·intro e he;rcases qc7.1 he with he | he
    ·simp at he;subst he;exact sT.my (β:=β) (w:=w) (.inl ⟨rfl, .inr ⟨r',r,rfl,hb,hw.Ea hb k1 (by intro c e f q;cases q)⟩⟩) h4
    ·exact h5 e he
 | @setObj β r r' o o' k k' hb ho hn _ ih=>
  intro w W w1 a te hw ht hr;obtain ⟨x,x',k1,k2,k3⟩:=hw.obj _ _ hb;have hx: ∀c e f,x≠ .cells c e f:=by
   rintro c e f rfl;simp only [Sem.run,k1] at hr;cases hr
  have Sp:k.run Pl { w with heap:=w.heap.setIfInBounds r o }= .ok a w1:=by
   simp only [Sem.run,k1] at hr;cases x <;> first | exact hr | exact absurd rfl (hx _ _ _)
  obtain ⟨⟨p',g1,g2,g3⟩,CS,hT⟩:=tk hw hb ho.o k1 hx hn;have hc:o'.isChan=false:=by cases ho <;> rfl
  obtain ⟨a',W1,bR,es,h1,h2,h3,h4,h5⟩:=ih (te.push ⟨.obj r',true,false⟩) CS (ht.my hT) Sp;refine ⟨a',W1,bR, #[⟨.obj r',true,false⟩]++es, ?_,h2,h3,hT.trans h4, ?_⟩
  ·simp only [Sem.runT,g1];cases p' <;> first | exact absurd rfl (g2 _ _ _) | (simp only [hc,h1];simp)
  ·intro e he;rcases qc7.1 he with he | he
   ·simp at he;subst he;exact sT.my (β:=β) (w:=w) (.inl ⟨rfl, .inr ⟨r',r,rfl,hb,hw.Ea hb k1 hx⟩⟩) (hT.trans h4)
   ·exact h5 e he
 | @choose β q k k' _ ih=>
  intro w W w1 a te hw ht hr;simp only [Sem.run] at hr;simp only [Sem.runT];split at hr
  ·rename_i hq;rw [if_pos hq];exact ih 0 te hw ht hr
  ·rename_i hq;rw [if_neg hq];have hT:=LI (β:=β) (w:=w) (W:=W) 1;have h0:=ht 0 q;simp only [Nat.add_zero] at h0;rw [h0];obtain ⟨a',W1,bR,es,h1,h2,h3,h4,h5⟩:=ih _ te (hw.draw _ _) (ht.my hT) hr;exact ⟨a',W1,bR,es,h1,h2,h3,hT.trans h4,h5⟩
 | program _ ih=>
  intro w W w1 a te hw ht hr;exact ih te hw ht hr
 | mark _ ih=>
  intro w W w1 a te hw ht hr;obtain ⟨a',W1,bR,es,h1,h2,h3,h4,h5⟩:=ih (te.push ⟨.mark .noRoom,false,true⟩) hw ht hr;refine ⟨a',W1,bR, #[⟨.mark .noRoom,false,true⟩]++es, ?_,h2,h3,h4, ?_⟩
  ·simp only [Sem.runT,h1];simp
  ·intro e he;rcases qc7.1 he with he | he
   ·simp at he;subst he;exact .inr rfl
   ·exact h5 e he
 | dead hd=>
  intro w W w1 a te hw ht hr;exact absurd hr (hd.no _ _ _)
theorem aC.zX{Pl Pc:Program}{α:Type}{RA:Bj->α->α->Prop}{β:Bj}{s t:Sem α}(h:aC Pl Pc RA β s t): ∀{w W w1:World} {hh:Halt},bZ β w W->s.run Pl w= .halt hh w1->IE hh/\(Dw w->Dw w1):=by
 induction h with
 | pure ha=>intro w W w1 hh hw hr;cases hr
 | @load β ad nS k k' F0 _ ih=>
  intro w W w1 hh hw hr;simp only [Sem.run] at hr;cases hc:w.cell? ad with
  | none=>
   obtain ⟨e,he,hm⟩:=hw.Vw F0.block Pl (Mode.plain==Mode.atomic);rw [hc] at hr;simp only [he] at hr;cases hr;exact ⟨hm,id⟩
  | some v=>
   rw [hc] at hr;obtain ⟨v',BU,hvr⟩:=hw.cell F0 hc;exact ih v v' hvr hw hr
 | @store β ad nS v v' k k' F0 hv _ ih=>
  intro w W w1 hh hw hr;by_cases xJ:(∀c,v≠ .agg c)/\ ∀c,v≠ .tuple c
  ·have Kq:(Sem.store .plain ad v k).run Pl w=(match w.cell? ad with
     | some _=>if w.frozen? ad then Result.halt (.unsupported (.unsafePointer "a write to bytes that a string shares")) w else k.run Pl (w.setCell ad v)
     | none=>match w.farStore Pl ad v (Mode.plain==Mode.atomic) with
      | .ok (w,_)=>k.run Pl w
      | .error h=> .halt h w):=by
    cases v <;> first | rfl | exact absurd rfl (xJ.1 _) | exact absurd rfl (xJ.2 _)
   rw [Kq] at hr;cases hc:w.cell? ad with
   | none=>
    obtain ⟨e,he,hm⟩:=hw.Vx F0.block Pl v (Mode.plain==Mode.atomic);rw [hc] at hr;simp only [he] at hr;cases hr;exact ⟨hm,id⟩
   | some u=>
    rw [hc] at hr;simp only at hr;cases hf:w.frozen? ad with
    | true=>rw [hf] at hr;cases hr;exact ⟨λg q=>(by cases q),id⟩
    | false=>
     rw [hf] at hr;simp only [qa7,if_false] at hr;obtain ⟨_,hf',CS,hT,hE⟩:=vp hw F0 hv hc hf;exact let ⟨h1,h2⟩:=ih CS hr;⟨h1,λh=>h2 (zZ h)⟩
  ·cases v <;> first | (cases hr;exact ⟨trivial,id⟩) | exact (xJ ⟨λc q=>(by cases q),λc q=>(by cases q)⟩).elim
 | @new β o o' k k' ho _ ih=>
  intro w W w1 hh hw hr;obtain ⟨CS,hT⟩:=zY hw ho.o ho.no;exact let ⟨h1,h2⟩:=ih _ w.heap.size W.heap.size hT.le (.inr ⟨rfl,rfl⟩) CS hr;⟨h1,λh=>h2 (D9 h ho.dw)⟩
 | @shape β r r' k k' hb _ ih=>
  intro w W w1 hh hw hr;exact ih _ hw hr
 | @getObj β r r' k k' hb _ ih=>
  intro w W w1 hh hw hr;obtain ⟨x,x',k1,k2,k3⟩:=hw.obj _ _ hb;simp only [Sem.run,k1] at hr;cases k3 with
  | cells e hc=>cases hr;exact ⟨trivial,id⟩
  | lock e hc=>cases hr;exact ⟨trivial,id⟩
  | @loop l l' hl=>exact ih (.loop l) (.loop l') (.loop hl) hw hr
  | @num ad nS lost ha=>exact ih _ _ (.num lost ha) hw hr
  | BT b=>exact ih _ _ (.BT b) hw hr
 | @setObj β r r' o o' k k' hb ho hn _ ih=>
  intro w W w1 hh hw hr;obtain ⟨x,x',k1,k2,k3⟩:=hw.obj _ _ hb;by_cases hx: ∀c e f,x≠ .cells c e f
  ·have Kq:(Sem.setObj r o k).run Pl w=k.run Pl { w with heap:=w.heap.setIfInBounds r o }:=by
    simp only [Sem.run,k1]
   rw [Kq] at hr;obtain ⟨_,CS,hT⟩:=tk hw hb ho.o k1 hx hn;exact let ⟨h1,h2⟩:=ih CS hr;⟨h1,λh=>h2 (xI h ho.dw)⟩
  ·cases k3 with
   | cells e hc=>simp only [Sem.run,k1] at hr;cases hr;exact ⟨trivial,id⟩
   | lock e hc=>simp only [Sem.run,k1] at hr;cases hr;exact ⟨trivial,id⟩
   | _=>exact (hx λc e f q=>by cases q).elim
 | @choose β q k k' _ ih=>
  intro w W w1 hh hw hr;simp only [Sem.run] at hr;split at hr
  ·exact ih 0 hw hr
  ·have:=ih _ (hw.draw (w.drawn+1) W.drawn) hr;exact ⟨this.1,λh=>this.2 h⟩
 | program _ ih=>intro w W w1 hh hw hr;exact ih hw hr
 | mark _ ih=>intro w W w1 hh hw hr;exact ih hw hr
 | dead hd=>intro w W w1 hh hw hr;exact ⟨hd.zX _ _ _ hr,λh=>hd.kp _ _ _ h hr⟩
end Go.Cx
namespace Go.Cx
open Go
variable[aV][aJ][aY]
def RR(L:Program)(t:TypeId):Prop:= ∀i v,L.info? t=some i->i.zero=some v->Plain v
def LJ(L:Program)(t:TypeId):Prop:= ∀e,L.underlying t=some (.slice e)->RR L e
structure fW(L C:Program):Prop where
 info: ∀t,C.info? t=L.info? t
 und: ∀t,C.underlying t=L.underlying t
 NB:C.types.size=L.types.size
 fns: ∀(f:FuncId) (fn:Func),L.funcs[f]? =some fn->fn.body.isNone=false->aV.sQ f/\(fn.name== "runtime.NumGoroutine")=false/\ ∃jd:Func,C.funcs[f]? =some jd/\jd.body.isNone=false/\(jd.name== "runtime.NumGoroutine")=false
 gl:L.globals.size=0
 sih: ∀t,C.stoodInHeld t=L.stoodInHeld t
 cc: ∀(t:TypeId) (i:TypeInfo) (n:TypeId),L.info? t=some i->i.desc≠ .named "sync.copyChecker" n
 cab: ∀e n o k,cellAtBytes C C.depth e (n / C.cellsOf e) o k=cellAtBytes L L.depth e (n / L.cellsOf e) o k
 bof: ∀e off,C.cellsOf e=L.cellsOf e/\byteOfCell C C.depth e off=byteOfCell L L.depth e off/\C.bytesOf e=L.bytesOf e
 mp: ∀(t:TypeId) (i:TypeInfo) (m:Method),L.info? t=some i->m∈i.methods->m.path.toList=[]/\ ∀f b,m.func=some (f,b)->aV.ok f
 nob: ∀(f:FuncId) (fn:Func),L.funcs[f]? =some fn->fn.body.isNone=true-> ∀args,aQ L (callFunc f args)
section
variable{L C:Program}{α γ:Type}
omit [aV] [aJ] [aY] in
theorem aQ.halt{h:Halt}(hm:IE h:=by first | exact trivial | (intro g q;cases q)):aQ L (.halt h:Sem α):=⟨λ_ _ _ q=>(by cases q),λ_ _ _ q=>(by cases q;exact hm),λ_ _ _ hd q=>(by cases q;exact hd)⟩
def Kp(L:Program){α:Type}(s:Sem α):Prop:= ∀w,Dw w->(∀a w1,s.run L w= .ok a w1->Dw w1)/\ ∀h w1,s.run L w= .halt h w1->Dw w1
class mj(L:Program){α:Type}(s:Sem α):Prop where
 out:Mld L s
 kp:Kp L s
instance(a:α):mj L (pure a:Sem α):=⟨λw h w1 q=>(by cases q),λw hd=>⟨λa w1 q=>(by cases q;exact hd),λh w1 q=>(by cases q)⟩⟩
instance:mj L program:=⟨λw h w1 q=>(by cases q),λw hd=>⟨λa w1 q=>(by cases q;exact hd),λh w1 q=>(by cases q)⟩⟩
instance eW(s:Sem α)(f:α->Sem γ)[h1:mj L s][h2: ∀x,mj L (f x)]:mj L (s >>= f):=⟨λw h w1 q=>by
 rw [Sem.run_bind] at q;cases hs:s.run L w with
 | ok x w'=>rw [hs] at q;exact (h2 x).out _ _ _ q
 | halt hh w'=>rw [hs] at q;cases q;exact h1.out _ _ _ hs,λw hd=>by
 constructor
 ·intro a w1 q;rw [Sem.run_bind] at q;cases hs:s.run L w with
  | ok x w'=>rw [hs] at q;exact ((h2 x).kp w' ((h1.kp w hd).1 _ _ hs)).1 _ _ q
  | halt hh w'=>rw [hs] at q;cases q
 ·intro h w1 q;rw [Sem.run_bind] at q;cases hs:s.run L w with
  | ok x w'=>rw [hs] at q;exact ((h2 x).kp w' ((h1.kp w hd).1 _ _ hs)).2 _ _ q
  | halt hh w'=>rw [hs] at q;cases q;exact (h1.kp w hd).2 _ _ hs⟩
omit [aV] [aJ] [aY] in
theorem iI{s:Sem α}(h: ∀w,(∃a w1,s.run L w= .ok a w1/\w1.heap=w.heap)\/ ∃x,s.run L w= .halt (.stuck x) w):mj L s:=⟨λw hh w1 q=>by
 rcases h w with ⟨a,w2,h,_⟩ | ⟨x,h⟩
 ·rw [h] at q;cases q
 ·rw [h] at q;cases q;trivial,λw hd=>by
 rcases h w with ⟨a,w2,h,he⟩ | ⟨x,h⟩
 ·constructor
  ·intro a w1 q;rw [h] at q;cases q;intro r ds hr;rw [he] at hr;exact hd r ds hr
  ·intro hh w1 q;rw [h] at q;cases q
 ·constructor
  ·intro a w1 q;rw [h] at q;cases q
  ·intro hh w1 q;rw [h] at q;cases q;exact hd⟩
instance(t:TypeId):mj L (typeInfo t):=iI λw=>by
 unfold typeInfo;rw [Sem.run_bind];change (∃a w1,Result.andThen (.ok L w) _=_/\_)\/ ∃x,Result.andThen (.ok L w) _=_;simp only [Result.andThen_ok];cases hi:L.info? t with
 | none=>exact .inr ⟨_,rfl⟩
 | some i=>exact .inl ⟨_,_,rfl,rfl⟩
instance(q:Question):mj L (choose q):=iI λw=>by
 unfold choose;simp only [Sem.run];split
 ·exact .inl ⟨_,_,rfl,rfl⟩
 ·exact .inl ⟨_,_,rfl,rfl⟩
instance(f:α->γ)(s:Sem α)[h:mj L s]:mj L (Functor.map f s):=by
 rw [map_eq_pure_bind];infer_instance
instance(s:String):mj L (stuck s:Sem α):=iI λw=> .inr ⟨_,rfl⟩
instance(r:Nat):mj L (shape r):=iI λw=> .inl ⟨_,_,rfl,rfl⟩
instance(m:Mark):mj L (mark m):=iI λw=> .inl ⟨_,_,rfl,rfl⟩
instance(r:Nat):mj L (getObj r):=iI λw=>by
 unfold getObj;simp only [Sem.run];split
 ·exact .inr ⟨_,rfl⟩
 ·exact .inl ⟨_,_,rfl,rfl⟩
 ·exact .inr ⟨_,rfl⟩
instance(t:TypeId)(cs:Array Value):mj L (newRow t cs):=⟨λw h w1 q=>(by cases q),λw hd=>⟨λa w1 q=>(by cases q;exact D9 hd λds q=>(by cases q)),λh w1 q=>(by cases q)⟩⟩
instance(t:TypeId)(v:Value):mj L (newVar t v):=by unfold newVar;infer_instance
instance(t:TypeId):mj L (underlying t):=iI λw=>by
 unfold underlying;rw [Sem.run_bind];change (∃a w1,Result.andThen (.ok L w) _=_/\_)\/ ∃x,Result.andThen (.ok L w) _=_;simp only [Result.andThen_ok];split
 ·exact .inl ⟨_,_,rfl,rfl⟩
 ·exact .inr ⟨_,rfl⟩
instance(t:TypeId):mj L (elemOf t):=by
 unfold elemOf;refine @eW _ _ _ _ _ _ λd=> ?_;split <;> infer_instance
instance(r:Nat):mj L (numberAt r):=by
 unfold numberAt;refine @eW _ _ _ _ _ _ λd=> ?_;split
 ·infer_instance
 ·refine @eW _ _ _ _ _ _ λd=> ?_;split <;> infer_instance
instance(a:Addr):mj L (behindNumber a):=by unfold behindNumber;infer_instance
omit [aV] [aJ] [aY] in
theorem aQ.bind{s:Sem α}{f:α->Sem γ}[hm:mj L s](h: ∀x,aQ L (f x)):aQ L (s >>= f):=by
 refine ⟨λw a w1 q=> ?_,λw hh w1 q=> ?_,λw hh w1 hd q=> ?_⟩
 ·rw [Sem.run_bind] at q;cases hs:s.run L w with
  | ok x w'=>rw [hs] at q;exact (h x).no _ _ _ q
  | halt hh w'=>rw [hs] at q;cases q
 ·rw [Sem.run_bind] at q;cases hs:s.run L w with
  | ok x w'=>rw [hs] at q;exact (h x).zX _ _ _ q
  | halt hh w'=>rw [hs] at q;cases q;exact hm.out _ _ _ hs
 ·rw [Sem.run_bind] at q;cases hs:s.run L w with
  | ok x w'=>rw [hs] at q;exact (h x).kp _ _ _ ((hm.kp w hd).1 _ _ hs) q
  | halt hh w'=>rw [hs] at q;cases q;exact (hm.kp w hd).2 _ _ hs
omit [aV] [aJ] [aY] in
theorem aW{e:RuntimeError}:aQ L (runtimePanic e:Sem α):=by
 unfold runtimePanic;refine aQ.bind λp=> ?_;cases e
 case typeAssertion=>exact aQ.bind λ_=>aQ.bind λ_=>aQ.halt
 case panicNil=>exact aQ.bind λ_=>aQ.bind λ_=>aQ.halt
 all_goals exact aQ.halt
omit [aV] [aJ] [aY] in
theorem aQ.prog{f:Program->Sem α}(h:aQ L (f L)):aQ L (program >>= f):=⟨λw a w1 q=>h.no w a w1 q,λw hh w1 q=>h.zX w hh w1 q,λw hh w1 hd q=>h.kp w hh w1 hd q⟩
omit [aV] [aJ] [aY] in
theorem NZ(t:TypeId)(f:TypeInfo->Sem α)(w:World):(typeInfo t >>= f).run L w=match L.info? t with | none=>(typeInfo t >>= f).run L w | some i=>(f i).run L w:=by
 cases hi:L.info? t with
 | none=>rfl
 | some i=>
  rw [Sem.run_bind];unfold typeInfo;rw [Sem.run_bind];change Result.andThen (Result.andThen (.ok L w) _) _=_;simp only [Result.andThen_ok,hi]
  rfl
omit [aV] [aJ] [aY] in
theorem aQ.info{t:TypeId}{f:TypeInfo->Sem α}(h: ∀i,L.info? t=some i->aQ L (f i)):aQ L (typeInfo t >>= f):=by
 cases hi:L.info? t with
 | none=>
  refine aQ.dP ⟨λw a w1 q=> ?_,(inferInstance:mj L (typeInfo t)).out,λw h w1 hd q=>((inferInstance:mj L (typeInfo t)).kp w hd).2 _ _ q⟩;unfold typeInfo at q;rw [Sem.run_bind] at q;change Result.andThen (.ok L w) _=_ at q;simp only [Result.andThen_ok,hi] at q;cases q
 | some i=>
  have hr: ∀w,(typeInfo t >>= f).run L w=(f i).run L w:=λw=>by rw [NZ,hi]
  exact ⟨λw a w1 q=>(h i hi).no w a w1 (hr w▸q),λw hh w1 q=>(h i hi).zX w hh w1 (hr w▸q),λw hh w1 hd q=>(h i hi).kp w hh w1 hd (hr w▸q)⟩
omit [aV] [aJ] [aY] in
theorem jD{k:IntKind}{x y:Int}{c:BoundsCode}:aQ L (boundsPanic k x y c:Sem α):=by
 unfold boundsPanic;simp only;split
 ·exact aQ.bind λ_=>aW
 ·exact aQ.bind λ_=>aW
variable{RA RB:Bj->α->α->Prop}{β:Bj}
theorem ao{h:Halt}{t:Sem α}(hm:IE h:=by first | exact trivial | (intro g q;cases q)):aC L C RA β (.halt h) t:= .dead (aQ.halt hm)
theorem aQ.rel{s t:Sem α}(h:aQ L s):aC L C RA β s t:= .dead h
theorem aC.bd{RG:Bj->γ->γ->Prop}{s t:Sem α}{f g:α->Sem γ}(h:aC L C RA β s t)(k: ∀bR a a',Le β bR->RA bR a a'->aC L C RG bR (f a) (g a')):aC L C RG β (s >>= f) (t >>= g):=aC.bind h k
def fF{α:Type}(P:α->Prop):Bj->α->α->Prop:=λ_ a a'=>a=a'/\P a
section
variable(H:fW L C)
include H
theorem jr(t:TypeId):aC L C (fF λi=>L.info? t=some i) β (typeInfo t) (typeInfo t):=by
 unfold typeInfo;refine .program ?_;show aC L C _ β (match L.info? t with | some i=>pure i | none=>stuck "no such type") (match C.info? t with | some i=>pure i | none=>stuck "no such type");rw [H.info];generalize h:L.info? t=o;cases o with
 | none=>exact ao
 | some i=>exact .pure ⟨rfl,rfl⟩
theorem fO(t:TypeId):aC L C (fF λi=>L.underlying t=some i) β (underlying t) (underlying t):=by
 unfold underlying;refine .program ?_;show aC L C _ β (match L.underlying t with | some i=>pure i | none=>stuck "no such type") (match C.underlying t with | some i=>pure i | none=>stuck "no such type");rw [H.und];generalize h:L.underlying t=o;cases o with
 | none=>exact ao
 | some i=>exact .pure ⟨rfl,rfl⟩
theorem IF(t:TypeId)(Ii:RR L t):aC L C ay β (zeroValue t) (zeroValue t):=by
 unfold zeroValue;refine (jr H t).bd ?_;rintro bR i _ hl ⟨rfl,hi⟩;cases hz:i.zero with
 | none=>exact ao
 | some v=>exact .pure (Ii i v hi hz).rel
theorem fj(t:TypeId):aC L C (fF λ_=>True) β (sizeOf t) (sizeOf t):=by
 unfold sizeOf;refine (jr H t).bd ?_;rintro bR i _ hl ⟨rfl,hi⟩;exact .pure ⟨rfl,trivial⟩
theorem Kr(t:TypeId):aC L C (fF λ_=>True) β (isAgg t) (isAgg t):=by
 unfold isAgg;refine (fO H t).bd ?_;rintro bR i _ hl ⟨rfl,hi⟩;cases i <;> exact .pure ⟨rfl,trivial⟩
omit H in
theorem N4{a a':Addr}(h:iE β a a'):aC L C ay β (load a) (load a'):= .load h λ_ _ hv=> .pure hv
omit H in
theorem Sq{a a':Addr}{v v':Value}(h:iE β a a')(hv:ay β v v'):aC L C (fF λ_=>True) β (store a v) (store a' v'):= .store h hv (.pure ⟨rfl,trivial⟩)
omit H in
theorem sE{a a':Addr}: ∀(n i:Nat) (acc Sr:Array Value) {β:Bj},iE β a a'->aG β acc Sr->aC L C aG β (loadCellsFrom a i n acc) (loadCellsFrom a' i n Sr)
 | 0,i,acc,Sr,β,h,k=> .pure k
 | n+1,i,acc,Sr,β,h,k=>by
  unfold loadCellsFrom;refine (N4 (h.add i)).bd ?_;intro bR v v' hl hv;exact sE n (i+1) _ _ (h.mono hl) ((k.mono hl).push hv)
omit H in
theorem yF{a a':Addr}(h:iE β a a')(n:Nat):aC L C aG β (loadCells a n) (loadCells a' n):=sE n 0 _ _ h aG.empty
inductive nI(β:Bj):List Value->List Value->Prop
 | nil:nI β [] []
 | cons {v v':Value} {l l':List Value}:ay β v v'->nI β l l'->nI β (v::l) (v'::l')
omit H in
omit [aJ] in
theorem nI.mono{β γ:Bj}(l:Le β γ){x x':List Value}(h:nI β x x'):nI γ x x':=by
 induction h with
 | nil=>exact .nil
 | cons hv _ ih=>exact .cons (hv.mono l) ih
omit H in
omit [aJ] in
theorem aG.list{x x':Array Value}(h:aG β x x'):nI β x.toList x'.toList:=by
 obtain ⟨h1,h2⟩:=h;obtain ⟨x⟩:=x;obtain ⟨x'⟩:=x';simp only [qbj] at h1;simp only [qax] at h2;show nI β x x'
 induction x generalizing x' with
 | nil=>cases x' with
  | nil=>exact .nil
  | cons=>simp at h1
 | cons v l ih=>cases x' with
  | nil=>simp at h1
  | cons v' l'=>exact .cons (h2 0 v v' rfl rfl) (ih l' (by simpa using h1) λi u u' a b=>h2 (i+1) u u' a b)
omit H in
theorem nT{a a':Addr}: ∀{vs vs':List Value} (i:Nat) {β:Bj},iE β a a'->nI β vs vs'->aC L C (fF λ_=>True) β (storeCells a vs i) (storeCells a' vs' i)
 | _,_,i,β,h, .nil=> .pure ⟨rfl,trivial⟩
 | _,_,i,β,h, .cons hv hl=>by
  unfold storeCells;refine (Sq (h.add i) hv).bd ?_;intro bR u u' hle _;exact nT (i+1) (h.mono hle) (hl.mono hle)
theorem uf(t:TypeId){a a':Addr}(h:iE β a a'):aC L C ay β (loadVar t a) (loadVar t a'):=by
 unfold loadVar;refine (Kr H t).bd ?_;rintro bR b _ hl ⟨rfl, -⟩;cases b with
 | true=>
  simp only [if_true];refine (fj H t).bd ?_;rintro gW n _ cP ⟨rfl, -⟩;refine (yF ((h.mono hl).mono cP) n).bd ?_;intro pD c c' gC hc;exact .pure hc.D7
 | false=>exact N4 (h.mono hl)
theorem IG(t:TypeId){a a':Addr}{v v':Value}(h:iE β a a')(hv:ay β v v'):aC L C (fF λ_=>True) β (storeVar t a v) (storeVar t a' v'):=by
 unfold storeVar;refine (fj H t).bd ?_;rintro bR n _ hl ⟨rfl, -⟩;have hc:=hv.cells;rw [←hc.1];split
 ·exact (aQ.dP aQ.halt).rel
 ·exact nT 0 (h.mono hl) (hc.mono hl).list
omit H in
theorem wa(e:TypeId){c c':Array Value}(h:aG β c c'):aC L C iE β (newRow e c) (newRow e c'):=by
 unfold newRow newObj;exact .new (.cells e h) λγ r r' hl hr=> .pure ⟨hr,rfl,rfl⟩
omit H in
theorem Gc(t:TypeId){v v':Value}(h:ay β v v'):aC L C iE β (newVar t v) (newVar t v'):=wa t h.cells
omit H in
theorem ug{v v':Value}(h:ay β v v'):aC L C (fF λx=>v= .int x.1 x.2) β (asIntOf v) (asIntOf v'):=by
 cases h with
 | int k n=>exact .pure ⟨rfl,rfl⟩
 | ptr h=>exact ao
 | _=>exact ao
omit H in
theorem nU{v v':Value}(h:ay β v v'):aC L C (fF λ_=>True) β (asInt v) (asInt v'):=by
 unfold asInt;refine (ug h).bd ?_;rintro bR x _ hl ⟨rfl, -⟩;exact .pure ⟨rfl,trivial⟩
omit H in
theorem N6{v v':Value}(h:ay β v v'):aC L C (fF λ_=>True) β (asBool v) (asBool v'):=by
 cases h with
 | bool b=>exact .pure ⟨rfl,trivial⟩
 | _=>exact ao
omit H in
theorem oD{v v':Value}(h:ay β v v'):aC L C iE β (Instr.sureAddr v) (Instr.sureAddr v'):=by
 cases h with
 | ptr h=>exact .pure h
 | _=>exact ao
omit H in
theorem wb{v v':Value}(h:ay β v v'):aC L C iE β (asAddr v) (asAddr v'):=by
 cases h with
 | ptr h=>exact .pure h
 | nQ=>
  show aC L C iE β (runtimePanic .nilDeref) _;exact aW.rel
 | _=>exact ao
end
end
end Go.Cx
namespace Go.Cx
open Go
variable[aV][aJ][aY]
section
variable{L C:Program}{β:Bj}(H:fW L C)
include H
theorem Ss(e:TypeId)(Ii:RR L e):aC L C ay β (Instr.alloc e true (.tuple #[])) (Instr.alloc e true (.tuple #[])):=by
 unfold Instr.alloc;refine (IF H e Ii).bd ?_;intro bR v v' hl hv;refine (Gc e hv).bd ?_;intro gW a a' cP ha;exact .pure (.ptr ha)
omit H in
theorem aad(e:TypeId){v v':Value}(hv:ay β v v'):aC L C ay β (Instr.box e v) (Instr.box e v'):=by
 unfold Instr.box;refine (Gc e hv).bd ?_;intro gW a a' cP ha;exact .pure (.ptr ha)
theorem N8(t:TypeId){v v':Value}(hv:ay β v v'):aC L C ay β (Instr.loadAt t v) (Instr.loadAt t v'):=by
 unfold Instr.loadAt;refine (oD hv).bd ?_;intro gW a a' cP ha;exact uf H t ha
theorem LK(t:TypeId){v v' u u':Value}(hv:ay β v v')(hu:ay β u u'):aC L C (fF λ_=>True) β (Instr.storeAt t v u) (Instr.storeAt t v' u'):=by
 unfold Instr.storeAt;refine (oD hv).bd ?_;intro gW a a' cP ha;exact IG H t ha (hu.mono cP)
omit H in
theorem LL(i:Nat){v v':Value}(hv:ay β v v'):aC L C ay β (Instr.extract v i) (Instr.extract v' i):=by
 cases hv with
 | @tuple x x' h k=>
  unfold Instr.extract;simp only;cases hx:x[i]? with
  | none=>exact ao
  | some u=>
   obtain ⟨u',h1,h2⟩:=aG.get ⟨h,k⟩ hx;rw [h1];exact .pure h2
 | _=>exact ao
omit H in
theorem IH{f f':Fn}{x x' y y':Array Value}(hf:B4 β f f')(hx:aG β x x')(hy:aG β y y'):aC L C ay β (Instr.makeFunc f x y) (Instr.makeFunc f' x' y'):= .pure (.func hf hx.1 hy.1 hx.2 hy.2)
theorem za(t:TypeId){v v':Value}(hv:ay β v v'):aC L C ay β (Instr.makeInterface t v) (Instr.makeInterface t v'):=by
 unfold Instr.makeInterface;refine (fO H t).bd ?_;rintro bR d _ hl ⟨rfl, -⟩;cases d <;> first | exact ao | exact .pure (.iface t (hv.mono hl))
theorem II(t:TypeId){x x':Array Value}(hx:aG β x x')(o:Nat):aC L C ay β (part t x o) (part t x' o):=by
 unfold part;refine (Kr H t).bd ?_;rintro bR b _ hl ⟨rfl, -⟩;cases b with
 | true=>
  simp only [if_true];refine (fj H t).bd ?_;rintro gW n _ cP ⟨rfl, -⟩;exact .pure (((hx.mono hl).mono cP).extract _ _).D7
 | false=>
  simp only [qa7,if_false];cases hv:x[o]? with
  | none=>exact ao
  | some u=>
   obtain ⟨u',h1,h2⟩:=(hx.mono hl).get hv;rw [h1];exact .pure h2
theorem Su(t:TypeId){v v' u u':Value}(hv:ay β v v')(hu:ay β u u'):aC L C ay β (Instr.index t v u) (Instr.index t v' u'):=by
 unfold Instr.index;refine (ug hu).bd ?_;rintro bR ⟨k,i⟩ _ hl ⟨rfl, -⟩;refine (fO H t).bd ?_;rintro gW d _ cP ⟨rfl, -⟩;have vq:=(hv.mono hl).mono cP;cases d
 case array n e=>
  cases vq with
  | agg h hk=>
   simp only;split
   ·refine (fj H e).bd ?_;rintro pD m _ gC ⟨rfl, -⟩;exact II H e (aG.mono gC ⟨h,hk⟩) _
   ·exact jD.rel
  | _=>exact ao
 case string=>
  cases vq with
  | string s=>
   simp only;split
   ·exact .pure (.int _ _)
   ·exact jD.rel
  | _=>exact ao
 all_goals (cases vq <;> exact ao)
theorem LM(t:TypeId){v v' u u':Value}(hv:ay β v v')(hu:ay β u u'):aC L C ay β (Instr.indexAt t v u) (Instr.indexAt t v' u'):=by
 unfold Instr.indexAt;refine (ug hu).bd ?_;rintro bR ⟨k,i⟩ _ hl ⟨rfl, -⟩;simp only;refine (fO H t).bd ?_;rintro gW d _ cP ⟨rfl, -⟩;have vq:=(hv.mono hl).mono cP;cases d
 case array n e=>
  refine (oD vq).bd ?_;intro pD a a' gC ha;refine aC.bd (RA:=λβ (x x':Option Addr×Nat×TypeId)=>x=(some a,n,e)/\x'=(some a',n,e)/\iE β a a') (.pure ⟨rfl,rfl,ha⟩) ?_;rintro qE _ _ mP ⟨rfl,rfl,ZV⟩;refine (fO H t).bd ?_;rintro Gd d _ xA ⟨rfl, -⟩;simp only;split
  ·refine (fj H e).bd ?_;rintro Ij m _ zb ⟨rfl, -⟩;exact .pure (.ptr (((ZV.mono xA).mono zb).add _))
  ·split <;> split <;> first | exact ao | exact jD.rel
 case slice e=>
  cases vq with
  | jB n c=>
   refine aC.bd (RA:=λβ (x x':Option Addr×Nat×TypeId)=>x=(none,n,e)/\x'=(none,n,e)) (.pure ⟨rfl,rfl⟩) ?_;rintro qE _ _ mP ⟨rfl,rfl⟩;refine (fO H t).bd ?_;rintro Gd d _ xA ⟨rfl, -⟩;exact jD.rel
  | vY a a'=>
   refine aC.bd (RA:=λβ (x x':Option Addr×Nat×TypeId)=>x=(some a,0,e)/\x'=(some a',0,e)) (.pure ⟨rfl,rfl⟩) ?_;rintro qE _ _ mP ⟨rfl,rfl⟩;refine (fO H t).bd ?_;rintro Gd d _ xA ⟨rfl, -⟩;simp only;split
   ·rename_i hh;omega
   ·split <;> split <;> first | exact ao | exact jD.rel
  | @slice a a' n c ha=>
   refine aC.bd (RA:=λβ (x x':Option Addr×Nat×TypeId)=>x=(some a,n,e)/\x'=(some a',n,e)/\iE β a a') (.pure ⟨rfl,rfl,ha⟩) ?_;rintro qE _ _ mP ⟨rfl,rfl,ZV⟩;refine (fO H t).bd ?_;rintro Gd d _ xA ⟨rfl, -⟩;simp only;split
   ·refine (fj H e).bd ?_;rintro Ij m _ zb ⟨rfl, -⟩;exact .pure (.ptr (((ZV.mono xA).mono zb).add _))
   ·split <;> split <;> first | exact ao | exact jD.rel
  | _=>exact (aQ.dP aQ.halt).rel
 all_goals (cases vq <;> exact (aQ.dP aQ.halt).rel)
omit H in
theorem nV{v v':Value}(hv:ay β v v')(y:Nat)(c:BoundsCode):aC L C (fF λx=>x<=y) β (Instr.sliceBound v y c) (Instr.sliceBound v' y c):=by
 unfold Instr.sliceBound;refine (ug hv).bd ?_;rintro bR ⟨k,i⟩ _ hl ⟨rfl, -⟩;simp only;split
 ·rename_i hh;exact .pure ⟨rfl,by omega⟩
 ·exact jD.rel
inductive nJ(β:Bj):Option Value->Option Value->Prop
 | none:nJ β none none
 | some {v v':Value}:ay β v v'->nJ β (some v) (some v')
omit H in
omit [aJ] in
theorem nJ.mono{γ:Bj}(l:Le β γ){x x':Option Value}(h:nJ β x x'):nJ γ x x':=by
 cases h with
 | none=>exact .none
 | some h=>exact .some (h.mono l)
omit H in
theorem W9{lo nK:Option Value}(qj:nJ β lo nK)(h m:Nat)(c:BoundsCode):aC L C (fF λx=>x.1<=h/\x.2=(h,m)) β (lo.elim (do let l←pure 0;pure (l,h,m)) (λv=>do let l←Instr.sliceBound v h c;pure (l,h,m)):Sem (Nat×Nat×Nat)) (nK.elim (do let l←pure 0;pure (l,h,m)) (λv=>do let l←Instr.sliceBound v h c;pure (l,h,m))):=by
 cases qj with
 | none=>exact .pure ⟨rfl,qaa _,rfl⟩
 | some hv=>
  refine (nV hv _ _).bd ?_;rintro pD l _ gC ⟨rfl,hq⟩;exact .pure ⟨rfl,hq,rfl⟩
omit H in
theorem je(b:Bool)(len cap:Nat){lo nK hi fz mx Sv:Option Value}(qj:nJ β lo nK)(Oa:nJ β hi fz)(LN:nJ β mx Sv):aC L C (fF λx=>x.1<=x.2.1/\(x.2.1=len\/x.2.1<=x.2.2)/\x.2.2<=cap) β (Instr.sliceBounds b len cap lo hi mx) (Instr.sliceBounds b len cap nK fz Sv):=by
 unfold Instr.sliceBounds;cases LN with
 | none=>
  refine aC.bd (RA:=fF λm=>m<=cap) (.pure ⟨rfl,qa3 _⟩) ?_;rintro qA m _ uI ⟨rfl,Sy⟩;cases Oa with
  | none=>
   have:=(W9 (L:=L) (C:=C) (qj.mono uI) len m .sliceB).imp (RB:=fF λx=>x.1<=x.2.1/\(x.2.1=len\/x.2.1<=x.2.2)/\x.2.2<=cap) (by rintro _ ⟨x1,x2⟩ _ _ ⟨rfl,h1,h2⟩;obtain rfl:x2=_:=h2;exact ⟨rfl,h1, .inl rfl,Sy⟩);cases qj <;> exact this
  | some hv=>
   refine (nV (hv.mono uI) _ _).bd ?_;rintro gW h _ cP ⟨rfl,Oc⟩;have:=(W9 (L:=L) (C:=C) ((qj.mono uI).mono cP) h m .sliceB).imp (RB:=fF λx=>x.1<=x.2.1/\(x.2.1=len\/x.2.1<=x.2.2)/\x.2.2<=cap) (by rintro _ ⟨x1,x2⟩ _ _ ⟨rfl,h1,h2⟩;obtain rfl:x2=_:=h2;exact ⟨rfl,h1, .inr Oc,Sy⟩);cases qj <;> exact this
 | some hm=>
  refine (nV hm _ _).bd ?_;rintro qA m _ uI ⟨rfl,Sy⟩;cases Oa with
  | none=>exact (aQ.dP aQ.halt).rel
  | some hv=>
   refine (nV (hv.mono uI) _ _).bd ?_;rintro gW h _ cP ⟨rfl,Oc⟩;have:=(W9 (L:=L) (C:=C) ((qj.mono uI).mono cP) h m .slice3C).imp (RB:=fF λx=>x.1<=x.2.1/\(x.2.1=len\/x.2.1<=x.2.2)/\x.2.2<=cap) (by rintro _ ⟨x1,x2⟩ _ _ ⟨rfl,h1,h2⟩;obtain rfl:x2=_:=h2;exact ⟨rfl,h1, .inr Oc,Sy⟩);cases qj <;> exact this
theorem Sz(t:TypeId){v v':Value}(hv:ay β v v'){lo nK hi fz mx Sv:Option Value}(qj:nJ β lo nK)(Oa:nJ β hi fz)(LN:nJ β mx Sv):aC L C ay β (Instr.slice t v lo hi mx) (Instr.slice t v' nK fz Sv):=by
 unfold Instr.slice;refine (fO H t).bd ?_;rintro gW d _ cP ⟨rfl, -⟩;have vq:=hv.mono cP;cases d
 case slice e=>
  cases vq with
  | jB n c=>
   refine (je true n c (qj.mono cP) (Oa.mono cP) (LN.mono cP)).bd ?_;rintro pD ⟨l,h,m⟩ _ gC ⟨rfl, -⟩;refine (fj H e).bd ?_;rintro qE z _ mP ⟨rfl, -⟩;simp only [Option.map_none,ite_self];exact .pure (.jB _ _)
  | vY a a'=>
   refine (je true 0 0 (qj.mono cP) (Oa.mono cP) (LN.mono cP)).bd ?_;rintro pD ⟨l,h,m⟩ _ gC ⟨rfl,h1,h2,h3⟩;refine (fj H e).bd ?_;rintro qE z _ mP ⟨rfl, -⟩;obtain rfl:m=0:=Nat.le_zero.1 h3;obtain rfl:h=0:=by simp only at h2;omega
   obtain rfl:l=0:=Nat.le_zero.1 h1;exact .pure (.vY a a')
  | slice n c ha=>
   refine (je true n c (qj.mono cP) (Oa.mono cP) (LN.mono cP)).bd ?_;rintro pD ⟨l,h,m⟩ _ gC ⟨rfl, -⟩;refine (fj H e).bd ?_;rintro qE z _ mP ⟨rfl, -⟩;have ZV:=(ha.mono gC).mono mP;simp only [qab];split
   ·exact .pure (.slice _ _ ZV)
   ·exact .pure (.slice _ _ (ZV.add _))
  | _=>exact ao
 case string=>
  cases vq with
  | string s=>
   cases LN with
   | some _=>exact (aQ.dP aQ.halt).rel
   | none=>
   simp only [qbl,qa7,if_false];refine (je false _ _ (qj.mono cP) (Oa.mono cP) .none).bd ?_;rintro pD ⟨l,h,m⟩ _ gC ⟨rfl, -⟩;exact .pure (.string _)
  | _=>exact ao
 case pointer arr=>
  have key:aC L C ay gW (do
    let a←asAddr v
    let .array n elem←underlying arr | stuck "Slice: array type expected"
    let (l,h,m)←Instr.sliceBounds false n n lo hi mx
    let size←sizeOf elem
    pure (.slice (some (if m=l then a else a.add (l*size))) (h - l) (m - l)):Sem Value) (do
    let a←asAddr v'
    let .array n elem←underlying arr | stuck "Slice: array type expected"
    let (l,h,m)←Instr.sliceBounds false n n nK fz Sv
    let size←sizeOf elem
    pure (.slice (some (if m=l then a else a.add (l*size))) (h - l) (m - l))):=by
   refine (wb vq).bd ?_;intro pD a a' gC ha;refine (fO H arr).bd ?_;rintro qE d _ mP ⟨rfl, -⟩;cases d
   case array n e=>
    refine (je false n n (((qj.mono cP).mono gC).mono mP) (((Oa.mono cP).mono gC).mono mP) (((LN.mono cP).mono gC).mono mP)).bd ?_;rintro Gd ⟨l,h,m⟩ _ xA ⟨rfl, -⟩;refine (fj H e).bd ?_;rintro Ij z _ zb ⟨rfl, -⟩;have ha6:=((ha.mono mP).mono xA).mono zb
    skip
    split
    ·exact .pure (.slice _ _ ha6)
    ·exact .pure (.slice _ _ (ha6.add _))
   all_goals exact ao
  cases vq <;> exact key
 all_goals (cases vq <;> exact ao)
theorem LO(t:TypeId){v v':Value}(hv:ay β v v'){lo nK hi fz mx Sv:Option Value}(qj:nJ β lo nK)(Oa:nJ β hi fz)(LN:nJ β mx Sv):aC L C ay β (Instr.sliceAt t v lo hi mx) (Instr.sliceAt t v' nK fz Sv):=by
 unfold Instr.sliceAt;refine (fO H t).bd ?_;rintro gW d _ cP ⟨rfl, -⟩;cases d
 case array n e=>
  refine (oD (hv.mono cP)).bd ?_;intro pD a a' gC ha;refine (je false n n ((qj.mono cP).mono gC) ((Oa.mono cP).mono gC) ((LN.mono cP).mono gC)).bd ?_;rintro qE ⟨l,h,m⟩ _ mP ⟨rfl, -⟩;refine (fj H e).bd ?_;rintro Gd z _ xA ⟨rfl, -⟩;have ha5:=(ha.mono mP).mono xA
  skip
  split
  ·exact .pure (.slice _ _ ha5)
  ·exact .pure (.slice _ _ (ha5.add _))
 all_goals exact Sz H t (hv.mono cP) (qj.mono cP) (Oa.mono cP) (LN.mono cP)
theorem LP(t:TypeId)(hn: ∀n e,L.underlying t=some (.array n e)->n≠0){v v':Value}(hv:ay β v v'):aC L C ay β (Instr.arrayAt t v) (Instr.arrayAt t v'):=by
 unfold Instr.arrayAt;refine (fO H t).bd ?_;rintro gW d _ cP ⟨rfl,Eb⟩;cases d
 case array n e=>
  cases hv.mono cP with
  | jB l c=>
   simp only;split
   ·exact aW.rel
   ·exact .pure .nQ
  | vY a a'=>
   have:=hn n e Eb;simp only;rw [if_pos (by omega),if_pos (by omega)];exact aW.rel
  | slice l c ha=>
   simp only;split
   ·exact aW.rel
   ·exact .pure (.ptr ha)
  | _=>exact ao
 all_goals exact ao
end
end Go.Cx
namespace Go.Cx
open Go
variable[aV][aJ][aY]
section
variable{L C:Program}{β:Bj}(H:fW L C)
include H
omit H in
omit [aJ] in
theorem Ge{β:Bj}{c c':Array Value}(h:aG β c c')(off:Nat): ∀(k:Nat) {x x':List Value} {z z':Array Value},nI β x x'->aG β z z'->
  aG β ((x.zipIdx k).foldl (λcs (c,j)=>cs.setIfInBounds (off+j) c) z) ((x'.zipIdx k).foldl (λcs (c,j)=>cs.setIfInBounds (off+j) c) z')
 | k,_,_,z,z', .nil,hz=>hz
 | k,_,_,z,z', .cons hv hl,hz=>by
  simp only [List.zipIdx_cons,List.foldl_cons];exact Ge h off (k+1) hl (hz.set hv _)
inductive u5(β:Bj):List (Nat×Value)->List (Nat×Value)->Prop
 | nil:u5 β [] []
 | cons (i:Nat) {v v':Value} {l l':List (Nat×Value)}:ay β v v'->u5 β l l'->u5 β ((i,v)::l) ((i,v')::l')
omit H in
omit [aJ] in
theorem u5.mono{γ:Bj}(l:Le β γ){x x':List (Nat×Value)}(h:u5 β x x'):u5 γ x x':=by
 induction h with
 | nil=>exact .nil
 | cons i hv _ ih=>exact .cons i (hv.mono l) ih
omit H in
omit [aJ] in
theorem we{place:Nat->Option (Nat×Nat)}: ∀{l l':List (Nat×Value)} {z z':Array Value},u5 β l l'->aG β z z'->
  (Instr.fill place z l=none/\Instr.fill place z' l'=none)\/ ∃c c',Instr.fill place z l=some c/\Instr.fill place z' l'=some c'/\aG β c c'
 | _,_,z,z', .nil,hz=> .inr ⟨z,z',rfl,rfl,hz⟩
 | _,_,z,z', .cons i hv hl,hz=>by
  unfold Instr.fill;cases place i with
  | none=>exact .inl ⟨rfl,rfl⟩
  | some p=>
   obtain ⟨off,size⟩:=p;have hc:=hv.cells;simp only [←hc.1, ←hz.1];split
   ·exact .inl ⟨rfl,rfl⟩
   ·refine we hl ?_;have:=Ge hc off 0 hc.list hz;have e: ∀(a y:Array Value),a.zipIdx.foldl (λcs (x:Value×Nat)=>cs.setIfInBounds (off+x.2) x.1) y=(a.toList.zipIdx 0).foldl (λcs (x:Value×Nat)=>cs.setIfInBounds (off+x.2) x.1) y:=λa y=>by rw [←Array.foldl_toList,Array.toList_zipIdx]
    exact (e _ z).symm▸(e _ z').symm▸this
omit H in
theorem tl{s:Sem Value}(h:(∃v,s= .pure v/\Plain v)\/aQ L s):aC L C ay β s s:=by
 rcases h with ⟨v,rfl,hp⟩ | h
 ·exact .pure hp.rel
 ·exact h.rel
omit H in
theorem z6(op:BinOp)(k:IntKind)(x y:Int):aC L C ay β (Op.intArith op k x y) (Op.intArith op k x y):=by
 refine tl ?_;unfold Op.intArith;split <;> first | exact .inl ⟨_,rfl, .int _ _⟩ | exact .inr aQ.halt
omit H in
theorem Od(op:BinOp)(k:IntKind)(x y:Int):aC L C ay β (Op.intDiv op k x y) (Op.intDiv op k x y):=by
 refine tl ?_;unfold Op.intDiv;split
 ·exact .inr aW
 ·split <;> first | exact .inl ⟨_,rfl, .int _ _⟩ | exact .inr aQ.halt
omit H in
theorem CU(op:BinOp)(k:IntKind)(x y:Int):aC L C ay β (Op.intBits op k x y) (Op.intBits op k x y):=by
 refine tl ?_;unfold Op.intBits;simp only;split <;> first | exact .inl ⟨_,rfl, .int _ _⟩ | exact .inr aQ.halt
omit H in
theorem zD(op:BinOp)(k:IntKind)(x:Int)(yk:IntKind)(y:Int):aC L C ay β (Op.shift op k x yk y) (Op.shift op k x yk y):=by
 refine tl ?_;unfold Op.shift;split
 ·exact .inr aW
 ·simp only;split <;> first | exact .inl ⟨_,rfl, .int _ _⟩ | exact .inr aQ.halt
omit H in
theorem Oe(op:BinOp)(x y:Int):aC L C ay β (Op.intCmp op x y) (Op.intCmp op x y):=by
 refine tl ?_;unfold Op.intCmp;split <;> first | exact .inl ⟨_,rfl, .bool _⟩ | exact .inr aQ.halt
omit H in
theorem SA(op:UnOp){v v':Value}(hv:ay β v v'):aC L C ay β (Op.unary op v) (Op.unary op v'):=by
 cases hv with
 | int k n=>
  cases op
  case neg=>
   show aC L C ay β (Op.intArith .sub k 0 n) (Op.intArith .sub k 0 n);exact z6 _ _ _ _
  case xor=>
   show aC L C ay β (Op.intBits .xor k (if k.signed then -1 else k.max) n) _;exact CU _ _ _ _
  all_goals exact ao
 | bool b=>
  cases op
  case not=>exact .pure (.bool _)
  all_goals exact ao
 | _=>cases op <;> exact ao
theorem LQ(t:TypeId)(i:Nat)(hz: ∀(fs:Array Field) (f:Field) (inf:TypeInfo),L.underlying t=some (.struct fs)->fs[i]? =some f->L.info? f.type=some inf->inf.size≠0){v v':Value}(hv:ay β v v'):aC L C ay β (Instr.fieldAt t v i) (Instr.fieldAt t v' i):=by
 unfold Instr.fieldAt;refine (fO H t).bd ?_;rintro gW d _ cP ⟨rfl,hd⟩;cases d
 case struct fs=>
  simp only;cases hf:fs[i]? with
  | none=>exact ao
  | some f=>
   refine (oD (hv.mono cP)).bd ?_;intro pD a a' gC ha;refine aC.bd (RA:=iE) ?_ ?_
   ·unfold fieldPlace sizeOf;simp only [bind_assoc];refine (jr H f.type).bd ?_;rintro qE inf _ mP ⟨rfl,hi⟩;have:=hz fs f inf hd hf hi;simp only [pure_bind,this,if_false];exact .pure ((ha.mono mP).add _)
   ·intro qE b b' mP hb;exact .pure (.ptr hb)
 all_goals exact ao
omit H in
omit [aJ] in
theorem rG{z:Array Value}(hz: ∀(i:Nat) (v:Value),z[i]? =some v->Plain v)(n:Nat):aG β ((Array.range n).map (z[· % z.size]!)) ((Array.range n).map (z[· % z.size]!)):=by
 refine aG.map λx _=> ?_;by_cases h:x % z.size<z.size
 ·rw [getElem!_pos z _ h];exact (hz _ _ (Array.getElem?_eq_getElem h)).rel
 ·rw [getElem!_neg z _ h];exact ay.bool false
omit H in
omit [aV] [aJ] [aY] in
theorem lC{v u:Value}(h:Plain v){k:Nat}(hu:(#[v]:Array Value)[k]? =some u):Plain u:=by
 cases k with
 | zero=>simp at hu;exact hu▸h
 | succ k=>simp at hu
theorem wh(t:TypeId)(Ii:RR L t):aC L C (fF λv=> ∀(i:Nat) (u:Value),v.cells[i]? =some u->Plain u) β (zeroValue t) (zeroValue t):=by
 unfold zeroValue;refine (jr H t).bd ?_;rintro bR i _ hl ⟨rfl,hi⟩;cases hz:i.zero with
 | none=>exact ao
 | some v=>
  refine .pure ⟨rfl,λk u hu=> ?_⟩;have hp:=Ii i v hi hz;cases hp with
  | agg h=>exact h k u hu
  | bool b=>exact lC (.bool b) hu
  | int a b=>exact lC (.int a b) hu
  | string b=>exact lC (.string b) hu
  | nQ=>exact lC .nQ hu
  | jB a b=>exact lC (.jB a b) hu
  | oC=>exact lC .oC hu
  | gZ=>exact lC .gZ hu
  | tuple h=>exact lC (.tuple h) hu
theorem Ec(t:TypeId)(n:Nat)(CV:LJ L t){ps ZW:Array (Nat×Value)}(hp:u5 β ps.toList ZW.toList):aC L C ay β (Instr.buildSlice t n ps) (Instr.buildSlice t n ZW):=by
 unfold Instr.buildSlice;refine (fO H t).bd ?_;rintro gW d _ cP ⟨rfl,Eb⟩;cases d
 case slice e=>
  have Ii:=CV e Eb;refine (fj H e).bd ?_;rintro pD size _ gC ⟨rfl, -⟩;simp only;split
  ·exact (aQ.dP aQ.halt).rel
  ·have key: ∀(qE:Bj) (z:Array Value),Le pD qE->(∀(i:Nat) (u:Value),z[i]? =some u->Plain u)->aC L C ay qE (do
     let some cells:=Instr.fill (λi=>some (i*size,size)) ((Array.range (n*size)).map (z[· % z.size]!)) ps.toList
      | stuck "buildSlice: a part of the wrong size"
     pure (.slice (some (←newRow e cells)) n n):Sem Value) (do
     let some cells:=Instr.fill (λi=>some (i*size,size)) ((Array.range (n*size)).map (z[· % z.size]!)) ZW.toList
      | stuck "buildSlice: a part of the wrong size"
     pure (.slice (some (←newRow e cells)) n n)):=by
    intro qE z mP hz;rcases we (place:=λi=>some (i*size,size)) (((hp.mono cP).mono gC).mono mP) (rG hz (n*size)) with ⟨h1,h2⟩ | ⟨c,c',h1,h2,h3⟩
    ·rw [h1,h2];exact ao
    ·rw [h1,h2];refine (wa e h3).bd ?_;intro Gd a a' xA ha;exact .pure (.slice _ _ ha)
   split
   ·exact key pD #[] (Le.refl _) (λi u hu=>by simp at hu)
   ·refine (wh H e Ii).bd ?_;rintro qE v _ mP ⟨rfl,hz⟩;exact key qE _ mP hz
 all_goals exact ao
end
end Go.Cx
namespace Go.Cx
open Go
variable[aV][aJ][aY]
section
variable{L C:Program}{β:Bj}(H:fW L C)
include H
omit H in
theorem SB{α γ:Type}{f:α->Sem γ}(l:List α)(h: ∀x∈l, ∀β,aC L C (fF λ_=>True) β (f x) (f x)): ∀β,aC L C (fF λ_=>True) β (l.mapM f) (l.mapM f):=by
 induction l with
 | nil=>intro β;rw [List.mapM_nil];exact .pure ⟨rfl,trivial⟩
 | cons x l ih=>
  intro β;rw [List.mapM_cons];refine (h x (by simp) β).bd ?_;rintro gW a _ cP ⟨rfl, -⟩;refine (ih (λy hy=>h y (by simp [hy])) gW).bd ?_;rintro pD b _ gC ⟨rfl, -⟩;exact .pure ⟨rfl,trivial⟩
omit H in
theorem aae{α γ:Type}{RA:Bj->α->α->Prop}{RB:Bj->γ->γ->Prop}{s t:Sem α}{f:α->γ}(h:aC L C RA β s t)(k: ∀bR a a',Le β bR->RA bR a a'->RB bR (f a) (f a')):aC L C RB β (Functor.map f s) (Functor.map f t):=by
 rw [map_eq_pure_bind,map_eq_pure_bind];exact h.bd λbR a a' hl ha=> .pure (k bR a a' hl ha)
omit H in
theorem SC{α γ:Type}{f:α->Sem γ}(xs:Array α)(h: ∀x∈xs, ∀β,aC L C (fF λ_=>True) β (f x) (f x)):aC L C (fF λ_=>True) β (xs.mapM f) (xs.mapM f):=by
 rw [Array.mapM_eq_mapM_toList];refine aae (SB xs.toList (λx hx=>h x (by simpa using hx)) β) ?_;rintro bR a _ hl ⟨rfl, -⟩;exact ⟨rfl,trivial⟩
theorem SD(t:TypeId)(Ii:RR L t){ps ZW:Array (Nat×Value)}(hp:u5 β ps.toList ZW.toList):aC L C ay β (Instr.build t ps) (Instr.build t ZW):=by
 unfold Instr.build;refine (IF H t Ii).bd ?_;intro qA z z' uI hz;refine (fO H t).bd ?_;rintro gW d _ cP ⟨rfl, -⟩;have hc:=(hz.mono cP).cells;cases d
 case struct fs=>
  refine (SC fs (λf _ β=> ?_)).bd ?_
  ·refine (fj H f.type).bd ?_;rintro pD n _ gC ⟨rfl, -⟩;exact .pure ⟨rfl,trivial⟩
  ·rintro pD places _ gC ⟨rfl, -⟩;rcases we (place:=(places[·]?)) (((hp.mono uI).mono cP).mono gC) (hc.mono gC) with ⟨h1,h2⟩ | ⟨c,c',h1,h2,h3⟩
   ·simp only [h1,h2];exact ao
   ·simp only [h1,h2];exact .pure h3.D7
 case array n e=>
  refine (fj H e).bd ?_;rintro pD size _ gC ⟨rfl, -⟩;rcases we (place:=λi=>some (i*size,size)) (((hp.mono uI).mono cP).mono gC) (hc.mono gC) with ⟨h1,h2⟩ | ⟨c,c',h1,h2,h3⟩
  ·simp only [h1,h2];exact ao
  ·simp only [h1,h2];exact .pure h3.D7
 all_goals exact ao
omit H in
theorem CW(n:Nat):aC L C (fF λ_=>True) β (askRoom n) (askRoom n):=by
 unfold askRoom;split
 ·exact .mark (.pure ⟨rfl,trivial⟩)
 ·exact .pure ⟨rfl,trivial⟩
theorem Gf(t:TypeId)(CV:LJ L t){n n' c c':Value}(hn:ay β n n')(hc:ay β c c'):aC L C ay β (Instr.makeSlice t n c) (Instr.makeSlice t n' c'):=by
 unfold Instr.makeSlice;refine (fO H t).bd ?_;rintro qA d _ uI ⟨rfl,Eb⟩;cases d
 case slice e=>
  have Ii:=CV e Eb;refine (nU (hn.mono uI)).bd ?_;rintro gW n _ cP ⟨rfl, -⟩;refine (nU ((hc.mono uI).mono cP)).bd ?_;rintro pD c _ gC ⟨rfl, -⟩;refine (jr H e).bd ?_;rintro qE inf _ mP ⟨rfl, -⟩;simp only;split
  ·refine aQ.rel ?_;split
   ·exact aQ.dP aW
   ·split
    ·exact aQ.dP aW
    ·exact aQ.bind λ_=>(by first | exact aW | exact aQ.dP aW)
  ·refine (CW _).bd ?_;rintro Gd _ _ xA -;refine (fj H e).bd ?_;rintro Ij size _ zb ⟨rfl, -⟩;have key: ∀(β7:Bj) (z:Array Value),(∀(i:Nat) (u:Value),z[i]? =some u->Plain u)->aC L C ay β7 (do
     let a←newRow e ((Array.range ((IntKind.i64.wrap c).toNat*size)).map (z[· % z.size]!))
     pure (.slice (some a) (IntKind.i64.wrap n).toNat (IntKind.i64.wrap c).toNat):Sem Value) (do
     let a←newRow e ((Array.range ((IntKind.i64.wrap c).toNat*size)).map (z[· % z.size]!))
     pure (.slice (some a) (IntKind.i64.wrap n).toNat (IntKind.i64.wrap c).toNat)):=by
    intro β7 z hz;refine (wa e (rG hz _)).bd ?_;intro β8 a a' hl8 ha;exact .pure (.slice _ _ ha)
   split
   ·exact key _ #[] (λi u hu=>by simp at hu)
   ·refine (wh H e Ii).bd ?_;rintro β7 z _ hl7 ⟨rfl,hz⟩;exact key _ _ hz
 all_goals exact ao
omit H in
theorem LR(src dst:TypeId)(H:fW L C){v v':Value}(hv:ay β v v')(hs: ∃k,L.underlying src=some (.int k))(hd: ∃k,L.underlying dst=some (.int k)):aC L C ay β (convert src dst v) (convert src dst v'):=by
 unfold convert;obtain ⟨ks,hs⟩:=hs;obtain ⟨kd,hd⟩:=hd;refine (fO H src).bd ?_;rintro qA ds _ uI ⟨rfl,h1⟩;rw [hs] at h1;cases h1;refine (fO H dst).bd ?_;rintro gW dd _ cP ⟨rfl,h2⟩;rw [hd] at h2;cases h2;cases (hv.mono uI).mono cP with
 | int k n=>exact .pure (.int _ _)
 | ptr h=>exact ao
 | _=>exact ao
theorem aaf(ts:Array TypeId)(t:TypeId){x x':Array Value}(hx:aG β x x'):aC L C ay β (Builtin.len_ ts t x) (Builtin.len_ ts t x'):=by
 unfold Builtin.len_;cases ht:ts[0]? with
 | none=>exact ao
 | some t0=>
  cases h0:x[0]? with
  | none=>rw [hx.none h0];exact ao
  | some v=>
   obtain ⟨v',h1,hv⟩:=hx.get h0;rw [h1];simp only;refine (fO H t0).bd ?_;rintro qA d _ uI ⟨rfl, -⟩;cases d
   case string=>cases hv <;> first | exact .pure (.int _ _) | exact ao
   case array=>cases hv <;> exact .pure (.int _ _)
   case slice=>cases hv <;> first | exact .pure (.int _ _) | exact ao
   case pointer arr=>
    have:aC L C ay qA (do
     let .array n _←underlying arr | stuck "len: pointer to array expected"
     pure (goInt n):Sem Value) (do
     let .array n _←underlying arr | stuck "len: pointer to array expected"
     pure (goInt n)):=by
     refine (fO H arr).bd ?_;rintro gW d2 _ cP ⟨rfl, -⟩;cases d2 <;> first | exact .pure (.int _ _) | exact ao
    cases hv <;> exact this
   all_goals (cases hv <;> exact ao)
theorem aag(ts:Array TypeId)(t:TypeId){x x':Array Value}(hx:aG β x x'):aC L C ay β (Builtin.cap_ ts t x) (Builtin.cap_ ts t x'):=by
 unfold Builtin.cap_;cases ht:ts[0]? with
 | none=>exact ao
 | some t0=>
  cases h0:x[0]? with
  | none=>rw [hx.none h0];exact ao
  | some v=>
   obtain ⟨v',h1,hv⟩:=hx.get h0;rw [h1];simp only;refine (fO H t0).bd ?_;rintro qA d _ uI ⟨rfl, -⟩;cases d
   case array=>cases hv <;> exact .pure (.int _ _)
   case slice=>cases hv <;> first | exact .pure (.int _ _) | exact ao
   case pointer arr=>
    have:aC L C ay qA (do
     let .array n _←underlying arr | stuck "cap: pointer to array expected"
     pure (goInt n):Sem Value) (do
     let .array n _←underlying arr | stuck "cap: pointer to array expected"
     pure (goInt n)):=by
     refine (fO H arr).bd ?_;rintro gW d2 _ cP ⟨rfl, -⟩;cases d2 <;> first | exact .pure (.int _ _) | exact ao
    cases hv <;> exact this
   all_goals (cases hv <;> exact ao)
omit H in
omit [aJ] in
theorem qk{z:Array Value}(hz: ∀(i:Nat) (v:Value),z[i]? =some v->Plain v)(n:Nat):aG β (Builtin.zeroCells z n) (Builtin.zeroCells z n):=rG hz _
theorem SE(ts:Array TypeId)(t:TypeId)(CV: ∀ty∈ts,LJ L ty){x x':Array Value}(hx:aG β x x'):aC L C ay β (Builtin.clear_ ts t x) (Builtin.clear_ ts t x'):=by
 unfold Builtin.clear_;cases ht:ts[0]? with
 | none=>exact ao
 | some t0=>
  cases h0:x[0]? with
  | none=>rw [hx.none h0];exact ao
  | some v=>
   obtain ⟨v',h1,hv⟩:=hx.get h0;rw [h1];simp only;refine (fO H t0).bd ?_;rintro qA d _ uI ⟨rfl,Eb⟩;have SF:aC L C ay qA (pure (.tuple #[]):Sem Value) (pure (.tuple #[])):= .pure (.tuple rfl λi v v' h=>by simp at h);have ahS: ∀d:TypeDesc,aC L C ay qA (do pure ();pure (.tuple #[]):Sem Value) (do pure ();pure (.tuple #[])):=λ_=>SF;cases hv.mono uI with
   | jB l c=>cases d <;> exact SF
   | vY a a'=>cases d <;> exact SF
   | @slice a a' l c ha=>
    cases l with
    | zero=>cases d <;> exact SF
    | succ l=>
     cases d
     case slice e=>
      refine (wh H e (CV t0 (qb3 ht) e Eb)).bd ?_;rintro gW z _ cP ⟨rfl,hz⟩;refine (nT 0 (ha.mono cP) (qk hz _).list).bd ?_;rintro pD u u' gC -;exact .pure (.tuple rfl λi v v' h=>by simp at h)
     all_goals exact (aQ.dP aQ.halt).rel
   | _=>cases d <;> exact (aQ.dP aQ.halt).rel
omit H in
theorem Xa{v v' u u':Value}(hv:ay β v v')(hu:ay β u u'):aC L C ay β (Builtin.min2 v u) (Builtin.min2 v' u'):=by
 cases hv with
 | int k n=>cases hu with
  | int k2 m=>exact .pure (.int _ _)
  | ptr h=>exact ao
  | _=>exact ao
 | string s=>cases hu with
  | string s2=>
   refine tl ?_;by_cases h:True
   ·exact .inl ⟨_,rfl, .string _⟩
   ·exact absurd trivial h
  | ptr h=>exact ao
  | _=>exact ao
 | ptr h=>cases hu <;> exact ao
 | _=>cases hu <;> exact ao
omit H in
theorem Xb{v v' u u':Value}(hv:ay β v v')(hu:ay β u u'):aC L C ay β (Builtin.max2 v u) (Builtin.max2 v' u'):=by
 cases hv with
 | int k n=>cases hu with
  | int k2 m=>exact .pure (.int _ _)
  | ptr h=>exact ao
  | _=>exact ao
 | string s=>cases hu with
  | string s2=>exact tl (.inl ⟨_,rfl, .string _⟩)
  | ptr h=>exact ao
  | _=>exact ao
 | ptr h=>cases hu <;> exact ao
 | _=>cases hu <;> exact ao
omit H in
theorem Ed{f:Value->Value->Sem Value}(hf: ∀(β:Bj) (v v' u u':Value),ay β v v'->ay β u u'->aC L C ay β (f v u) (f v' u')): ∀{l l':List Value} {v v':Value} {β:Bj},nI β l l'->ay β v v'->aC L C ay β (l.foldlM f v) (l'.foldlM f v')
 | _,_,v,v',β, .nil,hv=> .pure hv
 | _,_,v,v',β, .cons hu hl,hv=>by
  rw [List.foldlM_cons,List.foldlM_cons];refine (hf β _ _ _ _ hv hu).bd ?_;intro gW a a' cP ha;exact Ed hf (hl.mono cP) ha
omit H in
theorem aah(ts:Array TypeId)(t:TypeId){x x':Array Value}(hx:aG β x x'):aC L C ay β (Builtin.min_ ts t x) (Builtin.min_ ts t x'):=by
 unfold Builtin.min_;have h:=hx.list;generalize x.toList=l at h;generalize x'.toList=l' at h;cases h with
 | nil=>exact ao
 | cons hv hl=>exact Ed (λ_ _ _ _ _=>Xa) hl hv
omit H in
theorem aai(ts:Array TypeId)(t:TypeId){x x':Array Value}(hx:aG β x x'):aC L C ay β (Builtin.max_ ts t x) (Builtin.max_ ts t x'):=by
 unfold Builtin.max_;have h:=hx.list;generalize x.toList=l at h;generalize x'.toList=l' at h;cases h with
 | nil=>exact ao
 | cons hv hl=>exact Ed (λ_ _ _ _ _=>Xb) hl hv
end
end Go.Cx
namespace Go.Cx
open Go
variable[aV][aJ][aY]
section
variable{L C:Program}{β:Bj}(H:fW L C)
include H
omit H in
theorem uh{v v':Value}(hv:ay β v v'):aC L C (fF λn=> ∀a,v= .slice (some a) 0 0->n=0) β (Builtin.lenOf v) (Builtin.lenOf v'):=by
 cases hv with
 | jB n c=>exact .pure ⟨rfl,nofun⟩
 | vY a a'=>exact .pure ⟨rfl,λ_ _=>rfl⟩
 | slice n c h=>exact .pure ⟨rfl,λ_ q=>by injection q⟩
 | string s=>exact .pure ⟨rfl,nofun⟩
 | _=>exact ao
omit H in
theorem wi(size n:Nat){v v':Value}(hv:ay β v v')(hz: ∀a,v= .slice (some a) 0 0->n=0):aC L C aG β (Builtin.firstCells size n v) (Builtin.firstCells size n v'):=by
 cases hv with
 | jB l c=>exact .pure aG.empty
 | vY a a'=>
  obtain rfl:=hz a rfl;simp only [Builtin.firstCells,Nat.zero_mul];exact .pure aG.empty
 | slice l c h=>exact yF h _
 | string s=>exact .pure (aG.map λ_ _=> .int _ _)
 | _=>exact ao
omit H in
theorem Of{size:Nat}{v v':Value}(hv:ay β v v'):aC L C (λ_ c c'=>c= #[]/\c'= #[]) β (Builtin.firstCells size 0 v) (Builtin.firstCells size 0 v'):=by
 cases hv with
 | jB l c=>exact .pure ⟨rfl,rfl⟩
 | vY a a'=>simp only [Builtin.firstCells,Nat.zero_mul];exact .pure ⟨rfl,rfl⟩
 | slice l c h=>simp only [Builtin.firstCells,Nat.zero_mul];exact .pure ⟨rfl,rfl⟩
 | string s=>exact .pure ⟨by simp,by simp⟩
 | _=>exact ao
omit H in
omit [aV] [aJ] [aY] in
theorem LS(a:Addr)(n:Nat):mj L (Builtin.holdsCells a n):=by
 unfold Builtin.holdsCells;refine @eW _ _ _ _ _ _ λd=> ?_;split <;> infer_instance
omit H in
omit [aV] [aJ] [aY] in
theorem LU(size tn n:Nat)(base:Option Addr)(x:Value):mj L (Builtin.mayShare size tn n base x):=by
 have hf: ∀a,mj L (frozen a):=λa=>iI λw=> .inl ⟨_,_,rfl,rfl⟩;have hh:=λa n=>LS (L:=L) a n;unfold Builtin.mayShare;cases base with
 | none=>
  simp only [pure_bind];split
  ·infer_instance
  ·split <;> infer_instance
 | some a=>
  refine @eW _ _ _ _ _ (hh _ _) λd=> ?_;refine @eW _ _ _ _ _ (hf _) λd=> ?_;simp only [pure_bind];split
  ·infer_instance
  ·split
   ·exact @eW _ _ _ _ _ (hh _ _) λd=>inferInstance
   ·infer_instance
theorem Og(ts:Array TypeId)(t:TypeId)(CV: ∀ty∈ts,LJ L ty){x x':Array Value}(hx:aG β x x'):aC L C ay β (Builtin.append_ ts t x) (Builtin.append_ ts t x'):=by
 unfold Builtin.append_;cases ht:ts[0]? with
 | none=>exact ao
 | some t0=>
 cases h0:x[0]? with
 | none=>rw [hx.none h0];exact ao
 | some s=>
 obtain ⟨s',BV,hs⟩:=hx.get h0;cases h1:x[1]? with
 | none=>rw [BV,hx.none h1];exact ao
 | some u=>
 obtain ⟨u',Oh,hu⟩:=hx.get h1;rw [BV,Oh];simp only;refine (fO H t0).bd ?_;rintro qA d _ uI ⟨rfl,Eb⟩;cases d
 case slice e=>
  have Ii:=CV t0 (qb3 ht) e Eb;have hs1:=hs.mono uI;have rD:=hu.mono uI;have key: ∀(base mq:Option Addr) (tn vr:Nat) (qA:Bj),ay qA (.slice base tn vr) (.slice mq tn vr)->ay qA u u'->((base=none/\mq=none)\/(∃a a',base=some a/\mq=some a'/\tn=0/\vr=0)\/ ∃a a',base=some a/\mq=some a'/\iE qA a a')-> ∀(u6:Bool) (size n:Nat),(u6=false-> ∀a,u= .slice (some a) 0 0->n=0)->
    aC L C ay qA (let tq:Sem (Array Value):=
      if !u6 then Builtin.firstCells size n u
      else if n*size=0 then pure #[]
      else do pure (Builtin.zeroCells (←zeroValue e).cells n)
     let need:=tn+n
     if need<=vr then do
      let new←tq
      if let some a:=base then storeCells (a.add (tn*size)) new.toList
      pure (.slice base need vr)
     else do
      if (need:Int)>IntKind.i64.max/\(u6\/(←typeInfo e).bytes=0) then runtimePanic (.error "growslice: len out of range")
      if Builtin.nextslicecap need vr*(←typeInfo e).bytes>2^48 then (if u6 then runtimePanic (.error "growslice: len out of range") else do
       if !(←Builtin.mayShare size tn n base u) then mark .noRoom
       unsupported (.resourceLimit "append: a slice or a string whose bytes no memory bears"))
      let tt←choose (.appendCap need vr e)
      askRoom (tt*(←typeInfo e).bytes)
      let old←Builtin.firstCells size tn (.slice base tn vr)
      let new←tq
      let rest:=Builtin.zeroCells (←zeroValue e).cells (tt - need)
      pure (.slice (some (←newRow e (old++new++rest))) need tt):Sem Value)
     (let tq:Sem (Array Value):=
      if !u6 then Builtin.firstCells size n u'
      else if n*size=0 then pure #[]
      else do pure (Builtin.zeroCells (←zeroValue e).cells n)
     let need:=tn+n
     if need<=vr then do
      let new←tq
      if let some a:=mq then storeCells (a.add (tn*size)) new.toList
      pure (.slice mq need vr)
     else do
      if (need:Int)>IntKind.i64.max/\(u6\/(←typeInfo e).bytes=0) then runtimePanic (.error "growslice: len out of range")
      if Builtin.nextslicecap need vr*(←typeInfo e).bytes>2^48 then (if u6 then runtimePanic (.error "growslice: len out of range") else do
       if !(←Builtin.mayShare size tn n mq u') then mark .noRoom
       unsupported (.resourceLimit "append: a slice or a string whose bytes no memory bears"))
      let tt←choose (.appendCap need vr e)
      askRoom (tt*(←typeInfo e).bytes)
      let old←Builtin.firstCells size tn (.slice mq tn vr)
      let new←tq
      let rest:=Builtin.zeroCells (←zeroValue e).cells (tt - need)
      pure (.slice (some (←newRow e (old++new++rest))) need tt)):=by
   intro base mq tn vr qA kK rD hb u6 size n hn;have aaj: ∀{γ:Bj},Le qA γ->aC L C aG γ (if !u6 then Builtin.firstCells size n u
      else if n*size=0 then pure #[]
      else do pure (Builtin.zeroCells (←zeroValue e).cells n)) (if !u6 then Builtin.firstCells size n u'
      else if n*size=0 then pure #[]
      else do pure (Builtin.zeroCells (←zeroValue e).cells n)):=by
    intro γ hl;split
    ·rename_i hz;exact wi _ _ (rD.mono hl) (hn (by simpa using hz))
    ·split
     ·exact .pure aG.empty
     ·refine (wh H e Ii).bd ?_;rintro gW z _ cP ⟨rfl,hz⟩;exact .pure (qk hz _)
   simp only;split
   ·by_cases hzz: ∃a a',base=some a/\mq=some a'/\tn=0/\vr=0
    ·obtain ⟨a,a',rfl,rfl,rfl,rfl⟩:=hzz;rename_i hle;obtain rfl:n=0:=by omega
     refine aC.bd (RA:=λ_ c c'=>c= #[]/\c'= #[]) ?_ ?_
     ·split
      ·exact Of rD
      ·rw [if_pos (Nat.zero_mul _)];exact .pure ⟨rfl,rfl⟩
     ·rintro gW _ _ cP ⟨rfl,rfl⟩;exact .pure (.vY a a')
    refine (aaj (Le.refl _)).bd ?_;intro gW c c' cP hc;rcases hb with ⟨rfl,rfl⟩ | h | ⟨a,a',rfl,rfl,ha⟩
    ·exact .pure (.jB _ _)
    ·exact absurd h hzz
    ·refine (nT 0 ((ha.mono cP).add _) hc.list).bd ?_;rintro pD _ _ gC -;exact .pure (.slice _ _ ((ha.mono cP).mono gC))
   ·refine (jr H e).bd ?_;rintro gW inf _ cP ⟨rfl, -⟩;split
    ·exact (aQ.dP aW).rel
    ·refine (jr H e).bd ?_;rintro pD ahT _ gC ⟨rfl, -⟩;split
     ·refine aQ.rel (aQ.dP ?_);split
      ·exact aW
      ·refine aQ.bind (hm:=LU _ _ _ _ _) λb=> ?_;split
       ·exact aQ.bind λ_=>aQ.halt
       ·exact aQ.halt
     ·refine aC.bd (RA:=fF λ_=>True) (.choose λk=> .pure ⟨rfl,trivial⟩) ?_;rintro qE tt _ mP ⟨rfl, -⟩;refine (jr H e).bd ?_;rintro Gd ahU _ xA ⟨rfl, -⟩;refine (CW _).bd ?_;rintro Ij _ _ zb -;have l6:=(((cP.trans gC).trans mP).trans xA).trans zb;refine (wi _ _ (kK.mono l6) (λa q=>by injection q)).bd ?_;intro β7 old ahV hl7 hold;refine (aaj (l6.trans hl7)).bd ?_;intro β8 new ahW hl8 zd;refine (wh H e Ii).bd ?_;rintro β9 z _ hl9 ⟨rfl,hz⟩;refine (wa e ((((hold.mono hl8).mono hl9).append (zd.mono hl9)).append (qk hz _))).bd ?_;intro ahX a a' aak ha;exact .pure (.slice _ _ ha)
  cases hs1 with
  | jB l c=>
   refine (fj H e).bd ?_;rintro gW size _ cP ⟨rfl, -⟩;cases ts[1]? with
   | none=>
    simp only;refine aC.bd (RA:=fF λ_=>True) (.pure ⟨rfl,trivial⟩) ?_;rintro pD z _ gC ⟨rfl, -⟩;cases z with
    | false=>
     rw [if_neg (show¬((false:Bool)=true) by decide),if_neg (show¬((false:Bool)=true) by decide)];refine (uh (rD.mono (cP.trans gC))).bd ?_;rintro qE n _ mP ⟨rfl,Oi⟩;have l4:=(cP.trans gC).trans mP;exact key _ _ l c qE (.jB _ _) (rD.mono l4) (.inl ⟨rfl,rfl⟩) false size n (λ_ a q=>Oi a q)
    | true=>
     rw [if_pos (show (true:Bool)=true from rfl),if_pos (show (true:Bool)=true from rfl)];refine (nU (rD.mono (cP.trans gC))).bd ?_;rintro qE k _ mP ⟨rfl, -⟩;by_cases hk:IntKind.i64.wrap k<0
     ·rw [if_pos hk,if_pos hk];exact (aQ.dP aW).rel
     ·rw [if_neg hk,if_neg hk];refine (jr H e).bd ?_;rintro Gd inf _ xA ⟨rfl, -⟩;by_cases hb:IntKind.i64.wrap k*inf.bytes>2^48
      ·rw [if_pos hb,if_pos hb];exact aQ.rel (aQ.bind λ_=>aQ.dP aW)
      ·rw [if_neg hb,if_neg hb];refine aC.bd (RA:=fF λ_=>True) (.pure ⟨rfl,trivial⟩) ?_;rintro Ij n _ zb ⟨rfl, -⟩;have l4:=(((cP.trans gC).trans mP).trans xA).trans zb;exact key _ _ l c Ij (.jB _ _) (rD.mono l4) (.inl ⟨rfl,rfl⟩) true size n nofun
   | some xT=>
    simp only;refine (fO H xT).bd ?_;rintro aal d _ Oj ⟨rfl, -⟩;have Gg:=cP.trans Oj;refine aC.bd (RA:=fF λ_=>True) (.pure ⟨rfl,trivial⟩) ?_;rintro pD z _ gC ⟨rfl, -⟩;cases z with
    | false=>
     rw [if_neg (show¬((false:Bool)=true) by decide),if_neg (show¬((false:Bool)=true) by decide)];refine (uh (rD.mono (Gg.trans gC))).bd ?_;rintro qE n _ mP ⟨rfl,Oi⟩;have l4:=(Gg.trans gC).trans mP;exact key _ _ l c qE (.jB _ _) (rD.mono l4) (.inl ⟨rfl,rfl⟩) false size n (λ_ a q=>Oi a q)
    | true=>
     rw [if_pos (show (true:Bool)=true from rfl),if_pos (show (true:Bool)=true from rfl)];refine (nU (rD.mono (Gg.trans gC))).bd ?_;rintro qE k _ mP ⟨rfl, -⟩;by_cases hk:IntKind.i64.wrap k<0
     ·rw [if_pos hk,if_pos hk];exact (aQ.dP aW).rel
     ·rw [if_neg hk,if_neg hk];refine (jr H e).bd ?_;rintro Gd inf _ xA ⟨rfl, -⟩;by_cases hb:IntKind.i64.wrap k*inf.bytes>2^48
      ·rw [if_pos hb,if_pos hb];exact aQ.rel (aQ.bind λ_=>aQ.dP aW)
      ·rw [if_neg hb,if_neg hb];refine aC.bd (RA:=fF λ_=>True) (.pure ⟨rfl,trivial⟩) ?_;rintro Ij n _ zb ⟨rfl, -⟩;have l4:=(((Gg.trans gC).trans mP).trans xA).trans zb;exact key _ _ l c Ij (.jB _ _) (rD.mono l4) (.inl ⟨rfl,rfl⟩) true size n nofun
  | vY a a'=>
   refine (fj H e).bd ?_;rintro gW size _ cP ⟨rfl, -⟩;cases ts[1]? with
   | none=>
    simp only;refine aC.bd (RA:=fF λ_=>True) (.pure ⟨rfl,trivial⟩) ?_;rintro pD z _ gC ⟨rfl, -⟩;cases z with
    | false=>
     rw [if_neg (show¬((false:Bool)=true) by decide),if_neg (show¬((false:Bool)=true) by decide)];refine (uh (rD.mono (cP.trans gC))).bd ?_;rintro qE n _ mP ⟨rfl,Oi⟩;have l4:=(cP.trans gC).trans mP;exact key _ _ 0 0 qE (.vY a a') (rD.mono l4) (.inr (.inl ⟨_,_,rfl,rfl,rfl,rfl⟩)) false size n (λ_ a q=>Oi a q)
    | true=>
     rw [if_pos (show (true:Bool)=true from rfl),if_pos (show (true:Bool)=true from rfl)];refine (nU (rD.mono (cP.trans gC))).bd ?_;rintro qE k _ mP ⟨rfl, -⟩;by_cases hk:IntKind.i64.wrap k<0
     ·rw [if_pos hk,if_pos hk];exact (aQ.dP aW).rel
     ·rw [if_neg hk,if_neg hk];refine (jr H e).bd ?_;rintro Gd inf _ xA ⟨rfl, -⟩;by_cases hb:IntKind.i64.wrap k*inf.bytes>2^48
      ·rw [if_pos hb,if_pos hb];exact aQ.rel (aQ.bind λ_=>aQ.dP aW)
      ·rw [if_neg hb,if_neg hb];refine aC.bd (RA:=fF λ_=>True) (.pure ⟨rfl,trivial⟩) ?_;rintro Ij n _ zb ⟨rfl, -⟩;have l4:=(((cP.trans gC).trans mP).trans xA).trans zb;exact key _ _ 0 0 Ij (.vY a a') (rD.mono l4) (.inr (.inl ⟨_,_,rfl,rfl,rfl,rfl⟩)) true size n nofun
   | some xT=>
    simp only;refine (fO H xT).bd ?_;rintro aal d _ Oj ⟨rfl, -⟩;have Gg:=cP.trans Oj;refine aC.bd (RA:=fF λ_=>True) (.pure ⟨rfl,trivial⟩) ?_;rintro pD z _ gC ⟨rfl, -⟩;cases z with
    | false=>
     rw [if_neg (show¬((false:Bool)=true) by decide),if_neg (show¬((false:Bool)=true) by decide)];refine (uh (rD.mono (Gg.trans gC))).bd ?_;rintro qE n _ mP ⟨rfl,Oi⟩;have l4:=(Gg.trans gC).trans mP;exact key _ _ 0 0 qE (.vY a a') (rD.mono l4) (.inr (.inl ⟨_,_,rfl,rfl,rfl,rfl⟩)) false size n (λ_ a q=>Oi a q)
    | true=>
     rw [if_pos (show (true:Bool)=true from rfl),if_pos (show (true:Bool)=true from rfl)];refine (nU (rD.mono (Gg.trans gC))).bd ?_;rintro qE k _ mP ⟨rfl, -⟩;by_cases hk:IntKind.i64.wrap k<0
     ·rw [if_pos hk,if_pos hk];exact (aQ.dP aW).rel
     ·rw [if_neg hk,if_neg hk];refine (jr H e).bd ?_;rintro Gd inf _ xA ⟨rfl, -⟩;by_cases hb:IntKind.i64.wrap k*inf.bytes>2^48
      ·rw [if_pos hb,if_pos hb];exact aQ.rel (aQ.bind λ_=>aQ.dP aW)
      ·rw [if_neg hb,if_neg hb];refine aC.bd (RA:=fF λ_=>True) (.pure ⟨rfl,trivial⟩) ?_;rintro Ij n _ zb ⟨rfl, -⟩;have l4:=(((Gg.trans gC).trans mP).trans xA).trans zb;exact key _ _ 0 0 Ij (.vY a a') (rD.mono l4) (.inr (.inl ⟨_,_,rfl,rfl,rfl,rfl⟩)) true size n nofun
  | slice l c ha=>
   refine (fj H e).bd ?_;rintro gW size _ cP ⟨rfl, -⟩;cases ts[1]? with
   | none=>
    simp only;refine aC.bd (RA:=fF λ_=>True) (.pure ⟨rfl,trivial⟩) ?_;rintro pD z _ gC ⟨rfl, -⟩;cases z with
    | false=>
     rw [if_neg (show¬((false:Bool)=true) by decide),if_neg (show¬((false:Bool)=true) by decide)];refine (uh (rD.mono (cP.trans gC))).bd ?_;rintro qE n _ mP ⟨rfl,Oi⟩;have l4:=(cP.trans gC).trans mP;exact key _ _ l c qE (.slice _ _ (ha.mono l4)) (rD.mono l4) (.inr (.inr ⟨_,_,rfl,rfl,ha.mono l4⟩)) false size n (λ_ a q=>Oi a q)
    | true=>
     rw [if_pos (show (true:Bool)=true from rfl),if_pos (show (true:Bool)=true from rfl)];refine (nU (rD.mono (cP.trans gC))).bd ?_;rintro qE k _ mP ⟨rfl, -⟩;by_cases hk:IntKind.i64.wrap k<0
     ·rw [if_pos hk,if_pos hk];exact (aQ.dP aW).rel
     ·rw [if_neg hk,if_neg hk];refine (jr H e).bd ?_;rintro Gd inf _ xA ⟨rfl, -⟩;by_cases hb:IntKind.i64.wrap k*inf.bytes>2^48
      ·rw [if_pos hb,if_pos hb];exact aQ.rel (aQ.bind λ_=>aQ.dP aW)
      ·rw [if_neg hb,if_neg hb];refine aC.bd (RA:=fF λ_=>True) (.pure ⟨rfl,trivial⟩) ?_;rintro Ij n _ zb ⟨rfl, -⟩;have l4:=(((cP.trans gC).trans mP).trans xA).trans zb;exact key _ _ l c Ij (.slice _ _ (ha.mono l4)) (rD.mono l4) (.inr (.inr ⟨_,_,rfl,rfl,ha.mono l4⟩)) true size n nofun
   | some xT=>
    simp only;refine (fO H xT).bd ?_;rintro aal d _ Oj ⟨rfl, -⟩;have Gg:=cP.trans Oj;refine aC.bd (RA:=fF λ_=>True) (.pure ⟨rfl,trivial⟩) ?_;rintro pD z _ gC ⟨rfl, -⟩;cases z with
    | false=>
     rw [if_neg (show¬((false:Bool)=true) by decide),if_neg (show¬((false:Bool)=true) by decide)];refine (uh (rD.mono (Gg.trans gC))).bd ?_;rintro qE n _ mP ⟨rfl,Oi⟩;have l4:=(Gg.trans gC).trans mP;exact key _ _ l c qE (.slice _ _ (ha.mono l4)) (rD.mono l4) (.inr (.inr ⟨_,_,rfl,rfl,ha.mono l4⟩)) false size n (λ_ a q=>Oi a q)
    | true=>
     rw [if_pos (show (true:Bool)=true from rfl),if_pos (show (true:Bool)=true from rfl)];refine (nU (rD.mono (Gg.trans gC))).bd ?_;rintro qE k _ mP ⟨rfl, -⟩;by_cases hk:IntKind.i64.wrap k<0
     ·rw [if_pos hk,if_pos hk];exact (aQ.dP aW).rel
     ·rw [if_neg hk,if_neg hk];refine (jr H e).bd ?_;rintro Gd inf _ xA ⟨rfl, -⟩;by_cases hb:IntKind.i64.wrap k*inf.bytes>2^48
      ·rw [if_pos hb,if_pos hb];exact aQ.rel (aQ.bind λ_=>aQ.dP aW)
      ·rw [if_neg hb,if_neg hb];refine aC.bd (RA:=fF λ_=>True) (.pure ⟨rfl,trivial⟩) ?_;rintro Ij n _ zb ⟨rfl, -⟩;have l4:=(((Gg.trans gC).trans mP).trans xA).trans zb;exact key _ _ l c Ij (.slice _ _ (ha.mono l4)) (rD.mono l4) (.inr (.inr ⟨_,_,rfl,rfl,ha.mono l4⟩)) true size n nofun
  | _=>exact ao
 all_goals exact ao
end
end Go.Cx
namespace Go.Cx
open Go
variable[aV][aJ][aY]
section
variable{L C:Program}{β:Bj}(H:fW L C)
include H
inductive LV(L:Program):TypeId->Prop
 | bool {t:TypeId}:L.underlying t=some .bool->LV L t
 | int {t:TypeId} {k:IntKind}:L.underlying t=some (.int k)->LV L t
 | string {t:TypeId}:L.underlying t=some .string->LV L t
 | slice {t e:TypeId}:L.underlying t=some (.slice e)->LV L t
 | struct {t:TypeId} {fs:Array Field}:L.underlying t=some (.struct fs)->L.stoodInHeld t=false->(∀f∈fs,LV L f.type)->LV L t
omit H in
theorem Ol{α σ:Type}{f g:α->σ->Sem (ForInStep σ)}: ∀(l:List α),(∀x∈l, ∀(bR:Bj) (s:σ),Le β bR->aC L C (fF λ_=>True) bR (f x s) (g x s))-> ∀(bR:Bj) (s:σ),Le β bR->aC L C (fF λ_=>True) bR (forIn l s f) (forIn l s g)
 | [],h,bR,s,hl=>by simp only [List.forIn_nil];exact .pure ⟨rfl,trivial⟩
 | x::l,h,bR,s,hl=>by
  simp only [List.forIn_cons];refine (h x (by simp) bR s hl).bd ?_;rintro gW r _ cP ⟨rfl, -⟩;cases r with
  | done s=>exact .pure ⟨rfl,trivial⟩
  | yield s=>exact Ol l (λy hy=>h y (by simp [hy])) gW s (hl.trans cP)
omit H in
theorem Xc{α σ:Type}{f g:α->σ->Sem (ForInStep σ)}(xs:Array α)(h: ∀x∈xs, ∀(bR:Bj) (s:σ),Le β bR->aC L C (fF λ_=>True) bR (f x s) (g x s))(s:σ):aC L C (fF λ_=>True) β (forIn xs s f) (forIn xs s g):=by
 rw [←Array.forIn_toList, ←Array.forIn_toList];exact Ol xs.toList (λx hx=>h x (by simpa using hx)) β s (Le.refl _)
omit [aJ] [aY] in
theorem LX(t:TypeId)(a b:Addr):aQ L (do
  let (a,b):=((←behindNumber a).1,(←behindNumber b).1)
  if a.block==b.block&&a.block<(←program).globals.size then return (←byteOf a)==(←byteOf b)
  let .named "sync.copyChecker" _:=(←typeInfo t).desc | unsupported .addressObserved
  if a==b then pure true else unsupported .addressObserved:Sem Bool):=by
 refine aQ.bind λx=>aQ.bind λy=>aQ.prog ?_;simp only [H.gl,qar,decide_false,Bool.and_false,qa7,if_false];refine aQ.info λi hi=> ?_;split
 ·rename_i n hd;exact absurd hd (H.cc t i _ hi)
 ·exact aQ.halt
theorem xK: ∀(d:Nat) {t:TypeId},LV L t-> ∀{β:Bj} {v v' u u':Value},ay β v v'->ay β u u'->aC L C (fF λ_=>True) β (Op.equalIn d t v u) (Op.equalIn d t v' u')
 | 0,t,_,β,v,v',u,u',hv,hu=>ao
 | d+1,t,ht,β,v,v',u,u',hv,hu=>by
  unfold Op.equalIn;refine (fO H t).bd ?_;rintro qA D _ uI ⟨rfl,hD⟩;have Om:=hv.mono uI;have rD:=hu.mono uI;cases ht with
  | bool h=>
   rw [h] at hD;cases hD;cases Om <;> cases rD <;> first | exact .pure ⟨rfl,trivial⟩ | exact ao
  | int h=>
   rw [h] at hD;cases hD;cases Om with
   | int k n=>
    cases rD with
    | int k2 m=>
     simp only;split
     ·exact .pure ⟨rfl,trivial⟩
     ·exact ao
    | ptr h=>
     by_cases hn:n=0
     ·subst hn;exact .pure ⟨rfl,trivial⟩
     ·refine aQ.rel ?_;split <;> first | exact aQ.halt | (exfalso;simp_all)
    | _=>exact ao
   | ptr h=>
    cases rD with
    | int k n=>
     by_cases hn:n=0
     ·subst hn;exact .pure ⟨rfl,trivial⟩
     ·refine aQ.rel ?_;split <;> first | exact aQ.halt | (exfalso;simp_all)
    | ptr h=>exact (LX H t _ _).rel
    | _=>exact ao
   | _=>cases rD <;> exact ao
  | string h=>
   rw [h] at hD;cases hD;cases Om <;> cases rD <;> first | exact .pure ⟨rfl,trivial⟩ | exact ao
  | slice h=>
   rw [h] at hD;cases hD;cases Om <;> cases rD <;> first | exact .pure ⟨rfl,trivial⟩ | exact ao
  | struct h h2 h3=>
   rw [h] at hD;cases hD;cases Om with
   | agg a1 a2=>
    cases rD with
    | agg b1 b2=>
     simp only;refine .program ?_;show aC L C _ qA (if L.stoodInHeld t=true then _ else _) (if C.stoodInHeld t=true then _ else _);rw [H.sih,h2];rw [if_neg (by decide),if_neg (by decide)];refine (Xc _ (λf hf gW s cP=> ?_) _).bd ?_
     ·by_cases hn:f.name≠ "_"
      ·rw [if_pos hn,if_pos hn];refine (II H f.type (aG.mono cP ⟨a1,a2⟩) _).bd ?_;intro pD p p' gC hp;refine (II H f.type (aG.mono (cP.trans gC) ⟨b1,b2⟩) _).bd ?_;intro qE q q' mP hq;refine (xK d (h3 f hf) (hp.mono mP) hq).bd ?_;rintro Gd b _ xA ⟨rfl, -⟩;split <;> exact .pure ⟨rfl,trivial⟩
      ·rw [if_neg hn,if_neg hn];exact .pure ⟨rfl,trivial⟩
     ·rintro gW r _ cP ⟨rfl, -⟩;split <;> exact .pure ⟨rfl,trivial⟩
    | _=>exact ao
   | _=>cases rD <;> exact ao
end
end Go.Cx
namespace Go.Cx
open Go
variable[aV][aJ][aY]
section
variable{L C:Program}{β:Bj}(H:fW L C)
include H
omit H in
theorem wj{a b:Nat}(h:β a b):aC L C (fF λ_=>True) β (shape a) (shape b):= .shape h λ_=> .pure ⟨rfl,trivial⟩
omit H in
theorem z7{a b:Nat}(h:β a b):aC L C (λβ (x x':Option (Addr×Bool))=>(x=none/\x'=none)\/ ∃d d' z,x=some (d,z)/\x'=some (d',z)/\iE β d d') β (numberAt a) (numberAt b):=by
 unfold numberAt;refine (wj h).bd ?_;rintro gW s _ cP ⟨rfl, -⟩;split
 ·exact .pure (.inl ⟨rfl,rfl⟩)
 ·refine .getObj (cP _ _ h) λo o' ho=> ?_;cases ho with
  | num z hd=>exact .pure (.inr ⟨_,_,z,rfl,rfl,hd⟩)
  | BT z=>cases z <;> exact .pure (.inl ⟨rfl,rfl⟩)
  | _=>exact .pure (.inl ⟨rfl,rfl⟩)
omit H in
theorem Gh{a b:Nat}(h:β a b):aC L C (λ_ (x x':Option (Addr×TypeId))=>x=none/\x'=none) β (viewAt a) (viewAt b):=by
 unfold viewAt;refine (wj h).bd ?_;rintro gW s _ cP ⟨rfl, -⟩;split
 ·exact .pure ⟨rfl,rfl⟩
 ·refine .getObj (cP _ _ h) λo o' ho=> ?_;cases ho with
  | BT z=>cases z <;> exact .pure ⟨rfl,rfl⟩
  | _=>exact .pure ⟨rfl,rfl⟩
omit H in
theorem Gi{a a':Addr}(h:iE β a a'):aC L C (λβ (x x':Addr×Bool)=>x.2=x'.2/\iE β x.1 x'.1) β (behindNumber a) (behindNumber a'):=by
 unfold behindNumber;refine (z7 h.block).bd ?_;rintro gW s s' cP (⟨rfl,rfl⟩ | ⟨d,d',z,rfl,rfl,hd⟩)
 ·exact .pure ⟨rfl,h.mono cP⟩
 ·exact .pure ⟨rfl,hd⟩
omit H in
def uAdd(ptr:Option Addr)(len_:Value):Sem Value:=do
 let n←asInt len_
 if n=0 then
  let some a:=ptr | unsupported (.unsafePointer "Add: from nil")
  if (←viewAt a.block).isSome then unsupported (.unsafePointer "Add: at a place where no cell lies")
  return .pointer ptr
 if n<0 then unsupported (.unsafePointer "Add: a move by a count below zero")
 let some a:=ptr | unsupported (.unsafePointer "Add")
 let some (e,cells)←shape a.block | unsupported (.unsafePointer "Add")
 let p←program
 match cellAtBytes p p.depth e (cells / p.cellsOf e) a.off n with
 | some off=>pure (.pointer (some { a with off }))
 | none=>unsupported (.unsafePointer "Add")
omit H in
omit [aV] [aJ] [aY] in
theorem Ks(t:TypeId)(a:Option Addr)(y:Value):Builtin.unsafeAdd_ #[] t #[.pointer a,y]=uAdd a y:=rfl
def Vy(β:Bj)(v v':Value):Prop:= ∃a a',v= .pointer (some a)/\v'= .pointer (some a')/\iE β a a'
theorem wm(t:TypeId){a a':Option Addr}{y y':Value}(h:(a=none/\a'=none)\/ ∃d d',a=some d/\a'=some d'/\iE β d d')(hy:ay β y y'):
  aC L C Vy β (Builtin.unsafeAdd_ #[] t #[.pointer a,y]) (Builtin.unsafeAdd_ #[] t #[.pointer a',y']):=by
 rw [Ks,Ks];unfold uAdd;refine (nU hy).bd ?_;rintro gW n _ cP ⟨rfl, -⟩;rcases h with ⟨rfl,rfl⟩ | ⟨d,d',rfl,rfl,hd⟩
 ·refine aQ.rel ?_;by_cases hn:n=0
  ·simp only [if_pos hn];exact aQ.dP aQ.halt
  ·by_cases IJ:n<0
   ·simp only [if_neg hn,if_pos IJ];exact aQ.dP aQ.halt
   ·simp only [if_neg hn,if_neg IJ];exact aQ.halt
 ·simp only;by_cases hn:n=0
  ·rw [if_pos hn,if_pos hn];refine (Gh (hd.mono cP).block).bd ?_;rintro pD _ _ gC ⟨rfl,rfl⟩;exact .pure ⟨_,_,rfl,rfl,(hd.mono cP).mono gC⟩
  ·rw [if_neg hn,if_neg hn];by_cases IJ:n<0
   ·rw [if_pos IJ,if_pos IJ];exact (aQ.dP aQ.halt).rel
   ·rw [if_neg IJ,if_neg IJ];refine (wj (hd.mono cP).block).bd ?_;rintro pD s _ gC ⟨rfl, -⟩;cases s with
    | none=>exact ao
    | some s=>
     obtain ⟨e,cells⟩:=s;refine .program ?_;have hd3:=(hd.mono cP).mono gC;show aC L C Vy pD (match cellAtBytes L L.depth e (cells / L.cellsOf e) d.off n with | some off=>pure (.pointer (some { d with off })) | none=>unsupported (.unsafePointer "Add")) (match cellAtBytes C C.depth e (cells / C.cellsOf e) d'.off n with | some off=>pure (.pointer (some { d' with off })) | none=>unsupported (.unsafePointer "Add"));rw [H.cab,hd3.off];cases cellAtBytes L L.depth e (cells / L.cellsOf e) d.off n with
     | none=>exact ao
     | some off=>exact .pure ⟨_,_,rfl,rfl,hd3.block,rfl,hd3.spot⟩
theorem tu(t:TypeId){a a':Option Addr}{y y':Value}(h:(a=none/\a'=none)\/ ∃d d',a=some d/\a'=some d'/\iE β d d')(hy:ay β y y'):
 aC L C ay β (Builtin.unsafeAdd_ #[] t #[.pointer a,y]) (Builtin.unsafeAdd_ #[] t #[.pointer a',y']):=(wm H t h hy).imp λbR v v' _ ⟨a,a',e1,e2,h⟩=>by subst e1;subst e2;exact .ptr h
omit H in
theorem IK{a a':Addr}(h:iE β a a')(z:Bool):aC L C ay β (asNumber a z) (asNumber a' z):=by
 unfold asNumber newObj;exact .new (.num z h) λγ r r' hl hr=> .pure (.ptr ⟨hr,rfl,rfl⟩)
theorem kL(t:TypeId){x x' y y':Value}(hx:ay β x x')(hy:ay β y y'):aC L C ay β (movedNumber t x y) (movedNumber t x' y'):=by
 unfold movedNumber;refine (fO H t).bd ?_;rintro gW d _ cP ⟨rfl, -⟩;have tg:=hx.mono cP;have hy2:=hy.mono cP;have key:aC L C ay gW (do
   let .pointer (some n):=x | Builtin.unsafeAdd_ #[] t #[x,y]
   let (a,lost)←behindNumber n
   match←Builtin.unsafeAdd_ #[] t #[.pointer (some a),y] with
   | .pointer (some b)=>asNumber b lost
   | v=>pure v:Sem Value) (do
   let .pointer (some n):=x' | Builtin.unsafeAdd_ #[] t #[x',y']
   let (a,lost)←behindNumber n
   match←Builtin.unsafeAdd_ #[] t #[.pointer (some a),y'] with
   | .pointer (some b)=>asNumber b lost
   | v=>pure v):=by
  cases tg with
  | ptr h=>
   refine (Gi h).bd ?_;rintro pD ⟨a,z⟩ ⟨a',z'⟩ gC ⟨h1,h2⟩;simp only at h1 h2;subst h1;refine (wm H t (.inr ⟨a,a',rfl,rfl,h2⟩) (hy2.mono gC)).bd ?_;rintro qE v v' mP ⟨b,b',rfl,rfl,h⟩;exact IK h _
  | nQ=>exact tu H t (.inl ⟨rfl,rfl⟩) hy2
  | _=>exact ao
 cases d
 case unsafePointer=>exact (aQ.dP aQ.halt).rel
 all_goals exact key
theorem z8(t:TypeId){x x' y y':Value}(hx:ay β x x')(hp: ∃a,x= .pointer a)(hy:ay β y y'):aC L C ay β (movedPointer t x y) (movedPointer t x' y'):=by
 unfold movedPointer;cases hx with
 | ptr h=>
  refine (z7 h.block).bd ?_;rintro gW s s' cP (⟨rfl,rfl⟩ | ⟨d,d',z,rfl,rfl,hd⟩)
  ·exact tu H t (.inr ⟨_,_,rfl,rfl,h.mono cP⟩) (hy.mono cP)
  ·exact (aQ.dP aQ.halt).rel
 | nQ=>exact tu H t (.inl ⟨rfl,rfl⟩) hy
 | _=>obtain ⟨a,ha⟩:=hp;cases ha
omit [aJ] [aY] in
theorem Gj(a b:Addr):aQ L (Op.twoPlaces a b):=by
 unfold Op.twoPlaces;refine aQ.prog ?_;simp only [H.gl,qaa,ge_iff_le,decide_true,Bool.or_true,if_true];exact aQ.dP aQ.halt
end
end Go.Cx
namespace Go.Cx
open Go
variable[aV][aJ][aY]
section
variable{L C:Program}{β:Bj}(H:fW L C)
include H
theorem Oq{a a':Addr}(h:iE β a a'):aC L C (fF λ_=>True) β (byteOf a) (byteOf a'):=by
 unfold byteOf;rw [h.spot];cases a.spot with
 | some s=>exact .pure ⟨rfl,trivial⟩
 | none=>
  refine .program ?_;unfold noView;simp only [bind_assoc];refine (Gh h.block).bd ?_;rintro gW _ _ cP ⟨rfl,rfl⟩;simp only [qbl,qa7,if_false,pure_bind];refine (wj (h.mono cP).block).bd ?_;rintro pD s _ gC ⟨rfl, -⟩;cases s with
  | none=>exact ao
  | some s=>
   obtain ⟨e,n⟩:=s;obtain ⟨e1,e2,e3⟩:=H.bof e (a.off % L.cellsOf e);simp only [e1,h.off,e2,e3];split
   ·exact .pure ⟨rfl,trivial⟩
   ·cases byteOfCell L L.depth e (a.off % L.cellsOf e) with
    | none=>exact ao
    | some b=>exact .pure ⟨rfl,trivial⟩
theorem LY(k:IntKind)(n:Int){a a':Addr}(h:iE β a a'):aC L C ay β (Op.addrMod k a n) (Op.addrMod k a' n):=by
 unfold Op.addrMod;refine (wj h.block).bd ?_;rintro gW s _ cP ⟨rfl, -⟩;cases s with
 | none=>exact ao
 | some s=>
  obtain ⟨e,m⟩:=s;simp only;refine (jr H e).bd ?_;rintro pD i _ gC ⟨rfl, -⟩;split
  ·exact (aQ.dP aQ.halt).rel
  ·refine (Oq H ((h.mono cP).mono gC)).bd ?_;rintro qE b _ mP ⟨rfl, -⟩;exact .pure (.int _ _)
omit H in
theorem IL(op:BinOp)(x y:ByteArray):aC L C ay β (Op.stringOp op x y) (Op.stringOp op x y):=by
 refine tl ?_;unfold Op.stringOp;simp only;split
 ·split
  ·exact .inr aQ.halt
  ·exact .inl ⟨_,rfl, .string _⟩
 all_goals first | exact .inl ⟨_,rfl, .bool _⟩ | exact .inr aQ.halt
omit H in
omit [aV] [aJ] [aY] in
theorem Ot(d:Nat)(t:TypeId){x y:Value}(h:x= .tuple #[]\/y= .tuple #[]):aQ L (Op.equalIn d t x y):=by
 cases d with
 | zero=>exact aQ.halt
 | succ d=>
  unfold Op.equalIn;refine aQ.bind λD=> ?_;rcases h with rfl | rfl
  ·cases D <;> first | exact aQ.halt | (cases y <;> first | exact aQ.halt | (rename_i a;cases a <;> exact aQ.halt) | (rename_i a l c;cases a <;> exact aQ.halt))
  ·cases D <;> first | exact aQ.halt | (cases x <;> first | exact aQ.halt | (rename_i a;cases a <;> exact aQ.halt) | (rename_i a l c;cases a <;> exact aQ.halt))
omit H in
omit [aV] [aJ] [aY] in
theorem Ou(op:BinOp)(t:TypeId){x y:Value}(h:x= .tuple #[]\/y= .tuple #[]):aQ L (binOp op t x y):=by
 have he:aQ L (Op.equal t x y):=Ot _ t h;unfold binOp;rcases h with rfl | rfl
 ·cases op <;> cases y <;> first | exact aQ.halt | exact aQ.dP he | (rename_i a;cases a <;> exact aQ.halt)
 ·cases op <;> cases x <;> first | exact aQ.halt | exact aQ.dP he | (rename_i a;cases a <;> exact aQ.halt)
theorem SG(op:BinOp)(t:TypeId)(ht:op= .eql\/op= .neq->LV L t){x x' y y':Value}(hx:ay β x x')(hy:ay β y y'):aC L C ay β (binOp op t x y) (binOp op t x' y'):=by
 have B5:LV L t->aC L C ay β (do pure (.bool (←Op.equal t x y)):Sem Value) (do pure (.bool (←Op.equal t x' y'))):=λh=>by
  refine (xK H _ h hx hy).bd ?_;rintro gW b _ cP ⟨rfl, -⟩;exact .pure (.bool _)
 have B6:LV L t->aC L C ay β (do pure (.bool (!(←Op.equal t x y))):Sem Value) (do pure (.bool (!(←Op.equal t x' y')))):=λh=>by
  refine (xK H _ h hx hy).bd ?_;rintro gW b _ cP ⟨rfl, -⟩;exact .pure (.bool _)
 have hii: ∀k a k' b,aC L C ay β (binOp op t (.int k a) (.int k' b)) (binOp op t (.int k a) (.int k' b)):=by
  intro k a k' b;unfold binOp;by_cases hk:k≠k'
  ·cases op
   case shl=>exact zD _ _ _ _ _
   case shr=>exact zD _ _ _ _ _
   all_goals (simp only [hk,ne_eq,not_false_eq_true,if_true];exact ao)
  ·cases op
   case shl=>exact zD _ _ _ _ _
   case shr=>exact zD _ _ _ _ _
   all_goals (simp only [hk,if_false];first | exact z6 _ _ _ _ | exact Od _ _ _ _ | exact CU _ _ _ _ | exact Oe _ _ _)
 have hss: ∀a b,aC L C ay β (binOp op t (.string a) (.string b)) (binOp op t (.string a) (.string b)):=by
  intro a b;unfold binOp;cases op <;> exact IL _ _ _
 have Xe: ∀{a a':Addr} (k:IntKind) (n:Int),iE β a a'->aC L C ay β (do Op.addrMod k (←behindNumber a).1 n:Sem Value) (do Op.addrMod k (←behindNumber a').1 n):=λk n h=>by
  refine (Gi h).bd ?_;rintro gW x x' cP ⟨h1,h2⟩;exact LY H k n h2
 have aam: ∀{x x' y y':Value},ay β x x'->(∃a,x= .pointer a)->ay β y y'->aC L C ay β (do if (←underlying t) matches .unsafePointer then movedPointer t x y else movedNumber t x y:Sem Value) (do if (←underlying t) matches .unsafePointer then movedPointer t x' y' else movedNumber t x' y'):=λhx hp hy=>by
  refine (fO H t).bd ?_;rintro gW d _ cP ⟨rfl, -⟩;cases d
  case unsafePointer=>exact z8 H t (hx.mono cP) hp (hy.mono cP)
  all_goals exact kL H t (hx.mono cP) (hy.mono cP)
 by_cases hh:x= .tuple #[]\/y= .tuple #[]
 ·exact (Ou op t hh).rel
 have adJ: ∀a b,aQ L (do Op.addrSub .u64 (←behindNumber a).1 (←behindNumber b).1:Sem Value):=λa b=>aQ.bind λ_=>aQ.bind λ_=>aQ.dP (Gj H _ _);have adK: ∀o a b,aQ L (do Op.addrCmp o (←behindNumber a).1 (←behindNumber b).1:Sem Value):=λo a b=>aQ.bind λ_=>aQ.bind λ_=>aQ.dP (Gj H _ _);cases hx with
 | int k a=>
  cases hy with
  | int k' b=>exact hii k a k' b
  | ptr h=>
   unfold binOp;cases op
   case eql=>exact B5 (ht (.inl rfl))
   case neq=>exact B6 (ht (.inr rfl))
   case add=>exact kL H t (.ptr h) (.int _ _)
   case and=>exact Xe _ _ h
   all_goals exact ao
  | nQ=>
   unfold binOp;cases op
   case eql=>exact B5 (ht (.inl rfl))
   case neq=>exact B6 (ht (.inr rfl))
   case add=>exact kL H t .nQ (.int _ _)
   all_goals exact ao
  | hole _ _=>exact (hh (.inr rfl)).elim
  | _=>
   unfold binOp;cases op
   case eql=>exact B5 (ht (.inl rfl))
   case neq=>exact B6 (ht (.inr rfl))
   all_goals exact ao
 | string a=>
  cases hy with
  | string b=>exact hss a b
  | hole _ _=>exact (hh (.inr rfl)).elim
  | _=>
   unfold binOp;cases op
   case eql=>exact B5 (ht (.inl rfl))
   case neq=>exact B6 (ht (.inr rfl))
   all_goals exact ao
 | ptr h=>
  cases hy with
  | int k n=>
   unfold binOp;cases op
   case eql=>exact B5 (ht (.inl rfl))
   case neq=>exact B6 (ht (.inr rfl))
   case add=>exact aam (.ptr h) ⟨_,rfl⟩ (.int _ _)
   case sub=>exact kL H t (.ptr h) (.int _ _)
   case rem=>exact Xe _ _ h
   case and=>exact Xe _ _ h
   all_goals exact ao
  | ptr h'=>
   unfold binOp;cases op
   case eql=>exact B5 (ht (.inl rfl))
   case neq=>exact B6 (ht (.inr rfl))
   case sub=>exact (adJ _ _).rel
   all_goals first | exact ao | exact (adK _ _ _).rel
  | hole _ _=>exact (hh (.inr rfl)).elim
  | _=>
   unfold binOp;cases op
   case eql=>exact B5 (ht (.inl rfl))
   case neq=>exact B6 (ht (.inr rfl))
   all_goals exact ao
 | nQ=>
  cases hy with
  | int k n=>
   unfold binOp;cases op
   case eql=>exact B5 (ht (.inl rfl))
   case neq=>exact B6 (ht (.inr rfl))
   case add=>exact aam .nQ ⟨_,rfl⟩ (.int _ _)
   case sub=>exact kL H t .nQ (.int _ _)
   all_goals exact ao
  | hole _ _=>exact (hh (.inr rfl)).elim
  | _=>
   unfold binOp;cases op
   case eql=>exact B5 (ht (.inl rfl))
   case neq=>exact B6 (ht (.inr rfl))
   all_goals exact ao
 | hole _ _=>exact (hh (.inl rfl)).elim
 | _=>
  cases hy
  case hole=>exact (hh (.inr rfl)).elim
  all_goals
   unfold binOp;cases op
   case eql=>exact B5 (ht (.inl rfl))
   case neq=>exact B6 (ht (.inr rfl))
   all_goals exact ao
end
end Go.Cx
namespace Go.Cx
open Go
variable[aV][aJ][aY]
inductive LZ(β:Bj):Target->Target->Prop
 | fn {f f':Fn} {c c':Array Value}:B4 β f f'->aG β c c'->LZ β (.fn f c) (.fn f' c')
 | method (n:String):LZ β (.fn (.method n) #[]) (.fn (.method n) #[])
 | builtin (b:Builtin) (ts:Array TypeId) (t:TypeId) (cs:Array Bool):LZ β (.builtin b ts t cs) (.builtin b ts t cs)
 | nil:LZ β .nil .nil
structure aan(β:Bj)(d d':Deferred):Prop where
 target:LZ β d.target d'.target
 args:aG β d.args d'.args
inductive lN(β:Bj):Next->Next->Prop
 | value {v v':Value}:ay β v v'->lN β (.value v) (.value v')
 | skip:lN β .skip .skip
 | enter (f:FuncId) {x x':Array Value}:aV.ok f->aV.sQ f->aG β x x'->lN β (.enter f x) (.enter f x')
 | round {l l':Nat} (f:FuncId) {x x':Array Value} (a b:Code):aJ.code a->aJ.code b->β l l'->aG β x x'->lN β (.round l f x a b) (.round l' f x' a b)
section
variable{L C:Program}{β:Bj}(H:fW L C)
include H
theorem Aa(f:FuncId)(qF:aV.ok f){x x':Array Value}(hx:aG β x x'):aC L C lN β (callFunc f x) (callFunc f x'):=by
 cases hf:L.funcs[f]? with
 | none=>
  refine aQ.rel ?_;unfold callFunc;refine aQ.prog ?_;rw [hf];exact aQ.halt
 | some fn=>
  by_cases hb:fn.body.isNone=true
  ·exact aQ.rel (H.nob f fn hf hb x)
  ·simp only [qbh] at hb;obtain ⟨h0,h1,jd,h2,h3,h4⟩:=H.fns f fn hf hb;unfold callFunc;refine .program ?_;show aC L C lN β (match L.funcs[f]? with | none=>_ | some fn=>_) (match C.funcs[f]? with | none=>_ | some fn=>_);rw [hf,h2];simp only [h1,h4,hb,h3,qa7,if_false];exact .pure (.enter f qF h0 hx)
omit H in
omit [aV] [aJ] [aY] in
theorem L0(ts:Array TypeId)(t:TypeId)(a b:ByteArray):aQ L (Builtin.ssaWrapNilChk_ ts t #[.pointer none, .string a, .string b]):=by
 change aQ L (_ >>= _);refine aQ.bind λn=> ?_;by_cases hn:(n==1)=true
 ·simp only [hn,if_true];exact aQ.dP aW
 ·simp only [hn,if_false];cases ts[0]? with
  | none=>exact aQ.halt
  | some pt=>
   refine aQ.bind λd=> ?_;cases d
   case pointer t=>
    refine aQ.bind λi=> ?_;split
    ·split
     ·split
      ·exact aW
      ·exact aQ.halt
     ·exact aQ.halt
    ·exact aQ.halt
   all_goals exact aQ.halt
theorem Ee(t:TypeId){v v':Value}(hv:ay β v v')(p:Bool)(w:Option String):aC L C ay β (receiverAt t (.val v) p w) (receiverAt t (.val v') p w):=by
 unfold receiverAt;refine (fO H t).bd ?_;rintro gW d _ cP ⟨rfl, -⟩;have vq:=hv.mono cP;cases d
 case pointer e=>
  cases p with
  | true=>exact .pure vq
  | false=>
   simp only [Place.get];refine aC.bd (RA:=ay) (.pure vq) ?_;intro pD u u' gC hu;cases w with
   | none=>
    refine aC.bd (RA:=ay) (.pure hu) ?_;intro qE q q' mP hq;refine (wb hq).bd ?_;intro Gd a a' xA ha;exact uf H e ha
   | some name=>
    refine aC.bd (RA:=ay) (s:=Builtin.ssaWrapNilChk_ #[t] t #[u,strVal "",strVal name]) (t:=Builtin.ssaWrapNilChk_ #[t] t #[u',strVal "",strVal name]) ?_ ?_
    ·cases hu with
     | ptr h=>exact .pure (.ptr h)
     | nQ=>exact (L0 _ _ _ _).rel
     | _=>exact ao
    ·intro qE q q' mP hq;refine (wb hq).bd ?_;intro Gd a a' xA ha;exact uf H e ha
 all_goals (cases p <;> first | exact ao | exact .pure vq)
theorem Gk: ∀(fuel:Nat) (t:TypeId) {β:Bj} {v v':Value} (name:String),ay β v v'->aC L C (λβ (x x':FuncId×Value)=>x.1=x'.1/\aV.ok x.1/\ay β x.2 x'.2) β (method fuel t v name) (method fuel t v' name)
 | 0,t,β,v,v',name,hv=>ao
 | fuel+1,t,β,v,v',name,hv=>by
  unfold method;refine (jr H t).bd ?_;rintro gW i _ cP ⟨rfl,hi⟩;cases hm:i.methods.find? (·.name==name) with
  | none=>exact ao
  | some m=>
   obtain ⟨hp,xB⟩:=H.mp t i m hi (Array.mem_of_find?_eq_some hm);simp only [hp,follow,pure_bind];cases hmf:m.func with
   | none=>
    simp only;refine aC.bd (RA:=ay) (.pure (hv.mono cP)) ?_;intro pD u u' gC hu;cases hu with
    | iface t' h=>exact Gk fuel t' name h
    | gZ=>exact aW.rel
    | _=>exact ao
   | some fp=>
    obtain ⟨f,p⟩:=fp;simp only;refine (Ee H t (hv.mono cP) p _).bd ?_;intro pD u u' gC hu;exact .pure ⟨rfl,xB f p hmf,hu⟩
theorem Ac: ∀(fuel:Nat) (t:TypeId) {β:Bj} {v v':Value} (name:String),ay β v v'->aC L C (λ_ (x x':Option Bool)=>x'=x) β (nilAhead fuel t v name) (nilAhead fuel t v' name)
 | 0,t,β,v,v',name,hv=> .pure rfl
 | fuel+1,t,β,v,v',name,hv=>by
  unfold nilAhead;refine (jr H t).bd ?_;rintro gW i _ cP ⟨rfl,hi⟩;cases hm:i.methods.find? (·.name==name) with
  | none=>exact ao
  | some m=>
   obtain ⟨hp,xB⟩:=H.mp t i m hi (Array.mem_of_find?_eq_some hm);simp only [hp,followBlind,pure_bind];have vq:=hv.mono cP;cases hmf:m.func with
   | none=>
    try simp only
    cases vq with
    | iface t' h=>exact Ac fuel t' name h
    | gZ=>exact .pure rfl
    | _=>exact ao
   | some fp=>
    obtain ⟨f,p⟩:=fp;cases p with
    | true=>exact .pure rfl
    | false=>
     try simp only
     refine (fO H t).bd ?_;rintro pD d _ gC ⟨rfl, -⟩;cases d
     case pointer e=>
      cases vq with
      | nQ=>exact .pure rfl
      | ptr h=>exact .pure rfl
      | hole ho hp=>cases v' <;> first | exact ho.elim | exact .pure rfl | (rename_i a;cases a <;> first | exact ho.elim | exact .pure rfl)
      | _=>exact .pure rfl
     all_goals exact .pure rfl
theorem wo{v v':Value}(name:String){x x':Array Value}(hv:ay β v v')(hx:aG β x x'):aC L C lN β (callMethod v name x) (callMethod v' name x'):=by
 unfold callMethod;cases hv with
 | iface t h=>
  refine .program ?_;show aC L C lN β (do
   let (f,receiver)←method (L.types.size+Made.depth) t _ name
   callFunc f (#[receiver]++x)) (do
   let (f,receiver)←method (C.types.size+Made.depth) t _ name
   callFunc f (#[receiver]++x'))
  rw [H.NB];refine (Gk H _ t name h).bd ?_;rintro gW ⟨f,r⟩ ⟨f',r'⟩ cP ⟨h1,h0,h2⟩;simp only at h1 h0 h2;subst h1;exact Aa H f h0 ((aG.one h2).append (hx.mono cP))
 | gZ=>exact aW.rel
 | _=>exact ao
omit H in
theorem qG{l l':Nat}(h:β l l'):aC L C ID β (Instr.getLoop l) (Instr.getLoop l'):=by
 unfold Instr.getLoop;refine aC.bd (RA:=rF) (.getObj h λo o' ho=> .pure ho) ?_;intro gW o o' cP ho;cases ho with
 | loop h=>exact .pure h
 | BT b=>cases b <;> exact ao
 | _=>exact ao
omit H in
omit [aJ] in
theorem Gl(ps:Array Tmp){x x' t t':Array Value}(hx:aG β x x')(ht:aG β t t'):aG β ((ps.zip x).foldl (λtmps (t,a)=>tmps.setIfInBounds t a) t) ((ps.zip x').foldl (λtmps (t,a)=>tmps.setIfInBounds t a) t'):=by
 have key: ∀(l:List Tmp) {y y':List Value} {t t':Array Value},nI β y y'->aG β t t'->aG β ((l.zip y).foldl (λtmps (q:Tmp×Value)=>tmps.setIfInBounds q.1 q.2) t) ((l.zip y').foldl (λtmps (q:Tmp×Value)=>tmps.setIfInBounds q.1 q.2) t'):=by
  intro l
  induction l with
  | nil=>intro y y' t t' _ ht;exact ht
  | cons p l ih=>
   intro y y' t t' hy ht;cases hy with
   | nil=>exact ht
   | cons hv hl=>exact ih hl (ht.set hv p)
 have:=key ps.toList hx.list ht;rw [←Array.foldl_toList, ←Array.foldl_toList,Array.toList_zip,Array.toList_zip];exact this
omit H in
theorem SH{l l':Nat}(h:β l l'){x x':Array Value}(hx:aG β x x'):aC L C lN β (Instr.yield l x) (Instr.yield l' x'):=by
 unfold Instr.yield;refine (qG h).bd ?_;intro gW r r' cP hr;rw [←hx.1,hr.params];split
 ·exact (aQ.dP aQ.halt).rel
 ·rw [hr.fn,hr.assign,hr.body];exact .pure (.round _ _ _ hr.ca hr.cb (cP _ _ h) (Gl _ (hx.mono cP) hr.tmps))
end
end Go.Cx
namespace Go.Cx
open Go
variable[aV][aJ][aY]
def kM:Operand->Prop
 | .tmp _=>True
 | .const v=>Plain v
 | .global _=>False
 | .func f=>aV.ok f
def okB:Builtin->Bool
 | .append | .cap | .clear | .len | .max | .min=>true
 | _=>false
def Ad:Callee->Prop
 | .value f=>kM f
 | .invoke r _=>kM r
 | .builtin b=>okB b=true
def IM(L C:Program):Op->Prop
 | .move x | .assign x | .box _ x | .load _ x | .nilCheck x | .unOp _ _ x | .makeInterface _ x | .extract x _ | .panic x=>kM x
 | .typeAssert x _ t _=>kM x/\RR L t
 | .sliceToArrayPointer t x=>kM x/\ ∀n e,L.underlying t=some (.array n e)->n≠0
 | .pick c a b=>kM c/\kM a/\kM b
 | .alloc t=>RR L t
 | .build t ps=>(∀p∈ps,kM p.2)/\RR L t
 | .buildSlice t _ ps=>(∀p∈ps,kM p.2)/\LJ L t
 | .makeSlice t a x=>kM a/\kM x/\LJ L t
 | .store _ a x | .indexAddr _ a x | .index _ a x=>kM a/\kM x
 | .binOp op t x y _=>kM x/\kM y/\(op= .eql\/op= .neq->LV L t/\L.eqGuardType L.depth t=false/\C.eqGuardType C.depth t=false)
 | .convert s d x=>kM x/\(∃k,L.underlying s=some (.int k))/\ ∃k,L.underlying d=some (.int k)
 | .makeFunc (.func f) xs ys=>(∀x∈xs,kM x)/\(∀y∈ys,kM y)/\aV.ok f
 | .slice _ x l h m=>kM x/\(∀y∈l,kM y)/\(∀y∈h,kM y)/\ ∀y∈m,kM y
 | .fieldAddr s x i=>kM x/\ ∀(fs:Array Field) (f:Field) (inf:TypeInfo),L.underlying s=some (.struct fs)->fs[i]? =some f->L.info? f.type=some inf->inf.size≠0
 | .call c=>Ad c.callee/\(∀x∈c.args,kM x)/\ ∀ty∈c.argTypes,LJ L ty
 | _=>False
section
variable{L C:Program}{β:Bj}(H:fW L C)
include H
omit H in
omit [aJ] in
theorem CX{v v':Value}(hv:ay β v v')(b:Bool):ay β (.tuple #[v, .bool b]) (.tuple #[v', .bool b]):=(aG.push (aG.one hv) (.bool b)).F8
theorem Ef(xt at_:TypeId)(ok:Bool)(Ii:RR L at_){v v':Value}(hv:ay β v v'):aC L C ay β (Instr.typeAssert v xt at_ ok) (Instr.typeAssert v' xt at_ ok):=by
 unfold Instr.typeAssert;refine (fO H at_).bd ?_;rintro gW d _ cP ⟨rfl, -⟩;have vq:=hv.mono cP;have holds: ∀{β:Bj} {u u':Value},ay β u u'->aC L C ay β (pure (if ok then .tuple #[u, .bool true] else u):Sem Value) (pure (if ok then .tuple #[u', .bool true] else u')):=by
  intro β u u' hu;cases ok with
  | true=>exact .pure (CX hu true)
  | false=>exact .pure hu
 have Kt: ∀(s d:Option TypeId) (m:String) {β:Bj},aC L C ay β (if ok then do pure (.tuple #[←zeroValue at_, .bool false]) else runtimePanic (.typeAssertion s d at_ m):Sem Value) (if ok then do pure (.tuple #[←zeroValue at_, .bool false]) else runtimePanic (.typeAssertion s d at_ m)):=by
  intro s d m β;split
  ·refine (IF H at_ Ii).bd ?_;intro pD z z' gC hz;exact .pure (CX hz false)
  ·exact aW.rel
 cases d
 case interface ms=>
  cases vq with
  | gZ=>exact Kt _ _ _
  | iface t h=>
   refine (jr H t).bd ?_;rintro pD i _ gC ⟨rfl, -⟩;split
   ·exact holds (.iface t (h.mono gC))
   ·exact Kt _ _ _
  | _=>exact ao
 all_goals
  cases vq with
  | gZ=>exact Kt _ _ _
  | iface t h=>
   simp only;split
   ·exact holds h
   ·exact Kt _ _ _
  | _=>exact ao
theorem L4(op:BinOp)(t:TypeId)(x y:Operand)(ht:op= .eql\/op= .neq->LV L t/\L.eqGuardType L.depth t=false/\C.eqGuardType C.depth t=false){a a' b b':Value}(ha:ay β a a')(hb:ay β b b'):
  aC L C (fF λ_=>True) β (eqGuard op t x y a b) (eqGuard op t x y a' b'):=by
 unfold eqGuard;by_cases ho:op= .eql\/op= .neq
 ·obtain ⟨h1,h2,h3⟩:=ht ho;rcases ho with rfl | rfl
  all_goals
   simp only [qai,qa7,if_false];cases ha with
   | gZ=>
    cases hb with
    | gZ=>
     simp only;have:aC L C (λ_ (x x':Bool)=>x=false/\x'=false) β (Op.eqGuardIn Op.maxDepth t .nilIface .nilIface) (Op.eqGuardIn Op.maxDepth t .nilIface .nilIface):=by
      show aC L C _ β (Op.eqGuardIn (9999+1) t .nilIface .nilIface) (Op.eqGuardIn (9999+1) t .nilIface .nilIface);unfold Op.eqGuardIn;refine (fO H t).bd ?_;rintro gW d _ cP ⟨rfl,hd⟩;cases h1 with
      | bool h=>rw [h] at hd;cases hd;exact .pure ⟨rfl,rfl⟩
      | int h=>rw [h] at hd;cases hd;exact .pure ⟨rfl,rfl⟩
      | string h=>rw [h] at hd;cases hd;exact .pure ⟨rfl,rfl⟩
      | slice h=>rw [h] at hd;cases hd;exact .pure ⟨rfl,rfl⟩
      | struct h _ _=>rw [h] at hd;cases hd;exact .pure ⟨rfl,rfl⟩
     repeat' split
     all_goals first
      | exact .pure ⟨rfl,trivial⟩
      | (refine this.bd ?_;rintro gW _ _ cP ⟨rfl,rfl⟩;exact .pure ⟨rfl,trivial⟩)
    | @hole b' ho _=>cases b' <;> first | exact ho.elim | exact .pure ⟨rfl,trivial⟩
    | _=>exact .pure ⟨rfl,trivial⟩
   | agg h k=>
    cases hb with
    | agg h' k'=>
     refine .program ?_;show aC L C _ β (do
      if !L.eqGuardType (←program).depth t then return
      if←Op.eqGuardIn Op.maxDepth t _ _ then unsupported _) (do
      if !C.eqGuardType (←program).depth t then return
      if←Op.eqGuardIn Op.maxDepth t _ _ then unsupported _)
     refine .program ?_;show aC L C _ β (do
      if !L.eqGuardType L.depth t then return
      if←Op.eqGuardIn Op.maxDepth t _ _ then unsupported _) (do
      if !C.eqGuardType C.depth t then return
      if←Op.eqGuardIn Op.maxDepth t _ _ then unsupported _)
     rw [h2,h3];exact .pure ⟨rfl,trivial⟩
    | @hole b' ho _=>cases b' <;> first | exact ho.elim | exact .pure ⟨rfl,trivial⟩
    | _=>exact .pure ⟨rfl,trivial⟩
   | @hole a' ho _=>cases a' <;> first | exact ho.elim | exact .pure ⟨rfl,trivial⟩
   | _=>cases hb <;> exact .pure ⟨rfl,trivial⟩
 ·cases op <;> first | exact .pure ⟨rfl,trivial⟩ | exact absurd (.inl rfl) ho | exact absurd (.inr rfl) ho
omit H in
omit [aV] [aJ] [aY] in
theorem Eg:mj L Instr.panicnil:=by
 have hk: ∀{α:Type} (x:Ask α) (w:World),(w.ask x).2.heap=w.heap:=by
  intro α x
  induction x with
  | done a=>intro w;rfl
  | ask ahY range k ih=>
   intro w;unfold World.ask;simp only;split
   ·exact ih _ w
   ·exact ih _ { w with drawn:=w.drawn+1 }
 have hs:mj L (sys .env):=iI λw=>by
  refine .inl ⟨_,_,rfl, ?_⟩;have:=hk (Kernel.perform .env w.os) w;unfold World.sys;generalize w.ask (Kernel.perform .env w.os)=q at this;obtain ⟨⟨r,os⟩,w'⟩:=q;cases r <;> first | exact this | rfl
 unfold Instr.panicnil;refine @eW _ _ _ _ _ hs λd=> ?_;split <;> infer_instance
omit H in
omit [aV] [aJ] [aY] in
theorem IN(v:Value):aQ L (Instr.panic v):=by
 unfold Instr.panic;cases v <;> first | exact aQ.halt | skip
 refine aQ.bind (hm:=Eg) λn=> ?_;split
 ·exact aQ.halt
 ·exact aW
theorem L6(b:Builtin)(hb:okB b=true)(ts:Array TypeId)(CV: ∀ty∈ts,LJ L ty)(t:TypeId)(cs:Array Bool){x x':Array Value}(hx:aG β x x'):aC L C lN β (builtin b ts t cs x) (builtin b ts t cs x'):=by
 have fin: ∀{s s':Sem Value},aC L C ay β s s'->aC L C lN β (do pure (.value (←s))) (do pure (.value (←s'))):=λh=>h.bd λbR a a' hl ha=> .pure (.value ha);unfold builtin;cases b <;> first | (cases hb;done) | skip
 ·exact fin (Og H ts t CV hx)
 ·exact fin (aag H ts t hx)
 ·exact fin (SE H ts t CV hx)
 ·exact fin (aaf H ts t hx)
 ·exact fin (aai ts t hx)
 ·exact fin (aah ts t hx)
end
end Go.Cx
namespace Go.Cx
open Go
variable[aV][aJ][aY]
section
variable{L C:Program}{β:Bj}(H:fW L C)
include H
theorem Gm{t t':Target}(ht:LZ β t t')(hb: ∀b ts u cs,t= .builtin b ts u cs->okB b=true/\ ∀ty∈ts,LJ L ty){x x':Array Value}(hx:aG β x x'):aC L C lN β (invoke t x) (invoke t' x'):=by
 unfold invoke;cases ht with
 | nil=>exact aW.rel
 | builtin b ts u cs=>exact L6 H b (hb _ _ _ _ rfl).1 ts (hb _ _ _ _ rfl).2 u cs hx
 | method n=>
  simp only;cases h0:x[0]? with
  | none=>exact ao
  | some v=>
   obtain ⟨v',h1,hv⟩:=hx.get h0;rw [h1];simp only;rw [←hx.1];exact wo H n hv (hx.extract _ _)
 | fn hf hc=>
  cases hf with
  | func f hf=>exact Aa H f hf (hx.append hc)
  | yield hl=>exact SH hl hx
  | method n=>
   simp only;cases h0:x[0]? with
   | none=>exact ao
   | some v=>
    obtain ⟨v',h1,hv⟩:=hx.get h0;rw [h1];simp only;rw [←hx.1];exact wo H n hv (hx.extract _ _)
omit H in
theorem L8{ρ qB:Operand->Value}(lO: ∀x,kM x->ay β (ρ x) (qB x))(c:Call)(t:TypeId)(h1:Ad c.callee)(h2: ∀x∈c.args,kM x)(h3: ∀ty∈c.argTypes,LJ L ty):
  aC L C (λβ (d d':Deferred)=>aan β d d'/\ ∀b ts u cs,d.target= .builtin b ts u cs->okB b=true/\ ∀ty∈ts,LJ L ty) β (resolve ρ c t) (resolve qB c t):=by
 unfold resolve;have ha:aG β (c.args.map ρ) (c.args.map qB):=aG.map λx hx=>lO x (h2 x hx);revert h1;cases c.callee with
 | builtin b=>
  intro h1;exact .pure ⟨⟨.builtin _ _ _ _,ha⟩,λb' ts u cs q=>by cases q;exact ⟨h1,h3⟩⟩
 | invoke r n=>
  intro h1;exact .pure ⟨⟨.method n,(aG.one (lO r h1)).append ha⟩,λb' ts u cs q=>by cases q⟩
 | value f=>
  intro h1;have hf:=lO f h1;unfold Deferred.ofValue;dsimp only;generalize ρ f=u at hf;generalize qB f=u' at hf;cases hf with
  | func g a1 a2 a3 a4=>exact .pure ⟨⟨.fn g ⟨a2,a4⟩,aG.append ⟨a1,a3⟩ ha⟩,λb' ts u cs q=>by cases q⟩
  | oC=>exact .pure ⟨⟨.nil,ha⟩,λb' ts u cs q=>by cases q⟩
  | _=>exact ao
omit H in
theorem mv{s s':Sem Value}(h:aC L C ay β s s'):aC L C lN β (do pure (.value (←s))) (do pure (.value (←s'))):=h.bd λbR a a' hl ha=> .pure (.value ha)
omit H in
omit [aJ] in
theorem IP{ρ qB:Operand->Value}: ∀(l:List (Nat×Operand)),(∀p∈l,ay β (ρ p.2) (qB p.2))->u5 β (l.map fun (i,x)=>(i,ρ x)) (l.map fun (i,x)=>(i,qB x))
 | [],_=> .nil
 | (i,x)::l,h=> .cons i (h (i,x) (by simp)) (IP l λp hp=>h p (by simp [hp]))
omit H in
omit [aJ] in
theorem IQ{ρ qB:Operand->Value}(o:Option Operand)(h: ∀y∈o,ay β (ρ y) (qB y)):nJ β (o.map ρ) (o.map qB):=by
 cases o with
 | none=>exact .none
 | some y=>exact .some (h y rfl)
theorem IS{ρ qB:Operand->Value}(lO: ∀x,kM x->ay β (ρ x) (qB x))(o:Oper)(ho:IM L C o.op):aC L C lN β (execOp ρ o) (execOp qB o):=by
 unfold execOp;revert ho;cases o.op <;> intro ho <;> try exact False.elim ho
 case move x=>exact .pure (.value (lO x ho))
 case assign x=>exact .pure (.value (lO x ho))
 case pick c a b=>
  refine (N6 (lO c ho.1)).bd ?_;rintro gW z _ hl ⟨rfl, -⟩;cases z with
  | true=>exact .pure (.value ((lO a ho.2.1).mono hl))
  | false=>exact .pure (.value ((lO b ho.2.2).mono hl))
 case alloc e=>exact mv (Ss H e ho)
 case box e x=>exact mv (aad e (lO x ho))
 case build t ps=>
  refine mv (SD H t ho.2 ?_);rw [Array.toList_map,Array.toList_map];exact IP _ λp hp=>lO _ (ho.1 p (by simpa using hp))
 case buildSlice t n ps=>
  refine mv (Ec H t n ho.2 ?_);rw [Array.toList_map,Array.toList_map];exact IP _ λp hp=>lO _ (ho.1 p (by simpa using hp))
 case load t a=>exact mv (N8 H t (lO a ho))
 case store t a x=>
  refine (LK H t (lO a ho.1) (lO x ho.2)).bd ?_;rintro gW z _ hl ⟨rfl, -⟩;exact .pure .skip
 case nilCheck x=>
  have hx:=lO x ho;dsimp only;generalize ρ x=u at hx;generalize qB x=u' at hx;cases hx with
  | nQ=>exact aW.rel
  | gZ=>exact aW.rel
  | oC=>exact aW.rel
  | bool b=>exact .pure (.value (.bool b))
  | int k n=>exact .pure (.value (.int k n))
  | string s=>exact .pure (.value (.string s))
  | ptr h=>exact .pure (.value (.ptr h))
  | jB n c=>exact .pure (.value (.jB n c))
  | vY a a'=>exact .pure (.value (.vY a a'))
  | slice n c h=>exact .pure (.value (.slice n c h))
  | @func _ _ x x' y y' h h1 h2 h3 h4=>
   cases h with
   | func f hf=>exact .pure (.value (.func (.func f hf) h1 h2 h3 h4))
   | yield h=>exact .pure (.value (.func (.yield h) h1 h2 h3 h4))
   | method n=>
    simp only;cases h0:x[0]? with
    | none=>
     have BV:x'[0]? =none:=by
      rw [Array.getElem?_eq_none_iff] at h0 ⊢;rw [←h1];exact h0
     rw [BV];exact .pure (.value (.func (.method n) h1 h2 h3 h4))
    | some z=>
     obtain ⟨z',BV,hz⟩:=aG.get ⟨h1,h3⟩ h0;rw [BV];cases hz with
     | gZ=>exact aW.rel
     | iface t hw=>
      refine .program ?_;show aC L C _ β (nilAhead (L.types.size+Made.depth) t _ n >>= λr=>_) (nilAhead (C.types.size+Made.depth) t _ n >>= λr=>_);rw [H.NB];refine (Ac H _ t n hw).bd ?_;rintro gW r r' cP Sp;rw [show r'=r from Sp];by_cases hr:(r != some false)=true
      ·simp only [hr,if_true];exact ao
      ·simp only [hr,if_false];exact .pure (.value ((ay.func (.method n) h1 h2 h3 h4).mono cP))
     | hole ho hp=>cases z' <;> first | exact ho.elim | exact (aY.noI _ _ hp).elim | exact .pure (.value (.func (.method n) h1 h2 h3 h4))
     | _=>exact .pure (.value (.func (.method n) h1 h2 h3 h4))
  | iface t h=>exact .pure (.value (.iface t h))
  | agg h k=>exact .pure (.value (.agg h k))
  | tuple h k=>exact .pure (.value (.tuple h k))
  | hole h k=>cases u' <;> first | exact h.elim | exact .pure (.value (.hole h k)) | (rename_i a;cases a <;> first | exact h.elim | exact .pure (.value (.hole h k))) | (rename_i a _ _;cases a <;> first | exact h.elim | exact .pure (.value (.hole h k)))
 case binOp op t x y u=>
  refine mv ?_;refine (L4 H op t x y ho.2.2 (lO x ho.1) (lO y ho.2.1)).bd ?_;rintro gW z _ hl ⟨rfl, -⟩;exact SG H op t (λq=>(ho.2.2 q).1) ((lO x ho.1).mono hl) ((lO y ho.2.1).mono hl)
 case unOp op t x=>exact mv (SA op (lO x ho))
 case convert s d x=>exact mv (LR s d H (lO x ho.1) ho.2.1 ho.2.2)
 case sliceToArrayPointer a x=>exact mv (LP H a ho.2 (lO x ho.1))
 case makeInterface t x=>exact mv (za H t (lO x ho))
 case makeFunc fn xs ys=>
  cases fn <;> try exact False.elim ho
  exact mv (IH (.func _ ho.2.2) (aG.map λx hx=>lO x (ho.1 x hx)) (aG.map λx hx=>lO x (ho.2.1 x hx)))
 case makeSlice t a b=>exact mv (Gf H t ho.2.2 (lO a ho.1) (lO b ho.2.1))
 case slice t x l h m=>exact mv (LO H t (lO x ho.1) (IQ l λy hy=>lO y (ho.2.1 y hy)) (IQ h λy hy=>lO y (ho.2.2.1 y hy)) (IQ m λy hy=>lO y (ho.2.2.2 y hy)))
 case fieldAddr s x i=>exact mv (LQ H s i ho.2 (lO x ho.1))
 case indexAddr t a b=>exact mv (LM H t (lO a ho.1) (lO b ho.2))
 case index t a b=>exact mv (Su H t (lO a ho.1) (lO b ho.2))
 case typeAssert x a b c=>exact mv (Ef H a b c ho.2 (lO x ho.1))
 case extract x i=>exact mv (LL i (lO x ho))
 case call c=>
  refine (L8 lO c o.type ho.1 ho.2.1 ho.2.2).bd ?_;rintro gW d d' hl ⟨h1,h2⟩;exact Gm H h1.target h2 h1.args
 case panic x=>exact aQ.rel (aQ.dP (IN _))
end
end Go.Cx
namespace Go.Cx
open Go
section
variable[aV]
inductive cB(L C:Program):Code->Prop
 | skip:cB L C .skip
 | region (id:Nat) {ops:Array Oper} (draw:Bool):(∀o∈ops,IM L C o.op)->cB L C (.region id ops draw)
 | seq {a b:Code}:cB L C a->cB L C b->cB L C (.seq a b)
 | cond {c:Operand} {a b:Code}:kM c->cB L C a->cB L C b->cB L C (.cond c a b)
 | block (id:Nat) {a:Code}:cB L C a->cB L C (.block id a)
 | loop {a:Code}:cB L C a->cB L C (.loop a)
 | rangeFunc {f:Operand} (ps:Array Tmp) {a b:Code}:kM f->cB L C a->cB L C b->cB L C (.rangeFunc f ps a b)
 | exit (id:Nat):cB L C (.exit id)
 | label (l:Nat):cB L C (.label l)
 | ret:cB L C .ret
end
variable[aV][aJ][aY]
inductive pP(L C:Program)(β:Bj):Item->Item->Prop
 | code {c:Code}:cB L C c->pP L C β (.code c) (.code c)
 | inBlock (id:Nat):pP L C β (.inBlock id) (.inBlock id)
 | inLoop {c:Code}:cB L C c->pP L C β (.inLoop c) (.inLoop c)
 | inRegion {ops:Array Oper} (todo:List Nat):(∀o∈ops,IM L C o.op)->pP L C β (.inRegion ops todo) (.inRegion ops todo)
 | lP {l l':Nat}:β l l'->pP L C β (.inRangeFunc l) (.inRangeFunc l')
 | kN {l l':Nat}:β l l'->pP L C β (.endRangeFunc l) (.endRangeFunc l')
 | beginRound:pP L C β .beginRound .beginRound
inductive oE(L C:Program)(β:Bj):List Item->List Item->Prop
 | nil:oE L C β [] []
 | cons {i i':Item} {k k':List Item}:pP L C β i i'->oE L C β k k'->oE L C β (i::k) (i'::k')
inductive mV(β:Bj):List Deferred->List Deferred->Prop
 | nil:mV β [] []
 | cons {r r':Nat} {l l':List Deferred}:β r r'->mV β l l'->mV β ({ target:= .collected r,args:= #[] }::l) ({ target:= .collected r',args:= #[] }::l')
inductive Ae(β:Bj):Option Nat->Option Nat->Prop
 | none:Ae β none none
 | some {l l':Nat}:β l l'->Ae β (some l) (some l')
structure iU(L C:Program)(β:Bj)(a b:Frame):Prop where
 fn:b.fn=a.fn
 tmps:aG β a.tmps b.tmps
 todo:oE L C β a.todo b.todo
 defers:mV β a.defers b.defers
 mode:(a.mode= .run/\b.mode= .run)\/(a.mode= .returning/\b.mode= .returning/\a.roundOf=none)
 kind:a.kind= .normal/\b.kind= .normal
 round:Ae β a.roundOf b.roundOf
 xL:a.roundOf=none-> ∃fn,L.funcs[a.fn]? =some fn/\C.funcs[a.fn]? =some fn
section
variable{L C:Program}{β γ:Bj}
omit [aJ] [aY] in
theorem pP.mono(l:Le β γ){a b:Item}(h:pP L C β a b):pP L C γ a b:=by
 cases h with
 | code h=>exact .code h
 | inBlock id=>exact .inBlock id
 | inLoop h=>exact .inLoop h
 | inRegion t h=>exact .inRegion t h
 | lP h=>exact .lP (l _ _ h)
 | kN h=>exact .kN (l _ _ h)
 | beginRound=>exact .beginRound
omit [aJ] [aY] in
theorem oE.mono(l:Le β γ){a b:List Item}(h:oE L C β a b):oE L C γ a b:=by
 induction h with
 | nil=>exact .nil
 | cons h _ ih=>exact .cons (h.mono l) ih
omit [aV] [aJ] [aY] in
theorem mV.mono(l:Le β γ){a b:List Deferred}(h:mV β a b):mV γ a b:=by
 induction h with
 | nil=>exact .nil
 | cons h _ ih=>exact .cons (l _ _ h) ih
omit [aV] [aJ] [aY] in
theorem mV.append{a b c d:List Deferred}(h:mV β a b)(k:mV β c d):mV β (a++c) (b++d):=by
 induction h with
 | nil=>exact k
 | cons h _ ih=>exact .cons h ih
omit [aV] [aJ] [aY] in
theorem Ae.mono(l:Le β γ){a b:Option Nat}(h:Ae β a b):Ae γ a b:=by
 cases h with
 | none=>exact .none
 | some h=>exact .some (l _ _ h)
omit [aJ] in
theorem iU.mono(l:Le β γ){a b:Frame}(h:iU L C β a b):iU L C γ a b:=⟨h.fn,h.tmps.mono l,h.todo.mono l,h.defers.mono l,h.mode,h.kind,h.round.mono l,h.xL⟩
omit [aJ] in
theorem ui:ay β undef undef:= .tuple rfl λi v v' h=>by simp at h
omit [aJ] in
theorem aG.getD{x x':Array Value}(h:aG β x x')(i:Nat):ay β (x.getD i undef) (x'.getD i undef):=by
 cases hx:x[i]? with
 | none=>
  have h2:=h.none hx;have e1:x.getD i undef=undef:=by rw [qak, hx];rfl
  have e2:x'.getD i undef=undef:=by rw [qak, h2];rfl
  rw [e1,e2];exact ui
 | some v=>
  obtain ⟨v',h2,h3⟩:=h.get hx;have e1:x.getD i undef=v:=by rw [qak, hx];rfl
  have e2:x'.getD i undef=v':=by rw [qak, h2];rfl
  rw [e1,e2];exact h3
omit [aJ] in
theorem iU.eval{a b:Frame}(h:iU L C β a b): ∀x,kM x->ay β (a.eval x) (b.eval x):=by
 intro x hx;cases x with
 | tmp t=>exact h.tmps.getD t
 | const v=>exact (show Plain v from hx).rel
 | global g=>exact hx.elim
 | func f=>exact .func (.func f hx) rfl rfl (λi v v' q=>by simp at q) (λi v v' q=>by simp at q)
omit [aJ] [aY] in
theorem Af(id:Nat){k k':List Item}(h:oE L C β k k'):(exitTo id k=none/\exitTo id k'=none)\/ ∃q q',exitTo id k=some q/\exitTo id k'=some q'/\oE L C β q q':=by
 induction h with
 | nil=>exact .inl ⟨rfl,rfl⟩
 | @cons i i' k k' hi hk ih=>
  cases hi with
  | inBlock id'=>
   unfold exitTo;by_cases hq:(id'==id)=true
   ·simp only [hq,if_true];exact .inr ⟨_,_,rfl,rfl,hk⟩
   ·simp only [hq,if_false];exact ih
  | _=>exact ih
omit [aJ] in
theorem Gn(ops:Array Oper){x x':Array Value}(h:aG β x x'):yielded ops x=yielded ops x':=by
 funext j;unfold yielded;cases (ops[j]?).bind (·.dst) with
 | none=>rfl
 | some d=>
  simp only [qa0];cases hx:x[d]? with
  | none=>rw [h.none hx]
  | some v=>
   obtain ⟨v',h2,h3⟩:=h.get hx;rw [h2];cases h3 with
   | hole ho _=>cases v' <;> first | rfl | exact ho.elim
   | _=>rfl
omit [aJ] in
theorem iU.finish{a b:Frame}(h:iU L C β a b){v v':Value}(hv:ay β v v'):iU L C β (a.finish v) (b.finish v'):=by
 obtain ⟨h1,h2,h3,h4,h5,h6,h7,h8⟩:=h;obtain ⟨fn,tm,todo,df,md,kd,ro⟩:=a;obtain ⟨jd,CY,tv,Ik,IT,F1,CZ⟩:=b;simp only at h1 h2 h3 h4 h5 h6 h7;cases h3 with
 | nil=>exact ⟨h1,h2, .nil,h4,h5,h6,h7,h8⟩
 | cons hi hk=>
  cases hi with
  | code h=>exact ⟨h1,h2, .cons (.code h) hk,h4,h5,h6,h7,h8⟩
  | inBlock id=>exact ⟨h1,h2, .cons (.inBlock id) hk,h4,h5,h6,h7,h8⟩
  | inLoop h=>exact ⟨h1,h2, .cons (.inLoop h) hk,h4,h5,h6,h7,h8⟩
  | @inRegion ops t h=>
   cases t with
   | nil=>exact ⟨h1,h2, .cons (.inRegion [] h) hk,h4,h5,h6,h7,h8⟩
   | cons i t=>
    refine ⟨h1, ?_, .cons (.inRegion t h) hk,h4,h5,h6,h7,h8⟩;show aG β (match (ops[i]?).bind (·.dst) with | some d=>tm.setIfInBounds d v | none=>tm) (match (ops[i]?).bind (·.dst) with | some d=>CY.setIfInBounds d v' | none=>CY);cases (ops[i]?).bind (·.dst) with
    | none=>exact h2
    | some d=>exact h2.set hv d
  | lP hl=>exact ⟨h1,h2, .cons (.kN hl) hk,h4,h5,h6,h7,h8⟩
  | kN hl=>exact ⟨h1,h2, .cons (.kN hl) hk,h4,h5,h6,h7,h8⟩
  | beginRound=>exact ⟨h1,h2,hk,h4,h5,h6,h7,h8⟩
end
end Go.Cx
namespace Go.Cx
open Go
variable[aV][aJ][aY]
abbrev gb(a:Frame)(cs:List Frame):Goroutine:={ frame:=a,callers:=cs,status:= .running,dying:=none }
structure PF(L C:Program)(Xs:FuncId->Prop):Prop where
 same: ∀f,aV.ok f->aV.sQ f-> ¬Xs f-> ∃(fn:Func) (c:Code),L.funcs[f]? =some fn/\C.funcs[f]? =some fn/\fn.body=some c/\cB L C c
 follows:C.follows .mixedOrders=L.follows .mixedOrders
 code: ∀c,aJ.code c↔cB L C c
omit [aV] [aJ] [aY] in
theorem Gp{p:Program}{f:FuncId}{es:Array Event}{e:Event}(h:e∈seen p f es):e∈es:=by
 have key: ∀(l:List Event) (F:Bool×Array Event->Event->Bool×Array Event),(∀q x,(F q x).2=q.2\/(F q x).2=q.2.push x)-> ∀(q:Bool×Array Event) (e:Event),e∈(l.foldl F q).2->e∈q.2\/e∈l:=by
  intro l F hF
  induction l with
  | nil=>intro q e h;exact .inl h
  | cons x l ih=>
   intro q e h;rcases ih _ e h with h | h
   ·rcases hF q x with hq | hq
    ·rw [hq] at h;exact .inl h
    ·rw [hq] at h;rcases Array.mem_push.1 h with h | h
     ·exact .inl h
     ·exact .inr (by simp [h])
   ·exact .inr (by simp [h])
 unfold seen at h;simp only at h;rw [←Array.foldl_toList] at h;refine (key es.toList _ ?_ _ e h).elim (λh=> ?_) (λh=> ?_)
 rotate_left
 ·simp at h
 ·simpa using h
 ·rintro ⟨q1,q2⟩ x;split
  ·exact .inl rfl
  ·simp only;split
   ·exact .inl rfl
   ·exact .inr rfl
inductive cF(L C:Program)(β:Bj):List Frame->List Frame->Prop
 | one {a b:Frame}:iU L C β a b->a.roundOf=none->cF L C β [a] [b]
 | cons {a b:Frame} {k k':List Frame}:iU L C β a b->cF L C β k k'->cF L C β (a::k) (b::k')
omit [aJ] in
theorem cF.mono{L C:Program}{β γ:Bj}(l:Le β γ){a b:List Frame}(h:cF L C β a b):cF L C γ a b:=by
 induction h with
 | one h hr=>exact .one (h.mono l) hr
 | cons h _ ih=>exact .cons (h.mono l) ih
omit [aJ] in
theorem cF.swap{L C:Program}{β:Bj}{a b a2 b2:Frame}{k k':List Frame}(h:cF L C β (a::k) (b::k'))(hf:iU L C β a2 b2)(hr:a2.roundOf=a.roundOf):cF L C β (a2::k) (b2::k'):=by
 cases h with
 | one _ h2=>exact .one hf (hr.trans h2)
 | cons _ h=>exact .cons hf h
omit [aJ] in
theorem cF.top{L C:Program}{β:Bj}{a b:Frame}{k k':List Frame}(h:cF L C β (a::k) (b::k')):iU L C β a b:=by
 cases h with
 | one h _=>exact h
 | cons h _=>exact h
omit [aV] [aJ] [aY] in
theorem j8(a:Frame)(v:Value):(a.finish v).roundOf=a.roundOf:=by
 unfold Frame.finish;split <;> rfl
inductive Ku(L C:Program)(Xs:FuncId->Prop)(β:Bj)(base mq:List Frame):Goroutine->Goroutine->Prop
 | on {a b:Frame} {k k':List Frame}:cF L C β (a::k) (b::k')->Ku L C Xs β base mq (gb a (k++base)) (gb b (k'++mq))
 | enter (f:FuncId) {x x':Array Value} {k k':List Frame}:Xs f->aG β x x'->cF L C β k k'->Ku L C Xs β base mq (gb (Frame.enter L f x .normal) (k++base)) (gb (Frame.enter C f x' .normal) (k'++mq))
omit [aJ] in
theorem aG.rep{β:Bj}(n:Nat):aG β (Array.replicate n undef) (Array.replicate n undef):=by
 refine ⟨rfl,λi v v' h h'=> ?_⟩;rw [h] at h';cases h';rw [Array.getElem?_replicate] at h;split at h
 ·cases h;exact ui
 ·cases h
omit [aJ] in
theorem om{L C:Program}{β:Bj}{f:FuncId}{fn:Func}{c:Code}(h1:L.funcs[f]? =some fn)(h2:C.funcs[f]? =some fn)(h3:fn.body=some c)(h4:cB L C c){x x':Array Value}(hx:aG β x x'):iU L C β (Frame.enter L f x .normal) (Frame.enter C f x' .normal):=by
 unfold Frame.enter;rw [h1,h2];simp only [qab,qc8,qa0,h3, ←hx.1];exact ⟨rfl,hx.append (aG.rep _), .cons (.code h4) .nil, .nil, .inl ⟨rfl,rfl⟩,⟨rfl,rfl⟩, .none,λ_=>⟨fn,h1,h2⟩⟩
omit [aJ] in
theorem L9{L C:Program}{β:Bj}{l l':Nat}{f:FuncId}{ca cb:Code}(h1:cB L C ca)(h2:cB L C cb)(hl:β l l'){x x':Array Value}(hx:aG β x x'):iU L C β (Frame.round l f x ca cb .normal) (Frame.round l' f x' ca cb .normal):=
 ⟨rfl,hx, .cons (.code h1) (.cons .beginRound (.cons (.code h2) .nil)), .nil, .inl ⟨rfl,rfl⟩,⟨rfl,rfl⟩, .some hl,λq=>by cases q⟩
def cR(g:Goroutine):Prop:= ∃ch,g.frame.mode= .panicking ch
section
variable{L C:Program}{Xs:FuncId->Prop}{β:Bj}
omit [aV] [aJ] [aY] in
theorem tx{es es1:Array Event}{t:GStep}{g:Goroutine}{w:World}(h:GStep.after es t= .go g w es1): ∃rH,t= .go g w rH:=by
 cases t <;> simp only [GStep.after] at h <;> cases h;exact ⟨_,rfl⟩
omit [aV] [aJ] [aY] in
theorem oo(fr:Frame)(vs:List PanicEntry): ∃ch,(fr.raise vs).mode= .panicking ch:=by
 unfold Frame.raise;split
 ·exact ⟨_,rfl⟩
 ·exact ⟨_,rfl⟩
theorem Ma(HP:fW L C)(HF:PF L C Xs){a b:Frame}{k k' base mq:List Frame}(fl:cF L C β (a::k) (b::k')){s s':Sem Next}(hs:aC L C lN β s s'){w W w1:World}{g1:Goroutine}{es:Array Event}
  (hw:bZ β w W) (ht:gH w W) (h:stepG.apply L true a (k++base) none s w= .go g1 w1 es) (hp: ¬cR g1):
  ∃bR W1 wu BW,stepG.apply C true b (k'++mq) none s' W= .go wu W1 BW/\Ku L C Xs bR base mq g1 wu/\bZ bR w1 W1/\lM β bR w w1 W W1/\ ∀e∈BW,sT bR w1 e:=by
 have ha:=fl.top;have Il:(a.kind== .early)=false:=by rw [ha.kind.1];rfl
 have xM:(b.kind== .early)=false:=by rw [ha.kind.2];rfl
 have kA:stepG.apply.match_1 (λ_=>CallKind) a.todo (λd resume saved tail=>CallKind.wrapped) (λx=>CallKind.normal)= .normal:=by
  have:=ha.todo;generalize a.todo=ta at this;generalize b.todo=tb at this;cases this with
  | nil=>rfl
  | cons hi _=>cases hi <;> rfl
 have kB:stepG.apply.match_1 (λ_=>CallKind) b.todo (λd resume saved tail=>CallKind.wrapped) (λx=>CallKind.normal)= .normal:=by
  have:=ha.todo;generalize a.todo=ta at this;generalize b.todo=tb at this;cases this with
  | nil=>rfl
  | cons hi _=>cases hi <;> rfl
 unfold stepG.apply at h ⊢;simp only [Il,xM,kA,kB,if_true,qa7,if_false] at h ⊢;rcases hR:s.runT L w #[] with ⟨r,te⟩
 rw [hR] at h;obtain ⟨rH,h⟩:=tx h;have bH:s.run L w=r:=by rw [←Sem.runT_fst L s w #[],hR]
 cases r with
 | halt hh w2=>
  exfalso;have yG:=(hs.zX hw bH).1;cases hh with
  | panic v=>cases h;exact hp (oo _ _)
  | stuck s=>cases h
  | unsupported u=>
   cases u with
   | initOrder g=>exact yG g rfl
   | _=>cases h
  | _=>exact yG.elim
 | ok n w2=>
  obtain ⟨n',W1,bR,BW,e1,e2,e3,e4,e5⟩:=hs.run #[] hw ht bH;rw [e1];simp only [Array.empty_append];have sF: ∀e∈seen C b.fn BW,sT bR w2 e:=λe he=>e5 e (Gp he);cases e2 with
  | value hv=>
   cases h;exact ⟨bR,W1,_,_,rfl, .on ((fl.mono e4.le).swap ((ha.mono e4.le).finish hv) (j8 _ _)),e3,e4,by simpa [GStep.after] using sF⟩
  | skip=>
   cases h;exact ⟨bR,W1,_,_,rfl, .on ((fl.mono e4.le).swap ((ha.mono e4.le).finish ui) (j8 _ _)),e3,e4,by simpa [GStep.after] using sF⟩
  | enter f qF pG hx=>
   cases h;by_cases hX:Xs f
   ·exact ⟨bR,W1,_,_,rfl, .enter (k:=a::k) (k':=b::k') f hX hx (fl.mono e4.le),e3,e4,by simpa [GStep.after] using sF⟩
   ·obtain ⟨fn,c,g1,g2,g3,g4⟩:=HF.same f qF pG hX;exact ⟨bR,W1,_,_,rfl, .on (k:=a::k) (k':=b::k') (.cons (om g1 g2 g3 g4 hx) (fl.mono e4.le)),e3,e4,by simpa [GStep.after] using sF⟩
  | round f ca cb hca hcb hl hx=>
   cases h;exact ⟨bR,W1,_,_,rfl, .on (k:=a::k) (k':=b::k') (.cons (L9 ((HF.code _).1 hca) ((HF.code _).1 hcb) hl hx) (fl.mono e4.le)),e3,e4,by simpa [GStep.after] using sF⟩
end
end Go.Cx
namespace Go.Cx
open Go
variable[aV][aJ][aY]
section
variable{L C:Program}{β:Bj}
theorem Gq{o o':Obj}(h:xG β o o'):aC L C (λβ (x x':Nat)=>β x x') β (newObj o) (newObj o'):=
 .new h λγ r r' hl hr=> .pure hr
theorem tz(fn:FuncId){x x':Array Value}(ps:Array Tmp){a b:Code}{o o':Option Nat}(hx:aG β x x')(ha:aJ.code a)(hb:aJ.code b)(ho:Ae β o o'):
  aC L C (λβ (y y':Nat×List Deferred)=>β y.1 y'.1/\mV β y.2 y'.2) β (Instr.enterLoop fn x ps a b o) (Instr.enterLoop fn x' ps a b o'):=by
 unfold Instr.enterLoop;have tail: ∀{gW:Bj} (d d':Nat) (m m':List Deferred),Le β gW->gW d d'->mV gW m m'->aC L C (λβ (y y':Nat×List Deferred)=>β y.1 y'.1/\mV β y.2 y'.2) gW
   (newObj (.loop { state:= .ready,pending:=none,fn,tmps:=x,params:=ps,assign:=a,body:=b,defers:=d }) >>= λq=>pure (q,m))
   (newObj (.loop { state:= .ready,pending:=none,fn,tmps:=x',params:=ps,assign:=a,body:=b,defers:=d' }) >>= λq=>pure (q,m')):=by
  intro gW d d' m m' cP h1 h2;refine (Gq (β:=gW) (.loop (l:={ state:= .ready,pending:=none,fn,tmps:=x,params:=ps,assign:=a,body:=b,defers:=d }) (l':={ state:= .ready,pending:=none,fn,tmps:=x',params:=ps,assign:=a,body:=b,defers:=d' }) ⟨rfl,rfl,rfl,hx.mono cP,rfl,rfl,rfl,h1,ha,hb,λc h=>by cases h⟩)).bd ?_;intro pD l l' gC hl;exact .pure ⟨hl,h2.mono gC⟩
 cases ho with
 | none=>
  refine (Gq (.BT true)).bd λgW r r' hl hr=> ?_;exact tail r r' _ _ hl hr (.cons hr .nil)
 | some hl=>
  refine (qG hl).bd λgW r r' hl hr=> ?_;exact tail _ _ _ _ hl hr.defers .nil
theorem xN{l l':Nat}(h:β l l'){r r':Loop}(hr:ID β r r'):aC L C (fF λ_=>True) β (setObj l (.loop r)) (setObj l' (.loop r')):=
 .setObj h (.loop hr) (λc e f q=>by cases q) (.pure ⟨rfl,trivial⟩)
theorem rI{l l':Nat}(h:β l l'):aC L C (λ_ _ _=>True) β (Instr.beginRound l) (Instr.beginRound l'):=by
 unfold Instr.beginRound;refine (qG h).bd ?_;intro gW r r' cP hr;refine aC.bd (RA:=fF λ_=>True) (xN (cP _ _ h) ⟨rfl,hr.pending,hr.fn,hr.tmps,hr.params,hr.assign,hr.body,hr.defers,hr.ca,hr.cb,hr.cp⟩) ?_;intro pD _ _ gC _;rw [hr.state];cases r.state with
 | ready=>exact .pure trivial
 | _=>exact aW.rel
theorem vt{l l':Nat}(h:β l l')(j:Option Code)(hj: ∀c,j=some c->aJ.code c):aC L C ay β (Instr.endRound l j) (Instr.endRound l' j):=by
 unfold Instr.endRound;refine (qG h).bd ?_;intro gW r r' cP hr;refine aC.bd (RA:=fF λ_=>True) (xN (cP _ _ h) ⟨rfl,rfl,hr.fn,hr.tmps,hr.params,hr.assign,hr.body,hr.defers,hr.ca,hr.cb,hj⟩) ?_;intro pD _ _ gC _;exact .pure (.bool _)
theorem xO{l l':Nat}(h:β l l'):aC L C (fF λx=> ∀c,x=some c->aJ.code c) β (Instr.endLoop l) (Instr.endLoop l'):=by
 unfold Instr.endLoop;refine (qG h).bd ?_;intro gW r r' cP hr;rw [hr.state];split
 ·exact (aQ.dP aW).rel
 ·refine aC.bd (RA:=fF λ_=>True) (xN (cP _ _ h) ⟨rfl,hr.pending,hr.fn,hr.tmps,hr.params,hr.assign,hr.body,hr.defers,hr.ca,hr.cb,hr.cp⟩) ?_;intro pD _ _ gC _;rw [hr.pending];exact .pure ⟨rfl,hr.cp⟩
theorem oF{l l':Nat}(h:β l l'):aC L C (λ_ (x x':List Deferred)=>x=[]/\x'=[]) β (Instr.takeDeferred l) (Instr.takeDeferred l'):=by
 unfold Instr.takeDeferred;refine aC.bd (RA:=rF) (.getObj h λo o' ho=> .pure ho) ?_;intro gW o o' cP ho;cases ho with
 | BT b=>
  cases b with
  | false=>exact ao
  | true=>
   refine aC.bd (RA:=fF λ_=>True) (.setObj (cP _ _ h) (.BT false) (λc e f q=>by cases q) (.pure ⟨rfl,trivial⟩)) ?_;intro pD _ _ gC _;exact .pure ⟨rfl,rfl⟩
 | _=>exact ao
omit [aJ] in
theorem nI.array{l l':List Value}(h:nI β l l'):aG β l.toArray l'.toArray:=by
 have key: ∀{l l':List Value},nI β l l'->l.length=l'.length/\ ∀(i:Nat) (v v':Value),l[i]? =some v->l'[i]? =some v'->ay β v v':=by
  intro l l' h
  induction h with
  | nil=>exact ⟨rfl,λi v v' h=>by simp at h⟩
  | cons hv _ ih=>
   refine ⟨by simp [ih.1],λi u u' h h'=> ?_⟩;cases i with
   | zero=>simp at h h';subst h;subst h';exact hv
   | succ i=>simp at h h';exact ih.2 i u u' h h'
 obtain ⟨h1,h2⟩:=key h;exact ⟨by simpa using h1,λi v v' a b=>h2 i v v' (by simpa using a) (by simpa using b)⟩
theorem uj(H:fW L C)(fn:Func){x x':Array Value}(hx:aG β x x'):aC L C ay β (results fn x) (results fn x'):=by
 unfold results;refine aC.bd (RA:=aG) ?_ ?_
 ·rw [Array.mapM_eq_mapM_toList,Array.mapM_eq_mapM_toList];have key: ∀(l:List ResultVar) {β:Bj},aG β x x'->aC L C nI β (l.mapM fun | .tmp t=>pure (x.getD t undef) | .cell a t=>do loadVar t (←asAddr (x.getD a undef))) (l.mapM fun | .tmp t=>pure (x'.getD t undef) | .cell a t=>do loadVar t (←asAddr (x'.getD a undef))):=by
   intro l
   induction l with
   | nil=>intro β _;simp only [List.mapM_nil];exact .pure .nil
   | cons r l ih=>
    intro β hx;simp only [List.mapM_cons];refine aC.bd (RA:=ay) ?_ ?_
    ·cases r with
     | tmp t=>exact .pure (hx.getD t)
     | cell a t=>exact (wb (hx.getD a)).bd λgW v v' hl hv=>uf H t hv
    ·intro gW v v' cP hv;refine (ih (hx.mono cP)).bd ?_;intro pD vs vs' gC SI;exact .pure (.cons (hv.mono gC) SI)
  rw [map_eq_pure_bind,map_eq_pure_bind];refine (key fn.results.toList hx).bd ?_;intro gW l l' hl hls;exact .pure hls.array
 ·intro gW v v' hl hv;refine .pure ?_;by_cases h1:v.size=1
  ·have h2:v'.size=1:=hv.1▸h1;rw [dif_pos h1,dif_pos h2];exact hv.2 0 _ _ (Array.getElem?_eq_getElem (by omega)) (Array.getElem?_eq_getElem (by omega))
  ·have h2: ¬v'.size=1:=hv.1▸h1;rw [dif_neg h1,dif_neg h2];exact hv.F8
end
end Go.Cx
namespace Go.Cx
open Go
variable[aV][aJ][aY]
inductive Out(L C:Program)(Xs:FuncId->Prop)(t:Frame)(r bs':List Frame)(β:Bj)(g g':Goroutine):Prop
 | on:Ku L C Xs β (t::r) bs' g g'->Out L C Xs t r bs' β g g'
 | back {v v':Value} {t':Frame} {r':List Frame}:ay β v v'->g=gb (t.finish v) r->bs'=t'::r'->g'=gb (t'.finish v') r'->Out L C Xs t r bs' β g g'
def ze(L C:Program)(Xs:FuncId->Prop)(t:Frame)(r bs':List Frame)(β:Bj)(w W w1:World)(g1:Goroutine)(T:GStep):Prop:=
 ∃bR W1 wu BW,T= .go wu W1 BW/\Out L C Xs t r bs' bR g1 wu/\bZ bR w1 W1/\lM β bR w w1 W W1/\ ∀e∈BW,sT bR w1 e
section
variable{L C:Program}{Xs:FuncId->Prop}{β:Bj}{t:Frame}{r bs':List Frame}{w W w1:World}{g1:Goroutine}
theorem IU{β bR:Bj}{w2 W2:World}{es:Array Event}{T:GStep}(hT:lM β bR w w2 W W2)(he: ∀e∈es,sT bR w2 e)(h:ze L C Xs t r bs' bR w2 W2 w1 g1 T):ze L C Xs t r bs' β w W w1 g1 (GStep.after es T):=by
 obtain ⟨γ,W1,wu,BW,h1,h2,h3,h4,h5⟩:=h;subst h1;refine ⟨γ,W1,wu,es++BW,rfl,h2,h3,hT.trans h4,λe q=> ?_⟩;rcases qc7.1 q with q | q
 ·exact (he e q).my h4
 ·exact h5 e q
theorem tD{α:Type}{RA:Bj->α->α->Prop}{s s':Sem α}(hs:aC L C RA β s s')(hw:bZ β w W)(ht:gH w W){f f':FuncId}{F F':Result α->GStep}{es:Array Event}
  (h:GStep.after (seen L f (s.runT L w #[]).2) (F (s.runT L w #[]).1)= .go g1 w1 es) (hh: ∀q w2 rH,F (.halt q w2)= .go g1 w1 rH->False)
  (qF: ∀bR v v' w2 W2 rH,RA bR v v'->bZ bR w2 W2->gH w2 W2->lM β bR w w2 W W2->F (.ok v w2)= .go g1 w1 rH->ze L C Xs t r bs' bR w2 W2 w1 g1 (F' (.ok v' W2))):
  ze L C Xs t r bs' β w W w1 g1 (GStep.after (seen C f' (s'.runT C W #[]).2) (F' (s'.runT C W #[]).1)):=by
 obtain ⟨rH,h⟩:=tx h;rw [Sem.runT_fst] at h;cases bH:s.run L w with
 | halt q w2=>rw [bH] at h;exact (hh _ _ _ h).elim
 | ok v w2=>
  rw [bH] at h;obtain ⟨v',W2,bR,BW,e1,e2,e3,e4,e5⟩:=hs.run #[] hw ht bH;rw [e1];refine IU e4 (λe q=> ?_) (qF bR v v' w2 W2 rH e2 e3 (ht.my e4) e4 h);simp only [Array.empty_append] at q;exact e5 e (Gp q)
theorem pQ{β:Bj}{T:GStep}{wu:Goroutine}(hT:T= .go wu W)(ho:Out L C Xs t r bs' β g1 wu)(hw:bZ β w W):ze L C Xs t r bs' β w W w g1 T:=
 ⟨β,W,wu, #[],hT,ho,hw,lM.refl _ _ _,λe q=>by simp at q⟩
theorem Kv{a b:Frame}{k k':List Frame}{m m':Bool}(fl:cF L C β (a::k) (b::k'))(NC:bs'≠[]\/k≠[]){v v':Value}(hv:ay β v v')(hw:bZ β w W){es:Array Event}
  (h:doReturn L m a (k++t::r) none v w= .go g1 w1 es):ze L C Xs t r bs' β w W w1 g1 (doReturn C m' b (k'++bs') none v' W):=by
 have ha:=fl.top;unfold doReturn at h ⊢;rw [ha.kind.1] at h;rw [ha.kind.2];cases fl with
 | one _ hr=>
  obtain ⟨t',r',rfl⟩: ∃t' r',bs'=t'::r':=by
   cases bs' with
   | nil=>rcases NC with h | h <;> exact absurd rfl h
   | cons t' r'=>exact ⟨t',r',rfl⟩
  simp only [qb8] at h ⊢;cases h;exact pQ rfl (.back hv rfl rfl rfl) hw
 | cons _ hk=>
  cases hk with
  | one h2 hr=>
   simp only [qc9,qb8] at h ⊢;cases h;exact pQ rfl (.on (.on (k:=[]) (k':=[]) (.one (h2.finish hv) ((j8 _ _).trans hr)))) hw
  | cons h2 hk=>
   simp only [qc9] at h ⊢;cases h;exact pQ rfl (.on (.on (.cons (h2.finish hv) hk))) hw
end
end Go.Cx
namespace Go.Cx
open Go
variable[aV][aJ][aY]
def Lv(p:Program)(main:Bool)(fr:Frame)(cs:List Frame)(w:World)(jump:Option Code):GStep:=
 match fr.roundOf with
 | none=>if jump matches none | some .ret then .go { frame:={ fr with mode:= .returning },callers:=cs,status:= .running,dying:=none } w else .ended (.stuck "exit, goto: no such block or label" (fr.pos p)) w
 | some l=>
  GStep.after (seen p fr.fn ((Instr.endRound l jump).runT p w #[]).2) <| match ((Instr.endRound l jump).runT p w #[]).1 with
  | .ok v w=>doReturn p main fr cs none v w
  | .halt _ w=> .ended (.stuck "range over a function: no such loop" (fr.pos p)) w
section
variable{L C:Program}{Xs:FuncId->Prop}{β:Bj}{t:Frame}{r bs':List Frame}{w W w1:World}{g1:Goroutine}
omit [aV] [aJ] [aY] in
theorem Eh(p:Program)(m:Bool)(a:Frame)(cs:List Frame)(w:World)(h:a.todo=[]):stepG.exec p m true a cs none w=Lv p m a cs w none:=by
 obtain ⟨fn,tm,todo,df,md,kd,ro⟩:=a;simp only at h;subst h;rfl
omit [aV] [aJ] [aY] in
theorem Ei(p:Program)(m:Bool)(a:Frame)(k:List Item)(cs:List Frame)(w:World)(h:a.todo= .code .ret::k):stepG.exec p m true a cs none w=Lv p m a cs w (some .ret):=by
 obtain ⟨fn,tm,todo,df,md,kd,ro⟩:=a;simp only at h;subst h;rfl
omit [aV] [aJ] [aY] in
theorem zF(p:Program)(m:Bool)(a:Frame)(id:Nat)(k:List Item)(cs:List Frame)(w:World)(h:a.todo= .code (.exit id)::k)(hx:exitTo id k=none):stepG.exec p m true a cs none w=Lv p m a cs w (some (.exit id)):=by
 obtain ⟨fn,tm,todo,df,md,kd,ro⟩:=a;simp only at h;subst h;unfold stepG.exec Lv;simp only [hx];rfl
omit [aJ] in
theorem iU.aao{a b:Frame}(h:iU L C β a b){x x':List Item}(hx:oE L C β x x'):iU L C β { a with todo:=x } { b with todo:=x' }:=⟨h.fn,h.tmps,hx,h.defers,h.mode,h.kind,h.round,h.xL⟩
omit [aJ] in
theorem cF.todo{a b:Frame}{k k':List Frame}(h:cF L C β (a::k) (b::k')){x x':List Item}(hx:oE L C β x x'):cF L C β ({ a with todo:=x }::k) ({ b with todo:=x' }::k'):=h.swap (h.top.aao hx) rfl
theorem IV(HF:PF L C Xs){a b:Frame}{k k':List Frame}{m m':Bool}(fl:cF L C β (a::k) (b::k'))(hm:a.mode= .run){j:Option Code}(hj: ∀c,j=some c->cB L C c)(hw:bZ β w W)(ht:gH w W){es:Array Event}
  (h:Lv L m a (k++t::r) w j= .go g1 w1 es):ze L C Xs t r bs' β w W w1 g1 (Lv C m' b (k'++bs') W j):=by
 have ha:=fl.top;obtain ⟨fn,tm,todo,df,md,kd,ro⟩:=a;obtain ⟨jd,CY,tv,Ik,IT,F1,CZ⟩:=b;have vu:=ha.round;simp only at vu hm;unfold Lv at h ⊢;cases vu with
 | none=>
  simp only at h ⊢;split at h
  all_goals first
   | (cases h;exact pQ rfl (.on (.on (fl.swap ⟨ha.fn,ha.tmps,ha.todo,ha.defers, .inr ⟨rfl,rfl,rfl⟩,ha.kind,ha.round,ha.xL⟩ rfl))) hw)
   | (simp at h)
 | some hl=>
  simp only at h ⊢;refine tD (F:=λq=>match q with
   | .ok v w=>doReturn L m _ (k++t::r) none v w
   | .halt _ w=> .ended (.stuck "range over a function: no such loop" _) w) (F':=λq=>match q with
   | .ok v w=>doReturn C m' _ (k'++bs') none v w
   | .halt _ w=> .ended (.stuck "range over a function: no such loop" _) w) (vt hl j λc hc=>(HF.code c).2 (hj c hc)) hw ht h ?_ ?_
  ·intro q w2 rH h;cases h
  ·intro bR v v' w2 W2 rH hv th ht2 hT h;refine Kv (fl.mono hT.le) (.inr λq=> ?_) hv th h;subst q;cases fl with
   | one _ q=>cases q
   | cons _ q=>cases q
theorem vv(HP:fW L C)(HF:PF L C Xs){a b:Frame}{k k':List Frame}(fl:cF L C β (a::k) (b::k')){s s':Sem Next}(hs:aC L C lN β s s')(hw:bZ β w W)(ht:gH w W){es:Array Event}
  (h:stepG.apply L true a (k++t::r) none s w= .go g1 w1 es) (hp: ¬cR g1):ze L C Xs t r bs' β w W w1 g1 (stepG.apply C true b (k'++bs') none s' W):=by
 obtain ⟨bR,W1,wu,BW,h1,h2,h3,h4,h5⟩:=Ma HP HF fl hs hw ht h hp;exact ⟨bR,W1,wu,BW,h1, .on h2,h3,h4,h5⟩
end
end Go.Cx
namespace Go.Cx
open Go
variable[aV][aJ][aY]
section
variable{L C:Program}{Xs:FuncId->Prop}{β:Bj}{t:Frame}{r bs':List Frame}{w W w1:World}{g1:Goroutine}
theorem IW(HP:fW L C){ρ qB:Operand->Value}{f:Operand}{v v':Value}(hf:ay β (ρ f) (qB f))(hv:ay β (ρ (.const v)) (qB (.const v'))):
  aC L C lN β (do let d←resolve ρ { callee:= .value f,args:= #[.const v],argTypes:= #[] } 0;invoke d.target d.args) (do let d←resolve qB { callee:= .value f,args:= #[.const v'],argTypes:= #[] } 0;invoke d.target d.args):=by
 refine aC.bd (RA:=λβ (d d':Deferred)=>aan β d d'/\ ∀b ts u cs,d.target= .builtin b ts u cs->okB b=true/\ ∀ty∈ts,LJ L ty) ?_ ?_
 ·unfold resolve;have ha:aG β (#[Operand.const v].map ρ) (#[Operand.const v'].map qB):=by
   simp only [qbi,qb5,qbm];exact aG.one hv
  dsimp only;unfold Deferred.ofValue;generalize ρ f=u at hf;generalize qB f=u' at hf;cases hf with
  | func g a1 a2 a3 a4=>exact .pure ⟨⟨.fn g ⟨a2,a4⟩,aG.append ⟨a1,a3⟩ ha⟩,λb' ts u cs q=>by cases q⟩
  | oC=>exact .pure ⟨⟨.nil,ha⟩,λb' ts u cs q=>by cases q⟩
  | _=>exact ao
 ·intro gW d d' hl ⟨h1,h2⟩;exact Gm HP h1.target h2 h1.args
omit [aV] [aJ] [aY] in
theorem zG(p:Program)(a:Frame)(cs:List Frame)(w:World){o:Oper}(ho:a.oper? =some o)(hd: ∀c,o.op≠ .defer c):stepG.oper p true a cs none w=stepG.apply p true a cs none (execOp a.eval o) w:=by
 unfold stepG.oper;rw [ho];simp only;split
 ·rename_i q;exact absurd q (hd _)
 ·rfl
theorem Ov(HP:fW L C)(HF:PF L C Xs){a b:Frame}{k k':List Frame}{m m':Bool}(fl:cF L C β (a::k) (b::k'))(hm:a.mode= .run)(hw:bZ β w W)(ht:gH w W){es:Array Event}
  (h:stepG.exec L m true a (k++t::r) none w= .go g1 w1 es) (hp: ¬cR g1):ze L C Xs t r bs' β w W w1 g1 (stepG.exec C m' true b (k'++bs') none W):=by
 have ha:=fl.top;obtain ⟨fn,tm,todo,df,md,kd,ro⟩:=a;obtain ⟨jd,CY,tv,Ik,IT,F1,CZ⟩:=b;have hT:=ha.todo;have xB:=ha.fn;simp only at hT hm xB;subst xB;have RU:IT= .run:=by rcases ha.mode with h | h;exact h.2;(rw [show md=_ from h.1] at hm;cases hm)
 subst hm;subst RU;have ND: ∀{x x':List Item} {es:Array Event},oE L C β x x'->GStep.go { frame:={ fn:=jd,tmps:=tm,todo:=x,defers:=df,mode:= .run,kind:=kd,roundOf:=ro },callers:=k++t::r,status:= .running,dying:=none } w= .go g1 w1 es->
   ze L C Xs t r bs' β w W w1 g1 (GStep.go { frame:={ fn:=jd,tmps:=CY,todo:=x',defers:=Ik,mode:= .run,kind:=F1,roundOf:=CZ },callers:=k'++bs',status:= .running,dying:=none } W):=by
  intro x x' es hx h;cases h;exact pQ rfl (.on (.on (fl.todo hx))) hw
 cases hT with
 | nil=>
  rw [Eh _ _ _ _ _ rfl] at h;rw [Eh _ _ _ _ _ rfl];exact IV HF fl rfl (λc h=>by cases h) hw ht h
 | @cons i_ i_' K K' hi hk=>
  cases hi with
  | inBlock id=>exact ND hk h
  | inLoop hc=>exact ND (.cons (.code hc) (.cons (.inLoop hc) hk)) h
  | lP hl=>cases h
  | beginRound=>
   have vu:=ha.round;simp only at vu;refine vv HP HF fl ?_ hw ht h hp;cases vu with
   | none=>exact (aQ.dP aQ.halt).rel
   | some hl=>exact (rI hl).bd λgW _ _ hl _=> .pure .skip
  | @kN l l' hl=>
   refine tD (F:=λq=>match q with
     | .ok jump w=> .go { frame:={ fn:=jd,tmps:=tm,todo:=(jump.map Item.code).toList++_,defers:=df,mode:= .run,kind:=kd,roundOf:=ro },callers:=k++t::r,status:= .running,dying:=none } w
     | .halt (.panic v) w=> .go { frame:=Frame.raise _ [{ v,recovered:=false }],callers:=k++t::r,status:= .running,dying:=none } w
     | .halt _ w=> .ended (.stuck "range over a function: no such loop" _) w)
    (F':=λq=>match q with
     | .ok jump w=> .go { frame:={ fn:=jd,tmps:=CY,todo:=(jump.map Item.code).toList++_,defers:=Ik,mode:= .run,kind:=F1,roundOf:=CZ },callers:=k'++bs',status:= .running,dying:=none } w
     | .halt (.panic v) w=> .go { frame:=Frame.raise _ [{ v,recovered:=false }],callers:=k'++bs',status:= .running,dying:=none } w
     | .halt _ w=> .ended (.stuck "range over a function: no such loop" _) w) (xO hl) hw ht h ?_ ?_
   ·intro q w2 rH h;cases q with
    | panic v=>cases h;exact hp (oo _ _)
    | _=>cases h
   ·intro bR v v' w2 W2 rH hv th ht2 hT h;obtain ⟨rfl,hv⟩:=hv;cases h;refine pQ rfl (.on (.on ((fl.mono hT.le).todo ?_))) th;cases v with
    | none=>exact hk.mono hT.le
    | some c=>exact .cons (.code ((HF.code _).1 (hv c rfl))) (hk.mono hT.le)
  | @inRegion ops td ho=>
   cases td with
   | nil=>exact ND hk h
   | cons i td=>
    simp only [stepG.exec] at h ⊢;rw [←Gn ops ha.tmps];split at h
    ·rename_i hq;rw [if_pos hq];cases cG:ops[i]? with
     | none=>rw [cG] at hq;cases hq
     | some o=>
      have qF:=ho o (qb3 cG);have hd: ∀c,o.op≠ .defer c:=λc q=>by rw [q] at qF;exact qF
      rw [zG _ _ _ _ (o:=o) (by simp only [Frame.oper?];exact cG) hd] at h;rw [zG _ _ _ _ (o:=o) (by simp only [Frame.oper?];exact cG) hd];exact vv HP HF fl (IS HP ha.eval o qF) hw ht h hp
    ·rename_i hq;rw [if_neg hq];cases h;exact pQ rfl (.on (.on (fl.swap (ha.finish ui) (j8 _ _)))) hw
  | code hc=>
   cases hc with
   | skip=>exact ND hk h
   | label l=>exact ND hk h
   | ret=>
    rw [Ei _ _ _ _ _ _ rfl] at h;rw [Ei _ _ _ _ _ _ rfl];exact IV HF fl rfl (λc h=>by cases h;exact .ret) hw ht h
   | seq h1 h2=>exact ND (.cons (.code h1) (.cons (.code h2) hk)) h
   | block id h1=>exact ND (.cons (.code h1) (.cons (.inBlock id) hk)) h
   | loop h1=>exact ND (.cons (.code h1) (.cons (.inLoop h1) hk)) h
   | exit id=>
    rcases Af id hk with ⟨e1,e2⟩ | ⟨q,q',e1,e2,hq⟩
    ·rw [zF _ _ _ id _ _ _ rfl e1] at h;rw [zF _ _ _ id _ _ _ rfl e2];exact IV HF fl rfl (λc h=>by cases h;exact .exit id) hw ht h
    ·simp only [stepG.exec,e1,Option.elim_some] at h;simp only [stepG.exec,e2,Option.elim_some];exact ND hq h
   | @cond c x y hc h1 h2=>
    have he:=ha.eval c hc;simp only [stepG.exec] at h ⊢;revert h;generalize Frame.eval _ c=u at he;generalize Frame.eval _ c=u' at he;intro h;cases he with
    | bool q=>
     cases q with
     | true=>exact ND (.cons (.code h1) hk) h
     | false=>exact ND (.cons (.code h2) hk) h
    | _=>cases h
   | @region id ops draw ho=>
    cases draw with
    | false=>exact ND (.cons (.inRegion _ ho) hk) h
    | true=>
     simp only [stepG.exec,qai,qa7,if_false] at h ⊢;rw [HF.follows];cases bH:(choose (.order jd id)).run L w with
     | halt q w2=>rw [bH] at h;cases h
     | ok n w2=>
      rw [bH] at h;have hs:aC L C (fF λ_=>True) β (choose (.order jd id)) (choose (.order jd id)):= .choose λn=> .pure ⟨rfl,trivial⟩;obtain ⟨n',W1,bR,BW,e1,⟨e2,_⟩,e3,e4,e5⟩:=hs.run #[] hw ht bH;have e6:(choose (.order jd id)).run C W= .ok n' W1:=by rw [←Sem.runT_fst C _ W #[],e1]
      rw [e6];subst e2;cases h;exact ⟨bR,W1,_, #[],rfl, .on (.on ((fl.mono e4.le).todo (.cons (.inRegion _ ho) (hk.mono e4.le)))),e3,e4,λe q=>by simp at q⟩
   | @rangeFunc f ps x y hf h1 h2=>
    refine tD (F:=λq=>match q with
      | .ok (l,mark) w=>stepG.apply L true { fn:=jd,tmps:=tm,todo:= .inRangeFunc l::_,defers:=mark++df,mode:= .run,kind:=kd,roundOf:=ro } (k++t::r) none (do let d←resolve (Frame.eval { fn:=jd,tmps:=tm,todo:= .inRangeFunc l::_,defers:=mark++df,mode:= .run,kind:=kd,roundOf:=ro }) { callee:= .value f,args:= #[.const (.func (.yield l) #[] #[])],argTypes:= #[] } 0;invoke d.target d.args) w
      | .halt _ w=> .ended (.stuck "range over a function: no such loop" _) w)
     (F':=λq=>match q with
      | .ok (l,mark) w=>stepG.apply C true { fn:=jd,tmps:=CY,todo:= .inRangeFunc l::_,defers:=mark++Ik,mode:= .run,kind:=F1,roundOf:=CZ } (k'++bs') none (do let d←resolve (Frame.eval { fn:=jd,tmps:=CY,todo:= .inRangeFunc l::_,defers:=mark++Ik,mode:= .run,kind:=F1,roundOf:=CZ }) { callee:= .value f,args:= #[.const (.func (.yield l) #[] #[])],argTypes:= #[] } 0;invoke d.target d.args) w
      | .halt _ w=> .ended (.stuck "range over a function: no such loop" _) w) (tz jd ps ha.tmps ((HF.code _).2 h1) ((HF.code _).2 h2) ha.round) hw ht h ?_ ?_
    ·intro q w2 rH h;cases h
    ·rintro bR ⟨l,mk⟩ ⟨l',mk'⟩ w2 W2 rH ⟨hl,hmk⟩ th ht2 hT h;have qH:=ha.mono hT.le;have Ah:cF L C bR ({ fn:=jd,tmps:=tm,todo:= .inRangeFunc l::K,defers:=mk++df,mode:= .run,kind:=kd,roundOf:=ro }::k) ({ fn:=jd,tmps:=CY,todo:= .inRangeFunc l'::K',defers:=mk'++Ik,mode:= .run,kind:=F1,roundOf:=CZ }::k'):=
      (fl.mono hT.le).swap ⟨rfl,qH.tmps, .cons (.lP hl) (hk.mono hT.le),hmk.append qH.defers, .inl ⟨rfl,rfl⟩,ha.kind,qH.round,qH.xL⟩ rfl
     refine vv HP HF Ah (IW HP (Ah.top.eval f hf) ?_) th ht2 h hp;exact .func (.yield hl) rfl rfl (λi v v' q=>by simp at q) (λi v v' q=>by simp at q)
end
end Go.Cx
namespace Go.Cx
open Go
variable[aV][aJ][aY]
section
variable{L C:Program}{Xs:FuncId->Prop}{β:Bj}{t:Frame}{r bs':List Frame}{w W w1:World}{g1:Goroutine}
theorem IX(HP:fW L C){a b:Frame}{k k':List Frame}{m m':Bool}(fl:cF L C β (a::k) (b::k'))(NC:bs'≠[]\/k≠[]\/a.defers≠[])(hm:a.mode= .returning)(hw:bZ β w W)(ht:gH w W){es:Array Event}
  (h:unwind L m a (k++t::r) none w= .go g1 w1 es):ze L C Xs t r bs' β w W w1 g1 (unwind C m' b (k'++bs') none W):=by
 have ha:=fl.top;obtain ⟨fn,tm,todo,df,md,kd,ro⟩:=a;obtain ⟨jd,CY,tv,Ik,IT,F1,CZ⟩:=b;have hD:=ha.defers;have xB:=ha.fn;simp only at hD hm xB;subst xB;subst hm;obtain ⟨RU,vu⟩:IT= .returning/\ro=none:=by rcases ha.mode with h | h;(cases h.1);exact ⟨h.2.1,h.2.2⟩
 subst RU;subst vu;unfold unwind at h ⊢;cases hD with
 | @cons q q' ds ds' hq hd=>
  simp only at h ⊢;refine tD (F:=λx=>match x with
    | .ok calls w=> .go { frame:={ fn:=jd,tmps:=tm,todo:=todo,defers:=calls++ds,mode:= .returning,kind:=kd,roundOf:=none },callers:=k++t::r,status:= .running,dying:=none } w
    | .halt _ w=> .ended (.stuck "the deferred calls of a range-over-func loop have been taken" _) w)
   (F':=λx=>match x with
    | .ok calls w=> .go { frame:={ fn:=jd,tmps:=CY,todo:=tv,defers:=calls++ds',mode:= .returning,kind:=F1,roundOf:=CZ },callers:=k'++bs',status:= .running,dying:=none } w
    | .halt _ w=> .ended (.stuck "the deferred calls of a range-over-func loop have been taken" _) w) (oF hq) hw ht h ?_ ?_
  ·intro q w2 rH h;cases h
  ·rintro bR v v' w2 W2 rH ⟨rfl,rfl⟩ th ht2 hT h;have qH:=ha.mono hT.le;cases h;exact pQ rfl (.on (.on ((fl.mono hT.le).swap ⟨rfl,qH.tmps,qH.todo,hd.mono hT.le, .inr ⟨rfl,rfl,rfl⟩,ha.kind,qH.round,qH.xL⟩ rfl))) th
 | nil=>
  simp only at h ⊢;obtain ⟨f,e1,e2⟩:=ha.xL rfl;simp only at e1 e2;rw [e1] at h;rw [e2];simp only at h ⊢;refine tD (F:=λx=>match x with
    | .ok v w=>doReturn L m { fn:=jd,tmps:=tm,todo:=todo,defers:=[],mode:= .returning,kind:=kd,roundOf:=none } (k++t::r) none v w
    | .halt (.stuck s) w=> .ended (.stuck s _) w
    | .halt _ w=> .ended (.stuck "return: the result variables cannot be read" _) w)
   (F':=λx=>match x with
    | .ok v w=>doReturn C m' { fn:=jd,tmps:=CY,todo:=tv,defers:=[],mode:= .returning,kind:=F1,roundOf:=CZ } (k'++bs') none v w
    | .halt (.stuck s) w=> .ended (.stuck s _) w
    | .halt _ w=> .ended (.stuck "return: the result variables cannot be read" _) w) (uj HP f ha.tmps) hw ht h ?_ ?_
  ·intro q w2 rH h;cases q <;> cases h
  ·rintro bR v v' w2 W2 rH hv th ht2 hT h;exact Kv (fl.mono hT.le) (NC.imp id λh=>h.resolve_right λq=>q rfl) hv th h
theorem tE(HP:fW L C)(HF:PF L C Xs){a b:Frame}{k k':List Frame}{m m':Bool}(fl:cF L C β (a::k) (b::k'))(NC:bs'≠[]\/k≠[]\/a.mode= .run\/a.defers≠[])(hw:bZ β w W)(ht:gH w W){es:Array Event}
  (h:stepG L m (gb a (k++t::r)) w= .go g1 w1 es) (hp: ¬cR g1):ze L C Xs t r bs' β w W w1 g1 (stepG C m' (gb b (k'++bs')) W):=by
 rcases fl.top.mode with ⟨m1,m2⟩ | ⟨m1,m2,_⟩
 ·unfold stepG gb at h ⊢;simp only [m1,m2] at h ⊢;exact Ov HP HF fl m1 hw ht h hp
 ·unfold stepG gb at h ⊢;simp only [m1,m2] at h ⊢;exact IX HP fl (NC.imp id λh=>h.imp id λh=>h.resolve_left λq=>by rw [m1] at q;cases q) m1 hw ht h
end
end Go.Cx
namespace Go.Cx
open Go
variable[aV][aJ][aY]
abbrev TW(w:World)(τ:Tape):World:={ w with tape:=τ }
theorem aC.tape{Pl Pc:Program}{α:Type}{RA:Bj->α->α->Prop}{β:Bj}{s t:Sem α}(h:aC Pl Pc RA β s t): ∀{w W w1:World} {a:α},bZ β w W->s.run Pl w= .ok a w1->
  (∃a' W1 bR,RA bR a a'/\bZ bR w1 W1/\Le β bR)/\w.drawn<=w1.drawn/\w1.tape=w.tape/\(Dw w->Dw w1)/\ ∀τ:Tape,(∀j q,w.drawn<=j->j<w1.drawn->τ j q=w.tape j q)->s.run Pl (TW w τ)= .ok a (TW w1 τ):=by
 induction h with
 | pure ha=>
  intro w W w1 a hw hr;cases hr;exact ⟨⟨_,W,_,ha,hw,Le.refl _⟩,qa3 _,rfl,id,λτ _=>rfl⟩
 | @load β ad nS k k' F0 _ ih=>
  intro w W w1 a hw hr;simp only [Sem.run] at hr;cases hc:w.cell? ad with
  | none=>
   exfalso;obtain ⟨e,he⟩:=hw.aaa F0.block Pl (Mode.plain==Mode.atomic);rw [hc] at hr;simp only [he] at hr;cases hr
  | some v=>
   rw [hc] at hr;obtain ⟨v',BU,hvr⟩:=hw.cell F0 hc;obtain ⟨h1,h2,h3,hd,h4⟩:=ih v v' hvr hw hr;refine ⟨h1,h2,h3,hd,λτ nW=> ?_⟩;have RX:(TW w τ).cell? ad=some v:=hc;simp only [Sem.run,RX];exact h4 τ nW
 | @store β ad nS v v' k k' F0 hv _ ih=>
  intro w W w1 a hw hr;have xJ:(∀c,v≠ .agg c)/\ ∀c,v≠ .tuple c:=by
   constructor
   ·rintro c rfl;cases hr
   ·rintro c rfl;cases hr
  have Kq: ∀w,(Sem.store .plain ad v k).run Pl w=(match w.cell? ad with
    | some _=>if w.frozen? ad then Result.halt (.unsupported (.unsafePointer "a write to bytes that a string shares")) w else k.run Pl (w.setCell ad v)
    | none=>match w.farStore Pl ad v (Mode.plain==Mode.atomic) with
     | .ok (w,_)=>k.run Pl w
     | .error h=> .halt h w):=by
   intro w;cases v <;> first | rfl | exact absurd rfl (xJ.1 _) | exact absurd rfl (xJ.2 _)
  rw [Kq] at hr;cases hc:w.cell? ad with
  | none=>
   exfalso;obtain ⟨e,he⟩:=hw.aab F0.block Pl v (Mode.plain==Mode.atomic);rw [hc] at hr;simp only [he] at hr;cases hr
  | some u=>
   rw [hc] at hr;simp only at hr;cases hf:w.frozen? ad with
   | true=>rw [hf] at hr;cases hr
   | false=>
    rw [hf] at hr;simp only [qa7,if_false] at hr;obtain ⟨_,hf',CS,hT,hE⟩:=vp hw F0 hv hc hf;obtain ⟨⟨a',W1,bR,g1,g2,g3⟩,h2,h3,hd,h4⟩:=ih CS hr;refine ⟨⟨a',W1,bR,g1,g2,hT.le.trans g3⟩,h2,h3,λh=>hd (zZ h),λτ nW=> ?_⟩;have RX:(TW w τ).cell? ad=some u:=hc;have hf2:(TW w τ).frozen? ad=false:=hf;rw [Kq,RX];simp only [hf2,qa7,if_false];exact h4 τ nW
 | @new β o o' k k' ho _ ih=>
  intro w W w1 a hw hr;obtain ⟨CS,hT⟩:=zY hw ho.o ho.no;obtain ⟨⟨a',W1,bR,g1,g2,g3⟩,h2,h3,hd,h4⟩:=ih _ w.heap.size W.heap.size hT.le (.inr ⟨rfl,rfl⟩) CS hr;exact ⟨⟨a',W1,bR,g1,g2,hT.le.trans g3⟩,h2,h3,λh=>hd (D9 h ho.dw),h4⟩
 | @shape β r r' k k' hb _ ih=>
  intro w W w1 a hw hr;exact ih _ hw hr
 | @getObj β r r' k k' hb _ ih=>
  intro w W w1 a hw hr;obtain ⟨x,x',k1,k2,k3⟩:=hw.obj _ _ hb;simp only [Sem.run,k1] at hr;cases k3 with
  | cells e hc=>cases hr
  | lock e hc=>cases hr
  | @loop l l' hl=>
   obtain ⟨h1,h2,h3,hd,h4⟩:=ih (.loop l) (.loop l') (.loop hl) hw hr;exact ⟨h1,h2,h3,hd,λτ nW=>by simp only [Sem.run,k1];exact h4 τ nW⟩
  | @num ad nS lost ha=>
   obtain ⟨h1,h2,h3,hd,h4⟩:=ih _ _ (.num lost ha) hw hr;exact ⟨h1,h2,h3,hd,λτ nW=>by simp only [Sem.run,k1];exact h4 τ nW⟩
  | BT b=>
   obtain ⟨h1,h2,h3,hd,h4⟩:=ih _ _ (.BT b) hw hr;exact ⟨h1,h2,h3,hd,λτ nW=>by simp only [Sem.run,k1];exact h4 τ nW⟩
 | @setObj β r r' o o' k k' hb ho hn _ ih=>
  intro w W w1 a hw hr;obtain ⟨x,x',k1,k2,k3⟩:=hw.obj _ _ hb;have hx: ∀c e f,x≠ .cells c e f:=by
   rintro c e f rfl;simp only [Sem.run,k1] at hr;cases hr
  have Kq: ∀w:World,w.heap[r]? =some x->(Sem.setObj r o k).run Pl w=k.run Pl { w with heap:=w.heap.setIfInBounds r o }:=by
   intro w hk;simp only [Sem.run,hk]
  rw [Kq w k1] at hr;obtain ⟨_,CS,hT⟩:=tk hw hb ho.o k1 hx hn;obtain ⟨⟨a',W1,bR,g1,g2,g3⟩,h2,h3,hd,h4⟩:=ih CS hr;exact ⟨⟨a',W1,bR,g1,g2,hT.le.trans g3⟩,h2,h3,λh=>hd (xI h ho.dw),λτ nW=>by rw [Kq (TW w τ) k1];exact h4 τ nW⟩
 | @choose β q k k' _ ih=>
  intro w W w1 a hw hr;simp only [Sem.run] at hr;split at hr
  ·rename_i hq;obtain ⟨h1,h2,h3,hd,h4⟩:=ih 0 hw hr;exact ⟨h1,h2,h3,hd,λτ nW=>by simp only [Sem.run,hq,if_true];exact h4 τ nW⟩
  ·rename_i hq;obtain ⟨h1,h2,h3,hd,h4⟩:=ih _ (hw.draw (w.drawn+1) W.drawn) hr;have Im:w.drawn+1<=w1.drawn:=h2;refine ⟨h1,by omega,h3,λh=>hd h,λτ nW=> ?_⟩;simp only [Sem.run,hq,if_false];have h0:τ w.drawn q=w.tape w.drawn q:=nW _ _ (qa3 _) (by omega);show (k (q.cut (τ w.drawn q))).run Pl _=_;rw [h0];exact h4 τ λj q hj=>nW j q (by have:w.drawn+1<=j:=hj;omega)
 | program _ ih=>
  intro w W w1 a hw hr;exact ih hw hr
 | mark _ ih=>
  intro w W w1 a hw hr;exact ih hw hr
 | dead hd=>
  intro w W w1 a hw hr;exact absurd hr (hd.no _ _ _)
end Go.Cx
