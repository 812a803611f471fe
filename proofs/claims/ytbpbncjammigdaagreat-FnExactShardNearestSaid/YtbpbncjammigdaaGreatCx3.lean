/- One program beside another, one goroutine among others. -/
import Derived.Test.YtbpbncjammigdaaGreatAl
import Derived.Test.YtbpbncjammigdaaGreatCx2
import Derived.Conc.CrowdStepC2
import Derived.Conc.CrowdComm
import Derived.Test.YtbpbncjammigdaaGreatEng1
import Derived.Conc.EventLaws
import Derived.Conc.SmallLaws
import Derived.Laws.Rows
set_option linter.unusedVariables false
set_option linter.unusedSimpArgs false
set_option maxHeartbeats 4000000
namespace Go.Cx
open Go Go.Conc
section
variable{P:Program}{m:Bool}{Iv:World->Prop}{Ro:Nat->Prop}{Stop:(Nat->Prop)->Goroutine->World->Prop}{b:Frame}{k:List Item}{cs:List Frame}{ops:Array Oper}{S:Nat->Prop}{a:Act}{W:World}{i:Nat}{rest:List Nat}{o:Oper}
theorem J6{f:FuncId}{fn:Func}{cap:Array Value}{todo:List Item}{ds:List Deferred}(hd:a.defers={ target:= .fn (.func f) cap,args:= #[] }::ds)(hf:P.funcs[f]? =some fn)(yL:(fn.name== "runtime.NumGoroutine")=false)(hb:fn.body.isNone=false)(w:World):
  stepG P m (G { b.at a todo with mode:= .returning } cs) w= .go (G (Frame.enter P f cap .deferred) ({ b.at ⟨a.tmps,ds⟩ todo with mode:= .returning }::cs)) w:=by
 have h1: ¬fn.name= "runtime.NumGoroutine":=by simpa using yL
 have h2: ¬fn.body=none:=by cases hx:fn.body <;> simp_all
 simp [G,stepG,unwind,callDeferred,Frame.at,hd,invoke,callFunc,hf,h1,h2,GStep.after,seen_none]
theorem FI{c:Frame}(ho:ops[i]? =some o)(hw:Region.wanted o (yielded ops a.tmps)=true)(hk:b.kind= .deferred){XB:Array TypeId}(cG:o.op= .call { callee:= .builtin .recover,args:= #[],argTypes:=XB })(hc:c.mode= .returning)(w:World):
  stepG P m (G (b.at a (.inRegion ops (i::rest)::k)) (c::cs)) w= .go (G (b.at (a.put o.dst .nilIface) (.inRegion ops rest::k)) (c::cs)) w:=by
 have hr:(execOp a.eval o).run P w= .ok .recover w:=by
  unfold execOp;simp [cG,resolve,invoke,builtin]
 have he:(execOp a.eval o).events P w #[]= #[]:=by
  unfold execOp;simp [cG,resolve,invoke,builtin]
 have Et:(b.at a (.inRegion ops (i::rest)::k)).finish .nilIface=b.at (a.put o.dst .nilIface) (.inRegion ops rest::k):=by rw [Frame.finish_at,ho];rfl
 rw [stepG_oper ho hw, ←Et];have ht:tryRecover (b.at a (.inRegion ops (i::rest)::k)) (c::cs)=none:=by
  simp [tryRecover,Frame.at,hk,hc]
 simp [stepG.apply,hr,he,G,Frame.at,hk,GStep.after,seen_none] at ht ⊢;rw [ht]
end
end Go.Cx
namespace Go.Cx
open Go Go.Conc
open Go.ConcR (KK WgAt stA smA rd wr mk Payload DC0 Bk)
open Go.ConcN (WgLive RW WSit AtR0 AtK1 AtD1 AtD2 AtD3 AtD4 DWs Mode WD cnt Vc CTag upd sumTo ShN RelBy)
def Vp:Nat->Rk
 | 0=> .leaf
 | n+1=> .node λ_=>Vp n
theorem Kf(n:Nat):Rk.lt (Vp n) (Vp (n+1)):=⟨_,default,rfl,rfl⟩
abbrev IC:Nat->Loc->Prop:=λ_ _=>False
structure Wx where
 Ro:Nat->Prop
 bn:Nat
 num:Value
section
variable[Payload]
variable(C:Program)(ty:TypeId)(Wg Ch:Nat)(og:Nat->Value->(Nat->Prop)->World->Prop)
abbrev jA:World->Prop:=WgLive ty Wg
def LD(x:Wx)(_:Nat->Prop)(g:Goroutine)(w:World):Prop:= ∃m,Goes C false (RW ty Wg x.bn 1 0 0) (DWs Wg IC IC x.bn 1 1) (AtR0 C ty Wg x.bn 1 0 1 x.num) m g w
def FP(x:Wx)(i:Nat)(S:Nat->Prop)(g:Goroutine)(w:World):Prop:=
 g.status= .running/\ ∃g2 v z,stepG C false g w= .comm g2 #[scase Ch v z] true .send w #[]/\og i v S w/\ ∀w₁,Ry (jA ty Wg) x.Ro w w₁->dR C false (jA ty Wg) x.Ro (LD C ty Wg x) (λ_=>False) (Go.Conc.served g2 undef) w₁
inductive WS(x:Wx)(i:Nat):Nat->Rk->Nat->(Nat->Prop)->Goroutine->World->Prop
 | a {rk:Rk} {S:Nat->Prop} {g:Goroutine} {w:World}:Wk C false (jA ty Wg) x.Ro (FP C ty Wg Ch og x i) rk S g w->WS x i 9 rk 0 S g w
 | b {rk:Rk} {S:Nat->Prop} {g:Goroutine} {w:World}:Wk C false (jA ty Wg) x.Ro (LD C ty Wg x) rk S g w->WS x i 8 rk 0 S g w
 | c {s m d:Nat} {S:Nat->Prop} {g:Goroutine} {w:World}:WSit C ty Wg x.bn 1 IC IC 0 1 x.num s m d g w->WS x i s (Vp m) d S g w
end
section
variable[Payload]
variable{C:Program}{ty:TypeId}{Wg Ch:Nat}{og:Nat->Value->(Nat->Prop)->World->Prop}{x:Wx}{i s d:Nat}{rk:Rk}{S:Nat->Prop}{g:Goroutine}{w w₁:World}
theorem ady(hb:x.Ro x.bn)(h:Ry (jA ty Wg) (λb=>S b\/x.Ro b) w w₁):RW ty Wg x.bn 1 0 0 w w₁:=
 ⟨λb hb=>absurd hb (qar b),λ_=>h.iv,λ⟨cs,h1,h2⟩=>⟨cs,by rw [h.blk _ (.inr hb)];exact h1,h2⟩,ConcN.cell_of_block (h.blk _ (.inr hb)) 0⟩
theorem WS.rely(hb:x.Ro x.bn)(h:WS C ty Wg Ch og x i s rk d S g w)(hr:Ry (jA ty Wg) (λb=>S b\/x.Ro b) w w₁):WS C ty Wg Ch og x i s rk d S g w₁:=by
 cases h with
 | a h=>exact .a (h.rely hr)
 | b h=>exact .b (h.rely hr)
 | c h=>exact .c (h.rely (ady hb hr))
theorem LD.running{x:Wx}(h:LD C ty Wg x S g w):g.status= .running:=let ⟨_,h⟩:=h;Goes.running (λ_ _ x=>x.1) w (ConcN.RW.refl w) h
theorem WS.status(h:WS C ty Wg Ch og x i s rk d S g w)(hl:jA ty Wg w):g.status= .running\/g.status= .finished:=by
 cases h with
 | a h=>exact .inl ((h.cases hl).elim (λh=>h.1) λh=>h.1)
 | b h=>exact .inl ((h.cases hl).elim (λh=>h.running) λh=>h.1)
 | c h=>exact h.status
theorem WS.woken(h:WS C ty Wg Ch og x i s rk d S g w)(hl:jA ty Wg w)(a a':Goroutine)(w':World):woken C a a' w' g=g:=by
 unfold Go.Conc.woken;split
 ·exact again_running _ (h.status hl)
 ·rfl
theorem WS.running_of(h:WS C ty Wg Ch og x i s rk d S g w)(hl:jA ty Wg w)(hs:s≠1):g.status= .running:=by
 cases h with
 | a h=>exact (h.cases hl).elim (λh=>h.1) λh=>h.1
 | b h=>exact (h.cases hl).elim (λh=>h.running) λh=>h.1
 | c h=>exact h.running_of hs
end
section
variable(C:Program)(ty:TypeId)(Wg Ch n:Nat)(og:Nat->Value->(Nat->Prop)->World->Prop)[Payload](eC Old:Nat->Prop)(Kp:World->Prop)(Fin:(Nat->Prop)->Goroutine->World->Prop)
abbrev TM(St:(Nat->Prop)->Goroutine->World->Prop)(S:Nat->Prop)(g:Goroutine)(w:World):Prop:=dR C true (jA ty Wg) eC St S g w
def FO(e:Event)(Nx:(Nat->Prop)->Goroutine->World->Prop)(S:Nat->Prop)(g:Goroutine)(w:World):Prop:=g.status= .running/\ ∃g',stepG C true g w= .go g' w #[e]/\Nx S g' w
def adz:(Nat->Prop)->Goroutine->World->Prop:=FO C (mk (.acquire (stA Wg))) Fin
def MKe:(Nat->Prop)->Goroutine->World->Prop:=FO C (mk .enable) (TM C ty Wg eC (adz C Wg Fin))
def MW4(S:Nat->Prop)(g:Goroutine)(w:World):Prop:=g.status= .running/\(WgAt ty Wg w 0 0-> ∃g',stepG C true g w= .go g' w #[rd (stA Wg)]/\TM C ty Wg eC (MKe C ty Wg eC Fin) S g' w)
def MW3(S:Nat->Prop)(g:Goroutine)(w:World):Prop:=
 g.status= .running/\g.offers=none/\((∃st,WgAt ty Wg w st 0)->stepG C true g w= .go { g with status:= .blocked } w #[])/\
  (WgAt ty Wg w 0 1-> ∃g',stepG C true g w= .go g' (w.setCell (smA Wg) (.int .u32 0)) (semEvents (smA Wg))/\TM C ty Wg eC (MW4 C ty Wg eC Fin) S g' (w.setCell (smA Wg) (.int .u32 0)))
def adA:(Nat->Prop)->Goroutine->World->Prop:=FO C (mk (.write (smA Wg))) (TM C ty Wg eC (MW3 C ty Wg eC Fin))
variable(gz:(Nat->Prop)->Goroutine->World->Prop)
def MW2(vs:Nat)(S:Nat->Prop)(g:Goroutine)(w:World):Prop:=
 g.status= .running/\ ∀v:Nat,v<2147483648->WgAt ty Wg w (v*KK) 0->
  (v=vs-> ∃g',stepG C true g w= .go g' (w.setCell (stA Wg) (.int .u64 (v*KK+1))) #[rd (stA Wg),wr (stA Wg)]/\TM C ty Wg eC (adA C ty Wg eC Fin) S g' (w.setCell (stA Wg) (.int .u64 (v*KK+1))))/\
  (v≠vs-> ∃g',stepG C true g w= .go g' w #[rd (stA Wg)]/\TM C ty Wg eC gz S g' w)
def MW1(S:Nat->Prop)(g:Goroutine)(w:World):Prop:=
 g.status= .running/\ ∀v:Nat,v<2147483648->WgAt ty Wg w (v*KK) 0-> ∃g',stepG C true g w= .go g' w #[rd (stA Wg)]/\
  (v=0->TM C ty Wg eC (MKe C ty Wg eC Fin) S g' w)/\(v≠0->TM C ty Wg eC (MW2 C ty Wg eC Fin gz v) S g' w)
def MKd:(Nat->Prop)->Goroutine->World->Prop:=FO C (mk .disable) (TM C ty Wg eC gz)
def MGo(j:Nat)(Nx:(Nat->Prop)->Goroutine->World->Prop)(S:Nat->Prop)(g:Goroutine)(w:World):Prop:=
 g.status= .running/\ ∃g' child,stepG C true g w= .spawn g' child w #[]/\child.status= .running/\ ∃(x:Wx) (S':Nat->Prop),x.Ro x.bn/\S x.bn/\(∀b,x.Ro b->Old b\/S b\/eC b)/\(∀b,S' b->S b/\ ¬x.Ro b)/\
  (Kp w->dR C false (jA ty Wg) x.Ro (FP C ty Wg Ch og x j) (λ_=>False) child w)/\Nx S' g' w
def ZK(j:Nat)(Nx:(Nat->Prop)->Goroutine->World->Prop):(Nat->Prop)->Goroutine->World->Prop:=FO C (mk .enable) (TM C ty Wg eC (MGo C ty Wg Ch og eC Old Kp j Nx))
def MRr(j:Nat)(Nx:(Nat->Prop)->Goroutine->World->Prop):(Nat->Prop)->Goroutine->World->Prop:=FO C (mk (.read (smA Wg))) (TM C ty Wg eC (ZK C ty Wg Ch og eC Old Kp j Nx))
def MA1(j:Nat)(Nx:(Nat->Prop)->Goroutine->World->Prop)(S:Nat->Prop)(g:Goroutine)(w:World):Prop:=
 g.status= .running/\ ∀v:Nat,v<2147483646->WgAt ty Wg w (v*KK) 0->
  ∃g',stepG C true g w= .go g' (w.setCell (stA Wg) (.int .u64 (((v:Int)+1)*KK))) #[rd (stA Wg),wr (stA Wg)]/\
   (v=0->TM C ty Wg eC (MRr C ty Wg Ch og eC Old Kp j Nx) S g' (w.setCell (stA Wg) (.int .u64 (((v:Int)+1)*KK))))/\
   (v≠0->TM C ty Wg eC (ZK C ty Wg Ch og eC Old Kp j Nx) S g' (w.setCell (stA Wg) (.int .u64 (((v:Int)+1)*KK))))
def QV(j:Nat)(Nx:(Nat->Prop)->Goroutine->World->Prop):(Nat->Prop)->Goroutine->World->Prop:=FO C (mk .disable) (TM C ty Wg eC (MA1 C ty Wg Ch og eC Old Kp j Nx))
def Zs:Nat->(Nat->Prop)->Goroutine->World->Prop
 | 0,S,g,w=>TM C ty Wg eC (MKd C ty Wg eC gz) S g w
 | r+1,S,g,w=>TM C ty Wg eC (QV C ty Wg Ch og eC Old Kp (n - (r+1)) (Zs r)) S g w
inductive Tg where
 | s5 | s4 | Rr | s3 | s2 | kd | anch | w1 | w2 (vs:Nat) | Rt | w3 | blk | w4 | ke | acq
def Tg.ct:Tg->CTag
 | .s5=> .sp 0 5
 | .s4=> .sp 0 4
 | .Rr=> .sp 0 3
 | .s3=> .sp 0 3
 | .s2=> .sp 0 2
 | .kd=> .kd
 | .anch=> .anch
 | .w1=> .w1
 | .w2 vs=> .w2 vs
 | .Rt=> .w3
 | .w3=> .w3
 | .blk=> .blk
 | .w4=> .w4
 | .ke=> .ke
 | .acq=> .acq
def uc(n j v:Nat):Tg->Nat
 | .s5=>8*n+40+16*(n - j)+6
 | .s4=>8*n+40+16*(n - j)+5
 | .Rr=>8*n+40+16*(n - j)+4
 | .s3=>8*n+40+16*(n - j)+3
 | .s2=>8*n+40+16*(n - j)+2
 | .kd=>8*n+9
 | .anch=>8*v+8
 | .w1=>8*v+7
 | .w2 vs=>8*vs+6
 | .Rt=>6
 | .w3=>5
 | .blk=>5
 | .w4=>4
 | .ke=>3
 | .acq=>2
inductive MS:Tg->Nat->Nat×Rk->Nat->(Nat->Prop)->Goroutine->World->Prop
 | s5 {r:Nat} {rk:Rk} {S:Nat->Prop} {g:Goroutine} {w:World}:r<n->Wk C true (jA ty Wg) eC (QV C ty Wg Ch og eC Old Kp (n - (r+1)) (Zs C ty Wg Ch n og eC Old Kp gz r)) rk S g w->MS .s5 (n - (r+1)) (1,rk) 0 S g w
 | s4 {r:Nat} {rk:Rk} {S:Nat->Prop} {g:Goroutine} {w:World}:r<n->Wk C true (jA ty Wg) eC (MA1 C ty Wg Ch og eC Old Kp (n - (r+1)) (Zs C ty Wg Ch n og eC Old Kp gz r)) rk S g w->MS .s4 (n - (r+1)) (1,rk) 1 S g w
 | Rr {r:Nat} {rk:Rk} {S:Nat->Prop} {g:Goroutine} {w:World}:r<n->Wk C true (jA ty Wg) eC (MRr C ty Wg Ch og eC Old Kp (n - (r+1)) (Zs C ty Wg Ch n og eC Old Kp gz r)) rk S g w->MS .Rr (n - (r+1)) (1,rk) 1 S g w
 | s3 {r:Nat} {rk:Rk} {S:Nat->Prop} {g:Goroutine} {w:World}:r<n->Wk C true (jA ty Wg) eC (ZK C ty Wg Ch og eC Old Kp (n - (r+1)) (Zs C ty Wg Ch n og eC Old Kp gz r)) rk S g w->MS .s3 (n - (r+1)) (1,rk) 1 S g w
 | s2 {r:Nat} {rk:Rk} {S:Nat->Prop} {g:Goroutine} {w:World}:r<n->Wk C true (jA ty Wg) eC (MGo C ty Wg Ch og eC Old Kp (n - (r+1)) (Zs C ty Wg Ch n og eC Old Kp gz r)) rk S g w->MS .s2 (n - (r+1)) (1,rk) 0 S g w
 | kd {rk:Rk} {S:Nat->Prop} {g:Goroutine} {w:World}:Wk C true (jA ty Wg) eC (MKd C ty Wg eC gz) rk S g w->MS .kd n (1,rk) 0 S g w
 | anch {rk:Rk} {S:Nat->Prop} {g:Goroutine} {w:World}:Wk C true (jA ty Wg) eC gz rk S g w->MS .anch n (1,rk) 1 S g w
 | w1 {rk:Rk} {S:Nat->Prop} {g:Goroutine} {w:World}:Wk C true (jA ty Wg) eC (MW1 C ty Wg eC Fin gz) rk S g w->MS .w1 n (1,rk) 1 S g w
 | w2 {vs:Nat} {rk:Rk} {S:Nat->Prop} {g:Goroutine} {w:World}:Wk C true (jA ty Wg) eC (MW2 C ty Wg eC Fin gz vs) rk S g w->MS (.w2 vs) n (1,rk) 1 S g w
 | Rt {rk:Rk} {S:Nat->Prop} {g:Goroutine} {w:World}:Wk C true (jA ty Wg) eC (adA C ty Wg eC Fin) rk S g w->MS .Rt n (1,rk) 1 S g w
 | w3 {rk:Rk} {S:Nat->Prop} {g:Goroutine} {w:World}:Wk C true (jA ty Wg) eC (MW3 C ty Wg eC Fin) rk S g w->MS .w3 n (1,rk) 1 S g w
 | blk {rk:Rk} {S:Nat->Prop} {g:Goroutine} {w:World}:Wk C true (jA ty Wg) eC (MW3 C ty Wg eC Fin) rk S g w->g.status= .running->g.offers=none->MS .blk n (0, .leaf) 1 S { g with status:= .blocked } w
 | w4 {rk:Rk} {S:Nat->Prop} {g:Goroutine} {w:World}:Wk C true (jA ty Wg) eC (MW4 C ty Wg eC Fin) rk S g w->MS .w4 n (1,rk) 1 S g w
 | ke {rk:Rk} {S:Nat->Prop} {g:Goroutine} {w:World}:Wk C true (jA ty Wg) eC (MKe C ty Wg eC Fin) rk S g w->MS .ke n (1,rk) 1 S g w
 | acq {rk:Rk} {S:Nat->Prop} {g:Goroutine} {w:World}:Wk C true (jA ty Wg) eC (adz C Wg Fin) rk S g w->MS .acq n (1,rk) 0 S g w
end
section
variable{C:Program}{ty:TypeId}{Wg Ch n:Nat}{og:Nat->Value->(Nat->Prop)->World->Prop}[Payload]{eC Old:Nat->Prop}{Kp:World->Prop}{Fin gz:(Nat->Prop)->Goroutine->World->Prop}
 {tag:Tg} {j:Nat} {mr:Nat×Rk} {d:Nat} {S:Nat->Prop} {g:Goroutine} {w w₁:World}
theorem MS.rely(h:MS C ty Wg Ch n og eC Old Kp Fin gz tag j mr d S g w)(hr:Ry (jA ty Wg) (λb=>S b\/eC b) w w₁):MS C ty Wg Ch n og eC Old Kp Fin gz tag j mr d S g w₁:=by
 cases h with
 | s5 hn h=>exact .s5 hn (h.rely hr)
 | s4 hn h=>exact .s4 hn (h.rely hr)
 | Rr hn h=>exact .Rr hn (h.rely hr)
 | s3 hn h=>exact .s3 hn (h.rely hr)
 | s2 hn h=>exact .s2 hn (h.rely hr)
 | kd h=>exact .kd (h.rely hr)
 | anch h=>exact .anch (h.rely hr)
 | w1 h=>exact .w1 (h.rely hr)
 | w2 h=>exact .w2 (h.rely hr)
 | Rt h=>exact .Rt (h.rely hr)
 | w3 h=>exact .w3 (h.rely hr)
 | blk h h1 h2=>exact .blk (h.rely hr) h1 h2
 | w4 h=>exact .w4 (h.rely hr)
 | ke h=>exact .ke (h.rely hr)
 | acq h=>exact .acq (h.rely hr)
omit [Payload] in
theorem mh{St:(Nat->Prop)->Goroutine->World->Prop}{Iv:World->Prop}{rk:Rk}(hs: ∀S g w,St S g w->g.status= .running)(h:Wk C true Iv eC St rk S g w)(hi:Iv w):g.status= .running:=(h.cases hi).elim (hs _ _ _) λh=>h.1
theorem MS.status(hA: ∀S g w,gz S g w->g.status= .running)(h:MS C ty Wg Ch n og eC Old Kp Fin gz tag j mr d S g w)(hl:jA ty Wg w):(g.status= .running/\tag≠ .blk)\/(g.status= .blocked/\g.offers=none/\tag= .blk):=by
 cases h with
 | s5 _ h=>exact .inl ⟨mh (λ_ _ _ x=>x.1) h hl,nofun⟩
 | s4 _ h=>exact .inl ⟨mh (λ_ _ _ x=>x.1) h hl,nofun⟩
 | Rr _ h=>exact .inl ⟨mh (λ_ _ _ x=>x.1) h hl,nofun⟩
 | s3 _ h=>exact .inl ⟨mh (λ_ _ _ x=>x.1) h hl,nofun⟩
 | s2 _ h=>exact .inl ⟨mh (λ_ _ _ x=>x.1) h hl,nofun⟩
 | kd h=>exact .inl ⟨mh (λ_ _ _ x=>x.1) h hl,nofun⟩
 | anch h=>exact .inl ⟨mh hA h hl,nofun⟩
 | w1 h=>exact .inl ⟨mh (λ_ _ _ x=>x.1) h hl,nofun⟩
 | w2 h=>exact .inl ⟨mh (λ_ _ _ x=>x.1) h hl,nofun⟩
 | Rt h=>exact .inl ⟨mh (λ_ _ _ x=>x.1) h hl,nofun⟩
 | w3 h=>exact .inl ⟨mh (λ_ _ _ x=>x.1) h hl,nofun⟩
 | blk h h1 h2=>exact .inr ⟨rfl,h2,rfl⟩
 | w4 h=>exact .inl ⟨mh (λ_ _ _ x=>x.1) h hl,nofun⟩
 | ke h=>exact .inl ⟨mh (λ_ _ _ x=>x.1) h hl,nofun⟩
 | acq h=>exact .inl ⟨mh (λ_ _ _ x=>x.1) h hl,nofun⟩
theorem MS.bound(h:MS C ty Wg Ch n og eC Old Kp Fin gz tag j mr d S g w):j+ConcN.pend tag.ct<=n:=by
 cases h <;> simp only [Tg.ct,ConcN.pend] <;> (try simp) <;> omega
theorem MS.wokenBy(hA: ∀S g w,gz S g w->g.status= .running)(h:MS C ty Wg Ch n og eC Old Kp Fin gz tag j mr d S g w)(hr:Ry (jA ty Wg) (λb=>S b\/eC b) w w₁)(a a':Goroutine):
  ∃tag' D5,MS C ty Wg Ch n og eC Old Kp Fin gz tag' j D5 d S (woken C a a' w₁ g) w₁/\(tag'=tag\/(tag= .blk/\tag'= .w3))/\(mayWake C a=true->a'.status= .running->tag'≠ .blk):=by
 have h':=h.rely hr;unfold Go.Conc.woken;split
 ·rcases h'.status hA hr.iv with ⟨hs,jv⟩ | ⟨_,_,rfl⟩
  ·exact ⟨tag,mr,by rw [again_running _ (.inl hs)];exact h', .inl rfl,λ_ _=>jv⟩
  ·cases h' with
   | blk hb h1 h2=>exact ⟨.w3,(1,_),by rw [Go.ConcR.again_blocked h1 h2];exact .w3 hb, .inr ⟨rfl,rfl⟩,λ_ _=>nofun⟩
 ·rename_i hc;exact ⟨tag,mr,h', .inl rfl,λh1 h2=>absurd (by simp [h1,h2]) hc⟩
end
end Go.Cx
namespace Go.Cx
open Go Go.Conc
open Go.ConcR (KK WgAt stA smA rd wr mk Payload DC0 Bk)
open Go.ConcN (WgLive Mode WD cnt Vc CTag upd sumTo upd_same upd_ne ShN RelBy get_map_set get_map_set_same)
structure BP where
 stage:Nat
 rk:Rk
 deaf:Nat
 S:Nat->Prop
 v:Value
 P:Nat->Prop
 Z:Nat->Prop
def yC(K0 j:Nat)(k:Nat):Prop:=K0<k/\k<=K0+j
def D2(K0 j:Nat)(D:Nat->BP)(k:Nat):Prop:=yC K0 j k/\7<=(D (k - K0 - 1)).stage
def FU(K0:Nat)(D:Nat->BP)(k:Nat):Nat->Prop:=(D (k - K0 - 1)).S
def Sj(K0:Nat)(X:Nat->Wx)(k:Nat):Nat->Prop:=(X (k - K0 - 1)).Ro
structure Fx where
 C:Program
 ty:TypeId
 Wg:Nat
 Ch:Nat
 n:Nat
 K0:Nat
 og:Nat->Value->(Nat->Prop)->World->Prop
 eC:Nat->Prop
 Fin:(Nat->Prop)->Goroutine->World->Prop
 gz:(Nat->Prop)->Goroutine->World->Prop
 cR:Loc->Prop
 WB:World
 T0:Nat
def Fx.Fr(F:Fx)(b:Nat):Prop:=F.WB.heap.size<=b/\b≠F.Wg/\b≠F.Ch
def Fx.Old(F:Fx)(b:Nat):Prop:=b<F.WB.heap.size/\ ∀l,ic l b-> ¬F.cR l
def Fx.Kp(F:Fx)(w:World):Prop:= ∀b,b<F.WB.heap.size->w.heap[b]? =F.WB.heap[b]?
section
variable[Payload](F:Fx)
abbrev Fx.WS(x:Wx)(i s:Nat)(rk:Rk)(d:Nat)(S:Nat->Prop)(g:Goroutine)(w:World):Prop:=Go.Cx.WS F.C F.ty F.Wg F.Ch F.og x i s rk d S g w
abbrev Fx.MS(tag:Tg)(j:Nat)(mr:Nat×Rk)(d:Nat)(S:Nat->Prop)(g:Goroutine)(w:World):Prop:=Go.Cx.MS F.C F.ty F.Wg F.Ch F.n F.og F.eC F.Old F.Kp F.Fin F.gz tag j mr d S g w
structure Sep(j sz:Nat)(X:Nat->Wx)(D:Nat->BP)(S0:Nat->Prop):Prop where
 sB: ∀i,i<j-> ∀b,(D i).S b->F.Fr b/\b<sz/\ ¬S0 b/\ ¬F.eC b
 sS: ∀i i',i<j->i'<j-> ∀b,(D i).S b->(D i').S b->i=i'
 sR: ∀i i',i<j->i'<j-> ∀b,(D i).S b-> ¬(X i').Ro b
 rB: ∀i,i<j-> ∀b,(X i).Ro b->b<sz/\b≠F.Wg/\b≠F.Ch/\ ¬S0 b/\(b<F.WB.heap.size-> ∀l,ic l b-> ¬F.cR l)
 nR: ∀i,i<j->(X i).Ro (X i).bn/\F.Fr (X i).bn/\ ¬F.eC (X i).bn
 nn: ∀i i',i<j->i'<j->(X i').Ro (X i).bn->i=i'
 s0: ∀b,S0 b->F.Fr b/\b<sz/\ ¬F.eC b
 r0: ∀b,F.eC b->F.Fr b/\b<sz
structure Cm(j:Nat)(gs:Array Goroutine)(w:World)(t:Trace)(X:Nat->Wx)(D:Nat->BP)(q:Nat->Nat)(d0:Nat)(S0:Nat->Prop)(od:List Nat):Prop where
 size:gs.size=F.K0+1+j
 lv: ∀k,1<=k->k<=F.K0-> ∃g,gs[k]? =some g/\QuitsD F.C (q k) (Deaf t k) g
 wk: ∀i,i<j-> ∃g,gs[F.K0+1+i]? =some g/\F.WS (X i) i (D i).stage (D i).rk (D i).deaf (D i).P g w
 ti:TI (ShN F.Wg) F.cR (yC F.K0 j) (D2 F.K0 j D) (FU F.K0 D) (Sj F.K0 X) w.heap.size (F.K0+j) t
 ho:HO (yC F.K0 j) t
 norel: ∀i,F.T0<=i->t.act? i≠some (.mark (.release (stA F.Wg)))
 NB:F.T0<=t.size
 deaf0:Deaf t 0=d0
 deafW: ∀i,i<j->Deaf t (F.K0+1+i)=(D i).deaf
 rel: ∀i,i<j->(D i).stage<=6-> ∃r,RelBy (stA F.Wg) t (F.K0+1+i) r/\F.T0<=r
 u9: ∀l b,F.cR l->ic l b->b<F.WB.heap.size
 sep:Sep F j w.heap.size X D S0
 pz: ∀i,i<j->(∀b,(D i).P b->(D i).S b)/\((D i).stage<=8-> ∀b,(D i).Z b->(D i).S b/\ ¬(D i).P b)
 res: ∀i,i<j->(D i).stage<=8->F.og i (D i).v (D i).Z w
 chan: ∃s r tm,w.heap[F.Ch]? =some (.chan F.n (od.map λi=>(D i).v).toArray false s r tm)
 nd:od.Nodup
 od: ∀i,i∈od↔i<j/\(D i).stage<=8
 jn:j<=F.n
 cw:F.Ch≠F.Wg/\F.WB.heap.size<=F.Wg/\F.WB.heap.size<=F.Ch/\F.Wg<w.heap.size
 tape:w.tape=F.WB.tape
 os:w.os=F.WB.os
 output:w.output=F.WB.output
 keep: ∀b,b<F.WB.heap.size->w.heap[b]? =F.WB.heap[b]?
def kQ:Prop:= ∀i v S w w₁,F.og i v S w->(∀b,S b\/b<F.WB.heap.size->w₁.heap[b]? =w.heap[b]?)->F.og i v S w₁
end
section
variable[Payload]{F:Fx}{j:Nat}{gs:Array Goroutine}{w w':World}{t:Trace}{X:Nat->Wx}{D:Nat->BP}{q:Nat->Nat}{d0:Nat}{S0:Nat->Prop}{od:List Nat}{sz:Nat}
omit [Payload] in
theorem iD{K0 j k:Nat}:yC K0 j k↔ ∃i,i<j/\k=K0+1+i:=⟨λ⟨h1,h2⟩=>⟨k - K0 - 1,by omega,by omega⟩,λ⟨i,h1,h2⟩=>⟨by omega,by omega⟩⟩
omit [Payload] in
theorem ix(K0 i:Nat):K0+1+i - K0 - 1=i:=by omega
omit [Payload] in
theorem jq{Wg:Nat}{l:Loc}{b:Nat}(h:ShN Wg l)(hb:ic l b):b=Wg:=by
 obtain ⟨a,rfl,h⟩:=h;exact hb.symm.trans h
omit [Payload] in
theorem Sep.apr{L:Nat->Prop}(h:Sep F j sz X D S0)(u9: ∀l b,F.cR l->ic l b->b<F.WB.heap.size)(hL: ∀k,L k->yC F.K0 j k):Apr (ShN F.Wg) F.cR (yC F.K0 j) L (FU F.K0 D) (Sj F.K0 X):=by
 refine ⟨hL,λk k' b hk pH h1 h2=> ?_,λk k' b hk pH h1 h2=> ?_,λk l hk hl=> ?_,λk l hk hl=> ?_⟩
 ·obtain ⟨i,hi,rfl⟩:=iD.1 hk;obtain ⟨i',fz,rfl⟩:=iD.1 pH;rw [FU,ix] at h1 h2;rw [h.sS i i' hi fz b h1 h2]
 ·obtain ⟨i,hi,rfl⟩:=iD.1 hk;obtain ⟨i',fz,rfl⟩:=iD.1 pH;rw [FU,ix] at h1;rw [Sj,ix] at h2;exact h.sR i i' hi fz b h1 h2
 ·obtain ⟨i,hi,rfl⟩:=iD.1 hk;obtain ⟨b,h1,h2⟩:=hl;rw [FU,ix] at h2;obtain ⟨⟨f1,f2,f3⟩,_⟩:=h.sB i hi b h2;exact ⟨λhs=>f2 (jq hs h1),λhb=>by have:=u9 l b hb h1;omega⟩
 ·obtain ⟨i,hi,rfl⟩:=iD.1 hk;obtain ⟨b,h1,h2⟩:=hl;rw [Sj,ix] at h2;obtain ⟨f1,f2,f3,f4,f5⟩:=h.rB i hi b h2;exact ⟨λhs=>f2 (jq hs h1),λhb=>f5 (u9 l b hb h1) l h1 hb⟩
omit [Payload] in
theorem rz{T0:Nat}{a:Addr}{t u:Trace}(h: ∀i,T0<=i->t.act? i≠some (.mark (.release a)))(hu: ∀op∈u,op.act≠ .mark (.release a)): ∀i,T0<=i->(t++u).act? i≠some (.mark (.release a)):=by
 intro i hi e;rcases Nat.lt_or_ge i t.size with bs | hge
 ·rw [act?_old bs] at e;exact h i hi e
 ·obtain ⟨op,ho,ha⟩:=qbf.1 e;rcases getElem?_append_cases ho with ⟨h1,_⟩ | ⟨_,h2⟩
  ·omega
  ·exact hu op h2 ha
theorem Cm.at(hR:kQ F)(h:Cm F j gs w t X D q d0 S0 od)(hl:jA F.ty F.Wg w)(d:Nat):Cm F j gs (w.at d) t X D q d0 S0 od where
 size:=h.size
 lv:=h.lv
 wk:=λi hi=>let ⟨g,hg,hs⟩:=h.wk i hi;⟨g,hg,hs.rely (h.sep.nR i hi).1 ⟨λ_ _=>rfl,qa3 _,hl⟩⟩
 ti:=h.ti
 ho:=h.ho
 norel:=h.norel
 NB:=h.NB
 deaf0:=h.deaf0
 deafW:=h.deafW
 rel:=h.rel
 u9:=h.u9
 sep:=h.sep
 pz:=h.pz
 res:=λi hi hs=>hR _ _ _ _ _ (h.res i hi hs) λ_ _=>rfl
 chan:=h.chan
 nd:=h.nd
 od:=h.od
 jn:=h.jn
 cw:=h.cw
 tape:=h.tape
 os:=h.os
 output:=h.output
 keep:=h.keep
structure Tw(T:Nat->Prop)(w w':World):Prop where
 tape:w'.tape=w.tape
 os:w'.os=w.os
 output:w'.output=w.output
 size:w.heap.size<=w'.heap.size
 blk: ∀b,b<w.heap.size-> ¬T b->w'.heap[b]? =w.heap[b]?
omit [Payload] in
theorem Tw.refl(T:Nat->Prop)(w:World):Tw T w w:=⟨rfl,rfl,rfl,qa3 _,λ_ _ _=>rfl⟩
omit [Payload] in
theorem Tw.mono{T T':Nat->Prop}(h:Tw T w w')(k: ∀b,T b->T' b):Tw T' w w':=⟨h.tape,h.os,h.output,h.size,λb hb hn=>h.blk b hb λq=>hn (k b q)⟩
omit [Payload] in
theorem Ow.tw{S Ro:Nat->Prop}{es:Array Event}(h:Ow S Ro w w' es):Tw S w w':=⟨h.tape,h.os,h.output,h.size,h.blk⟩
omit [Payload] in
theorem Tw.Ru{c:Nat}(h:Conc.Aside c w w'):Tw (·=c) w w':=⟨h.tape,h.os,h.output,qay h.size.symm,λb _ hn=>h.block b hn⟩
theorem Cm.yD(h:Cm F j gs w t X D q d0 S0 od){T:Nat->Prop}(hT:Tw T w w')(hl:jA F.ty F.Wg w'){i:Nat}(hi:i<j)(hn: ∀b,(D i).S b\/(X i).Ro b-> ¬T b){g:Goroutine}(hw:F.WS (X i) i (D i).stage (D i).rk (D i).deaf (D i).P g w):F.WS (X i) i (D i).stage (D i).rk (D i).deaf (D i).P g w':=
 hw.rely (h.sep.nR i hi).1 ⟨λb hb=>hT.blk b (hb.elim (λhb=>(h.sep.sB i hi b ((h.pz i hi).1 b hb)).2.1) λhb=>(h.sep.rB i hi b hb).1) (hn b (hb.imp ((h.pz i hi).1 b) id)),hT.size,hl⟩
theorem Cm.leave(h:Cm F j gs w t X D q d0 S0 od)(hl:jA F.ty F.Wg w){a:Goroutine}(h0:gs[0]? =some a){k:Nat}(hk:1<=k)(pH:k<=F.K0){y:Goroutine}(hy:gs[k]? =some y)(GC:y.status= .running){sl:Option (Nat×Nat)}:
  ∃y' es n,runT F.C (crowd gs w sl) k=(.next (crowd ((gs.map (woken F.C y y' w)).setIfInBounds k y') w sl),MemOp.ofEvents k y.frame.fn y.frame.place es)/\q k=n+1/\
   Cm F j ((gs.map (woken F.C y y' w)).setIfInBounds k y') w (t++MemOp.ofEvents k y.frame.fn y.frame.place es) X D (upd q k n) d0 S0 od:=by
 have bs:=(qa1.1 hy).1;obtain ⟨y',Xt,hq⟩:=h.lv k hk pH;rw [hy] at Xt;cases Xt;obtain ⟨n,hn⟩: ∃n,q k=n+1:=by
  cases hqk:q k with
  | zero=>rw [hqk] at hq;rw [hq.1] at GC;cases GC
  | succ n=>exact ⟨n,rfl⟩
 rw [hn] at hq;rcases hq with ⟨hf,_⟩ | ⟨_,g',es,hm,er,VH⟩
 ·rw [hf] at GC;cases GC
 have jv:(k==0)=false:=by simp;omega
 have bH:=runT_crowd_go (P:=F.C) (sl:=sl) hy (by rw [jv];exact er w);have GA: ∀op∈MemOp.ofEvents k y.frame.fn y.frame.place es,op.act.touch? =none:=λop cG=>by
  obtain ⟨e,he,ha⟩:=eY cG;rw [ha];exact vx (hm e he)
 refine ⟨g',es,n,bH,hn, ?_⟩;refine ⟨by simp [h.size],λj' h1 h2=> ?_,λi hi=> ?_, ?_, ?_,rz h.norel λop cG e=> ?_,by simp;have:=h.NB;omega, ?_,λi hi=> ?_,λi hi hs=> ?_,h.u9,h.sep,h.pz,h.res,h.chan,h.nd,h.od,h.jn,h.cw,h.tape,h.os,h.output,h.keep⟩
 ·by_cases e:j'=k
  ·subst e;refine ⟨g',get_map_set_same _ _ _ bs, ?_⟩;rw [upd_same,Deaf_own];exact VH
  ·obtain ⟨z,hz,wC⟩:=h.lv j' h1 h2;refine ⟨z, ?_, ?_⟩
   ·rw [get_map_set _ _ _ _ (λq=>e q.symm),hz,qab,woken_quitsD wC]
   ·rw [upd_ne _ _ e,Deaf_other t (qbp e) _ bQ];exact wC
 ·obtain ⟨z,hz,NT⟩:=h.wk i hi;exact ⟨z,by rw [get_map_set _ _ _ _ (by omega),hz,qab,NT.woken hl],NT⟩
 ·exact h.ti.app bQ (by omega) (λq=>by have:=q.1.1;omega) (qa3 _) (λ_ _ h=>h) (λ_ _ h=> .inl h) (h.sep.apr h.u9 λk q=>q.1) (λop cG x hx=>by rw [GA op cG] at hx;cases hx) λop cG x hx=>by rw [GA op cG] at hx;cases hx
 ·exact h.ho.app bQ (.inr (.inr (tH GA)))
 ·obtain ⟨ev,sF,ha⟩:=eY cG;rw [ha] at e;obtain ⟨⟨l,w1,s1⟩,uI⟩: ∃x,x=ev:=⟨_,rfl⟩;subst uI;have Sy:=hm _ sF;cases l with
  | mark m=>cases m <;> first | (simp [MemAct.ofEvent] at e;done) | cases Sy
  | _=>cases Sy
 ·rw [Deaf_other t (by omega) _ bQ];exact h.deaf0
 ·rw [Deaf_other t (by omega) _ bQ];exact h.deafW i hi
 ·obtain ⟨r,hr,hT⟩:=h.rel i hi hs;exact ⟨r,hr.appOther bQ (by omega),hT⟩
def Rv(F:Fx)(Ro S':Nat->Prop)(lv:Prop)(VC:Nat)(e:Event):Prop:=
 (∀x,(MemAct.ofEvent e).touch? =some x->(ShN F.Wg x.loc/\x.kind≠ .plain/\x.kind≠ .said)\/(lv/\x.kind= .plain/\((uK S' x.loc)\/(uK Ro x.loc/\x.write=false))))/\MemAct.ofEvent e≠ .mark (.release (stA F.Wg))
theorem Cm.stepW(hR:kQ F)(h:Cm F j gs w t X D q d0 S0 od)(hl:jA F.ty F.Wg w){i:Nat}(hi:i<j){g g':Goroutine}{fn:FuncId}{pos:String}{es:Array Event}{d:BP}
  (qC:Tw (λb=>(D i).P b\/b=F.Wg\/b=(X i).bn) w w') (oi:jA F.ty F.Wg w') (hS: ∀b,d.S b↔nw (D i).S w w' b) (hP: ∀b,d.P b->nw (D i).P w w' b) (hZ:d.Z=(D i).Z)
  (D8:F.WS (X i) i d.stage d.rk d.deaf d.P g' w') (sF: ∀e∈es,Rv F (X i).Ro (nw (D i).P w w') (7<=(D i).stage) w'.heap.size e)
  (Rw:deafBehind (D i).deaf es=d.deaf) (er:d.stage<=(D i).stage) (h8:d.stage<=8↔(D i).stage<=8) (hv:d.v=(D i).v)
  (eE:d.stage<=6-> ∃r,RelBy (stA F.Wg) (t++MemOp.ofEvents (F.K0+1+i) fn pos es) (F.K0+1+i) r/\F.T0<=r):
  Cm F j ((gs.map (woken F.C g g' w')).setIfInBounds (F.K0+1+i) g') w' (t++MemOp.ofEvents (F.K0+1+i) fn pos es) X (upd D i d) q d0 S0 od:=by
 have hPS:=(h.pz i hi).1;have hT:Tw (λb=>(D i).S b\/b=F.Wg\/b=(X i).bn) w w':=qC.mono λb hb=>hb.imp (hPS b) id;have hT0: ∀b,((D i).S b\/b=F.Wg\/b=(X i).bn)->F.WB.heap.size<=b:=λb hb=>by
  rcases hb with hb | rfl | rfl
  ·exact (h.sep.sB i hi b hb).1.1
  ·exact h.cw.2.1
  ·exact (h.sep.nR i hi).2.1.1
 have Ej: ¬((D i).S F.Ch\/F.Ch=F.Wg\/F.Ch=(X i).bn):=by
  rintro (hb | hb | hb)
  ·exact (h.sep.sB i hi _ hb).1.2.2 rfl
  ·exact h.cw.1 hb
  ·exact (h.sep.nR i hi).2.1.2.2 hb.symm
 have lH:F.WB.heap.size<=w.heap.size:=by
  apply qa6;intro hn;have bs:w.heap.size<F.WB.heap.size:=Nat.lt_of_not_le hn;have h1:=h.keep _ bs;rw [qb7 (qa3 _),Array.getElem?_eq_getElem bs] at h1;cases h1
 have FV:Sep F j w'.heap.size X (upd D i d) S0:=by
  have Iq: ∀b,d.S b->(D i).S b\/w.heap.size<=b/\b<w'.heap.size:=λb hb=>(hS b).1 hb;refine ⟨λi' fz b hb=> ?_,λi1 i2 h1 h2 b hb eU=> ?_,λi1 i2 h1 h2 b hb=> ?_,λi' fz b hb=>let ⟨a1,a2⟩:=h.sep.rB i' fz b hb;⟨qa2 a1 hT.size,a2⟩,h.sep.nR,h.sep.nn,λb hb=>let ⟨a1,a2,a3⟩:=h.sep.s0 b hb;⟨a1,qa2 a2 hT.size,a3⟩,λb hb=>let ⟨a1,a2⟩:=h.sep.r0 b hb;⟨a1,qa2 a2 hT.size⟩⟩
  ·by_cases e:i'=i
   ·subst e;rw [upd_same] at hb;rcases Iq b hb with hb | ⟨b1,b2⟩
    ·obtain ⟨a1,a2,a3,a4⟩:=h.sep.sB i' hi b hb;exact ⟨a1,qa2 a2 hT.size,a3,a4⟩
    ·refine ⟨⟨by omega,λe=> ?_,λe=> ?_⟩,b2,λq=> ?_,λq=> ?_⟩
     ·have:=h.cw.2.2.2;omega
     ·obtain ⟨s,r,tm,hc⟩:=h.chan;have:=(qa1.1 hc).1;omega
     ·have:=(h.sep.s0 b q).2.1;omega
     ·have:=(h.sep.r0 b q).2;omega
   ·rw [upd_ne D _ e] at hb;obtain ⟨a1,a2,a3,a4⟩:=h.sep.sB i' fz b hb;exact ⟨a1,qa2 a2 hT.size,a3,a4⟩
  ·by_cases e1:i1=i
   ·by_cases e2:i2=i
    ·rw [e1,e2]
    ·subst e1;rw [upd_same] at hb;rw [upd_ne D _ e2] at eU;rcases Iq b hb with hb | ⟨b1,b2⟩
     ·exact h.sep.sS i1 i2 h1 h2 b hb eU
     ·have:=(h.sep.sB i2 h2 b eU).2.1;omega
   ·by_cases e2:i2=i
    ·subst e2;rw [upd_same] at eU;rw [upd_ne D _ e1] at hb;rcases Iq b eU with eU | ⟨b1,b2⟩
     ·exact h.sep.sS i1 i2 h1 h2 b hb eU
     ·have:=(h.sep.sB i1 h1 b hb).2.1;omega
    ·rw [upd_ne D _ e1] at hb;rw [upd_ne D _ e2] at eU;exact h.sep.sS i1 i2 h1 h2 b hb eU
  ·by_cases e1:i1=i
   ·subst e1;rw [upd_same] at hb;rcases Iq b hb with hb | ⟨b1,b2⟩
    ·exact h.sep.sR i1 i2 h1 h2 b hb
    ·intro q;have:=(h.sep.rB i2 h2 b q).1;omega
   ·rw [upd_ne D _ e1] at hb;exact h.sep.sR i1 i2 h1 h2 b hb
 have Ic:yC F.K0 j (F.K0+1+i):=iD.2 ⟨i,hi,rfl⟩;have ZL: ∀k,D2 F.K0 j (upd D i d) k->D2 F.K0 j D k:=λk ⟨h1,h2⟩=>⟨h1,by
  by_cases e:k - F.K0 - 1=i
  ·rw [e,upd_same] at h2;rw [e];omega
  ·rw [upd_ne D _ e] at h2;exact h2⟩
 refine ⟨by simp [h.size],λk h1 h2=> ?_,λi' fz=> ?_, ?_, ?_,rz h.norel λop cG e=> ?_,by simp;have:=h.NB;omega, ?_,λi' fz=> ?_,λi' fz hs=> ?_,h.u9,FV,λi' fz=> ?_,λi' fz hs=> ?_, ?_,h.nd,λi'=> ?_,h.jn,⟨h.cw.1,h.cw.2.1,h.cw.2.2.1,qa2 h.cw.2.2.2 hT.size⟩,hT.tape.trans h.tape,hT.os.trans h.os,hT.output.trans h.output,λb hb=> ?_⟩
 ·obtain ⟨z,hz,wC⟩:=h.lv k h1 h2;refine ⟨z, ?_, ?_⟩
  ·rw [get_map_set _ _ _ _ (by omega),hz,qab,woken_quitsD wC]
  ·rw [Deaf_other t (by omega) _ bQ];exact wC
 ·by_cases e:i'=i
  ·subst e;exact ⟨g',get_map_set_same _ _ _ (by rw [h.size];omega),by rw [upd_same];exact D8⟩
  ·obtain ⟨z,hz,NT⟩:=h.wk i' fz;refine ⟨z,by rw [get_map_set _ _ _ _ (by omega),hz,qab,NT.woken hl], ?_⟩;rw [upd_ne D _ e];refine h.yD hT oi fz (λb hb eU=> ?_) NT;rcases eU with eU | rfl | rfl
   ·rcases hb with hb | hb
    ·exact e (h.sep.sS _ _ fz hi b hb eU)
    ·exact h.sep.sR _ _ hi fz b eU hb
   ·rcases hb with hb | hb
    ·exact (h.sep.sB i' fz _ hb).1.2.1 rfl
    ·exact (h.sep.rB i' fz _ hb).2.1 rfl
   ·rcases hb with hb | hb
    ·exact h.sep.sR _ _ fz hi _ hb (h.sep.nR i hi).1
    ·exact e (h.sep.nn i i' hi fz hb).symm
 ·refine (TI.app (S':=FU F.K0 (upd D i d)) h.ti (g:=F.K0+1+i) bQ (by omega) (λq=>by have:=q.1.1;omega) hT.size (λk b hb=> ?_) (λk b hb=> ?_) (FV.apr h.u9 λk q=>q.1) (λop cG x hx b hb=> ?_) λop cG x hx=> ?_).less ZL
  ·unfold FU at hb ⊢;by_cases e:k - F.K0 - 1=i
   ·rw [e] at hb ⊢;rw [upd_same];exact (hS b).2 (.inl hb)
   ·rw [upd_ne D _ e];exact hb
  ·unfold FU at hb ⊢;by_cases e:k - F.K0 - 1=i
   ·rw [e,upd_same] at hb;rw [e];rcases (hS b).1 hb with hb | hb
    ·exact .inl hb
    ·exact .inr hb.1
   ·rw [upd_ne D _ e] at hb;exact .inl hb
  ·obtain ⟨ev,he,ha⟩:=eY cG;rw [ha] at hx;rcases (sF ev he).1 x hx with ⟨h1,_⟩ | ⟨_,_,⟨c,h1,h2⟩ | ⟨⟨c,h1,h2⟩,_⟩⟩
   ·rw [jq h1 hb];exact qa2 h.cw.2.2.2 hT.size
   ·have:=ic.inj h1 hb;subst this;rcases h2 with h2 | h2
    ·exact qa2 (h.sep.sB i hi c (hPS c h2)).2.1 hT.size
    ·exact h2.2
   ·have:=ic.inj h1 hb;subst this;exact qa2 (h.sep.rB i hi c h2).1 hT.size
  ·obtain ⟨ev,he,ha⟩:=eY cG;rw [ha] at hx;rcases (sF ev he).1 x hx with ⟨h1,h2,h3⟩ | ⟨h1,h2,h3 | ⟨h3,h4⟩⟩
   ·exact .inl ⟨h1,h2,λe=>absurd e h3⟩
   ·exact .inr (.inr (.inl ⟨⟨Ic,by rw [ix];exact h1⟩,h2,by rw [FU,ix,upd_same];exact let ⟨c,r1,r2⟩:=h3;⟨c,r1,(hS c).2 (r2.imp (hPS c) id)⟩⟩))
   ·exact .inr (.inr (.inr ⟨⟨Ic,by rw [ix];exact h1⟩,h2,by rw [Sj,ix];exact h3,h4⟩))
 ·exact h.ho.app bQ (.inr (.inl Ic))
 ·obtain ⟨ev,he,ha⟩:=eY cG;rw [ha] at e;exact (sF ev he).2 e
 ·rw [Deaf_other t (by omega) _ bQ];exact h.deaf0
 ·by_cases e:i'=i
  ·subst e;rw [Deaf_own,h.deafW i' fz,upd_same];exact Rw
  ·rw [Deaf_other t (by omega) _ bQ,h.deafW i' fz,upd_ne D _ e]
 ·by_cases e:i'=i
  ·subst e;rw [upd_same] at hs;exact eE hs
  ·rw [upd_ne D _ e] at hs;obtain ⟨r,hr,hT⟩:=h.rel i' fz hs;exact ⟨r,hr.appOther bQ (by omega),hT⟩
 ·by_cases e:i'=i
  ·subst e;rw [upd_same];refine ⟨λb hb=>(hS b).2 ((hP b hb).imp (hPS b) id),λhs b hb=> ?_⟩;rw [hZ] at hb;obtain ⟨z1,z2⟩:=(h.pz i' fz).2 (h8.1 hs) b hb;refine ⟨(hS b).2 (.inl z1),λhp=> ?_⟩;rcases hP b hp with hp | hp
   ·exact z2 hp
   ·have:=(h.sep.sB i' fz b z1).2.1;omega
  ·rw [upd_ne D _ e];exact h.pz i' fz
 ·by_cases e:i'=i
  ·subst e;rw [upd_same] at hs ⊢;rw [hv,hZ];have hz:=(h.pz i' fz).2 (h8.1 hs);refine hR _ _ _ _ _ (h.res i' fz (h8.1 hs)) λb hb=>qC.blk b (hb.elim (λhb=>(h.sep.sB i' fz b (hz b hb).1).2.1) λhb=>by omega) λeU=> ?_;rcases hb with hb | hb
   ·rcases eU with eU | rfl | rfl
    ·exact (hz b hb).2 eU
    ·exact (h.sep.sB i' fz _ (hz _ hb).1).1.2.1 rfl
    ·exact h.sep.sR _ _ fz fz _ (hz _ hb).1 (h.sep.nR i' fz).1
   ·have:=hT0 b (eU.imp (hPS b) id);omega
  ·rw [upd_ne D _ e] at hs ⊢;refine hR _ _ _ _ _ (h.res i' fz hs) λb hb=>hT.blk b (hb.elim (λhb=>(h.sep.sB i' fz b (((h.pz i' fz).2 hs) b hb).1).2.1) λhb=>by omega) λeU=> ?_;rcases hb with hb | hb
   ·replace hb:=(((h.pz i' fz).2 hs) b hb).1;rcases eU with eU | rfl | rfl
    ·exact e (h.sep.sS _ _ fz hi b hb eU)
    ·exact (h.sep.sB i' fz _ hb).1.2.1 rfl
    ·exact h.sep.sR _ _ fz hi _ hb (h.sep.nR i hi).1
   ·have:=hT0 b eU;omega
 ·obtain ⟨s,r,tm,hc⟩:=h.chan;refine ⟨s,r,tm, ?_⟩;rw [hT.blk _ (qa1.1 hc).1 Ej,hc];congr 3;refine qcb λi' fz=> ?_;by_cases e:i'=i
  ·subst e;rw [upd_same,hv]
  ·rw [upd_ne D _ e]
 ·rw [h.od i'];by_cases e:i'=i
  ·subst e;rw [upd_same,h8]
  ·rw [upd_ne D _ e]
 ·rw [←h.keep b hb];exact hT.blk b (by omega) λeU=>by have:=hT0 b eU;omega
end
end Go.Cx
namespace Go.Cx
open Go Go.Conc
open Go.ConcR (KK WgAt stA smA rd wr mk Payload DC0 Bk)
open Go.ConcN (WgLive Mode WD cnt Vc CTag upd sumTo upd_same upd_ne ShN RelBy get_map_set get_map_set_same)
section
variable[Payload]{F:Fx}{j:Nat}{gs:Array Goroutine}{w w':World}{t:Trace}{X:Nat->Wx}{D:Nat->BP}{q:Nat->Nat}{d0:Nat}{S0:Nat->Prop}{od:List Nat}{sz:Nat}
theorem Cm.CO(h:Cm F j gs w t X D q d0 S0 od):F.WB.heap.size<=w.heap.size:=by
 apply qa6;intro hn;have bs:w.heap.size<F.WB.heap.size:=Nat.lt_of_not_le hn;have h1:=h.keep _ bs;rw [qb7 (qa3 _),Array.getElem?_eq_getElem bs] at h1;cases h1
theorem Cm.ZM(h:Cm F j gs w t X D q d0 S0 od):F.Ch<w.heap.size:=by
 obtain ⟨s,r,tm,hc⟩:=h.chan;exact (qa1.1 hc).1
def Kg(F:Fx)(S':Nat->Prop)(e:Event):Prop:=
 (∀x,(MemAct.ofEvent e).touch? =some x->(ShN F.Wg x.loc/\x.kind≠ .plain)\/(uK S' x.loc)\/(uK F.eC x.loc/\x.write=false))/\MemAct.ofEvent e≠ .mark (.release (stA F.Wg))
theorem Cm.step0(hR:kQ F)(h:Cm F j gs w t X D q d0 S0 od)(hl:jA F.ty F.Wg w){a a':Goroutine}{fn:FuncId}{pos:String}{es:Array Event}{NU:Nat->Prop}(ha:gs[0]? =some a)
  (hT:Tw (λb=>S0 b\/b=F.Wg) w w') (oi:jA F.ty F.Wg w') (hS: ∀b,NU b->nw S0 w w' b) (sF: ∀e∈es,Kg F (nw S0 w w') e):
  Cm F j ((gs.map (woken F.C a a' w')).setIfInBounds 0 a') w' (t++MemOp.ofEvents 0 fn pos es) X D q (deafBehind d0 es) NU od:=by
 have lH:=h.CO;have Ej: ¬(S0 F.Ch\/F.Ch=F.Wg):=by
  rintro (hb | hb)
  ·exact (h.sep.s0 _ hb).1.2.2 rfl
  ·exact h.cw.1 hb
 have VY: ∀b,nw S0 w w' b->F.Fr b/\b<w'.heap.size/\ ¬F.eC b:=λb hb=>by
  rcases hb with hb | ⟨b1,b2⟩
  ·obtain ⟨a1,a2,a3⟩:=h.sep.s0 b hb;exact ⟨a1,qa2 a2 hT.size,a3⟩
  ·refine ⟨⟨by omega,λe=> ?_,λe=> ?_⟩,b2,λq=> ?_⟩
   ·have:=h.cw.2.2.2;omega
   ·have:=h.ZM;omega
   ·have:=(h.sep.r0 b q).2;omega
 have hnS: ∀i,i<j-> ∀b,nw S0 w w' b-> ¬(D i).S b:=λi hi b hb eU=>by
  rcases hb with hb | ⟨b1,_⟩
  ·exact (h.sep.sB i hi b eU).2.2.1 hb
  ·have:=(h.sep.sB i hi b eU).2.1;omega
 have hnR: ∀i,i<j-> ∀b,nw S0 w w' b-> ¬(X i).Ro b:=λi hi b hb eU=>by
  rcases hb with hb | ⟨b1,_⟩
  ·exact (h.sep.rB i hi b eU).2.2.2.1 hb
  ·have:=(h.sep.rB i hi b eU).1;omega
 have FV:Sep F j w'.heap.size X D NU:=
  ⟨λi hi b hb=>let ⟨a1,a2,a3,a4⟩:=h.sep.sB i hi b hb;⟨a1,qa2 a2 hT.size,λq=>hnS i hi b (hS b q) hb,a4⟩,h.sep.sS,h.sep.sR,
   λi hi b hb=>let ⟨a1,a2,a3,a4,a5⟩:=h.sep.rB i hi b hb;⟨qa2 a1 hT.size,a2,a3,λq=>hnR i hi b (hS b q) hb,a5⟩,h.sep.nR,h.sep.nn,λb hb=>VY b (hS b hb),
   λb hb=>let ⟨a1,a2⟩:=h.sep.r0 b hb;⟨a1,qa2 a2 hT.size⟩⟩
 refine ⟨by simp [h.size],λk h1 h2=> ?_,λi hi=> ?_, ?_,h.ho.app bQ (.inl rfl),rz h.norel λop cG e=> ?_,by simp;have:=h.NB;omega,by rw [Deaf_own,h.deaf0],λi hi=>by rw [Deaf_other t (by omega) _ bQ];exact h.deafW i hi,λi hi hs=> ?_,h.u9,FV,h.pz,λi hi hs=> ?_, ?_,h.nd,h.od,h.jn,⟨h.cw.1,h.cw.2.1,h.cw.2.2.1,qa2 h.cw.2.2.2 hT.size⟩,hT.tape.trans h.tape,hT.os.trans h.os,hT.output.trans h.output,λb hb=> ?_⟩
 ·obtain ⟨z,hz,wC⟩:=h.lv k h1 h2;refine ⟨z, ?_, ?_⟩
  ·rw [get_map_set _ _ _ _ (by omega),hz,qab,woken_quitsD wC]
  ·rw [Deaf_other t (by omega) _ bQ];exact wC
 ·obtain ⟨z,hz,NT⟩:=h.wk i hi;refine ⟨z,by rw [get_map_set _ _ _ _ (by omega),hz,qab,NT.woken hl], ?_⟩;refine h.yD hT oi hi (λb hb eU=> ?_) NT;rcases eU with eU | rfl
  ·rcases hb with hb | hb
   ·exact (h.sep.sB i hi b hb).2.2.1 eU
   ·exact (h.sep.rB i hi b hb).2.2.2.1 eU
  ·rcases hb with hb | hb
   ·exact (h.sep.sB i hi _ hb).1.2.1 rfl
   ·exact (h.sep.rB i hi _ hb).2.1 rfl
 ·refine TI.app h.ti (g:=0) bQ (by omega) (λq=>by have:=q.1.1;omega) hT.size (λk b hb=>hb) (λk b hb=> .inl hb) (FV.apr h.u9 λk q=>q.1) (λop cG x hx b hb=> ?_) λop cG x hx=> ?_
  ·obtain ⟨ev,he,ha⟩:=eY cG;rw [ha] at hx;rcases (sF ev he).1 x hx with ⟨h1,_⟩ | ⟨c,h1,h2⟩ | ⟨⟨c,h1,h2⟩,_⟩
   ·rw [jq h1 hb];exact qa2 h.cw.2.2.2 hT.size
   ·have:=ic.inj h1 hb;subst this;exact (VY c h2).2.1
   ·have:=ic.inj h1 hb;subst this;exact qa2 (h.sep.r0 c h2).2 hT.size
  ·obtain ⟨ev,he,ha⟩:=eY cG;rw [ha] at hx;rcases (sF ev he).1 x hx with ⟨h1,h2⟩ | ⟨c,h1,h2⟩ | ⟨⟨c,h1,h2⟩,h3⟩
   ·exact .inl ⟨h1,h2,λ_=>rfl⟩
   ·refine .inr (.inl ⟨λhs=>(VY c h2).1.2.1 (jq hs h1),λhb=> ?_,rfl,λk hk pH=> ?_,λ_ k hk pH=> ?_⟩)
    ·have:=h.u9 _ c hb h1;have:=(VY c h2).1.1;omega
    ·obtain ⟨i,hi,rfl⟩:=iD.1 hk;obtain ⟨c',r1,r2⟩:=pH;have:=ic.inj h1 r1;subst this;rw [FU,ix] at r2;exact hnS i hi c h2 r2
    ·obtain ⟨i,hi,rfl⟩:=iD.1 hk;obtain ⟨c',r1,r2⟩:=pH;have:=ic.inj h1 r1;subst this;rw [Sj,ix] at r2;exact hnR i hi c h2 r2
   ·refine .inr (.inl ⟨λhs=>(h.sep.r0 c h2).1.2.1 (jq hs h1),λhb=> ?_,rfl,λk hk pH=> ?_,λhw=>by rw [h3] at hw;cases hw⟩)
    ·have:=h.u9 _ c hb h1;have:=(h.sep.r0 c h2).1.1;omega
    ·obtain ⟨i,hi,rfl⟩:=iD.1 hk;obtain ⟨c',r1,r2⟩:=pH;have:=ic.inj h1 r1;subst this;rw [FU,ix] at r2;exact (h.sep.sB i hi c r2).2.2.2 h2
 ·obtain ⟨ev,he,ha⟩:=eY cG;rw [ha] at e;exact (sF ev he).2 e
 ·obtain ⟨r,hr,hTr⟩:=h.rel i hi hs;exact ⟨r,hr.appOther bQ (by omega),hTr⟩
 ·have hz:=(h.pz i hi).2 hs;refine hR _ _ _ _ _ (h.res i hi hs) λb hb=>hT.blk b (hb.elim (λhb=>(h.sep.sB i hi b (hz b hb).1).2.1) λhb=>by omega) λeU=> ?_;rcases hb with hb | hb
  ·replace hb:=(hz b hb).1;rcases eU with eU | rfl
   ·exact (h.sep.sB i hi b hb).2.2.1 eU
   ·exact (h.sep.sB i hi _ hb).1.2.1 rfl
  ·rcases eU with eU | rfl
   ·have:=(h.sep.s0 b eU).1.1;omega
   ·have:=h.cw.2.1;omega
 ·obtain ⟨s,r,tm,hc⟩:=h.chan;exact ⟨s,r,tm,by rw [hT.blk _ h.ZM Ej,hc]⟩
 ·rw [←h.keep b hb];refine hT.blk b (by omega) λeU=> ?_;rcases eU with eU | rfl
  ·have:=(h.sep.s0 b eU).1.1;omega
  ·have:=h.cw.2.1;omega
theorem Cm.send(hR:kQ F)(h:Cm F j gs w t X D q d0 S0 od)(hl:jA F.ty F.Wg w){i:Nat}(hi:i<j){g':Goroutine}{u:Trace}{v:Value}{rk:Rk}(h9:(D i).stage=9)
  (hT:Tw (·=F.Ch) w w') (lH:w'.heap.size=w.heap.size) (adB: ∃s r tm,w'.heap[F.Ch]? =some (.chan F.n ((od.map λi=>(D i).v).toArray.push v) false s r tm)) (oi:jA F.ty F.Wg w')
  (D8:F.WS (X i) i 8 rk 0 (λ_=>False) g' w') (hd:(D i).deaf=0) (hu: ∀op∈u,op.g=F.K0+1+i/\op.act.touch? =none/\op.act≠ .mark (.release (stA F.Wg))/\op.act≠ .mark .disable/\op.act≠ .mark .enable) (bS:F.og i v (D i).P w'):
  Cm F j (gs.setIfInBounds (F.K0+1+i) g') w' (t++u) X (upd D i ⟨8,rk,0,(D i).S,v,λ_=>False,(D i).P⟩) q d0 S0 (od++[i]):=by
 have hwb:=h.CO;have Gs: ∀k,Deaf (t++u) k=Deaf t k:=λk=>ConcN.Deaf_still t k u λop cG=>⟨(hu op cG).2.2.2.1,(hu op cG).2.2.2.2⟩;have eS: ∀a,(upd D i ⟨8,rk,0,(D i).S,v,λ_=>False,(D i).P⟩ a).S=(D a).S:=λa=>by
  by_cases e:a=i
  ·subst e;rw [upd_same]
  ·rw [upd_ne D _ e]
 have hni:i∉od:=λhm=>by have:=((h.od i).1 hm).2;omega
 have FV:Sep F j w'.heap.size X (upd D i ⟨8,rk,0,(D i).S,v,λ_=>False,(D i).P⟩) S0:=by
  rw [lH];exact ⟨λi' fz b hb=>h.sep.sB i' fz b (by rw [eS] at hb;exact hb),λi1 i2 h1 h2 b hb eU=>h.sep.sS i1 i2 h1 h2 b (by rw [eS] at hb;exact hb) (by rw [eS] at eU;exact eU),λi1 i2 h1 h2 b hb=>h.sep.sR i1 i2 h1 h2 b (by rw [eS] at hb;exact hb),h.sep.rB,h.sep.nR,h.sep.nn,h.sep.s0,h.sep.r0⟩
 have Ic:yC F.K0 j (F.K0+1+i):=iD.2 ⟨i,hi,rfl⟩;refine ⟨by simp [h.size],λk h1 h2=> ?_,λi' fz=> ?_, ?_,h.ho.app (λop cG=>(hu op cG).1) (.inr (.inl Ic)),rz h.norel λop cG=>(hu op cG).2.2.1,by simp;have:=h.NB;omega,by rw [Gs];exact h.deaf0,λi' fz=> ?_,λi' fz hs=> ?_,h.u9,FV,λi' fz=> ?_,λi' fz hs=> ?_, ?_, ?_,λi'=> ?_,h.jn,⟨h.cw.1,h.cw.2.1,h.cw.2.2.1,by rw [lH];exact h.cw.2.2.2⟩,hT.tape.trans h.tape,hT.os.trans h.os,hT.output.trans h.output,λb hb=> ?_⟩
 ·obtain ⟨z,hz,wC⟩:=h.lv k h1 h2;refine ⟨z, ?_, ?_⟩
  ·rw [qaq (by omega)];exact hz
  ·rw [Gs];exact wC
 ·by_cases e:i'=i
  ·subst e;refine ⟨g', ?_,by rw [upd_same];exact D8⟩;have:F.K0+1+i'<gs.size:=by rw [h.size];omega
   simp [this]
  ·obtain ⟨z,hz,NT⟩:=h.wk i' fz;refine ⟨z,by rw [qaq (by omega)];exact hz, ?_⟩;rw [upd_ne D _ e];refine h.yD hT oi fz (λb hb eU=> ?_) NT;subst eU;rcases hb with hb | hb
   ·exact (h.sep.sB i' fz _ hb).1.2.2 rfl
   ·exact (h.sep.rB i' fz _ hb).2.2.1 rfl
 ·have e:FU F.K0 (upd D i ⟨8,rk,0,(D i).S,v,λ_=>False,(D i).P⟩)=FU F.K0 D:=by
   funext k;unfold FU;exact eS _
  rw [e];refine (TI.app h.ti (g:=F.K0+1+i) (λop cG=>(hu op cG).1) (by omega) (λq=>by have:=q.1.1;omega) hT.size (λk b hb=>hb) (λk b hb=> .inl hb) (h.sep.apr h.u9 λk q=>q.1) (λop cG x hx=>by rw [(hu op cG).2.1] at hx;cases hx) λop cG x hx=>by rw [(hu op cG).2.1] at hx;cases hx).less λk ⟨h1,h2⟩=>⟨h1, ?_⟩;by_cases e:k - F.K0 - 1=i
  ·rw [e,upd_same] at h2;rw [e];omega
  ·rw [upd_ne D _ e] at h2;exact h2
 ·rw [Gs,h.deafW i' fz];by_cases e:i'=i
  ·subst e;rw [upd_same];exact hd
  ·rw [upd_ne D _ e]
 ·by_cases e:i'=i
  ·subst e;rw [upd_same] at hs;simp at hs
  ·rw [upd_ne D _ e] at hs;obtain ⟨r,hr,hTr⟩:=h.rel i' fz hs;exact ⟨r,hr.appNot λop cG=>by rw [(hu op cG).1];omega,hTr⟩
 ·by_cases e:i'=i
  ·subst e;rw [upd_same];exact ⟨λ_ h=>h.elim,λ_ b hb=>⟨(h.pz i' fz).1 b hb,id⟩⟩
  ·rw [upd_ne D _ e];exact h.pz i' fz
 ·by_cases e:i'=i
  ·subst e;rw [upd_same];exact bS
  ·rw [upd_ne D _ e] at hs ⊢;have hz:=(h.pz i' fz).2 hs;refine hR _ _ _ _ _ (h.res i' fz hs) λb hb=>hT.blk b (hb.elim (λhb=>(h.sep.sB i' fz b (hz b hb).1).2.1) λhb=>by omega) λeU=> ?_;subst eU;rcases hb with hb | hb
   ·exact (h.sep.sB i' fz _ (hz _ hb).1).1.2.2 rfl
   ·have:=h.cw.2.2.1;omega
 ·obtain ⟨s,r,tm,hc⟩:=adB;refine ⟨s,r,tm, ?_⟩;rw [hc];have:(od++[i]).map (λi'=>(upd D i ⟨8,rk,0,(D i).S,v,λ_=>False,(D i).P⟩ i').v)=od.map (λi=>(D i).v)++[v]:=by
   rw [qbr];congr 1
   ·refine qcb λi' fz=> ?_;rw [upd_ne D _ (λe=>hni (by rw [←e];exact fz))]
   ·simp [upd_same]
  rw [this];congr 2;simp
 ·exact List.nodup_append.2 ⟨h.nd,by simp,λa ha b hb e=>hni (by rw [qaz] at hb;rw [←hb, ←e];exact ha)⟩
 ·rw [qag,h.od i',qaz];by_cases e:i'=i
  ·subst e;rw [upd_same];simp [hi]
  ·rw [upd_ne D _ e];simp [e]
 ·rw [←h.keep b hb];exact hT.blk b (by omega) λeU=>by have:=h.cw.2.2.1;omega
theorem Cm.spawn(h:Cm F j gs w t X D q 0 S0 od)(Tv:j+1<=F.n){a' child:Goroutine}{NU:Nat->Prop}{x0:Wx}{u v:MemOp}{rk:Rk}(hu:u.g=0/\u.act= .go (F.K0+1+j))(hv:v.g=F.K0+1+j/\v.act= .start)
  (hs:F.WS x0 j 9 rk 0 (λ_=>False) child w) (hbn:x0.Ro x0.bn) (hbS:S0 x0.bn) (vu: ∀b,x0.Ro b->F.Old b\/S0 b\/F.eC b) (Iq: ∀b,NU b->S0 b/\ ¬x0.Ro b) (W7: ∀b,F.Old b->b<w.heap.size):
  Cm F (j+1) ((gs.setIfInBounds 0 a').push child) w (t++ #[u,v]) (upd X j x0) (upd D j ⟨9,rk,0,λ_=>False,undef,λ_=>False,λ_=>False⟩) q 0 NU od:=by
 have hwb:=h.CO;have hm: ∀op∈ #[u,v],op=u\/op=v:=by intro op cG;simpa using cG
 have er: ∀op∈ #[u,v],op.act≠ .mark .disable/\op.act≠ .mark .enable:=by
  intro op cG;rcases hm op cG with rfl | rfl
  ·rw [hu.2];exact ⟨by simp,by simp⟩
  ·rw [hv.2];exact ⟨by simp,by simp⟩
 have hx: ∀b,x0.Ro b->b<w.heap.size/\b≠F.Wg/\b≠F.Ch/\(b<F.WB.heap.size-> ∀l,ic l b-> ¬F.cR l):=λb hb=>by
  rcases vu b hb with hb | hb | hb
  ·exact ⟨W7 b hb,λe=>by have:=hb.1;have:=h.cw.2.1;omega,λe=>by have:=hb.1;have:=h.cw.2.2.1;omega,λ_=>hb.2⟩
  ·obtain ⟨⟨a1,a2,a3⟩,a4,_⟩:=h.sep.s0 b hb;exact ⟨a4,a2,a3,λq=>by omega⟩
  ·obtain ⟨⟨a1,a2,a3⟩,a4⟩:=h.sep.r0 b hb;exact ⟨a4,a2,a3,λq=>by omega⟩
 have hxS: ∀i,i<j-> ∀b,(D i).S b-> ¬x0.Ro b:=λi hi b hb eU=>by
  obtain ⟨a1,a2,a3,a4⟩:=h.sep.sB i hi b hb;rcases vu b eU with q | q | q
  ·have:=q.1;have:=a1.1;omega
  ·exact a3 q
  ·exact a4 q
 have eD: ∀i,i<j->upd D j ⟨9,rk,0,λ_=>False,undef,λ_=>False,λ_=>False⟩ i=D i:=λi hi=>upd_ne D _ (by omega);have eX: ∀i,i<j->upd X j x0 i=X i:=λi hi=>upd_ne X _ (by omega);have nP: ∀{i},i<j+1->i<j\/i=j:=λh=>by omega
 have FV:Sep F (j+1) w.heap.size (upd X j x0) (upd D j ⟨9,rk,0,λ_=>False,undef,λ_=>False,λ_=>False⟩) NU:=by
  refine ⟨λi hi b hb=> ?_,λi1 i2 h1 h2 b hb eU=> ?_,λi1 i2 h1 h2 b hb=> ?_,λi hi b hb=> ?_,λi hi=> ?_,λi1 i2 h1 h2 hb=> ?_,λb hb=>h.sep.s0 b (Iq b hb).1,h.sep.r0⟩
  ·rcases nP hi with hi | rfl
   ·rw [eD i hi] at hb;obtain ⟨a1,a2,a3,a4⟩:=h.sep.sB i hi b hb;exact ⟨a1,a2,λq=>a3 (Iq b q).1,a4⟩
   ·rw [upd_same] at hb;exact hb.elim
  ·rcases nP h1 with h1 | rfl
   ·rcases nP h2 with h2 | rfl
    ·rw [eD i1 h1] at hb;rw [eD i2 h2] at eU;exact h.sep.sS i1 i2 h1 h2 b hb eU
    ·rw [upd_same] at eU;exact eU.elim
   ·rw [upd_same] at hb;exact hb.elim
  ·rcases nP h1 with h1 | rfl
   ·rw [eD i1 h1] at hb;rcases nP h2 with h2 | rfl
    ·rw [eX i2 h2];exact h.sep.sR i1 i2 h1 h2 b hb
    ·rw [upd_same];exact hxS i1 h1 b hb
   ·rw [upd_same] at hb;exact hb.elim
  ·rcases nP hi with hi | rfl
   ·rw [eX i hi] at hb;obtain ⟨a1,a2,a3,a4,a5⟩:=h.sep.rB i hi b hb;exact ⟨a1,a2,a3,λq=>a4 (Iq b q).1,a5⟩
   ·rw [upd_same] at hb;obtain ⟨a1,a2,a3,a5⟩:=hx b hb;exact ⟨a1,a2,a3,λq=>(Iq b q).2 hb,a5⟩
  ·rcases nP hi with hi | rfl
   ·rw [eX i hi];exact h.sep.nR i hi
   ·rw [upd_same];exact ⟨hbn,(h.sep.s0 _ hbS).1,(h.sep.s0 _ hbS).2.2⟩
  ·rcases nP h1 with h1 | rfl
   ·rw [eX i1 h1] at hb;rcases nP h2 with h2 | rfl
    ·rw [eX i2 h2] at hb;exact h.sep.nn i1 i2 h1 h2 hb
    ·rw [upd_same] at hb;obtain ⟨n1,n2,n3⟩:=h.sep.nR i1 h1;rcases vu _ hb with q | q | q
     ·have:=q.1;have:=n2.1;omega
     ·exact ((h.sep.rB i1 h1 _ n1).2.2.2.1 q).elim
     ·exact (n3 q).elim
   ·rw [upd_same] at hb;rcases nP h2 with h2 | rfl
    ·rw [eX i2 h2] at hb;exact ((h.sep.rB i2 h2 _ hb).2.2.2.1 hbS).elim
    ·rfl
 have ea:(λk=>yC F.K0 j k\/k=F.K0+j+1)=yC F.K0 (j+1):=by
  funext k;apply propext;unfold yC;omega
 have el:(λk=>D2 F.K0 j D k\/k=F.K0+j+1)=D2 F.K0 (j+1) (upd D j ⟨9,rk,0,λ_=>False,undef,λ_=>False,λ_=>False⟩):=by
  funext k;apply propext
  constructor
  ·rintro (⟨h1,h2⟩ | rfl)
   ·refine ⟨⟨h1.1,by have:=h1.2;omega⟩, ?_⟩;rw [eD _ (by have:=h1.1;have:=h1.2;omega)];exact h2
   ·refine ⟨⟨by omega,by omega⟩, ?_⟩;rw [show F.K0+j+1 - F.K0 - 1=j by omega,upd_same];show 7<=9;omega
  ·rintro ⟨h1,h2⟩;by_cases e:k=F.K0+j+1
   ·exact .inr e
   ·refine .inl ⟨⟨h1.1,by have:=h1.2;omega⟩, ?_⟩;rw [eD _ (by have:=h1.1;have:=h1.2;omega)] at h2;exact h2
 have e1:F.K0+(j+1)=F.K0+j+1:=by omega
 have NH:=(h.ti.congr (λk hk=>hk.1) (S':=FU F.K0 (upd D j ⟨9,rk,0,λ_=>False,undef,λ_=>False,λ_=>False⟩)) (Rd':=Sj F.K0 (upd X j x0)) (λk hk=>by unfold FU;rw [eD _ (by have:=hk.1;have:=hk.2;omega)]) (λk hk=>by unfold Sj;rw [eX _ (by have:=hk.1;have:=hk.2;omega)])).fork (x:=u) (y:=v) (λk hk=>hk.1) (λk hk=>hk.2)
  (λb hb=>by
   rw [FU,show F.K0+j+1 - F.K0 - 1=j by omega,upd_same] at hb;exact hb)
  (λl hl=>by
   obtain ⟨b,h1,h2⟩:=hl;rw [Sj,show F.K0+j+1 - F.K0 - 1=j by omega,upd_same] at h2;obtain ⟨a1,a2,a3,a5⟩:=hx b h2;refine ⟨λhs=>a2 (jq hs h1),λhb=>a5 (h.u9 l b hb h1) l h1 hb,λk hk pH=> ?_⟩;obtain ⟨b',r1,r2⟩:=pH;have:=ic.inj h1 r1;subst this;obtain ⟨i,hi,rfl⟩:=iD.1 hk;rw [FU,ix,eD i hi] at r2;exact hxS i hi b r2 h2)
  ⟨hu.1,by rw [hu.2];congr 1;omega⟩ ⟨by rw [hv.1];omega,hv.2⟩ h.deaf0
 rw [ea,el, ←e1] at NH;refine ⟨by simp [h.size];omega,λk h1 h2=> ?_,λi hi=> ?_,NH, ?_,rz h.norel λop cG=> ?_,by simp;have:=h.NB;omega,by rw [ConcN.Deaf_still t 0 _ er,h.deaf0],λi hi=> ?_,λi hi hs=> ?_,h.u9,FV,λi hi=> ?_,λi hi hs=> ?_, ?_,h.nd,λi=> ?_,Tv,h.cw,h.tape,h.os,h.output,h.keep⟩
 ·obtain ⟨z,hz,wC⟩:=h.lv k h1 h2;have bs:=(qa1.1 hz).1;refine ⟨z, ?_,by rw [ConcN.Deaf_still t k _ er];exact wC⟩;rw [qbz (by simp;omega), ←Array.getElem?_eq_getElem,qaq (by omega)];exact hz
 ·rcases nP hi with hi | rfl
  ·obtain ⟨z,hz,NT⟩:=h.wk i hi;have bs:=(qa1.1 hz).1;refine ⟨z, ?_,by rw [eD i hi,eX i hi];exact NT⟩;rw [qbz (by simp;omega), ←Array.getElem?_eq_getElem,qaq (by omega)];exact hz
  ·refine ⟨child, ?_,by rw [upd_same,upd_same];exact hs⟩;rw [show F.K0+1+i=(gs.setIfInBounds 0 a').size by simp [h.size],Array.getElem?_push_size]
 ·
  have e2:t++ #[u,v]=(t++ #[u])++ #[v]:=by apply qch;simp
  rw [e2];refine HO.app (g:=F.K0+1+j) (HO.app (g:=0) (h.ho.more λk hk=>⟨hk.1,by have:=hk.2;omega⟩) (λop cG=>by simp at cG;rw [cG];exact hu.1) (.inl rfl)) (λop cG=>by simp at cG;rw [cG];exact hv.1) (.inr (.inl ⟨by omega,by omega⟩))
 ·rcases hm op cG with rfl | rfl
  ·rw [hu.2];simp
  ·rw [hv.2];simp
 ·rw [ConcN.Deaf_still t _ _ er];rcases nP hi with hi | rfl
  ·rw [h.deafW i hi,eD i hi]
  ·rw [upd_same];exact ConcN.Deaf_absent λa op ha e=>by have:=h.ti.gs a op ha;omega
 ·rcases nP hi with hi | rfl
  ·rw [eD i hi] at hs;obtain ⟨r,hr,hTr⟩:=h.rel i hi hs;refine ⟨r,hr.appNot λop cG=> ?_,hTr⟩;rcases hm op cG with rfl | rfl
   ·rw [hu.1];omega
   ·rw [hv.1];omega
  ·rw [upd_same] at hs;simp at hs
 ·rcases nP hi with hi | rfl
  ·rw [eD i hi];exact h.pz i hi
  ·rw [upd_same];exact ⟨λ_ h=>h,λhs=>by simp at hs⟩
 ·rcases nP hi with hi | rfl
  ·rw [eD i hi] at hs ⊢;exact h.res i hi hs
  ·rw [upd_same] at hs;simp at hs
 ·obtain ⟨s,r,tm,hc⟩:=h.chan;refine ⟨s,r,tm, ?_⟩;rw [hc];congr 3;refine qcb λi hi=> ?_;rw [eD i ((h.od i).1 hi).1]
 ·rw [h.od i]
  constructor
  ·rintro ⟨h1,h2⟩;exact ⟨by omega,by rw [eD i h1];exact h2⟩
  ·rintro ⟨h1,h2⟩;rcases nP h1 with h1 | rfl
   ·rw [eD i h1] at h2;exact ⟨h1,h2⟩
   ·rw [upd_same] at h2;simp at h2
end
end Go.Cx
namespace Go.Cx
open Go Go.Conc
open Go.ConcR (KK WgAt stA smA rd wr mk Payload DC0 Bk)
open Go.ConcN (WgLive Mode WD cnt Vc CTag upd sumTo upd_same upd_ne ShN RelBy get_map_set get_map_set_same OpenSt Vc_upd Vc_le others_uncounted bk_cell norel_of_Bk)
def DM(D:Nat->BP):Nat->WD:=λi=>⟨min 7 (D i).stage,0,0⟩
theorem ud(D:Nat->BP)(i:Nat)(d:BP):DM (upd D i d)=upd (DM D) i ⟨min 7 d.stage,0,0⟩:=by
 funext a;by_cases e:a=i
 ·subst e;simp [DM,upd_same]
 ·rw [upd_ne (DM D) _ e];simp only [DM,upd_ne D _ e]
def Sg(j:Nat)(D:Nat->BP):Nat:=sumTo j λi=>(D i).stage
def fam(K0:Nat)(q:Nat->Nat)(D:Nat->BP):Nat->Rk:=λk=>if k<=K0 then Vp (q k) else (D (k - K0 - 1)).rk
abbrev Mu:=Nat×((Nat->Rk)×(Nat×Rk))
def ZN(N:Nat):Mu->Mu->Prop:=Prod.Lex Nat.lt (Prod.Lex (Ga N) (Prod.Lex Nat.lt Rk.lt))
theorem ZN.wf(N:Nat):WellFounded (ZN N):=
 (Prod.lex ⟨Nat.lt,Nat.lt_wfRel.wf⟩ (Prod.lex ⟨Ga N,Ga.wf N⟩ (Prod.lex ⟨Nat.lt,Nat.lt_wfRel.wf⟩ ⟨Rk.lt,⟨Rk.acc⟩⟩))).wf
def Fx.mu(F:Fx)(j:Nat)(D:Nat->BP)(q:Nat->Nat)(tag:Tg)(mr:Nat×Rk):Mu:=(uc F.n j (Vc j (DM D)) tag+Sg j D,(fam F.K0 q D,mr))
section
variable[Payload](F:Fx)
def Fx.Inv(μ:Mu)(m:Machine)(t:Trace):Prop:=
 ∃(gs:Array Goroutine) (w:World) (sl:Option (Nat×Nat)) (j:Nat) (X:Nat->Wx) (D:Nat->BP) (q:Nat->Nat) (d0:Nat) (S0:Nat->Prop) (od:List Nat) (tag:Tg) (mr:Nat×Rk) (a:Goroutine) (st sm:Int),
  m=crowd gs w sl/\gs[0]? =some a/\F.MS tag j mr d0 S0 a w/\Cm F j gs w t X D q d0 S0 od/\WgAt F.ty F.Wg w st sm/\ConcN.Mode j (DM D) tag.ct st sm/\μ=F.mu j D q tag mr
def Fx.Next(μ:Mu)(gs:Array Goroutine)(w:World)(sl:Option (Nat×Nat))(t:Trace)(k:Nat):Prop:=
 ∃m₁ ops μ',runT F.C (crowd gs w sl) k=(.next m₁,ops)/\ZN (F.K0+1+F.n) μ' μ/\F.Inv μ' m₁ (t++ops)
end
section
variable[Payload]{F:Fx}{j:Nat}{gs:Array Goroutine}{w w':World}{t:Trace}{X:Nat->Wx}{D:Nat->BP}{q:Nat->Nat}{d0:Nat}{S0:Nat->Prop}{od:List Nat}{sl:Option (Nat×Nat)}{tag:Tg}{mr:Nat×Rk}{a:Goroutine}{st sm FW FY:Int}
omit [Payload] in
theorem WW{tag tag':Tg}(h:tag'=tag\/(tag= .blk/\tag'= .w3)):tag'.ct=tag.ct\/(tag.ct= .blk/\tag'.ct= .w3):=by
 rcases h with rfl | ⟨rfl,rfl⟩
 ·exact .inl rfl
 ·exact .inr ⟨rfl,rfl⟩
omit [Payload] in
theorem Rx{n j v:Nat}{tag tag':Tg}(h:tag'=tag\/(tag= .blk/\tag'= .w3)):uc n j v tag'=uc n j v tag:=by
 rcases h with rfl | ⟨rfl,rfl⟩ <;> rfl
omit [Payload] in
theorem RD{n j v v':Nat}(h:v'<=v)(tag:Tg):uc n j v' tag<=uc n j v tag:=by cases tag <;> simp only [uc] <;> omega
omit [Payload] in
theorem Ie{n N m m':Nat}{f f':Nat->Rk}{x x':Nat×Rk}(h:m'<m\/(m'=m/\Ga N f' f)\/(m'=m/\f'=f/\Prod.Lex Nat.lt Rk.lt x' x)):ZN N (m',(f',x')) (m,(f,x)):=by
 rcases h with h | ⟨rfl,h⟩ | ⟨rfl,rfl,h⟩
 ·exact Prod.Lex.left _ _ h
 ·exact Prod.Lex.right _ (Prod.Lex.left _ _ h)
 ·exact Prod.Lex.right _ (Prod.Lex.right _ h)
omit [Payload] in
theorem cnt_mono{a b:WD}(h:a.stage<=b.stage):cnt a<=cnt b:=by
 simp only [cnt];split
 ·rw [if_pos (by omega)];omega
 ·omega
theorem Cm.ry0(h:Cm F j gs w t X D q d0 S0 od){T:Nat->Prop}(hT:Tw T w w')(oi:jA F.ty F.Wg w')(hn: ∀b,S0 b\/F.eC b-> ¬T b):Ry (jA F.ty F.Wg) (λb=>S0 b\/F.eC b) w w':=
 ⟨λb hb=>hT.blk b (hb.elim (λhb=>(h.sep.s0 b hb).2.1) λhb=>(h.sep.r0 b hb).2) (hn b hb),hT.size,oi⟩
theorem zW(hR:kQ F)(hA: ∀S g w,F.gz S g w->g.status= .running)(ha:gs[0]? =some a)(wH:F.MS tag j mr d0 S0 a w)(h:Cm F j gs w t X D q d0 S0 od)(hl:jA F.ty F.Wg w){i:Nat}(hi:i<j){g g':Goroutine}{es:Array Event}{d:BP}
  (hg:gs[F.K0+1+i]? =some g) (hgo:stepG F.C false g w= .go g' w' es)
  (hT:Tw (λb=>(D i).P b\/b=F.Wg\/b=(X i).bn) w w') (sr:WgAt F.ty F.Wg w' FW FY) (hS: ∀b,d.S b↔nw (D i).S w w' b) (hP: ∀b,d.P b->nw (D i).P w w' b) (hZ:d.Z=(D i).Z)
  (D8:F.WS (X i) i d.stage d.rk d.deaf d.P g' w') (sF: ∀e∈es,Rv F (X i).Ro (nw (D i).P w w') (7<=(D i).stage) w'.heap.size e)
  (Rw:deafBehind (D i).deaf es=d.deaf) (h8:d.stage<=8↔(D i).stage<=8) (hv:d.v=(D i).v)
  (eE:d.stage<=6-> ∃r,RelBy (stA F.Wg) (t++MemOp.ofEvents (F.K0+1+i) g.frame.fn g.frame.place es) (F.K0+1+i) r/\F.T0<=r)
  (du: ∀tag':Tg,(tag'.ct=tag.ct\/(tag.ct= .blk/\tag'.ct= .w3))->(mayWake F.C g=true->g'.status= .running->tag'≠ .blk)->ConcN.Mode j (DM (upd D i d)) tag'.ct FW FY)
  (bs:d.stage<(D i).stage\/(d.stage=(D i).stage/\Rk.lt d.rk (D i).rk)):F.Next (F.mu j D q tag mr) gs w sl t (F.K0+1+i):=by
 have oi:jA F.ty F.Wg w':=⟨_,_,sr⟩;have hry:=h.ry0 hT oi (λb hb eU=>by
  rcases hb with hb | hb
  ·rcases eU with eU | rfl | rfl
   ·exact (h.sep.sB i hi b ((h.pz i hi).1 b eU)).2.2.1 hb
   ·exact (h.sep.s0 _ hb).1.2.1 rfl
   ·exact (h.sep.rB i hi _ (h.sep.nR i hi).1).2.2.2.1 hb
  ·rcases eU with eU | rfl | rfl
   ·exact (h.sep.sB i hi b ((h.pz i hi).1 b eU)).2.2.2 hb
   ·exact (h.sep.r0 _ hb).1.2.1 rfl
   ·exact (h.sep.nR i hi).2.2 hb)
 obtain ⟨tag',D5,ue,RE,hwk⟩:=wH.wokenBy hA hry g g';have bH:=runT_crowd_go (P:=F.C) (sl:=sl) (i:=F.K0+1+i) hg (by rw [show (F.K0+1+i==0)=false from by simp];exact hgo);have ahp:d.stage<=(D i).stage:=by omega
 refine ⟨_,_,F.mu j (upd D i d) q tag' D5,bH, ?_,_,w',sl,j,X,upd D i d,q,d0,S0,od,tag',D5,woken F.C g g' w' a,FW,FY,rfl,by rw [get_map_set _ _ _ _ (by omega),ha];rfl,ue,h.stepW hR hl hi hT oi hS hP hZ D8 sF Rw ahp h8 hv eE,sr,du tag' (WW RE) hwk,rfl⟩;unfold Fx.mu;rw [Rx RE];have e2:Sg j (upd D i d)+(D i).stage=Sg j D+d.stage:=ConcN.sumTo_upd D d BP.stage hi;have e3:=Vc_upd (DM D) (⟨min 7 d.stage,0,0⟩:WD) hi;rw [←ud] at e3;have e4:cnt (⟨min 7 d.stage,0,0⟩:WD)<=cnt (DM D i):=cnt_mono (show min 7 d.stage<=min 7 (D i).stage by omega);have e5:=RD (n:=F.n) (j:=j) (v':=Vc j (DM (upd D i d))) (v:=Vc j (DM D)) (by omega) tag;refine Ie (n:=0) ?_;rcases bs with bs | ⟨hq,bs⟩
 ·exact .inl (by omega)
 ·have ev:Vc j (DM (upd D i d))=Vc j (DM D):=by
   have:cnt (⟨min 7 d.stage,0,0⟩:WD)=cnt (DM D i):=by rw [hq];rfl
   omega
  refine .inr (.inl ⟨by rw [ev];omega,F.K0+1+i,by have:=h.jn;omega, ?_,λk hk hn=> ?_⟩)
  ·unfold fam;rw [if_neg (by omega),if_neg (by omega),ix,upd_same];exact bs
  ·unfold fam;by_cases KW:k<=F.K0
   ·rw [if_pos KW,if_pos KW]
   ·rw [if_neg KW,if_neg KW,upd_ne D _ (by omega)]
end
end Go.Cx
namespace Go.Cx
open Go Go.Conc
open Go.ConcR (KK WgAt stA smA rd wr mk Payload DC0 Bk ofEvent_loc_mark)
open Go.ConcN (WgLive WD cnt Vc CTag upd sumTo upd_same upd_ne ShN RelBy get_map_set get_map_set_same OpenSt Vc_upd Vc_le others_uncounted bk_cell norel_of_Bk isW3 EvW le_sumTo pend WSit)
theorem yE: ∀(j:Nat) (l:List Nat),l.Nodup->(∀x∈l,x<j)->l.length<=j
 | 0,l,_,h=>by
  cases l with
  | nil=>exact qa3 _
  | cons x l=>exact absurd (h x (by simp)) (qar x)
 | j+1,l,hn,h=>by
  by_cases hm:j∈l
  ·have h1:=yE j (l.erase j) (hn.erase j) λx hx=>by
    have:=h x (List.mem_of_mem_erase hx);have:x≠j:=λe=>by
     subst e;exact ((hn.mem_erase_iff).1 hx).1 rfl
    omega
   rw [List.length_erase_of_mem hm] at h1;omega
  ·have:=yE j l hn λx hx=>by
    have:=h x hx;have:x≠j:=λe=>hm (e▸hx);omega
   omega
section
variable{F:Fx}{Ro S':Nat->Prop}{lv:Prop}{sz:Nat}{e:Event}
theorem sx{S Ro:Nat->Prop}(h:SP S Ro e):e.loc≠ .mark .disable/\e.loc≠ .mark .enable:=by
 rcases h with ⟨_,⟨ad,h1,_⟩ | ⟨r,h1,_⟩⟩ | h
 ·rw [h1];exact ⟨by simp,by simp⟩
 ·rw [h1];exact ⟨by simp,by simp⟩
 ·subst h;exact ⟨by simp,by simp⟩
theorem rA{S Ro:Nat->Prop}(h:SP S Ro e):(∀x,(MemAct.ofEvent e).touch? =some x->x.kind= .plain/\(uK S x.loc\/(uK Ro x.loc/\x.write=false)))/\ ∀a,MemAct.ofEvent e≠ .mark (.release a):=by
 obtain ⟨l,wr,sy⟩:=e;rcases h with ⟨hs,⟨ad,h1,h2⟩ | ⟨r,h1,h2⟩⟩ | h
 ·simp only at hs h1 h2;subst hs h1;refine ⟨λx hx=> ?_,λa=>by simp [MemAct.ofEvent]⟩;have uL:x=⟨.cell ad,wr, .plain⟩:=by
   cases wr <;> (cases hx;rfl)
  subst uL;exact ⟨rfl,h2.imp (λh=>⟨_,rfl,h⟩) λh=>⟨⟨_,rfl,h.1⟩,h.2⟩⟩
 ·simp only at hs h1 h2;subst hs h1;refine ⟨λx hx=> ?_,λa=>by simp [MemAct.ofEvent]⟩;have uL:x=⟨.obj r,wr, .plain⟩:=by
   cases wr <;> (cases hx;rfl)
  subst uL;exact ⟨rfl, .inl ⟨_,rfl,h2⟩⟩
 ·cases h;exact ⟨λx hx=>(by cases hx),λa=>by simp [MemAct.ofEvent]⟩
theorem RF(h:SP S' Ro e)(hl:lv):Rv F Ro S' lv sz e:=⟨λx hx=> .inr ⟨hl,(rA h).1 x hx⟩,(rA h).2 _⟩
theorem Ig(h:SP S' F.eC e):Kg F S' e:=⟨λx hx=> .inr ((rA h).1 x hx).2,(rA h).2 _⟩
theorem sD{e:Event}{a:Addr}(h:MemAct.ofEvent e= .mark (.release a)):e.loc= .mark (.release a):=ConcR.loc_of_ofEvent h
theorem RH(h:EvW F.Wg IC IC 1 e):Rv F Ro S' lv sz e:=
 ⟨λx hx=> .inl (by
  rcases ((h.1 0 "").2 x hx) with h | h | ⟨h,_⟩
  ·exact h
  ·exact h.elim
  ·exact h.elim),λq=>h.2.2.2 (sD q)⟩
theorem BQ{Wg:Nat}(h:Bk Wg e):(∀x,(MemAct.ofEvent e).touch? =some x->ShN Wg x.loc/\x.kind≠ .plain/\x.kind≠ .said):=λx hx=>by
 rcases h with h1 | h1 | ⟨a,wr,rfl,ha⟩
 ·rw [ofEvent_loc_mark h1] at hx;cases hx
 ·rw [ofEvent_loc_mark h1] at hx;cases hx
 ·cases wr <;> (cases hx;exact ⟨⟨a,rfl,ha⟩,by simp,by simp⟩)
theorem Vq(h:Bk F.Wg e):Rv F Ro S' lv sz e:=
 ⟨λx hx=> .inl (BQ h x hx),λq=>norel_of_Bk (es:= #[e]) (by simp;exact h) e (by simp) (sD q)⟩
theorem FZ(h:Bk F.Wg e):Kg F S' e:=
 ⟨λx hx=> .inl ⟨(BQ h x hx).1,(BQ h x hx).2.1⟩,λq=>norel_of_Bk (es:= #[e]) (by simp;exact h) e (by simp) (sD q)⟩
end
section
variable[Payload]{F:Fx}{j:Nat}{gs:Array Goroutine}{w w':World}{t:Trace}{X:Nat->Wx}{D:Nat->BP}{q:Nat->Nat}{d0:Nat}{S0:Nat->Prop}{od:List Nat}{sl:Option (Nat×Nat)}{tag:Tg}{mr:Nat×Rk}{a:Goroutine}{st sm FW FY:Int}
omit [Payload] in
theorem BR{c:Nat}{T:Nat->Prop}(h:Conc.Aside c w w')(k:T c):Tw T w w':=(Tw.Ru h).mono λb hb=>hb▸k
theorem LF(hR:kQ F)(hA: ∀S g w,F.gz S g w->g.status= .running)(hn:F.n<2147483646)(ha:gs[0]? =some a)(wH:F.MS tag j mr d0 S0 a w)(h:Cm F j gs w t X D q d0 S0 od)(j6:WgAt F.ty F.Wg w st sm)(du:ConcN.Mode j (DM D) tag.ct st sm)
  {i:Nat} (hi:i<j) {g:Goroutine} (hg:gs[F.K0+1+i]? =some g) (bH:g.status= .running) {s m dd:Nat} (hs:WSit F.C F.ty F.Wg (X i).bn 1 IC IC 0 1 (X i).num s m dd g w) (er:(D i).stage=s\/(s=7/\(D i).stage=8)) (Rn:(D i).stage=s->(D i).rk=Vp m) (NV:(D i).deaf=dd):
  F.Next (F.mu j D q tag mr) gs w sl t (F.K0+1+i):=by
 have hl:jA F.ty F.Wg w:=⟨_,_,j6⟩;have hb:=wH.bound;have hVj:=Vc_le j (DM D);have Tv:=h.jn;have hdk:Deaf t (F.K0+1+i)=dd:=by rw [h.deafW i hi,NV]
 have s7:s<=7:=by cases hs <;> omega
 have RI:(DM D i).stage=s:=by show min 7 (D i).stage=s;omega
 have h8:(D i).stage<=8:=by omega
 have ahq:(X i).bn≠F.Wg:=(h.sep.nR i hi).2.1.2.1;have WY: ∀{g':Goroutine} {w':World} {es:Array Event} {s' m' ZO:Nat} {FW FY:Int},stepG F.C false g w= .go g' w' es->Conc.Aside F.Wg w w'->WgAt F.ty F.Wg w' FW FY->(∀e∈es,Bk F.Wg e)->
    (∀jx e,es[jx]? =some e->(MemAct.ofEvent e).touch? =none\/0<deafBehind dd (es.extract 0 jx))->WSit F.C F.ty F.Wg (X i).bn 1 IC IC 0 1 (X i).num s' m' ZO g' w'->deafBehind dd es=ZO->s<=6->s'<=6->
    (∀tag':Tg,(tag'.ct=tag.ct\/(tag.ct= .blk/\tag'.ct= .w3))->(mayWake F.C g=true->g'.status= .running->tag'≠ .blk)->ConcN.Mode j (upd (DM D) i ⟨s',0,0⟩) tag'.ct FW FY)->(s'<s\/(s'=s/\m'+1=m))->
    F.Next (F.mu j D q tag mr) gs w sl t (F.K0+1+i):=by
  intro g' w' es s' m' ZO FW FY hgo hAs sr RJ hd D8 ahr h6 h6' vU bs;have hsi:(D i).stage=s:=by omega
  refine zW (d:=⟨s',Vp m',ZO,nw (D i).S w w',(D i).v,(D i).P,(D i).Z⟩) hR hA ha wH h hl hi hg hgo (BR hAs (.inr (.inl rfl))) sr (λb=>Iff.rfl) (λb hb=> .inl hb) rfl (.c D8) (λe he=>Vq (RJ e he)) (by rw [NV];exact ahr) ⟨λ_=>h8,λ_=>show s'<=8 by omega⟩ rfl
    (λ_=>let ⟨r,hr,hT⟩:=h.rel i hi (by omega);⟨r,ConcN.RelBy.book hr hdk _ _ RJ hd,hT⟩) (λtag' h1 h2=> ?_) ?_
  · rw [ud,show min 7 s'=s' by omega];exact vU tag' h1 h2
  · rcases bs with bs | ⟨e1,e2⟩
    ·exact .inl (by show s'<_;omega)
    ·exact .inr ⟨by show s'=_;omega,by rw [Rn hsi, ←e2];exact Kf m'⟩
 have book: ∀{g':Goroutine} {w':World} {es:Array Event} {s' m' ZO:Nat} {FW FY:Int},stepG F.C false g w= .go g' w' es->Conc.Aside F.Wg w w'->WgAt F.ty F.Wg w' FW FY->(∀e∈es,Bk F.Wg e)->
    (∀jx e,es[jx]? =some e->(MemAct.ofEvent e).touch? =none\/0<deafBehind dd (es.extract 0 jx))->WSit F.C F.ty F.Wg (X i).bn 1 IC IC 0 1 (X i).num s' m' ZO g' w'->deafBehind dd es=ZO->s<=6->s'<=6->
    ConcN.Mode j (upd (DM D) i ⟨s',0,0⟩) tag.ct FW FY->(s'<s\/(s'=s/\m'+1=m))->F.Next (F.mu j D q tag mr) gs w sl t (F.K0+1+i):=
  λhgo hAs sr RJ hd D8 NV h6 h6' vU bs=>WY hgo hAs sr RJ hd D8 NV h6 h6' (λ_ ht _=>vU.retag ht) bs
 have same:ConcN.Mode j (upd (DM D) i ⟨s,0,0⟩) tag.ct st sm:=by have:=du.same (i:=i) 0 0;rwa [RI] at this
 have idle: ∀{g':Goroutine} {m':Nat},stepG F.C false g w= .go g' w #[]->WSit F.C F.ty F.Wg (X i).bn 1 IC IC 0 1 (X i).num s m' dd g' w->m'+1=m->s<=6->F.Next (F.mu j D q tag mr) gs w sl t (F.K0+1+i):=
  λhgo D8 hm h6=>book hgo (.refl F.Wg w) j6 (by simp) (by simp) D8 rfl h6 h6 same (.inr ⟨rfl,hm⟩)
 cases hs with
 | r0 hG=>
  rcases Goes.cases hG with np | ⟨m',rfl,iV⟩
  · obtain ⟨_,_,g',hgo,m₂,hk⟩:=np w (ConcN.RW.refl w);refine zW (d:=⟨6,Vp m₂,0,nw (D i).S w w,(D i).v,(D i).P,(D i).Z⟩) hR hA ha wH h hl hi hg hgo (.refl _ w) j6 (λb=>Iff.rfl) (λb hb=> .inl hb) rfl (.c (.k1 hk)) (λe he=> ?_) (by rw [NV];rfl) ⟨λ_=>h8,λ_=>show 6<=8 by omega⟩ rfl
     (λ_=>⟨t.size,RelBy.new hdk _ _,h.NB⟩) (λtag' h1 _=> ?_) (.inl (show 6<_ by omega))
    ·simp at he;subst he;exact ⟨λx hx=>(by cases hx),(by simp [mk,MemAct.ofEvent])⟩
    ·rw [ud];exact (du.counted hi (by omega) (.inl rfl) 0 0).retag h1
  · obtain ⟨g',w',es,hgo,⟨hac,sF⟩,Ip⟩:=iV w (ConcN.RW.refl w);refine zW (d:=⟨7,Vp m',0,nw (D i).S w w',(D i).v,(D i).P,(D i).Z⟩) hR hA ha wH h hl hi hg hgo ⟨hac.tape,hac.os,hac.output,qay hac.size.symm,λb _ hb=>hac.block b λe=>hb (.inr (.inr e))⟩ (j6.of_block (hac.block F.Wg (qbp ahq))) (λb=>Iff.rfl) (λb hb=> .inl hb) rfl (.c (.r0 Ip)) (λe he=>RH (sF e he))
     (by rw [NV];exact ConcN.deafBehind_idle (λe he=>⟨(sF e he).2.1,(sF e he).2.2.1⟩) 0) ⟨λ_=>h8,λ_=>show 7<=8 by omega⟩ rfl (λq=>absurd (show 7<=6 from q) (by omega)) (λtag' h1 _=> ?_) ?_
    ·rw [ud];exact same.retag h1
    ·rcases er with er | ⟨_,er⟩
     ·exact .inr ⟨er.symm,by rw [Rn er];exact Kf m'⟩
     ·exact .inl (show 7<_ by omega)
 | k1 hG=>
  rcases Goes.cases hG with np | ⟨m',rfl,iV⟩
  · obtain ⟨_,g',hgo,m₂,hk⟩:=np w (ConcN.RW.refl w);exact book hgo (.refl F.Wg w) j6 (by intro e he;simp at he;subst he;exact .inl rfl) (by intro jx e he;exact .inl (by have:=qb3 he;simp at this;subst this;rfl)) (.d1 hk) rfl (by omega) (by omega) (du.counted hi (by omega) (.inr rfl) 0 0) (.inl (by omega))
  · obtain ⟨g',w',es,hgo,⟨rfl,rfl⟩,Ip⟩:=iV w (ConcN.RW.refl w);exact idle hgo (.k1 Ip) rfl (by omega)
 | d1 hG=>
  rcases Goes.cases hG with np | ⟨m',rfl,iV⟩
  · obtain ⟨_,jF⟩:=np w (ConcN.RW.refl w);have EB:cnt (DM D i)=1:=by simp [cnt,RI]
    have hV1:1<=Vc j (DM D):=by have:=le_sumTo (f:=λx=>cnt (DM D x)) hi;simp only [Vc];omega
    have bk2: ∀e∈ #[rd (stA F.Wg),wr (stA F.Wg)],Bk F.Wg e:=by intro e he;simp at he;rcases he with rfl | rfl <;> exact bk_cell _ _ rfl
    have df2: ∀jx e,(#[rd (stA F.Wg),wr (stA F.Wg)]:Array Event)[jx]? =some e->(MemAct.ofEvent e).touch? =none\/0<deafBehind 1 ((#[rd (stA F.Wg),wr (stA F.Wg)]:Array Event).extract 0 jx):=by
     intro jx e he
     match jx,he with
     | 0,_=>exact .inr (by simp [deafBehind])
     | 1,_=>exact .inr (by simp [deafBehind,rd])
     | jx+2,he=>simp at he
    have hq0:cnt (⟨1,0,0⟩:WD)=0:=rfl;have opq:OpenSt j (DM D)->OpenSt j (upd (DM D) i ⟨1,0,0⟩):=λh a ha=>by
     by_cases e:a=i
     ·subst e;rw [upd_same];simp
     ·rw [upd_ne _ _ e];exact h a ha
    have eV:=Vc_upd (DM D) (⟨1,0,0⟩:WD) hi;generalize Sk:tag.ct=ct at du hb;cases du with
    | opn h1 h2 h3=>
     obtain ⟨v,hv⟩: ∃v,Vc j (DM D)+pend ct=v+1:=⟨Vc j (DM D)+pend ct - 1,by omega⟩;rw [hv] at j6;have yH:WgAt F.ty F.Wg w (((v:Nat)+1)*KK+((0:Nat):Int)) 0:=by simpa using j6
     obtain ⟨g',hgo,_,hq⟩:=jF v 0 (by omega) (by omega) yH;obtain ⟨q,hq⟩:=hq (by omega);have BU:Vc j (upd (DM D) i ⟨1,0,0⟩)+pend ct=v:=by omega
     refine book hgo (aside_setCell w (stA F.Wg) _) (j6.setSt _) bk2 df2 (.quit hq) rfl (by omega) (by omega) ?_ (.inl (by omega));have e:((v:Nat):Int)*KK+((0:Nat):Int)=((Vc j (upd (DM D) i ⟨1,0,0⟩)+pend ct:Nat):Int)*KK:=by rw [BU];simp
     rw [e,Sk];exact .opn h1 (opq h2) (λvs ev=>by have:=h3 vs ev;omega)
    | reg h1 h2 h3=>
     obtain ⟨v,hv⟩: ∃v,Vc j (DM D)=v+1:=⟨Vc j (DM D) - 1,by omega⟩;rw [hv] at j6;have hp:pend ct=0:=by cases ct <;> first | rfl | exact h1.elim
     have yH:WgAt F.ty F.Wg w (((v:Nat)+1)*KK+((1:Nat):Int)) 0:=by simpa using j6
     obtain ⟨g',hgo,hl,hq⟩:=jF v 1 (by omega) (by omega) yH;by_cases hv0:v=0
     ·subst hv0;obtain ⟨m₂,hk⟩:=hl ⟨rfl,rfl⟩;refine book hgo (aside_setCell w (stA F.Wg) _) (j6.setSt _) bk2 df2 (.d2 hk) rfl (by omega) (by omega) ?_ (.inl (by omega));have Kh: ∀a,a<j->a≠i->(DM D a).stage=1:=λa ha e=>by
       have c0:=others_uncounted hi hv EB a ha e;have:=h2 a ha;simp only [cnt] at c0;split at c0 <;> omega
      have:=ConcN.Mode.last (j:=j) (D:=upd (DM D) i ⟨4,0,0⟩) (tag:=ct) i h1 hi (by rw [upd_same];simp) (λa ha e=>by rw [upd_ne _ _ e];exact Kh a ha e);rw [upd_same] at this;rw [Sk];simpa using this
     ·obtain ⟨q,hq⟩:=hq (by omega);have BU:Vc j (upd (DM D) i ⟨1,0,0⟩)=v:=by omega
      refine book hgo (aside_setCell w (stA F.Wg) _) (j6.setSt _) bk2 df2 (.quit hq) rfl (by omega) (by omega) ?_ (.inl (by omega));have e:((v:Nat):Int)*KK+((1:Nat):Int)=((Vc j (upd (DM D) i ⟨1,0,0⟩):Nat):Int)*KK+1:=by rw [BU];simp
      rw [e,Sk];exact .reg h1 (opq h2) (by omega)
    | last L _ h2 h3 h4=>
     by_cases e:i=L
     ·subst e;omega
     ·have:=h4 i hi e;omega
    | sema h2=>have:=h2 i hi;omega
    | fin _ h2=>have:=h2 i hi;omega
  · obtain ⟨g',w',es,hgo,⟨rfl,rfl⟩,Ip⟩:=iV w (ConcN.RW.refl w);exact idle hgo (.d1 Ip) rfl (by omega)
 | d2 hG=>
  rcases Goes.cases hG with np | ⟨m',rfl,iV⟩
  · obtain ⟨_,hx⟩:=np w (ConcN.RW.refl w);obtain ⟨hW3,Kh,rfl,rfl⟩:=du.isLast hi (by omega);simp only [RI] at j6;obtain ⟨g',hgo,m₂,hk⟩:=hx (by simpa using j6);refine book hgo (.refl F.Wg w) j6 (by intro e he;simp at he;subst he;exact bk_cell _ _ rfl) (by intro jx e he;match jx,he with | 0,_=>exact .inr (by simp [deafBehind]) | jx+1,he=>simp at he) (.d3 hk) rfl (by omega) (by omega) ?_ (.inl (by omega));have:=ConcN.Mode.last (j:=j) (D:=upd (DM D) i ⟨3,0,0⟩) (tag:=tag.ct) i hW3 hi (by rw [upd_same];simp) (λa ha e=>by rw [upd_ne _ _ e];exact Kh a ha e);rw [upd_same] at this;simpa using this
  · obtain ⟨g',w',es,hgo,⟨rfl,rfl⟩,Ip⟩:=iV w (ConcN.RW.refl w);exact idle hgo (.d2 Ip) rfl (by omega)
 | d3 hG=>
  rcases Goes.cases hG with np | ⟨m',rfl,iV⟩
  · obtain ⟨_,hx⟩:=np w (ConcN.RW.refl w);obtain ⟨hW3,Kh,rfl,rfl⟩:=du.isLast hi (by omega);simp only [RI] at j6;obtain ⟨g',hgo,m₂,hk⟩:=hx (by simpa using j6);refine book hgo (aside_setCell w (stA F.Wg) _) (j6.setSt 0) (by intro e he;simp at he;subst he;exact bk_cell _ _ rfl) (by intro jx e he;match jx,he with | 0,_=>exact .inr (by simp [deafBehind]) | jx+1,he=>simp at he) (.d4 hk) rfl (by omega) (by omega) ?_ (.inl (by omega));have:=ConcN.Mode.last (j:=j) (D:=upd (DM D) i ⟨2,0,0⟩) (tag:=tag.ct) i hW3 hi (by rw [upd_same];simp) (λa ha e=>by rw [upd_ne _ _ e];exact Kh a ha e);rw [upd_same] at this;simpa using this
  · obtain ⟨g',w',es,hgo,⟨rfl,rfl⟩,Ip⟩:=iV w (ConcN.RW.refl w);exact idle hgo (.d3 Ip) rfl (by omega)
 | d4 hG=>
  rcases Goes.cases hG with np | ⟨m',rfl,iV⟩
  · obtain ⟨_,hmw,hx⟩:=np w (ConcN.RW.refl w);obtain ⟨hW3,Kh,rfl,rfl⟩:=du.isLast hi (by omega);simp only [RI] at j6;obtain ⟨g',hgo,q,hq⟩:=hx (by simpa using j6);have LG:g'.status= .running:=by
     cases q with
     | zero=>exact absurd hq.2 (by decide)
     | succ q=>exact hq.elim (λx=>absurd x.2 (by decide)) (λx=>x.1)
    refine WY hgo (aside_setCell w (smA F.Wg) _) (j6.setSm 1) (es:=semEvents (smA F.Wg)) ?_ ?_ (.quit hq) (by simp [deafBehind,semEvents]) (by omega) (by omega) ?_ (.inl (by omega))
    ·intro e he;simp [semEvents] at he;rcases he with rfl | rfl | rfl | rfl
     ·exact .inl rfl
     ·exact bk_cell _ _ rfl
     ·exact bk_cell _ _ rfl
     ·exact .inr (.inl rfl)
    ·intro jx e he
     match jx,he with
     | 0,he=>simp [semEvents] at he;subst he;exact .inl rfl
     | 1,_=>exact .inr (by simp [deafBehind,semEvents])
     | 2,_=>exact .inr (by simp [deafBehind,semEvents])
     | 3,he=>simp [semEvents] at he;subst he;exact .inl rfl
     | jx+4,he=>simp [semEvents] at he
    ·intro tag' ht hw;have hnb:=hw hmw LG;have e3:tag'.ct= .w3:=by
      rcases ht with ht | ⟨_,ht⟩
      ·rw [←ht] at hW3;cases tag' <;> first | rfl | exact hW3.elim | exact absurd rfl hnb
      ·exact ht
     rw [e3];simp only [if_true];exact .sema λa ha=>by
      by_cases e:a=i
      ·subst e;rw [upd_same]
      ·rw [upd_ne _ _ e];exact Kh a ha e
  · obtain ⟨g',w',es,hgo,⟨rfl,rfl⟩,Ip⟩:=iV w (ConcN.RW.refl w);exact idle hgo (.d4 Ip) rfl (by omega)
 | quit hG=>
  cases m with
  | zero=>rw [hG.1] at bH;cases bH
  | succ q=>
    rcases hG with ⟨hf,_⟩ | ⟨_,g',es,WZ,iV,hq⟩
    ·rw [hf] at bH;cases bH
    ·have RJ: ∀e∈es,Bk F.Wg e:=λe he=>ConcR.bk_of_mute (WZ e he);have NY: ∀jx e,es[jx]? =some e->(MemAct.ofEvent e).touch? =none\/0<deafBehind dd (es.extract 0 jx):=λjx e he=> .inl (vx (WZ e (qb3 he)));exact book (iV w) (.refl F.Wg w) j6 RJ NY (.quit hq) rfl (by omega) (by omega) same (.inr ⟨rfl,rfl⟩)
end
end Go.Cx
namespace Go.Cx
open Go Go.Conc
open Go.ConcR (KK WgAt stA smA rd wr mk Payload DC0 Bk ofEvent_loc_mark)
open Go.ConcN (WgLive WD cnt Vc CTag upd sumTo upd_same upd_ne ShN RelBy get_map_set get_map_set_same OpenSt Vc_upd Vc_le bk_cell norel_of_Bk isW3 isOpen isFin le_sumTo pend WSit sumTo_upd_out)
section
variable[Payload]{F:Fx}{j:Nat}{gs:Array Goroutine}{w w':World}{t:Trace}{X:Nat->Wx}{D:Nat->BP}{q:Nat->Nat}{d0:Nat}{S0:Nat->Prop}{od:List Nat}{sl:Option (Nat×Nat)}{tag:Tg}{mr:Nat×Rk}{a:Goroutine}{st sm FW FY:Int}
omit [Payload] in
theorem RL{S Ro:Nat->Prop}{es:Array Event}{T:Nat->Prop}(h:Ow S Ro w w' es)(k: ∀b,S b->T b):Tw T w w':=h.tw.mono k
omit [Payload] in
theorem CP{g:Goroutine}(h:g.offers=none)(r:Nat)(s:Bool):offersAt g r s=[]:=by
 unfold offersAt;rw [h];cases g.status <;> rfl
theorem Ih(hR:kQ F)(hA: ∀S g w,F.gz S g w->g.status= .running)(hn:F.n<2147483646)(ha:gs[0]? =some a)(wH:F.MS tag j mr d0 S0 a w)(h:Cm F j gs w t X D q d0 S0 od)(j6:WgAt F.ty F.Wg w st sm)(du:ConcN.Mode j (DM D) tag.ct st sm)
  {i:Nat} (hi:i<j) {g:Goroutine} (hg:gs[F.K0+1+i]? =some g) (bH:g.status= .running):F.Next (F.mu j D q tag mr) gs w sl t (F.K0+1+i):=by
 have hl:jA F.ty F.Wg w:=⟨_,_,j6⟩;obtain ⟨ahs,W4,hs⟩:=h.wk i hi;obtain rfl:g=ahs:=by rw [hg] at W4;exact qaf W4
 have Si: ¬(D i).P F.Wg:=λhp=>(h.sep.sB i hi _ ((h.pz i hi).1 _ hp)).1.2.1 rfl;have same: ∀s',min 7 s'=(DM D i).stage->ConcN.Mode j (upd (DM D) i ⟨min 7 s',0,0⟩) tag.ct st sm:=λs' e=>by have:=du.same (i:=i) 0 0;rwa [←e] at this
 have own: ∀{g':Goroutine} {w':World} {es:Array Event} {r':Rk},8<=(D i).stage->(D i).deaf=0->stepG F.C false g w= .go g' w' es->Ow (D i).P (X i).Ro w w' es->Rk.lt r' (D i).rk->F.WS (X i) i (D i).stage r' 0 (nw (D i).P w w') g' w'->F.Next (F.mu j D q tag mr) gs w sl t (F.K0+1+i):=by
  intro g' w' es r' h8 hd hgo ho bs D8;refine zW (d:=⟨(D i).stage,r',0,nw (D i).S w w',(D i).v,nw (D i).P w w',(D i).Z⟩) hR hA ha wH h hl hi hg hgo (RL ho λb hb=> .inl hb) (j6.of_block (ho.blk _ h.cw.2.2.2 Si)) (λb=>Iff.rfl) (λb hb=>hb) rfl D8 (λe he=>RF (ho.ev e he) (by omega))
    (by rw [hd];exact ConcN.deafBehind_idle (λe he=>sx (ho.ev e he)) 0) Iff.rfl rfl (λq=>absurd (show (D i).stage<=6 from q) (by omega)) (λtag' h1 _=> ?_) (.inr ⟨rfl,bs⟩)
  rw [ud];exact (same _ rfl).retag h1
 generalize er:(D i).stage=s at hs;generalize Rn:(D i).rk=rk at hs;generalize NV:(D i).deaf=dd at hs;cases hs with
 | a hT=>
  rcases hT.cases hl with np | ⟨_,g',w',es,r',hgo,ho,bs,qC⟩
  · obtain ⟨_,g2,v,z,aht,bS,hk⟩:=np;obtain ⟨s,r,tm,hc⟩:=h.chan;have hni:i∉od:=λhm=>by have:=((h.od i).1 hm).2;omega
    have hlen:=yE j (i::od) (List.nodup_cons.2 ⟨hni,h.nd⟩) λx hx=>by
     rcases qad.1 hx with rfl | hx
     ·exact hi
     ·exact ((h.od x).1 hx).1
    have yM:(od.map λi=>(D i).v).toArray.size<F.n:=by
     have:=h.jn;simp at hlen ⊢;omega
    have hp:partners (gs.setIfInBounds (F.K0+1+i) ph) F.Ch false=[]:=by
     refine partners_nil λk x hx=> ?_;rcases getElem?_stand _ _ _ _ hx with ⟨_,rfl⟩ | ⟨hk,hx⟩
     ·rfl
     ·have bs:=(qa1.1 hx).1;rw [h.size] at bs;rcases Nat.eq_zero_or_pos k with rfl | Il
      ·rw [ha] at hx;cases hx;rcases wH.status hA hl with ⟨hs,_⟩ | ⟨_,ho,_⟩
       ·exact offersAt_of_not_blocked (by rw [hs];simp) _ _
       ·exact CP ho _ _
      ·rcases Nat.lt_or_ge F.K0 k with xM | xM
       ·obtain ⟨x',uL,hw⟩:=h.wk (k - F.K0 - 1) (by omega);rw [show F.K0+1+(k - F.K0 - 1)=k by omega,hx] at uL;cases uL;exact offersAt_of_not_blocked (by rcases hw.status hl with e | e <;> rw [e] <;> simp) _ _
       ·obtain ⟨x',uL,hw⟩:=h.lv k Il xM;rw [hx] at uL;cases uL;exact offersAt_of_not_blocked (by rcases hw.status with e | e <;> rw [e] <;> simp) _ _
    have W5:=crowd_send_room (P:=F.C) (sl:=sl) (i:=F.K0+1+i) hg (by rw [show (F.K0+1+i==0)=false from by simp];exact aht) hc yM hp;rw [finishComm_send] at W5
    let w2:=w.setChan F.Ch F.n ((od.map λi=>(D i).v).toArray.push v) false (s+1) r tm
    have lH:w2.heap.size=w.heap.size:=by simp [w2,World.setChan]
    have hblk: ∀b,b≠F.Ch->w2.heap[b]? =w.heap[b]? :=λb hb=>by simp [w2,World.setChan,qaq (qbp hb)]
    have hT2:Tw (·=F.Ch) w w2:=⟨rfl,rfl,rfl,qay lH.symm,λb _ hn=>hblk b hn⟩;have adC:WgAt F.ty F.Wg w2 st sm:=j6.of_block (hblk _ (qbp h.cw.1));have cP:jA F.ty F.Wg w2:=⟨_,_,adC⟩;have hry:Ry (jA F.ty F.Wg) (X i).Ro w w2:=⟨λb hb=>hblk b (h.sep.rB i hi b hb).2.2.1,qay lH.symm,cP⟩;obtain ⟨rk2,xM⟩:=hk w2 hry;have ahu:F.MS tag j mr d0 S0 a w2:=wH.rely (h.ry0 hT2 cP λb hb e=>by
     subst e;rcases hb with hb | hb
     ·exact (h.sep.s0 _ hb).1.2.2 rfl
     ·exact (h.sep.r0 _ hb).1.2.2 rfl)
    have adD:F.og i v (D i).P w2:=hR _ _ _ _ _ bS λb hb=>hblk b λe=>by
     subst e;rcases hb with hb | hb
     ·exact (h.sep.sB i hi _ ((h.pz i hi).1 _ hb)).1.2.2 rfl
     ·have:=h.cw.2.2.1;omega
    have zU:=h.send hR hl hi (g':=Go.Conc.served g2 undef) (w':=w2) (u:=MemOp.ofEvents (F.K0+1+i) g.frame.fn g.frame.place #[]++ #[{ g:=F.K0+1+i,fn:=g2.frame.fn,pos:=g2.frame.place,act:= .send F.Ch s },{ g:=F.K0+1+i,fn:=g2.frame.fn,pos:=g2.frame.place,act:= .sendDone F.Ch s }]) (v:=v) (rk:=rk2) er hT2 lH
     ⟨s+1,r,tm,by
      have bs:=h.ZM;simp [w2,World.setChan,bs]⟩ cP (.b xM) NV (λop cG=>by
      simp [ofEvents_eq] at cG;rcases cG with rfl | rfl
      ·exact ⟨rfl,rfl,by simp,by simp,by simp⟩
      ·exact ⟨rfl,rfl,by simp,by simp,by simp⟩) adD
    refine ⟨_,_,F.mu j (upd D i ⟨8,rk2,0,(D i).S,v,λ_=>False,(D i).P⟩) q tag mr,W5, ?_,_,w2,sl,j,X,_,q,d0,S0,_,tag,mr,a,st,sm,rfl,by rw [qaq (by omega)];exact ha,ahu,zU,adC, ?_,rfl⟩
    ·unfold Fx.mu;have e2:Sg j (upd D i ⟨8,rk2,0,(D i).S,v,λ_=>False,(D i).P⟩)+(D i).stage=Sg j D+8:=ConcN.sumTo_upd D _ BP.stage hi;have e3:=Vc_upd (DM D) (⟨min 7 8,0,0⟩:WD) hi;have e4:cnt (DM D i)=cnt (⟨min 7 8,0,0⟩:WD):=by simp [cnt,DM,er]
     rw [ud];have e5:Vc j (upd (DM D) i ⟨min 7 8,0,0⟩)=Vc j (DM D):=by omega
     refine Ie (n:=0) (.inl ?_);simp only [e5];omega
    ·rw [ud];exact same 8 (by simp [DM,er])
  · exact own (by omega) NV hgo ho (Rn▸bs) (er▸ .a qC)
 | b hT=>
  rcases hT.cases hl with np | ⟨_,g',w',es,r',hgo,ho,bs,qC⟩
  · obtain ⟨m,hG⟩:=np;exact LF hR hA hn ha wH h j6 du hi hg bH (.r0 hG) (.inr ⟨rfl,er⟩) (λe=>by omega) NV
  · exact own (by omega) NV hgo ho (Rn▸bs) (er▸ .b qC)
 | c hG=>exact LF hR hA hn ha wH h j6 du hi hg bH hG (.inl er) (λ_=>Rn) NV
theorem D6(hR:kQ F)(ha:gs[0]? =some a)(h:Cm F j gs w t X D q d0 S0 od)(hl:jA F.ty F.Wg w){a':Goroutine}{es:Array Event}{tag':Tg}{D5:Nat×Rk}{NU:Nat->Prop}(hgo:stepG F.C true a w= .go a' w' es)(hT:Tw (λb=>S0 b\/b=F.Wg) w w')
  (sr:WgAt F.ty F.Wg w' FW FY) (hS: ∀b,NU b->nw S0 w w' b) (sF: ∀e∈es,Kg F (nw S0 w w') e) (ue:F.MS tag' j D5 (deafBehind d0 es) NU a' w') (du:ConcN.Mode j (DM D) tag'.ct FW FY)
  (bs:uc F.n j (Vc j (DM D)) tag'<uc F.n j (Vc j (DM D)) tag\/(uc F.n j (Vc j (DM D)) tag'=uc F.n j (Vc j (DM D)) tag/\Prod.Lex Nat.lt Rk.lt D5 mr)):F.Next (F.mu j D q tag mr) gs w sl t 0:=by
 have bH:=runT_crowd_go (P:=F.C) (sl:=sl) (i:=0) ha (by simpa using hgo);have ZP:=(qa1.1 ha).1;refine ⟨_,_,F.mu j D q tag' D5,bH, ?_,_,w',sl,j,X,D,q,deafBehind d0 es,NU,od,tag',D5,a',FW,FY,rfl,get_map_set_same _ _ _ ZP,ue,h.step0 hR hl ha hT ⟨_,_,sr⟩ hS sF,sr,du,rfl⟩;unfold Fx.mu;refine Ie (n:=0) ?_;rcases bs with bs | ⟨e,bs⟩
 ·exact .inl (by omega)
 ·exact .inr (.inr ⟨by rw [e],rfl,bs⟩)
omit [Payload] in
theorem open_inv{j:Nat}{D:Nat->WD}{tag:CTag}{st sm:Int}(hm:ConcN.Mode j D tag st sm)(h:isOpen tag):OpenSt j D/\st=((Vc j D+pend tag:Nat):Int)*KK/\sm=0/\ ∀vs,tag= .w2 vs->Vc j D<=vs/\1<=vs:=hm.open_inv h
omit [Payload] in
theorem Nu{N:Nat}{a b c:Mu}(h:ZN N a b)(k:b.1<c.1):ZN N a c:=by
 obtain ⟨a1,a2⟩:=a;obtain ⟨c1,c2⟩:=c;rcases Prod.lex_def.1 h with h | ⟨h,_⟩
 ·exact Prod.Lex.left _ _ (Nat.lt_trans h k)
 ·exact Prod.Lex.left _ _ (by simp only at h;subst h;exact k)
theorem w1Z{rk:Rk}{S0:Nat->Prop}(hR:kQ F)(hn:F.n<2147483646)(ha:gs[0]? =some a)(h:Cm F F.n gs w t X D q 1 S0 od)(j6:WgAt F.ty F.Wg w st sm)(du:ConcN.Mode F.n (DM D) (Tg.ct .w1) st sm)(hm:mr=(1,rk))
  (hT:Wk F.C true (jA F.ty F.Wg) F.eC (MW1 F.C F.ty F.Wg F.eC F.Fin F.gz) rk S0 a w):F.Next (F.mu F.n D q .w1 mr) gs w sl t 0:=by
 have hl:jA F.ty F.Wg w:=⟨_,_,j6⟩;have Si: ¬S0 F.Wg:=λhp=>(h.sep.s0 _ hp).1.2.1 rfl;have hVj:=Vc_le F.n (DM D);rcases hT.cases hl with ⟨_,jF⟩ | ⟨_,a',w',es,r',hgo,ho,bs,qC⟩
 ·obtain ⟨cG,rfl,rfl,_⟩:=open_inv du trivial;obtain ⟨a',hgo,h0,jv⟩:=jF (Vc F.n (DM D)) (by omega) (by simpa [pend,Tg.ct] using j6);have RJ: ∀e∈ #[rd (stA F.Wg)],Bk F.Wg e:=by intro e he;simp at he;subst he;exact bk_cell _ _ rfl
  by_cases hv:Vc F.n (DM D)=0
  ·obtain ⟨r,hk⟩:=h0 hv;refine D6 (tag':= .ke) hR ha h hl hgo (.refl _ w) j6 (λb hb=> .inl hb) (λe he=>FZ (RJ e he)) (.ke hk) ?_ (.inl (by simp only [uc];omega));have e:((Vc F.n (DM D)+pend (Tg.ct .w1):Nat):Int)*KK=0:=by rw [hv];simp [pend,Tg.ct]
   rw [e];exact .fin trivial (ConcN.allQuit_of cG hv)
  ·obtain ⟨r,hk⟩:=jv hv;exact D6 (tag':= .w2 (Vc F.n (DM D))) hR ha h hl hgo (.refl _ w) j6 (λb hb=> .inl hb) (λe he=>FZ (RJ e he)) (.w2 hk) (du.reopen trivial trivial rfl (λvs e=>by cases e;omega)) (.inl (by simp only [uc];omega))
 ·refine D6 (tag':= .w1) hR ha h hl hgo (RL ho λb hb=> .inl hb) (j6.of_block (ho.blk _ h.cw.2.2.2 Si)) (λb hb=>hb) (λe he=>Ig (ho.ev e he)) ?_ du (.inr ⟨rfl,by rw [hm];exact Prod.Lex.right _ bs⟩);rw [ConcN.deafBehind_idle (λe he=>sx (ho.ev e he)) 1];exact .w1 qC
theorem Nv(hR:kQ F)(hn:F.n<2147483646)(hAn: ∀S g w,F.gz S g w->jA F.ty F.Wg w->TM F.C F.ty F.Wg F.eC (MW1 F.C F.ty F.Wg F.eC F.Fin F.gz) S g w)
  (ha:gs[0]? =some a) (wH:F.MS tag j mr d0 S0 a w) (h:Cm F j gs w t X D q d0 S0 od) (j6:WgAt F.ty F.Wg w st sm) (du:ConcN.Mode j (DM D) tag.ct st sm) (bH:a.status= .running):
  F.Next (F.mu j D q tag mr) gs w sl t 0\/(tag= .acq/\j=F.n/\d0=0/\ ∃a',stepG F.C true a w= .go a' w #[mk (.acquire (stA F.Wg))]/\F.Fin S0 a' w):=by
 have hl:jA F.ty F.Wg w:=⟨_,_,j6⟩;have Si: ¬S0 F.Wg:=λhp=>(h.sep.s0 _ hp).1.2.1 rfl;have hVj:=Vc_le j (DM D);have Tv:=h.jn;have own: ∀{a':Goroutine} {w':World} {es:Array Event} {r r':Rk},mr=(1,r)->stepG F.C true a w= .go a' w' es->Ow S0 F.eC w w' es->Rk.lt r' r->F.MS tag j (1,r') d0 (nw S0 w w') a' w'->F.Next (F.mu j D q tag mr) gs w sl t 0:=by
  intro a' w' es r r' hm hgo ho bs ue;refine D6 hR ha h hl hgo (RL ho λb hb=> .inl hb) (j6.of_block (ho.blk _ h.cw.2.2.2 Si)) (λb hb=>hb) (λe he=>Ig (ho.ev e he)) ?_ du (.inr ⟨rfl,by rw [hm];exact Prod.Lex.right _ bs⟩);rw [ConcN.deafBehind_idle (λe he=>sx (ho.ev e he)) d0];exact ue
 have say: ∀{a':Goroutine} {e:Event} {tag':Tg} {r':Rk},stepG F.C true a w= .go a' w #[e]->Kg F S0 e->F.MS tag' j (1,r') (deafBehind d0 #[e]) S0 a' w->ConcN.Mode j (DM D) tag'.ct st sm->uc F.n j (Vc j (DM D)) tag'<uc F.n j (Vc j (DM D)) tag->F.Next (F.mu j D q tag mr) gs w sl t 0:=by
  intro a' e tag' r' hgo he ue vU bs;refine D6 hR ha h hl hgo (.refl _ w) j6 (λb hb=> .inl hb) (λx hx=> ?_) ue vU (.inl bs);simp at hx;subst hx;exact ⟨λx hx=>((he.1 x hx).imp id λq=>q.imp (λ⟨b,h1,h2⟩=>⟨b,h1, .inl h2⟩) id),he.2⟩
 have book: ∀{a':Goroutine} {w':World} {es:Array Event} {tag':Tg} {D5:Nat×Rk} {FW FY:Int},stepG F.C true a w= .go a' w' es->Conc.Aside F.Wg w w'->WgAt F.ty F.Wg w' FW FY->(∀e∈es,Bk F.Wg e)->F.MS tag' j D5 (deafBehind d0 es) S0 a' w'->ConcN.Mode j (DM D) tag'.ct FW FY->
   (uc F.n j (Vc j (DM D)) tag'<uc F.n j (Vc j (DM D)) tag\/(uc F.n j (Vc j (DM D)) tag'=uc F.n j (Vc j (DM D)) tag/\Prod.Lex Nat.lt Rk.lt D5 mr))->F.Next (F.mu j D q tag mr) gs w sl t 0:=by
  intro a' w' es tag' D5 FW FY hgo hAs sr RJ ue vU bs;exact D6 hR ha h hl hgo (BR hAs (.inr rfl)) sr (λb hb=> .inl hb) (λe he=>FZ (RJ e he)) ue vU bs
 have RM:Kg F S0 (mk .disable):=⟨λx hx=>(by cases hx),(by simp [mk,MemAct.ofEvent])⟩;have W6:Kg F S0 (mk .enable):=⟨λx hx=>(by cases hx),(by simp [mk,MemAct.ofEvent])⟩;have bk_rd: ∀e∈ #[rd (stA F.Wg)],Bk F.Wg e:=by intro e he;simp at he;subst he;exact bk_cell _ _ rfl
 have bk_rw: ∀e∈ #[rd (stA F.Wg),wr (stA F.Wg)],Bk F.Wg e:=by intro e he;simp at he;rcases he with rfl | rfl <;> exact bk_cell _ _ rfl
 have bk_sem: ∀e∈semEvents (smA F.Wg),Bk F.Wg e:=by
  intro e he;simp [semEvents] at he;rcases he with rfl | rfl | rfl | rfl
  ·exact .inl rfl
  ·exact bk_cell _ _ rfl
  ·exact bk_cell _ _ rfl
  ·exact .inr (.inl rfl)
 cases wH with
 | s5 hr hT=>
  refine .inl ?_;rcases hT.cases hl with ⟨_,a',hgo,r,hk⟩ | ⟨_,a',w',es,r',hgo,ho,bs,qC⟩
  ·exact say (tag':= .s4) hgo RM (.s4 hr hk) (du.reopen trivial trivial rfl (by simp [Tg.ct])) (by simp only [uc];omega)
  ·exact own rfl hgo ho bs (.s5 hr qC)
 | s4 hr hT=>
  rename_i r0 _;refine .inl ?_;rcases hT.cases hl with ⟨_,jF⟩ | ⟨_,a',w',es,r',hgo,ho,bs,qC⟩
  ·obtain ⟨cG,rfl,rfl,_⟩:=open_inv du trivial;obtain ⟨a',hgo,h0,h1⟩:=jF (Vc (F.n - (r0+1)) (DM D)) (by omega) (by simpa [pend,Tg.ct] using j6);have e:((((Vc (F.n - (r0+1)) (DM D):Nat):Int)+1)*KK)=((Vc (F.n - (r0+1)) (DM D)+1:Nat):Int)*KK:=by simp
   by_cases hv:Vc (F.n - (r0+1)) (DM D)=0
   ·obtain ⟨r,hk⟩:=h0 hv;refine book (tag':= .Rr) hgo (aside_setCell w (stA F.Wg) _) (j6.setSt _) bk_rw (.Rr hr hk) ?_ (.inl (by simp only [uc];omega));rw [e];exact .opn trivial cG (by simp [Tg.ct])
   ·obtain ⟨r,hk⟩:=h1 hv;refine book (tag':= .s3) hgo (aside_setCell w (stA F.Wg) _) (j6.setSt _) bk_rw (.s3 hr hk) ?_ (.inl (by simp only [uc];omega));rw [e];exact .opn trivial cG (by simp [Tg.ct])
  ·exact own rfl hgo ho bs (.s4 hr qC)
 | Rr hr hT=>
  refine .inl ?_;rcases hT.cases hl with ⟨_,a',hgo,r,hk⟩ | ⟨_,a',w',es,r',hgo,ho,bs,qC⟩
  ·refine say (tag':= .s3) hgo ⟨λx hx=> .inl ?_,by simp [mk,MemAct.ofEvent]⟩ (.s3 hr hk) (du.reopen trivial trivial rfl (by simp [Tg.ct])) (by simp only [uc];omega);simp only [mk,MemAct.ofEvent,MemAct.touch?, qac] at hx;subst hx;exact ⟨⟨_,rfl,rfl⟩,by simp⟩
  ·exact own rfl hgo ho bs (.Rr hr qC)
 | s3 hr hT=>
  refine .inl ?_;rcases hT.cases hl with ⟨_,a',hgo,r,hk⟩ | ⟨_,a',w',es,r',hgo,ho,bs,qC⟩
  ·exact say (tag':= .s2) hgo W6 (.s2 hr hk) (du.reopen trivial trivial rfl (by simp [Tg.ct])) (by simp only [uc];omega)
  ·exact own rfl hgo ho bs (.s3 hr qC)
 | s2 hr hT=>
  rename_i r0 rk0;refine .inl ?_;rcases hT.cases hl with ⟨_,a',child,Tc,hcr,x0,S',hbn,hbS,vu,Iq,ahv,Ak⟩ | ⟨_,a',w',es,r',hgo,ho,bs,qC⟩
  ·obtain ⟨rk,hwk⟩:=ahv h.keep;obtain ⟨cG,rfl,rfl,_⟩:=open_inv du trivial;have LG:=runT_crowd_spawn (P:=F.C) (sl:=sl) (i:=0) ha (by simpa using Tc);rw [h.size] at LG;have zU:=h.spawn (by omega) (a':=a') (child:=child) (NU:=S') (x0:=x0) (u:={ g:=0,fn:=a.frame.fn,pos:=a.frame.place,act:= .go (F.K0+1+(F.n - (r0+1))) }) (v:={ g:=F.K0+1+(F.n - (r0+1)),fn:=child.frame.fn,pos:=a.frame.place,act:= .start }) (rk:=rk) ⟨rfl,rfl⟩ ⟨rfl,rfl⟩ (.a hwk) hbn hbS vu Iq λb hb=>qa2 hb.1 h.CO;have eD:DM (upd D (F.n - (r0+1)) ⟨9,rk,0,λ_=>False,undef,λ_=>False,λ_=>False⟩)=upd (DM D) (F.n - (r0+1)) ⟨7,0,0⟩:=by rw [ud];rfl
   have eV:Vc (F.n - (r0+1)+1) (upd (DM D) (F.n - (r0+1)) ⟨7,0,0⟩)=Vc (F.n - (r0+1)) (DM D)+1:=by
    simp only [Vc,sumTo,upd_same];rw [sumTo_upd_out (DM D) _ cnt (qa3 _)];rfl
   have eS:Sg (F.n - (r0+1)+1) (upd D (F.n - (r0+1)) ⟨9,rk,0,λ_=>False,undef,λ_=>False,λ_=>False⟩)=Sg (F.n - (r0+1)) D+9:=by
    simp only [Sg,sumTo,upd_same];rw [sumTo_upd_out D _ BP.stage (qa3 _)]
   have GB:OpenSt (F.n - (r0+1)+1) (upd (DM D) (F.n - (r0+1)) ⟨7,0,0⟩):=λi hi=>by
    by_cases e:i=F.n - (r0+1)
    ·subst e;rw [upd_same];simp
    ·rw [upd_ne _ _ e];exact cG i (by omega)
   have ha':((gs.setIfInBounds 0 a').push child)[0]? =some a':=by
    have bs:=(qa1.1 ha).1;rw [qbz (by simp [bs]), ←Array.getElem?_eq_getElem];simp [bs]
   have fin: ∀(tag':Tg) (D5:Nat×Rk),F.MS tag' (F.n - (r0+1)+1) D5 0 S' a' w->isOpen tag'.ct->pend tag'.ct=0->(∀vs,tag'.ct≠ .w2 vs)->uc F.n (F.n - (r0+1)+1) (Vc (F.n - (r0+1)) (DM D)+1) tag'+9<uc F.n (F.n - (r0+1)) (Vc (F.n - (r0+1)) (DM D)) .s2->
     F.Next (F.mu (F.n - (r0+1)) D q .s2 (1,rk0)) gs w sl t 0:=λtag' D5 ue ahw hp th bs=>by
    refine ⟨_,_,_,LG, ?_,_,w,sl,F.n - (r0+1)+1,upd X (F.n - (r0+1)) x0,upd D (F.n - (r0+1)) ⟨9,rk,0,λ_=>False,undef,λ_=>False,λ_=>False⟩,q,0,S',od,tag',D5,a',_,_,rfl,ha',ue, ?_,j6, ?_,rfl⟩
    ·unfold Fx.mu;rw [eD,eV,eS];exact Ie (n:=0) (.inl (by omega))
    ·have:MemOp.ofEvents 0 a.frame.fn a.frame.place #[]= #[]:=rfl;simp only [this];exact zU
    ·rw [eD];have:=ConcN.Mode.opn (j:=F.n - (r0+1)+1) (D:=upd (DM D) (F.n - (r0+1)) ⟨7,0,0⟩) ahw GB (λvs e=>absurd e (th vs));rw [eV,hp] at this;exact this
   cases r0 with
   | zero=>
    obtain ⟨rk',hk⟩:=(show TM _ _ _ _ _ _ _ _ from Ak);have e:F.n - (0+1)+1=F.n:=by omega
    refine fin .kd (1,rk') ?_ trivial rfl (by simp [Tg.ct]) (by simp only [uc];omega);rw [e];exact .kd hk
   | succ r1=>
    obtain ⟨rk',hk⟩:=(show TM _ _ _ _ _ _ _ _ from Ak);have e:F.n - (r1+1+1)+1=F.n - (r1+1):=by omega
    refine fin .s5 (1,rk') ?_ trivial rfl (by simp [Tg.ct]) (by simp only [uc];omega);rw [e];exact .s5 (by omega) hk
  ·exact own rfl hgo ho bs (.s2 hr qC)
 | kd hT=>
  refine .inl ?_;rcases hT.cases hl with ⟨_,a',hgo,r,hk⟩ | ⟨_,a',w',es,r',hgo,ho,bs,qC⟩
  ·exact say (tag':= .anch) hgo RM (.anch hk) (du.reopen trivial trivial rfl (by simp [Tg.ct])) (by simp only [uc];omega)
  ·exact own rfl hgo ho bs (.kd qC)
 | anch hT=>
  refine .inl ?_;rcases hT.cases hl with np | ⟨_,a',w',es,r',hgo,ho,bs,qC⟩
  ·obtain ⟨r,hk⟩:=hAn _ _ _ np hl;obtain ⟨m₁,ops,μ',h1,h2,h3⟩:=w1Z (mr:=(1,r)) (sl:=sl) hR hn ha h j6 (du.reopen trivial trivial rfl (by simp [Tg.ct])) rfl hk;exact ⟨m₁,ops,μ',h1,Nu h2 (by unfold Fx.mu;simp only [uc];omega),h3⟩
  ·exact own rfl hgo ho bs (.anch qC)
 | w1 hT=>exact .inl (w1Z hR hn ha h j6 du rfl hT)
 | w2 hT=>
  rename_i vs _;refine .inl ?_;rcases hT.cases hl with ⟨_,jF⟩ | ⟨_,a',w',es,r',hgo,ho,bs,qC⟩
  ·obtain ⟨cG,rfl,rfl,th⟩:=open_inv du trivial;obtain ⟨hle,h1⟩:=th vs rfl;obtain ⟨ahx,adE⟩:=jF (Vc F.n (DM D)) (by omega) (by simpa [pend,Tg.ct] using j6);by_cases e:Vc F.n (DM D)=vs
   ·obtain ⟨a',hgo,r,hk⟩:=ahx e;exact book (tag':= .Rt) hgo (aside_setCell w (stA F.Wg) _) (j6.setSt _) bk_rw (.Rt hk) (.reg trivial cG (by omega)) (.inl (by simp only [uc];omega))
   ·obtain ⟨a',hgo,r,hk⟩:=adE e;exact book (tag':= .anch) hgo (.refl F.Wg w) j6 bk_rd (.anch hk) (du.reopen trivial trivial rfl (by simp [Tg.ct])) (.inl (by simp only [uc];omega))
  ·exact own rfl hgo ho bs (.w2 qC)
 | Rt hT=>
  refine .inl ?_;rcases hT.cases hl with ⟨_,a',hgo,r,hk⟩ | ⟨_,a',w',es,r',hgo,ho,bs,qC⟩
  ·refine say (tag':= .w3) hgo ⟨λx hx=> .inl ?_,by simp [mk,MemAct.ofEvent]⟩ (.w3 hk) du (by simp only [uc];omega);simp only [mk,MemAct.ofEvent,MemAct.touch?, qac] at hx;subst hx;exact ⟨⟨_,rfl,rfl⟩,by simp⟩
  ·exact own rfl hgo ho bs (.Rt qC)
 | w3 hT=>
  refine .inl ?_;rcases hT.cases hl with ⟨_,ba,hblk,adF⟩ | ⟨_,a',w',es,r',hgo,ho,bs,qC⟩
  ·generalize Sk:Tg.ct .w3=ct at du;cases du with
   | opn h1 _ _=>rw [←Sk] at h1;exact h1.elim
   | reg h1 h2 h3=>exact book (tag':= .blk) (hblk ⟨_,j6⟩) (.refl F.Wg w) j6 (by simp) (.blk hT bH ba) (.reg trivial h2 h3) (.inr ⟨rfl,Prod.Lex.left _ _ Nat.zero_lt_one⟩)
   | last L h1 h2 h3 h4=>exact book (tag':= .blk) (hblk ⟨_,j6⟩) (.refl F.Wg w) j6 (by simp) (.blk hT bH ba) (.last L trivial h2 h3 h4) (.inr ⟨rfl,Prod.Lex.left _ _ Nat.zero_lt_one⟩)
   | sema h2=>
    obtain ⟨a',hgo,r,hk⟩:=adF j6;exact book (tag':= .w4) hgo (aside_setCell w (smA F.Wg) _) (j6.setSm 0) bk_sem (.w4 hk) (.fin trivial h2) (.inl (by simp only [uc];omega))
   | fin h1 _=>rw [←Sk] at h1;exact h1.elim
  ·exact own rfl hgo ho bs (.w3 qC)
 | blk hT=>simp at bH
 | w4 hT=>
  refine .inl ?_;rcases hT.cases hl with ⟨_,hx⟩ | ⟨_,a',w',es,r',hgo,ho,bs,qC⟩
  ·obtain ⟨hq,rfl,rfl⟩:=du.fin_inv trivial;obtain ⟨a',hgo,r,hk⟩:=hx j6;exact book (tag':= .ke) hgo (.refl F.Wg w) j6 bk_rd (.ke hk) (.fin trivial hq) (.inl (by simp only [uc];omega))
  ·exact own rfl hgo ho bs (.w4 qC)
 | ke hT=>
  refine .inl ?_;rcases hT.cases hl with ⟨_,a',hgo,r,hk⟩ | ⟨_,a',w',es,r',hgo,ho,bs,qC⟩
  ·obtain ⟨hq,rfl,rfl⟩:=du.fin_inv trivial;exact say (tag':= .acq) hgo W6 (.acq hk) (.fin trivial hq) (by simp only [uc];omega)
  ·exact own rfl hgo ho bs (.ke qC)
 | acq hT=>
  rcases hT.cases hl with ⟨_,a',hgo,hk⟩ | ⟨_,a',w',es,r',hgo,ho,bs,qC⟩
  ·exact .inr ⟨rfl,rfl,rfl,a',hgo,hk⟩
  ·exact .inl (own rfl hgo ho bs (.acq qC))
end
end Go.Cx
namespace Go.Cx
open Go Go.Conc
open Go.ConcR (KK WgAt stA smA rd wr mk Payload DC0 Bk ofEvent_loc_mark ofEvent_mk)
open Go.ConcN (WgLive WD cnt Vc CTag upd sumTo upd_same upd_ne ShN RelBy get_map_set get_map_set_same exists_counted)
section
variable[Payload]{F:Fx}{Φ:Machine->Trace->Prop}
variable{j:Nat}{gs:Array Goroutine}{w:World}{t:Trace}{X:Nat->Wx}{D:Nat->BP}{q:Nat->Nat}{d0:Nat}{S0:Nat->Prop}{od:List Nat}{sl:Option (Nat×Nat)}{tag:Tg}{mr:Nat×Rk}{a:Goroutine}{st sm:Int}
theorem WS.quits{x:Wx}{i:Nat}{rk:Rk}{d:Nat}{S:Nat->Prop}{g:Goroutine}(h:F.WS x i 1 rk d S g w): ∃m,QuitsD F.C m d g:=by
 cases h with
 | c h=>exact ⟨_,h.quits rfl⟩
theorem ZQ(ha:gs[0]? =some a)(h:Cm F F.n gs w t X D q 0 S0 od)(hl:jA F.ty F.Wg w)(hq: ∀i,i<F.n->(D i).stage=1){a':Goroutine}(hgo:stepG F.C true a w= .go a' w #[mk (.acquire (stA F.Wg))]):
  ∃qm ops q',runT F.C (crowd gs w sl) 0=(.next (crowd qm w sl),ops)/\qm[0]? =some a'/\Qt F.C (λl=>F.cR l\/ShN F.Wg l) qm w.heap.size (t++ops) q':=by
 classical
 have bH:=runT_crowd_go (P:=F.C) (sl:=sl) (i:=0) ha (by simpa using hgo);have ZP:=(qa1.1 ha).1;have e1:MemOp.ofEvents 0 a.frame.fn a.frame.place #[mk (.acquire (stA F.Wg))]= #[{ g:=0,fn:=a.frame.fn,pos:=a.frame.place,act:= .mark (.acquire (stA F.Wg)) }]:=by rw [ofEvents_eq];simp [ofEvent_mk]
 rw [e1] at bH;have er: ∀op∈ #[({ g:=0,fn:=a.frame.fn,pos:=a.frame.place,act:= .mark (.acquire (stA F.Wg)) }:MemOp)],op.act≠ .mark .disable/\op.act≠ .mark .enable:=by
  intro op cG;simp at cG;subst cG;exact ⟨by simp,by simp⟩
 obtain ⟨r1,r2⟩:=h.ti.acquire (a:=stA F.Wg) (T0:=F.T0) (λk hk=>by
   obtain ⟨i,hi,rfl⟩:=iD.1 hk;exact h.rel i hi (by rw [hq i hi];omega)) h.norel h.deaf0 (x:={ g:=0,fn:=a.frame.fn,pos:=a.frame.place,act:= .mark (.acquire (stA F.Wg)) }) ⟨rfl,rfl⟩ h.ho (λk hk=>by have:=hk.1;omega)
 have hw: ∀i,i<F.n-> ∃g m,gs[F.K0+1+i]? =some g/\QuitsD F.C m (Deaf t (F.K0+1+i)) g:=λi hi=>by
  obtain ⟨g,hg,hs⟩:=h.wk i hi;rw [hq i hi] at hs;obtain ⟨m,hm⟩:=hs.quits;exact ⟨g,m,hg,by rw [h.deafW i hi];exact hm⟩
 refine ⟨_,_,λk=>if hk: ∃m, ∃g,gs[k]? =some g/\QuitsD F.C m (Deaf t k) g then hk.choose else 0,bH,get_map_set_same _ _ _ ZP, ?_⟩;refine ⟨λk h1 h2=> ?_, ?_,r2,by rw [ConcN.Deaf_still t 0 _ er];exact h.deaf0,λl b hB oi=> ?_⟩
 ·have hex: ∃m, ∃g,gs[k]? =some g/\QuitsD F.C m (Deaf t k) g:=by
   have Im:k<gs.size:=by simpa using h2
   rw [h.size] at Im;rcases Nat.lt_or_ge F.K0 k with hk | hk
   ·obtain ⟨g,m,hg,hm⟩:=hw (k - F.K0 - 1) (by omega);rw [show F.K0+1+(k - F.K0 - 1)=k by omega] at hg hm;exact ⟨m,g,hg,hm⟩
   ·obtain ⟨g,hg,hm⟩:=h.lv k h1 hk;exact ⟨_,g,hg,hm⟩
  obtain ⟨g,hg,hm⟩:=hex.choose_spec;refine ⟨g,by rw [get_map_set _ _ _ _ (by omega),hg,qab,woken_quitsD hm], ?_⟩;show QuitsD F.C (dite _ _ _) _ _;rw [dif_pos hex,ConcN.Deaf_still t k _ er];exact hm
 ·have lH:((gs.map (woken F.C a a' w)).setIfInBounds 0 a').size - 1=F.K0+F.n:=by simp [h.size]
  rw [lH];exact r1.congr (λ_ h=>h) (λ_ h=>h.elim) (λ_ h=>h.elim)
 ·rcases hB with hB | hB
  ·exact qa2 (h.u9 l b hB oi) h.CO
  ·rw [jq hB oi];exact h.cw.2.2.2
theorem ZR(hA: ∀S g w,F.gz S g w->g.status= .running)(ha:gs[0]? =some a)(wH:F.MS tag j mr d0 S0 a w)(h:Cm F j gs w t X D q d0 S0 od)(j6:WgAt F.ty F.Wg w st sm)(du:ConcN.Mode j (DM D) tag.ct st sm)
  {k:Nat} (hk:1<=k) (pH:k<=F.K0) {y:Goroutine} (hy:gs[k]? =some y) (GC:y.status= .running):F.Next (F.mu j D q tag mr) gs w sl t k:=by
 have hl:jA F.ty F.Wg w:=⟨_,_,j6⟩;obtain ⟨y',es,n,bH,hn,zU⟩:=h.leave hl ha hk pH hy GC (sl:=sl);obtain ⟨tag',D5,ue,RE,_⟩:=wH.wokenBy hA (h.ry0 (.refl (λ_=>False) w) hl λ_ _ h=>h) y y';refine ⟨_,_,F.mu j D (upd q k n) tag' D5,bH, ?_,_,w,sl,j,X,D,_,d0,S0,od,tag',D5,woken F.C y y' w a,st,sm,rfl,by rw [get_map_set _ _ _ _ (by omega),ha];rfl,ue,zU,j6,du.retag (WW RE),rfl⟩;unfold Fx.mu;rw [Rx RE];refine Ie (n:=0) (.inr (.inl ⟨rfl,k,by omega, ?_,λk' _ jv=> ?_⟩))
 ·unfold fam;rw [if_pos pH,if_pos pH,upd_same,hn];exact Kf n
 ·unfold fam;by_cases KW:k'<=F.K0
  · rw [if_pos KW,if_pos KW,upd_ne q _ jv]
  · rw [if_neg KW,if_neg KW]
theorem RN(hA: ∀S g w,F.gz S g w->g.status= .running)(ha:gs[0]? =some a)(wH:F.MS tag j mr d0 S0 a w)(h:Cm F j gs w t X D q d0 S0 od)(hl:jA F.ty F.Wg w)(du:ConcN.Mode j (DM D) tag.ct st sm): ∃(i:Nat) (g:Goroutine),gs[i]? =some g/\g.status= .running:=by
 rcases wH.status hA hl with ⟨hs,_⟩ | ⟨_,_,rfl⟩
 ·exact ⟨0,a,ha,hs⟩
 ·generalize Sk:Tg.ct .blk=ct at du;cases du with
  | opn h1 _ _=>rw [←Sk] at h1;exact h1.elim
  | reg _ _ h3=>
   obtain ⟨i,hi,h5⟩:=exists_counted h3;obtain ⟨g,hg,hs⟩:=h.wk i hi;have h5':5<=min 7 (D i).stage:=h5;exact ⟨_,g,hg,hs.running_of hl (by omega)⟩
  | last L _ h2 h3 _=>
   obtain ⟨g,hg,hs⟩:=h.wk L h2;have h3':min 7 (D L).stage=4\/min 7 (D L).stage=3\/min 7 (D L).stage=2:=h3;exact ⟨_,g,hg,hs.running_of hl (by omega)⟩
  | sema _=>cases Sk
  | fin h1 _=>rw [←Sk] at h1;exact h1.elim
theorem ZS(hA: ∀S g w,F.gz S g w->g.status= .running)(ha:gs[0]? =some a)(wH:F.MS tag j mr d0 S0 a w)(h:Cm F j gs w t X D q d0 S0 od)(hl:jA F.ty F.Wg w): ∀g∈gs,awake g:=by
 intro g hg tm;obtain ⟨i,hi⟩:=Array.mem_iff_getElem?.1 hg;have bs:=(qa1.1 hi).1;rw [h.size] at bs;rcases Nat.eq_zero_or_pos i with rfl | uw
 ·rw [ha] at hi;cases hi;rcases wH.status hA hl with ⟨hs,_⟩ | ⟨hs,_⟩ <;> rw [hs] <;> simp
 ·rcases Nat.lt_or_ge F.K0 i with xM | xM
  ·obtain ⟨x',uL,hw⟩:=h.wk (i - F.K0 - 1) (by omega);rw [show F.K0+1+(i - F.K0 - 1)=i by omega,hi] at uL;cases uL;rcases hw.status hl with e | e <;> rw [e] <;> simp
  ·obtain ⟨x',uL,hw⟩:=h.lv i uw xM;rw [hi] at uL;cases uL;rcases hw.status with e | e <;> rw [e] <;> simp
theorem ZE(hR:kQ F)(hn:F.n<2147483646)(hA: ∀S g w,F.gz S g w->g.status= .running)(hAn: ∀S g w,F.gz S g w->jA F.ty F.Wg w->TM F.C F.ty F.Wg F.eC (MW1 F.C F.ty F.Wg F.eC F.Fin F.gz) S g w)
  (ahy: ∀(gs qm:Array Goroutine) (w:World) (sl:Option (Nat×Nat)) (t t':Trace) (X:Nat->Wx) (D:Nat->BP) (q q':Nat->Nat) (S0:Nat->Prop) (od:List Nat) (a':Goroutine),qm[0]? =some a'->F.Fin S0 a' w->jA F.ty F.Wg w->Cm F F.n gs w t X D q 0 S0 od->(∀i,i<F.n->(D i).stage=1)->
   Qt F.C (λl=>F.cR l\/ShN F.Wg l) qm w.heap.size t' q'->iJ F.C Φ (crowd qm w sl) t'):
  ∀(μ:Mu) (m:Machine) (t:Trace),F.Inv μ m t->iJ F.C Φ m t:=by
 intro μ
 induction μ using (ZN.wf (F.K0+1+F.n)).induction with
 | _ μ ih=>
  rintro m t ⟨gs,w,sl,j,X,D,q,d0,S0,od,tag,mr,a,st,sm,rfl,ha,wH,h,j6,du,rfl⟩;have hl:jA F.ty F.Wg w:=⟨_,_,j6⟩;obtain ⟨i,g,d,vV,hg,bH,iV⟩:=crowd_pick (P:=F.C) (w:=w) (sl:=sl) (ZS hA ha wH h hl) (RN hA ha wH h hl du);have ue:F.MS tag j mr d0 S0 a (w.at d):=wH.rely ⟨λ_ _=>rfl,qa3 _,hl⟩;have h':=h.at hR hl d;have sr:WgAt F.ty F.Wg (w.at d) st sm:=j6;have go: ∀k,stepT F.C (crowd gs w sl)=runT F.C (crowd gs (w.at d) vV) k->F.Next (F.mu j D q tag mr) gs (w.at d) vV t k->iJ F.C Φ (crowd gs w sl) t:=by
   rintro k hk ⟨m₁,ops,μ',h1,h2,h3⟩;exact iJ.step (hk.trans h1) (ih μ' h2 m₁ (t++ops) h3)
  have bs:=(qa1.1 hg).1;rw [h.size] at bs;rcases Nat.eq_zero_or_pos i with rfl | uw
  ·rw [ha] at hg;cases hg;rcases Nv (sl:=vV) hR hn hAn ha ue h' sr du bH with C6 | ⟨rfl,rfl,rfl,a',hgo,Et⟩
   ·exact go 0 iV C6
   ·obtain ⟨hq,_,_⟩:=du.fin_inv trivial;have VH: ∀i,i<F.n->(D i).stage=1:=λi hi=>by
     have:min 7 (D i).stage=1:=hq i hi;omega
    obtain ⟨qm,ops,q',r1,r2,r3⟩:=ZQ (sl:=vV) ha h' hl VH hgo;exact iJ.step (iV.trans r1) (ahy _ _ _ _ _ _ _ _ _ _ _ _ _ r2 Et hl h' VH r3)
  ·rcases Nat.lt_or_ge F.K0 i with xM | xM
   ·have e:F.K0+1+(i - F.K0 - 1)=i:=by omega
    rw [←e] at hg iV;exact go _ iV (Ih (sl:=vV) hR hA hn ha ue h' sr du (by omega) hg bH)
   ·exact go _ iV (ZR (sl:=vV) hA ha ue h' sr du uw xM hg bH)
end
end Go.Cx
namespace Go.Cx
open Go Go.Conc
open Go.ConcN (sumTo)
section
variable{C:Program}{Φ:Machine->Trace->Prop}{cR:Loc->Prop}{gs:Array Goroutine}{W W1:World}{sl:Option (Nat×Nat)}{t:Trace}{q:Nat->Nat}{g g1:Goroutine}{es:Array Event}
def Gb(cR:Loc->Prop)(sz:Nat)(b:Nat):Prop:=b<sz/\ ∀l,ic l b-> ¬cR l
theorem Ke(h0:gs[0]? =some g)(hq:Qt C cR gs W.heap.size t q)(er:stepG C true g W= .go g1 W1 es)(lH:W.heap.size<=W1.heap.size)
  (sF: ∀e∈es,(∀x,(MemAct.ofEvent e).touch? =some x-> ∃b,ic x.loc b/\Gb cR W1.heap.size b)/\e.loc≠ .mark .disable/\e.loc≠ .mark .enable):
  ∃zH ops,runT C (crowd gs W sl) 0=(.next (crowd zH W1 sl),ops)/\zH[0]? =some g1/\zH.size=gs.size/\Qt C cR zH W1.heap.size (t++ops) q:=by
 have bH:=runT_crowd_go (P:=C) (sl:=sl) (i:=0) h0 (by simpa using er);have bs:=(qa1.1 h0).1;have Ki:((gs.map (woken C g g1 W1)).setIfInBounds 0 g1).size=gs.size:=by simp
 refine ⟨_,_,bH,ConcN.get_map_set_same _ _ _ bs,Ki,⟨λk Il xM=> ?_, ?_,hq.ho.app bQ (.inl rfl), ?_,λl b hB hl=>qa2 (hq.u9 l b hB hl) lH⟩⟩
 ·rw [Ki] at xM;obtain ⟨z,hz,wC⟩:=hq.wk k Il xM;refine ⟨z, ?_, ?_⟩
  ·rw [ConcN.get_map_set _ _ _ _ (by omega),hz,qab,woken_quitsD wC]
  ·rw [Deaf_other t (by omega) _ bQ];exact wC
 ·rw [Ki];refine hq.ti.app bQ (qaa _) id lH (λ_ _ h=>h) (λ_ _ h=> .inl h) SX (λop cG x hx b hb=> ?_) λop cG x hx=> ?_
  ·obtain ⟨e,he,ha⟩:=eY cG;rw [ha] at hx;obtain ⟨c,h1,h2⟩:=(sF e he).1 x hx;have:=ic.inj h1 hb;subst this;exact h2.1
  ·obtain ⟨e,he,ha⟩:=eY cG;rw [ha] at hx;obtain ⟨c,h1,h2⟩:=(sF e he).1 x hx;exact .inr (.inl ⟨id,h2.2 _ h1,rfl,λ_ h=>h.elim,λ_ _ h=>h.elim⟩)
 ·rw [Deaf_own,hq.d0];exact ConcN.deafBehind_idle (λe he=>(sF e he).2) 0
theorem Lx{zH:Array Goroutine}{u:Trace}(h0:gs[0]? =some g)(hq:Qt C cR gs W.heap.size t q)(e:zH=gs.setIfInBounds 0 g1)(lH:W1.heap.size=W.heap.size)(hu: ∀op∈u,op.g=0/\op.act.touch? =none/\op.act≠ .mark .disable/\op.act≠ .mark .enable):
  zH[0]? =some g1/\zH.size=gs.size/\Qt C cR zH W1.heap.size (t++u) q:=by
 subst e;have bs:=(qa1.1 h0).1;have Gs: ∀k,Deaf (t++u) k=Deaf t k:=λk=>ConcN.Deaf_still t k u λop cG=>(hu op cG).2.2;have Ki:(gs.setIfInBounds 0 g1).size=gs.size:=by simp
 refine ⟨by simp [bs],Ki,⟨λk Il xM=> ?_, ?_,hq.ho.app (λop cG=>(hu op cG).1) (.inl rfl),by rw [Gs];exact hq.d0,λl b hB hl=>by rw [lH];exact hq.u9 l b hB hl⟩⟩
 ·rw [Ki] at xM;obtain ⟨z,hz,wC⟩:=hq.wk k Il xM;exact ⟨z,by rw [qaq (by omega)];exact hz,by rw [Gs];exact wC⟩
 ·rw [Ki,lH];exact hq.ti.app (λop cG=>(hu op cG).1) (qaa _) id (qa3 _) (λ_ _ h=>h) (λ_ _ h=> .inl h) SX (λop cG x hx=>by rw [(hu op cG).2.1] at hx;cases hx) λop cG x hx=>by rw [(hu op cG).2.1] at hx;cases hx
structure ahz(cR:Loc->Prop)(S S':Nat->Prop)(W W':World):Prop where
 tape:W'.tape=W.tape
 os:W'.os=W.os
 output:W'.output=W.output
 size:W.heap.size<=W'.heap.size
 own: ∀b,S' b->(S b\/W.heap.size<=b)/\Gb cR W'.heap.size b
 blk: ∀b,b<W.heap.size-> ¬S b->W'.heap[b]? =W.heap[b]?
 sub: ∀b,S b->S' b
theorem pB{w:World}{n0:Nat}{sz:Nat}(hr:g.status= .running)
  (K: ∀gs W sl t q,gs[0]? =some g->gs.size=n0->Wq W w->Qt C cR gs sz t q->VG C Φ gs W sl t):
  ∀(r:Nat) (gs:Array Goroutine) (W:World) (sl:Option (Nat×Nat)) (t:Trace) (q:Nat->Nat),sumTo gs.size q=r->gs[0]? =some g->gs.size=n0->Wq W w->Qt C cR gs sz t q->iJ C Φ (crowd gs W sl) t:=by
 intro r
 induction r using Nat.strongRecOn with
 | _ r ih=>
  intro gs W sl t q OP h0 hn hw hq;obtain ⟨i,y,d,vV,hy,GC,hs⟩:=crowd_pick (P:=C) (w:=W) (sl:=sl) (hq.awake h0 hr) ⟨0,g,h0,hr⟩;cases i with
  | zero=>
   obtain ⟨m1,ops,h1,h2⟩:=K gs (W.at d) vV t q h0 hn (hw.at d) hq;exact iJ.step (hs.trans h1) h2
  | succ i=>
   obtain ⟨qm,ops,q',h1,h2,h3,h4,h5⟩:=hq.leave (W:=W.at d) (sl:=vV) h0 hr (k:=i+1) (by omega) hy GC;exact iJ.step (hs.trans h1) (ih _ (by rw [←OP];exact h5) qm (W.at d) vV (t++ops) q' (by rw [h3]) h2 (h3.trans hn) (hw.at d) h4)
theorem H9{Iv:World->Prop}{Ro Sx:Nat->Prop}{Stop:(Nat->Prop)->Goroutine->World->Prop}(FG: ∀S g w w',Stop S g w->Wq w' w->Stop S g w')(hI: ∀w w':World,Iv w->w.heap.size<=w'.heap.size->(∀b,b<w.heap.size-> ¬Sx b->w'.heap[b]? =w.heap[b]?)->Iv w'):
  ∀(r:Rk) (S:Nat->Prop) (g:Goroutine) (W:World) (gs:Array Goroutine) (sl:Option (Nat×Nat)) (t:Trace) (q:Nat->Nat),Wk C true Iv Ro Stop r S g W->Iv W->gs[0]? =some g->Qt C cR gs W.heap.size t q->(∀b,S b->Sx b)->(∀b,W.heap.size<=b->Sx b)->(∀b,S b\/Ro b->Gb cR W.heap.size b)->
   (∀(S':Nat->Prop) (g':Goroutine) (W':World) (qm:Array Goroutine) (vV:Option (Nat×Nat)) (t':Trace) (q':Nat->Nat),qm[0]? =some g'->qm.size=gs.size->Qt C cR qm W'.heap.size t' q'->ahz cR S S' W W'->Iv W'->Stop S' g' W'->iJ C Φ (crowd qm W' vV) t')->
   iJ C Φ (crowd gs W sl) t:=by
 intro r
 induction r.acc with
 | intro r _ ih=>
  intro S g W gs sl t q hW hi h0 hq hSx hNx hS K;by_cases hs:Stop S g W
  ·exact K S g W gs sl t q h0 rfl hq ⟨rfl,rfl,rfl,qa3 _,λb hb=>⟨.inl hb,hS b (.inl hb)⟩,λ_ _ _=>rfl,λ_ h=>h⟩ hi hs
  ·have bH:g.status= .running:=(hW.cases hi).elim (λq=>absurd q hs) λq=>q.1;have key: ∀(n0:Nat),gs.size=n0->iJ C Φ (crowd gs W sl) t:=by
    intro n0 aX;refine (pB (w:=W) (g:=g) (n0:=n0) bH ?_ _ gs W sl t q rfl h0 aX (.refl W) hq);intro gs2 W2 Ri t2 q2 NS IJ iK F7;have yK:Iv W2:=hI _ _ hi (qay (by rw [iK.heap])) λb _ _=>by rw [iK.heap]
    have ahA:=hW.rely (w₁:=W2) ⟨λb _=>by rw [iK.heap],qay (by rw [iK.heap]),yK⟩;rw [←iK.heap] at F7;rcases ahA.cases yK with VX | ⟨_,g',W',es,r',er,ho,bs,hk⟩
    ·exact absurd (FG _ _ _ _ VX iK.symm) hs
    ·have hS2: ∀b,nw S W2 W' b\/Ro b->Gb cR W'.heap.size b:=λb hb=>by
      rcases hb with (hb | ⟨b1,b2⟩) | hb
      ·have:=hS b (.inl hb);exact ⟨qa2 (by rw [iK.heap];exact this.1) ho.size,this.2⟩
      ·exact ⟨b2,λl hl hB=>absurd (F7.u9 l b hB hl) (qcg.2 b1)⟩
      ·have:=hS b (.inr hb);exact ⟨qa2 (by rw [iK.heap];exact this.1) ho.size,this.2⟩
     obtain ⟨gs3,ops,r1,r2,r3,r4⟩:=Ke (sl:=Ri) NS F7 er ho.size λe he=>⟨λx hx=>by
      rcases (rA (ho.ev e he)).1 x hx with ⟨_,⟨b,h1,h2⟩ | ⟨⟨b,h1,h2⟩,_⟩⟩
      ·exact ⟨b,h1,hS2 b (.inl h2)⟩
      ·exact ⟨b,h1,hS2 b (.inr h2)⟩,sx (ho.ev e he)⟩
     refine ⟨_,_,r1,ih r' bs _ g' W' gs3 Ri _ q2 hk (hI _ _ yK ho.size λb hb hn=>ho.blk b hb λq=>hn (hSx b q)) r2 r4 (λb hb=> ?_) (λb hb=>hNx b (qa8 (by rw [iK.heap];exact qa3 _) (qa8 ho.size hb))) hS2 λS' g'' W'' ahB ahC t'' q'' a1 a2 a3 a4 a5 a6=>K S' g'' W'' ahB ahC t'' q'' a1 (by rw [a2,r3,IJ,aX]) a3 ?_ a5 a6⟩
     ·rcases hb with hb | hb
      ·exact hSx b hb
      ·exact hNx b (by rw [←iK.heap];exact hb.1)
     ·refine ⟨a4.tape.trans (ho.tape.trans iK.tape),a4.os.trans (ho.os.trans iK.os),a4.output.trans (ho.output.trans iK.output),qa8 (by rw [←iK.heap];exact ho.size) a4.size,λb hb=> ?_,λb hb hn=> ?_,λb hb=>a4.sub b (.inl hb)⟩
      ·obtain ⟨c1,c2⟩:=a4.own b hb;refine ⟨?_,c2⟩;rcases c1 with (c1 | c1) | c1
       ·exact .inl c1
       ·exact .inr (by rw [←iK.heap];exact c1.1)
       ·exact .inr (qa8 (by rw [←iK.heap];exact ho.size) c1)
      ·have hb2:b<W2.heap.size:=by rw [iK.heap];exact hb
       rw [a4.blk b (qa2 hb2 ho.size) λq=>q.elim hn λq=>absurd hb2 (qcg.2 q.1),ho.blk b hb2 hn,iK.heap]
   exact key _ rfl
end
end Go.Cx
namespace Go.Cx
open Go Go.Conc
structure Kn(Ro S:Nat->Prop)(l:List (Nat×Obj))(W:World):Prop where
 has: ∀p∈l,W.heap[p.1]? =some p.2/\(S p.1\/Ro p.1)
section
variable{P:Program}{m:Bool}{Iv:World->Prop}{Ro S:Nat->Prop}{Stop:(Nat->Prop)->Goroutine->World->Prop}{b:Frame}{k:List Item}{cs:List Frame}{ops:Array Oper}{a:Act}{W W1:World}{i:Nat}{rest:List Nat}{o:Oper}{l:List (Nat×Obj)}
theorem Kn.rely(h:Kn Ro S l W)(hr:Ry Iv (λb=>S b\/Ro b) W W1):Kn Ro S l W1:=⟨λp hp=>⟨(hr.blk _ (h.has p hp).2).trans (h.has p hp).1,(h.has p hp).2⟩⟩
theorem Kn.lt(h:Kn Ro S l W){p:Nat×Obj}(hp:p∈l):p.1<W.heap.size:=(qa1.1 (h.has p hp).1).1
theorem Kn.at(h:Kn Ro S l W){p:Nat×Obj}(hp:p∈l):W.heap[p.1]? =some p.2:=(h.has p hp).1
theorem Kn.less{l':List (Nat×Obj)}{S' Ro':Nat->Prop}(h:Kn Ro S l W)(hl: ∀p∈l',p∈l)(hs: ∀p∈l',S p.1\/Ro p.1->S' p.1\/Ro' p.1):Kn Ro' S' l' W:=⟨λp hp=>⟨(h.has p (hl p hp)).1,hs p hp (h.has p (hl p hp)).2⟩⟩
theorem RO{o':Obj}{v:Nat->Value}(hK:Kn Ro S l W)(ho:ops[i]? =some o)(hw:Region.wanted o (yielded ops a.tmps)=true)(hk:b.kind≠ .early)
  (hr: ∀w:World,Kn Ro S l w->(execOp a.eval o).run P w= .ok (.value (v w.heap.size)) (w.alloc o')) (he: ∀w:World,Kn Ro S l w-> ∀e∈(execOp a.eval o).events P w #[],SP S Ro e)
  (h: ∀(n:Nat) (S':Nat->Prop) (w:World),(∀x,S' x↔S x\/x=n)->(∀p∈l,p.1<n)->W.heap.size<=n->Kn Ro S' ((n,o')::l) w->w.heap.size=n+1->dR P m Iv Ro Stop S' (G (b.at (a.put o.dst (v n)) (.inRegion ops rest::k)) cs) w):
  dR P m Iv Ro Stop S (G (b.at a (.inRegion ops (i::rest)::k)) cs) W:=by
 refine dR.step rfl λW1 qL=> ?_;have tN:=hK.rely qL;have lH:(W1.alloc o').heap.size=W1.heap.size+1:=by show (W1.heap.push o').size=_;simp
 have hold: ∀x,x<W1.heap.size->(W1.alloc o').heap[x]? =W1.heap[x]? :=λx hx=>by show (W1.heap.push o')[x]? =_;rw [qbz hx,Array.getElem?_eq_getElem hx]
 refine ⟨_,_,_,stepG_value ho hw hk (hr W1 tN),⟨rfl,rfl,rfl,by omega,λx hx _=>hold x hx,λe Aw=> ?_⟩,h W1.heap.size _ _ (λx=> ?_) (λp hp=>tN.lt hp) qL.size ⟨λp hp=> ?_⟩ lH⟩
 ·rcases he W1 tN e (mem_listed Aw) with ⟨q1,⟨ad,q2,q3⟩ | ⟨r,q2,q3⟩⟩ | q
  ·exact .inl ⟨q1, .inl ⟨ad,q2,q3.imp .inl id⟩⟩
  ·exact .inl ⟨q1, .inr ⟨r,q2, .inl q3⟩⟩
  ·exact .inr q
 ·unfold nw;rw [lH]
  constructor
  ·rintro (q | q)
   ·exact .inl q
   ·exact .inr (by omega)
  ·rintro (q | q)
   ·exact .inl q
   ·exact .inr (by omega)
 ·rcases qad.1 hp with rfl | hp
  ·refine ⟨?_, .inl (.inr ⟨qa3 _,by omega⟩)⟩;show (W1.heap.push o')[W1.heap.size]? =_;simp
  ·exact ⟨(hold _ (tN.lt hp)).trans (tN.at hp),(tN.has p hp).2.imp .inl id⟩
theorem adG{v:Value}(hK:Kn Ro S l W)(ho:ops[i]? =some o)(hw:Region.wanted o (yielded ops a.tmps)=true)(hk:b.kind≠ .early)
  (hr: ∀w:World,Kn Ro S l w->(execOp a.eval o).run P w= .ok (.value v) w) (he: ∀w:World,Kn Ro S l w-> ∀e∈(execOp a.eval o).events P w #[],SP S Ro e)
  (h: ∀w:World,Kn Ro S l w->W.heap.size<=w.heap.size->dR P m Iv Ro Stop S (G (b.at (a.put o.dst v) (.inRegion ops rest::k)) cs) w):
  dR P m Iv Ro Stop S (G (b.at a (.inRegion ops (i::rest)::k)) cs) W:=by
 refine dR.step rfl λW1 qL=> ?_;have tN:=hK.rely qL;refine ⟨_,W1,_,stepG_value ho hw hk (hr W1 tN),⟨rfl,rfl,rfl,qa3 _,λx hx _=>rfl,λe Aw=> ?_⟩, ?_⟩
 ·rcases he W1 tN e (mem_listed Aw) with ⟨q1,⟨ad,q2,q3⟩ | ⟨r,q2,q3⟩⟩ | q
  ·exact .inl ⟨q1, .inl ⟨ad,q2,q3.imp .inl id⟩⟩
  ·exact .inl ⟨q1, .inr ⟨r,q2, .inl q3⟩⟩
  ·exact .inr q
 ·rw [rO];exact h W1 tN qL.size
theorem ahD{n:Nat}{o1:Obj}{l':List (Nat×Obj)}(hK:Kn Ro S l W)(hn:S n)(bs: ∃p∈l,p.1=n)(ho:ops[i]? =some o)(hw:Region.wanted o (yielded ops a.tmps)=true)(hk:b.kind≠ .early)
  (hr: ∀w:World,Kn Ro S l w->(execOp a.eval o).run P w= .ok .skip { w with heap:=w.heap.setIfInBounds n o1 }) (he: ∀w:World,Kn Ro S l w-> ∀e∈(execOp a.eval o).events P w #[],SP S Ro e) (oi: ∀p∈l',p=(n,o1)\/(p∈l/\p.1≠n))
  (h: ∀w:World,Kn Ro S l' w->W.heap.size<=w.heap.size->dR P m Iv Ro Stop S (G (b.at (a.put o.dst undef) (.inRegion ops rest::k)) cs) w):
  dR P m Iv Ro Stop S (G (b.at a (.inRegion ops (i::rest)::k)) cs) W:=by
 refine dR.step rfl λW1 qL=> ?_;have tN:=hK.rely qL;have lH:({ W1 with heap:=W1.heap.setIfInBounds n o1 }:World).heap.size=W1.heap.size:=by simp
 have er:stepG P m (G (b.at a (.inRegion ops (i::rest)::k)) cs) W1= .go (G (b.at (a.put o.dst undef) (.inRegion ops rest::k)) cs) { W1 with heap:=W1.heap.setIfInBounds n o1 } (listed P b.fn a o W1):=stepG_none ho hw hk (hr W1 tN);refine ⟨_,_,_,er,⟨rfl,rfl,rfl,qay lH.symm,λx hx hn'=> ?_,λe Aw=> ?_⟩, ?_⟩
 ·show (W1.heap.setIfInBounds n o1)[x]? =_;rw [qaq λe=>hn' (by rw [←e];exact hn)]
 ·rcases he W1 tN e (mem_listed Aw) with ⟨q1,⟨ad,q2,q3⟩ | ⟨r,q2,q3⟩⟩ | q
  ·exact .inl ⟨q1, .inl ⟨ad,q2,q3.imp .inl id⟩⟩
  ·exact .inl ⟨q1, .inr ⟨r,q2, .inl q3⟩⟩
  ·exact .inr q
 ·have e:nw S W1 { W1 with heap:=W1.heap.setIfInBounds n o1 }=S:=by
   funext x;apply propext;exact ⟨λq=>q.elim id λq=>by rw [lH] at q;omega, .inl⟩
  rw [e];refine h _ ⟨λp hp=> ?_⟩ (qa8 qL.size (qay lH.symm));rcases oi p hp with rfl | ⟨hp,jv⟩
  ·obtain ⟨p0,h1,h2⟩:=bs;have:=tN.lt h1;rw [h2] at this;exact ⟨by show (W1.heap.setIfInBounds n o1)[n]? =_;simp [this], .inl hn⟩
  ·refine ⟨?_,(tN.has p hp).2⟩;show (W1.heap.setIfInBounds n o1)[p.1]? =_;rw [qaq (qbp jv)];exact tN.at hp
end
end Go.Cx
namespace Go.Cx
open Go Go.Conc Go.Vs
section
variable{P:Program}{ev:Operand->Value}{d:Option Nat}{T ty:TypeId}{x y:Operand}{pos:String}{af:Array Edge}{gd:Option (Nat×Bool)}{w:World}
theorem Vr(w:World):(execOp ev ⟨d, .box T x,ty,pos,af,gd⟩).run P w= .ok (.value (pt w.heap.size 0)) (w.alloc (.cells (ev x).cells T)):=by
 simp [execOp,Instr.box,newVar,newRow,newObj,Sem.run]
theorem ZT(w:World):(execOp ev ⟨d, .box T x,ty,pos,af,gd⟩).events P w #[]= #[]:=by
 simp [execOp,Instr.box,newVar,newRow]
theorem BN{z:Value}(hz: ∀w:World,(zeroValue T).run P w= .ok z w)(w:World):(execOp ev ⟨d, .alloc T,ty,pos,af,gd⟩).run P w= .ok (.value (pt w.heap.size 0)) (w.alloc (.cells z.cells T)):=by
 simp [execOp,Instr.alloc,hz,newVar,newRow,newObj,Sem.run]
theorem D3{z:Value}(hz: ∀w:World,(zeroValue T).run P w= .ok z w)(he: ∀w:World,(zeroValue T).events P w #[]= #[])(w:World):(execOp ev ⟨d, .alloc T,ty,pos,af,gd⟩).events P w #[]= #[]:=by
 simp [execOp,Instr.alloc,hz,he,newVar,newRow]
theorem Kj{e:TypeId}{dir:ChanDir}{i:TypeInfo}{n:Nat}(ht:P.underlying T=some (.chan dir e))(hi:P.info? e=some i)(hx:ev x= .int .i64 n)(h63:(n:Int)<=9223372036854775807)(hb:(i.bytes:Int)*n<=281474976710544)(w:World):
  (execOp ev ⟨d, .makeChan T x,ty,pos,af,gd⟩).run P w= .ok (.value (.chan (some w.heap.size))) (w.alloc (.chan n #[] false 0 0 false)):=by
 simp [execOp,hx,run_makeChan ht hi .i64 n h63 hb]
theorem Nw{e:TypeId}{dir:ChanDir}{i:TypeInfo}{n:Nat}(ht:P.underlying T=some (.chan dir e))(hi:P.info? e=some i)(hx:ev x= .int .i64 n)(h63:(n:Int)<=9223372036854775807)(hb:(i.bytes:Int)*n<=281474976710544)(w:World):
  (execOp ev ⟨d, .makeChan T x,ty,pos,af,gd⟩).events P w #[]= #[]:=by
 simp [execOp,hx,events_makeChan ht hi .i64 n h63 hb]
theorem xz(g o i:Nat):(⟨g,o,none⟩:Addr).add i=⟨g,o+i,none⟩:=by unfold Addr.add;split <;> simp_all
theorem vo(g o:Nat)(t:TypeId): ∀(vs:List Value) (i:Nat) (cur:Array Value) (w:World) (es:Array Event),w.heap[g]? =some (.cells cur t (0,0))->o+i+vs.length<=cur.size->(∀v∈vs,v.oneCell'=true)->
  ∀ev∈(storeCells ⟨g,o,none⟩ vs i).events P w es,ev∈es\/ ∃off,ev=⟨.cell ⟨g,off,none⟩,true,false⟩
 | [],_,_,_,_,_,_,_=>λev h=> .inl (by simpa [storeCells] using h)
 | v::rest,i,cur,w,es,hg,hl,h1=>λev h=>by
  have hi:o+i<cur.size:=by simp at hl;omega
  have nj:w.cell? ⟨g,o+i,none⟩=some cur[o+i]:=by simp [World.cell?, hg,hi]
  have adH:w.frozen? ⟨g,o+i,none⟩=false:=by simp [World.frozen?, hg]
  have er:(store ((⟨g,o,none⟩:Addr).add i) v).run P w= .ok () (w.setRow g (cur.setIfInBounds (o+i) v)):=by
   rw [xz,run_store P w _ v _ (h1 v (by simp)),nj];simp [adH,setCell_eq_setRow w g (o+i) cur t (0,0) v hg]
  have sF:(store ((⟨g,o,none⟩:Addr).add i) v).events P w es=es.push ⟨.cell ⟨g,o+i,none⟩,true,false⟩:=by
   rw [xz,events_store (P:=P) (w:=w) (es:=es) _ v _ (h1 v (by simp)),nj];simp only [adH,qa7,if_false]
   rfl
  simp only [storeCells,Sem.events_bind,er,Result.evThen_ok,sF] at h;rcases vo g o t rest (i+1) (cur.setIfInBounds (o+i) v) (w.setRow g (cur.setIfInBounds (o+i) v)) _ (setRow_heap w g cur _ t _ hg) (by simp at hl ⊢;omega) (λx hx=>h1 x (by simp [hx])) ev h with h | h
  ·rcases Array.mem_push.1 h with h | rfl
   ·exact .inl h
   ·exact .inr ⟨_,rfl⟩
  ·exact .inr h
theorem rC(g o:Nat): ∀(n i:Nat) (acc:Array Value) (w:World) (es:Array Event),(∀j,j<n->(w.cell? ⟨g,o+i+j,none⟩).isSome)->
  ∀ev∈(loadCellsFrom ⟨g,o,none⟩ i n acc).events P w es,ev∈es\/ ∃off,ev=⟨.cell ⟨g,off,none⟩,false,false⟩
 | 0,_,_,_,_,_=>λev h=> .inl (by simpa [loadCellsFrom] using h)
 | n+1,i,acc,w,es,hc=>λev h=>by
  have h0:=hc 0 (by omega);rw [Nat.add_zero] at h0;obtain ⟨u,hu⟩:=Option.isSome_iff_exists.1 h0;have hl:(load ((⟨g,o,none⟩:Addr).add i)).run P w= .ok u w:=by rw [xz];simp [load,Sem.run,hu]
  have he:(load ((⟨g,o,none⟩:Addr).add i)).events P w es=es.push ⟨.cell ⟨g,o+i,none⟩,false,false⟩:=by rw [xz,events_load];simp only [hu];rfl
  simp only [loadCellsFrom,Sem.events_bind,hl,Result.evThen_ok,he] at h;rcases rC g o n (i+1) (acc.push u) w _ (λj hj=>by have:=hc (j+1) (by omega);rwa [show o+i+(j+1)=o+(i+1)+j by omega] at this) ev h with h | h
  ·rcases Array.mem_push.1 h with h | rfl
   ·exact .inl h
   ·exact .inr ⟨_,rfl⟩
  ·exact .inr h
theorem Kk{v:Value}(h:plain v=true):v.oneCell'=true:=by
 cases v <;> first | rfl | cases h
variable{S Ro:Nat->Prop}
theorem Kl{z:Value}{v:Value}{vs:List Value}{bl o s bt:Nat}{C:Array Value}{E:TypeId}(hi:Vs.TI P T z s bt)(hx:ev x=pt bl o)(hy:ev y=v)(hv:v.cells=vs.toArray)(hs:vs.length=s)(hp: ∀u∈vs,plain u=true)(hc:w.heap[bl]? =some (.cells C E (0,0)))(ho:o+s<=C.size):
  (execOp ev ⟨d, .store T x y,ty,pos,af,gd⟩).run P w= .ok .skip { w with heap:=w.heap.setIfInBounds bl (.cells (wr C o vs) E (0,0)) }:=by
 have er:=im (P:=P) bl o E vs 0 w C hc (by omega) hp;simp only [Nat.add_zero] at er;simp [execOp,hx,hy,Instr.storeAt,Instr.sureAddr,storeVar,Vs.run_typeInfo hi,hv,hs,er,World.put]
theorem Ny{z:Value}{v:Value}{vs:List Value}{bl o s bt:Nat}{C:Array Value}{E:TypeId}(hi:Vs.TI P T z s bt)(hx:ev x=pt bl o)(hy:ev y=v)(hv:v.cells=vs.toArray)(hs:vs.length=s)(hp: ∀u∈vs,plain u=true)(hc:w.heap[bl]? =some (.cells C E (0,0)))(ho:o+s<=C.size)(hS:S bl):
  ∀e∈(execOp ev ⟨d, .store T x y,ty,pos,af,gd⟩).events P w #[],SP S Ro e:=by
 intro e he;obtain ⟨i,uw,_⟩:=hi.it;have h1:(sizeOf T).events P w #[]= #[]:=by simp [sizeOf,typeInfo,uw]
 have:e∈(storeCells ⟨bl,o,none⟩ vs 0).events P w #[]:=by
  have er:=im (P:=P) bl o E vs 0 w C hc (by omega) hp;simpa [execOp,hx,hy,Instr.storeAt,Instr.sureAddr,storeVar,Vs.run_typeInfo hi,hv,hs,h1] using he
 rcases vo bl o E vs 0 C w #[] hc (by omega) (λu hu=>Kk (hp u hu)) e this with h | ⟨off,rfl⟩
 ·simp at h
 ·exact .inl ⟨rfl, .inl ⟨_,rfl, .inl hS⟩⟩
theorem Nz{v:Value}{bl o:Nat}{D:TypeDesc}(hT:P.underlying T=some D)(hD:(match D with | .struct _=>false | .array _ _=>false | _=>true)=true)(hx:ev x=pt bl o)(hc:w.cell? ⟨bl,o,none⟩=some v):
  (execOp ev ⟨d, .load T x,ty,pos,af,gd⟩).run P w= .ok (.value v) w:=by
 have:(isAgg T).run P w= .ok false w:=by
  simp only [isAgg,underlying,Sem.run_bind,run_program,Result.andThen_ok,hT,Sem.run_pure];cases D <;> simp_all
 simp [execOp,hx,Instr.loadAt,Instr.sureAddr,loadVar,this,load,Sem.run,hc]
end
section
variable{P:Program}{m:Bool}{Iv:World->Prop}{Ro S:Nat->Prop}{Stop:(Nat->Prop)->Goroutine->World->Prop}{b:Frame}{k:List Item}{cs:List Frame}{ops:Array Oper}{W:World}{i:Nat}{rest:List Nat}{l:List (Nat×Obj)}{N:Nat}{ρ:Nat->Value}
variable{d:Nat}{T ty:TypeId}{x y:Operand}{pos:String}{af:Array Edge}
theorem BJ{v:Value}{vs:Array Value}(hK:Kn Ro S l W)(ho:ops[i]? =some ⟨some d, .box T x,ty,pos,af,none⟩)(hk:b.kind≠ .early)(hx:ev N ρ x=v)(hv:v.cells=vs)
  (h: ∀(n:Nat) (S':Nat->Prop) (w:World),(∀x,S' x↔S x\/x=n)->(∀p∈l,p.1<n)->W.heap.size<=n->Kn Ro S' ((n, .cells vs T)::l) w->w.heap.size=n+1->dR P m Iv Ro Stop S' (G (b.at (fr N (upd ρ d (pt n 0))) (.inRegion ops rest::k)) cs) w):
  dR P m Iv Ro Stop S (G (b.at (fr N ρ) (.inRegion ops (i::rest)::k)) cs) W:=by
 refine RO (v:=λn=>pt n 0) hK ho (aI _ rfl _) hk (λw _=>by rw [aO,Vr,hx,hv]) (λw _ e he=>by rw [aO,ZT] at he;simp at he) λn S' w h1 h2 h3 h4 h5=> ?_;rw [cQ];exact h n S' w h1 h2 h3 h4 h5
theorem xr{z:Value}{vs:Array Value}(hK:Kn Ro S l W)(ho:ops[i]? =some ⟨some d, .alloc T,ty,pos,af,none⟩)(hk:b.kind≠ .early)(hz: ∀w:World,(zeroValue T).run P w= .ok z w)(he: ∀w:World,(zeroValue T).events P w #[]= #[])(hv:z.cells=vs)
  (h: ∀(n:Nat) (S':Nat->Prop) (w:World),(∀x,S' x↔S x\/x=n)->(∀p∈l,p.1<n)->W.heap.size<=n->Kn Ro S' ((n, .cells vs T)::l) w->w.heap.size=n+1->dR P m Iv Ro Stop S' (G (b.at (fr N (upd ρ d (pt n 0))) (.inRegion ops rest::k)) cs) w):
  dR P m Iv Ro Stop S (G (b.at (fr N ρ) (.inRegion ops (i::rest)::k)) cs) W:=by
 refine RO (v:=λn=>pt n 0) hK ho (aI _ rfl _) hk (λw _=>by rw [aO,BN hz,hv]) (λw _ e Aw=>by rw [aO,D3 hz he] at Aw;simp at Aw) λn S' w h1 h2 h3 h4 h5=> ?_;rw [cQ];exact h n S' w h1 h2 h3 h4 h5
theorem Ra{e:TypeId}{dir:ChanDir}{ti:TypeInfo}{n:Nat}(hK:Kn Ro S l W)(ho:ops[i]? =some ⟨some d, .makeChan T x,ty,pos,af,none⟩)(hk:b.kind≠ .early)(ht:P.underlying T=some (.chan dir e))(hi:P.info? e=some ti)(hx:ev N ρ x= .int .i64 n)(h63:(n:Int)<=9223372036854775807)(hb:(ti.bytes:Int)*n<=281474976710544)
  (h: ∀(c:Nat) (S':Nat->Prop) (w:World),(∀x,S' x↔S x\/x=c)->(∀p∈l,p.1<c)->W.heap.size<=c->Kn Ro S' ((c, .chan n #[] false 0 0 false)::l) w->w.heap.size=c+1->dR P m Iv Ro Stop S' (G (b.at (fr N (upd ρ d (.chan (some c)))) (.inRegion ops rest::k)) cs) w):
  dR P m Iv Ro Stop S (G (b.at (fr N ρ) (.inRegion ops (i::rest)::k)) cs) W:=by
 refine RO (v:=λn=> .chan (some n)) hK ho (aI _ rfl _) hk (λw _=>by rw [aO,Kj ht hi hx h63 hb]) (λw _ e he=>by rw [aO,Nw ht hi hx h63 hb] at he;simp at he) λn S' w h1 h2 h3 h4 h5=> ?_;rw [cQ];exact h n S' w h1 h2 h3 h4 h5
theorem su{v:Value}{bl o:Nat}{D:TypeDesc}{C:Array Value}{E:TypeId}{f:Nat×Nat}(hK:Kn Ro S l W)(hm:(bl,Obj.cells C E f)∈l)(ho:ops[i]? =some ⟨some d, .load T x,ty,pos,af,none⟩)(hk:b.kind≠ .early)(hT:P.underlying T=some D)(hD:(match D with | .struct _=>false | .array _ _=>false | _=>true)=true)
  (hx:ev N ρ x=pt bl o) (hc:C[o]? =some v) (h: ∀w:World,Kn Ro S l w->W.heap.size<=w.heap.size->dR P m Iv Ro Stop S (G (b.at (fr N (upd ρ d v)) (.inRegion ops rest::k)) cs) w):
  dR P m Iv Ro Stop S (G (b.at (fr N ρ) (.inRegion ops (i::rest)::k)) cs) W:=by
 have nj: ∀w:World,Kn Ro S l w->w.cell? ⟨bl,o,none⟩=some v:=λw hw=>by simp [World.cell?, hw.at hm,hc]
 refine adG (v:=v) hK ho (aI _ rfl _) hk (λw hw=>by rw [aO];exact Nz hT hD hx (nj w hw)) (λw hw e he=> ?_) λw h1 h2=> ?_
 ·rw [aO,jI hT hD hx (nj w hw)] at he;simp at he;subst he;exact .inl ⟨rfl, .inl ⟨_,rfl,((hw.has _ hm).2).imp id λq=>⟨q,rfl⟩⟩⟩
 ·rw [cQ];exact h w h1 h2
theorem xu{z v:Value}{vs:List Value}{bl o s bt:Nat}{C:Array Value}{E:TypeId}{l':List (Nat×Obj)}(hK:Kn Ro S l W)(hm:(bl,Obj.cells C E)∈l)(hS:S bl)(ho:ops[i]? =some ⟨none, .store T x y,ty,pos,af,none⟩)(hk:b.kind≠ .early)(hi:Vs.TI P T z s bt)(hx:ev N ρ x=pt bl o)(hy:ev N ρ y=v)
  (hv:v.cells=vs.toArray) (hs:vs.length=s) (hp: ∀u∈vs,plain u=true) (hC:o+s<=C.size) (oi: ∀p∈l',p=(bl,Obj.cells (wr C o vs) E)\/(p∈l/\p.1≠bl))
  (h: ∀w:World,Kn Ro S l' w->W.heap.size<=w.heap.size->dR P m Iv Ro Stop S (G (b.at (fr N ρ) (.inRegion ops rest::k)) cs) w):
  dR P m Iv Ro Stop S (G (b.at (fr N ρ) (.inRegion ops (i::rest)::k)) cs) W:=by
 refine ahD (n:=bl) (o1:= .cells (wr C o vs) E) hK hS ⟨_,hm,rfl⟩ ho (aI _ rfl _) hk (λw hw=>by rw [aO];exact Kl hi hx hy hv hs hp (hw.at hm) hC) (λw hw e he=> ?_) oi λw h1 h2=> ?_
 ·rw [aO] at he;exact Ny hi hx hy hv hs hp (hw.at hm) hC hS e he
 ·rw [jJ];exact h w h1 h2
theorem sP{v:Value}{op:Op}(ho:ops[i]? =some ⟨some d,op,ty,pos,af,none⟩)(hk:b.kind≠ .early)(hr: ∀H,ei P H N ρ ⟨some d,op,ty,pos,af,none⟩ v)(he: ∀w:World,(execOp (ev N ρ) ⟨some d,op,ty,pos,af,none⟩).events P w #[]= #[])
  (h:dR P m Iv Ro Stop S (G (b.at (fr N (upd ρ d v)) (.inRegion ops rest::k)) cs) W):dR P m Iv Ro Stop S (G (b.at (fr N ρ) (.inRegion ops (i::rest)::k)) cs) W:=
 tK (v:=v) ho (aI _ rfl _) hk (λw=>by rw [aO];exact hr w.heap w rfl) (λw=>by rw [aO];exact he w) (by rw [cQ];exact h)
end
end Go.Cx
namespace Go.Cx
open Go Go.Conc Go.Vs
section
variable{P:Program}{w:World}{bl:Nat}{t T:TypeId}{cs:Array Value}{f:Nat×Nat}{d:TypeDesc}
theorem y9(hg:w.heap[bl]? =some (.cells cs t f))(hu:P.underlying T=some d)(hd:(match d with | .struct _ | .array _ _=>true | _=>false)=true)(hi:(P.info? T).map (·.size)=some cs.size):
  ∀e∈(loadVar T ⟨bl,0,none⟩).events P w #[], ∃off,e=⟨.cell ⟨bl,off,none⟩,false,false⟩:=by
 intro e he;obtain ⟨i,uw,yK⟩:=qbf.1 hi;have h1:(isAgg T).run P w= .ok true w:=by
  simp only [isAgg,underlying,Sem.run_bind,run_program,Result.andThen_ok,hu,Sem.run_pure];cases d <;> simp_all
 have h2:(isAgg T).events P w #[]= #[]:=by
  simp [isAgg,underlying,hu];cases d <;> rfl
 have h3:(sizeOf T).run P w= .ok cs.size w:=by simp [sizeOf,typeInfo,uw,yK]
 have h4:(sizeOf T).events P w #[]= #[]:=by simp [sizeOf,typeInfo,uw]
 have:e∈(loadCellsFrom ⟨bl,0,none⟩ 0 cs.size #[]).events P w #[]:=by
  have Aw:=he;simp only [loadVar,Sem.events_bind,h1,h2,Result.evThen_ok,if_true,h3,h4] at Aw;simp [loadCells] at Aw;cases hr:(loadCellsFrom ⟨bl,0,none⟩ 0 cs.size #[]).run P w with
  | ok v w'=>rw [hr] at Aw;simpa using Aw
  | halt x w'=>rw [hr] at Aw;simpa using Aw
 rcases rC bl 0 cs.size 0 #[] w #[] (λj hj=>by simp [World.cell?, hg,hj]) e this with h | h
 ·simp at h
 ·exact h
variable{fn:Func}{p:Tmp}{tmps:Array Value}
theorem zC(h:fn.results= #[.cell p T])(hp:tmps.getD p undef= .pointer (some ⟨bl,0,none⟩))(hg:w.heap[bl]? =some (.cells cs t f))(hu:P.underlying T=some d)(hd:(match d with | .struct _ | .array _ _=>true | _=>false)=true)(hi:(P.info? T).map (·.size)=some cs.size):
  ∀e∈(results fn tmps).events P w #[], ∃off,e=⟨.cell ⟨bl,off,none⟩,false,false⟩:=by
 intro e he;refine y9 hg hu hd hi e ?_;have VU:tmps[p]?.getD undef= .pointer (some ⟨bl,0,none⟩):=by simpa using hp
 have hr:=run_loadVar_row (P:=P) w bl t T cs f d hg hu hd hi;simpa [results,h,VU,asAddr,hr] using he
end
section
variable{P:Program}{m:Bool}{Iv:World->Prop}{Ro S:Nat->Prop}{Stop:(Nat->Prop)->Goroutine->World->Prop}{b:Frame}{k:List Item}{cs:List Frame}{ops:Array Oper}{W:World}{i:Nat}{rest:List Nat}{l:List (Nat×Obj)}{N:Nat}{ρ:Nat->Value}
variable{d:Nat}{T ty:TypeId}{x y:Operand}{pos:String}{af:Array Edge}
theorem Vi{bl:Nat}{D:TypeDesc}{C:Array Value}{E:TypeId}{f:Nat×Nat}(hK:Kn Ro S l W)(hm:(bl,Obj.cells C E f)∈l)(ho:ops[i]? =some ⟨some d, .load T x,ty,pos,af,none⟩)(hk:b.kind≠ .early)(hu:P.underlying T=some D)(hd:(match D with | .struct _ | .array _ _=>true | _=>false)=true)(hi:(P.info? T).map (·.size)=some C.size)
  (hx:ev N ρ x=pt bl 0) (h: ∀w:World,Kn Ro S l w->W.heap.size<=w.heap.size->dR P m Iv Ro Stop S (G (b.at (fr N (upd ρ d (.agg C))) (.inRegion ops rest::k)) cs) w):
  dR P m Iv Ro Stop S (G (b.at (fr N ρ) (.inRegion ops (i::rest)::k)) cs) W:=by
 have bH: ∀w:World,Kn Ro S l w->(loadVar T ⟨bl,0,none⟩).run P w= .ok (.agg C) w:=λw hw=>run_loadVar_row (P:=P) w bl E T C f D (hw.at hm) hu hd hi;refine adG (v:= .agg C) hK ho (aI _ rfl _) hk (λw hw=>by rw [aO];simp [execOp,hx,Instr.loadAt,Instr.sureAddr,bH w hw]) (λw hw e he=> ?_) λw h1 h2=> ?_
 ·rw [aO] at he;have Aw:e∈(loadVar T ⟨bl,0,none⟩).events P w #[]:=by simpa [execOp,hx,Instr.loadAt,Instr.sureAddr,bH w hw] using he
  obtain ⟨off,rfl⟩:=y9 (hw.at hm) hu hd hi e Aw;exact .inl ⟨rfl, .inl ⟨_,rfl,((hw.has _ hm).2).imp id λq=>⟨q,rfl⟩⟩⟩
 ·rw [cQ];exact h w h1 h2
theorem Vj{fn:Func}{p:Tmp}{bl:Nat}{D:TypeDesc}{C:Array Value}{E:TypeId}{f:Nat×Nat}{c:Frame}{todo:List Item}(hK:Kn Ro S l W)(hm:(bl,Obj.cells C E f)∈l)(hn:b.kind= .normal)(hf:P.funcs[b.fn]? =some fn)(hr:fn.results= #[.cell p T])(hu:P.underlying T=some D)(hd:(match D with | .struct _ | .array _ _=>true | _=>false)=true)(hi:(P.info? T).map (·.size)=some C.size)
  (hp:Vs.look N ρ p=pt bl 0) (h: ∀w:World,Kn Ro S l w->W.heap.size<=w.heap.size->dR P m Iv Ro Stop S (G (c.finish (.agg C)) cs) w):
  dR P m Iv Ro Stop S (G { b.at (fr N ρ) todo with mode:= .returning } (c::cs)) W:=by
 have VU:(fr N ρ).tmps.getD p undef= .pointer (some ⟨bl,0,none⟩):=by rw [look_eq];exact hp
 refine dR.step rfl λW1 qL=> ?_;have tN:=hK.rely qL;have bH:=results_cell_row (P:=P) hr (fr N ρ).tmps W1 bl E C f D VU (tN.at hm) hu hd hi;refine ⟨G (c.finish (.agg C)) cs,W1,seen P b.fn ((results fn (fr N ρ).tmps).events P W1 #[]), ?_,⟨rfl,rfl,rfl,qa3 _,λx hx _=>rfl,λe Aw=> ?_⟩, ?_⟩
 ·have Gs:(fr N ρ).defers=[]:=rfl;simp [G,stepG,unwind,doReturn,Frame.at,hn,Gs,hf,bH,GStep.after]
 ·obtain ⟨off,rfl⟩:=zC hr VU (tN.at hm) hu hd hi e (mem_seen Aw);exact .inl ⟨rfl, .inl ⟨_,rfl,((tN.has _ hm).2).imp .inl λq=>⟨q,rfl⟩⟩⟩
 ·rw [rO];exact h W1 tN qL.size
end
section
variable{P:Program}{N:Nat}{ρ:Nat->Value}{d:Option Nat}{T ty:TypeId}{x y:Operand}{pos:String}{af:Array Edge}{gd:Option (Nat×Bool)}
theorem vT{vs:Array Value}{k:Nat}{v:Value}(hx:ev N ρ x= .tuple vs)(hv:vs[k]? =some v)(w:World):(execOp (ev N ρ) ⟨d, .extract x k,ty,pos,af,gd⟩).events P w #[]= #[]:=by
 simp [execOp,hx,Instr.extract,hv]
theorem xx{fs:Array Field}{k bl o off ft:Nat}{z:Value}{s bt:Nat}(hT:P.underlying T=some (.struct fs))(hf:(fs[k]?).map (λf=>(f.offset,f.type))=some (off,ft))(hi:Vs.TI P ft z s bt)(hs:Nat.beq s 0=false)(hx:ev N ρ x=pt bl o)(w:World):(execOp (ev N ρ) ⟨d, .fieldAddr T x k,ty,pos,af,gd⟩).events P w #[]= #[]:=by
 obtain ⟨f,h1,h2⟩:=qbf.1 hf;simp only [qcd] at h2;obtain ⟨rfl,rfl⟩:=h2;obtain ⟨i,uw,yK,NG,hi4⟩:=hi.it;have D8:s≠0:=by rintro rfl;cases hs
 simp [execOp,hx,Instr.fieldAt,hT,underlying,h1,Instr.sureAddr,fieldPlace,typeInfo,sizeOf,uw,NG,D8]
theorem H8{E m:Nat}{bl o:Nat}{i:Int}{z:Value}{s bt:Nat}(hT:P.underlying T=some (.array m E))(hi:Vs.TI P E z s bt)(hx:ev N ρ x=pt bl o)(hy:ev N ρ y=I i)(h0:0<=i)(h1:i<m)(w:World):(execOp (ev N ρ) ⟨d, .indexAddr T x y,ty,pos,af,gd⟩).events P w #[]= #[]:=by
 obtain ⟨j,uw,yK,NG,hi4⟩:=hi.it;simp [execOp,hx,hy,Instr.indexAt,asIntOf,hT,underlying,Instr.sureAddr,h0,h1,typeInfo,sizeOf,uw]
end
end Go.Cx
