/- One program beside another, one goroutine among others. -/
import Derived.Test.YtbpbncjammigdaaGreatAl
import Derived.Test.YtbpbncjammigdaaGreatCx2
import Derived.Conc.CrowdStepC2
import Derived.Conc.CrowdComm
import Derived.Test.YtbpbncjammigdaaGreatEng1
import Derived.Conc.EventLaws
import Derived.Conc.SmallLaws
import Derived.Laws.Rows
set_option linter.unusedVariables false
set_option linter.unusedSimpArgs false
set_option maxHeartbeats 4000000
namespace Go.Cx
open Go Go.Conc
open Go.ConcR (KK WgAt stA smA rd wr mk Payload DC0 Bk)
open Go.ConcN (WgLive RW WSit AtR0 AtK1 AtD1 AtD2 AtD3 AtD4 DWs Mode WD cnt Vc CTag upd sumTo ShN RelBy)
def Wc:Nat->Rk
 | 0=> .leaf
 | n+1=> .node λ_=>Wc n
theorem KQ(n:Nat):Rk.lt (Wc n) (Wc (n+1)):=⟨_,default,rfl,rfl⟩
abbrev IZ:Nat->Loc->Prop:=λ_ _=>False
structure Wx where
 Ro:Nat->Prop
 bn:Nat
 num:Value
section
variable[Payload]
variable(C:Program)(ty:TypeId)(Wg Ch:Nat)(oU:Nat->Value->(Nat->Prop)->World->Prop)
abbrev j9:World->Prop:=WgLive ty Wg
def Ms(x:Wx)(_:Nat->Prop)(g:Goroutine)(w:World):Prop:= ∃m,Goes C false (RW ty Wg x.bn 1 0 0) (DWs Wg IZ IZ x.bn 1 1) (AtR0 C ty Wg x.bn 1 0 1 x.num) m g w
def F4(x:Wx)(i:Nat)(S:Nat->Prop)(g:Goroutine)(w:World):Prop:=
 g.status= .running/\ ∃g2 v z,stepG C false g w= .comm g2 #[scase Ch v z] true .send w #[]/\oU i v S w/\ ∀w₁,Ry (j9 ty Wg) x.Ro w w₁->en C false (j9 ty Wg) x.Ro (Ms C ty Wg x) (λ_=>False) (Go.Conc.served g2 undef) w₁
inductive WS(x:Wx)(i:Nat):Nat->Rk->Nat->(Nat->Prop)->Goroutine->World->Prop
 | a {rk:Rk} {S:Nat->Prop} {g:Goroutine} {w:World}:Wk C false (j9 ty Wg) x.Ro (F4 C ty Wg Ch oU x i) rk S g w->WS x i 9 rk 0 S g w
 | b {rk:Rk} {S:Nat->Prop} {g:Goroutine} {w:World}:Wk C false (j9 ty Wg) x.Ro (Ms C ty Wg x) rk S g w->WS x i 8 rk 0 S g w
 | c {s m d:Nat} {S:Nat->Prop} {g:Goroutine} {w:World}:WSit C ty Wg x.bn 1 IZ IZ 0 1 x.num s m d g w->WS x i s (Wc m) d S g w
end
section
variable[Payload]
variable{C:Program}{ty:TypeId}{Wg Ch:Nat}{oU:Nat->Value->(Nat->Prop)->World->Prop}{x:Wx}{i s d:Nat}{rk:Rk}{S:Nat->Prop}{g:Goroutine}{w w₁:World}
theorem aeq(hb:x.Ro x.bn)(h:Ry (j9 ty Wg) (λb=>S b\/x.Ro b) w w₁):RW ty Wg x.bn 1 0 0 w w₁:=
 ⟨λb hb=>absurd hb (qap b),λ_=>h.iv,λ⟨cs,h1,h2⟩=>⟨cs,by rw [h.blk _ (.inr hb)];exact h1,h2⟩,ConcN.cell_of_block (h.blk _ (.inr hb)) 0⟩
theorem WS.rely(hb:x.Ro x.bn)(h:WS C ty Wg Ch oU x i s rk d S g w)(hr:Ry (j9 ty Wg) (λb=>S b\/x.Ro b) w w₁):WS C ty Wg Ch oU x i s rk d S g w₁:=by
 cases h with
 | a h=>exact .a (h.rely hr)
 | b h=>exact .b (h.rely hr)
 | c h=>exact .c (h.rely (aeq hb hr))
theorem Ms.running{x:Wx}(h:Ms C ty Wg x S g w):g.status= .running:=let ⟨_,h⟩:=h;Goes.running (λ_ _ x=>x.1) w (ConcN.RW.refl w) h
theorem WS.status(h:WS C ty Wg Ch oU x i s rk d S g w)(hl:j9 ty Wg w):g.status= .running\/g.status= .finished:=by
 cases h with
 | a h=>exact .inl ((h.cases hl).elim (λh=>h.1) λh=>h.1)
 | b h=>exact .inl ((h.cases hl).elim (λh=>h.running) λh=>h.1)
 | c h=>exact h.status
theorem WS.woken(h:WS C ty Wg Ch oU x i s rk d S g w)(hl:j9 ty Wg w)(a a':Goroutine)(w':World):woken C a a' w' g=g:=by
 unfold Go.Conc.woken;split
 ·exact again_running _ (h.status hl)
 ·rfl
theorem WS.running_of(h:WS C ty Wg Ch oU x i s rk d S g w)(hl:j9 ty Wg w)(hs:s≠1):g.status= .running:=by
 cases h with
 | a h=>exact (h.cases hl).elim (λh=>h.1) λh=>h.1
 | b h=>exact (h.cases hl).elim (λh=>h.running) λh=>h.1
 | c h=>exact h.running_of hs
end
section
variable(C:Program)(ty:TypeId)(Wg Ch n:Nat)(oU:Nat->Value->(Nat->Prop)->World->Prop)[Payload](ff Old:Nat->Prop)(Kp:World->Prop)(Fin:(Nat->Prop)->Goroutine->World->Prop)
abbrev TM(St:(Nat->Prop)->Goroutine->World->Prop)(S:Nat->Prop)(g:Goroutine)(w:World):Prop:=en C true (j9 ty Wg) ff St S g w
def F3(e:Event)(Nx:(Nat->Prop)->Goroutine->World->Prop)(S:Nat->Prop)(g:Goroutine)(w:World):Prop:=g.status= .running/\ ∃g',stepG C true g w= .go g' w #[e]/\Nx S g' w
def aer:(Nat->Prop)->Goroutine->World->Prop:=F3 C (mk (.acquire (stA Wg))) Fin
def MKe:(Nat->Prop)->Goroutine->World->Prop:=F3 C (mk .enable) (TM C ty Wg ff (aer C Wg Fin))
def MW4(S:Nat->Prop)(g:Goroutine)(w:World):Prop:=g.status= .running/\(WgAt ty Wg w 0 0-> ∃g',stepG C true g w= .go g' w #[rd (stA Wg)]/\TM C ty Wg ff (MKe C ty Wg ff Fin) S g' w)
def MW3(S:Nat->Prop)(g:Goroutine)(w:World):Prop:=
 g.status= .running/\g.offers=none/\((∃st,WgAt ty Wg w st 0)->stepG C true g w= .go { g with status:= .blocked } w #[])/\
  (WgAt ty Wg w 0 1-> ∃g',stepG C true g w= .go g' (w.setCell (smA Wg) (.int .u32 0)) (semEvents (smA Wg))/\TM C ty Wg ff (MW4 C ty Wg ff Fin) S g' (w.setCell (smA Wg) (.int .u32 0)))
def aes:(Nat->Prop)->Goroutine->World->Prop:=F3 C (mk (.write (smA Wg))) (TM C ty Wg ff (MW3 C ty Wg ff Fin))
variable(ij:(Nat->Prop)->Goroutine->World->Prop)
def MW2(vs:Nat)(S:Nat->Prop)(g:Goroutine)(w:World):Prop:=
 g.status= .running/\ ∀v:Nat,v<2147483648->WgAt ty Wg w (v*KK) 0->
  (v=vs-> ∃g',stepG C true g w= .go g' (w.setCell (stA Wg) (.int .u64 (v*KK+1))) #[rd (stA Wg),wr (stA Wg)]/\TM C ty Wg ff (aes C ty Wg ff Fin) S g' (w.setCell (stA Wg) (.int .u64 (v*KK+1))))/\
  (v≠vs-> ∃g',stepG C true g w= .go g' w #[rd (stA Wg)]/\TM C ty Wg ff ij S g' w)
def MW1(S:Nat->Prop)(g:Goroutine)(w:World):Prop:=
 g.status= .running/\ ∀v:Nat,v<2147483648->WgAt ty Wg w (v*KK) 0-> ∃g',stepG C true g w= .go g' w #[rd (stA Wg)]/\
  (v=0->TM C ty Wg ff (MKe C ty Wg ff Fin) S g' w)/\(v≠0->TM C ty Wg ff (MW2 C ty Wg ff Fin ij v) S g' w)
def MKd:(Nat->Prop)->Goroutine->World->Prop:=F3 C (mk .disable) (TM C ty Wg ff ij)
def MGo(j:Nat)(Nx:(Nat->Prop)->Goroutine->World->Prop)(S:Nat->Prop)(g:Goroutine)(w:World):Prop:=
 g.status= .running/\ ∃g' child,stepG C true g w= .spawn g' child w #[]/\child.status= .running/\ ∃(x:Wx) (S':Nat->Prop),x.Ro x.bn/\S x.bn/\(∀b,x.Ro b->Old b\/S b\/ff b)/\(∀b,S' b->S b/\ ¬x.Ro b)/\
  (Kp w->en C false (j9 ty Wg) x.Ro (F4 C ty Wg Ch oU x j) (λ_=>False) child w)/\Nx S' g' w
def aaE(j:Nat)(Nx:(Nat->Prop)->Goroutine->World->Prop):(Nat->Prop)->Goroutine->World->Prop:=F3 C (mk .enable) (TM C ty Wg ff (MGo C ty Wg Ch oU ff Old Kp j Nx))
def MRr(j:Nat)(Nx:(Nat->Prop)->Goroutine->World->Prop):(Nat->Prop)->Goroutine->World->Prop:=F3 C (mk (.read (smA Wg))) (TM C ty Wg ff (aaE C ty Wg Ch oU ff Old Kp j Nx))
def MA1(j:Nat)(Nx:(Nat->Prop)->Goroutine->World->Prop)(S:Nat->Prop)(g:Goroutine)(w:World):Prop:=
 g.status= .running/\ ∀v:Nat,v<2147483646->WgAt ty Wg w (v*KK) 0->
  ∃g',stepG C true g w= .go g' (w.setCell (stA Wg) (.int .u64 (((v:Int)+1)*KK))) #[rd (stA Wg),wr (stA Wg)]/\
   (v=0->TM C ty Wg ff (MRr C ty Wg Ch oU ff Old Kp j Nx) S g' (w.setCell (stA Wg) (.int .u64 (((v:Int)+1)*KK))))/\
   (v≠0->TM C ty Wg ff (aaE C ty Wg Ch oU ff Old Kp j Nx) S g' (w.setCell (stA Wg) (.int .u64 (((v:Int)+1)*KK))))
def RR(j:Nat)(Nx:(Nat->Prop)->Goroutine->World->Prop):(Nat->Prop)->Goroutine->World->Prop:=F3 C (mk .disable) (TM C ty Wg ff (MA1 C ty Wg Ch oU ff Old Kp j Nx))
def Spw:Nat->(Nat->Prop)->Goroutine->World->Prop
 | 0,S,g,w=>TM C ty Wg ff (MKd C ty Wg ff ij) S g w
 | r+1,S,g,w=>TM C ty Wg ff (RR C ty Wg Ch oU ff Old Kp (n - (r+1)) (Spw r)) S g w
inductive Tg where
 | s5 | s4 | Sv | s3 | s2 | kd | anch | w1 | w2 (vs:Nat) | Sy | w3 | blk | w4 | ke | acq
def Tg.ct:Tg->CTag
 | .s5=> .sp 0 5
 | .s4=> .sp 0 4
 | .Sv=> .sp 0 3
 | .s3=> .sp 0 3
 | .s2=> .sp 0 2
 | .kd=> .kd
 | .anch=> .anch
 | .w1=> .w1
 | .w2 vs=> .w2 vs
 | .Sy=> .w3
 | .w3=> .w3
 | .blk=> .blk
 | .w4=> .w4
 | .ke=> .ke
 | .acq=> .acq
def uA(n j v:Nat):Tg->Nat
 | .s5=>8*n+40+16*(n - j)+6
 | .s4=>8*n+40+16*(n - j)+5
 | .Sv=>8*n+40+16*(n - j)+4
 | .s3=>8*n+40+16*(n - j)+3
 | .s2=>8*n+40+16*(n - j)+2
 | .kd=>8*n+9
 | .anch=>8*v+8
 | .w1=>8*v+7
 | .w2 vs=>8*vs+6
 | .Sy=>6
 | .w3=>5
 | .blk=>5
 | .w4=>4
 | .ke=>3
 | .acq=>2
inductive MS:Tg->Nat->Nat×Rk->Nat->(Nat->Prop)->Goroutine->World->Prop
 | s5 {r:Nat} {rk:Rk} {S:Nat->Prop} {g:Goroutine} {w:World}:r<n->Wk C true (j9 ty Wg) ff (RR C ty Wg Ch oU ff Old Kp (n - (r+1)) (Spw C ty Wg Ch n oU ff Old Kp ij r)) rk S g w->MS .s5 (n - (r+1)) (1,rk) 0 S g w
 | s4 {r:Nat} {rk:Rk} {S:Nat->Prop} {g:Goroutine} {w:World}:r<n->Wk C true (j9 ty Wg) ff (MA1 C ty Wg Ch oU ff Old Kp (n - (r+1)) (Spw C ty Wg Ch n oU ff Old Kp ij r)) rk S g w->MS .s4 (n - (r+1)) (1,rk) 1 S g w
 | Sv {r:Nat} {rk:Rk} {S:Nat->Prop} {g:Goroutine} {w:World}:r<n->Wk C true (j9 ty Wg) ff (MRr C ty Wg Ch oU ff Old Kp (n - (r+1)) (Spw C ty Wg Ch n oU ff Old Kp ij r)) rk S g w->MS .Sv (n - (r+1)) (1,rk) 1 S g w
 | s3 {r:Nat} {rk:Rk} {S:Nat->Prop} {g:Goroutine} {w:World}:r<n->Wk C true (j9 ty Wg) ff (aaE C ty Wg Ch oU ff Old Kp (n - (r+1)) (Spw C ty Wg Ch n oU ff Old Kp ij r)) rk S g w->MS .s3 (n - (r+1)) (1,rk) 1 S g w
 | s2 {r:Nat} {rk:Rk} {S:Nat->Prop} {g:Goroutine} {w:World}:r<n->Wk C true (j9 ty Wg) ff (MGo C ty Wg Ch oU ff Old Kp (n - (r+1)) (Spw C ty Wg Ch n oU ff Old Kp ij r)) rk S g w->MS .s2 (n - (r+1)) (1,rk) 0 S g w
 | kd {rk:Rk} {S:Nat->Prop} {g:Goroutine} {w:World}:Wk C true (j9 ty Wg) ff (MKd C ty Wg ff ij) rk S g w->MS .kd n (1,rk) 0 S g w
 | anch {rk:Rk} {S:Nat->Prop} {g:Goroutine} {w:World}:Wk C true (j9 ty Wg) ff ij rk S g w->MS .anch n (1,rk) 1 S g w
 | w1 {rk:Rk} {S:Nat->Prop} {g:Goroutine} {w:World}:Wk C true (j9 ty Wg) ff (MW1 C ty Wg ff Fin ij) rk S g w->MS .w1 n (1,rk) 1 S g w
 | w2 {vs:Nat} {rk:Rk} {S:Nat->Prop} {g:Goroutine} {w:World}:Wk C true (j9 ty Wg) ff (MW2 C ty Wg ff Fin ij vs) rk S g w->MS (.w2 vs) n (1,rk) 1 S g w
 | Sy {rk:Rk} {S:Nat->Prop} {g:Goroutine} {w:World}:Wk C true (j9 ty Wg) ff (aes C ty Wg ff Fin) rk S g w->MS .Sy n (1,rk) 1 S g w
 | w3 {rk:Rk} {S:Nat->Prop} {g:Goroutine} {w:World}:Wk C true (j9 ty Wg) ff (MW3 C ty Wg ff Fin) rk S g w->MS .w3 n (1,rk) 1 S g w
 | blk {rk:Rk} {S:Nat->Prop} {g:Goroutine} {w:World}:Wk C true (j9 ty Wg) ff (MW3 C ty Wg ff Fin) rk S g w->g.status= .running->g.offers=none->MS .blk n (0, .leaf) 1 S { g with status:= .blocked } w
 | w4 {rk:Rk} {S:Nat->Prop} {g:Goroutine} {w:World}:Wk C true (j9 ty Wg) ff (MW4 C ty Wg ff Fin) rk S g w->MS .w4 n (1,rk) 1 S g w
 | ke {rk:Rk} {S:Nat->Prop} {g:Goroutine} {w:World}:Wk C true (j9 ty Wg) ff (MKe C ty Wg ff Fin) rk S g w->MS .ke n (1,rk) 1 S g w
 | acq {rk:Rk} {S:Nat->Prop} {g:Goroutine} {w:World}:Wk C true (j9 ty Wg) ff (aer C Wg Fin) rk S g w->MS .acq n (1,rk) 0 S g w
end
section
variable{C:Program}{ty:TypeId}{Wg Ch n:Nat}{oU:Nat->Value->(Nat->Prop)->World->Prop}[Payload]{ff Old:Nat->Prop}{Kp:World->Prop}{Fin ij:(Nat->Prop)->Goroutine->World->Prop}
 {tag:Tg} {j:Nat} {mr:Nat×Rk} {d:Nat} {S:Nat->Prop} {g:Goroutine} {w w₁:World}
theorem MS.rely(h:MS C ty Wg Ch n oU ff Old Kp Fin ij tag j mr d S g w)(hr:Ry (j9 ty Wg) (λb=>S b\/ff b) w w₁):MS C ty Wg Ch n oU ff Old Kp Fin ij tag j mr d S g w₁:=by
 cases h with
 | s5 hn h=>exact .s5 hn (h.rely hr)
 | s4 hn h=>exact .s4 hn (h.rely hr)
 | Sv hn h=>exact .Sv hn (h.rely hr)
 | s3 hn h=>exact .s3 hn (h.rely hr)
 | s2 hn h=>exact .s2 hn (h.rely hr)
 | kd h=>exact .kd (h.rely hr)
 | anch h=>exact .anch (h.rely hr)
 | w1 h=>exact .w1 (h.rely hr)
 | w2 h=>exact .w2 (h.rely hr)
 | Sy h=>exact .Sy (h.rely hr)
 | w3 h=>exact .w3 (h.rely hr)
 | blk h h1 h2=>exact .blk (h.rely hr) h1 h2
 | w4 h=>exact .w4 (h.rely hr)
 | ke h=>exact .ke (h.rely hr)
 | acq h=>exact .acq (h.rely hr)
omit [Payload] in
theorem na{St:(Nat->Prop)->Goroutine->World->Prop}{Iv:World->Prop}{rk:Rk}(hs: ∀S g w,St S g w->g.status= .running)(h:Wk C true Iv ff St rk S g w)(hi:Iv w):g.status= .running:=(h.cases hi).elim (hs _ _ _) λh=>h.1
theorem MS.status(hA: ∀S g w,ij S g w->g.status= .running)(h:MS C ty Wg Ch n oU ff Old Kp Fin ij tag j mr d S g w)(hl:j9 ty Wg w):(g.status= .running/\tag≠ .blk)\/(g.status= .blocked/\g.offers=none/\tag= .blk):=by
 cases h with
 | s5 _ h=>exact .inl ⟨na (λ_ _ _ x=>x.1) h hl,nofun⟩
 | s4 _ h=>exact .inl ⟨na (λ_ _ _ x=>x.1) h hl,nofun⟩
 | Sv _ h=>exact .inl ⟨na (λ_ _ _ x=>x.1) h hl,nofun⟩
 | s3 _ h=>exact .inl ⟨na (λ_ _ _ x=>x.1) h hl,nofun⟩
 | s2 _ h=>exact .inl ⟨na (λ_ _ _ x=>x.1) h hl,nofun⟩
 | kd h=>exact .inl ⟨na (λ_ _ _ x=>x.1) h hl,nofun⟩
 | anch h=>exact .inl ⟨na hA h hl,nofun⟩
 | w1 h=>exact .inl ⟨na (λ_ _ _ x=>x.1) h hl,nofun⟩
 | w2 h=>exact .inl ⟨na (λ_ _ _ x=>x.1) h hl,nofun⟩
 | Sy h=>exact .inl ⟨na (λ_ _ _ x=>x.1) h hl,nofun⟩
 | w3 h=>exact .inl ⟨na (λ_ _ _ x=>x.1) h hl,nofun⟩
 | blk h h1 h2=>exact .inr ⟨rfl,h2,rfl⟩
 | w4 h=>exact .inl ⟨na (λ_ _ _ x=>x.1) h hl,nofun⟩
 | ke h=>exact .inl ⟨na (λ_ _ _ x=>x.1) h hl,nofun⟩
 | acq h=>exact .inl ⟨na (λ_ _ _ x=>x.1) h hl,nofun⟩
theorem MS.bound(h:MS C ty Wg Ch n oU ff Old Kp Fin ij tag j mr d S g w):j+ConcN.pend tag.ct<=n:=by
 cases h <;> simp only [Tg.ct,ConcN.pend] <;> (try simp) <;> omega
theorem MS.wokenBy(hA: ∀S g w,ij S g w->g.status= .running)(h:MS C ty Wg Ch n oU ff Old Kp Fin ij tag j mr d S g w)(hr:Ry (j9 ty Wg) (λb=>S b\/ff b) w w₁)(a a':Goroutine):
  ∃tag' Ee,MS C ty Wg Ch n oU ff Old Kp Fin ij tag' j Ee d S (woken C a a' w₁ g) w₁/\(tag'=tag\/(tag= .blk/\tag'= .w3))/\(mayWake C a=true->a'.status= .running->tag'≠ .blk):=by
 have h':=h.rely hr;unfold Go.Conc.woken;split
 ·rcases h'.status hA hr.iv with ⟨hs,j0⟩ | ⟨_,_,rfl⟩
  ·exact ⟨tag,mr,by rw [again_running _ (.inl hs)];exact h', .inl rfl,λ_ _=>j0⟩
  ·cases h' with
   | blk hb h1 h2=>exact ⟨.w3,(1,_),by rw [Go.ConcR.again_blocked h1 h2];exact .w3 hb, .inr ⟨rfl,rfl⟩,λ_ _=>nofun⟩
 ·rename_i hc;exact ⟨tag,mr,h', .inl rfl,λh1 h2=>absurd (by simp [h1,h2]) hc⟩
end
end Go.Cx
namespace Go.Cx
open Go Go.Conc
open Go.ConcR (KK WgAt stA smA rd wr mk Payload DC0 Bk)
open Go.ConcN (WgLive Mode WD cnt Vc CTag upd sumTo upd_same upd_ne ShN RelBy get_map_set get_map_set_same)
structure Cj where
 stage:Nat
 rk:Rk
 deaf:Nat
 S:Nat->Prop
 v:Value
 P:Nat->Prop
 Z:Nat->Prop
def zg(K0 j:Nat)(k:Nat):Prop:=K0<k/\k<=K0+j
def Eb(K0 j:Nat)(D:Nat->Cj)(k:Nat):Prop:=zg K0 j k/\7<=(D (k - K0 - 1)).stage
def F7(K0:Nat)(D:Nat->Cj)(k:Nat):Nat->Prop:=(D (k - K0 - 1)).S
def Ti(K0:Nat)(X:Nat->Wx)(k:Nat):Nat->Prop:=(X (k - K0 - 1)).Ro
structure Fx where
 C:Program
 ty:TypeId
 Wg:Nat
 Ch:Nat
 n:Nat
 K0:Nat
 oU:Nat->Value->(Nat->Prop)->World->Prop
 ff:Nat->Prop
 Fin:(Nat->Prop)->Goroutine->World->Prop
 ij:(Nat->Prop)->Goroutine->World->Prop
 cX:Loc->Prop
 WB:World
 T0:Nat
def Fx.Fr(F:Fx)(b:Nat):Prop:=F.WB.heap.size<=b/\b≠F.Wg/\b≠F.Ch
def Fx.Old(F:Fx)(b:Nat):Prop:=b<F.WB.heap.size/\ ∀l,iM l b-> ¬F.cX l
def Fx.Kp(F:Fx)(w:World):Prop:= ∀b,b<F.WB.heap.size->w.heap[b]? =F.WB.heap[b]?
section
variable[Payload](F:Fx)
abbrev Fx.WS(x:Wx)(i s:Nat)(rk:Rk)(d:Nat)(S:Nat->Prop)(g:Goroutine)(w:World):Prop:=Go.Cx.WS F.C F.ty F.Wg F.Ch F.oU x i s rk d S g w
abbrev Fx.MS(tag:Tg)(j:Nat)(mr:Nat×Rk)(d:Nat)(S:Nat->Prop)(g:Goroutine)(w:World):Prop:=Go.Cx.MS F.C F.ty F.Wg F.Ch F.n F.oU F.ff F.Old F.Kp F.Fin F.ij tag j mr d S g w
structure Sep(j sz:Nat)(X:Nat->Wx)(D:Nat->Cj)(S0:Nat->Prop):Prop where
 sB: ∀i,i<j-> ∀b,(D i).S b->F.Fr b/\b<sz/\ ¬S0 b/\ ¬F.ff b
 sS: ∀i i',i<j->i'<j-> ∀b,(D i).S b->(D i').S b->i=i'
 sR: ∀i i',i<j->i'<j-> ∀b,(D i).S b-> ¬(X i').Ro b
 rB: ∀i,i<j-> ∀b,(X i).Ro b->b<sz/\b≠F.Wg/\b≠F.Ch/\ ¬S0 b/\(b<F.WB.heap.size-> ∀l,iM l b-> ¬F.cX l)
 nR: ∀i,i<j->(X i).Ro (X i).bn/\F.Fr (X i).bn/\ ¬F.ff (X i).bn
 nn: ∀i i',i<j->i'<j->(X i').Ro (X i).bn->i=i'
 s0: ∀b,S0 b->F.Fr b/\b<sz/\ ¬F.ff b
 r0: ∀b,F.ff b->F.Fr b/\b<sz
structure Cm(j:Nat)(gs:Array Goroutine)(w:World)(t:Trace)(X:Nat->Wx)(D:Nat->Cj)(q:Nat->Nat)(d0:Nat)(S0:Nat->Prop)(od:List Nat):Prop where
 size:gs.size=F.K0+1+j
 lv: ∀k,1<=k->k<=F.K0-> ∃g,gs[k]? =some g/\QuitsD F.C (q k) (Deaf t k) g
 wk: ∀i,i<j-> ∃g,gs[F.K0+1+i]? =some g/\F.WS (X i) i (D i).stage (D i).rk (D i).deaf (D i).P g w
 ti:TI (ShN F.Wg) F.cX (zg F.K0 j) (Eb F.K0 j D) (F7 F.K0 D) (Ti F.K0 X) w.heap.size (F.K0+j) t
 ho:HO (zg F.K0 j) t
 norel: ∀i,F.T0<=i->t.act? i≠some (.mark (.release (stA F.Wg)))
 Ot:F.T0<=t.size
 deaf0:Deaf t 0=d0
 deafW: ∀i,i<j->Deaf t (F.K0+1+i)=(D i).deaf
 rel: ∀i,i<j->(D i).stage<=6-> ∃r,RelBy (stA F.Wg) t (F.K0+1+i) r/\F.T0<=r
 vv: ∀l b,F.cX l->iM l b->b<F.WB.heap.size
 sep:Sep F j w.heap.size X D S0
 pz: ∀i,i<j->(∀b,(D i).P b->(D i).S b)/\((D i).stage<=8-> ∀b,(D i).Z b->(D i).S b/\ ¬(D i).P b)
 res: ∀i,i<j->(D i).stage<=8->F.oU i (D i).v (D i).Z w
 chan: ∃s r tm,w.heap[F.Ch]? =some (.chan F.n (od.map λi=>(D i).v).toArray false s r tm)
 nd:od.Nodup
 od: ∀i,i∈od↔i<j/\(D i).stage<=8
 jn:j<=F.n
 cw:F.Ch≠F.Wg/\F.WB.heap.size<=F.Wg/\F.WB.heap.size<=F.Ch/\F.Wg<w.heap.size
 tape:w.tape=F.WB.tape
 os:w.os=F.WB.os
 output:w.output=F.WB.output
 keep: ∀b,b<F.WB.heap.size->w.heap[b]? =F.WB.heap[b]?
def lE:Prop:= ∀i v S w w₁,F.oU i v S w->(∀b,S b\/b<F.WB.heap.size->w₁.heap[b]? =w.heap[b]?)->F.oU i v S w₁
end
section
variable[Payload]{F:Fx}{j:Nat}{gs:Array Goroutine}{w w':World}{t:Trace}{X:Nat->Wx}{D:Nat->Cj}{q:Nat->Nat}{d0:Nat}{S0:Nat->Prop}{od:List Nat}{sz:Nat}
omit [Payload] in
theorem jh{K0 j k:Nat}:zg K0 j k↔ ∃i,i<j/\k=K0+1+i:=⟨λ⟨h1,h2⟩=>⟨k - K0 - 1,by omega,by omega⟩,λ⟨i,h1,h2⟩=>⟨by omega,by omega⟩⟩
omit [Payload] in
theorem ix(K0 i:Nat):K0+1+i - K0 - 1=i:=by omega
omit [Payload] in
theorem jX{Wg:Nat}{l:Loc}{b:Nat}(h:ShN Wg l)(hb:iM l b):b=Wg:=by
 obtain ⟨a,rfl,h⟩:=h;exact hb.symm.trans h
omit [Payload] in
theorem Sep.apr{L:Nat->Prop}(h:Sep F j sz X D S0)(vv: ∀l b,F.cX l->iM l b->b<F.WB.heap.size)(hL: ∀k,L k->zg F.K0 j k):Apr (ShN F.Wg) F.cX (zg F.K0 j) L (F7 F.K0 D) (Ti F.K0 X):=by
 refine ⟨hL,λk k' b hk qM h1 h2=> ?_,λk k' b hk qM h1 h2=> ?_,λk l hk hl=> ?_,λk l hk hl=> ?_⟩
 ·obtain ⟨i,hi,rfl⟩:=jh.1 hk;obtain ⟨i',fU,rfl⟩:=jh.1 qM;rw [F7,ix] at h1 h2;rw [h.sS i i' hi fU b h1 h2]
 ·obtain ⟨i,hi,rfl⟩:=jh.1 hk;obtain ⟨i',fU,rfl⟩:=jh.1 qM;rw [F7,ix] at h1;rw [Ti,ix] at h2;exact h.sR i i' hi fU b h1 h2
 ·obtain ⟨i,hi,rfl⟩:=jh.1 hk;obtain ⟨b,h1,h2⟩:=hl;rw [F7,ix] at h2;obtain ⟨⟨f1,f2,f3⟩,_⟩:=h.sB i hi b h2;exact ⟨λhs=>f2 (jX hs h1),λhb=>by have:=vv l b hb h1;omega⟩
 ·obtain ⟨i,hi,rfl⟩:=jh.1 hk;obtain ⟨b,h1,h2⟩:=hl;rw [Ti,ix] at h2;obtain ⟨f1,f2,f3,f4,f5⟩:=h.rB i hi b h2;exact ⟨λhs=>f2 (jX hs h1),λhb=>f5 (vv l b hb h1) l h1 hb⟩
omit [Payload] in
theorem rQ{T0:Nat}{a:Addr}{t u:Trace}(h: ∀i,T0<=i->t.act? i≠some (.mark (.release a)))(hu: ∀op∈u,op.act≠ .mark (.release a)): ∀i,T0<=i->(t++u).act? i≠some (.mark (.release a)):=by
 intro i hi e;rcases Nat.lt_or_ge i t.size with bG | hge
 ·rw [act?_old bG] at e;exact h i hi e
 ·obtain ⟨op,ho,ha⟩:=qbi.1 e;rcases getElem?_append_cases ho with ⟨h1,_⟩ | ⟨_,h2⟩
  ·omega
  ·exact hu op h2 ha
theorem Cm.at(hR:lE F)(h:Cm F j gs w t X D q d0 S0 od)(hl:j9 F.ty F.Wg w)(d:Nat):Cm F j gs (w.at d) t X D q d0 S0 od where
 size:=h.size
 lv:=h.lv
 wk:=λi hi=>let ⟨g,hg,hs⟩:=h.wk i hi;⟨g,hg,hs.rely (h.sep.nR i hi).1 ⟨λ_ _=>rfl,qa3 _,hl⟩⟩
 ti:=h.ti
 ho:=h.ho
 norel:=h.norel
 Ot:=h.Ot
 deaf0:=h.deaf0
 deafW:=h.deafW
 rel:=h.rel
 vv:=h.vv
 sep:=h.sep
 pz:=h.pz
 res:=λi hi hs=>hR _ _ _ _ _ (h.res i hi hs) λ_ _=>rfl
 chan:=h.chan
 nd:=h.nd
 od:=h.od
 jn:=h.jn
 cw:=h.cw
 tape:=h.tape
 os:=h.os
 output:=h.output
 keep:=h.keep
structure Tw(T:Nat->Prop)(w w':World):Prop where
 tape:w'.tape=w.tape
 os:w'.os=w.os
 output:w'.output=w.output
 size:w.heap.size<=w'.heap.size
 blk: ∀b,b<w.heap.size-> ¬T b->w'.heap[b]? =w.heap[b]?
omit [Payload] in
theorem Tw.refl(T:Nat->Prop)(w:World):Tw T w w:=⟨rfl,rfl,rfl,qa3 _,λ_ _ _=>rfl⟩
omit [Payload] in
theorem Tw.mono{T T':Nat->Prop}(h:Tw T w w')(k: ∀b,T b->T' b):Tw T' w w':=⟨h.tape,h.os,h.output,h.size,λb hb hn=>h.blk b hb λq=>hn (k b q)⟩
omit [Payload] in
theorem Ow.tw{S Ro:Nat->Prop}{es:Array Event}(h:Ow S Ro w w' es):Tw S w w':=⟨h.tape,h.os,h.output,h.size,h.blk⟩
omit [Payload] in
theorem Tw.Sz{c:Nat}(h:Conc.Aside c w w'):Tw (·=c) w w':=⟨h.tape,h.os,h.output,qav h.size.symm,λb _ hn=>h.block b hn⟩
theorem Cm.zh(h:Cm F j gs w t X D q d0 S0 od){T:Nat->Prop}(hT:Tw T w w')(hl:j9 F.ty F.Wg w'){i:Nat}(hi:i<j)(hn: ∀b,(D i).S b\/(X i).Ro b-> ¬T b){g:Goroutine}(hw:F.WS (X i) i (D i).stage (D i).rk (D i).deaf (D i).P g w):F.WS (X i) i (D i).stage (D i).rk (D i).deaf (D i).P g w':=
 hw.rely (h.sep.nR i hi).1 ⟨λb hb=>hT.blk b (hb.elim (λhb=>(h.sep.sB i hi b ((h.pz i hi).1 b hb)).2.1) λhb=>(h.sep.rB i hi b hb).1) (hn b (hb.imp ((h.pz i hi).1 b) id)),hT.size,hl⟩
theorem Cm.leave(h:Cm F j gs w t X D q d0 S0 od)(hl:j9 F.ty F.Wg w){a:Goroutine}(h0:gs[0]? =some a){k:Nat}(hk:1<=k)(qM:k<=F.K0){y:Goroutine}(hy:gs[k]? =some y)(GR:y.status= .running){sl:Option (Nat×Nat)}:
  ∃y' es n,runT F.C (crowd gs w sl) k=(.next (crowd ((gs.map (woken F.C y y' w)).setIfInBounds k y') w sl),MemOp.ofEvents k y.frame.fn y.frame.place es)/\q k=n+1/\
   Cm F j ((gs.map (woken F.C y y' w)).setIfInBounds k y') w (t++MemOp.ofEvents k y.frame.fn y.frame.place es) X D (upd q k n) d0 S0 od:=by
 have bG:=(qa1.1 hy).1;obtain ⟨y',Yb,hq⟩:=h.lv k hk qM;rw [hy] at Yb;cases Yb;obtain ⟨n,hn⟩: ∃n,q k=n+1:=by
  cases hqk:q k with
  | zero=>rw [hqk] at hq;rw [hq.1] at GR;cases GR
  | succ n=>exact ⟨n,rfl⟩
 rw [hn] at hq;rcases hq with ⟨hf,_⟩ | ⟨_,g',es,hm,fb,TU⟩
 ·rw [hf] at GR;cases GR
 have j0:(k==0)=false:=by simp;omega
 have bM:=runT_crowd_go (P:=F.C) (sl:=sl) hy (by rw [j0];exact fb w);have GP: ∀op∈MemOp.ofEvents k y.frame.fn y.frame.place es,op.act.touch? =none:=λop cM=>by
  obtain ⟨e,he,ha⟩:=fA cM;rw [ha];exact vQ (hm e he)
 refine ⟨g',es,n,bM,hn, ?_⟩;refine ⟨by simp [h.size],λj' h1 h2=> ?_,λi hi=> ?_, ?_, ?_,rQ h.norel λop cM e=> ?_,by simp;have:=h.Ot;omega, ?_,λi hi=> ?_,λi hi hs=> ?_,h.vv,h.sep,h.pz,h.res,h.chan,h.nd,h.od,h.jn,h.cw,h.tape,h.os,h.output,h.keep⟩
 ·by_cases e:j'=k
  ·subst e;refine ⟨g',get_map_set_same _ _ _ bG, ?_⟩;rw [upd_same,Deaf_own];exact TU
  ·obtain ⟨z,hz,wW⟩:=h.lv j' h1 h2;refine ⟨z, ?_, ?_⟩
   ·rw [get_map_set _ _ _ _ (λq=>e q.symm),hz,qac,woken_quitsD wW]
   ·rw [upd_ne _ _ e,Deaf_other t (qbo e) _ bP];exact wW
 ·obtain ⟨z,hz,OM⟩:=h.wk i hi;exact ⟨z,by rw [get_map_set _ _ _ _ (by omega),hz,qac,OM.woken hl],OM⟩
 ·exact h.ti.app bP (by omega) (λq=>by have:=q.1.1;omega) (qa3 _) (λ_ _ h=>h) (λ_ _ h=> .inl h) (h.sep.apr h.vv λk q=>q.1) (λop cM x hx=>by rw [GP op cM] at hx;cases hx) λop cM x hx=>by rw [GP op cM] at hx;cases hx
 ·exact h.ho.app bP (.inr (.inr (uc GP)))
 ·obtain ⟨ev,sU,ha⟩:=fA cM;rw [ha] at e;obtain ⟨⟨l,w1,s1⟩,vJ⟩: ∃x,x=ev:=⟨_,rfl⟩;subst vJ;have Tt:=hm _ sU;cases l with
  | mark m=>cases m <;> first | (simp [MemAct.ofEvent] at e;done) | cases Tt
  | _=>cases Tt
 ·rw [Deaf_other t (by omega) _ bP];exact h.deaf0
 ·rw [Deaf_other t (by omega) _ bP];exact h.deafW i hi
 ·obtain ⟨r,hr,hT⟩:=h.rel i hi hs;exact ⟨r,hr.appOther bP (by omega),hT⟩
def SA(F:Fx)(Ro S':Nat->Prop)(lv:Prop)(Wv:Nat)(e:Event):Prop:=
 (∀x,(MemAct.ofEvent e).touch? =some x->(ShN F.Wg x.loc/\x.kind≠ .plain/\x.kind≠ .said)\/(lv/\x.kind= .plain/\((u9 S' x.loc)\/(u9 Ro x.loc/\x.write=false))))/\MemAct.ofEvent e≠ .mark (.release (stA F.Wg))
theorem Cm.stepW(hR:lE F)(h:Cm F j gs w t X D q d0 S0 od)(hl:j9 F.ty F.Wg w){i:Nat}(hi:i<j){g g':Goroutine}{fn:FuncId}{pos:String}{es:Array Event}{d:Cj}
  (qv:Tw (λb=>(D i).P b\/b=F.Wg\/b=(X i).bn) w w') (qI:j9 F.ty F.Wg w') (hS: ∀b,d.S b↔nw (D i).S w w' b) (hP: ∀b,d.P b->nw (D i).P w w' b) (hZ:d.Z=(D i).Z)
  (Eh:F.WS (X i) i d.stage d.rk d.deaf d.P g' w') (sU: ∀e∈es,SA F (X i).Ro (nw (D i).P w w') (7<=(D i).stage) w'.heap.size e)
  (SB:deafBehind (D i).deaf es=d.deaf) (fb:d.stage<=(D i).stage) (h8:d.stage<=8↔(D i).stage<=8) (hv:d.v=(D i).v)
  (fg:d.stage<=6-> ∃r,RelBy (stA F.Wg) (t++MemOp.ofEvents (F.K0+1+i) fn pos es) (F.K0+1+i) r/\F.T0<=r):
  Cm F j ((gs.map (woken F.C g g' w')).setIfInBounds (F.K0+1+i) g') w' (t++MemOp.ofEvents (F.K0+1+i) fn pos es) X (upd D i d) q d0 S0 od:=by
 have hPS:=(h.pz i hi).1;have hT:Tw (λb=>(D i).S b\/b=F.Wg\/b=(X i).bn) w w':=qv.mono λb hb=>hb.imp (hPS b) id;have hT0: ∀b,((D i).S b\/b=F.Wg\/b=(X i).bn)->F.WB.heap.size<=b:=λb hb=>by
  rcases hb with hb | rfl | rfl
  ·exact (h.sep.sB i hi b hb).1.1
  ·exact h.cw.2.1
  ·exact (h.sep.nR i hi).2.1.1
 have Et: ¬((D i).S F.Ch\/F.Ch=F.Wg\/F.Ch=(X i).bn):=by
  rintro (hb | hb | hb)
  ·exact (h.sep.sB i hi _ hb).1.2.2 rfl
  ·exact h.cw.1 hb
  ·exact (h.sep.nR i hi).2.1.2.2 hb.symm
 have mo:F.WB.heap.size<=w.heap.size:=by
  apply qa7;intro hn;have bG:w.heap.size<F.WB.heap.size:=Nat.lt_of_not_le hn;have h1:=h.keep _ bG;rw [qbb (qa3 _),Array.getElem?_eq_getElem bG] at h1;cases h1
 have F8:Sep F j w'.heap.size X (upd D i d) S0:=by
  have IL: ∀b,d.S b->(D i).S b\/w.heap.size<=b/\b<w'.heap.size:=λb hb=>(hS b).1 hb;refine ⟨λi' fU b hb=> ?_,λi1 i2 h1 h2 b hb fT=> ?_,λi1 i2 h1 h2 b hb=> ?_,λi' fU b hb=>let ⟨a1,a2⟩:=h.sep.rB i' fU b hb;⟨qa2 a1 hT.size,a2⟩,h.sep.nR,h.sep.nn,λb hb=>let ⟨a1,a2,a3⟩:=h.sep.s0 b hb;⟨a1,qa2 a2 hT.size,a3⟩,λb hb=>let ⟨a1,a2⟩:=h.sep.r0 b hb;⟨a1,qa2 a2 hT.size⟩⟩
  ·by_cases e:i'=i
   ·subst e;rw [upd_same] at hb;rcases IL b hb with hb | ⟨b1,b2⟩
    ·obtain ⟨a1,a2,a3,a4⟩:=h.sep.sB i' hi b hb;exact ⟨a1,qa2 a2 hT.size,a3,a4⟩
    ·refine ⟨⟨by omega,λe=> ?_,λe=> ?_⟩,b2,λq=> ?_,λq=> ?_⟩
     ·have:=h.cw.2.2.2;omega
     ·obtain ⟨s,r,tm,hc⟩:=h.chan;have:=(qa1.1 hc).1;omega
     ·have:=(h.sep.s0 b q).2.1;omega
     ·have:=(h.sep.r0 b q).2;omega
   ·rw [upd_ne D _ e] at hb;obtain ⟨a1,a2,a3,a4⟩:=h.sep.sB i' fU b hb;exact ⟨a1,qa2 a2 hT.size,a3,a4⟩
  ·by_cases e1:i1=i
   ·by_cases e2:i2=i
    ·rw [e1,e2]
    ·subst e1;rw [upd_same] at hb;rw [upd_ne D _ e2] at fT;rcases IL b hb with hb | ⟨b1,b2⟩
     ·exact h.sep.sS i1 i2 h1 h2 b hb fT
     ·have:=(h.sep.sB i2 h2 b fT).2.1;omega
   ·by_cases e2:i2=i
    ·subst e2;rw [upd_same] at fT;rw [upd_ne D _ e1] at hb;rcases IL b fT with fT | ⟨b1,b2⟩
     ·exact h.sep.sS i1 i2 h1 h2 b hb fT
     ·have:=(h.sep.sB i1 h1 b hb).2.1;omega
    ·rw [upd_ne D _ e1] at hb;rw [upd_ne D _ e2] at fT;exact h.sep.sS i1 i2 h1 h2 b hb fT
  ·by_cases e1:i1=i
   ·subst e1;rw [upd_same] at hb;rcases IL b hb with hb | ⟨b1,b2⟩
    ·exact h.sep.sR i1 i2 h1 h2 b hb
    ·intro q;have:=(h.sep.rB i2 h2 b q).1;omega
   ·rw [upd_ne D _ e1] at hb;exact h.sep.sR i1 i2 h1 h2 b hb
 have IB:zg F.K0 j (F.K0+1+i):=jh.2 ⟨i,hi,rfl⟩;have aaF: ∀k,Eb F.K0 j (upd D i d) k->Eb F.K0 j D k:=λk ⟨h1,h2⟩=>⟨h1,by
  by_cases e:k - F.K0 - 1=i
  ·rw [e,upd_same] at h2;rw [e];omega
  ·rw [upd_ne D _ e] at h2;exact h2⟩
 refine ⟨by simp [h.size],λk h1 h2=> ?_,λi' fU=> ?_, ?_, ?_,rQ h.norel λop cM e=> ?_,by simp;have:=h.Ot;omega, ?_,λi' fU=> ?_,λi' fU hs=> ?_,h.vv,F8,λi' fU=> ?_,λi' fU hs=> ?_, ?_,h.nd,λi'=> ?_,h.jn,⟨h.cw.1,h.cw.2.1,h.cw.2.2.1,qa2 h.cw.2.2.2 hT.size⟩,hT.tape.trans h.tape,hT.os.trans h.os,hT.output.trans h.output,λb hb=> ?_⟩
 ·obtain ⟨z,hz,wW⟩:=h.lv k h1 h2;refine ⟨z, ?_, ?_⟩
  ·rw [get_map_set _ _ _ _ (by omega),hz,qac,woken_quitsD wW]
  ·rw [Deaf_other t (by omega) _ bP];exact wW
 ·by_cases e:i'=i
  ·subst e;exact ⟨g',get_map_set_same _ _ _ (by rw [h.size];omega),by rw [upd_same];exact Eh⟩
  ·obtain ⟨z,hz,OM⟩:=h.wk i' fU;refine ⟨z,by rw [get_map_set _ _ _ _ (by omega),hz,qac,OM.woken hl], ?_⟩;rw [upd_ne D _ e];refine h.zh hT qI fU (λb hb fT=> ?_) OM;rcases fT with fT | rfl | rfl
   ·rcases hb with hb | hb
    ·exact e (h.sep.sS _ _ fU hi b hb fT)
    ·exact h.sep.sR _ _ hi fU b fT hb
   ·rcases hb with hb | hb
    ·exact (h.sep.sB i' fU _ hb).1.2.1 rfl
    ·exact (h.sep.rB i' fU _ hb).2.1 rfl
   ·rcases hb with hb | hb
    ·exact h.sep.sR _ _ fU hi _ hb (h.sep.nR i hi).1
    ·exact e (h.sep.nn i i' hi fU hb).symm
 ·refine (TI.app (S':=F7 F.K0 (upd D i d)) h.ti (g:=F.K0+1+i) bP (by omega) (λq=>by have:=q.1.1;omega) hT.size (λk b hb=> ?_) (λk b hb=> ?_) (F8.apr h.vv λk q=>q.1) (λop cM x hx b hb=> ?_) λop cM x hx=> ?_).less aaF
  ·unfold F7 at hb ⊢;by_cases e:k - F.K0 - 1=i
   ·rw [e] at hb ⊢;rw [upd_same];exact (hS b).2 (.inl hb)
   ·rw [upd_ne D _ e];exact hb
  ·unfold F7 at hb ⊢;by_cases e:k - F.K0 - 1=i
   ·rw [e,upd_same] at hb;rw [e];rcases (hS b).1 hb with hb | hb
    ·exact .inl hb
    ·exact .inr hb.1
   ·rw [upd_ne D _ e] at hb;exact .inl hb
  ·obtain ⟨ev,he,ha⟩:=fA cM;rw [ha] at hx;rcases (sU ev he).1 x hx with ⟨h1,_⟩ | ⟨_,_,⟨c,h1,h2⟩ | ⟨⟨c,h1,h2⟩,_⟩⟩
   ·rw [jX h1 hb];exact qa2 h.cw.2.2.2 hT.size
   ·have:=iM.inj h1 hb;subst this;rcases h2 with h2 | h2
    ·exact qa2 (h.sep.sB i hi c (hPS c h2)).2.1 hT.size
    ·exact h2.2
   ·have:=iM.inj h1 hb;subst this;exact qa2 (h.sep.rB i hi c h2).1 hT.size
  ·obtain ⟨ev,he,ha⟩:=fA cM;rw [ha] at hx;rcases (sU ev he).1 x hx with ⟨h1,h2,h3⟩ | ⟨h1,h2,h3 | ⟨h3,h4⟩⟩
   ·exact .inl ⟨h1,h2,λe=>absurd e h3⟩
   ·exact .inr (.inr (.inl ⟨⟨IB,by rw [ix];exact h1⟩,h2,by rw [F7,ix,upd_same];exact let ⟨c,r1,r2⟩:=h3;⟨c,r1,(hS c).2 (r2.imp (hPS c) id)⟩⟩))
   ·exact .inr (.inr (.inr ⟨⟨IB,by rw [ix];exact h1⟩,h2,by rw [Ti,ix];exact h3,h4⟩))
 ·exact h.ho.app bP (.inr (.inl IB))
 ·obtain ⟨ev,he,ha⟩:=fA cM;rw [ha] at e;exact (sU ev he).2 e
 ·rw [Deaf_other t (by omega) _ bP];exact h.deaf0
 ·by_cases e:i'=i
  ·subst e;rw [Deaf_own,h.deafW i' fU,upd_same];exact SB
  ·rw [Deaf_other t (by omega) _ bP,h.deafW i' fU,upd_ne D _ e]
 ·by_cases e:i'=i
  ·subst e;rw [upd_same] at hs;exact fg hs
  ·rw [upd_ne D _ e] at hs;obtain ⟨r,hr,hT⟩:=h.rel i' fU hs;exact ⟨r,hr.appOther bP (by omega),hT⟩
 ·by_cases e:i'=i
  ·subst e;rw [upd_same];refine ⟨λb hb=>(hS b).2 ((hP b hb).imp (hPS b) id),λhs b hb=> ?_⟩;rw [hZ] at hb;obtain ⟨z1,z2⟩:=(h.pz i' fU).2 (h8.1 hs) b hb;refine ⟨(hS b).2 (.inl z1),λhp=> ?_⟩;rcases hP b hp with hp | hp
   ·exact z2 hp
   ·have:=(h.sep.sB i' fU b z1).2.1;omega
  ·rw [upd_ne D _ e];exact h.pz i' fU
 ·by_cases e:i'=i
  ·subst e;rw [upd_same] at hs ⊢;rw [hv,hZ];have hz:=(h.pz i' fU).2 (h8.1 hs);refine hR _ _ _ _ _ (h.res i' fU (h8.1 hs)) λb hb=>qv.blk b (hb.elim (λhb=>(h.sep.sB i' fU b (hz b hb).1).2.1) λhb=>by omega) λfT=> ?_;rcases hb with hb | hb
   ·rcases fT with fT | rfl | rfl
    ·exact (hz b hb).2 fT
    ·exact (h.sep.sB i' fU _ (hz _ hb).1).1.2.1 rfl
    ·exact h.sep.sR _ _ fU fU _ (hz _ hb).1 (h.sep.nR i' fU).1
   ·have:=hT0 b (fT.imp (hPS b) id);omega
  ·rw [upd_ne D _ e] at hs ⊢;refine hR _ _ _ _ _ (h.res i' fU hs) λb hb=>hT.blk b (hb.elim (λhb=>(h.sep.sB i' fU b (((h.pz i' fU).2 hs) b hb).1).2.1) λhb=>by omega) λfT=> ?_;rcases hb with hb | hb
   ·replace hb:=(((h.pz i' fU).2 hs) b hb).1;rcases fT with fT | rfl | rfl
    ·exact e (h.sep.sS _ _ fU hi b hb fT)
    ·exact (h.sep.sB i' fU _ hb).1.2.1 rfl
    ·exact h.sep.sR _ _ fU hi _ hb (h.sep.nR i hi).1
   ·have:=hT0 b fT;omega
 ·obtain ⟨s,r,tm,hc⟩:=h.chan;refine ⟨s,r,tm, ?_⟩;rw [hT.blk _ (qa1.1 hc).1 Et,hc];congr 3;refine qca λi' fU=> ?_;by_cases e:i'=i
  ·subst e;rw [upd_same,hv]
  ·rw [upd_ne D _ e]
 ·rw [h.od i'];by_cases e:i'=i
  ·subst e;rw [upd_same,h8]
  ·rw [upd_ne D _ e]
 ·rw [←h.keep b hb];exact hT.blk b (by omega) λfT=>by have:=hT0 b fT;omega
end
end Go.Cx
namespace Go.Cx
open Go Go.Conc
open Go.ConcR (KK WgAt stA smA rd wr mk Payload DC0 Bk)
open Go.ConcN (WgLive Mode WD cnt Vc CTag upd sumTo upd_same upd_ne ShN RelBy get_map_set get_map_set_same)
section
variable[Payload]{F:Fx}{j:Nat}{gs:Array Goroutine}{w w':World}{t:Trace}{X:Nat->Wx}{D:Nat->Cj}{q:Nat->Nat}{d0:Nat}{S0:Nat->Prop}{od:List Nat}{sz:Nat}
theorem Cm.C5(h:Cm F j gs w t X D q d0 S0 od):F.WB.heap.size<=w.heap.size:=by
 apply qa7;intro hn;have bG:w.heap.size<F.WB.heap.size:=Nat.lt_of_not_le hn;have h1:=h.keep _ bG;rw [qbb (qa3 _),Array.getElem?_eq_getElem bG] at h1;cases h1
theorem Cm.aaG(h:Cm F j gs w t X D q d0 S0 od):F.Ch<w.heap.size:=by
 obtain ⟨s,r,tm,hc⟩:=h.chan;exact (qa1.1 hc).1
def KR(F:Fx)(S':Nat->Prop)(e:Event):Prop:=
 (∀x,(MemAct.ofEvent e).touch? =some x->(ShN F.Wg x.loc/\x.kind≠ .plain)\/(u9 S' x.loc)\/(u9 F.ff x.loc/\x.write=false))/\MemAct.ofEvent e≠ .mark (.release (stA F.Wg))
theorem Cm.step0(hR:lE F)(h:Cm F j gs w t X D q d0 S0 od)(hl:j9 F.ty F.Wg w){a a':Goroutine}{fn:FuncId}{pos:String}{es:Array Event}{ON:Nat->Prop}(ha:gs[0]? =some a)
  (hT:Tw (λb=>S0 b\/b=F.Wg) w w') (qI:j9 F.ty F.Wg w') (hS: ∀b,ON b->nw S0 w w' b) (sU: ∀e∈es,KR F (nw S0 w w') e):
  Cm F j ((gs.map (woken F.C a a' w')).setIfInBounds 0 a') w' (t++MemOp.ofEvents 0 fn pos es) X D q (deafBehind d0 es) ON od:=by
 have mo:=h.C5;have Et: ¬(S0 F.Ch\/F.Ch=F.Wg):=by
  rintro (hb | hb)
  ·exact (h.sep.s0 _ hb).1.2.2 rfl
  ·exact h.cw.1 hb
 have WR: ∀b,nw S0 w w' b->F.Fr b/\b<w'.heap.size/\ ¬F.ff b:=λb hb=>by
  rcases hb with hb | ⟨b1,b2⟩
  ·obtain ⟨a1,a2,a3⟩:=h.sep.s0 b hb;exact ⟨a1,qa2 a2 hT.size,a3⟩
  ·refine ⟨⟨by omega,λe=> ?_,λe=> ?_⟩,b2,λq=> ?_⟩
   ·have:=h.cw.2.2.2;omega
   ·have:=h.aaG;omega
   ·have:=(h.sep.r0 b q).2;omega
 have hnS: ∀i,i<j-> ∀b,nw S0 w w' b-> ¬(D i).S b:=λi hi b hb fT=>by
  rcases hb with hb | ⟨b1,_⟩
  ·exact (h.sep.sB i hi b fT).2.2.1 hb
  ·have:=(h.sep.sB i hi b fT).2.1;omega
 have hnR: ∀i,i<j-> ∀b,nw S0 w w' b-> ¬(X i).Ro b:=λi hi b hb fT=>by
  rcases hb with hb | ⟨b1,_⟩
  ·exact (h.sep.rB i hi b fT).2.2.2.1 hb
  ·have:=(h.sep.rB i hi b fT).1;omega
 have F8:Sep F j w'.heap.size X D ON:=
  ⟨λi hi b hb=>let ⟨a1,a2,a3,a4⟩:=h.sep.sB i hi b hb;⟨a1,qa2 a2 hT.size,λq=>hnS i hi b (hS b q) hb,a4⟩,h.sep.sS,h.sep.sR,
   λi hi b hb=>let ⟨a1,a2,a3,a4,a5⟩:=h.sep.rB i hi b hb;⟨qa2 a1 hT.size,a2,a3,λq=>hnR i hi b (hS b q) hb,a5⟩,h.sep.nR,h.sep.nn,λb hb=>WR b (hS b hb),
   λb hb=>let ⟨a1,a2⟩:=h.sep.r0 b hb;⟨a1,qa2 a2 hT.size⟩⟩
 refine ⟨by simp [h.size],λk h1 h2=> ?_,λi hi=> ?_, ?_,h.ho.app bP (.inl rfl),rQ h.norel λop cM e=> ?_,by simp;have:=h.Ot;omega,by rw [Deaf_own,h.deaf0],λi hi=>by rw [Deaf_other t (by omega) _ bP];exact h.deafW i hi,λi hi hs=> ?_,h.vv,F8,h.pz,λi hi hs=> ?_, ?_,h.nd,h.od,h.jn,⟨h.cw.1,h.cw.2.1,h.cw.2.2.1,qa2 h.cw.2.2.2 hT.size⟩,hT.tape.trans h.tape,hT.os.trans h.os,hT.output.trans h.output,λb hb=> ?_⟩
 ·obtain ⟨z,hz,wW⟩:=h.lv k h1 h2;refine ⟨z, ?_, ?_⟩
  ·rw [get_map_set _ _ _ _ (by omega),hz,qac,woken_quitsD wW]
  ·rw [Deaf_other t (by omega) _ bP];exact wW
 ·obtain ⟨z,hz,OM⟩:=h.wk i hi;refine ⟨z,by rw [get_map_set _ _ _ _ (by omega),hz,qac,OM.woken hl], ?_⟩;refine h.zh hT qI hi (λb hb fT=> ?_) OM;rcases fT with fT | rfl
  ·rcases hb with hb | hb
   ·exact (h.sep.sB i hi b hb).2.2.1 fT
   ·exact (h.sep.rB i hi b hb).2.2.2.1 fT
  ·rcases hb with hb | hb
   ·exact (h.sep.sB i hi _ hb).1.2.1 rfl
   ·exact (h.sep.rB i hi _ hb).2.1 rfl
 ·refine TI.app h.ti (g:=0) bP (by omega) (λq=>by have:=q.1.1;omega) hT.size (λk b hb=>hb) (λk b hb=> .inl hb) (F8.apr h.vv λk q=>q.1) (λop cM x hx b hb=> ?_) λop cM x hx=> ?_
  ·obtain ⟨ev,he,ha⟩:=fA cM;rw [ha] at hx;rcases (sU ev he).1 x hx with ⟨h1,_⟩ | ⟨c,h1,h2⟩ | ⟨⟨c,h1,h2⟩,_⟩
   ·rw [jX h1 hb];exact qa2 h.cw.2.2.2 hT.size
   ·have:=iM.inj h1 hb;subst this;exact (WR c h2).2.1
   ·have:=iM.inj h1 hb;subst this;exact qa2 (h.sep.r0 c h2).2 hT.size
  ·obtain ⟨ev,he,ha⟩:=fA cM;rw [ha] at hx;rcases (sU ev he).1 x hx with ⟨h1,h2⟩ | ⟨c,h1,h2⟩ | ⟨⟨c,h1,h2⟩,h3⟩
   ·exact .inl ⟨h1,h2,λ_=>rfl⟩
   ·refine .inr (.inl ⟨λhs=>(WR c h2).1.2.1 (jX hs h1),λhb=> ?_,rfl,λk hk qM=> ?_,λ_ k hk qM=> ?_⟩)
    ·have:=h.vv _ c hb h1;have:=(WR c h2).1.1;omega
    ·obtain ⟨i,hi,rfl⟩:=jh.1 hk;obtain ⟨c',r1,r2⟩:=qM;have:=iM.inj h1 r1;subst this;rw [F7,ix] at r2;exact hnS i hi c h2 r2
    ·obtain ⟨i,hi,rfl⟩:=jh.1 hk;obtain ⟨c',r1,r2⟩:=qM;have:=iM.inj h1 r1;subst this;rw [Ti,ix] at r2;exact hnR i hi c h2 r2
   ·refine .inr (.inl ⟨λhs=>(h.sep.r0 c h2).1.2.1 (jX hs h1),λhb=> ?_,rfl,λk hk qM=> ?_,λhw=>by rw [h3] at hw;cases hw⟩)
    ·have:=h.vv _ c hb h1;have:=(h.sep.r0 c h2).1.1;omega
    ·obtain ⟨i,hi,rfl⟩:=jh.1 hk;obtain ⟨c',r1,r2⟩:=qM;have:=iM.inj h1 r1;subst this;rw [F7,ix] at r2;exact (h.sep.sB i hi c r2).2.2.2 h2
 ·obtain ⟨ev,he,ha⟩:=fA cM;rw [ha] at e;exact (sU ev he).2 e
 ·obtain ⟨r,hr,hTr⟩:=h.rel i hi hs;exact ⟨r,hr.appOther bP (by omega),hTr⟩
 ·have hz:=(h.pz i hi).2 hs;refine hR _ _ _ _ _ (h.res i hi hs) λb hb=>hT.blk b (hb.elim (λhb=>(h.sep.sB i hi b (hz b hb).1).2.1) λhb=>by omega) λfT=> ?_;rcases hb with hb | hb
  ·replace hb:=(hz b hb).1;rcases fT with fT | rfl
   ·exact (h.sep.sB i hi b hb).2.2.1 fT
   ·exact (h.sep.sB i hi _ hb).1.2.1 rfl
  ·rcases fT with fT | rfl
   ·have:=(h.sep.s0 b fT).1.1;omega
   ·have:=h.cw.2.1;omega
 ·obtain ⟨s,r,tm,hc⟩:=h.chan;exact ⟨s,r,tm,by rw [hT.blk _ h.aaG Et,hc]⟩
 ·rw [←h.keep b hb];refine hT.blk b (by omega) λfT=> ?_;rcases fT with fT | rfl
  ·have:=(h.sep.s0 b fT).1.1;omega
  ·have:=h.cw.2.1;omega
theorem Cm.send(hR:lE F)(h:Cm F j gs w t X D q d0 S0 od)(hl:j9 F.ty F.Wg w){i:Nat}(hi:i<j){g':Goroutine}{u:Trace}{v:Value}{rk:Rk}(h9:(D i).stage=9)
  (hT:Tw (·=F.Ch) w w') (mo:w'.heap.size=w.heap.size) (aet: ∃s r tm,w'.heap[F.Ch]? =some (.chan F.n ((od.map λi=>(D i).v).toArray.push v) false s r tm)) (qI:j9 F.ty F.Wg w')
  (Eh:F.WS (X i) i 8 rk 0 (λ_=>False) g' w') (hd:(D i).deaf=0) (hu: ∀op∈u,op.g=F.K0+1+i/\op.act.touch? =none/\op.act≠ .mark (.release (stA F.Wg))/\op.act≠ .mark .disable/\op.act≠ .mark .enable) (cC:F.oU i v (D i).P w'):
  Cm F j (gs.setIfInBounds (F.K0+1+i) g') w' (t++u) X (upd D i ⟨8,rk,0,(D i).S,v,λ_=>False,(D i).P⟩) q d0 S0 (od++[i]):=by
 have hwb:=h.C5;have GH: ∀k,Deaf (t++u) k=Deaf t k:=λk=>ConcN.Deaf_still t k u λop cM=>⟨(hu op cM).2.2.2.1,(hu op cM).2.2.2.2⟩;have eS: ∀a,(upd D i ⟨8,rk,0,(D i).S,v,λ_=>False,(D i).P⟩ a).S=(D a).S:=λa=>by
  by_cases e:a=i
  ·subst e;rw [upd_same]
  ·rw [upd_ne D _ e]
 have hni:i∉od:=λhm=>by have:=((h.od i).1 hm).2;omega
 have F8:Sep F j w'.heap.size X (upd D i ⟨8,rk,0,(D i).S,v,λ_=>False,(D i).P⟩) S0:=by
  rw [mo];exact ⟨λi' fU b hb=>h.sep.sB i' fU b (by rw [eS] at hb;exact hb),λi1 i2 h1 h2 b hb fT=>h.sep.sS i1 i2 h1 h2 b (by rw [eS] at hb;exact hb) (by rw [eS] at fT;exact fT),λi1 i2 h1 h2 b hb=>h.sep.sR i1 i2 h1 h2 b (by rw [eS] at hb;exact hb),h.sep.rB,h.sep.nR,h.sep.nn,h.sep.s0,h.sep.r0⟩
 have IB:zg F.K0 j (F.K0+1+i):=jh.2 ⟨i,hi,rfl⟩;refine ⟨by simp [h.size],λk h1 h2=> ?_,λi' fU=> ?_, ?_,h.ho.app (λop cM=>(hu op cM).1) (.inr (.inl IB)),rQ h.norel λop cM=>(hu op cM).2.2.1,by simp;have:=h.Ot;omega,by rw [GH];exact h.deaf0,λi' fU=> ?_,λi' fU hs=> ?_,h.vv,F8,λi' fU=> ?_,λi' fU hs=> ?_, ?_, ?_,λi'=> ?_,h.jn,⟨h.cw.1,h.cw.2.1,h.cw.2.2.1,by rw [mo];exact h.cw.2.2.2⟩,hT.tape.trans h.tape,hT.os.trans h.os,hT.output.trans h.output,λb hb=> ?_⟩
 ·obtain ⟨z,hz,wW⟩:=h.lv k h1 h2;refine ⟨z, ?_, ?_⟩
  ·rw [qan (by omega)];exact hz
  ·rw [GH];exact wW
 ·by_cases e:i'=i
  ·subst e;refine ⟨g', ?_,by rw [upd_same];exact Eh⟩;have:F.K0+1+i'<gs.size:=by rw [h.size];omega
   simp [this]
  ·obtain ⟨z,hz,OM⟩:=h.wk i' fU;refine ⟨z,by rw [qan (by omega)];exact hz, ?_⟩;rw [upd_ne D _ e];refine h.zh hT qI fU (λb hb fT=> ?_) OM;subst fT;rcases hb with hb | hb
   ·exact (h.sep.sB i' fU _ hb).1.2.2 rfl
   ·exact (h.sep.rB i' fU _ hb).2.2.1 rfl
 ·have e:F7 F.K0 (upd D i ⟨8,rk,0,(D i).S,v,λ_=>False,(D i).P⟩)=F7 F.K0 D:=by
   funext k;unfold F7;exact eS _
  rw [e];refine (TI.app h.ti (g:=F.K0+1+i) (λop cM=>(hu op cM).1) (by omega) (λq=>by have:=q.1.1;omega) hT.size (λk b hb=>hb) (λk b hb=> .inl hb) (h.sep.apr h.vv λk q=>q.1) (λop cM x hx=>by rw [(hu op cM).2.1] at hx;cases hx) λop cM x hx=>by rw [(hu op cM).2.1] at hx;cases hx).less λk ⟨h1,h2⟩=>⟨h1, ?_⟩;by_cases e:k - F.K0 - 1=i
  ·rw [e,upd_same] at h2;rw [e];omega
  ·rw [upd_ne D _ e] at h2;exact h2
 ·rw [GH,h.deafW i' fU];by_cases e:i'=i
  ·subst e;rw [upd_same];exact hd
  ·rw [upd_ne D _ e]
 ·by_cases e:i'=i
  ·subst e;rw [upd_same] at hs;simp at hs
  ·rw [upd_ne D _ e] at hs;obtain ⟨r,hr,hTr⟩:=h.rel i' fU hs;exact ⟨r,hr.appNot λop cM=>by rw [(hu op cM).1];omega,hTr⟩
 ·by_cases e:i'=i
  ·subst e;rw [upd_same];exact ⟨λ_ h=>h.elim,λ_ b hb=>⟨(h.pz i' fU).1 b hb,id⟩⟩
  ·rw [upd_ne D _ e];exact h.pz i' fU
 ·by_cases e:i'=i
  ·subst e;rw [upd_same];exact cC
  ·rw [upd_ne D _ e] at hs ⊢;have hz:=(h.pz i' fU).2 hs;refine hR _ _ _ _ _ (h.res i' fU hs) λb hb=>hT.blk b (hb.elim (λhb=>(h.sep.sB i' fU b (hz b hb).1).2.1) λhb=>by omega) λfT=> ?_;subst fT;rcases hb with hb | hb
   ·exact (h.sep.sB i' fU _ (hz _ hb).1).1.2.2 rfl
   ·have:=h.cw.2.2.1;omega
 ·obtain ⟨s,r,tm,hc⟩:=aet;refine ⟨s,r,tm, ?_⟩;rw [hc];have:(od++[i]).map (λi'=>(upd D i ⟨8,rk,0,(D i).S,v,λ_=>False,(D i).P⟩ i').v)=od.map (λi=>(D i).v)++[v]:=by
   rw [qc2];congr 1
   ·refine qca λi' fU=> ?_;rw [upd_ne D _ (λe=>hni (by rw [←e];exact fU))]
   ·simp [upd_same]
  rw [this];congr 2;simp
 ·exact List.nodup_append.2 ⟨h.nd,by simp,λa ha b hb e=>hni (by rw [qbc] at hb;rw [←hb, ←e];exact ha)⟩
 ·rw [qag,h.od i',qbc];by_cases e:i'=i
  ·subst e;rw [upd_same];simp [hi]
  ·rw [upd_ne D _ e];simp [e]
 ·rw [←h.keep b hb];exact hT.blk b (by omega) λfT=>by have:=h.cw.2.2.1;omega
theorem Cm.spawn(h:Cm F j gs w t X D q 0 S0 od)(Uh:j+1<=F.n){a' child:Goroutine}{ON:Nat->Prop}{x0:Wx}{u v:MemOp}{rk:Rk}(hu:u.g=0/\u.act= .go (F.K0+1+j))(hv:v.g=F.K0+1+j/\v.act= .start)
  (hs:F.WS x0 j 9 rk 0 (λ_=>False) child w) (hbn:x0.Ro x0.bn) (hbS:S0 x0.bn) (vN: ∀b,x0.Ro b->F.Old b\/S0 b\/F.ff b) (IL: ∀b,ON b->S0 b/\ ¬x0.Ro b) (XM: ∀b,F.Old b->b<w.heap.size):
  Cm F (j+1) ((gs.setIfInBounds 0 a').push child) w (t++ #[u,v]) (upd X j x0) (upd D j ⟨9,rk,0,λ_=>False,undef,λ_=>False,λ_=>False⟩) q 0 ON od:=by
 have hwb:=h.C5;have hm: ∀op∈ #[u,v],op=u\/op=v:=by intro op cM;simpa using cM
 have fb: ∀op∈ #[u,v],op.act≠ .mark .disable/\op.act≠ .mark .enable:=by
  intro op cM;rcases hm op cM with rfl | rfl
  ·rw [hu.2];exact ⟨by simp,by simp⟩
  ·rw [hv.2];exact ⟨by simp,by simp⟩
 have hx: ∀b,x0.Ro b->b<w.heap.size/\b≠F.Wg/\b≠F.Ch/\(b<F.WB.heap.size-> ∀l,iM l b-> ¬F.cX l):=λb hb=>by
  rcases vN b hb with hb | hb | hb
  ·exact ⟨XM b hb,λe=>by have:=hb.1;have:=h.cw.2.1;omega,λe=>by have:=hb.1;have:=h.cw.2.2.1;omega,λ_=>hb.2⟩
  ·obtain ⟨⟨a1,a2,a3⟩,a4,_⟩:=h.sep.s0 b hb;exact ⟨a4,a2,a3,λq=>by omega⟩
  ·obtain ⟨⟨a1,a2,a3⟩,a4⟩:=h.sep.r0 b hb;exact ⟨a4,a2,a3,λq=>by omega⟩
 have hxS: ∀i,i<j-> ∀b,(D i).S b-> ¬x0.Ro b:=λi hi b hb fT=>by
  obtain ⟨a1,a2,a3,a4⟩:=h.sep.sB i hi b hb;rcases vN b fT with q | q | q
  ·have:=q.1;have:=a1.1;omega
  ·exact a3 q
  ·exact a4 q
 have eD: ∀i,i<j->upd D j ⟨9,rk,0,λ_=>False,undef,λ_=>False,λ_=>False⟩ i=D i:=λi hi=>upd_ne D _ (by omega);have eX: ∀i,i<j->upd X j x0 i=X i:=λi hi=>upd_ne X _ (by omega);have oG: ∀{i},i<j+1->i<j\/i=j:=λh=>by omega
 have F8:Sep F (j+1) w.heap.size (upd X j x0) (upd D j ⟨9,rk,0,λ_=>False,undef,λ_=>False,λ_=>False⟩) ON:=by
  refine ⟨λi hi b hb=> ?_,λi1 i2 h1 h2 b hb fT=> ?_,λi1 i2 h1 h2 b hb=> ?_,λi hi b hb=> ?_,λi hi=> ?_,λi1 i2 h1 h2 hb=> ?_,λb hb=>h.sep.s0 b (IL b hb).1,h.sep.r0⟩
  ·rcases oG hi with hi | rfl
   ·rw [eD i hi] at hb;obtain ⟨a1,a2,a3,a4⟩:=h.sep.sB i hi b hb;exact ⟨a1,a2,λq=>a3 (IL b q).1,a4⟩
   ·rw [upd_same] at hb;exact hb.elim
  ·rcases oG h1 with h1 | rfl
   ·rcases oG h2 with h2 | rfl
    ·rw [eD i1 h1] at hb;rw [eD i2 h2] at fT;exact h.sep.sS i1 i2 h1 h2 b hb fT
    ·rw [upd_same] at fT;exact fT.elim
   ·rw [upd_same] at hb;exact hb.elim
  ·rcases oG h1 with h1 | rfl
   ·rw [eD i1 h1] at hb;rcases oG h2 with h2 | rfl
    ·rw [eX i2 h2];exact h.sep.sR i1 i2 h1 h2 b hb
    ·rw [upd_same];exact hxS i1 h1 b hb
   ·rw [upd_same] at hb;exact hb.elim
  ·rcases oG hi with hi | rfl
   ·rw [eX i hi] at hb;obtain ⟨a1,a2,a3,a4,a5⟩:=h.sep.rB i hi b hb;exact ⟨a1,a2,a3,λq=>a4 (IL b q).1,a5⟩
   ·rw [upd_same] at hb;obtain ⟨a1,a2,a3,a5⟩:=hx b hb;exact ⟨a1,a2,a3,λq=>(IL b q).2 hb,a5⟩
  ·rcases oG hi with hi | rfl
   ·rw [eX i hi];exact h.sep.nR i hi
   ·rw [upd_same];exact ⟨hbn,(h.sep.s0 _ hbS).1,(h.sep.s0 _ hbS).2.2⟩
  ·rcases oG h1 with h1 | rfl
   ·rw [eX i1 h1] at hb;rcases oG h2 with h2 | rfl
    ·rw [eX i2 h2] at hb;exact h.sep.nn i1 i2 h1 h2 hb
    ·rw [upd_same] at hb;obtain ⟨n1,n2,n3⟩:=h.sep.nR i1 h1;rcases vN _ hb with q | q | q
     ·have:=q.1;have:=n2.1;omega
     ·exact ((h.sep.rB i1 h1 _ n1).2.2.2.1 q).elim
     ·exact (n3 q).elim
   ·rw [upd_same] at hb;rcases oG h2 with h2 | rfl
    ·rw [eX i2 h2] at hb;exact ((h.sep.rB i2 h2 _ hb).2.2.2.1 hbS).elim
    ·rfl
 have ea:(λk=>zg F.K0 j k\/k=F.K0+j+1)=zg F.K0 (j+1):=by
  funext k;apply propext;unfold zg;omega
 have el:(λk=>Eb F.K0 j D k\/k=F.K0+j+1)=Eb F.K0 (j+1) (upd D j ⟨9,rk,0,λ_=>False,undef,λ_=>False,λ_=>False⟩):=by
  funext k;apply propext
  constructor
  ·rintro (⟨h1,h2⟩ | rfl)
   ·refine ⟨⟨h1.1,by have:=h1.2;omega⟩, ?_⟩;rw [eD _ (by have:=h1.1;have:=h1.2;omega)];exact h2
   ·refine ⟨⟨by omega,by omega⟩, ?_⟩;rw [show F.K0+j+1 - F.K0 - 1=j by omega,upd_same];show 7<=9;omega
  ·rintro ⟨h1,h2⟩;by_cases e:k=F.K0+j+1
   ·exact .inr e
   ·refine .inl ⟨⟨h1.1,by have:=h1.2;omega⟩, ?_⟩;rw [eD _ (by have:=h1.1;have:=h1.2;omega)] at h2;exact h2
 have e1:F.K0+(j+1)=F.K0+j+1:=by omega
 have OA:=(h.ti.congr (λk hk=>hk.1) (S':=F7 F.K0 (upd D j ⟨9,rk,0,λ_=>False,undef,λ_=>False,λ_=>False⟩)) (Rd':=Ti F.K0 (upd X j x0)) (λk hk=>by unfold F7;rw [eD _ (by have:=hk.1;have:=hk.2;omega)]) (λk hk=>by unfold Ti;rw [eX _ (by have:=hk.1;have:=hk.2;omega)])).fork (x:=u) (y:=v) (λk hk=>hk.1) (λk hk=>hk.2)
  (λb hb=>by
   rw [F7,show F.K0+j+1 - F.K0 - 1=j by omega,upd_same] at hb;exact hb)
  (λl hl=>by
   obtain ⟨b,h1,h2⟩:=hl;rw [Ti,show F.K0+j+1 - F.K0 - 1=j by omega,upd_same] at h2;obtain ⟨a1,a2,a3,a5⟩:=hx b h2;refine ⟨λhs=>a2 (jX hs h1),λhb=>a5 (h.vv l b hb h1) l h1 hb,λk hk qM=> ?_⟩;obtain ⟨b',r1,r2⟩:=qM;have:=iM.inj h1 r1;subst this;obtain ⟨i,hi,rfl⟩:=jh.1 hk;rw [F7,ix,eD i hi] at r2;exact hxS i hi b r2 h2)
  ⟨hu.1,by rw [hu.2];congr 1;omega⟩ ⟨by rw [hv.1];omega,hv.2⟩ h.deaf0
 rw [ea,el, ←e1] at OA;refine ⟨by simp [h.size];omega,λk h1 h2=> ?_,λi hi=> ?_,OA, ?_,rQ h.norel λop cM=> ?_,by simp;have:=h.Ot;omega,by rw [ConcN.Deaf_still t 0 _ fb,h.deaf0],λi hi=> ?_,λi hi hs=> ?_,h.vv,F8,λi hi=> ?_,λi hi hs=> ?_, ?_,h.nd,λi=> ?_,Uh,h.cw,h.tape,h.os,h.output,h.keep⟩
 ·obtain ⟨z,hz,wW⟩:=h.lv k h1 h2;have bG:=(qa1.1 hz).1;refine ⟨z, ?_,by rw [ConcN.Deaf_still t k _ fb];exact wW⟩;rw [qbw (by simp;omega), ←Array.getElem?_eq_getElem,qan (by omega)];exact hz
 ·rcases oG hi with hi | rfl
  ·obtain ⟨z,hz,OM⟩:=h.wk i hi;have bG:=(qa1.1 hz).1;refine ⟨z, ?_,by rw [eD i hi,eX i hi];exact OM⟩;rw [qbw (by simp;omega), ←Array.getElem?_eq_getElem,qan (by omega)];exact hz
  ·refine ⟨child, ?_,by rw [upd_same,upd_same];exact hs⟩;rw [show F.K0+1+i=(gs.setIfInBounds 0 a').size by simp [h.size],Array.getElem?_push_size]
 ·
  have e2:t++ #[u,v]=(t++ #[u])++ #[v]:=by apply qcf;simp
  rw [e2];refine HO.app (g:=F.K0+1+j) (HO.app (g:=0) (h.ho.more λk hk=>⟨hk.1,by have:=hk.2;omega⟩) (λop cM=>by simp at cM;rw [cM];exact hu.1) (.inl rfl)) (λop cM=>by simp at cM;rw [cM];exact hv.1) (.inr (.inl ⟨by omega,by omega⟩))
 ·rcases hm op cM with rfl | rfl
  ·rw [hu.2];simp
  ·rw [hv.2];simp
 ·rw [ConcN.Deaf_still t _ _ fb];rcases oG hi with hi | rfl
  ·rw [h.deafW i hi,eD i hi]
  ·rw [upd_same];exact ConcN.Deaf_absent λa op ha e=>by have:=h.ti.gs a op ha;omega
 ·rcases oG hi with hi | rfl
  ·rw [eD i hi] at hs;obtain ⟨r,hr,hTr⟩:=h.rel i hi hs;refine ⟨r,hr.appNot λop cM=> ?_,hTr⟩;rcases hm op cM with rfl | rfl
   ·rw [hu.1];omega
   ·rw [hv.1];omega
  ·rw [upd_same] at hs;simp at hs
 ·rcases oG hi with hi | rfl
  ·rw [eD i hi];exact h.pz i hi
  ·rw [upd_same];exact ⟨λ_ h=>h,λhs=>by simp at hs⟩
 ·rcases oG hi with hi | rfl
  ·rw [eD i hi] at hs ⊢;exact h.res i hi hs
  ·rw [upd_same] at hs;simp at hs
 ·obtain ⟨s,r,tm,hc⟩:=h.chan;refine ⟨s,r,tm, ?_⟩;rw [hc];congr 3;refine qca λi hi=> ?_;rw [eD i ((h.od i).1 hi).1]
 ·rw [h.od i]
  constructor
  ·rintro ⟨h1,h2⟩;exact ⟨by omega,by rw [eD i h1];exact h2⟩
  ·rintro ⟨h1,h2⟩;rcases oG h1 with h1 | rfl
   ·rw [eD i h1] at h2;exact ⟨h1,h2⟩
   ·rw [upd_same] at h2;simp at h2
end
end Go.Cx
namespace Go.Cx
open Go Go.Conc
open Go.ConcR (KK WgAt stA smA rd wr mk Payload DC0 Bk)
open Go.ConcN (WgLive Mode WD cnt Vc CTag upd sumTo upd_same upd_ne ShN RelBy get_map_set get_map_set_same OpenSt Vc_upd Vc_le others_uncounted bk_cell norel_of_Bk)
def DM(D:Nat->Cj):Nat->WD:=λi=>⟨min 7 (D i).stage,0,0⟩
theorem uB(D:Nat->Cj)(i:Nat)(d:Cj):DM (upd D i d)=upd (DM D) i ⟨min 7 d.stage,0,0⟩:=by
 funext a;by_cases e:a=i
 ·subst e;simp [DM,upd_same]
 ·rw [upd_ne (DM D) _ e];simp only [DM,upd_ne D _ e]
def Sg(j:Nat)(D:Nat->Cj):Nat:=sumTo j λi=>(D i).stage
def fam(K0:Nat)(q:Nat->Nat)(D:Nat->Cj):Nat->Rk:=λk=>if k<=K0 then Wc (q k) else (D (k - K0 - 1)).rk
abbrev Mu:=Nat×((Nat->Rk)×(Nat×Rk))
def LtM(N:Nat):Mu->Mu->Prop:=Prod.Lex Nat.lt (Prod.Lex (Ga N) (Prod.Lex Nat.lt Rk.lt))
theorem LtM.wf(N:Nat):WellFounded (LtM N):=
 (Prod.lex ⟨Nat.lt,Nat.lt_wfRel.wf⟩ (Prod.lex ⟨Ga N,Ga.wf N⟩ (Prod.lex ⟨Nat.lt,Nat.lt_wfRel.wf⟩ ⟨Rk.lt,⟨Rk.acc⟩⟩))).wf
def Fx.mu(F:Fx)(j:Nat)(D:Nat->Cj)(q:Nat->Nat)(tag:Tg)(mr:Nat×Rk):Mu:=(uA F.n j (Vc j (DM D)) tag+Sg j D,(fam F.K0 q D,mr))
section
variable[Payload](F:Fx)
def Fx.Inv(μ:Mu)(m:Machine)(t:Trace):Prop:=
 ∃(gs:Array Goroutine) (w:World) (sl:Option (Nat×Nat)) (j:Nat) (X:Nat->Wx) (D:Nat->Cj) (q:Nat->Nat) (d0:Nat) (S0:Nat->Prop) (od:List Nat) (tag:Tg) (mr:Nat×Rk) (a:Goroutine) (st sm:Int),
  m=crowd gs w sl/\gs[0]? =some a/\F.MS tag j mr d0 S0 a w/\Cm F j gs w t X D q d0 S0 od/\WgAt F.ty F.Wg w st sm/\ConcN.Mode j (DM D) tag.ct st sm/\μ=F.mu j D q tag mr
def Fx.Next(μ:Mu)(gs:Array Goroutine)(w:World)(sl:Option (Nat×Nat))(t:Trace)(k:Nat):Prop:=
 ∃m₁ ops μ',runT F.C (crowd gs w sl) k=(.next m₁,ops)/\LtM (F.K0+1+F.n) μ' μ/\F.Inv μ' m₁ (t++ops)
end
section
variable[Payload]{F:Fx}{j:Nat}{gs:Array Goroutine}{w w':World}{t:Trace}{X:Nat->Wx}{D:Nat->Cj}{q:Nat->Nat}{d0:Nat}{S0:Nat->Prop}{od:List Nat}{sl:Option (Nat×Nat)}{tag:Tg}{mr:Nat×Rk}{a:Goroutine}{st sm F9 Gc:Int}
omit [Payload] in
theorem XG{tag tag':Tg}(h:tag'=tag\/(tag= .blk/\tag'= .w3)):tag'.ct=tag.ct\/(tag.ct= .blk/\tag'.ct= .w3):=by
 rcases h with rfl | ⟨rfl,rfl⟩
 ·exact .inl rfl
 ·exact .inr ⟨rfl,rfl⟩
omit [Payload] in
theorem SC{n j v:Nat}{tag tag':Tg}(h:tag'=tag\/(tag= .blk/\tag'= .w3)):uA n j v tag'=uA n j v tag:=by
 rcases h with rfl | ⟨rfl,rfl⟩ <;> rfl
omit [Payload] in
theorem SD{n j v v':Nat}(h:v'<=v)(tag:Tg):uA n j v' tag<=uA n j v tag:=by cases tag <;> simp only [uA] <;> omega
omit [Payload] in
theorem IC{n N m m':Nat}{f f':Nat->Rk}{x x':Nat×Rk}(h:m'<m\/(m'=m/\Ga N f' f)\/(m'=m/\f'=f/\Prod.Lex Nat.lt Rk.lt x' x)):LtM N (m',(f',x')) (m,(f,x)):=by
 rcases h with h | ⟨rfl,h⟩ | ⟨rfl,rfl,h⟩
 ·exact Prod.Lex.left _ _ h
 ·exact Prod.Lex.right _ (Prod.Lex.left _ _ h)
 ·exact Prod.Lex.right _ (Prod.Lex.right _ h)
omit [Payload] in
theorem cnt_mono{a b:WD}(h:a.stage<=b.stage):cnt a<=cnt b:=by
 simp only [cnt];split
 ·rw [if_pos (by omega)];omega
 ·omega
theorem Cm.ry0(h:Cm F j gs w t X D q d0 S0 od){T:Nat->Prop}(hT:Tw T w w')(qI:j9 F.ty F.Wg w')(hn: ∀b,S0 b\/F.ff b-> ¬T b):Ry (j9 F.ty F.Wg) (λb=>S0 b\/F.ff b) w w':=
 ⟨λb hb=>hT.blk b (hb.elim (λhb=>(h.sep.s0 b hb).2.1) λhb=>(h.sep.r0 b hb).2) (hn b hb),hT.size,qI⟩
theorem AF(hR:lE F)(hA: ∀S g w,F.ij S g w->g.status= .running)(ha:gs[0]? =some a)(xb:F.MS tag j mr d0 S0 a w)(h:Cm F j gs w t X D q d0 S0 od)(hl:j9 F.ty F.Wg w){i:Nat}(hi:i<j){g g':Goroutine}{es:Array Event}{d:Cj}
  (hg:gs[F.K0+1+i]? =some g) (hgo:stepG F.C false g w= .go g' w' es)
  (hT:Tw (λb=>(D i).P b\/b=F.Wg\/b=(X i).bn) w w') (sN:WgAt F.ty F.Wg w' F9 Gc) (hS: ∀b,d.S b↔nw (D i).S w w' b) (hP: ∀b,d.P b->nw (D i).P w w' b) (hZ:d.Z=(D i).Z)
  (Eh:F.WS (X i) i d.stage d.rk d.deaf d.P g' w') (sU: ∀e∈es,SA F (X i).Ro (nw (D i).P w w') (7<=(D i).stage) w'.heap.size e)
  (SB:deafBehind (D i).deaf es=d.deaf) (h8:d.stage<=8↔(D i).stage<=8) (hv:d.v=(D i).v)
  (fg:d.stage<=6-> ∃r,RelBy (stA F.Wg) (t++MemOp.ofEvents (F.K0+1+i) g.frame.fn g.frame.place es) (F.K0+1+i) r/\F.T0<=r)
  (dB: ∀tag':Tg,(tag'.ct=tag.ct\/(tag.ct= .blk/\tag'.ct= .w3))->(mayWake F.C g=true->g'.status= .running->tag'≠ .blk)->ConcN.Mode j (DM (upd D i d)) tag'.ct F9 Gc)
  (bG:d.stage<(D i).stage\/(d.stage=(D i).stage/\Rk.lt d.rk (D i).rk)):F.Next (F.mu j D q tag mr) gs w sl t (F.K0+1+i):=by
 have qI:j9 F.ty F.Wg w':=⟨_,_,sN⟩;have hry:=h.ry0 hT qI (λb hb fT=>by
  rcases hb with hb | hb
  ·rcases fT with fT | rfl | rfl
   ·exact (h.sep.sB i hi b ((h.pz i hi).1 b fT)).2.2.1 hb
   ·exact (h.sep.s0 _ hb).1.2.1 rfl
   ·exact (h.sep.rB i hi _ (h.sep.nR i hi).1).2.2.2.1 hb
  ·rcases fT with fT | rfl | rfl
   ·exact (h.sep.sB i hi b ((h.pz i hi).1 b fT)).2.2.2 hb
   ·exact (h.sep.r0 _ hb).1.2.1 rfl
   ·exact (h.sep.nR i hi).2.2 hb)
 obtain ⟨tag',Ee,uC,SE,hwk⟩:=xb.wokenBy hA hry g g';have bM:=runT_crowd_go (P:=F.C) (sl:=sl) (i:=F.K0+1+i) hg (by rw [show (F.K0+1+i==0)=false from by simp];exact hgo);have ais:d.stage<=(D i).stage:=by omega
 refine ⟨_,_,F.mu j (upd D i d) q tag' Ee,bM, ?_,_,w',sl,j,X,upd D i d,q,d0,S0,od,tag',Ee,woken F.C g g' w' a,F9,Gc,rfl,by rw [get_map_set _ _ _ _ (by omega),ha];rfl,uC,h.stepW hR hl hi hT qI hS hP hZ Eh sU SB ais h8 hv fg,sN,dB tag' (XG SE) hwk,rfl⟩;unfold Fx.mu;rw [SC SE];have e2:Sg j (upd D i d)+(D i).stage=Sg j D+d.stage:=ConcN.sumTo_upd D d Cj.stage hi;have e3:=Vc_upd (DM D) (⟨min 7 d.stage,0,0⟩:WD) hi;rw [←uB] at e3;have e4:cnt (⟨min 7 d.stage,0,0⟩:WD)<=cnt (DM D i):=cnt_mono (show min 7 d.stage<=min 7 (D i).stage by omega);have e5:=SD (n:=F.n) (j:=j) (v':=Vc j (DM (upd D i d))) (v:=Vc j (DM D)) (by omega) tag;refine IC (n:=0) ?_;rcases bG with bG | ⟨hq,bG⟩
 ·exact .inl (by omega)
 ·have ev:Vc j (DM (upd D i d))=Vc j (DM D):=by
   have:cnt (⟨min 7 d.stage,0,0⟩:WD)=cnt (DM D i):=by rw [hq];rfl
   omega
  refine .inr (.inl ⟨by rw [ev];omega,F.K0+1+i,by have:=h.jn;omega, ?_,λk hk hn=> ?_⟩)
  ·unfold fam;rw [if_neg (by omega),if_neg (by omega),ix,upd_same];exact bG
  ·unfold fam;by_cases LD:k<=F.K0
   ·rw [if_pos LD,if_pos LD]
   ·rw [if_neg LD,if_neg LD,upd_ne D _ (by omega)]
end
end Go.Cx
namespace Go.Cx
open Go Go.Conc
open Go.ConcR (KK WgAt stA smA rd wr mk Payload DC0 Bk ofEvent_loc_mark)
open Go.ConcN (WgLive WD cnt Vc CTag upd sumTo upd_same upd_ne ShN RelBy get_map_set get_map_set_same OpenSt Vc_upd Vc_le others_uncounted bk_cell norel_of_Bk isW3 EvW le_sumTo pend WSit)
theorem zi: ∀(j:Nat) (l:List Nat),l.Nodup->(∀x∈l,x<j)->l.length<=j
 | 0,l,_,h=>by
  cases l with
  | nil=>exact qa3 _
  | cons x l=>exact absurd (h x (by simp)) (qap x)
 | j+1,l,hn,h=>by
  by_cases hm:j∈l
  ·have h1:=zi j (l.erase j) (hn.erase j) λx hx=>by
    have:=h x (List.mem_of_mem_erase hx);have:x≠j:=λe=>by
     subst e;exact ((hn.mem_erase_iff).1 hx).1 rfl
    omega
   rw [List.length_erase_of_mem hm] at h1;omega
  ·have:=zi j l hn λx hx=>by
    have:=h x hx;have:x≠j:=λe=>hm (e▸hx);omega
   omega
section
variable{F:Fx}{Ro S':Nat->Prop}{lv:Prop}{sz:Nat}{e:Event}
theorem sP{S Ro:Nat->Prop}(h:TN S Ro e):e.loc≠ .mark .disable/\e.loc≠ .mark .enable:=by
 rcases h with ⟨_,⟨ad,h1,_⟩ | ⟨r,h1,_⟩⟩ | h
 ·rw [h1];exact ⟨by simp,by simp⟩
 ·rw [h1];exact ⟨by simp,by simp⟩
 ·subst h;exact ⟨by simp,by simp⟩
theorem rR{S Ro:Nat->Prop}(h:TN S Ro e):(∀x,(MemAct.ofEvent e).touch? =some x->x.kind= .plain/\(u9 S x.loc\/(u9 Ro x.loc/\x.write=false)))/\ ∀a,MemAct.ofEvent e≠ .mark (.release a):=by
 obtain ⟨l,wr,sy⟩:=e;rcases h with ⟨hs,⟨ad,h1,h2⟩ | ⟨r,h1,h2⟩⟩ | h
 ·simp only at hs h1 h2;subst hs h1;refine ⟨λx hx=> ?_,λa=>by simp [MemAct.ofEvent]⟩;have wV:x=⟨.cell ad,wr, .plain⟩:=by
   cases wr <;> (cases hx;rfl)
  subst wV;exact ⟨rfl,h2.imp (λh=>⟨_,rfl,h⟩) λh=>⟨⟨_,rfl,h.1⟩,h.2⟩⟩
 ·simp only at hs h1 h2;subst hs h1;refine ⟨λx hx=> ?_,λa=>by simp [MemAct.ofEvent]⟩;have wV:x=⟨.obj r,wr, .plain⟩:=by
   cases wr <;> (cases hx;rfl)
  subst wV;exact ⟨rfl, .inl ⟨_,rfl,h2⟩⟩
 ·cases h;exact ⟨λx hx=>(by cases hx),λa=>by simp [MemAct.ofEvent]⟩
theorem SF(h:TN S' Ro e)(hl:lv):SA F Ro S' lv sz e:=⟨λx hx=> .inr ⟨hl,(rR h).1 x hx⟩,(rR h).2 _⟩
theorem ID(h:TN S' F.ff e):KR F S' e:=⟨λx hx=> .inr ((rR h).1 x hx).2,(rR h).2 _⟩
theorem sQ{e:Event}{a:Addr}(h:MemAct.ofEvent e= .mark (.release a)):e.loc= .mark (.release a):=ConcR.loc_of_ofEvent h
theorem SG(h:EvW F.Wg IZ IZ 1 e):SA F Ro S' lv sz e:=
 ⟨λx hx=> .inl (by
  rcases ((h.1 0 "").2 x hx) with h | h | ⟨h,_⟩
  ·exact h
  ·exact h.elim
  ·exact h.elim),λq=>h.2.2.2 (sQ q)⟩
theorem Ck{Wg:Nat}(h:Bk Wg e):(∀x,(MemAct.ofEvent e).touch? =some x->ShN Wg x.loc/\x.kind≠ .plain/\x.kind≠ .said):=λx hx=>by
 rcases h with h1 | h1 | ⟨a,wr,rfl,ha⟩
 ·rw [ofEvent_loc_mark h1] at hx;cases hx
 ·rw [ofEvent_loc_mark h1] at hx;cases hx
 ·cases wr <;> (cases hx;exact ⟨⟨a,rfl,ha⟩,by simp,by simp⟩)
theorem We(h:Bk F.Wg e):SA F Ro S' lv sz e:=
 ⟨λx hx=> .inl (Ck h x hx),λq=>norel_of_Bk (es:= #[e]) (by simp;exact h) e (by simp) (sQ q)⟩
theorem Gd(h:Bk F.Wg e):KR F S' e:=
 ⟨λx hx=> .inl ⟨(Ck h x hx).1,(Ck h x hx).2.1⟩,λq=>norel_of_Bk (es:= #[e]) (by simp;exact h) e (by simp) (sQ q)⟩
end
section
variable[Payload]{F:Fx}{j:Nat}{gs:Array Goroutine}{w w':World}{t:Trace}{X:Nat->Wx}{D:Nat->Cj}{q:Nat->Nat}{d0:Nat}{S0:Nat->Prop}{od:List Nat}{sl:Option (Nat×Nat)}{tag:Tg}{mr:Nat×Rk}{a:Goroutine}{st sm F9 Gc:Int}
omit [Payload] in
theorem Cl{c:Nat}{T:Nat->Prop}(h:Conc.Aside c w w')(k:T c):Tw T w w':=(Tw.Sz h).mono λb hb=>hb▸k
theorem Mt(hR:lE F)(hA: ∀S g w,F.ij S g w->g.status= .running)(hn:F.n<2147483646)(ha:gs[0]? =some a)(xb:F.MS tag j mr d0 S0 a w)(h:Cm F j gs w t X D q d0 S0 od)(kP:WgAt F.ty F.Wg w st sm)(dB:ConcN.Mode j (DM D) tag.ct st sm)
  {i:Nat} (hi:i<j) {g:Goroutine} (hg:gs[F.K0+1+i]? =some g) (bM:g.status= .running) {s m dd:Nat} (hs:WSit F.C F.ty F.Wg (X i).bn 1 IZ IZ 0 1 (X i).num s m dd g w) (fb:(D i).stage=s\/(s=7/\(D i).stage=8)) (Ss:(D i).stage=s->(D i).rk=Wc m) (OO:(D i).deaf=dd):
  F.Next (F.mu j D q tag mr) gs w sl t (F.K0+1+i):=by
 have hl:j9 F.ty F.Wg w:=⟨_,_,kP⟩;have hb:=xb.bound;have hVj:=Vc_le j (DM D);have Uh:=h.jn;have hdk:Deaf t (F.K0+1+i)=dd:=by rw [h.deafW i hi,OO]
 have s7:s<=7:=by cases hs <;> omega
 have SH:(DM D i).stage=s:=by show min 7 (D i).stage=s;omega
 have h8:(D i).stage<=8:=by omega
 have ait:(X i).bn≠F.Wg:=(h.sep.nR i hi).2.1.2.1;have XH: ∀{g':Goroutine} {w':World} {es:Array Event} {s' m' dd':Nat} {F9 Gc:Int},stepG F.C false g w= .go g' w' es->Conc.Aside F.Wg w w'->WgAt F.ty F.Wg w' F9 Gc->(∀e∈es,Bk F.Wg e)->
    (∀jx e,es[jx]? =some e->(MemAct.ofEvent e).touch? =none\/0<deafBehind dd (es.extract 0 jx))->WSit F.C F.ty F.Wg (X i).bn 1 IZ IZ 0 1 (X i).num s' m' dd' g' w'->deafBehind dd es=dd'->s<=6->s'<=6->
    (∀tag':Tg,(tag'.ct=tag.ct\/(tag.ct= .blk/\tag'.ct= .w3))->(mayWake F.C g=true->g'.status= .running->tag'≠ .blk)->ConcN.Mode j (upd (DM D) i ⟨s',0,0⟩) tag'.ct F9 Gc)->(s'<s\/(s'=s/\m'+1=m))->
    F.Next (F.mu j D q tag mr) gs w sl t (F.K0+1+i):=by
  intro g' w' es s' m' dd' F9 Gc hgo hAs sN SI hd Eh aiu h6 h6' wz bG;have hsi:(D i).stage=s:=by omega
  refine AF (d:=⟨s',Wc m',dd',nw (D i).S w w',(D i).v,(D i).P,(D i).Z⟩) hR hA ha xb h hl hi hg hgo (Cl hAs (.inr (.inl rfl))) sN (λb=>Iff.rfl) (λb hb=> .inl hb) rfl (.c Eh) (λe he=>We (SI e he)) (by rw [OO];exact aiu) ⟨λ_=>h8,λ_=>show s'<=8 by omega⟩ rfl
    (λ_=>let ⟨r,hr,hT⟩:=h.rel i hi (by omega);⟨r,ConcN.RelBy.book hr hdk _ _ SI hd,hT⟩) (λtag' h1 h2=> ?_) ?_
  · rw [uB,show min 7 s'=s' by omega];exact wz tag' h1 h2
  · rcases bG with bG | ⟨e1,e2⟩
    ·exact .inl (by show s'<_;omega)
    ·exact .inr ⟨by show s'=_;omega,by rw [Ss hsi, ←e2];exact KQ m'⟩
 have book: ∀{g':Goroutine} {w':World} {es:Array Event} {s' m' dd':Nat} {F9 Gc:Int},stepG F.C false g w= .go g' w' es->Conc.Aside F.Wg w w'->WgAt F.ty F.Wg w' F9 Gc->(∀e∈es,Bk F.Wg e)->
    (∀jx e,es[jx]? =some e->(MemAct.ofEvent e).touch? =none\/0<deafBehind dd (es.extract 0 jx))->WSit F.C F.ty F.Wg (X i).bn 1 IZ IZ 0 1 (X i).num s' m' dd' g' w'->deafBehind dd es=dd'->s<=6->s'<=6->
    ConcN.Mode j (upd (DM D) i ⟨s',0,0⟩) tag.ct F9 Gc->(s'<s\/(s'=s/\m'+1=m))->F.Next (F.mu j D q tag mr) gs w sl t (F.K0+1+i):=
  λhgo hAs sN SI hd Eh OO h6 h6' wz bG=>XH hgo hAs sN SI hd Eh OO h6 h6' (λ_ ht _=>wz.retag ht) bG
 have same:ConcN.Mode j (upd (DM D) i ⟨s,0,0⟩) tag.ct st sm:=by have:=dB.same (i:=i) 0 0;rwa [SH] at this
 have idle: ∀{g':Goroutine} {m':Nat},stepG F.C false g w= .go g' w #[]->WSit F.C F.ty F.Wg (X i).bn 1 IZ IZ 0 1 (X i).num s m' dd g' w->m'+1=m->s<=6->F.Next (F.mu j D q tag mr) gs w sl t (F.K0+1+i):=
  λhgo Eh hm h6=>book hgo (.refl F.Wg w) kP (by simp) (by simp) Eh rfl h6 h6 same (.inr ⟨rfl,hm⟩)
 cases hs with
 | r0 hG=>
  rcases Goes.cases hG with nZ | ⟨m',rfl,jF⟩
  · obtain ⟨_,_,g',hgo,m₂,hk⟩:=nZ w (ConcN.RW.refl w);refine AF (d:=⟨6,Wc m₂,0,nw (D i).S w w,(D i).v,(D i).P,(D i).Z⟩) hR hA ha xb h hl hi hg hgo (.refl _ w) kP (λb=>Iff.rfl) (λb hb=> .inl hb) rfl (.c (.k1 hk)) (λe he=> ?_) (by rw [OO];rfl) ⟨λ_=>h8,λ_=>show 6<=8 by omega⟩ rfl
     (λ_=>⟨t.size,RelBy.new hdk _ _,h.Ot⟩) (λtag' h1 _=> ?_) (.inl (show 6<_ by omega))
    ·simp at he;subst he;exact ⟨λx hx=>(by cases hx),(by simp [mk,MemAct.ofEvent])⟩
    ·rw [uB];exact (dB.counted hi (by omega) (.inl rfl) 0 0).retag h1
  · obtain ⟨g',w',es,hgo,⟨hac,sU⟩,IK⟩:=jF w (ConcN.RW.refl w);refine AF (d:=⟨7,Wc m',0,nw (D i).S w w',(D i).v,(D i).P,(D i).Z⟩) hR hA ha xb h hl hi hg hgo ⟨hac.tape,hac.os,hac.output,qav hac.size.symm,λb _ hb=>hac.block b λe=>hb (.inr (.inr e))⟩ (kP.of_block (hac.block F.Wg (qbo ait))) (λb=>Iff.rfl) (λb hb=> .inl hb) rfl (.c (.r0 IK)) (λe he=>SG (sU e he))
     (by rw [OO];exact ConcN.deafBehind_idle (λe he=>⟨(sU e he).2.1,(sU e he).2.2.1⟩) 0) ⟨λ_=>h8,λ_=>show 7<=8 by omega⟩ rfl (λq=>absurd (show 7<=6 from q) (by omega)) (λtag' h1 _=> ?_) ?_
    ·rw [uB];exact same.retag h1
    ·rcases fb with fb | ⟨_,fb⟩
     ·exact .inr ⟨fb.symm,by rw [Ss fb];exact KQ m'⟩
     ·exact .inl (show 7<_ by omega)
 | k1 hG=>
  rcases Goes.cases hG with nZ | ⟨m',rfl,jF⟩
  · obtain ⟨_,g',hgo,m₂,hk⟩:=nZ w (ConcN.RW.refl w);exact book hgo (.refl F.Wg w) kP (by intro e he;simp at he;subst he;exact .inl rfl) (by intro jx e he;exact .inl (by have:=qb1 he;simp at this;subst this;rfl)) (.d1 hk) rfl (by omega) (by omega) (dB.counted hi (by omega) (.inr rfl) 0 0) (.inl (by omega))
  · obtain ⟨g',w',es,hgo,⟨rfl,rfl⟩,IK⟩:=jF w (ConcN.RW.refl w);exact idle hgo (.k1 IK) rfl (by omega)
 | d1 hG=>
  rcases Goes.cases hG with nZ | ⟨m',rfl,jF⟩
  · obtain ⟨_,lS⟩:=nZ w (ConcN.RW.refl w);have EN:cnt (DM D i)=1:=by simp [cnt,SH]
    have hV1:1<=Vc j (DM D):=by have:=le_sumTo (f:=λx=>cnt (DM D x)) hi;simp only [Vc];omega
    have bk2: ∀e∈ #[rd (stA F.Wg),wr (stA F.Wg)],Bk F.Wg e:=by intro e he;simp at he;rcases he with rfl | rfl <;> exact bk_cell _ _ rfl
    have df2: ∀jx e,(#[rd (stA F.Wg),wr (stA F.Wg)]:Array Event)[jx]? =some e->(MemAct.ofEvent e).touch? =none\/0<deafBehind 1 ((#[rd (stA F.Wg),wr (stA F.Wg)]:Array Event).extract 0 jx):=by
     intro jx e he
     match jx,he with
     | 0,_=>exact .inr (by simp [deafBehind])
     | 1,_=>exact .inr (by simp [deafBehind,rd])
     | jx+2,he=>simp at he
    have hq0:cnt (⟨1,0,0⟩:WD)=0:=rfl;have opq:OpenSt j (DM D)->OpenSt j (upd (DM D) i ⟨1,0,0⟩):=λh a ha=>by
     by_cases e:a=i
     ·subst e;rw [upd_same];simp
     ·rw [upd_ne _ _ e];exact h a ha
    have eV:=Vc_upd (DM D) (⟨1,0,0⟩:WD) hi;generalize Tj:tag.ct=ct at dB hb;cases dB with
    | opn h1 h2 h3=>
     obtain ⟨v,hv⟩: ∃v,Vc j (DM D)+pend ct=v+1:=⟨Vc j (DM D)+pend ct - 1,by omega⟩;rw [hv] at kP;have zl:WgAt F.ty F.Wg w (((v:Nat)+1)*KK+((0:Nat):Int)) 0:=by simpa using kP
     obtain ⟨g',hgo,_,hq⟩:=lS v 0 (by omega) (by omega) zl;obtain ⟨q,hq⟩:=hq (by omega);have Gf:Vc j (upd (DM D) i ⟨1,0,0⟩)+pend ct=v:=by omega
     refine book hgo (aside_setCell w (stA F.Wg) _) (kP.setSt _) bk2 df2 (.quit hq) rfl (by omega) (by omega) ?_ (.inl (by omega));have e:((v:Nat):Int)*KK+((0:Nat):Int)=((Vc j (upd (DM D) i ⟨1,0,0⟩)+pend ct:Nat):Int)*KK:=by rw [Gf];simp
     rw [e,Tj];exact .opn h1 (opq h2) (λvs ev=>by have:=h3 vs ev;omega)
    | reg h1 h2 h3=>
     obtain ⟨v,hv⟩: ∃v,Vc j (DM D)=v+1:=⟨Vc j (DM D) - 1,by omega⟩;rw [hv] at kP;have hp:pend ct=0:=by cases ct <;> first | rfl | exact h1.elim
     have zl:WgAt F.ty F.Wg w (((v:Nat)+1)*KK+((1:Nat):Int)) 0:=by simpa using kP
     obtain ⟨g',hgo,hl,hq⟩:=lS v 1 (by omega) (by omega) zl;by_cases hv0:v=0
     ·subst hv0;obtain ⟨m₂,hk⟩:=hl ⟨rfl,rfl⟩;refine book hgo (aside_setCell w (stA F.Wg) _) (kP.setSt _) bk2 df2 (.d2 hk) rfl (by omega) (by omega) ?_ (.inl (by omega));have KS: ∀a,a<j->a≠i->(DM D a).stage=1:=λa ha e=>by
       have c0:=others_uncounted hi hv EN a ha e;have:=h2 a ha;simp only [cnt] at c0;split at c0 <;> omega
      have:=ConcN.Mode.last (j:=j) (D:=upd (DM D) i ⟨4,0,0⟩) (tag:=ct) i h1 hi (by rw [upd_same];simp) (λa ha e=>by rw [upd_ne _ _ e];exact KS a ha e);rw [upd_same] at this;rw [Tj];simpa using this
     ·obtain ⟨q,hq⟩:=hq (by omega);have Gf:Vc j (upd (DM D) i ⟨1,0,0⟩)=v:=by omega
      refine book hgo (aside_setCell w (stA F.Wg) _) (kP.setSt _) bk2 df2 (.quit hq) rfl (by omega) (by omega) ?_ (.inl (by omega));have e:((v:Nat):Int)*KK+((1:Nat):Int)=((Vc j (upd (DM D) i ⟨1,0,0⟩):Nat):Int)*KK+1:=by rw [Gf];simp
      rw [e,Tj];exact .reg h1 (opq h2) (by omega)
    | last L _ h2 h3 h4=>
     by_cases e:i=L
     ·subst e;omega
     ·have:=h4 i hi e;omega
    | sema h2=>have:=h2 i hi;omega
    | fin _ h2=>have:=h2 i hi;omega
  · obtain ⟨g',w',es,hgo,⟨rfl,rfl⟩,IK⟩:=jF w (ConcN.RW.refl w);exact idle hgo (.d1 IK) rfl (by omega)
 | d2 hG=>
  rcases Goes.cases hG with nZ | ⟨m',rfl,jF⟩
  · obtain ⟨_,hx⟩:=nZ w (ConcN.RW.refl w);obtain ⟨hW3,KS,rfl,rfl⟩:=dB.isLast hi (by omega);simp only [SH] at kP;obtain ⟨g',hgo,m₂,hk⟩:=hx (by simpa using kP);refine book hgo (.refl F.Wg w) kP (by intro e he;simp at he;subst he;exact bk_cell _ _ rfl) (by intro jx e he;match jx,he with | 0,_=>exact .inr (by simp [deafBehind]) | jx+1,he=>simp at he) (.d3 hk) rfl (by omega) (by omega) ?_ (.inl (by omega));have:=ConcN.Mode.last (j:=j) (D:=upd (DM D) i ⟨3,0,0⟩) (tag:=tag.ct) i hW3 hi (by rw [upd_same];simp) (λa ha e=>by rw [upd_ne _ _ e];exact KS a ha e);rw [upd_same] at this;simpa using this
  · obtain ⟨g',w',es,hgo,⟨rfl,rfl⟩,IK⟩:=jF w (ConcN.RW.refl w);exact idle hgo (.d2 IK) rfl (by omega)
 | d3 hG=>
  rcases Goes.cases hG with nZ | ⟨m',rfl,jF⟩
  · obtain ⟨_,hx⟩:=nZ w (ConcN.RW.refl w);obtain ⟨hW3,KS,rfl,rfl⟩:=dB.isLast hi (by omega);simp only [SH] at kP;obtain ⟨g',hgo,m₂,hk⟩:=hx (by simpa using kP);refine book hgo (aside_setCell w (stA F.Wg) _) (kP.setSt 0) (by intro e he;simp at he;subst he;exact bk_cell _ _ rfl) (by intro jx e he;match jx,he with | 0,_=>exact .inr (by simp [deafBehind]) | jx+1,he=>simp at he) (.d4 hk) rfl (by omega) (by omega) ?_ (.inl (by omega));have:=ConcN.Mode.last (j:=j) (D:=upd (DM D) i ⟨2,0,0⟩) (tag:=tag.ct) i hW3 hi (by rw [upd_same];simp) (λa ha e=>by rw [upd_ne _ _ e];exact KS a ha e);rw [upd_same] at this;simpa using this
  · obtain ⟨g',w',es,hgo,⟨rfl,rfl⟩,IK⟩:=jF w (ConcN.RW.refl w);exact idle hgo (.d3 IK) rfl (by omega)
 | d4 hG=>
  rcases Goes.cases hG with nZ | ⟨m',rfl,jF⟩
  · obtain ⟨_,hmw,hx⟩:=nZ w (ConcN.RW.refl w);obtain ⟨hW3,KS,rfl,rfl⟩:=dB.isLast hi (by omega);simp only [SH] at kP;obtain ⟨g',hgo,q,hq⟩:=hx (by simpa using kP);have Mv:g'.status= .running:=by
     cases q with
     | zero=>exact absurd hq.2 (by decide)
     | succ q=>exact hq.elim (λx=>absurd x.2 (by decide)) (λx=>x.1)
    refine XH hgo (aside_setCell w (smA F.Wg) _) (kP.setSm 1) (es:=semEvents (smA F.Wg)) ?_ ?_ (.quit hq) (by simp [deafBehind,semEvents]) (by omega) (by omega) ?_ (.inl (by omega))
    ·intro e he;simp [semEvents] at he;rcases he with rfl | rfl | rfl | rfl
     ·exact .inl rfl
     ·exact bk_cell _ _ rfl
     ·exact bk_cell _ _ rfl
     ·exact .inr (.inl rfl)
    ·intro jx e he
     match jx,he with
     | 0,he=>simp [semEvents] at he;subst he;exact .inl rfl
     | 1,_=>exact .inr (by simp [deafBehind,semEvents])
     | 2,_=>exact .inr (by simp [deafBehind,semEvents])
     | 3,he=>simp [semEvents] at he;subst he;exact .inl rfl
     | jx+4,he=>simp [semEvents] at he
    ·intro tag' ht hw;have hnb:=hw hmw Mv;have e3:tag'.ct= .w3:=by
      rcases ht with ht | ⟨_,ht⟩
      ·rw [←ht] at hW3;cases tag' <;> first | rfl | exact hW3.elim | exact absurd rfl hnb
      ·exact ht
     rw [e3];simp only [if_true];exact .sema λa ha=>by
      by_cases e:a=i
      ·subst e;rw [upd_same]
      ·rw [upd_ne _ _ e];exact KS a ha e
  · obtain ⟨g',w',es,hgo,⟨rfl,rfl⟩,IK⟩:=jF w (ConcN.RW.refl w);exact idle hgo (.d4 IK) rfl (by omega)
 | quit hG=>
  cases m with
  | zero=>rw [hG.1] at bM;cases bM
  | succ q=>
    rcases hG with ⟨hf,_⟩ | ⟨_,g',es,XI,jF,hq⟩
    ·rw [hf] at bM;cases bM
    ·have SI: ∀e∈es,Bk F.Wg e:=λe he=>ConcR.bk_of_mute (XI e he);have OQ: ∀jx e,es[jx]? =some e->(MemAct.ofEvent e).touch? =none\/0<deafBehind dd (es.extract 0 jx):=λjx e he=> .inl (vQ (XI e (qb1 he)));exact book (jF w) (.refl F.Wg w) kP SI OQ (.quit hq) rfl (by omega) (by omega) same (.inr ⟨rfl,rfl⟩)
end
end Go.Cx
namespace Go.Cx
open Go Go.Conc
open Go.ConcR (KK WgAt stA smA rd wr mk Payload DC0 Bk ofEvent_loc_mark)
open Go.ConcN (WgLive WD cnt Vc CTag upd sumTo upd_same upd_ne ShN RelBy get_map_set get_map_set_same OpenSt Vc_upd Vc_le bk_cell norel_of_Bk isW3 isOpen isFin le_sumTo pend WSit sumTo_upd_out)
section
variable[Payload]{F:Fx}{j:Nat}{gs:Array Goroutine}{w w':World}{t:Trace}{X:Nat->Wx}{D:Nat->Cj}{q:Nat->Nat}{d0:Nat}{S0:Nat->Prop}{od:List Nat}{sl:Option (Nat×Nat)}{tag:Tg}{mr:Nat×Rk}{a:Goroutine}{st sm F9 Gc:Int}
omit [Payload] in
theorem SJ{S Ro:Nat->Prop}{es:Array Event}{T:Nat->Prop}(h:Ow S Ro w w' es)(k: ∀b,S b->T b):Tw T w w':=h.tw.mono k
omit [Payload] in
theorem C6{g:Goroutine}(h:g.offers=none)(r:Nat)(s:Bool):offersAt g r s=[]:=by
 unfold offersAt;rw [h];cases g.status <;> rfl
theorem IE(hR:lE F)(hA: ∀S g w,F.ij S g w->g.status= .running)(hn:F.n<2147483646)(ha:gs[0]? =some a)(xb:F.MS tag j mr d0 S0 a w)(h:Cm F j gs w t X D q d0 S0 od)(kP:WgAt F.ty F.Wg w st sm)(dB:ConcN.Mode j (DM D) tag.ct st sm)
  {i:Nat} (hi:i<j) {g:Goroutine} (hg:gs[F.K0+1+i]? =some g) (bM:g.status= .running):F.Next (F.mu j D q tag mr) gs w sl t (F.K0+1+i):=by
 have hl:j9 F.ty F.Wg w:=⟨_,_,kP⟩;obtain ⟨aiv,XJ,hs⟩:=h.wk i hi;obtain rfl:g=aiv:=by rw [hg] at XJ;exact qaf XJ
 have Th: ¬(D i).P F.Wg:=λhp=>(h.sep.sB i hi _ ((h.pz i hi).1 _ hp)).1.2.1 rfl;have same: ∀s',min 7 s'=(DM D i).stage->ConcN.Mode j (upd (DM D) i ⟨min 7 s',0,0⟩) tag.ct st sm:=λs' e=>by have:=dB.same (i:=i) 0 0;rwa [←e] at this
 have own: ∀{g':Goroutine} {w':World} {es:Array Event} {r':Rk},8<=(D i).stage->(D i).deaf=0->stepG F.C false g w= .go g' w' es->Ow (D i).P (X i).Ro w w' es->Rk.lt r' (D i).rk->F.WS (X i) i (D i).stage r' 0 (nw (D i).P w w') g' w'->F.Next (F.mu j D q tag mr) gs w sl t (F.K0+1+i):=by
  intro g' w' es r' h8 hd hgo ho bG Eh;refine AF (d:=⟨(D i).stage,r',0,nw (D i).S w w',(D i).v,nw (D i).P w w',(D i).Z⟩) hR hA ha xb h hl hi hg hgo (SJ ho λb hb=> .inl hb) (kP.of_block (ho.blk _ h.cw.2.2.2 Th)) (λb=>Iff.rfl) (λb hb=>hb) rfl Eh (λe he=>SF (ho.ev e he) (by omega))
    (by rw [hd];exact ConcN.deafBehind_idle (λe he=>sP (ho.ev e he)) 0) Iff.rfl rfl (λq=>absurd (show (D i).stage<=6 from q) (by omega)) (λtag' h1 _=> ?_) (.inr ⟨rfl,bG⟩)
  rw [uB];exact (same _ rfl).retag h1
 generalize fb:(D i).stage=s at hs;generalize Ss:(D i).rk=rk at hs;generalize OO:(D i).deaf=dd at hs;cases hs with
 | a hT=>
  rcases hT.cases hl with nZ | ⟨_,g',w',es,r',hgo,ho,bG,qv⟩
  · obtain ⟨_,g2,v,z,aiw,cC,hk⟩:=nZ;obtain ⟨s,r,tm,hc⟩:=h.chan;have hni:i∉od:=λhm=>by have:=((h.od i).1 hm).2;omega
    have hlen:=zi j (i::od) (List.nodup_cons.2 ⟨hni,h.nd⟩) λx hx=>by
     rcases qa9.1 hx with rfl | hx
     ·exact hi
     ·exact ((h.od x).1 hx).1
    have zp:(od.map λi=>(D i).v).toArray.size<F.n:=by
     have:=h.jn;simp at hlen ⊢;omega
    have hp:partners (gs.setIfInBounds (F.K0+1+i) ph) F.Ch false=[]:=by
     refine partners_nil λk x hx=> ?_;rcases getElem?_stand _ _ _ _ hx with ⟨_,rfl⟩ | ⟨hk,hx⟩
     ·rfl
     ·have bG:=(qa1.1 hx).1;rw [h.size] at bG;rcases Nat.eq_zero_or_pos k with rfl | GD
      ·rw [ha] at hx;cases hx;rcases xb.status hA hl with ⟨hs,_⟩ | ⟨_,ho,_⟩
       ·exact offersAt_of_not_blocked (by rw [hs];simp) _ _
       ·exact C6 ho _ _
      ·rcases Nat.lt_or_ge F.K0 k with yn | yn
       ·obtain ⟨x',wV,hw⟩:=h.wk (k - F.K0 - 1) (by omega);rw [show F.K0+1+(k - F.K0 - 1)=k by omega,hx] at wV;cases wV;exact offersAt_of_not_blocked (by rcases hw.status hl with e | e <;> rw [e] <;> simp) _ _
       ·obtain ⟨x',wV,hw⟩:=h.lv k GD yn;rw [hx] at wV;cases wV;exact offersAt_of_not_blocked (by rcases hw.status with e | e <;> rw [e] <;> simp) _ _
    have XK:=crowd_send_room (P:=F.C) (sl:=sl) (i:=F.K0+1+i) hg (by rw [show (F.K0+1+i==0)=false from by simp];exact aiw) hc zp hp;rw [finishComm_send] at XK
    let w2:=w.setChan F.Ch F.n ((od.map λi=>(D i).v).toArray.push v) false (s+1) r tm
    have mo:w2.heap.size=w.heap.size:=by simp [w2,World.setChan]
    have hblk: ∀b,b≠F.Ch->w2.heap[b]? =w.heap[b]? :=λb hb=>by simp [w2,World.setChan,qan (qbo hb)]
    have hT2:Tw (·=F.Ch) w w2:=⟨rfl,rfl,rfl,qav mo.symm,λb _ hn=>hblk b hn⟩;have aeu:WgAt F.ty F.Wg w2 st sm:=kP.of_block (hblk _ (qbo h.cw.1));have cU:j9 F.ty F.Wg w2:=⟨_,_,aeu⟩;have hry:Ry (j9 F.ty F.Wg) (X i).Ro w w2:=⟨λb hb=>hblk b (h.sep.rB i hi b hb).2.2.1,qav mo.symm,cU⟩;obtain ⟨rk2,yn⟩:=hk w2 hry;have aix:F.MS tag j mr d0 S0 a w2:=xb.rely (h.ry0 hT2 cU λb hb e=>by
     subst e;rcases hb with hb | hb
     ·exact (h.sep.s0 _ hb).1.2.2 rfl
     ·exact (h.sep.r0 _ hb).1.2.2 rfl)
    have aev:F.oU i v (D i).P w2:=hR _ _ _ _ _ cC λb hb=>hblk b λe=>by
     subst e;rcases hb with hb | hb
     ·exact (h.sep.sB i hi _ ((h.pz i hi).1 _ hb)).1.2.2 rfl
     ·have:=h.cw.2.2.1;omega
    have AD:=h.send hR hl hi (g':=Go.Conc.served g2 undef) (w':=w2) (u:=MemOp.ofEvents (F.K0+1+i) g.frame.fn g.frame.place #[]++ #[{ g:=F.K0+1+i,fn:=g2.frame.fn,pos:=g2.frame.place,act:= .send F.Ch s },{ g:=F.K0+1+i,fn:=g2.frame.fn,pos:=g2.frame.place,act:= .sendDone F.Ch s }]) (v:=v) (rk:=rk2) fb hT2 mo
     ⟨s+1,r,tm,by
      have bG:=h.aaG;simp [w2,World.setChan,bG]⟩ cU (.b yn) OO (λop cM=>by
      simp [ofEvents_eq] at cM;rcases cM with rfl | rfl
      ·exact ⟨rfl,rfl,by simp,by simp,by simp⟩
      ·exact ⟨rfl,rfl,by simp,by simp,by simp⟩) aev
    refine ⟨_,_,F.mu j (upd D i ⟨8,rk2,0,(D i).S,v,λ_=>False,(D i).P⟩) q tag mr,XK, ?_,_,w2,sl,j,X,_,q,d0,S0,_,tag,mr,a,st,sm,rfl,by rw [qan (by omega)];exact ha,aix,AD,aeu, ?_,rfl⟩
    ·unfold Fx.mu;have e2:Sg j (upd D i ⟨8,rk2,0,(D i).S,v,λ_=>False,(D i).P⟩)+(D i).stage=Sg j D+8:=ConcN.sumTo_upd D _ Cj.stage hi;have e3:=Vc_upd (DM D) (⟨min 7 8,0,0⟩:WD) hi;have e4:cnt (DM D i)=cnt (⟨min 7 8,0,0⟩:WD):=by simp [cnt,DM,fb]
     rw [uB];have e5:Vc j (upd (DM D) i ⟨min 7 8,0,0⟩)=Vc j (DM D):=by omega
     refine IC (n:=0) (.inl ?_);simp only [e5];omega
    ·rw [uB];exact same 8 (by simp [DM,fb])
  · exact own (by omega) OO hgo ho (Ss▸bG) (fb▸ .a qv)
 | b hT=>
  rcases hT.cases hl with nZ | ⟨_,g',w',es,r',hgo,ho,bG,qv⟩
  · obtain ⟨m,hG⟩:=nZ;exact Mt hR hA hn ha xb h kP dB hi hg bM (.r0 hG) (.inr ⟨rfl,fb⟩) (λe=>by omega) OO
  · exact own (by omega) OO hgo ho (Ss▸bG) (fb▸ .b qv)
 | c hG=>exact Mt hR hA hn ha xb h kP dB hi hg bM hG (.inl fb) (λ_=>Ss) OO
theorem Ef(hR:lE F)(ha:gs[0]? =some a)(h:Cm F j gs w t X D q d0 S0 od)(hl:j9 F.ty F.Wg w){a':Goroutine}{es:Array Event}{tag':Tg}{Ee:Nat×Rk}{ON:Nat->Prop}(hgo:stepG F.C true a w= .go a' w' es)(hT:Tw (λb=>S0 b\/b=F.Wg) w w')
  (sN:WgAt F.ty F.Wg w' F9 Gc) (hS: ∀b,ON b->nw S0 w w' b) (sU: ∀e∈es,KR F (nw S0 w w') e) (uC:F.MS tag' j Ee (deafBehind d0 es) ON a' w') (dB:ConcN.Mode j (DM D) tag'.ct F9 Gc)
  (bG:uA F.n j (Vc j (DM D)) tag'<uA F.n j (Vc j (DM D)) tag\/(uA F.n j (Vc j (DM D)) tag'=uA F.n j (Vc j (DM D)) tag/\Prod.Lex Nat.lt Rk.lt Ee mr)):F.Next (F.mu j D q tag mr) gs w sl t 0:=by
 have bM:=runT_crowd_go (P:=F.C) (sl:=sl) (i:=0) ha (by simpa using hgo);have aaH:=(qa1.1 ha).1;refine ⟨_,_,F.mu j D q tag' Ee,bM, ?_,_,w',sl,j,X,D,q,deafBehind d0 es,ON,od,tag',Ee,a',F9,Gc,rfl,get_map_set_same _ _ _ aaH,uC,h.step0 hR hl ha hT ⟨_,_,sN⟩ hS sU,sN,dB,rfl⟩;unfold Fx.mu;refine IC (n:=0) ?_;rcases bG with bG | ⟨e,bG⟩
 ·exact .inl (by omega)
 ·exact .inr (.inr ⟨by rw [e],rfl,bG⟩)
omit [Payload] in
theorem open_inv{j:Nat}{D:Nat->WD}{tag:CTag}{st sm:Int}(hm:ConcN.Mode j D tag st sm)(h:isOpen tag):OpenSt j D/\st=((Vc j D+pend tag:Nat):Int)*KK/\sm=0/\ ∀vs,tag= .w2 vs->Vc j D<=vs/\1<=vs:=hm.open_inv h
omit [Payload] in
theorem Oh{N:Nat}{a b c:Mu}(h:LtM N a b)(k:b.1<c.1):LtM N a c:=by
 obtain ⟨a1,a2⟩:=a;obtain ⟨c1,c2⟩:=c;rcases Prod.lex_def.1 h with h | ⟨h,_⟩
 ·exact Prod.Lex.left _ _ (Nat.lt_trans h k)
 ·exact Prod.Lex.left _ _ (by simp only at h;subst h;exact k)
theorem w1Z{rk:Rk}{S0:Nat->Prop}(hR:lE F)(hn:F.n<2147483646)(ha:gs[0]? =some a)(h:Cm F F.n gs w t X D q 1 S0 od)(kP:WgAt F.ty F.Wg w st sm)(dB:ConcN.Mode F.n (DM D) (Tg.ct .w1) st sm)(hm:mr=(1,rk))
  (hT:Wk F.C true (j9 F.ty F.Wg) F.ff (MW1 F.C F.ty F.Wg F.ff F.Fin F.ij) rk S0 a w):F.Next (F.mu F.n D q .w1 mr) gs w sl t 0:=by
 have hl:j9 F.ty F.Wg w:=⟨_,_,kP⟩;have Th: ¬S0 F.Wg:=λhp=>(h.sep.s0 _ hp).1.2.1 rfl;have hVj:=Vc_le F.n (DM D);rcases hT.cases hl with ⟨_,lS⟩ | ⟨_,a',w',es,r',hgo,ho,bG,qv⟩
 ·obtain ⟨cM,rfl,rfl,_⟩:=open_inv dB trivial;obtain ⟨a',hgo,h0,j0⟩:=lS (Vc F.n (DM D)) (by omega) (by simpa [pend,Tg.ct] using kP);have SI: ∀e∈ #[rd (stA F.Wg)],Bk F.Wg e:=by intro e he;simp at he;subst he;exact bk_cell _ _ rfl
  by_cases hv:Vc F.n (DM D)=0
  ·obtain ⟨r,hk⟩:=h0 hv;refine Ef (tag':= .ke) hR ha h hl hgo (.refl _ w) kP (λb hb=> .inl hb) (λe he=>Gd (SI e he)) (.ke hk) ?_ (.inl (by simp only [uA];omega));have e:((Vc F.n (DM D)+pend (Tg.ct .w1):Nat):Int)*KK=0:=by rw [hv];simp [pend,Tg.ct]
   rw [e];exact .fin trivial (ConcN.allQuit_of cM hv)
  ·obtain ⟨r,hk⟩:=j0 hv;exact Ef (tag':= .w2 (Vc F.n (DM D))) hR ha h hl hgo (.refl _ w) kP (λb hb=> .inl hb) (λe he=>Gd (SI e he)) (.w2 hk) (dB.reopen trivial trivial rfl (λvs e=>by cases e;omega)) (.inl (by simp only [uA];omega))
 ·refine Ef (tag':= .w1) hR ha h hl hgo (SJ ho λb hb=> .inl hb) (kP.of_block (ho.blk _ h.cw.2.2.2 Th)) (λb hb=>hb) (λe he=>ID (ho.ev e he)) ?_ dB (.inr ⟨rfl,by rw [hm];exact Prod.Lex.right _ bG⟩);rw [ConcN.deafBehind_idle (λe he=>sP (ho.ev e he)) 1];exact .w1 qv
theorem Oi(hR:lE F)(hn:F.n<2147483646)(hAn: ∀S g w,F.ij S g w->j9 F.ty F.Wg w->TM F.C F.ty F.Wg F.ff (MW1 F.C F.ty F.Wg F.ff F.Fin F.ij) S g w)
  (ha:gs[0]? =some a) (xb:F.MS tag j mr d0 S0 a w) (h:Cm F j gs w t X D q d0 S0 od) (kP:WgAt F.ty F.Wg w st sm) (dB:ConcN.Mode j (DM D) tag.ct st sm) (bM:a.status= .running):
  F.Next (F.mu j D q tag mr) gs w sl t 0\/(tag= .acq/\j=F.n/\d0=0/\ ∃a',stepG F.C true a w= .go a' w #[mk (.acquire (stA F.Wg))]/\F.Fin S0 a' w):=by
 have hl:j9 F.ty F.Wg w:=⟨_,_,kP⟩;have Th: ¬S0 F.Wg:=λhp=>(h.sep.s0 _ hp).1.2.1 rfl;have hVj:=Vc_le j (DM D);have Uh:=h.jn;have own: ∀{a':Goroutine} {w':World} {es:Array Event} {r r':Rk},mr=(1,r)->stepG F.C true a w= .go a' w' es->Ow S0 F.ff w w' es->Rk.lt r' r->F.MS tag j (1,r') d0 (nw S0 w w') a' w'->F.Next (F.mu j D q tag mr) gs w sl t 0:=by
  intro a' w' es r r' hm hgo ho bG uC;refine Ef hR ha h hl hgo (SJ ho λb hb=> .inl hb) (kP.of_block (ho.blk _ h.cw.2.2.2 Th)) (λb hb=>hb) (λe he=>ID (ho.ev e he)) ?_ dB (.inr ⟨rfl,by rw [hm];exact Prod.Lex.right _ bG⟩);rw [ConcN.deafBehind_idle (λe he=>sP (ho.ev e he)) d0];exact uC
 have say: ∀{a':Goroutine} {e:Event} {tag':Tg} {r':Rk},stepG F.C true a w= .go a' w #[e]->KR F S0 e->F.MS tag' j (1,r') (deafBehind d0 #[e]) S0 a' w->ConcN.Mode j (DM D) tag'.ct st sm->uA F.n j (Vc j (DM D)) tag'<uA F.n j (Vc j (DM D)) tag->F.Next (F.mu j D q tag mr) gs w sl t 0:=by
  intro a' e tag' r' hgo he uC wz bG;refine Ef hR ha h hl hgo (.refl _ w) kP (λb hb=> .inl hb) (λx hx=> ?_) uC wz (.inl bG);simp at hx;subst hx;exact ⟨λx hx=>((he.1 x hx).imp id λq=>q.imp (λ⟨b,h1,h2⟩=>⟨b,h1, .inl h2⟩) id),he.2⟩
 have book: ∀{a':Goroutine} {w':World} {es:Array Event} {tag':Tg} {Ee:Nat×Rk} {F9 Gc:Int},stepG F.C true a w= .go a' w' es->Conc.Aside F.Wg w w'->WgAt F.ty F.Wg w' F9 Gc->(∀e∈es,Bk F.Wg e)->F.MS tag' j Ee (deafBehind d0 es) S0 a' w'->ConcN.Mode j (DM D) tag'.ct F9 Gc->
   (uA F.n j (Vc j (DM D)) tag'<uA F.n j (Vc j (DM D)) tag\/(uA F.n j (Vc j (DM D)) tag'=uA F.n j (Vc j (DM D)) tag/\Prod.Lex Nat.lt Rk.lt Ee mr))->F.Next (F.mu j D q tag mr) gs w sl t 0:=by
  intro a' w' es tag' Ee F9 Gc hgo hAs sN SI uC wz bG;exact Ef hR ha h hl hgo (Cl hAs (.inr rfl)) sN (λb hb=> .inl hb) (λe he=>Gd (SI e he)) uC wz bG
 have SK:KR F S0 (mk .disable):=⟨λx hx=>(by cases hx),(by simp [mk,MemAct.ofEvent])⟩;have XL:KR F S0 (mk .enable):=⟨λx hx=>(by cases hx),(by simp [mk,MemAct.ofEvent])⟩;have bk_rd: ∀e∈ #[rd (stA F.Wg)],Bk F.Wg e:=by intro e he;simp at he;subst he;exact bk_cell _ _ rfl
 have bk_rw: ∀e∈ #[rd (stA F.Wg),wr (stA F.Wg)],Bk F.Wg e:=by intro e he;simp at he;rcases he with rfl | rfl <;> exact bk_cell _ _ rfl
 have bk_sem: ∀e∈semEvents (smA F.Wg),Bk F.Wg e:=by
  intro e he;simp [semEvents] at he;rcases he with rfl | rfl | rfl | rfl
  ·exact .inl rfl
  ·exact bk_cell _ _ rfl
  ·exact bk_cell _ _ rfl
  ·exact .inr (.inl rfl)
 cases xb with
 | s5 hr hT=>
  refine .inl ?_;rcases hT.cases hl with ⟨_,a',hgo,r,hk⟩ | ⟨_,a',w',es,r',hgo,ho,bG,qv⟩
  ·exact say (tag':= .s4) hgo SK (.s4 hr hk) (dB.reopen trivial trivial rfl (by simp [Tg.ct])) (by simp only [uA];omega)
  ·exact own rfl hgo ho bG (.s5 hr qv)
 | s4 hr hT=>
  rename_i r0 _;refine .inl ?_;rcases hT.cases hl with ⟨_,lS⟩ | ⟨_,a',w',es,r',hgo,ho,bG,qv⟩
  ·obtain ⟨cM,rfl,rfl,_⟩:=open_inv dB trivial;obtain ⟨a',hgo,h0,h1⟩:=lS (Vc (F.n - (r0+1)) (DM D)) (by omega) (by simpa [pend,Tg.ct] using kP);have e:((((Vc (F.n - (r0+1)) (DM D):Nat):Int)+1)*KK)=((Vc (F.n - (r0+1)) (DM D)+1:Nat):Int)*KK:=by simp
   by_cases hv:Vc (F.n - (r0+1)) (DM D)=0
   ·obtain ⟨r,hk⟩:=h0 hv;refine book (tag':= .Sv) hgo (aside_setCell w (stA F.Wg) _) (kP.setSt _) bk_rw (.Sv hr hk) ?_ (.inl (by simp only [uA];omega));rw [e];exact .opn trivial cM (by simp [Tg.ct])
   ·obtain ⟨r,hk⟩:=h1 hv;refine book (tag':= .s3) hgo (aside_setCell w (stA F.Wg) _) (kP.setSt _) bk_rw (.s3 hr hk) ?_ (.inl (by simp only [uA];omega));rw [e];exact .opn trivial cM (by simp [Tg.ct])
  ·exact own rfl hgo ho bG (.s4 hr qv)
 | Sv hr hT=>
  refine .inl ?_;rcases hT.cases hl with ⟨_,a',hgo,r,hk⟩ | ⟨_,a',w',es,r',hgo,ho,bG,qv⟩
  ·refine say (tag':= .s3) hgo ⟨λx hx=> .inl ?_,by simp [mk,MemAct.ofEvent]⟩ (.s3 hr hk) (dB.reopen trivial trivial rfl (by simp [Tg.ct])) (by simp only [uA];omega);simp only [mk,MemAct.ofEvent,MemAct.touch?, qae] at hx;subst hx;exact ⟨⟨_,rfl,rfl⟩,by simp⟩
  ·exact own rfl hgo ho bG (.Sv hr qv)
 | s3 hr hT=>
  refine .inl ?_;rcases hT.cases hl with ⟨_,a',hgo,r,hk⟩ | ⟨_,a',w',es,r',hgo,ho,bG,qv⟩
  ·exact say (tag':= .s2) hgo XL (.s2 hr hk) (dB.reopen trivial trivial rfl (by simp [Tg.ct])) (by simp only [uA];omega)
  ·exact own rfl hgo ho bG (.s3 hr qv)
 | s2 hr hT=>
  rename_i r0 rk0;refine .inl ?_;rcases hT.cases hl with ⟨_,a',child,hsp,hcr,x0,S',hbn,hbS,vN,IL,aiy,AU⟩ | ⟨_,a',w',es,r',hgo,ho,bG,qv⟩
  ·obtain ⟨rk,hwk⟩:=aiy h.keep;obtain ⟨cM,rfl,rfl,_⟩:=open_inv dB trivial;have Mv:=runT_crowd_spawn (P:=F.C) (sl:=sl) (i:=0) ha (by simpa using hsp);rw [h.size] at Mv;have AD:=h.spawn (by omega) (a':=a') (child:=child) (ON:=S') (x0:=x0) (u:={ g:=0,fn:=a.frame.fn,pos:=a.frame.place,act:= .go (F.K0+1+(F.n - (r0+1))) }) (v:={ g:=F.K0+1+(F.n - (r0+1)),fn:=child.frame.fn,pos:=a.frame.place,act:= .start }) (rk:=rk) ⟨rfl,rfl⟩ ⟨rfl,rfl⟩ (.a hwk) hbn hbS vN IL λb hb=>qa2 hb.1 h.C5;have eD:DM (upd D (F.n - (r0+1)) ⟨9,rk,0,λ_=>False,undef,λ_=>False,λ_=>False⟩)=upd (DM D) (F.n - (r0+1)) ⟨7,0,0⟩:=by rw [uB];rfl
   have eV:Vc (F.n - (r0+1)+1) (upd (DM D) (F.n - (r0+1)) ⟨7,0,0⟩)=Vc (F.n - (r0+1)) (DM D)+1:=by
    simp only [Vc,sumTo,upd_same];rw [sumTo_upd_out (DM D) _ cnt (qa3 _)];rfl
   have eS:Sg (F.n - (r0+1)+1) (upd D (F.n - (r0+1)) ⟨9,rk,0,λ_=>False,undef,λ_=>False,λ_=>False⟩)=Sg (F.n - (r0+1)) D+9:=by
    simp only [Sg,sumTo,upd_same];rw [sumTo_upd_out D _ Cj.stage (qa3 _)]
   have GQ:OpenSt (F.n - (r0+1)+1) (upd (DM D) (F.n - (r0+1)) ⟨7,0,0⟩):=λi hi=>by
    by_cases e:i=F.n - (r0+1)
    ·subst e;rw [upd_same];simp
    ·rw [upd_ne _ _ e];exact cM i (by omega)
   have ha':((gs.setIfInBounds 0 a').push child)[0]? =some a':=by
    have bG:=(qa1.1 ha).1;rw [qbw (by simp [bG]), ←Array.getElem?_eq_getElem];simp [bG]
   have fin: ∀(tag':Tg) (Ee:Nat×Rk),F.MS tag' (F.n - (r0+1)+1) Ee 0 S' a' w->isOpen tag'.ct->pend tag'.ct=0->(∀vs,tag'.ct≠ .w2 vs)->uA F.n (F.n - (r0+1)+1) (Vc (F.n - (r0+1)) (DM D)+1) tag'+9<uA F.n (F.n - (r0+1)) (Vc (F.n - (r0+1)) (DM D)) .s2->
     F.Next (F.mu (F.n - (r0+1)) D q .s2 (1,rk0)) gs w sl t 0:=λtag' Ee uC aiz hp tK bG=>by
    refine ⟨_,_,_,Mv, ?_,_,w,sl,F.n - (r0+1)+1,upd X (F.n - (r0+1)) x0,upd D (F.n - (r0+1)) ⟨9,rk,0,λ_=>False,undef,λ_=>False,λ_=>False⟩,q,0,S',od,tag',Ee,a',_,_,rfl,ha',uC, ?_,kP, ?_,rfl⟩
    ·unfold Fx.mu;rw [eD,eV,eS];exact IC (n:=0) (.inl (by omega))
    ·have:MemOp.ofEvents 0 a.frame.fn a.frame.place #[]= #[]:=rfl;simp only [this];exact AD
    ·rw [eD];have:=ConcN.Mode.opn (j:=F.n - (r0+1)+1) (D:=upd (DM D) (F.n - (r0+1)) ⟨7,0,0⟩) aiz GQ (λvs e=>absurd e (tK vs));rw [eV,hp] at this;exact this
   cases r0 with
   | zero=>
    obtain ⟨rk',hk⟩:=(show TM _ _ _ _ _ _ _ _ from AU);have e:F.n - (0+1)+1=F.n:=by omega
    refine fin .kd (1,rk') ?_ trivial rfl (by simp [Tg.ct]) (by simp only [uA];omega);rw [e];exact .kd hk
   | succ r1=>
    obtain ⟨rk',hk⟩:=(show TM _ _ _ _ _ _ _ _ from AU);have e:F.n - (r1+1+1)+1=F.n - (r1+1):=by omega
    refine fin .s5 (1,rk') ?_ trivial rfl (by simp [Tg.ct]) (by simp only [uA];omega);rw [e];exact .s5 (by omega) hk
  ·exact own rfl hgo ho bG (.s2 hr qv)
 | kd hT=>
  refine .inl ?_;rcases hT.cases hl with ⟨_,a',hgo,r,hk⟩ | ⟨_,a',w',es,r',hgo,ho,bG,qv⟩
  ·exact say (tag':= .anch) hgo SK (.anch hk) (dB.reopen trivial trivial rfl (by simp [Tg.ct])) (by simp only [uA];omega)
  ·exact own rfl hgo ho bG (.kd qv)
 | anch hT=>
  refine .inl ?_;rcases hT.cases hl with nZ | ⟨_,a',w',es,r',hgo,ho,bG,qv⟩
  ·obtain ⟨r,hk⟩:=hAn _ _ _ nZ hl;obtain ⟨m₁,ops,μ',h1,h2,h3⟩:=w1Z (mr:=(1,r)) (sl:=sl) hR hn ha h kP (dB.reopen trivial trivial rfl (by simp [Tg.ct])) rfl hk;exact ⟨m₁,ops,μ',h1,Oh h2 (by unfold Fx.mu;simp only [uA];omega),h3⟩
  ·exact own rfl hgo ho bG (.anch qv)
 | w1 hT=>exact .inl (w1Z hR hn ha h kP dB rfl hT)
 | w2 hT=>
  rename_i vs _;refine .inl ?_;rcases hT.cases hl with ⟨_,lS⟩ | ⟨_,a',w',es,r',hgo,ho,bG,qv⟩
  ·obtain ⟨cM,rfl,rfl,tK⟩:=open_inv dB trivial;obtain ⟨hle,h1⟩:=tK vs rfl;obtain ⟨aiA,aew⟩:=lS (Vc F.n (DM D)) (by omega) (by simpa [pend,Tg.ct] using kP);by_cases e:Vc F.n (DM D)=vs
   ·obtain ⟨a',hgo,r,hk⟩:=aiA e;exact book (tag':= .Sy) hgo (aside_setCell w (stA F.Wg) _) (kP.setSt _) bk_rw (.Sy hk) (.reg trivial cM (by omega)) (.inl (by simp only [uA];omega))
   ·obtain ⟨a',hgo,r,hk⟩:=aew e;exact book (tag':= .anch) hgo (.refl F.Wg w) kP bk_rd (.anch hk) (dB.reopen trivial trivial rfl (by simp [Tg.ct])) (.inl (by simp only [uA];omega))
  ·exact own rfl hgo ho bG (.w2 qv)
 | Sy hT=>
  refine .inl ?_;rcases hT.cases hl with ⟨_,a',hgo,r,hk⟩ | ⟨_,a',w',es,r',hgo,ho,bG,qv⟩
  ·refine say (tag':= .w3) hgo ⟨λx hx=> .inl ?_,by simp [mk,MemAct.ofEvent]⟩ (.w3 hk) dB (by simp only [uA];omega);simp only [mk,MemAct.ofEvent,MemAct.touch?, qae] at hx;subst hx;exact ⟨⟨_,rfl,rfl⟩,by simp⟩
  ·exact own rfl hgo ho bG (.Sy qv)
 | w3 hT=>
  refine .inl ?_;rcases hT.cases hl with ⟨_,bh,hblk,aex⟩ | ⟨_,a',w',es,r',hgo,ho,bG,qv⟩
  ·generalize Tj:Tg.ct .w3=ct at dB;cases dB with
   | opn h1 _ _=>rw [←Tj] at h1;exact h1.elim
   | reg h1 h2 h3=>exact book (tag':= .blk) (hblk ⟨_,kP⟩) (.refl F.Wg w) kP (by simp) (.blk hT bM bh) (.reg trivial h2 h3) (.inr ⟨rfl,Prod.Lex.left _ _ Nat.zero_lt_one⟩)
   | last L h1 h2 h3 h4=>exact book (tag':= .blk) (hblk ⟨_,kP⟩) (.refl F.Wg w) kP (by simp) (.blk hT bM bh) (.last L trivial h2 h3 h4) (.inr ⟨rfl,Prod.Lex.left _ _ Nat.zero_lt_one⟩)
   | sema h2=>
    obtain ⟨a',hgo,r,hk⟩:=aex kP;exact book (tag':= .w4) hgo (aside_setCell w (smA F.Wg) _) (kP.setSm 0) bk_sem (.w4 hk) (.fin trivial h2) (.inl (by simp only [uA];omega))
   | fin h1 _=>rw [←Tj] at h1;exact h1.elim
  ·exact own rfl hgo ho bG (.w3 qv)
 | blk hT=>simp at bM
 | w4 hT=>
  refine .inl ?_;rcases hT.cases hl with ⟨_,hx⟩ | ⟨_,a',w',es,r',hgo,ho,bG,qv⟩
  ·obtain ⟨hq,rfl,rfl⟩:=dB.fin_inv trivial;obtain ⟨a',hgo,r,hk⟩:=hx kP;exact book (tag':= .ke) hgo (.refl F.Wg w) kP bk_rd (.ke hk) (.fin trivial hq) (.inl (by simp only [uA];omega))
  ·exact own rfl hgo ho bG (.w4 qv)
 | ke hT=>
  refine .inl ?_;rcases hT.cases hl with ⟨_,a',hgo,r,hk⟩ | ⟨_,a',w',es,r',hgo,ho,bG,qv⟩
  ·obtain ⟨hq,rfl,rfl⟩:=dB.fin_inv trivial;exact say (tag':= .acq) hgo XL (.acq hk) (.fin trivial hq) (by simp only [uA];omega)
  ·exact own rfl hgo ho bG (.ke qv)
 | acq hT=>
  rcases hT.cases hl with ⟨_,a',hgo,hk⟩ | ⟨_,a',w',es,r',hgo,ho,bG,qv⟩
  ·exact .inr ⟨rfl,rfl,rfl,a',hgo,hk⟩
  ·exact .inl (own rfl hgo ho bG (.acq qv))
end
end Go.Cx
namespace Go.Cx
open Go Go.Conc
open Go.ConcR (KK WgAt stA smA rd wr mk Payload DC0 Bk ofEvent_loc_mark ofEvent_mk)
open Go.ConcN (WgLive WD cnt Vc CTag upd sumTo upd_same upd_ne ShN RelBy get_map_set get_map_set_same exists_counted)
section
variable[Payload]{F:Fx}{Φ:Machine->Trace->Prop}
variable{j:Nat}{gs:Array Goroutine}{w:World}{t:Trace}{X:Nat->Wx}{D:Nat->Cj}{q:Nat->Nat}{d0:Nat}{S0:Nat->Prop}{od:List Nat}{sl:Option (Nat×Nat)}{tag:Tg}{mr:Nat×Rk}{a:Goroutine}{st sm:Int}
theorem WS.quits{x:Wx}{i:Nat}{rk:Rk}{d:Nat}{S:Nat->Prop}{g:Goroutine}(h:F.WS x i 1 rk d S g w): ∃m,QuitsD F.C m d g:=by
 cases h with
 | c h=>exact ⟨_,h.quits rfl⟩
theorem aaI(ha:gs[0]? =some a)(h:Cm F F.n gs w t X D q 0 S0 od)(hl:j9 F.ty F.Wg w)(hq: ∀i,i<F.n->(D i).stage=1){a':Goroutine}(hgo:stepG F.C true a w= .go a' w #[mk (.acquire (stA F.Wg))]):
  ∃qN ops q',runT F.C (crowd gs w sl) 0=(.next (crowd qN w sl),ops)/\qN[0]? =some a'/\Qt F.C (λl=>F.cX l\/ShN F.Wg l) qN w.heap.size (t++ops) q':=by
 classical
 have bM:=runT_crowd_go (P:=F.C) (sl:=sl) (i:=0) ha (by simpa using hgo);have aaH:=(qa1.1 ha).1;have e1:MemOp.ofEvents 0 a.frame.fn a.frame.place #[mk (.acquire (stA F.Wg))]= #[{ g:=0,fn:=a.frame.fn,pos:=a.frame.place,act:= .mark (.acquire (stA F.Wg)) }]:=by rw [ofEvents_eq];simp [ofEvent_mk]
 rw [e1] at bM;have fb: ∀op∈ #[({ g:=0,fn:=a.frame.fn,pos:=a.frame.place,act:= .mark (.acquire (stA F.Wg)) }:MemOp)],op.act≠ .mark .disable/\op.act≠ .mark .enable:=by
  intro op cM;simp at cM;subst cM;exact ⟨by simp,by simp⟩
 obtain ⟨r1,r2⟩:=h.ti.acquire (a:=stA F.Wg) (T0:=F.T0) (λk hk=>by
   obtain ⟨i,hi,rfl⟩:=jh.1 hk;exact h.rel i hi (by rw [hq i hi];omega)) h.norel h.deaf0 (x:={ g:=0,fn:=a.frame.fn,pos:=a.frame.place,act:= .mark (.acquire (stA F.Wg)) }) ⟨rfl,rfl⟩ h.ho (λk hk=>by have:=hk.1;omega)
 have hw: ∀i,i<F.n-> ∃g m,gs[F.K0+1+i]? =some g/\QuitsD F.C m (Deaf t (F.K0+1+i)) g:=λi hi=>by
  obtain ⟨g,hg,hs⟩:=h.wk i hi;rw [hq i hi] at hs;obtain ⟨m,hm⟩:=hs.quits;exact ⟨g,m,hg,by rw [h.deafW i hi];exact hm⟩
 refine ⟨_,_,λk=>if hk: ∃m, ∃g,gs[k]? =some g/\QuitsD F.C m (Deaf t k) g then hk.choose else 0,bM,get_map_set_same _ _ _ aaH, ?_⟩;refine ⟨λk h1 h2=> ?_, ?_,r2,by rw [ConcN.Deaf_still t 0 _ fb];exact h.deaf0,λl b hB qI=> ?_⟩
 ·have hex: ∃m, ∃g,gs[k]? =some g/\QuitsD F.C m (Deaf t k) g:=by
   have II:k<gs.size:=by simpa using h2
   rw [h.size] at II;rcases Nat.lt_or_ge F.K0 k with hk | hk
   ·obtain ⟨g,m,hg,hm⟩:=hw (k - F.K0 - 1) (by omega);rw [show F.K0+1+(k - F.K0 - 1)=k by omega] at hg hm;exact ⟨m,g,hg,hm⟩
   ·obtain ⟨g,hg,hm⟩:=h.lv k h1 hk;exact ⟨_,g,hg,hm⟩
  obtain ⟨g,hg,hm⟩:=hex.choose_spec;refine ⟨g,by rw [get_map_set _ _ _ _ (by omega),hg,qac,woken_quitsD hm], ?_⟩;show QuitsD F.C (dite _ _ _) _ _;rw [dif_pos hex,ConcN.Deaf_still t k _ fb];exact hm
 ·have mo:((gs.map (woken F.C a a' w)).setIfInBounds 0 a').size - 1=F.K0+F.n:=by simp [h.size]
  rw [mo];exact r1.congr (λ_ h=>h) (λ_ h=>h.elim) (λ_ h=>h.elim)
 ·rcases hB with hB | hB
  ·exact qa2 (h.vv l b hB qI) h.C5
  ·rw [jX hB qI];exact h.cw.2.2.2
theorem aaJ(hA: ∀S g w,F.ij S g w->g.status= .running)(ha:gs[0]? =some a)(xb:F.MS tag j mr d0 S0 a w)(h:Cm F j gs w t X D q d0 S0 od)(kP:WgAt F.ty F.Wg w st sm)(dB:ConcN.Mode j (DM D) tag.ct st sm)
  {k:Nat} (hk:1<=k) (qM:k<=F.K0) {y:Goroutine} (hy:gs[k]? =some y) (GR:y.status= .running):F.Next (F.mu j D q tag mr) gs w sl t k:=by
 have hl:j9 F.ty F.Wg w:=⟨_,_,kP⟩;obtain ⟨y',es,n,bM,hn,AD⟩:=h.leave hl ha hk qM hy GR (sl:=sl);obtain ⟨tag',Ee,uC,SE,_⟩:=xb.wokenBy hA (h.ry0 (.refl (λ_=>False) w) hl λ_ _ h=>h) y y';refine ⟨_,_,F.mu j D (upd q k n) tag' Ee,bM, ?_,_,w,sl,j,X,D,_,d0,S0,od,tag',Ee,woken F.C y y' w a,st,sm,rfl,by rw [get_map_set _ _ _ _ (by omega),ha];rfl,uC,AD,kP,dB.retag (XG SE),rfl⟩;unfold Fx.mu;rw [SC SE];refine IC (n:=0) (.inr (.inl ⟨rfl,k,by omega, ?_,λk' _ j0=> ?_⟩))
 ·unfold fam;rw [if_pos qM,if_pos qM,upd_same,hn];exact KQ n
 ·unfold fam;by_cases LD:k'<=F.K0
  · rw [if_pos LD,if_pos LD,upd_ne q _ j0]
  · rw [if_neg LD,if_neg LD]
theorem SL(hA: ∀S g w,F.ij S g w->g.status= .running)(ha:gs[0]? =some a)(xb:F.MS tag j mr d0 S0 a w)(h:Cm F j gs w t X D q d0 S0 od)(hl:j9 F.ty F.Wg w)(dB:ConcN.Mode j (DM D) tag.ct st sm): ∃(i:Nat) (g:Goroutine),gs[i]? =some g/\g.status= .running:=by
 rcases xb.status hA hl with ⟨hs,_⟩ | ⟨_,_,rfl⟩
 ·exact ⟨0,a,ha,hs⟩
 ·generalize Tj:Tg.ct .blk=ct at dB;cases dB with
  | opn h1 _ _=>rw [←Tj] at h1;exact h1.elim
  | reg _ _ h3=>
   obtain ⟨i,hi,h5⟩:=exists_counted h3;obtain ⟨g,hg,hs⟩:=h.wk i hi;have h5':5<=min 7 (D i).stage:=h5;exact ⟨_,g,hg,hs.running_of hl (by omega)⟩
  | last L _ h2 h3 _=>
   obtain ⟨g,hg,hs⟩:=h.wk L h2;have h3':min 7 (D L).stage=4\/min 7 (D L).stage=3\/min 7 (D L).stage=2:=h3;exact ⟨_,g,hg,hs.running_of hl (by omega)⟩
  | sema _=>cases Tj
  | fin h1 _=>rw [←Tj] at h1;exact h1.elim
theorem aaK(hA: ∀S g w,F.ij S g w->g.status= .running)(ha:gs[0]? =some a)(xb:F.MS tag j mr d0 S0 a w)(h:Cm F j gs w t X D q d0 S0 od)(hl:j9 F.ty F.Wg w): ∀g∈gs,awake g:=by
 intro g hg tm;obtain ⟨i,hi⟩:=Array.mem_iff_getElem?.1 hg;have bG:=(qa1.1 hi).1;rw [h.size] at bG;rcases Nat.eq_zero_or_pos i with rfl | uO
 ·rw [ha] at hi;cases hi;rcases xb.status hA hl with ⟨hs,_⟩ | ⟨hs,_⟩ <;> rw [hs] <;> simp
 ·rcases Nat.lt_or_ge F.K0 i with yn | yn
  ·obtain ⟨x',wV,hw⟩:=h.wk (i - F.K0 - 1) (by omega);rw [show F.K0+1+(i - F.K0 - 1)=i by omega,hi] at wV;cases wV;rcases hw.status hl with e | e <;> rw [e] <;> simp
  ·obtain ⟨x',wV,hw⟩:=h.lv i uO yn;rw [hi] at wV;cases wV;rcases hw.status with e | e <;> rw [e] <;> simp
theorem aay(hR:lE F)(hn:F.n<2147483646)(hA: ∀S g w,F.ij S g w->g.status= .running)(hAn: ∀S g w,F.ij S g w->j9 F.ty F.Wg w->TM F.C F.ty F.Wg F.ff (MW1 F.C F.ty F.Wg F.ff F.Fin F.ij) S g w)
  (aiB: ∀(gs qN:Array Goroutine) (w:World) (sl:Option (Nat×Nat)) (t t':Trace) (X:Nat->Wx) (D:Nat->Cj) (q q':Nat->Nat) (S0:Nat->Prop) (od:List Nat) (a':Goroutine),qN[0]? =some a'->F.Fin S0 a' w->j9 F.ty F.Wg w->Cm F F.n gs w t X D q 0 S0 od->(∀i,i<F.n->(D i).stage=1)->
   Qt F.C (λl=>F.cX l\/ShN F.Wg l) qN w.heap.size t' q'->jr F.C Φ (crowd qN w sl) t'):
  ∀(μ:Mu) (m:Machine) (t:Trace),F.Inv μ m t->jr F.C Φ m t:=by
 intro μ
 induction μ using (LtM.wf (F.K0+1+F.n)).induction with
 | _ μ ih=>
  rintro m t ⟨gs,w,sl,j,X,D,q,d0,S0,od,tag,mr,a,st,sm,rfl,ha,xb,h,kP,dB,rfl⟩;have hl:j9 F.ty F.Wg w:=⟨_,_,kP⟩;obtain ⟨i,g,d,wA,hg,bM,jF⟩:=crowd_pick (P:=F.C) (w:=w) (sl:=sl) (aaK hA ha xb h hl) (SL hA ha xb h hl dB);have uC:F.MS tag j mr d0 S0 a (w.at d):=xb.rely ⟨λ_ _=>rfl,qa3 _,hl⟩;have h':=h.at hR hl d;have sN:WgAt F.ty F.Wg (w.at d) st sm:=kP;have go: ∀k,stepT F.C (crowd gs w sl)=runT F.C (crowd gs (w.at d) wA) k->F.Next (F.mu j D q tag mr) gs (w.at d) wA t k->jr F.C Φ (crowd gs w sl) t:=by
   rintro k hk ⟨m₁,ops,μ',h1,h2,h3⟩;exact jr.step (hk.trans h1) (ih μ' h2 m₁ (t++ops) h3)
  have bG:=(qa1.1 hg).1;rw [h.size] at bG;rcases Nat.eq_zero_or_pos i with rfl | uO
  ·rw [ha] at hg;cases hg;rcases Oi (sl:=wA) hR hn hAn ha uC h' sN dB bM with Ey | ⟨rfl,rfl,rfl,a',hgo,ED⟩
   ·exact go 0 jF Ey
   ·obtain ⟨hq,_,_⟩:=dB.fin_inv trivial;have TU: ∀i,i<F.n->(D i).stage=1:=λi hi=>by
     have:min 7 (D i).stage=1:=hq i hi;omega
    obtain ⟨qN,ops,q',r1,r2,r3⟩:=aaI (sl:=wA) ha h' hl TU hgo;exact jr.step (jF.trans r1) (aiB _ _ _ _ _ _ _ _ _ _ _ _ _ r2 ED hl h' TU r3)
  ·rcases Nat.lt_or_ge F.K0 i with yn | yn
   ·have e:F.K0+1+(i - F.K0 - 1)=i:=by omega
    rw [←e] at hg jF;exact go _ jF (IE (sl:=wA) hR hA hn ha uC h' sN dB (by omega) hg bM)
   ·exact go _ jF (aaJ (sl:=wA) hA ha uC h' sN dB uO yn hg bM)
end
end Go.Cx
namespace Go.Cx
open Go Go.Conc
open Go.ConcN (sumTo)
section
variable{C:Program}{Φ:Machine->Trace->Prop}{cX:Loc->Prop}{gs:Array Goroutine}{W W1:World}{sl:Option (Nat×Nat)}{t:Trace}{q:Nat->Nat}{g g1:Goroutine}{es:Array Event}
def Gb(cX:Loc->Prop)(sz:Nat)(b:Nat):Prop:=b<sz/\ ∀l,iM l b-> ¬cX l
theorem KP(h0:gs[0]? =some g)(hq:Qt C cX gs W.heap.size t q)(fb:stepG C true g W= .go g1 W1 es)(mo:W.heap.size<=W1.heap.size)
  (sU: ∀e∈es,(∀x,(MemAct.ofEvent e).touch? =some x-> ∃b,iM x.loc b/\Gb cX W1.heap.size b)/\e.loc≠ .mark .disable/\e.loc≠ .mark .enable):
  ∃Aj ops,runT C (crowd gs W sl) 0=(.next (crowd Aj W1 sl),ops)/\Aj[0]? =some g1/\Aj.size=gs.size/\Qt C cX Aj W1.heap.size (t++ops) q:=by
 have bM:=runT_crowd_go (P:=C) (sl:=sl) (i:=0) h0 (by simpa using fb);have bG:=(qa1.1 h0).1;have KT:((gs.map (woken C g g1 W1)).setIfInBounds 0 g1).size=gs.size:=by simp
 refine ⟨_,_,bM,ConcN.get_map_set_same _ _ _ bG,KT,⟨λk GD yn=> ?_, ?_,hq.ho.app bP (.inl rfl), ?_,λl b hB hl=>qa2 (hq.vv l b hB hl) mo⟩⟩
 ·rw [KT] at yn;obtain ⟨z,hz,wW⟩:=hq.wk k GD yn;refine ⟨z, ?_, ?_⟩
  ·rw [ConcN.get_map_set _ _ _ _ (by omega),hz,qac,woken_quitsD wW]
  ·rw [Deaf_other t (by omega) _ bP];exact wW
 ·rw [KT];refine hq.ti.app bP (qa8 _) id mo (λ_ _ h=>h) (λ_ _ h=> .inl h) TT (λop cM x hx b hb=> ?_) λop cM x hx=> ?_
  ·obtain ⟨e,he,ha⟩:=fA cM;rw [ha] at hx;obtain ⟨c,h1,h2⟩:=(sU e he).1 x hx;have:=iM.inj h1 hb;subst this;exact h2.1
  ·obtain ⟨e,he,ha⟩:=fA cM;rw [ha] at hx;obtain ⟨c,h1,h2⟩:=(sU e he).1 x hx;exact .inr (.inl ⟨id,h2.2 _ h1,rfl,λ_ h=>h.elim,λ_ _ h=>h.elim⟩)
 ·rw [Deaf_own,hq.d0];exact ConcN.deafBehind_idle (λe he=>(sU e he).2) 0
theorem Mp{Aj:Array Goroutine}{u:Trace}(h0:gs[0]? =some g)(hq:Qt C cX gs W.heap.size t q)(e:Aj=gs.setIfInBounds 0 g1)(mo:W1.heap.size=W.heap.size)(hu: ∀op∈u,op.g=0/\op.act.touch? =none/\op.act≠ .mark .disable/\op.act≠ .mark .enable):
  Aj[0]? =some g1/\Aj.size=gs.size/\Qt C cX Aj W1.heap.size (t++u) q:=by
 subst e;have bG:=(qa1.1 h0).1;have GH: ∀k,Deaf (t++u) k=Deaf t k:=λk=>ConcN.Deaf_still t k u λop cM=>(hu op cM).2.2;have KT:(gs.setIfInBounds 0 g1).size=gs.size:=by simp
 refine ⟨by simp [bG],KT,⟨λk GD yn=> ?_, ?_,hq.ho.app (λop cM=>(hu op cM).1) (.inl rfl),by rw [GH];exact hq.d0,λl b hB hl=>by rw [mo];exact hq.vv l b hB hl⟩⟩
 ·rw [KT] at yn;obtain ⟨z,hz,wW⟩:=hq.wk k GD yn;exact ⟨z,by rw [qan (by omega)];exact hz,by rw [GH];exact wW⟩
 ·rw [KT,mo];exact hq.ti.app (λop cM=>(hu op cM).1) (qa8 _) id (qa3 _) (λ_ _ h=>h) (λ_ _ h=> .inl h) TT (λop cM x hx=>by rw [(hu op cM).2.1] at hx;cases hx) λop cM x hx=>by rw [(hu op cM).2.1] at hx;cases hx
structure aiC(cX:Loc->Prop)(S S':Nat->Prop)(W W':World):Prop where
 tape:W'.tape=W.tape
 os:W'.os=W.os
 output:W'.output=W.output
 size:W.heap.size<=W'.heap.size
 own: ∀b,S' b->(S b\/W.heap.size<=b)/\Gb cX W'.heap.size b
 blk: ∀b,b<W.heap.size-> ¬S b->W'.heap[b]? =W.heap[b]?
 sub: ∀b,S b->S' b
theorem qh{w:World}{n0:Nat}{sz:Nat}(hr:g.status= .running)
  (K: ∀gs W sl t q,gs[0]? =some g->gs.size=n0->Wq W w->Qt C cX gs sz t q->WA C Φ gs W sl t):
  ∀(r:Nat) (gs:Array Goroutine) (W:World) (sl:Option (Nat×Nat)) (t:Trace) (q:Nat->Nat),sumTo gs.size q=r->gs[0]? =some g->gs.size=n0->Wq W w->Qt C cX gs sz t q->jr C Φ (crowd gs W sl) t:=by
 intro r
 induction r using Nat.strongRecOn with
 | _ r ih=>
  intro gs W sl t q Pz h0 hn hw hq;obtain ⟨i,y,d,wA,hy,GR,hs⟩:=crowd_pick (P:=C) (w:=W) (sl:=sl) (hq.awake h0 hr) ⟨0,g,h0,hr⟩;cases i with
  | zero=>
   obtain ⟨m1,ops,h1,h2⟩:=K gs (W.at d) wA t q h0 hn (hw.at d) hq;exact jr.step (hs.trans h1) h2
  | succ i=>
   obtain ⟨qN,ops,q',h1,h2,h3,h4,h5⟩:=hq.leave (W:=W.at d) (sl:=wA) h0 hr (k:=i+1) (by omega) hy GR;exact jr.step (hs.trans h1) (ih _ (by rw [←Pz];exact h5) qN (W.at d) wA (t++ops) q' (by rw [h3]) h2 (h3.trans hn) (hw.at d) h4)
theorem Iy{Iv:World->Prop}{Ro Sx:Nat->Prop}{Stop:(Nat->Prop)->Goroutine->World->Prop}(FV: ∀S g w w',Stop S g w->Wq w' w->Stop S g w')(hI: ∀w w':World,Iv w->w.heap.size<=w'.heap.size->(∀b,b<w.heap.size-> ¬Sx b->w'.heap[b]? =w.heap[b]?)->Iv w'):
  ∀(r:Rk) (S:Nat->Prop) (g:Goroutine) (W:World) (gs:Array Goroutine) (sl:Option (Nat×Nat)) (t:Trace) (q:Nat->Nat),Wk C true Iv Ro Stop r S g W->Iv W->gs[0]? =some g->Qt C cX gs W.heap.size t q->(∀b,S b->Sx b)->(∀b,W.heap.size<=b->Sx b)->(∀b,S b\/Ro b->Gb cX W.heap.size b)->
   (∀(S':Nat->Prop) (g':Goroutine) (W':World) (qN:Array Goroutine) (wA:Option (Nat×Nat)) (t':Trace) (q':Nat->Nat),qN[0]? =some g'->qN.size=gs.size->Qt C cX qN W'.heap.size t' q'->aiC cX S S' W W'->Iv W'->Stop S' g' W'->jr C Φ (crowd qN W' wA) t')->
   jr C Φ (crowd gs W sl) t:=by
 intro r
 induction r.acc with
 | intro r _ ih=>
  intro S g W gs sl t q hW hi h0 hq hSx hNx hS K;by_cases hs:Stop S g W
  ·exact K S g W gs sl t q h0 rfl hq ⟨rfl,rfl,rfl,qa3 _,λb hb=>⟨.inl hb,hS b (.inl hb)⟩,λ_ _ _=>rfl,λ_ h=>h⟩ hi hs
  ·have bM:g.status= .running:=(hW.cases hi).elim (λq=>absurd q hs) λq=>q.1;have key: ∀(n0:Nat),gs.size=n0->jr C Φ (crowd gs W sl) t:=by
    intro n0 aS;refine (qh (w:=W) (g:=g) (n0:=n0) bM ?_ _ gs W sl t q rfl h0 aS (.refl W) hq);intro gs2 W2 Sp t2 q2 OL MJ ju Gn;have Ap:Iv W2:=hI _ _ hi (qav (by rw [ju.heap])) λb _ _=>by rw [ju.heap]
    have aiD:=hW.rely (w₁:=W2) ⟨λb _=>by rw [ju.heap],qav (by rw [ju.heap]),Ap⟩;rw [←ju.heap] at Gn;rcases aiD.cases Ap with hs2 | ⟨_,g',W',es,r',fb,ho,bG,hk⟩
    ·exact absurd (FV _ _ _ _ hs2 ju.symm) hs
    ·have hS2: ∀b,nw S W2 W' b\/Ro b->Gb cX W'.heap.size b:=λb hb=>by
      rcases hb with (hb | ⟨b1,b2⟩) | hb
      ·have:=hS b (.inl hb);exact ⟨qa2 (by rw [ju.heap];exact this.1) ho.size,this.2⟩
      ·exact ⟨b2,λl hl hB=>absurd (Gn.vv l b hB hl) (qce.2 b1)⟩
      ·have:=hS b (.inr hb);exact ⟨qa2 (by rw [ju.heap];exact this.1) ho.size,this.2⟩
     obtain ⟨gs3,ops,r1,r2,r3,r4⟩:=KP (sl:=Sp) OL Gn fb ho.size λe he=>⟨λx hx=>by
      rcases (rR (ho.ev e he)).1 x hx with ⟨_,⟨b,h1,h2⟩ | ⟨⟨b,h1,h2⟩,_⟩⟩
      ·exact ⟨b,h1,hS2 b (.inl h2)⟩
      ·exact ⟨b,h1,hS2 b (.inr h2)⟩,sP (ho.ev e he)⟩
     refine ⟨_,_,r1,ih r' bG _ g' W' gs3 Sp _ q2 hk (hI _ _ Ap ho.size λb hb hn=>ho.blk b hb λq=>hn (hSx b q)) r2 r4 (λb hb=> ?_) (λb hb=>hNx b (qaa (by rw [ju.heap];exact qa3 _) (qaa ho.size hb))) hS2 λS' g'' W'' aiE aiF t'' q'' a1 a2 a3 a4 a5 a6=>K S' g'' W'' aiE aiF t'' q'' a1 (by rw [a2,r3,MJ,aS]) a3 ?_ a5 a6⟩
     ·rcases hb with hb | hb
      ·exact hSx b hb
      ·exact hNx b (by rw [←ju.heap];exact hb.1)
     ·refine ⟨a4.tape.trans (ho.tape.trans ju.tape),a4.os.trans (ho.os.trans ju.os),a4.output.trans (ho.output.trans ju.output),qaa (by rw [←ju.heap];exact ho.size) a4.size,λb hb=> ?_,λb hb hn=> ?_,λb hb=>a4.sub b (.inl hb)⟩
      ·obtain ⟨c1,c2⟩:=a4.own b hb;refine ⟨?_,c2⟩;rcases c1 with (c1 | c1) | c1
       ·exact .inl c1
       ·exact .inr (by rw [←ju.heap];exact c1.1)
       ·exact .inr (qaa (by rw [←ju.heap];exact ho.size) c1)
      ·have XX:b<W2.heap.size:=by rw [ju.heap];exact hb
       rw [a4.blk b (qa2 XX ho.size) λq=>q.elim hn λq=>absurd XX (qce.2 q.1),ho.blk b XX hn,ju.heap]
   exact key _ rfl
end
end Go.Cx
namespace Go.Cx
open Go Go.Conc
structure Kn(Ro S:Nat->Prop)(l:List (Nat×Obj))(W:World):Prop where
 has: ∀p∈l,W.heap[p.1]? =some p.2/\(S p.1\/Ro p.1)
section
variable{P:Program}{m:Bool}{Iv:World->Prop}{Ro S:Nat->Prop}{Stop:(Nat->Prop)->Goroutine->World->Prop}{b:Frame}{k:List Item}{cs:List Frame}{ops:Array Oper}{a:Act}{W W1:World}{i:Nat}{rest:List Nat}{o:Oper}{l:List (Nat×Obj)}
theorem Kn.rely(h:Kn Ro S l W)(hr:Ry Iv (λb=>S b\/Ro b) W W1):Kn Ro S l W1:=⟨λp hp=>⟨(hr.blk _ (h.has p hp).2).trans (h.has p hp).1,(h.has p hp).2⟩⟩
theorem Kn.lt(h:Kn Ro S l W){p:Nat×Obj}(hp:p∈l):p.1<W.heap.size:=(qa1.1 (h.has p hp).1).1
theorem Kn.at(h:Kn Ro S l W){p:Nat×Obj}(hp:p∈l):W.heap[p.1]? =some p.2:=(h.has p hp).1
theorem Kn.less{l':List (Nat×Obj)}{S' Ro':Nat->Prop}(h:Kn Ro S l W)(hl: ∀p∈l',p∈l)(hs: ∀p∈l',S p.1\/Ro p.1->S' p.1\/Ro' p.1):Kn Ro' S' l' W:=⟨λp hp=>⟨(h.has p (hl p hp)).1,hs p hp (h.has p (hl p hp)).2⟩⟩
theorem SM{o':Obj}{v:Nat->Value}(hK:Kn Ro S l W)(ho:ops[i]? =some o)(hw:Region.wanted o (yielded ops a.tmps)=true)(hk:b.kind≠ .early)
  (hr: ∀w:World,Kn Ro S l w->(execOp a.eval o).run P w= .ok (.value (v w.heap.size)) (w.alloc o')) (he: ∀w:World,Kn Ro S l w-> ∀e∈(execOp a.eval o).events P w #[],TN S Ro e)
  (h: ∀(n:Nat) (S':Nat->Prop) (w:World),(∀x,S' x↔S x\/x=n)->(∀p∈l,p.1<n)->W.heap.size<=n->Kn Ro S' ((n,o')::l) w->w.heap.size=n+1->en P m Iv Ro Stop S' (G (b.at (a.put o.dst (v n)) (.inRegion ops rest::k)) cs) w):
  en P m Iv Ro Stop S (G (b.at a (.inRegion ops (i::rest)::k)) cs) W:=by
 refine en.step rfl λW1 rh=> ?_;have uf:=hK.rely rh;have mo:(W1.alloc o').heap.size=W1.heap.size+1:=by show (W1.heap.push o').size=_;simp
 have hold: ∀x,x<W1.heap.size->(W1.alloc o').heap[x]? =W1.heap[x]? :=λx hx=>by show (W1.heap.push o')[x]? =_;rw [qbw hx,Array.getElem?_eq_getElem hx]
 refine ⟨_,_,_,stepG_value ho hw hk (hr W1 uf),⟨rfl,rfl,rfl,by omega,λx hx _=>hold x hx,λe A8=> ?_⟩,h W1.heap.size _ _ (λx=> ?_) (λp hp=>uf.lt hp) rh.size ⟨λp hp=> ?_⟩ mo⟩
 ·rcases he W1 uf e (mem_listed A8) with ⟨q1,⟨ad,q2,q3⟩ | ⟨r,q2,q3⟩⟩ | q
  ·exact .inl ⟨q1, .inl ⟨ad,q2,q3.imp .inl id⟩⟩
  ·exact .inl ⟨q1, .inr ⟨r,q2, .inl q3⟩⟩
  ·exact .inr q
 ·unfold nw;rw [mo]
  constructor
  ·rintro (q | q)
   ·exact .inl q
   ·exact .inr (by omega)
  ·rintro (q | q)
   ·exact .inl q
   ·exact .inr (by omega)
 ·rcases qa9.1 hp with rfl | hp
  ·refine ⟨?_, .inl (.inr ⟨qa3 _,by omega⟩)⟩;show (W1.heap.push o')[W1.heap.size]? =_;simp
  ·exact ⟨(hold _ (uf.lt hp)).trans (uf.at hp),(uf.has p hp).2.imp .inl id⟩
theorem aey{v:Value}(hK:Kn Ro S l W)(ho:ops[i]? =some o)(hw:Region.wanted o (yielded ops a.tmps)=true)(hk:b.kind≠ .early)
  (hr: ∀w:World,Kn Ro S l w->(execOp a.eval o).run P w= .ok (.value v) w) (he: ∀w:World,Kn Ro S l w-> ∀e∈(execOp a.eval o).events P w #[],TN S Ro e)
  (h: ∀w:World,Kn Ro S l w->W.heap.size<=w.heap.size->en P m Iv Ro Stop S (G (b.at (a.put o.dst v) (.inRegion ops rest::k)) cs) w):
  en P m Iv Ro Stop S (G (b.at a (.inRegion ops (i::rest)::k)) cs) W:=by
 refine en.step rfl λW1 rh=> ?_;have uf:=hK.rely rh;refine ⟨_,W1,_,stepG_value ho hw hk (hr W1 uf),⟨rfl,rfl,rfl,qa3 _,λx hx _=>rfl,λe A8=> ?_⟩, ?_⟩
 ·rcases he W1 uf e (mem_listed A8) with ⟨q1,⟨ad,q2,q3⟩ | ⟨r,q2,q3⟩⟩ | q
  ·exact .inl ⟨q1, .inl ⟨ad,q2,q3.imp .inl id⟩⟩
  ·exact .inl ⟨q1, .inr ⟨r,q2, .inl q3⟩⟩
  ·exact .inr q
 ·rw [sd];exact h W1 uf rh.size
theorem aiG{n:Nat}{o1:Obj}{l':List (Nat×Obj)}(hK:Kn Ro S l W)(hn:S n)(bG: ∃p∈l,p.1=n)(ho:ops[i]? =some o)(hw:Region.wanted o (yielded ops a.tmps)=true)(hk:b.kind≠ .early)
  (hr: ∀w:World,Kn Ro S l w->(execOp a.eval o).run P w= .ok .skip { w with heap:=w.heap.setIfInBounds n o1 }) (he: ∀w:World,Kn Ro S l w-> ∀e∈(execOp a.eval o).events P w #[],TN S Ro e) (qI: ∀p∈l',p=(n,o1)\/(p∈l/\p.1≠n))
  (h: ∀w:World,Kn Ro S l' w->W.heap.size<=w.heap.size->en P m Iv Ro Stop S (G (b.at (a.put o.dst undef) (.inRegion ops rest::k)) cs) w):
  en P m Iv Ro Stop S (G (b.at a (.inRegion ops (i::rest)::k)) cs) W:=by
 refine en.step rfl λW1 rh=> ?_;have uf:=hK.rely rh;have mo:({ W1 with heap:=W1.heap.setIfInBounds n o1 }:World).heap.size=W1.heap.size:=by simp
 have fb:stepG P m (G (b.at a (.inRegion ops (i::rest)::k)) cs) W1= .go (G (b.at (a.put o.dst undef) (.inRegion ops rest::k)) cs) { W1 with heap:=W1.heap.setIfInBounds n o1 } (listed P b.fn a o W1):=stepG_none ho hw hk (hr W1 uf);refine ⟨_,_,_,fb,⟨rfl,rfl,rfl,qav mo.symm,λx hx hn'=> ?_,λe A8=> ?_⟩, ?_⟩
 ·show (W1.heap.setIfInBounds n o1)[x]? =_;rw [qan λe=>hn' (by rw [←e];exact hn)]
 ·rcases he W1 uf e (mem_listed A8) with ⟨q1,⟨ad,q2,q3⟩ | ⟨r,q2,q3⟩⟩ | q
  ·exact .inl ⟨q1, .inl ⟨ad,q2,q3.imp .inl id⟩⟩
  ·exact .inl ⟨q1, .inr ⟨r,q2, .inl q3⟩⟩
  ·exact .inr q
 ·have e:nw S W1 { W1 with heap:=W1.heap.setIfInBounds n o1 }=S:=by
   funext x;apply propext;exact ⟨λq=>q.elim id λq=>by rw [mo] at q;omega, .inl⟩
  rw [e];refine h _ ⟨λp hp=> ?_⟩ (qaa rh.size (qav mo.symm));rcases qI p hp with rfl | ⟨hp,j0⟩
  ·obtain ⟨p0,h1,h2⟩:=bG;have:=uf.lt h1;rw [h2] at this;exact ⟨by show (W1.heap.setIfInBounds n o1)[n]? =_;simp [this], .inl hn⟩
  ·refine ⟨?_,(uf.has p hp).2⟩;show (W1.heap.setIfInBounds n o1)[p.1]? =_;rw [qan (qbo j0)];exact uf.at hp
end
end Go.Cx
namespace Go.Cx
open Go Go.Conc Go.Vs
section
variable{P:Program}{ev:Operand->Value}{d:Option Nat}{T ty:TypeId}{x y:Operand}{pos:String}{af:Array Edge}{gd:Option (Nat×Bool)}{w:World}
theorem Wh(w:World):(execOp ev ⟨d, .box T x,ty,pos,af,gd⟩).run P w= .ok (.value (pt w.heap.size 0)) (w.alloc (.cells (ev x).cells T)):=by
 simp [execOp,Instr.box,newVar,newRow,newObj,Sem.run]
theorem aaL(w:World):(execOp ev ⟨d, .box T x,ty,pos,af,gd⟩).events P w #[]= #[]:=by
 simp [execOp,Instr.box,newVar,newRow]
theorem Cg{z:Value}(hz: ∀w:World,(zeroValue T).run P w= .ok z w)(w:World):(execOp ev ⟨d, .alloc T,ty,pos,af,gd⟩).run P w= .ok (.value (pt w.heap.size 0)) (w.alloc (.cells z.cells T)):=by
 simp [execOp,Instr.alloc,hz,newVar,newRow,newObj,Sem.run]
theorem Ec{z:Value}(hz: ∀w:World,(zeroValue T).run P w= .ok z w)(he: ∀w:World,(zeroValue T).events P w #[]= #[])(w:World):(execOp ev ⟨d, .alloc T,ty,pos,af,gd⟩).events P w #[]= #[]:=by
 simp [execOp,Instr.alloc,hz,he,newVar,newRow]
theorem KU{e:TypeId}{dir:ChanDir}{i:TypeInfo}{n:Nat}(ht:P.underlying T=some (.chan dir e))(hi:P.info? e=some i)(hx:ev x= .int .i64 n)(h63:(n:Int)<=9223372036854775807)(hb:(i.bytes:Int)*n<=281474976710544)(w:World):
  (execOp ev ⟨d, .makeChan T x,ty,pos,af,gd⟩).run P w= .ok (.value (.chan (some w.heap.size))) (w.alloc (.chan n #[] false 0 0 false)):=by
 simp [execOp,hx,run_makeChan ht hi .i64 n h63 hb]
theorem Oj{e:TypeId}{dir:ChanDir}{i:TypeInfo}{n:Nat}(ht:P.underlying T=some (.chan dir e))(hi:P.info? e=some i)(hx:ev x= .int .i64 n)(h63:(n:Int)<=9223372036854775807)(hb:(i.bytes:Int)*n<=281474976710544)(w:World):
  (execOp ev ⟨d, .makeChan T x,ty,pos,af,gd⟩).events P w #[]= #[]:=by
 simp [execOp,hx,events_makeChan ht hi .i64 n h63 hb]
theorem xZ(g o i:Nat):(⟨g,o,none⟩:Addr).add i=⟨g,o+i,none⟩:=by unfold Addr.add;split <;> simp_all
theorem vG(g o:Nat)(t:TypeId): ∀(vs:List Value) (i:Nat) (cur:Array Value) (w:World) (es:Array Event),w.heap[g]? =some (.cells cur t (0,0))->o+i+vs.length<=cur.size->(∀v∈vs,v.oneCell'=true)->
  ∀ev∈(storeCells ⟨g,o,none⟩ vs i).events P w es,ev∈es\/ ∃off,ev=⟨.cell ⟨g,off,none⟩,true,false⟩
 | [],_,_,_,_,_,_,_=>λev h=> .inl (by simpa [storeCells] using h)
 | v::rest,i,cur,w,es,hg,hl,h1=>λev h=>by
  have hi:o+i<cur.size:=by simp at hl;omega
  have ml:w.cell? ⟨g,o+i,none⟩=some cur[o+i]:=by simp [World.cell?, hg,hi]
  have aez:w.frozen? ⟨g,o+i,none⟩=false:=by simp [World.frozen?, hg]
  have fb:(store ((⟨g,o,none⟩:Addr).add i) v).run P w= .ok () (w.setRow g (cur.setIfInBounds (o+i) v)):=by
   rw [xZ,run_store P w _ v _ (h1 v (by simp)),ml];simp [aez,setCell_eq_setRow w g (o+i) cur t (0,0) v hg]
  have sU:(store ((⟨g,o,none⟩:Addr).add i) v).events P w es=es.push ⟨.cell ⟨g,o+i,none⟩,true,false⟩:=by
   rw [xZ,events_store (P:=P) (w:=w) (es:=es) _ v _ (h1 v (by simp)),ml];simp only [aez,qa6,if_false]
   rfl
  simp only [storeCells,Sem.events_bind,fb,Result.evThen_ok,sU] at h;rcases vG g o t rest (i+1) (cur.setIfInBounds (o+i) v) (w.setRow g (cur.setIfInBounds (o+i) v)) _ (setRow_heap w g cur _ t _ hg) (by simp at hl ⊢;omega) (λx hx=>h1 x (by simp [hx])) ev h with h | h
  ·rcases Array.mem_push.1 h with h | rfl
   ·exact .inl h
   ·exact .inr ⟨_,rfl⟩
  ·exact .inr h
theorem rS(g o:Nat): ∀(n i:Nat) (acc:Array Value) (w:World) (es:Array Event),(∀j,j<n->(w.cell? ⟨g,o+i+j,none⟩).isSome)->
  ∀ev∈(loadCellsFrom ⟨g,o,none⟩ i n acc).events P w es,ev∈es\/ ∃off,ev=⟨.cell ⟨g,off,none⟩,false,false⟩
 | 0,_,_,_,_,_=>λev h=> .inl (by simpa [loadCellsFrom] using h)
 | n+1,i,acc,w,es,hc=>λev h=>by
  have h0:=hc 0 (by omega);rw [qcc] at h0;obtain ⟨u,hu⟩:=Option.isSome_iff_exists.1 h0;have hl:(load ((⟨g,o,none⟩:Addr).add i)).run P w= .ok u w:=by rw [xZ];simp [load,Sem.run,hu]
  have he:(load ((⟨g,o,none⟩:Addr).add i)).events P w es=es.push ⟨.cell ⟨g,o+i,none⟩,false,false⟩:=by rw [xZ,events_load];simp only [hu];rfl
  simp only [loadCellsFrom,Sem.events_bind,hl,Result.evThen_ok,he] at h;rcases rS g o n (i+1) (acc.push u) w _ (λj hj=>by have:=hc (j+1) (by omega);rwa [show o+i+(j+1)=o+(i+1)+j by omega] at this) ev h with h | h
  ·rcases Array.mem_push.1 h with h | rfl
   ·exact .inl h
   ·exact .inr ⟨_,rfl⟩
  ·exact .inr h
theorem KV{v:Value}(h:plain v=true):v.oneCell'=true:=by
 cases v <;> first | rfl | cases h
variable{S Ro:Nat->Prop}
theorem KW{z:Value}{v:Value}{vs:List Value}{bl o s bt:Nat}{C:Array Value}{E:TypeId}(hi:Vs.TI P T z s bt)(hx:ev x=pt bl o)(hy:ev y=v)(hv:v.cells=vs.toArray)(hs:vs.length=s)(hp: ∀u∈vs,plain u=true)(hc:w.heap[bl]? =some (.cells C E (0,0)))(ho:o+s<=C.size):
  (execOp ev ⟨d, .store T x y,ty,pos,af,gd⟩).run P w= .ok .skip { w with heap:=w.heap.setIfInBounds bl (.cells (wr C o vs) E (0,0)) }:=by
 have fb:=iX (P:=P) bl o E vs 0 w C hc (by omega) hp;simp only [qcc] at fb;simp [execOp,hx,hy,Instr.storeAt,Instr.sureAddr,storeVar,Vs.run_typeInfo hi,hv,hs,fb,World.put]
theorem Ol{z:Value}{v:Value}{vs:List Value}{bl o s bt:Nat}{C:Array Value}{E:TypeId}(hi:Vs.TI P T z s bt)(hx:ev x=pt bl o)(hy:ev y=v)(hv:v.cells=vs.toArray)(hs:vs.length=s)(hp: ∀u∈vs,plain u=true)(hc:w.heap[bl]? =some (.cells C E (0,0)))(ho:o+s<=C.size)(hS:S bl):
  ∀e∈(execOp ev ⟨d, .store T x y,ty,pos,af,gd⟩).events P w #[],TN S Ro e:=by
 intro e he;obtain ⟨i,uO,_⟩:=hi.it;have h1:(sizeOf T).events P w #[]= #[]:=by simp [sizeOf,typeInfo,uO]
 have:e∈(storeCells ⟨bl,o,none⟩ vs 0).events P w #[]:=by
  have fb:=iX (P:=P) bl o E vs 0 w C hc (by omega) hp;simpa [execOp,hx,hy,Instr.storeAt,Instr.sureAddr,storeVar,Vs.run_typeInfo hi,hv,hs,h1] using he
 rcases vG bl o E vs 0 C w #[] hc (by omega) (λu hu=>KV (hp u hu)) e this with h | ⟨off,rfl⟩
 ·simp at h
 ·exact .inl ⟨rfl, .inl ⟨_,rfl, .inl hS⟩⟩
theorem Om{v:Value}{bl o:Nat}{D:TypeDesc}(hT:P.underlying T=some D)(hD:(match D with | .struct _=>false | .array _ _=>false | _=>true)=true)(hx:ev x=pt bl o)(hc:w.cell? ⟨bl,o,none⟩=some v):
  (execOp ev ⟨d, .load T x,ty,pos,af,gd⟩).run P w= .ok (.value v) w:=by
 have:(isAgg T).run P w= .ok false w:=by
  simp only [isAgg,underlying,Sem.run_bind,run_program,Result.andThen_ok,hT,Sem.run_pure];cases D <;> simp_all
 simp [execOp,hx,Instr.loadAt,Instr.sureAddr,loadVar,this,load,Sem.run,hc]
end
section
variable{P:Program}{m:Bool}{Iv:World->Prop}{Ro S:Nat->Prop}{Stop:(Nat->Prop)->Goroutine->World->Prop}{b:Frame}{k:List Item}{cs:List Frame}{ops:Array Oper}{W:World}{i:Nat}{rest:List Nat}{l:List (Nat×Obj)}{N:Nat}{ρ:Nat->Value}
variable{d:Nat}{T ty:TypeId}{x y:Operand}{pos:String}{af:Array Edge}
theorem Cd{v:Value}{vs:Array Value}(hK:Kn Ro S l W)(ho:ops[i]? =some ⟨some d, .box T x,ty,pos,af,none⟩)(hk:b.kind≠ .early)(hx:ev N ρ x=v)(hv:v.cells=vs)
  (h: ∀(n:Nat) (S':Nat->Prop) (w:World),(∀x,S' x↔S x\/x=n)->(∀p∈l,p.1<n)->W.heap.size<=n->Kn Ro S' ((n, .cells vs T)::l) w->w.heap.size=n+1->en P m Iv Ro Stop S' (G (b.at (fr N (upd ρ d (pt n 0))) (.inRegion ops rest::k)) cs) w):
  en P m Iv Ro Stop S (G (b.at (fr N ρ) (.inRegion ops (i::rest)::k)) cs) W:=by
 refine SM (v:=λn=>pt n 0) hK ho (aQ _ rfl _) hk (λw _=>by rw [aO,Wh,hx,hv]) (λw _ e he=>by rw [aO,aaL] at he;simp at he) λn S' w h1 h2 h3 h4 h5=> ?_;rw [cV];exact h n S' w h1 h2 h3 h4 h5
theorem xS{z:Value}{vs:Array Value}(hK:Kn Ro S l W)(ho:ops[i]? =some ⟨some d, .alloc T,ty,pos,af,none⟩)(hk:b.kind≠ .early)(hz: ∀w:World,(zeroValue T).run P w= .ok z w)(he: ∀w:World,(zeroValue T).events P w #[]= #[])(hv:z.cells=vs)
  (h: ∀(n:Nat) (S':Nat->Prop) (w:World),(∀x,S' x↔S x\/x=n)->(∀p∈l,p.1<n)->W.heap.size<=n->Kn Ro S' ((n, .cells vs T)::l) w->w.heap.size=n+1->en P m Iv Ro Stop S' (G (b.at (fr N (upd ρ d (pt n 0))) (.inRegion ops rest::k)) cs) w):
  en P m Iv Ro Stop S (G (b.at (fr N ρ) (.inRegion ops (i::rest)::k)) cs) W:=by
 refine SM (v:=λn=>pt n 0) hK ho (aQ _ rfl _) hk (λw _=>by rw [aO,Cg hz,hv]) (λw _ e A8=>by rw [aO,Ec hz he] at A8;simp at A8) λn S' w h1 h2 h3 h4 h5=> ?_;rw [cV];exact h n S' w h1 h2 h3 h4 h5
theorem Sb{e:TypeId}{dir:ChanDir}{ti:TypeInfo}{n:Nat}(hK:Kn Ro S l W)(ho:ops[i]? =some ⟨some d, .makeChan T x,ty,pos,af,none⟩)(hk:b.kind≠ .early)(ht:P.underlying T=some (.chan dir e))(hi:P.info? e=some ti)(hx:ev N ρ x= .int .i64 n)(h63:(n:Int)<=9223372036854775807)(hb:(ti.bytes:Int)*n<=281474976710544)
  (h: ∀(c:Nat) (S':Nat->Prop) (w:World),(∀x,S' x↔S x\/x=c)->(∀p∈l,p.1<c)->W.heap.size<=c->Kn Ro S' ((c, .chan n #[] false 0 0 false)::l) w->w.heap.size=c+1->en P m Iv Ro Stop S' (G (b.at (fr N (upd ρ d (.chan (some c)))) (.inRegion ops rest::k)) cs) w):
  en P m Iv Ro Stop S (G (b.at (fr N ρ) (.inRegion ops (i::rest)::k)) cs) W:=by
 refine SM (v:=λn=> .chan (some n)) hK ho (aQ _ rfl _) hk (λw _=>by rw [aO,KU ht hi hx h63 hb]) (λw _ e he=>by rw [aO,Oj ht hi hx h63 hb] at he;simp at he) λn S' w h1 h2 h3 h4 h5=> ?_;rw [cV];exact h n S' w h1 h2 h3 h4 h5
theorem sO{v:Value}{bl o:Nat}{D:TypeDesc}{C:Array Value}{E:TypeId}{f:Nat×Nat}(hK:Kn Ro S l W)(hm:(bl,Obj.cells C E f)∈l)(ho:ops[i]? =some ⟨some d, .load T x,ty,pos,af,none⟩)(hk:b.kind≠ .early)(hT:P.underlying T=some D)(hD:(match D with | .struct _=>false | .array _ _=>false | _=>true)=true)
  (hx:ev N ρ x=pt bl o) (hc:C[o]? =some v) (h: ∀w:World,Kn Ro S l w->W.heap.size<=w.heap.size->en P m Iv Ro Stop S (G (b.at (fr N (upd ρ d v)) (.inRegion ops rest::k)) cs) w):
  en P m Iv Ro Stop S (G (b.at (fr N ρ) (.inRegion ops (i::rest)::k)) cs) W:=by
 have ml: ∀w:World,Kn Ro S l w->w.cell? ⟨bl,o,none⟩=some v:=λw hw=>by simp [World.cell?, hw.at hm,hc]
 refine aey (v:=v) hK ho (aQ _ rfl _) hk (λw hw=>by rw [aO];exact Om hT hD hx (ml w hw)) (λw hw e he=> ?_) λw h1 h2=> ?_
 ·rw [aO,ko hT hD hx (ml w hw)] at he;simp at he;subst he;exact .inl ⟨rfl, .inl ⟨_,rfl,((hw.has _ hm).2).imp id λq=>⟨q,rfl⟩⟩⟩
 ·rw [cV];exact h w h1 h2
theorem xU{z v:Value}{vs:List Value}{bl o s bt:Nat}{C:Array Value}{E:TypeId}{l':List (Nat×Obj)}(hK:Kn Ro S l W)(hm:(bl,Obj.cells C E)∈l)(hS:S bl)(ho:ops[i]? =some ⟨none, .store T x y,ty,pos,af,none⟩)(hk:b.kind≠ .early)(hi:Vs.TI P T z s bt)(hx:ev N ρ x=pt bl o)(hy:ev N ρ y=v)
  (hv:v.cells=vs.toArray) (hs:vs.length=s) (hp: ∀u∈vs,plain u=true) (hC:o+s<=C.size) (qI: ∀p∈l',p=(bl,Obj.cells (wr C o vs) E)\/(p∈l/\p.1≠bl))
  (h: ∀w:World,Kn Ro S l' w->W.heap.size<=w.heap.size->en P m Iv Ro Stop S (G (b.at (fr N ρ) (.inRegion ops rest::k)) cs) w):
  en P m Iv Ro Stop S (G (b.at (fr N ρ) (.inRegion ops (i::rest)::k)) cs) W:=by
 refine aiG (n:=bl) (o1:= .cells (wr C o vs) E) hK hS ⟨_,hm,rfl⟩ ho (aQ _ rfl _) hk (λw hw=>by rw [aO];exact KW hi hx hy hv hs hp (hw.at hm) hC) (λw hw e he=> ?_) qI λw h1 h2=> ?_
 ·rw [aO] at he;exact Ol hi hx hy hv hs hp (hw.at hm) hC hS e he
 ·rw [kq];exact h w h1 h2
theorem tg{v:Value}{op:Op}(ho:ops[i]? =some ⟨some d,op,ty,pos,af,none⟩)(hk:b.kind≠ .early)(hr: ∀H,dX P H N ρ ⟨some d,op,ty,pos,af,none⟩ v)(he: ∀w:World,(execOp (ev N ρ) ⟨some d,op,ty,pos,af,none⟩).events P w #[]= #[])
  (h:en P m Iv Ro Stop S (G (b.at (fr N (upd ρ d v)) (.inRegion ops rest::k)) cs) W):en P m Iv Ro Stop S (G (b.at (fr N ρ) (.inRegion ops (i::rest)::k)) cs) W:=
 ud (v:=v) ho (aQ _ rfl _) hk (λw=>by rw [aO];exact hr w.heap w rfl) (λw=>by rw [aO];exact he w) (by rw [cV];exact h)
end
end Go.Cx
namespace Go.Cx
open Go Go.Conc Go.Vs
section
variable{P:Program}{w:World}{bl:Nat}{t T:TypeId}{cs:Array Value}{f:Nat×Nat}{d:TypeDesc}
theorem zH(hg:w.heap[bl]? =some (.cells cs t f))(hu:P.underlying T=some d)(hd:(match d with | .struct _ | .array _ _=>true | _=>false)=true)(hi:(P.info? T).map (·.size)=some cs.size):
  ∀e∈(loadVar T ⟨bl,0,none⟩).events P w #[], ∃off,e=⟨.cell ⟨bl,off,none⟩,false,false⟩:=by
 intro e he;obtain ⟨i,uO,Ap⟩:=qbi.1 hi;have h1:(isAgg T).run P w= .ok true w:=by
  simp only [isAgg,underlying,Sem.run_bind,run_program,Result.andThen_ok,hu,Sem.run_pure];cases d <;> simp_all
 have h2:(isAgg T).events P w #[]= #[]:=by
  simp [isAgg,underlying,hu];cases d <;> rfl
 have h3:(sizeOf T).run P w= .ok cs.size w:=by simp [sizeOf,typeInfo,uO,Ap]
 have h4:(sizeOf T).events P w #[]= #[]:=by simp [sizeOf,typeInfo,uO]
 have:e∈(loadCellsFrom ⟨bl,0,none⟩ 0 cs.size #[]).events P w #[]:=by
  have A8:=he;simp only [loadVar,Sem.events_bind,h1,h2,Result.evThen_ok,if_true,h3,h4] at A8;simp [loadCells] at A8;cases hr:(loadCellsFrom ⟨bl,0,none⟩ 0 cs.size #[]).run P w with
  | ok v w'=>rw [hr] at A8;simpa using A8
  | halt x w'=>rw [hr] at A8;simpa using A8
 rcases rS bl 0 cs.size 0 #[] w #[] (λj hj=>by simp [World.cell?, hg,hj]) e this with h | h
 ·simp at h
 ·exact h
variable{fn:Func}{p:Tmp}{tmps:Array Value}
theorem Ae(h:fn.results= #[.cell p T])(hp:tmps.getD p undef= .pointer (some ⟨bl,0,none⟩))(hg:w.heap[bl]? =some (.cells cs t f))(hu:P.underlying T=some d)(hd:(match d with | .struct _ | .array _ _=>true | _=>false)=true)(hi:(P.info? T).map (·.size)=some cs.size):
  ∀e∈(results fn tmps).events P w #[], ∃off,e=⟨.cell ⟨bl,off,none⟩,false,false⟩:=by
 intro e he;refine zH hg hu hd hi e ?_;have Qd:tmps[p]?.getD undef= .pointer (some ⟨bl,0,none⟩):=by simpa using hp
 have hr:=run_loadVar_row (P:=P) w bl t T cs f d hg hu hd hi;simpa [results,h,Qd,asAddr,hr] using he
end
section
variable{P:Program}{m:Bool}{Iv:World->Prop}{Ro S:Nat->Prop}{Stop:(Nat->Prop)->Goroutine->World->Prop}{b:Frame}{k:List Item}{cs:List Frame}{ops:Array Oper}{W:World}{i:Nat}{rest:List Nat}{l:List (Nat×Obj)}{N:Nat}{ρ:Nat->Value}
variable{d:Nat}{T ty:TypeId}{x y:Operand}{pos:String}{af:Array Edge}
theorem V6{bl:Nat}{D:TypeDesc}{C:Array Value}{E:TypeId}{f:Nat×Nat}(hK:Kn Ro S l W)(hm:(bl,Obj.cells C E f)∈l)(ho:ops[i]? =some ⟨some d, .load T x,ty,pos,af,none⟩)(hk:b.kind≠ .early)(hu:P.underlying T=some D)(hd:(match D with | .struct _ | .array _ _=>true | _=>false)=true)(hi:(P.info? T).map (·.size)=some C.size)
  (hx:ev N ρ x=pt bl 0) (h: ∀w:World,Kn Ro S l w->W.heap.size<=w.heap.size->en P m Iv Ro Stop S (G (b.at (fr N (upd ρ d (.agg C))) (.inRegion ops rest::k)) cs) w):
  en P m Iv Ro Stop S (G (b.at (fr N ρ) (.inRegion ops (i::rest)::k)) cs) W:=by
 have bM: ∀w:World,Kn Ro S l w->(loadVar T ⟨bl,0,none⟩).run P w= .ok (.agg C) w:=λw hw=>run_loadVar_row (P:=P) w bl E T C f D (hw.at hm) hu hd hi;refine aey (v:= .agg C) hK ho (aQ _ rfl _) hk (λw hw=>by rw [aO];simp [execOp,hx,Instr.loadAt,Instr.sureAddr,bM w hw]) (λw hw e he=> ?_) λw h1 h2=> ?_
 ·rw [aO] at he;have A8:e∈(loadVar T ⟨bl,0,none⟩).events P w #[]:=by simpa [execOp,hx,Instr.loadAt,Instr.sureAddr,bM w hw] using he
  obtain ⟨off,rfl⟩:=zH (hw.at hm) hu hd hi e A8;exact .inl ⟨rfl, .inl ⟨_,rfl,((hw.has _ hm).2).imp id λq=>⟨q,rfl⟩⟩⟩
 ·rw [cV];exact h w h1 h2
theorem V7{fn:Func}{p:Tmp}{bl:Nat}{D:TypeDesc}{C:Array Value}{E:TypeId}{f:Nat×Nat}{c:Frame}{todo:List Item}(hK:Kn Ro S l W)(hm:(bl,Obj.cells C E f)∈l)(hn:b.kind= .normal)(hf:P.funcs[b.fn]? =some fn)(hr:fn.results= #[.cell p T])(hu:P.underlying T=some D)(hd:(match D with | .struct _ | .array _ _=>true | _=>false)=true)(hi:(P.info? T).map (·.size)=some C.size)
  (hp:Vs.look N ρ p=pt bl 0) (h: ∀w:World,Kn Ro S l w->W.heap.size<=w.heap.size->en P m Iv Ro Stop S (G (c.finish (.agg C)) cs) w):
  en P m Iv Ro Stop S (G { b.at (fr N ρ) todo with mode:= .returning } (c::cs)) W:=by
 have Qd:(fr N ρ).tmps.getD p undef= .pointer (some ⟨bl,0,none⟩):=by rw [look_eq];exact hp
 refine en.step rfl λW1 rh=> ?_;have uf:=hK.rely rh;have bM:=results_cell_row (P:=P) hr (fr N ρ).tmps W1 bl E C f D Qd (uf.at hm) hu hd hi;refine ⟨G (c.finish (.agg C)) cs,W1,seen P b.fn ((results fn (fr N ρ).tmps).events P W1 #[]), ?_,⟨rfl,rfl,rfl,qa3 _,λx hx _=>rfl,λe A8=> ?_⟩, ?_⟩
 ·have GH:(fr N ρ).defers=[]:=rfl;simp [G,stepG,unwind,doReturn,Frame.at,hn,GH,hf,bM,GStep.after]
 ·obtain ⟨off,rfl⟩:=Ae hr Qd (uf.at hm) hu hd hi e (mem_seen A8);exact .inl ⟨rfl, .inl ⟨_,rfl,((uf.has _ hm).2).imp .inl λq=>⟨q,rfl⟩⟩⟩
 ·rw [sd];exact h W1 uf rh.size
end
section
variable{P:Program}{N:Nat}{ρ:Nat->Value}{d:Option Nat}{T ty:TypeId}{x y:Operand}{pos:String}{af:Array Edge}{gd:Option (Nat×Bool)}
theorem wy{vs:Array Value}{k:Nat}{v:Value}(hx:ev N ρ x= .tuple vs)(hv:vs[k]? =some v)(w:World):(execOp (ev N ρ) ⟨d, .extract x k,ty,pos,af,gd⟩).events P w #[]= #[]:=by
 simp [execOp,hx,Instr.extract,hv]
theorem xX{fs:Array Field}{k bl o off ft:Nat}{z:Value}{s bt:Nat}(hT:P.underlying T=some (.struct fs))(hf:(fs[k]?).map (λf=>(f.offset,f.type))=some (off,ft))(hi:Vs.TI P ft z s bt)(hs:Nat.beq s 0=false)(hx:ev N ρ x=pt bl o)(w:World):(execOp (ev N ρ) ⟨d, .fieldAddr T x k,ty,pos,af,gd⟩).events P w #[]= #[]:=by
 obtain ⟨f,h1,h2⟩:=qbi.1 hf;simp only [Prod.mk.injEq] at h2;obtain ⟨rfl,rfl⟩:=h2;obtain ⟨i,uO,Ap,Oz,hi4⟩:=hi.it;have Eh:s≠0:=by rintro rfl;cases hs
 simp [execOp,hx,Instr.fieldAt,hT,underlying,h1,Instr.sureAddr,fieldPlace,typeInfo,sizeOf,uO,Oz,Eh]
theorem Iw{E m:Nat}{bl o:Nat}{i:Int}{z:Value}{s bt:Nat}(hT:P.underlying T=some (.array m E))(hi:Vs.TI P E z s bt)(hx:ev N ρ x=pt bl o)(hy:ev N ρ y=I i)(h0:0<=i)(h1:i<m)(w:World):(execOp (ev N ρ) ⟨d, .indexAddr T x y,ty,pos,af,gd⟩).events P w #[]= #[]:=by
 obtain ⟨j,uO,Ap,Oz,hi4⟩:=hi.it;simp [execOp,hx,hy,Instr.indexAt,asIntOf,hT,underlying,Instr.sureAddr,h0,h1,typeInfo,sizeOf,uO]
end
end Go.Cx
