/- Plain facts of what the functions compute. -/
import Derived.Test.YtbpbncjammigdaaGreatAl
import Derived.Test.YtbpbncjammigdaaGreatEng1
import Derived.Test.YtbpbncjammigdaaGreatLib1
set_option linter.unusedVariables false
set_option linter.unusedSimpArgs false
namespace Go.Vs
theorem Jg{S R:Type}{f:S->Option (S⊕R)}{r:R}(k:Nat)(st:Nat->S)(hs: ∀i,i<k->f (st i)=some (.inl (st (i+1))))(he:f (st k)=some (.inr r)):cu f (st 0)=some r:=by
 induction k generalizing st with
 | zero=>rw [bq,he];rfl
 | succ k ih=>
  rw [bq,hs 0 (by omega)];exact ih (λi=>st (i+1)) (λi hi=>hs (i+1) (by omega)) he
theorem GO{n:Nat}(h:n<9223372036854775808):ao (n:Int)=n:=aU (by omega) (by omega)
theorem bT{α:Type}{xs:List α}{i:Nat}(h:i<xs.length):bs xs (i:Int)=some xs[i]:=by
 unfold bs;rw [if_pos (by omega)];simp [h]
theorem sO{α:Type}{xs:List α}{a:Int}(h0:0<=a)(h:a<xs.length): ∃e,bs xs a=some e/\e∈xs:=by
 obtain ⟨n,rfl⟩:=qb0 h0;have hn:n<xs.length:=by omega
 exact ⟨xs[n],bT hn,qad _⟩
theorem iN{α:Type}{xs ys:List α}(h:xs.length+ys.length<=2147483648):nP xs ys=some (xs++ys):=by unfold nP;rw [if_pos h]
theorem GP{a b:Int}(h:b≠0):F8 a b=some (a.tmod b):=by unfold F8;rw [if_neg h]
theorem W4{a b:Int}(h:b≠0):Ov a b=some (ao (a.tdiv b)):=by unfold Ov;rw [if_neg h]
theorem kE{α:Type}{xs:List α}{l h:Int}(h0:0<=l)(h1:l<=h)(h2:h<=xs.length):eI xs l h=some ((xs.take h.toNat).drop l.toNat):=by
 unfold eI;rw [if_pos ⟨h0,h1,h2⟩]
theorem Tk{α:Type}{k:Int}{z:α}(h0:0<=k)(h1:k<=2147483648):Az k z=some (List.replicate k.toNat z):=by unfold Az;rw [if_pos ⟨h0,h1⟩]
theorem Nj{α:Type}{k:Nat}{xs:List α}(h:k<=xs.length):Oz k xs=some (xs.take k):=by unfold Oz;rw [if_pos h]
theorem tJ{a b:Int}(ha:0<=a)(hb:0<b):0<=a.tmod b/\a.tmod b<b:=by
 rw [Int.tmod_eq_emod_of_nonneg ha];exact ⟨Int.emod_nonneg _ (by omega),Int.emod_lt_of_pos _ hb⟩
theorem C0{a b:Int}(ha:0<=a)(hb:0<b):0<=a.tdiv b/\a.tdiv b<=a:=by
 rw [Int.tdiv_eq_ediv_of_nonneg ha];exact ⟨Int.ediv_nonneg ha (by omega),Int.ediv_le_self _ ha⟩
theorem LJ{a b:Int}(ha:0<=a)(ha':a<4611686018427387904)(hb:0<=b)(fS:b<4611686018427387904):0<=FY a b/\FY a b<4611686018427387904:=by
 obtain ⟨m,rfl⟩:=qb0 ha;obtain ⟨n,rfl⟩:=qb0 hb;have h1:(BitVec.ofInt 64 (m:Int) ^^^ BitVec.ofInt 64 (n:Int)).toNat=m ^^^ n:=by
  rw [BitVec.toNat_xor];have e: ∀k:Nat,k<4611686018427387904->(BitVec.ofInt 64 (k:Int)).toNat=k:=by
   intro k hk;simp only [BitVec.toNat_ofInt];omega
  rw [e m (by omega),e n (by omega)]
 have h2:m ^^^ n<2^62:=Nat.xor_lt_two_pow (by omega) (by omega);have h3:(2:Nat)^62=4611686018427387904:=by decide
 unfold FY;rw [h1];have:ao ((m ^^^ n:Nat):Int)=(m ^^^ n:Nat):=GO (by omega);show 0<=ao _/\ao _<_;rw [this];omega
theorem sP{α R:Type}{xs:List α}{P:α->Bool}{r:R}{f:Int->Option (Int⊕(Unit⊕R))}(hs: ∀i (h:i<xs.length),f (i:Int)=some (if P xs[i] then .inl ((i:Int)+1) else .inr (.inr r)))(he:f (xs.length:Int)=some (.inr (.inl ()))):
  cu f 0=some (if xs.all P then .inl () else .inr r):=by
 have key: ∀m k:Nat,k+m=xs.length->cu f (k:Int)=some (if (xs.drop k).all P then .inl () else .inr r):=by
  intro m
  induction m with
  | zero=>
   intro k hk;have:k=xs.length:=by omega
   subst this;rw [bq,he];simp [bk]
  | succ m ih=>
   intro k hk;have bG:k<xs.length:=by omega
   rw [bq,hs k bG,qbc bG];by_cases hp:P xs[k]=true
   ·rw [if_pos hp];have:=ih (k+1) (by omega);simp only [Int.natCast_add,Int.cast_ofNat_Int] at this;simp only [List.all_cons,hp,qbo,bk,this,qa0]
   ·rw [if_neg hp];simp only [List.all_cons,qbg] at hp ⊢;simp only [hp,Bool.false_and,bk,qa0];rfl
 have:=key xs.length 0 (by omega);simpa using this
end Go.Vs
namespace Go.Vs
def Good(k:Nat)(r:List UInt8×Int):Prop:=r.1.length<=2000/\0<=r.2/\r.2<=k
theorem Good.mono{k m:Nat}{r:List UInt8×Int}(h:Good k r)(hm:k<=m):Good m r:=⟨h.1,h.2.1,by have:=h.2.2;omega⟩
theorem nI{k:Nat}(hk:k<=1000000){r:List UInt8×Int}(hr:Good k r)(n:Int):
  ∃x r',M.cn r n=some (x,r')/\Good (k+1) r'/\0<=x/\(1<=n->x<n)/\(n<1->x=0):=by
 obtain ⟨b,p⟩:=r;obtain ⟨h1,h2,h3⟩:=hr;simp only at h1 h2 h3;have e1:ao (p+1)=p+1:=aU (by omega) (by omega);have e2:ao (p+1 - 1)=p:=by rw [aU (by omega) (by omega)];omega
 have Nk:Good (k+1) (b,p+1):=⟨h1,by simp only;omega,by simp only;omega⟩;unfold M.cn;simp only [e1,e2];by_cases hn:n<1
 ·refine ⟨0,(b,p+1), ?_,Nk,by omega,λh=>by omega,λ_=>rfl⟩;simp [hn]
 ·by_cases hb:b.length=0
  ·refine ⟨0,(b,p+1), ?_,Nk,by omega,λh=>by omega,λ_=>rfl⟩;simp [hn,hb]
  ·have hbl:(b.length:Int)≠0:=by omega
   have hbb:((b.length:Int)==0)=false:=by simpa using hb
   simp only [hn,decide_false,cond_false,hbb,qa0];by_cases hp:p<(b.length:Int)
   ·obtain ⟨e,he,_⟩:=sO (xs:=b) h2 hp;have hE:ao (e.toNat:Int)=e.toNat:=GO (by have:=e.toNat_lt;omega);have hr:=tJ (a:=(e.toNat:Int)) (b:=n) (by omega) (by omega);refine ⟨_,(b,p+1), ?_,Nk,hr.1,λ_=>hr.2,λh=>h.elim⟩;simp only [hp,decide_true,cond_true,he,qa0,hE,GP (show n≠0 by omega)]
   ·simp only [hp,decide_false,cond_false];have hbp:0<(b.length:Int):=by omega
    have r1:=tJ (a:=p) h2 hbp;have e7:ao (ao (p*7)+3)=p*7+3:=by rw [aU (n:=p*7) (by omega) (by omega),aU (by omega) (by omega)]
    have r2:=tJ (a:=p*7+3) (b:=(b.length:Int)) (by omega) hbp;obtain ⟨x,hx,_⟩:=sO (xs:=b) r1.1 r1.2;obtain ⟨y,hy,_⟩:=sO (xs:=b) r2.1 r2.2;have hX:(x.toNat:Int)<256:=by have:=x.toNat_lt;omega
    have hY:(y.toNat:Int)<256:=by have:=y.toNat_lt;omega
    have r3:=C0 (a:=p) (b:=(b.length:Int)) h2 hbp;simp only [GP hbl,qa0,hx,e7,hy,W4 hbl];generalize hq:ao (p.tdiv (b.length:Int))=q;have VK:0<=q/\q<=1000000:=by rw [←hq,aU (by omega) (by omega)];omega
    have eX:ao (x.toNat:Int)=x.toNat:=aU (by omega) (by omega);have eY:ao (y.toNat:Int)=y.toNat:=aU (by omega) (by omega);simp only [eX,eY];have eX':ao ((x.toNat:Int)*131)=x.toNat*131:=aU (by omega) (by omega);have eY':ao ((y.toNat:Int)*1117)=y.toNat*1117:=aU (by omega) (by omega);have eP:ao (p*29)=p*29:=aU (by omega) (by omega);have eQ:ao (q*53)=q*53:=aU (by omega) (by omega);simp only [eX',eY',eP,eQ];have eA:ao ((x.toNat:Int)*131+y.toNat*1117)=x.toNat*131+y.toNat*1117:=aU (by omega) (by omega);simp only [eA];have eB:ao ((x.toNat:Int)*131+y.toNat*1117+p*29)=x.toNat*131+y.toNat*1117+p*29:=aU (by omega) (by omega);simp only [eB];have eC:ao ((x.toNat:Int)*131+y.toNat*1117+p*29+q*53)=x.toNat*131+y.toNat*1117+p*29+q*53:=aU (by omega) (by omega);simp only [eC];generalize hZ:(x.toNat:Int)*131+y.toNat*1117+p*29+q*53=Z;have hZ':0<=Z/\Z<=1000000000:=by omega
    have r4:=C0 (a:=Z) (b:=64) hZ'.1 (by omega);have eD:ao (Z.tdiv 64)=Z.tdiv 64:=aU (by omega) (by omega);rw [eD];have r5:=LJ (a:=Z) (b:=Z.tdiv 64) (by omega) (by omega) (by omega) (by omega);have r6:=tJ (a:=FY Z (Z.tdiv 64)) (b:=n) r5.1 (by omega);refine ⟨_,(b,p+1), ?_,Nk,r6.1,λ_=>r6.2,λh=>h.elim⟩;simp only [GP (show n≠0 by omega),qa0]
theorem vm{k:Nat}(hk:k<=1000000){r:List UInt8×Int}(hr:Good k r){list:List Int}(hl:list≠[]):
  ∃x r',M.cV r list=some (x,r')/\Good (k+1) r'/\x∈list:=by
 obtain ⟨x,r',h1,h2,h3,h4,_⟩:=nI hk hr (list.length:Int);have hlen:1<=(list.length:Int):=by
  have:list.length≠0:=by simpa using hl
  omega
 obtain ⟨e,he,hm⟩:=sO h3 (h4 hlen);refine ⟨e,r', ?_,h2,hm⟩;unfold M.cV;simp only [h1,qa0,he]
theorem yC{k:Nat}(hk:k<=900000){r:List UInt8×Int}(hr:Good k r):
  ∃x r',M.kZ r=some (x,r')/\Good (k+3) r'/\ -100<=x/\x<=100:=by
 obtain ⟨x1,r1,h1,g1,a1,b1,_⟩:=nI (by omega) hr 201;obtain ⟨x2,r2,h2,g2,a2,b2,_⟩:=nI (by omega) g1 21;have b1:=b1 (by omega);have b2:=b2 (by omega);have e1:ao (x1 - 100)=x1 - 100:=aU (by omega) (by omega);have e2:ao (x2 - 10)=x2 - 10:=aU (by omega) (by omega);obtain ⟨x3,r3,h3,g3,m3⟩:=vm (by omega) g2 (list:=[0,1, -1,5, -7,10,3,100, -100,x1 - 100,x2 - 10]) (by simp);refine ⟨x3,r3, ?_,g3, ?_⟩
 ·unfold M.kZ;simp only [h1,qa0,h2,e1,e2,h3]
 ·simp only [qa7,qap,or_false] at m3;omega
def fE(v:List Int):Bool:=decide (v.length=4)&&v.all λx=>decide (-100<=x)&&decide (x<=100)
theorem mO{v:List Int}:fE v=true↔v.length=4/\ ∀x∈v, -100<=x/\x<=100:=by
 unfold fE;simp
theorem LK{v:List Int}(h:fE v=true): ∃a b c d,v=[a,b,c,d]/\(-100<=a/\a<=100)/\(-100<=b/\b<=100)/\(-100<=c/\c<=100)/\(-100<=d/\d<=100):=by
 obtain ⟨h1,h2⟩:=mO.1 h
 match v,h1 with
 | [a,b,c,d],_=>exact ⟨a,b,c,d,rfl,h2 a (by simp),h2 b (by simp),h2 c (by simp),h2 d (by simp)⟩
theorem E3{k:Nat}(hk:k<=800000){r:List UInt8×Int}(hr:Good k r):
  ∃v r',M.gL r=some (v,r')/\Good (k+12) r'/\fE v=true:=by
 obtain ⟨x1,r1,h1,g1,a1,b1⟩:=yC (by omega) hr;obtain ⟨x2,r2,h2,g2,a2,b2⟩:=yC (by omega) g1;obtain ⟨x3,r3,h3,g3,a3,b3⟩:=yC (by omega) g2;obtain ⟨x4,r4,h4,g4,a4,b4⟩:=yC (by omega) g3;refine ⟨[x1,x2,x3,x4],r4, ?_,g4,mO.2 ⟨rfl,by simp only [qa7,qap,or_false];rintro x (rfl | rfl | rfl | rfl) <;> omega⟩⟩;have e: ∀n:Nat,n<10->ao ((n:Int)+1)=(n:Int)+1:=λn hn=>aU (by omega) (by omega);have e0:ao ((0:Int)+1)=1:=e 0 (by omega);have e1:ao ((1:Int)+1)=2:=e 1 (by omega);have e2:ao ((2:Int)+1)=3:=e 2 (by omega);have e3:ao ((3:Int)+1)=4:=e 3 (by omega);have ga: ∀(xs:List Int) (x:Int),xs.length<10->nP xs [x]=some (xs++[x]):=λxs x hx=>iN (by simp;omega);unfold M.gL;rw [bq];simp only [show decide ((0:Int)<4)=true from rfl,cond_true,h1,qa0,ga [] x1 (by simp),bk,e0,qba];rw [bq];simp only [show decide ((1:Int)<4)=true from rfl,cond_true,h2,qa0,ga [x1] x2 (by simp),bk,e1,qbr,qba];rw [bq];simp only [show decide ((2:Int)<4)=true from rfl,cond_true,h3,qa0,ga [x1,x2] x3 (by simp),bk,e2,qbr,qba];rw [bq];simp only [show decide ((3:Int)<4)=true from rfl,cond_true,h4,qa0,ga [x1,x2,x3] x4 (by simp),bk,e3,qbr,qba];rw [bq];simp only [show decide ((4:Int)<4)=false from rfl,cond_false,qa0,bk]
end Go.Vs
namespace Go.Vs
def Tl(v:List Int):Prop:=v.length<=5/\ ∀x∈v, -101<=x/\x<=101
theorem yD{v:List Int}(h:fE v=true):Tl v:=by
 obtain ⟨h1,h2⟩:=mO.1 h;exact ⟨by omega,λx hx=>by have:=h2 x hx;omega⟩
theorem Nl{v:List Int}(h:v.length<=1000000):M.km v=some v:=by
 unfold M.km;rw [iN (by simp;omega)];rfl
theorem Tm{k:Nat}(hk:k<=700000){r:List UInt8×Int}(hr:Good k r){v:List Int}(hv:fE v=true):
  ∃u r',M.iV r v 101=some (u,r')/\Good (k+3) r'/\Tl u:=by
 obtain ⟨hl,hb⟩:=mO.1 hv;obtain ⟨x1,r1,h1,g1,a1,b1,_⟩:=nI (by omega) hr 20;unfold M.iV;simp only [Nl (v:=v) (by omega),qa0,h1];by_cases c0:x1=0
 ·refine ⟨v++[101],r1, ?_,g1.mono (by omega), ?_⟩
  ·simp [c0,iN (xs:=v) (ys:=[101]) (by simp;omega)]
  ·refine ⟨by simp;omega,λx hx=> ?_⟩;rcases qaf.1 hx with h | h
   ·have:=hb x h;omega
   ·simp at h;omega
 ·have e0:(x1==0)=false:=by simpa using c0
  simp only [e0,cond_false];have uW:decide (0<(v.length:Int))=true:=by simp;omega
  have Rx:0<v.length:=by omega
  by_cases c1:x1=1
  ·refine ⟨v.drop 1,r1, ?_,g1.mono (by omega),by simp;omega,λx hx=> ?_⟩
   ·have:eI v 1 (v.length:Int)=some (v.drop 1):=by
     rw [kE (by omega) (by omega) (by omega)];simp
    simp [c1,Rx,this]
   ·have:=hb x (List.mem_of_mem_drop hx);omega
  ·have e1:(x1==1)=false:=by simpa using c1
   simp only [e1,cond_false];by_cases c2:x1=2
   ·obtain ⟨i,r2,h2,g2,a2,b2,_⟩:=nI (by omega) g1 (v.length:Int);obtain ⟨y,r3,h3,g3,m3⟩:=vm (by omega) g2 (list:=[-1,101,0,1]) (by simp);have b2:=b2 (by omega);obtain ⟨z,hz,_⟩:=sO (xs:=v) a2 b2;refine ⟨v.set i.toNat y,r3, ?_,g3,by simp;omega,λx hx=> ?_⟩
    ·simp [c2,Rx,h2,h3,hz]
    ·rcases List.mem_or_eq_of_mem_set hx with h | h
     ·have:=hb x h;omega
     ·subst h;simp only [qa7,qap,or_false] at m3;omega
   ·have e2:(x1==2)=false:=by simpa using c2
    exact ⟨v,r1,by simp [e2],g1.mono (by omega),yD hv⟩
theorem LL{k:Nat}(hk:k<=600000){r:List UInt8×Int}(hr:Good k r):
  ∃v r',M.iE r=some (v,r')/\Good (k+16) r'/\Tl v:=by
 obtain ⟨x1,r1,h1,g1,a1,b1,_⟩:=nI (by omega) hr 10;obtain ⟨v,r2,h2,g2,hv⟩:=E3 (by omega) g1;unfold M.iE;simp only [h1,qa0];by_cases c0:x1=0
 ·obtain ⟨u,r3,h3,g3,hu⟩:=Tm (by omega) g2 hv;exact ⟨u,r3,by simp [c0,h2,h3],g3,hu⟩
 ·have e0:(x1==0)=false:=by simpa using c0
  exact ⟨v,r2,by simp [e0,h2],g2.mono (by omega),yD hv⟩
theorem GQ(code:List UInt8): ∃r,M.k8 code=some r/\Good 0 r:=by
 unfold M.k8;by_cases h:2000<(code.length:Int)
 ·refine ⟨(code.take 2000,0), ?_,by simp;omega,by simp,by simp⟩;have:eI code 0 2000=some (code.take 2000):=by
   rw [kE (by omega) (by omega) (by omega)];simp
  simp [h,this]
 ·exact ⟨(code,0),by simp [h],by simp only;omega,by simp,by simp⟩
theorem Ed(v:List Int)(hb:v.length<2000000):M.jo v=some (v.all λx=>decide (-100<=x)&&decide (x<=100)):=by
 unfold M.jo;rw [sP (xs:=v) (P:=λx=>decide (-100<=x)&&decide (x<=100)) (r:=false)]
 ·by_cases ha:(v.all λx=>decide (-100<=x)&&decide (x<=100))=true
  ·simp only [ha,if_true,qa0,bk]
  ·simp only [qbg] at ha;simp only [ha];simp [bk]
 ·intro i h;have e1:decide ((i:Int)<(v.length:Int))=true:=by simpa using h
  have e2:ao ((i:Int)+1)=(i:Int)+1:=aU (by omega) (by omega);simp only [e1,cond_true,bT h,qa0,e2];by_cases c1:v[i]< -100
  ·have c2: ¬(-100<=v[i]):=by omega
   simp [c1,c2]
  ·by_cases c3:100<v[i]
   ·have c4: ¬(v[i]<=100):=by omega
    simp [c1,c3,c4]
   ·simp [c1,c3,show -100<=v[i] by omega,show v[i]<=100 by omega]
 ·simp
theorem tK(v:List Int)(hb:v.length<2000000):M.fv v=some (fE v):=by
 unfold M.fv;simp only [Ed v hb,qa0];unfold fE;by_cases hl:v.length=4
 ·have e:((v.length:Int)==4)=true:=by simp;omega
  rw [e,cond_true,decide_eq_true hl,qbo]
 ·have e:((v.length:Int)==4)=false:=by simp;omega
  rw [e,cond_false,decide_eq_false hl,Bool.false_and]
theorem C1(n l h:Int):M.dE n l h=some (decide (l<=n)&&decide (n<=h)):=by
 unfold M.dE;by_cases h1:l<=n <;> simp [h1]
theorem Tn(v:List Int)(l h:Int)(hb:v.length<2000000):M.ql v l h=some (v.all λx=>decide (l<=x)&&decide (x<=h)):=by
 unfold M.ql;rw [sP (xs:=v) (P:=λx=>decide (l<=x)&&decide (x<=h)) (r:=false)]
 ·by_cases ha:(v.all λx=>decide (l<=x)&&decide (x<=h))=true
  ·simp only [ha,if_true,qa0,bk]
  ·simp only [qbg] at ha;simp [ha,bk]
 ·intro i hi;have e1:decide ((i:Int)<(v.length:Int))=true:=by simpa using hi
  have e2:ao ((i:Int)+1)=(i:Int)+1:=aU (by omega) (by omega);simp only [e1,cond_true,bT hi,qa0,e2,C1];cases (decide (l<=v[i])&&decide (v[i]<=h)) <;> rfl
 ·simp
theorem C2(v:List Int)(hb:v.length<2000000):M.ko v=some (fE v):=by
 unfold M.ko;by_cases hl:v.length=4
 ·have e:((v.length:Int)==4)=true:=by simp;omega
  simp [e,Tn v _ _ hb,fE,hl]
 ·have e:((v.length:Int)==4)=false:=by simp;omega
  simp [e,fE,hl]
end Go.Vs
namespace Go.Vs
end Go.Vs
namespace Go.Vs
theorem yE{S R:Type}{f:S->Option (S⊕R)}{s0 s1 s2 s3 s4:S}{r:R}(h0:f s0=some (.inl s1))(h1:f s1=some (.inl s2))(h2:f s2=some (.inl s3))(h3:f s3=some (.inl s4))(h4:f s4=some (.inr r)):cu f s0=some r:=by
 rw [bq,h0,qa0,bk,bq,h1,qa0,bk,bq,h2,qa0,bk,bq,h3,qa0,bk,bq,h4];rfl
theorem UZ{α:Type}{a:α}{l:List α}:bs (a::l) 0=some a:=bT (i:=0) (by simp)
theorem W5{α:Type}{a b:α}{l:List α}:bs (a::b::l) 1=some b:=bT (i:=1) (by simp)
theorem W6{α:Type}{a b c:α}{l:List α}:bs (a::b::c::l) 2=some c:=bT (i:=2) (by simp)
theorem W7{α:Type}{a b c d:α}{l:List α}:bs (a::b::c::d::l) 3=some d:=bT (i:=3) (by simp)
theorem W8:ao ((0:Int)+1)=1:=aU (by omega) (by omega)
theorem i12:ao ((1:Int)+1)=2:=aU (by omega) (by omega)
theorem i23:ao ((2:Int)+1)=3:=aU (by omega) (by omega)
theorem i34:ao ((3:Int)+1)=4:=aU (by omega) (by omega)
theorem U2:decide ((0:Int)<4)=true:=rfl
theorem d14:decide ((1:Int)<4)=true:=rfl
theorem d24:decide ((2:Int)<4)=true:=rfl
theorem d34:decide ((3:Int)<4)=true:=rfl
theorem d44:decide ((4:Int)<4)=false:=rfl
theorem l4{α:Type}{a b c d:α}:(([a,b,c,d]:List α).length:Int)=4:=rfl
def qV(x y:Int):Int:=max (x - y) (y - x)
theorem gP(x y:Int):0<=qV x y:=by unfold qV;omega
def Co(x:Int):Prop:= -100<=x/\x<=100
theorem pa{x y:Int}(hx:Co x)(hy:Co y):qV x y<=200:=by unfold qV;unfold Co at hx hy;omega
theorem fR{g:Int}(h0:0<=g)(h:g<=200):0<=g*g/\g<=g*g/\g*g<=40000:=by
 refine ⟨Int.mul_nonneg h0 h0, ?_, ?_⟩
 ·by_cases h1:g=0
  ·subst h1;simp
  ·have:=Int.mul_le_mul_of_nonneg_right (show (1:Int)<=g by omega) h0;omega
 ·have:=Int.mul_le_mul h h h0 (by omega);omega
def dk(k g0 g1 g2 g3:Int):Int:=
 if k=1 then g0+g1+g2+g3 else if k=2 then max (max (max (max 0 g0) g1) g2) g3 else if k=3 then g0*g0+g1*g1+g2*g2+g3*g3 else if k=4 then min g0 1+min g1 1+min g2 1+min g3 1 else -1
theorem Ee(k:Int){g0 g1 g2 g3:Int}(h0:0<=g0)(Hx:g0<=200)(h1:0<=g1)(Qq:g1<=200)(h2:0<=g2)(J6:g2<=200)(h3:0<=g3)(h3':g3<=200):
  M.j7 k [g0,g1,g2,g3]=some (dk k g0 g1 g2 g3):=by
 unfold M.j7;have s0:=fR h0 Hx;have s1:=fR h1 Qq;have s2:=fR h2 J6;have s3:=fR h3 h3';by_cases k1:k=1
 ·subst k1;have e0:ao (0+g0)=g0:=by rw [aU (by omega) (by omega)];omega
  have e1:ao (g0+g1)=g0+g1:=aU (by omega) (by omega);have e2:ao (g0+g1+g2)=g0+g1+g2:=aU (by omega) (by omega);have e3:ao (g0+g1+g2+g3)=g0+g1+g2+g3:=aU (by omega) (by omega);rw [yE (s1:=(g0,1)) (s2:=(g0+g1,2)) (s3:=(g0+g1+g2,3)) (s4:=(g0+g1+g2+g3,4)) (r:= .inl (g0+g1+g2+g3))]
  ·rfl
  ·simp only [U2,UZ,W8,e0,bk,cond_true,qa0];rfl
  ·simp only [d14,W5,i12,e1,bk,cond_true,qa0];rfl
  ·simp only [d24,W6,i23,e2,bk,cond_true,qa0];rfl
  ·simp only [d34,W7,i34,e3,bk,cond_true,qa0];rfl
  ·simp [d44]
 by_cases k2:k=2
 ·subst k2;rw [yE (s1:=(max 0 g0,1)) (s2:=(max (max 0 g0) g1,2)) (s3:=(max (max (max 0 g0) g1) g2,3)) (s4:=(max (max (max (max 0 g0) g1) g2) g3,4)) (r:= .inl (max (max (max (max 0 g0) g1) g2) g3))]
  ·rfl
  ·simp only [U2,UZ,W8,bk,cond_true,qa0];rfl
  ·simp only [d14,W5,i12,bk,cond_true,qa0];rfl
  ·simp only [d24,W6,i23,bk,cond_true,qa0];rfl
  ·simp only [d34,W7,i34,bk,cond_true,qa0];rfl
  ·simp [d44]
 by_cases k3:k=3
 ·subst k3;have q0:ao (g0*g0)=g0*g0:=aU (by omega) (by omega);have q1:ao (g1*g1)=g1*g1:=aU (by omega) (by omega);have q2:ao (g2*g2)=g2*g2:=aU (by omega) (by omega);have q3:ao (g3*g3)=g3*g3:=aU (by omega) (by omega);have e0:ao (0+g0*g0)=g0*g0:=by rw [aU (by omega) (by omega)];omega
  have e1:ao (g0*g0+g1*g1)=g0*g0+g1*g1:=aU (by omega) (by omega);have e2:ao (g0*g0+g1*g1+g2*g2)=g0*g0+g1*g1+g2*g2:=aU (by omega) (by omega);have e3:ao (g0*g0+g1*g1+g2*g2+g3*g3)=g0*g0+g1*g1+g2*g2+g3*g3:=aU (by omega) (by omega);rw [yE (s1:=(g0*g0,1)) (s2:=(g0*g0+g1*g1,2)) (s3:=(g0*g0+g1*g1+g2*g2,3)) (s4:=(g0*g0+g1*g1+g2*g2+g3*g3,4)) (r:= .inl (g0*g0+g1*g1+g2*g2+g3*g3))]
  ·rfl
  ·simp only [U2,UZ,W8,e0,q0,bk,cond_true,qa0];rfl
  ·simp only [d14,W5,i12,e1,q1,bk,cond_true,qa0];rfl
  ·simp only [d24,W6,i23,e2,q2,bk,cond_true,qa0];rfl
  ·simp only [d34,W7,i34,e3,q3,bk,cond_true,qa0];rfl
  ·simp [d44]
 by_cases k4:k=4
 ·subst k4;have e0:ao (0+min g0 1)=min g0 1:=by rw [aU (by omega) (by omega)];omega
  have e1:ao (min g0 1+min g1 1)=min g0 1+min g1 1:=aU (by omega) (by omega);have e2:ao (min g0 1+min g1 1+min g2 1)=min g0 1+min g1 1+min g2 1:=aU (by omega) (by omega);have e3:ao (min g0 1+min g1 1+min g2 1+min g3 1)=min g0 1+min g1 1+min g2 1+min g3 1:=aU (by omega) (by omega);rw [yE (s1:=(min g0 1,1)) (s2:=(min g0 1+min g1 1,2)) (s3:=(min g0 1+min g1 1+min g2 1,3)) (s4:=(min g0 1+min g1 1+min g2 1+min g3 1,4)) (r:= .inl (min g0 1+min g1 1+min g2 1+min g3 1))]
  ·rfl
  ·simp only [U2,UZ,W8,e0,bk,cond_true,qa0];rfl
  ·simp only [d14,W5,i12,e1,bk,cond_true,qa0];rfl
  ·simp only [d24,W6,i23,e2,bk,cond_true,qa0];rfl
  ·simp only [d34,W7,i34,e3,bk,cond_true,qa0];rfl
  ·simp [d44]
 have b1:(k==1)=false:=by simpa using k1
 have b2:(k==2)=false:=by simpa using k2
 have b3:(k==3)=false:=by simpa using k3
 have b4:(k==4)=false:=by simpa using k4
 rw [bq];simp [U2,UZ,b1,b2,b3,b4,bk,dk,k1,k2,k3,k4]
theorem Pd{a b c d x y z w:Int}(ha:Co a)(hb:Co b)(hc:Co c)(hd:Co d)(hx:Co x)(hy:Co y)(hz:Co z)(hw:Co w):
  M.oG [a,b,c,d] [x,y,z,w]=some [qV a x,qV b y,qV c z,qV d w]:=by
 have e: ∀p q,Co p->Co q->max (ao (p - q)) (ao (q - p))=qV p q:=by
  intro p q hp hq;unfold Co at hp hq;rw [aU (n:=p - q) (by omega) (by omega),aU (n:=q - p) (by omega) (by omega)];rfl
 unfold M.oG;rw [yE (s1:=([qV a x,0,0,0],1)) (s2:=([qV a x,qV b y,0,0],2)) (s3:=([qV a x,qV b y,qV c z,0],3)) (s4:=([qV a x,qV b y,qV c z,qV d w],4)) (r:=[qV a x,qV b y,qV c z,qV d w])]
 ·rfl
 ·simp only [show List.replicate 4 (0:Int)=[0,0,0,0] from rfl,U2,UZ,W8,cond_true,qa0,e a x ha hx];rfl
 ·simp only [d14,W5,i12,cond_true,qa0,e b y hb hy];rfl
 ·simp only [d24,W6,i23,cond_true,qa0,e c z hc hz];rfl
 ·simp only [d34,W7,i34,cond_true,qa0,e d w hd hw];rfl
 ·simp only [d44,cond_false]
theorem Jh{k:Int}(hk:1<=k/\k<=4){a b c d x y z w:Int}(ha:Co a)(hb:Co b)(hc:Co c)(hd:Co d)(hx:Co x)(hy:Co y)(hz:Co z)(hw:Co w):
  M.pU k [a,b,c,d] [x,y,z,w]=some (dk k (qV a x) (qV b y) (qV c z) (qV d w)):=by
 have e: ∀p q,Co p->Co q->M.sf (ao (p - q))=some (qV p q):=by
  intro p q hp hq;unfold Co at hp hq;unfold M.sf;rw [aU (n:=p - q) (by omega) (by omega),aU (n:=0 - (p - q)) (by omega) (by omega)];unfold qV;congr 1;omega
 have t: ∀g:Int,0<=g->M.qm (decide (0<g))=some (min g 1):=by
  intro g hg;unfold M.qm;by_cases h:0<g
  ·simp [h];omega
  ·simp [h];omega
 have ea:=e a x ha hx;have eb:=e b y hb hy;have ec:=e c z hc hz;have ed:=e d w hd hw;have h0:=gP a x;have h1:=gP b y;have h2:=gP c z;have h3:=gP d w;have Hx:=pa ha hx;have Qq:=pa hb hy;have J6:=pa hc hz;have h3':=pa hd hw;generalize qV a x=g0 at*;generalize qV b y=g1 at*;generalize qV c z=g2 at*;generalize qV d w=g3 at*;have s0:=fR h0 Hx;have s1:=fR h1 Qq;have s2:=fR h2 J6;have s3:=fR h3 h3';unfold M.pU;by_cases k1:k=1
 ·subst k1;have e0:ao (0+g0)=g0:=by rw [aU (by omega) (by omega)];omega
  have e1:ao (g0+g1)=g0+g1:=aU (by omega) (by omega);have e2:ao (g0+g1+g2)=g0+g1+g2:=aU (by omega) (by omega);have e3:ao (g0+g1+g2+g3)=g0+g1+g2+g3:=aU (by omega) (by omega);rw [yE (s1:=(g0,1)) (s2:=(g0+g1,2)) (s3:=(g0+g1+g2,3)) (s4:=(g0+g1+g2+g3,4)) (r:=g0+g1+g2+g3)]
  ·rfl
  ·simp only [l4,U2,UZ,W8,e0,ea,cond_true,qa0];rfl
  ·simp only [l4,d14,W5,i12,e1,eb,cond_true,qa0];rfl
  ·simp only [l4,d24,W6,i23,e2,ec,cond_true,qa0];rfl
  ·simp only [l4,d34,W7,i34,e3,ed,cond_true,qa0];rfl
  ·simp [l4,d44]
 by_cases k2:k=2
 ·subst k2;rw [yE (s1:=(max 0 g0,1)) (s2:=(max (max 0 g0) g1,2)) (s3:=(max (max (max 0 g0) g1) g2,3)) (s4:=(max (max (max (max 0 g0) g1) g2) g3,4)) (r:=max (max (max (max 0 g0) g1) g2) g3)]
  ·rfl
  ·simp only [l4,U2,UZ,W8,ea,cond_true,qa0];rfl
  ·simp only [l4,d14,W5,i12,eb,cond_true,qa0];rfl
  ·simp only [l4,d24,W6,i23,ec,cond_true,qa0];rfl
  ·simp only [l4,d34,W7,i34,ed,cond_true,qa0];rfl
  ·simp [l4,d44]
 by_cases k3:k=3
 ·subst k3;have q0:ao (g0*g0)=g0*g0:=aU (by omega) (by omega);have q1:ao (g1*g1)=g1*g1:=aU (by omega) (by omega);have q2:ao (g2*g2)=g2*g2:=aU (by omega) (by omega);have q3:ao (g3*g3)=g3*g3:=aU (by omega) (by omega);have e0:ao (0+g0*g0)=g0*g0:=by rw [aU (by omega) (by omega)];omega
  have e1:ao (g0*g0+g1*g1)=g0*g0+g1*g1:=aU (by omega) (by omega);have e2:ao (g0*g0+g1*g1+g2*g2)=g0*g0+g1*g1+g2*g2:=aU (by omega) (by omega);have e3:ao (g0*g0+g1*g1+g2*g2+g3*g3)=g0*g0+g1*g1+g2*g2+g3*g3:=aU (by omega) (by omega);rw [yE (s1:=(g0*g0,1)) (s2:=(g0*g0+g1*g1,2)) (s3:=(g0*g0+g1*g1+g2*g2,3)) (s4:=(g0*g0+g1*g1+g2*g2+g3*g3,4)) (r:=g0*g0+g1*g1+g2*g2+g3*g3)]
  ·rfl
  ·simp only [l4,U2,UZ,W8,e0,q0,ea,cond_true,qa0];rfl
  ·simp only [l4,d14,W5,i12,e1,q1,eb,cond_true,qa0];rfl
  ·simp only [l4,d24,W6,i23,e2,q2,ec,cond_true,qa0];rfl
  ·simp only [l4,d34,W7,i34,e3,q3,ed,cond_true,qa0];rfl
  ·simp [l4,d44]
 ·have k4:k=4:=by omega
  subst k4;have e0:ao (0+min g0 1)=min g0 1:=by rw [aU (by omega) (by omega)];omega
  have e1:ao (min g0 1+min g1 1)=min g0 1+min g1 1:=aU (by omega) (by omega);have e2:ao (min g0 1+min g1 1+min g2 1)=min g0 1+min g1 1+min g2 1:=aU (by omega) (by omega);have e3:ao (min g0 1+min g1 1+min g2 1+min g3 1)=min g0 1+min g1 1+min g2 1+min g3 1:=aU (by omega) (by omega);rw [yE (s1:=(min g0 1,1)) (s2:=(min g0 1+min g1 1,2)) (s3:=(min g0 1+min g1 1+min g2 1,3)) (s4:=(min g0 1+min g1 1+min g2 1+min g3 1,4)) (r:=min g0 1+min g1 1+min g2 1+min g3 1)]
  ·rfl
  ·simp only [l4,U2,UZ,W8,e0,ea,t g0 h0,cond_true,qa0];simp only [show ((4:Int)==1)=false from rfl,show ((4:Int)==2)=false from rfl,show ((4:Int)==3)=false from rfl,cond_false,qa0,t g0 h0,e0]
  ·simp only [l4,d14,W5,i12,e1,eb,t g1 h1,cond_true,qa0];simp only [show ((4:Int)==1)=false from rfl,show ((4:Int)==2)=false from rfl,show ((4:Int)==3)=false from rfl,cond_false,qa0,t g1 h1,e1]
  ·simp only [l4,d24,W6,i23,e2,ec,t g2 h2,cond_true,qa0];simp only [show ((4:Int)==1)=false from rfl,show ((4:Int)==2)=false from rfl,show ((4:Int)==3)=false from rfl,cond_false,qa0,t g2 h2,e2]
  ·simp only [l4,d34,W7,i34,e3,ed,t g3 h3,cond_true,qa0];simp only [show ((4:Int)==1)=false from rfl,show ((4:Int)==2)=false from rfl,show ((4:Int)==3)=false from rfl,cond_false,qa0,t g3 h3,e3]
  ·simp [l4,d44]
end Go.Vs
namespace Go.Vs
def xq(k:Int)(a b:List Int):Int:=
 if fE a=true/\fE b=true then dk k (qV (a.getD 0 0) (b.getD 0 0)) (qV (a.getD 1 0) (b.getD 1 0)) (qV (a.getD 2 0) (b.getD 2 0)) (qV (a.getD 3 0) (b.getD 3 0)) else -1
theorem C3{k:Int}{a b c d x y z w:Int}(ha:fE [a,b,c,d]=true)(hb:fE [x,y,z,w]=true):xq k [a,b,c,d] [x,y,z,w]=dk k (qV a x) (qV b y) (qV c z) (qV d w):=by
 unfold xq;rw [if_pos ⟨ha,hb⟩];rfl
theorem pV{v:List Int}(h:fE v=true): ∃a b c d,v=[a,b,c,d]/\Co a/\Co b/\Co c/\Co d:=LK h
theorem Bh(k:Int){a b:List Int}(ha:a.length<2000000)(hb:b.length<2000000):M.kq k a b=some (xq k a b):=by
 unfold M.kq;simp only [tK a ha,qa0];by_cases va:fE a=true
 ·simp only [va,qae,cond_false,tK b hb,qa0];by_cases vb:fE b=true
  ·simp only [vb,qae,cond_false];obtain ⟨x0,x1,x2,x3,rfl,c0,c1,c2,c3⟩:=pV va;obtain ⟨y0,y1,y2,y3,rfl,e0,e1,e2,e3⟩:=pV vb;rw [C3 va vb,Nj (by simp),Nj (by simp)];simp only [qa0,qc0,List.take_zero,Pd c0 c1 c2 c3 e0 e1 e2 e3];rw [Ee k (gP _ _) (pa c0 e0) (gP _ _) (pa c1 e1) (gP _ _) (pa c2 e2) (gP _ _) (pa c3 e3)]
   rfl
  ·have vb':fE b=false:=by simpa using vb
   simp [vb',xq]
 ·have va':fE a=false:=by simpa using va
  simp [va',xq]
theorem W9{k:Nat}(hk:k<=900000){r:List UInt8×Int}(hr:Good k r):
  ∃x r',M.nj r=some (x,r')/\Good (k+1) r':=by
 obtain ⟨x3,r3,h3,g3,m3⟩:=vm (by omega) hr (list:=[1,2,3,4,1,2,3,4,1,2,0,5]) (by simp);exact ⟨x3,r3,by unfold M.nj;simp only [h3,qa0],g3⟩
structure aa5(g0 g1 g2 g3:Int):Prop where
 n0:0<=g0
 n1:0<=g1
 n2:0<=g2
 n3:0<=g3
 m0:g0<=200
 m1:g1<=200
 m2:g2<=200
 m3:g3<=200
theorem Xa{a b c d x y z w:Int}(c0:Co a)(c1:Co b)(c2:Co c)(c3:Co d)(e0:Co x)(e1:Co y)(e2:Co z)(e3:Co w):aa5 (qV a x) (qV b y) (qV c z) (qV d w):=
 ⟨gP _ _,gP _ _,gP _ _,gP _ _,pa c0 e0,pa c1 e1,pa c2 e2,pa c3 e3⟩
theorem To{k g0 g1 g2 g3:Int}(h:aa5 g0 g1 g2 g3): -1<=dk k g0 g1 g2 g3/\dk k g0 g1 g2 g3<1000000:=by
 obtain ⟨n0,n1,n2,n3,m0,m1,m2,m3⟩:=h;have s0:=fR n0 m0;have s1:=fR n1 m1;have s2:=fR n2 m2;have s3:=fR n3 m3;unfold dk;split
 ·omega
 split
 ·omega
 split
 ·generalize g0*g0=q0 at*;generalize g1*g1=q1 at*;generalize g2*g2=q2 at*;generalize g3*g3=q3 at*;omega
 split <;> omega
end Go.Vs
namespace Go.Vs
end Go.Vs
namespace Go.Vs
end Go.Vs
namespace Go.Vs
end Go.Vs
namespace Go.Vs
end Go.Vs
namespace Go.Vs
end Go.Vs
namespace Go.Vs
end Go.Vs
namespace Go.Vs
abbrev Item:=Int×(List Int)×Int
def iK(x:Item):Bool:=(decide (1<=x.1)&&decide (x.1<=99))&&(fE x.2.1&&(decide (0<=x.2.2)&&decide (x.2.2<=15)))
def mL:Int->List Item->Bool
 | _,[]=>true
 | p,x::l=>(iK x&&decide (p<x.1))&&mL x.1 l
def cJ(l:List Item):Bool:=decide (l.length<=16)&&mL 0 l
theorem Ji{x:Item}(h:x.2.1.length<2000000):M.jq (x.1,x.2.1,x.2.2)=some (iK x):=by
 unfold M.jq M.ir M.np iK;simp only [tK x.2.1 h,qa0];by_cases h1:1<=x.1
 ·by_cases h2:x.1<=99
  ·by_cases h3:fE x.2.1=true
   ·by_cases h4:0<=x.2.2
    ·simp [h1,h2,h3,h4]
    ·simp [h1,h2,h3,h4]
   ·simp only [qbg] at h3;simp [h1,h2,h3]
  ·simp [h1,h2]
 ·simp [h1]
theorem AG{x:Item}(h:x.2.1.length<2000000):M.iF (x.1,x.2.1,x.2.2)=some (iK x):=by
 unfold M.iF iK;simp only [C1,C2 x.2.1 h,qa0];cases (decide (1<=x.1)&&decide (x.1<=99)) <;> cases fE x.2.1 <;> simp
theorem GR{l:List Item}(hb: ∀x∈l,x.2.1.length<2000000):M.fW l=some (cJ l):=by
  unfold M.fW cJ;by_cases hl:16<(l.length:Int)
  ·have: ¬l.length<=16:=by omega
   simp [hl,this]
  have rz:l.length<=16:=by omega
  simp only [hl,decide_false,cond_false,rz,decide_true,qbo];have key: ∀m k:Nat, ∀p:Int,k+m=l.length->cu (fun (s3:(Int)×(Int))=>(bif decide (s3.2<(l.length:Int)) then
  (bs l s3.2).bind λx8=>
  Option.bind ((M.jq (x8.1,x8.2.1,x8.2.2)).bind λLj=>
  (bif !Lj then
  some true
 else
  some (decide (x8.1<=s3.1)))) λo29=>
  (bif o29 then
  some (.inr (.inr false))
 else
  some (.inl (x8.1,ao (s3.2+1))))
 else
  some (.inr (.inl ())))) (p,(k:Int))=some (if mL p (l.drop k) then (.inl ():Unit⊕Bool) else .inr false):=by
   intro m
   induction m with
   | zero=>
    intro k p hk;have:k=l.length:=by omega
    subst this;rw [bq];simp [bk,mL]
   | succ m ih=>
    intro k p hk;have bG:k<l.length:=by omega
    rw [bq,qbc bG];have e1:decide ((k:Int)<(l.length:Int))=true:=by simpa using bG
    have e2:ao ((k:Int)+1)=((k+1:Nat):Int):=aU (by omega) (by omega);simp only [e1,cond_true,bT bG,qa0,Ji (hb _ (qad bG)),e2,mL];by_cases h1:iK l[k]=true
    ·by_cases h2:p<l[k].1
     ·have J6: ¬l[k].1<=p:=by omega
      simp only [h1,h2,J6,qae,cond_false,qa0,decide_false,decide_true,Bool.and_self,qbo,bk];exact ih (k+1) l[k].1 (by omega)
     ·have J6:l[k].1<=p:=by omega
      simp [h1,h2,J6,bk]
    ·simp only [qbg] at h1;simp [h1,bk]
  have:=key l.length 0 0 (by omega);simp only [Int.cast_ofNat_Int,qcc] at this;rw [this];cases mL 0 l <;> rfl
def om(l:List Item):Nat->Int
 | 0=>0
 | k+1=>(l.getD k (0,[],0)).1
theorem yF{l:List Item}(hb: ∀x∈l,x.2.1.length<2000000)(hL:l.length<2000000):M.fV l=some (cJ l):=by
  unfold M.fV cJ;have key: ∀m k:Nat,k+m=l.length->cu (fun (s2:(Int))=>(bif decide (s2<(l.length:Int)) then
  Option.bind ((bs l s2).bind λx8=>
  (M.iF (x8.1,x8.2.1,x8.2.2)).bind λr19=>
  (bif !r19 then
  some true
 else
  (bif decide (0<s2) then
  (bs l s2).bind λwF=>
  (bs l (ao (s2 - 1))).bind λxD=>
  some (decide (wF.1<=xD.1))
 else
  some false))) λo7=>
  (bif o7 then
  some (.inr (.inr false))
 else
  some (.inl (ao (s2+1))))
 else
  some (.inr (.inl ())))) (k:Int)=some (if mL (om l k) (l.drop k) then (.inl ():Unit⊕Bool) else .inr false):=by
   intro m
   induction m with
   | zero=>
    intro k hk;have:k=l.length:=by omega
    subst this;rw [bq];simp [bk,mL]
   | succ m ih=>
    intro k hk;have bG:k<l.length:=by omega
    rw [bq,qbc bG];have e1:decide ((k:Int)<(l.length:Int))=true:=by simpa using bG
    have e2:ao ((k:Int)+1)=((k+1:Nat):Int):=aU (by omega) (by omega);have wB:om l (k+1)=l[k].1:=by simp [om,List.getD,bG]
    have ih':=ih (k+1) (by omega);rw [wB] at ih';simp only [e1,cond_true,bT bG,qa0,AG (hb _ (qad bG)),e2,mL];by_cases h1:iK l[k]=true
    ·simp only [h1,qae,cond_false,qbo]
     match k,bG with
     | 0,bG=>
      have uW:om l 0<l[0].1:=by
       have:1<=l[0].1:=by
        unfold iK at h1;simp at h1;exact h1.1.1
       show 0<_;omega
      have e3:decide ((0:Int)<((0:Nat):Int))=false:=rfl;simp only [e3,cond_false,qa0,uW,decide_true,qbo,bk];exact ih'
     | j+1,bG=>
      have e3:decide ((0:Int)<((j+1:Nat):Int))=true:=by simp
      have e4:ao (((j+1:Nat):Int) - 1)=(j:Int):=by rw [aU (by omega) (by omega)];omega
      have hj:j<l.length:=by omega
      have hk:om l (j+1)=l[j].1:=by simp [om,List.getD,hj]
      simp only [e3,cond_true,e4,bT hj,qa0,hk];by_cases h2:l[j].1<l[j+1].1
      ·have J6: ¬l[j+1].1<=l[j].1:=by omega
       simp only [h2,J6,decide_false,decide_true,cond_false,qbo,bk,qa0];exact ih'
      ·have J6:l[j+1].1<=l[j].1:=by omega
       simp [h2,J6,bk]
    ·simp only [qbg] at h1;simp [h1,bk]
  have:=key l.length 0 (by omega);simp only [Int.cast_ofNat_Int,qcc] at this;rw [this];show _=some (decide (l.length<=16)&&mL 0 l);have e:om l 0=0:=rfl;rw [e];by_cases h16:l.length<=16
  ·have:decide ((l.length:Int)<=16)=true:=by simp;omega
   cases mL 0 l <;> simp [bk,this,h16]
  ·have:decide ((l.length:Int)<=16)=false:=by simp;omega
   cases mL 0 l <;> simp [bk,this,h16]
end Go.Vs
namespace Go.Vs
theorem Pe{α:Type}{a:List α}{z:α}{g:α->Option α}(ha:a.length<=1048576)(hg: ∀x∈a,g x=some x){f:List α×Int->Option ((List α×Int)⊕List α)}
  (hs: ∀(s:List α) (i:Nat) (h:i<a.length) (h':i<s.length),g a[i]=some a[i]->f (s,(i:Int))=some (.inl (s.set i a[i],((i+1:Nat):Int)))) (he: ∀s,f (s,(a.length:Int))=some (.inr s)):
  cu f (List.replicate a.length z,0)=some a:=by
 have aeQ:=Jg (R:=List α) (f:=f) (r:=a) a.length (λi=>(a.take i++List.replicate (a.length - i) z,(i:Int))) (by
  intro i hi;have hl:i<(a.take i++List.replicate (a.length - i) z).length:=by simp;omega
  rw [hs _ i hi hl (hg _ (qad hi))];have hr:List.replicate (a.length - i) z=z::List.replicate (a.length - (i+1)) z:=by
   rw [show a.length - i=(a.length - (i+1))+1 by omega,List.replicate_succ]
  rw [qb4 hi,hr,List.set_append_right _ _ (by simp;omega)];have:i - (a.take i).length=0:=by simp;omega
  rw [this];simp only [List.set_cons_zero,List.append_assoc,qbr,qba]) (by
  rw [he];simp)
 simpa using aeQ
end Go.Vs
namespace Go.Vs
theorem fx{i:Nat}(h:i<4000000000000000000):ao ((i:Int)+1)=((i+1:Nat):Int):=aU (by omega) (by omega)
section
variable{α S T R U:Type}{xs:List α}
theorem Pf(st:S->Int->T)(g:S->α->S)(Inv:Nat->S->Prop){fin:S->R}{f:T->Option (T⊕R)}{s0:S}(h0:Inv 0 s0)
  (hs: ∀s i (h:i<xs.length),Inv i s->f (st s (i:Int))=some (.inl (st (g s xs[i]) ((i+1:Nat):Int)))/\Inv (i+1) (g s xs[i]))
  (he: ∀s,Inv xs.length s->f (st s (xs.length:Int))=some (.inr (fin s))):
  cu f (st s0 0)=some (fin (xs.foldl g s0))/\Inv xs.length (xs.foldl g s0):=by
 have key: ∀m k:Nat, ∀s,k+m=xs.length->Inv k s->cu f (st s (k:Int))=some (fin ((xs.drop k).foldl g s))/\Inv xs.length ((xs.drop k).foldl g s):=by
  intro m
  induction m with
  | zero=>
   intro k s hk hi;have:k=xs.length:=by omega
   subst this;rw [bq,he s hi];simpa [bk] using hi
  | succ m ih=>
   intro k s hk hi;have bG:k<xs.length:=by omega
   obtain ⟨h1,h2⟩:=hs s k bG hi;rw [bq,h1,qbc bG];exact ih (k+1) _ (by omega) h2
 have:=key xs.length 0 s0 (by omega) h0;simpa using this
theorem lN(st:S->Int->T)(g:S->α->S)(Inv:Nat->S->Prop)(fin:S->R){f:T->Option (T⊕R)}{s0:S}{k:R->Option U}{r:Option U}(h0:Inv 0 s0)
  (hs: ∀s i (h:i<xs.length),Inv i s->f (st s (i:Int))=some (.inl (st (g s xs[i]) ((i+1:Nat):Int)))/\Inv (i+1) (g s xs[i]))
  (he: ∀s,Inv xs.length s->f (st s (xs.length:Int))=some (.inr (fin s)))
  (hk:Inv xs.length (xs.foldl g s0)->k (fin (xs.foldl g s0))=r):(cu f (st s0 0)).bind k=r:=by
 obtain ⟨h1,h2⟩:=Pf st g Inv (fin:=fin) h0 hs he;rw [h1];exact hk h2
theorem Xb{f:T->Option (T⊕R)}(J:T->Prop)(μ:T->Nat){r:R}(step: ∀s,J s->(∃s',f s=some (.inl s')/\J s'/\μ s'<μ s)\/f s=some (.inr r)){s:T}(h:J s):cu f s=some r:=by
 obtain ⟨r',h1,rfl⟩:=EP (f:=f) J μ (λx=>x=r) (λs hs=>(step s hs).imp id (λh=>⟨r,h,rfl⟩)) s h;exact h1
theorem xr(p:α->Bool)(r:Nat->R){f:Int->Option (Int⊕(Unit⊕R))}
  (hs: ∀i (h:i<xs.length),f (i:Int)=some (if p xs[i]=true then .inr (.inr (r i)) else .inl ((i+1:Nat):Int))) (he:f (xs.length:Int)=some (.inr (.inl ()))):
  cu f 0=some (match xs.findIdx? p with | some i=> .inr (r i) | none=> .inl ()):=by
 have key: ∀m k:Nat,k+m=xs.length->cu f (k:Int)=some (match (xs.drop k).findIdx? p with | some i=> .inr (r (k+i)) | none=> .inl ()):=by
  intro m
  induction m with
  | zero=>
   intro k hk;have:k=xs.length:=by omega
   subst this;rw [bq,he];simp [bk]
  | succ m ih=>
   intro k hk;have bG:k<xs.length:=by omega
   rw [bq,hs k bG,qbc bG,List.findIdx?_cons];by_cases hp:p xs[k]=true
   ·simp [hp,bk]
   ·simp only [hp,if_false,bk,qa0,qa6];rw [ih (k+1) (by omega)];cases h:List.findIdx? p (List.drop (k+1) xs) with
    | none=>rfl
    | some i=>simp only [qac];rw [show k+1+i=k+(i+1) by omega]
 have:=key xs.length 0 (by omega);simpa using this
end
theorem foldl_filter{α:Type}(p:α->Bool)(l:List α): ∀s:List α,l.foldl (λs x=>if p x=true then s++[x] else s) s=s++l.filter p:=by
 induction l with
 | nil=>intro s;simp
 | cons x l ih=>
  intro s;rw [List.foldl_cons,ih,List.filter_cons];by_cases h:p x=true <;> simp [h]
theorem foldl_map{α β:Type}(g:α->β)(l:List α): ∀s:List β,l.foldl (λs x=>s++[g x]) s=s++l.map g:=by
 induction l with
 | nil=>intro s;simp
 | cons x l ih=>intro s;rw [List.foldl_cons,ih];simp
theorem LM{l:List Item}: ∀{p:Int},mL p l=true↔(∀x∈l,iK x=true/\p<x.1)/\l.Pairwise (λx y=>x.1<y.1):=by
 induction l with
 | nil=>intro p;simp [mL]
 | cons x l ih=>
  intro p;simp only [mL,qa4,decide_eq_true_eq,ih,qbf,qa7,forall_eq_or_imp]
  constructor
  ·rintro ⟨⟨h1,h2⟩,h3,h4⟩;exact ⟨⟨⟨h1,h2⟩,λy hy=>⟨(h3 y hy).1,by have:=(h3 y hy).2;omega⟩⟩,λy hy=>(h3 y hy).2,h4⟩
  ·rintro ⟨⟨⟨h1,h2⟩,h3⟩,h4,h5⟩;exact ⟨⟨h1,h2⟩,λy hy=>⟨(h3 y hy).1,h4 y hy⟩,h5⟩
theorem lx{x:Item}:iK x=true↔(1<=x.1/\x.1<=99)/\fE x.2.1=true/\0<=x.2.2/\x.2.2<=15:=by
 unfold iK;simp only [qa4,decide_eq_true_eq]
theorem dh{l:List Item}:cJ l=true↔l.length<=16/\(∀x∈l,iK x=true)/\l.Pairwise (λx y=>x.1<y.1):=by
 unfold cJ;simp only [qa4,decide_eq_true_eq,LM]
 constructor
 ·rintro ⟨h1,h2,h3⟩;exact ⟨h1,λx hx=>(h2 x hx).1,h3⟩
 ·rintro ⟨h1,h2,h3⟩;exact ⟨h1,λx hx=>⟨h2 x hx,by have:=(lx.1 (h2 x hx)).1.1;omega⟩,h3⟩
theorem vn{l m:List Item}(h:cJ l=true)(hs:m.Sublist l):cJ m=true:=by
 obtain ⟨h1,h2,h3⟩:=dh.1 h;exact dh.2 ⟨qaa hs.length_le h1,λx hx=>h2 x (hs.subset hx),h3.sublist hs⟩
theorem qF{x:Item}(h:iK x=true):x.2.1.length=4:=(mO.1 (lx.1 h).2.1).1
def gG(l:List Item):Prop:=l.length<=1048576/\ ∀x∈l,x.2.1.length<=1048576
theorem gG.hb{l:List Item}(h:gG l): ∀x∈l,x.2.1.length<2000000:=λx hx=>by have:=h.2 x hx;omega
theorem gG.hL{l:List Item}(h:gG l):l.length<2000000:=by have:=h.1;omega
theorem ot{l:List Item}(h:cJ l=true):gG l:=by
 obtain ⟨h1,h2,h3⟩:=dh.1 h;exact ⟨by omega,λx hx=>by have:=qF (h2 x hx);omega⟩
theorem gG.impl{l:List Item}(h:gG l):M.fW l=some (cJ l):=GR h.hb
theorem gG.Y7{l:List Item}(h:gG l):M.fV l=some (cJ l):=yF h.hb h.hL
def xu(l:List Item)(x:Item):List Item:=l.filter (λy=>decide (y.1<x.1))++x::l.filter (λy=>decide (x.1<y.1))
theorem ou{x:Item}(h:x.2.1.length<=1000000):M.iq (x.1,x.2.1,x.2.2)=some x:=by
 unfold M.iq;simp only [Nl h,qa0]
theorem LN{l:List Item}{x:Item}(hl:l.length<=1000)(hx: ∀y∈l,y.2.1.length<=1000000)(hxx:x.2.1.length<=1000000):M.u7 l (x.1,x.2.1,x.2.2)=some (xu l x):=by
 unfold M.u7;simp only [];refine lN (xs:=l) (λs i=>(s,i)) (λs y=>if (decide (y.1<x.1))=true then s++[y] else s) (λi s=>s.length<=i) (λs=>s) (by simp) ?_ ?_ ?_
 ·intro s i h hs;have e1:decide ((i:Int)<(l.length:Int))=true:=by simpa using h
  simp only [e1,cond_true,bT h,qa0,fx (i:=i) (by omega)];by_cases hk:l[i].1<x.1
  ·simp only [hk,decide_true,cond_true,ou (hx _ (qad h)),qa0,if_true];rw [iN (by simp;omega)];exact ⟨by first | rfl | trivial,by simp;omega⟩
  ·simp only [hk,decide_false,cond_false,qa0,if_false,qa6];exact ⟨by first | rfl | trivial,by omega⟩
 ·intro s _;simp
 ·intro hs;rw [foldl_filter] at hs ⊢;simp only [qba] at hs ⊢;simp only [ou hxx,qa0];rw [iN (by simp;omega)];simp only [qa0];refine lN (xs:=l) (λs i=>(s,i)) (λs y=>if (decide (x.1<y.1))=true then s++[y] else s) (λi s=>s.length<=1001+i) (λs=>s) (by simp;omega) ?_ ?_ ?_
  ·intro s i h hs;have e1:decide ((i:Int)<(l.length:Int))=true:=by simpa using h
   simp only [e1,cond_true,bT h,qa0,fx (i:=i) (by omega)];by_cases hk:x.1<l[i].1
   ·simp only [hk,decide_true,cond_true,ou (hx _ (qad h)),qa0,if_true];rw [iN (by simp;omega)];exact ⟨by first | rfl | trivial,by simp;omega⟩
   ·simp only [hk,decide_false,cond_false,qa0,if_false,qa6];exact ⟨by first | rfl | trivial,by omega⟩
  ·intro s _;simp
  ·intro _;rw [foldl_filter];simp [xu]
theorem Tp{l:List Item}{x:Item}(h:l.Pairwise (λx y=>x.1<y.1)):(xu l x).length<=l.length+1:=by
 unfold xu;simp only [qat,qb2];have: ∀l:List Item,(l.filter (λy=>decide (y.1<x.1))).length+(l.filter (λy=>decide (x.1<y.1))).length<=l.length:=by
  intro l
  induction l with
  | nil=>simp
  | cons y l ih=>
   rw [List.filter_cons,List.filter_cons];by_cases h1:y.1<x.1
   ·have h2: ¬x.1<y.1:=by omega
    simp [h1,h2];omega
   ·by_cases h2:x.1<y.1
    ·simp [h1,h2];omega
    ·simp [h1,h2];omega
 have:=this l;omega
theorem Nn{l:List Item}{x:Item}(h:cJ l=true)(hx:iK x=true):(∀y∈xu l x,iK y=true)/\(xu l x).Pairwise (λx y=>x.1<y.1):=by
 obtain ⟨_,h2,h3⟩:=dh.1 h;unfold xu;refine ⟨?_, ?_⟩
 ·intro y hy;simp only [qaf,qa7,qaw] at hy;rcases hy with hy | rfl | hy
  ·exact h2 y hy.1
  ·exact hx
  ·exact h2 y hy.1
 ·rw [List.pairwise_append,qbf];refine ⟨h3.sublist qax,⟨λy hy=> ?_,h3.sublist qax⟩,λy hy z hz=> ?_⟩
  ·simpa using (qaw.1 hy).2
  ·have h4:y.1<x.1:=by simpa using (qaw.1 hy).2
   rcases qa7.1 hz with rfl | hz
   ·exact h4
   ·have:x.1<z.1:=by simpa using (qaw.1 hz).2
    omega
theorem yG{l:List Item}{x:Item}(h:cJ l=true)(hx:iK x=true):cJ (xu l x)=decide ((xu l x).length<=16):=by
 obtain ⟨h1,h2⟩:=Nn h hx;rw [qch,dh,decide_eq_true_eq];exact ⟨λh=>h.1,λh=>⟨h,h1,h2⟩⟩
def vT(l:List Item)(x:Item):List Item×Bool:=if cJ l=true/\iK x=true/\(xu l x).length<=16 then (xu l x,true) else ([],false)
theorem C4{l:List Item}{x:Item}(h:gG l)(hx:x.2.1.length<=1000000):M.lE l (x.1,x.2.1,x.2.2)=some (vT l x):=by
 unfold M.lE vT;simp only [h.Y7,AG (x:=x) (by omega),qa0];cases h1:cJ l with
 | false=>simp
 | true=>
  cases h2:iK x with
  | false=>simp
  | true=>
   obtain ⟨hl,hi,hp⟩:=dh.1 h1;simp only [qae,cond_false,qa0];rw [LN (by omega) (λy hy=>by have:=qF (hi y hy);omega) hx];have hs:=Nn h1 h2;have hn:=Tp (x:=x) hp;simp only [qa0,yF (l:=xu l x) (λy hy=>by have:=qF (hs.1 y hy);omega) (by omega),yG h1 h2];by_cases h16:(xu l x).length<=16 <;> simp [h16]
theorem No{k:Nat}(hk:k<=700000){r:List UInt8×Int}(hr:Good k r):
  ∃x r',M.jf (r.1,r.2)=some (x,(r'.1,r'.2))/\Good (k+14) r'/\iK x=true/\x.1<=30:=by
 obtain ⟨x1,r1,h1,g1,a1,b1,_⟩:=nI (by omega) hr 30;obtain ⟨v,r2,h2,g2,hv⟩:=E3 (by omega) g1;obtain ⟨x3,r3,h3,g3,a3,b3,_⟩:=nI (by omega) g2 16;have b1:=b1 (by omega);have b3:=b3 (by omega);refine ⟨(1+x1,v,x3),r3, ?_,g3.mono (by omega),lx.2 ⟨⟨by simp only;omega,by simp only;omega⟩,hv,by simp only;omega,by simp only;omega⟩,by simp only;omega⟩;unfold M.jf;simp only [h1,h2,h3,qa0,aU (n:=1+x1) (by omega) (by omega)]
def Tq(x:Item):Prop:=(0<=x.1/\x.1<=100)/\Tl x.2.1/\ -1<=x.2.2/\x.2.2<=16
theorem Jj{x:Item}(h:iK x=true):Tq x:=by
 obtain ⟨h1,h2,h3⟩:=lx.1 h;exact ⟨by omega,yD h2,by omega⟩
theorem LO{k:Nat}(hk:k<=500000){r:List UInt8×Int}(hr:Good k r):
  ∃x r',M.nk (r.1,r.2)=some (x,(r'.1,r'.2))/\Good (k+40) r'/\Tq x:=by
 obtain ⟨x,r1,h1,g1,hx,_⟩:=No (by omega) hr;obtain ⟨c,r2,h2,g2,_,_,_⟩:=nI (by omega) g1 16;obtain ⟨HU,hv,ht⟩:=lx.1 hx;unfold M.nk;simp only [h1,h2,qa0];by_cases c0:c=0
 ·obtain ⟨y,r3,h3,g3,m3⟩:=vm (by omega) g2 (list:=[0,99,100]) (by simp);refine ⟨(y,x.2.1,x.2.2),r3,by simp [c0,h3],g3.mono (by omega),⟨?_,yD hv,by simp only;omega⟩⟩;simp only [qa7,qap,or_false] at m3;simp only;omega
 ·have e0:(c==0)=false:=by simpa using c0
  simp only [e0,cond_false];by_cases c1:c=1
  ·obtain ⟨v,r3,h3,g3,n3⟩:=LL (by omega) g2;exact ⟨(x.1,v,x.2.2),r3,by simp [c1,h3],g3.mono (by omega),⟨by simp only;omega,n3,by simp only;omega⟩⟩
  ·have e1:(c==1)=false:=by simpa using c1
   simp only [e1,cond_false];by_cases c2:c=2
   ·obtain ⟨y,r3,h3,g3,m3⟩:=vm (by omega) g2 (list:=[-1,16]) (by simp);refine ⟨(x.1,x.2.1,y),r3,by simp [c2,h3],g3.mono (by omega),⟨by simp only;omega,yD hv, ?_⟩⟩;simp only [qa7,qap,or_false] at m3;simp only;omega
   ·have e2:(c==2)=false:=by simpa using c2
    exact ⟨x,r2,by simp [e2],g2.mono (by omega),Jj hx⟩
theorem Jk:cJ []=true:=rfl
theorem LP{n:Nat}: ∀{k:Nat} {r:List UInt8×Int} {l:List Item},k+14*n<=400000->n<=100->Good k r->cJ l=true->
   ∃l' r',cu (fun (Cw:((List UInt8)×(Int))×(List (Int×(List Int)×Int))×(Int))=>(bif decide (0<Cw.2.2) then
  Option.bind ((M.jf (Cw.1.1,Cw.1.2)).bind λLl=>
  (M.lE Cw.2.1 (Ll.1.1,Ll.1.2.1,Ll.1.2.2)).bind λr55=>
  (bif r55.2 then
  some ((Ll.2.1,Ll.2.2),r55.1)
 else
  some ((Ll.2.1,Ll.2.2),Cw.2.1))) λWm=>
  some (.inl ((Wm.1.1,Wm.1.2),Wm.2,ao (Cw.2.2 - 1)))
 else
  some (.inr ((Cw.1.1,Cw.1.2),Cw.2.1)))) (r,l,(n:Int))=some (r',l')/\Good (k+14*n) r'/\cJ l'=true:=by
  induction n with
  | zero=>intro k r l _ _ hr hl;exact ⟨l,r,by rw [bq];simp [bk],hr.mono (by omega),hl⟩
  | succ n ih=>
   intro k r l hk hn hr hl;obtain ⟨x,r1,h1,g1,hx,_⟩:=No (by omega) hr;rw [bq];have e1:decide ((0:Int)<((n+1:Nat):Int))=true:=decide_eq_true (by omega);have e2:ao (((n+1:Nat):Int) - 1)=(n:Int):=by rw [aU (by omega) (by omega)];omega
   simp only [e1,cond_true,h1,qa0,C4 (x:=x) (ot hl) (by have:=qF hx;omega),e2];by_cases hp:(vT l x).2=true
   ·have um:cJ (vT l x).1=true:=by
     unfold vT at hp ⊢;split
     ·rename_i h;simp only;rw [yG hl hx];simpa using h.2.2
     ·rename_i h;rw [if_neg h] at hp;cases hp
    obtain ⟨l',r',h2,h3,h4⟩:=ih (k:=k+14) (r:=r1) (l:=(vT l x).1) (by omega) (by omega) g1 um;refine ⟨l',r', ?_,h3.mono (by omega),h4⟩;simp only [hp,cond_true,qa0,bk];exact h2
   ·simp only [qbg] at hp;obtain ⟨l',r',h2,h3,h4⟩:=ih (k:=k+14) (r:=r1) (l:=l) (by omega) (by omega) g1 hl;refine ⟨l',r', ?_,h3.mono (by omega),h4⟩;simp only [hp,cond_false,qa0,bk];exact h2
theorem GS{k:Nat}(hk:k<=300000){r:List UInt8×Int}(hr:Good k r):
  ∃l r',M.lf (r.1,r.2)=some (l,(r'.1,r'.2))/\Good (k+281) r'/\cJ l=true:=by
 obtain ⟨x,r1,h1,g1,m1⟩:=vm (by omega) hr (list:=[4,6,8,3,1,0,20,12]) (by simp);obtain ⟨n,rfl,hn⟩: ∃n:Nat,x=(n:Int)/\n<=20:=⟨x.toNat,by simp only [qa7,qap,or_false] at m1;omega,by simp only [qa7,qap,or_false] at m1;omega⟩;obtain ⟨l,r2,h2,g2,hl⟩:=LP (n:=n) (k:=k+1) (r:=r1) (l:=[]) (by omega) (by omega) g1 Jk;refine ⟨l,r2, ?_,g2.mono (by omega),hl⟩;unfold M.lf;simp only [h1,qa0];rw [show ((r1.1,r1.2),([]:List Item),(n:Int))=(r1,[],(n:Int)) from rfl,h2];rfl
def Jm(l:List Item):Prop:=l.length<=17/\ ∀x∈l,Tq x
theorem Jm.small{l:List Item}(h:Jm l):gG l:=⟨by have:=h.1;omega,λx hx=>by have:=(h.2 x hx).2.1.1;omega⟩
theorem Tt{l:List Item}(h:cJ l=true):Jm l:=by
 obtain ⟨h1,h2,_⟩:=dh.1 h;exact ⟨by omega,λx hx=>Jj (h2 x hx)⟩
theorem Jo{k:Nat}(hk:k<=200000){r:List UInt8×Int}(hr:Good k r):
  ∃l r',M.mh (r.1,r.2)=some (l,(r'.1,r'.2))/\Good (k+400) r'/\Jm l:=by
 obtain ⟨l,r1,h1,g1,hl⟩:=GS (by omega) hr;obtain ⟨c,r2,h2,g2,_,_,_⟩:=nI (by omega) g1 20;have hN:=Tt hl;obtain ⟨hlen,hit,_⟩:=dh.1 hl;unfold M.mh;simp only [h1,h2,qa0];by_cases c0:c=0
 ·obtain ⟨x,r3,h3,g3,hx⟩:=LO (by omega) g2;refine ⟨l++[x],r3, ?_,g3.mono (by omega),by simp;omega, ?_⟩
  ·simp only [c0,show ((0:Int)==0)=true from rfl,cond_true,h3,qa0];rw [iN (by simp;omega)];rfl
  ·intro y hy;rcases qaf.1 hy with h | h
   ·exact hN.2 y h
   ·simp only [qbe] at h;subst h;exact hx
 ·have e0:(c==0)=false:=by simpa using c0
  simp only [e0,cond_false];by_cases c1:c=1
  ·by_cases uW:0<l.length
   ·have e1:decide (0<(l.length:Int))=true:=by simp;omega
    obtain ⟨i,r3,h3,g3,a3,b3,_⟩:=nI (by omega) g2 (l.length:Int);have b3:=b3 (by omega);obtain ⟨v,r4,h4,g4,n4⟩:=LL (by omega) g3;obtain ⟨y,hy,my⟩:=sO (xs:=l) a3 b3;refine ⟨l.set i.toNat (y.1,v,y.2.2),r4, ?_,g4.mono (by omega),by simp;omega, ?_⟩
    ·simp only [c1,show ((1:Int)==1)=true from rfl,cond_true,e1,h3,h4,hy,qa0]
    ·intro z hz;rcases List.mem_or_eq_of_mem_set hz with h | h
     ·exact hN.2 z h
     ·subst h;exact ⟨(hN.2 y my).1,n4,(hN.2 y my).2.2⟩
   ·have e1:decide (0<(l.length:Int))=false:=decide_eq_false (by omega);exact ⟨l,r2,by simp only [c1,show ((1:Int)==1)=true from rfl,cond_true,e1,cond_false,qa0],g2.mono (by omega),hN⟩
  ·have e1:(c==1)=false:=by simpa using c1
   exact ⟨l,r2,by simp [e1],g2.mono (by omega),hN⟩
end Go.Vs
namespace Go.Vs
theorem aa6(n:Int):wk .i64 n=ao n:=rfl
theorem aa7{n:Int}(h0:0<=n)(h:n<18446744073709551616):wk .u64 n=n:=by
 simp only [wk,Go.IntKind.wrap,Go.IntKind.bits,Go.IntKind.signed,Bool.false_and];have e1:((2:Int)^(64:Nat))=18446744073709551616:=by decide
 rw [e1];simp;omega
theorem aa8{i j:Nat}(hi:i<=j)(hj:j<1000000000):wk .i64 (rH .u64 (wk .u64 (ao ((i:Int)+(j:Int)))) 1)=(((i+j) / 2:Nat):Int):=by
 rw [aU (by omega) (by omega),aa7 (by omega) (by omega),aa6];have:rH .u64 ((i:Int)+(j:Int)) 1=((i+j) / 2:Nat):=by
  unfold rH;have e:(2:Int)^(min (1:Int).toNat (Go.IntKind.bits .u64))=2:=by decide
  rw [e,Int.fdiv_eq_ediv_of_nonneg _ (by omega)];omega
 rw [this,GO (by omega)]
def z8(x y:Int):Int:=if x<y then -1 else if y<x then 1 else 0
theorem C5(x y:Int):M.gM x y=some (z8 x y):=by
 unfold M.gM M.cmp_isNaN_int z8;simp only [bne_self_eq_false,qa0,cond_false];by_cases h1:x<y
 ·simp [h1]
 ·by_cases h2:y<x <;> simp [h1,h2]
theorem E4(x:Item)(k:Int):M.iG (x.1,x.2.1,x.2.2) k=some (z8 x.1 k):=by
 unfold M.iG;simp only [C5,qa0]
theorem yH{x y:Int}:z8 x y<0↔x<y:=by unfold z8;split <;> (try split) <;> omega
theorem sQ{x y:Int}:z8 x y=0↔x=y:=by unfold z8;split <;> (try split) <;> omega
theorem Jp{x y:Int}:0<z8 x y↔y<x:=by unfold z8;split <;> (try split) <;> omega
def dG(l:List Item)(k:Int):Nat:=l.countP λx=>decide (x.1<k)
theorem qG{l:List Item}{k:Int}(hp:l.Pairwise (λx y=>x.1<y.1)){i:Nat}(h:i<l.length):i<dG l k↔l[i].1<k:=by
 induction l generalizing i with
 | nil=>simp at h
 | cons x l ih=>
  rw [qbf] at hp;unfold dG at ih ⊢;rw [List.countP_cons];cases i with
  | zero=>
   by_cases hx:x.1<k
   ·simp [hx]
   ·have:l.countP (λx=>decide (x.1<k))=0:=by
     rw [qcg];intro y hy;have:=hp.1 y hy;simp;omega
    simp only [this,hx,decide_false,List.getElem_cons_zero];simp
  | succ i=>
   simp only [qb2] at h;have:=ih hp.2 (i:=i) (by omega);simp only [List.getElem_cons_succ];by_cases hx:x.1<k
   ·simp only [hx,decide_true,if_true];rw [←this];omega
   ·have h0:l.countP (λx=>decide (x.1<k))=0:=by
     rw [qcg];intro y hy;have:=hp.1 y hy;simp;omega
    rw [h0] at this ⊢;have hy:=hp.1 l[i] (qad _);simp only [hx,decide_false];constructor
    ·intro hh;simp at hh
    ·intro hh;omega
theorem Pg{l:List Item}{k:Int}:dG l k<=l.length:=List.countP_le_length
theorem Ph{l:List Item}{k:Int}(hp:l.Pairwise (λx y=>x.1<y.1))(hl:l.length<1000000):
   M.aT l k=some ((dG l k:Int),l.any λx=>x.1==k):=by
  unfold M.aT;have hk:=Xb (f:=fun (s2:(Int)×(Int))=>(bif decide (s2.1<s2.2) then
  (bs l (wk .i64 (rH .u64 (wk .u64 (ao (s2.1+s2.2))) 1))).bind λx5=>
  (M.iG (x5.1,x5.2.1,x5.2.2) k).bind λr15=>
  (bif decide (r15<0) then
  some (.inl (ao ((wk .i64 (rH .u64 (wk .u64 (ao (s2.1+s2.2))) 1))+1),s2.2))
 else
  some (.inl (s2.1,wk .i64 (rH .u64 (wk .u64 (ao (s2.1+s2.2))) 1))))
 else
  some (.inr s2.1))) (λs=> ∃i j:Nat,s=((i:Int),(j:Int))/\i<=j/\j<=l.length/\i<=dG l k/\dG l k<=j) (λs=>(s.2 - s.1).toNat) (r:=(dG l k:Int)) (by
   rintro _ ⟨i,j,rfl,qh,hjl,h1,h2⟩;by_cases bG:i<j
   ·have e1:decide ((i:Int)<(j:Int))=true:=decide_eq_true (by omega);have aeR:(i+j) / 2<l.length:=by omega
    simp only [e1,cond_true,aa8 qh (by omega),bT aeR,qa0,E4];have MO:=qG (k:=k) hp aeR;by_cases hc:l[(i+j) / 2].1<k
    ·have e2:decide (z8 l[(i+j) / 2].1 k<0)=true:=decide_eq_true (yH.2 hc);simp only [e2,cond_true,fx (i:=(i+j) / 2) (by omega)];exact .inl ⟨_,rfl,⟨_,_,rfl,by omega,hjl,by have:=MO.2 hc;omega,h2⟩,by simp only;omega⟩
    ·have e2:decide (z8 l[(i+j) / 2].1 k<0)=false:=decide_eq_false (λh=>hc (yH.1 h));simp only [e2,cond_false];exact .inl ⟨_,rfl,⟨_,_,rfl,by omega,by omega,h1,Nat.le_of_not_lt λh=>hc (MO.1 h)⟩,by simp only;omega⟩
   ·have:i=dG l k:=by omega
    have e1:decide ((i:Int)<(j:Int))=false:=decide_eq_false (by omega);refine .inr ?_;simp only [e1,cond_false];rw [this])
   (s:=(0,(l.length:Int))) ⟨0,l.length,rfl,by omega,qa3 _,by omega,Pg⟩
  rw [hk];simp only [qa0];by_cases bG:dG l k<l.length
  ·have e1:decide ((dG l k:Int)<(l.length:Int))=true:=decide_eq_true (by omega);simp only [e1,cond_true,bT bG,qa0,E4];congr 2;have MO:=qG (k:=k) hp bG;have hge:k<=l[dG l k].1:=by
    refine Int.not_lt.1 λh=> ?_;have:=MO.2 h;omega
   rw [qch,beq_iff_eq,sQ,qbs]
   constructor
   ·intro h;exact ⟨_,qad bG,by simpa using h⟩
   ·rintro ⟨x,hx,hxk⟩;obtain ⟨i,hi,rfl⟩:=List.getElem_of_mem hx;have hik:l[i].1=k:=by simpa using hxk
    have hle: ¬i<dG l k:=λh=>by have:=(qG hp hi).1 h;omega
    rcases Nat.lt_or_ge (dG l k) i with h | h
    ·have:=qas.1 hp _ _ bG hi h;omega
    ·have:i=dG l k:=by omega
     subst this;exact hik
  ·have e1:decide ((dG l k:Int)<(l.length:Int))=false:=decide_eq_false (by omega);simp only [e1,cond_false];congr 2
   symm
   rw [List.any_eq_false];intro x hx hxk;obtain ⟨i,hi,rfl⟩:=List.getElem_of_mem hx;have hik:l[i].1=k:=by simpa using hxk
   have:=(qG (k:=k) hp hi).1 (by omega);omega
theorem LQ{l:List Item}{k:Int}(h:cJ l=true):M.ns l k=some ((dG l k:Int),l.any λx=>x.1==k):=by
 obtain ⟨h1,_,h3⟩:=dh.1 h;unfold M.ns;rw [Ph h3 (by omega)];rfl
theorem Pj{l:List Item}{k:Int}(hp:l.Pairwise (λx y=>x.1<y.1))(h:l.any (λx=>x.1==k)=true): ∃hi:dG l k<l.length,l[dG l k].1=k/\l.find? (λx=>x.1==k)=some l[dG l k]:=by
 obtain ⟨x,hx,hxk⟩:=qbs.1 h;obtain ⟨i,hi,rfl⟩:=List.getElem_of_mem hx;have hik:l[i].1=k:=by simpa using hxk
 have hle: ¬i<dG l k:=λh=>by have:=(qG hp hi).1 h;omega
 have bG:dG l k<l.length:=by omega
 have hge: ¬dG l k<i:=λh=>by
  have h1:=qas.1 hp _ _ bG hi h;have:=(qG (k:=k) hp bG).2 (by omega);omega
 have:i=dG l k:=by omega
 refine ⟨bG,by subst this;exact hik, ?_⟩;rw [List.find?_eq_some_iff_getElem];refine ⟨by subst this;simpa using hik,_,bG,rfl,λj hj=> ?_⟩;have:=(qG (k:=k) hp (i:=j) (by omega)).1 hj;simp;omega
theorem Tu{v:List Int}(h:v.length<=1048576):M.gF v=some v:=by
 unfold M.gF;rw [iN (by simp;omega)];rfl
theorem Jq{x:Item}(h:x.2.1.length<=1048576):M.kr (x.1,x.2.1,x.2.2)=some x:=by
 unfold M.kr;simp only [Tu h,qa0]
end Go.Vs
namespace Go.Vs
theorem C6{x:Item}(h:iK x=true):fE x.2.1=true:=(lx.1 h).2.1
end Go.Vs
namespace Go.Vs
theorem Xc{l:List Int}{k:Int}(h:l.length<2000000):M.sh l k=some (l.any λx=>x==k):=by
 unfold M.sh;rw [xr (xs:=l) (λx=>x==k) (λ_=>true)]
 ·have:l.any (λx=>x==k)=(l.findIdx? (λx=>x==k)).isSome:=by
   rw [qch,qbs,List.findIdx?_isSome,qbs]
  rw [this];cases l.findIdx? (λx=>x==k) <;> rfl
 ·intro i hi;have e1:decide ((i:Int)<(l.length:Int))=true:=decide_eq_true (by omega);simp only [e1,cond_true,bT hi,qa0,fx (i:=i) (by omega)];cases l[i]==k <;> rfl
 ·simp
end Go.Vs
namespace Go.Vs
def isKind(k:Int):Bool:=decide (1<=k)&&decide (k<=4)
theorem C7{k:Int}:isKind k=true↔1<=k/\k<=4:=by unfold isKind;simp
theorem Jr(k:Int):M.lg k=some (isKind k):=by
 unfold M.lg isKind;by_cases h:1<=k <;> simp [h]
theorem Jt(k:Int):M.k9 k=some (isKind k):=by
 unfold M.k9;simp only [C1,qa0];rfl
theorem Pk{k g0 g1 g2 g3:Int}(h:aa5 g0 g1 g2 g3)(hk:1<=k/\k<=4):0<=dk k g0 g1 g2 g3:=by
 obtain ⟨n0,n1,n2,n3,m0,m1,m2,m3⟩:=h;have s0:=fR n0 m0;have s1:=fR n1 m1;have s2:=fR n2 m2;have s3:=fR n3 m3;by_cases k1:k=1
 ·subst k1;simp only [dk,if_true];omega
 by_cases k2:k=2
 ·subst k2;rw [dk,if_neg (by omega),if_pos rfl];omega
 by_cases k3:k=3
 ·subst k3;rw [dk,if_neg (by omega),if_neg (by omega),if_pos rfl];omega
 ·have k4:k=4:=by omega
  subst k4;rw [dk,if_neg (by omega),if_neg (by omega),if_neg (by omega),if_pos rfl];omega
theorem LR{k:Int}{a b:List Int}(hk:isKind k=true)(ha:fE a=true)(hb:fE b=true):0<=xq k a b/\xq k a b<1000000:=by
 obtain ⟨x0,x1,x2,x3,rfl,c0,c1,c2,c3⟩:=pV ha;obtain ⟨y0,y1,y2,y3,rfl,e0,e1,e2,e3⟩:=pV hb;rw [C3 ha hb];have G:=Xa c0 c1 c2 c3 e0 e1 e2 e3;exact ⟨Pk G (C7.1 hk),(To G).2⟩
theorem GU{k:Int}{a b:List Int}(hk:isKind k=true)(ha:fE a=true)(hb:fE b=true):M.pU k a b=some (xq k a b):=by
 obtain ⟨x0,x1,x2,x3,rfl,c0,c1,c2,c3⟩:=pV ha;obtain ⟨y0,y1,y2,y3,rfl,e0,e1,e2,e3⟩:=pV hb;rw [C3 ha hb];exact Jh (C7.1 hk) c0 c1 c2 c3 e0 e1 e2 e3
theorem GV{k:Int}{a b:List Int}(ha:fE a=true)(hb:fE b=true):M.kq k a b=some (xq k a b):=
 Bh k (by rw [(mO.1 ha).1];omega) (by rw [(mO.1 hb).1];omega)
end Go.Vs
namespace Go.Vs
theorem Ju{l m:List Item}(hl:l.Pairwise (λx y=>x.1<y.1))(hm:m.Pairwise (λx y=>x.1<y.1))(h: ∀x,x∈l↔x∈m):l=m:=by
 induction l generalizing m with
 | nil=>
  cases m with
  | nil=>rfl
  | cons y m=>exact absurd ((h y).2 (by simp)) (by simp)
 | cons x l ih=>
  cases m with
  | nil=>exact absurd ((h x).1 (by simp)) (by simp)
  | cons y m=>
   rw [qbf] at hl hm;have J3:x=y:=by
    rcases qa7.1 ((h x).1 (by simp)) with e | hx
    ·exact e
    ·rcases qa7.1 ((h y).2 (by simp)) with e | hy
     ·exact e.symm
     ·have h1:=hl.1 y hy;have h2:=hm.1 x hx;omega
   subst J3;rw [ih hl.2 hm.2 (λz=> ?_)]
   constructor
   ·intro hz;rcases qa7.1 ((h z).1 (by simp [hz])) with e | ZT
    ·subst e;have:=hl.1 z hz;omega
    ·exact ZT
   ·intro hz;rcases qa7.1 ((h z).2 (by simp [hz])) with e | ZT
    ·subst e;have:=hm.1 z hz;omega
    ·exact ZT
theorem aeS{l:List Item}{x y:Item}:y∈xu l x↔y=x\/(y∈l/\y.1≠x.1):=by
 unfold xu;simp only [qaf,qa7,qaw,decide_eq_true_eq]
 constructor
 ·rintro (⟨h1,h2⟩ | h | ⟨h1,h2⟩)
  ·exact .inr ⟨h1,by omega⟩
  ·exact .inl h
  ·exact .inr ⟨h1,by omega⟩
 ·rintro (h | ⟨h1,h2⟩)
  ·exact .inr (.inl h)
  ·rcases Int.lt_or_lt_of_ne h2 with h3 | h3
   ·exact .inl ⟨h1,h3⟩
   ·exact .inr (.inr ⟨h1,h3⟩)
theorem filter_lt{l:List Item}{k:Int}(hp:l.Pairwise (λx y=>x.1<y.1)):l.filter (λy=>decide (y.1<k))=l.take (dG l k):=by
 induction l with
 | nil=>rfl
 | cons x l ih=>
  rw [qbf] at hp;unfold dG at ih ⊢;rw [List.filter_cons,List.countP_cons];by_cases hx:x.1<k
  ·simp [hx,ih hp.2]
  ·have h0:l.countP (λx=>decide (x.1<k))=0:=by
    rw [qcg];intro y hy;have:=hp.1 y hy;simp;omega
   have h1:=ih hp.2;rw [h0] at h1 ⊢;simp [hx,h1]
theorem Pm{l:List Item}{k:Int}(hp:l.Pairwise (λx y=>x.1<y.1)):l.filter (λy=>decide (k<y.1))=l.drop (dG l k+if (l.any λx=>x.1==k)=true then 1 else 0):=by
 induction l with
 | nil=>rfl
 | cons x l ih=>
  rw [qbf] at hp;have ih:=ih hp.2;unfold dG at ih ⊢;rw [List.filter_cons,List.countP_cons,List.any_cons];by_cases hx:x.1<k
  ·have h2: ¬k<x.1:=by omega
   have h3:(x.1==k)=false:=beq_eq_false_iff_ne.2 (by omega);simp only [hx,h2,h3,decide_true,decide_false,qa6,if_false,if_true,qck,ih];rw [show List.countP (λx=>decide (x.1<k)) l+1+(if (l.any λx=>x.1==k)=true then 1 else 0)=(List.countP (λx=>decide (x.1<k)) l+(if (l.any λx=>x.1==k)=true then 1 else 0))+1 by omega,List.drop_succ_cons]
  ·have h0:l.countP (λx=>decide (x.1<k))=0:=by
    rw [qcg];intro y hy;have:=hp.1 y hy;simp;omega
   have lS:l.filter (λy=>decide (k<y.1))=l:=by
    rw [qci];intro y hy;have:=hp.1 y hy;simp;omega
   rw [h0,lS];by_cases hk:x.1=k
   ·have h2: ¬k<x.1:=by omega
    simp [hk]
   ·have h2:k<x.1:=by omega
    have h3:(x.1==k)=false:=beq_eq_false_iff_ne.2 hk;have h4:(l.any λx=>x.1==k)=false:=by
     rw [List.any_eq_false];intro y hy;have:=hp.1 y hy;simp;omega
    simp [hx,h2,h3,h4]
theorem yI{l:List Item}(h:gG l):M.jr l=some l:=by
 unfold M.jr;rw [Tk (by omega) (by have:=h.1;omega)];simp only [qa0,qb1];rw [Pe (a:=l) (g:=λx=>M.kr (x.1,x.2.1,x.2.2)) h.1 (λx xY=>Jq (h.2 x xY))]
 ·rfl
 ·intro s i hi gz hg;have e1:decide ((i:Int)<(l.length:Int))=true:=decide_eq_true (by omega);simp only [e1,cond_true,bT hi,bT gz,qa0,hg,fx (i:=i) (by have:=h.1;omega),qb1]
 ·intro s;simp
def lQ(l:List Item)(k:Int):List Item:=l.filter (λx=>x.1 != k)
theorem Aa{l:List Item}{k:Int}{x:Item}:x∈lQ l k↔x∈l/\x.1≠k:=by unfold lQ;rw [qaw];simp
theorem Ac{l:List Item}{k:Int}:(lQ l k).Sublist l:=qax
def vo(l:List Item)(k:Int):List Item×Bool:=if cJ l=true/\(l.any λx=>x.1==k)=true then (lQ l k,true) else ([],false)
theorem Jv{l:List Item}{k:Int}(hp:l.Pairwise (λx y=>x.1<y.1))(h:(l.any λx=>x.1==k)=true):l.take (dG l k)++l.drop (dG l k+1)=lQ l k:=by
 have h1:=filter_lt (k:=k) hp;have h2:=Pm (k:=k) hp;rw [if_pos h] at h2;rw [←h1, ←h2];refine Ju ?_ (hp.sublist Ac) (λx=> ?_)
 ·rw [List.pairwise_append];refine ⟨hp.sublist qax,hp.sublist qax,λy hy z hz=> ?_⟩;have h3:y.1<k:=by simpa using (qaw.1 hy).2
  have h4:k<z.1:=by simpa using (qaw.1 hz).2
  omega
 ·simp only [qaf,qaw,decide_eq_true_eq,Aa]
  constructor
  ·rintro (⟨h1,h2⟩ | ⟨h1,h2⟩) <;> exact ⟨h1,by omega⟩
  ·rintro ⟨h1,h2⟩;rcases Int.lt_or_lt_of_ne h2 with h3 | h3
   ·exact .inl ⟨h1,h3⟩
   ·exact .inr ⟨h1,h3⟩
theorem uh{l:List Item}{k:Int}(h:gG l):M.kt l k=some (vo l k):=by
 unfold M.kt vo;simp only [h.impl,qa0];cases h1:cJ l with
 | false=>simp
 | true=>
  obtain ⟨hl,hi,hp⟩:=dh.1 h1;simp only [qae,cond_false,LQ h1,qa0];cases ha:l.any (λx=>x.1==k) with
  | false=>simp
  | true=>
   obtain ⟨bG,_,_⟩:=Pj hp ha;simp only [qae,cond_false,yI h,qa0,and_self,if_true];unfold M.dM;have e1:ao ((dG l k:Int)+1)=((dG l k+1:Nat):Int):=fx (by omega);have e2:((dG l k:Int)==((dG l k+1:Nat):Int))=false:=beq_eq_false_iff_ne.2 (by omega);have g0:zA (dG l k:Int) ((dG l k+1:Nat):Int) (l.length:Int) l.length=some ():=by
    unfold zA;rw [if_pos (by omega)]
   have g1:eI l 0 (dG l k:Int)=some (l.take (dG l k)):=by
    rw [kE (by omega) (by omega) (by omega)];simp
   have g2:eI l ((dG l k+1:Nat):Int) (l.length:Int)=some (l.drop (dG l k+1)):=by
    rw [kE (by omega) (by omega) (by omega)];simp
   simp only [e1,g0,e2,cond_false,g1,g2,qa0];rw [iN (by simp;omega)];simp only [qa0,Jv hp ha]
section
variable{code:List UInt8}
theorem Jx{l:List Item}{k:Int}(h1:cJ l=true)(h2:(l.any λx=>x.1==k)=true):vo l k=(lQ l k,true):=by
 unfold vo;rw [if_pos ⟨h1,h2⟩]
end
end Go.Vs
namespace Go.Vs
end Go.Vs
namespace Go.Vs
end Go.Vs
namespace Go.Vs
end Go.Vs
namespace Go.Vs
section
noncomputable abbrev GW:Int×Int->Int×Int->Option Int:=λx y=>M.dp (x.1,x.2) (y.1,y.2)
end
end Go.Vs
namespace Go.Vs
section
variable{α:Type}[Inhabited α]
def el(d:List α)(i:Nat):α:=d.getD i default
theorem oJ{d:List α}{i:Nat}(h:i<d.length):el d i=d[i]:=by simp [el,List.getD,h]
theorem rv{d:List α}{i:Nat}(h:i<d.length):bs d (i:Int)=some (el d i):=by rw [bT h,oJ h]
theorem Tv{d:List α}{i k:Nat}{x:α}(h:i<d.length):el (d.set i x) k=if k=i then x else el d k:=by
 unfold el;simp only [List.getD_eq_getElem?_getD,List.getElem?_set];by_cases e:i=k
 ·subst e;simp [h]
 ·simp [e,qbq e]
def swp(d:List α)(i j:Nat):List α:=(d.set i (el d j)).set j (el d i)
theorem GX{d:List α}{i j:Nat}:(swp d i j).length=d.length:=by simp [swp]
theorem C8{d:List α}{i j k:Nat}(hi:i<d.length)(hj:j<d.length):el (swp d i j) k=if k=j then el d i else if k=i then el d j else el d k:=by
 unfold swp;rw [Tv (by simpa using hj),Tv hi]
theorem Jy{d:List α}{i j:Nat}(hi:i<d.length)(hj:j<d.length):(swp d i j).Perm d:=by
 unfold swp;rw [oJ hi,oJ hj];exact List.set_set_perm hi hj
structure mv(a b:Nat)(d d':List α):Prop where
 len:d'.length=d.length
 out: ∀i,i<a\/b<=i->el d' i=el d i
 perm:d'.Perm d
theorem mv.refl{a b:Nat}(d:List α):mv a b d d:=⟨rfl,λ_ _=>rfl,List.Perm.refl _⟩
theorem mv.trans{a b:Nat}{d d' d'':List α}(h:mv a b d d')(k:mv a b d' d''):mv a b d d'':=
 ⟨k.len.trans h.len,λi hi=>(k.out i hi).trans (h.out i hi),k.perm.trans h.perm⟩
theorem mv.swp{a b i j:Nat}{d:List α}(h1:a<=i)(h2:i<b)(h3:a<=j)(h4:j<b)(h5:b<=d.length):mv a b d (swp d i j):=
 ⟨GX,λk hk=>by rw [C8 (by omega) (by omega),if_neg (by omega),if_neg (by omega)],Jy (by omega) (by omega)⟩
end
structure wb{α:Type}(lt:α->α->Bool)(p:α->Prop):Prop where
 irrefl: ∀x,p x->lt x x=false
 trans: ∀x y z,p x->p y->p z->lt x y=true->lt y z=true->lt x z=true
 total: ∀x y,p x->p y->x≠y->lt x y=true\/lt y x=true
theorem wb.asymm{α:Type}{lt:α->α->Bool}{p:α->Prop}(h:wb lt p){x y:α}(hx:p x)(hy:p y)(hl:lt x y=true):lt y x=false:=by
 cases e:lt y x with
 | false=>rfl
 | true=>have:=h.trans x y x hx hy hx hl e;rw [h.irrefl x hx] at this;cases this
theorem wb.ntrans{α:Type}{lt:α->α->Bool}{p:α->Prop}(h:wb lt p){x y z:α}(hx:p x)(hy:p y)(hz:p z)(h1:lt x y=false)(h2:lt y z=false):lt x z=false:=by
 cases e:lt x z with
 | false=>rfl
 | true=>
  rcases Classical.em (x=y) with rfl | jE
  ·rw [h2] at e;cases e
  ·rcases h.total x y hx hy jE with h' | h'
   ·rw [h1] at h';cases h'
   ·have:=h.trans y x z hy hx hz h' e;rw [h2] at this;cases this
def Np{α:Type}(cmp:α->α->Option Int)(lt:α->α->Bool)(p:α->Prop):Prop:= ∀x y,p x->p y-> ∃r,cmp x y=some r/\decide (r<0)=lt x y
def LS{α:Type}[Inhabited α](p:α->Prop)(d:List α):Prop:= ∀i,i<d.length->p (el d i)
theorem LS.of{α:Type}[Inhabited α]{p:α->Prop}{d:List α}(h: ∀x∈d,p x):LS p d:=λi hi=>h _ (by rw [oJ hi];exact qad _)
theorem LS.perm{α:Type}[Inhabited α]{p:α->Prop}{d d':List α}(h:LS p d)(hp:d'.Perm d):LS p d':=by
 refine LS.of λx hx=> ?_;obtain ⟨i,hi,e⟩:=qal.1 (hp.mem_iff.1 hx);rw [←e, ←oJ hi];exact h i hi
def Asc{α:Type}[Inhabited α](lt:α->α->Bool)(a b:Nat)(d:List α):Prop:= ∀i j,a<=i->i<j->j<b->lt (el d j) (el d i)=false
end Go.Vs
namespace Go.Vs
theorem C9{j:Nat}(h:1<=j)(h2:j<4000000000000000000):ao ((j:Int) - 1)=((j - 1:Nat):Int):=by rw [aU (by omega) (by omega)];omega
section
variable{α:Type}{cmp:α->α->Option Int}{lt:α->α->Bool}{p:α->Prop}
theorem Tx(hc:Np cmp lt p){x y:α}(hx:p x)(hy:p y):(cmp x y).bind (λr=>some (decide (r<0)))=some (lt x y):=by
 obtain ⟨r,h1,h2⟩:=hc x y hx hy;rw [h1,qa0,h2]
end
section
variable{α:Type}[Inhabited α]{cmp:α->α->Option Int}{lt:α->α->Bool}{p:α->Prop}
theorem Jz{d:List α}{i j:Nat}{x:α}(hj:j<d.length):bs (d.set i x) (j:Int)=some (el (d.set i x) j):=rv (by simpa using hj)
theorem Xe(d:List α)(i j:Nat):(d.set i (el d j)).set j (el d i)=swp d i j:=rfl
theorem Pn(hc:Np cmp lt p)(hl:wb lt p){a i:Nat}{d0:List α}(hi:i<d0.length)(hn:d0.length<1000000000)(hp:LS p d0): ∀(d:List α) (j:Nat),a<=j->j<=i->mv a (i+1) d0 d->
   (∀x y,a<=x->x<y->y<=i->x≠j->y≠j->lt (el d y) (el d x)=false)->(∀y,j<y->y<=i->lt (el d y) (el d j)=false)->
   ∃d',cu (fun (s7:(List α)×(Int))=>Option.bind ((bif decide ((a:Int)<s7.2) then
  (bs s7.1 s7.2).bind λM3=>
  (bs s7.1 (ao (s7.2 - 1))).bind λx19=>
  (cmp M3 x19).bind λuo=>
  some (decide (uo<0))
 else
  some false)) λwH=>
  (bif wH then
  (bs s7.1 (ao (s7.2 - 1))).bind λzI=>
  (bs s7.1 s7.2).bind λSn=>
  (bs s7.1 s7.2).bind λx48=>
  (bs (s7.1.set s7.2.toNat zI) (ao (s7.2 - 1))).bind λM5=>
  some (.inl (((s7.1.set s7.2.toNat zI).set (ao (s7.2 - 1)).toNat Sn),ao (s7.2 - 1)))
 else
  some (.inr s7.1))) (d,(j:Int))=some d'/\mv a (i+1) d0 d'/\Asc lt a (i+1) d':=by
  intro d j
  induction j generalizing d with
  | zero=>
   intro ha _ hP h1 h2;have e1:decide ((a:Int)<((0:Nat):Int))=false:=decide_eq_false (by omega);rw [bq];simp only [e1,cond_false,qa0,bk];refine ⟨d,rfl,hP,λx y hx J3 hy=> ?_⟩;by_cases hx0:x=0
   ·subst hx0;exact h2 y J3 (by omega)
   ·exact h1 x y hx J3 (by omega) hx0 (by omega)
  | succ j ih=>
   intro ha hji hP h1 h2;have hlen:=hP.len;have hpd:=hp.perm hP.perm;have ej:ao (((j+1:Nat):Int) - 1)=(j:Int):=C9 (by omega) (by omega);rw [bq];by_cases haj:a<j+1
   ·have e1:decide ((a:Int)<((j+1:Nat):Int))=true:=decide_eq_true (by omega);simp only [e1,cond_true,ej,rv (d:=d) (i:=j+1) (by omega),rv (d:=d) (i:=j) (by omega),qa0,Tx hc (hpd (j+1) (by omega)) (hpd j (by omega))];cases bG:lt (el d (j+1)) (el d j) with
    | true=>
     simp only [cond_true,Jz (d:=d) (i:=j+1) (j:=j) (x:=el d j) (by omega),qa0,qb1,Xe,bk];have sw: ∀k,el (swp d (j+1) j) k=if k=j then el d (j+1) else if k=j+1 then el d j else el d k:=λk=>C8 (by omega) (by omega)
     refine ih (swp d (j+1) j) (by omega) (by omega) (hP.trans (mv.swp (by omega) (by omega) (by omega) (by omega) (by omega))) ?_ ?_
     ·intro x y hx J3 hy hxj hyj;rw [sw,sw,if_neg hyj,if_neg hxj];by_cases LU:y=j+1
      ·subst LU;rw [if_pos rfl,if_neg (by omega)];exact h1 x j hx (by omega) (by omega) (by omega) (by omega)
      ·rw [if_neg LU];by_cases aa9:x=j+1
       ·subst aa9;rw [if_pos rfl];exact h1 j y (by omega) (by omega) hy (by omega) LU
       ·rw [if_neg aa9];exact h1 x y hx J3 hy aa9 LU
     ·intro y hy hyi;rw [sw,sw,if_neg (by omega),if_pos rfl];by_cases LU:y=j+1
      ·subst LU;rw [if_pos rfl];exact hl.asymm (hpd _ (by omega)) (hpd _ (by omega)) bG
      ·rw [if_neg LU];exact h2 y (by omega) hyi
    | false=>
     simp only [cond_false,bk];refine ⟨d,rfl,hP,λx y hx J3 hy=> ?_⟩;by_cases hxj:x=j+1
     ·subst hxj;exact h2 y J3 (by omega)
     ·by_cases hyj:y=j+1
      ·subst hyj;by_cases aja:x=j
       ·subst aja;exact bG
       ·exact hl.ntrans (hpd _ (by omega)) (hpd j (by omega)) (hpd _ (by omega)) bG (h1 x j hx (by omega) (by omega) hxj (by omega))
      ·exact h1 x y hx J3 (by omega) hxj hyj
   ·have e1:decide ((a:Int)<((j+1:Nat):Int))=false:=decide_eq_false (by omega);have:a=j+1:=by omega
    simp only [e1,cond_false,qa0,bk];refine ⟨d,rfl,hP,λx y hx J3 hy=> ?_⟩;by_cases hx0:x=j+1
    ·subst hx0;exact h2 y J3 (by omega)
    ·exact h1 x y hx J3 (by omega) hx0 (by omega)
end
end Go.Vs
namespace Go.Vs
end Go.Vs
namespace Go.Vs
theorem Xf{S R U:Type}{f:S->Option (S⊕R)}(J:S->Prop)(μ:S->Nat)(Z:R->Prop)(step: ∀s,J s->(∃s',f s=some (.inl s')/\J s'/\μ s'<μ s)\/ ∃r,f s=some (.inr r)/\Z r){s:S}(hs:J s){c:R->Option U}{P:U->Prop}
  (hk: ∀r,Z r-> ∃u,c r=some u/\P u): ∃u,(cu f s).bind c=some u/\P u:=by
 obtain ⟨r,h1,h2⟩:=EP J μ Z step s hs;obtain ⟨u,h3,h4⟩:=hk r h2;exact ⟨u,by rw [h1];exact h3,h4⟩
end Go.Vs
namespace Go.Vs
end Go.Vs
namespace Go.Vs
abbrev cQ:=Int×Int
def lO(x y:cQ):Bool:=decide (x.2<y.2\/x.2=y.2/\x.1<y.1)
theorem tM{x y:cQ}:lO x y=true↔x.2<y.2\/x.2=y.2/\x.1<y.1:=by simp [lO]
theorem vU{x y:cQ}:lO x y=false↔ ¬(x.2<y.2\/x.2=y.2/\x.1<y.1):=by simp [lO]
theorem qH:wb lO (λ_=>True) where
 irrefl x _:=by rw [vU];omega
 trans x y z _ _ _ h1 h2:=by rw [tM] at *; omega
 total x y _ _ h:=by
  rw [tM,tM];by_cases e:x.2=y.2
  ·have:x.1≠y.1:=λe2=>h (Prod.ext e2 e);omega
  ·omega
theorem Ty(a b:Int):M.qo [a,b]=some (if a=0 then b else a):=by
 unfold M.qo;by_cases ha:a=0
 ·subst ha;by_cases hb:b=0
  ·subst hb;rw [bq];have e0:decide ((0:Int)<(([0,0]:List Int).length:Int))=true:=rfl;have g0:bs ([0,0]:List Int) 0=some 0:=rfl;have w0:ao ((0:Int)+1)=1:=rfl;have e1:decide ((1:Int)<(([0,0]:List Int).length:Int))=true:=rfl;have g1:bs ([0,0]:List Int) 1=some 0:=rfl;have w1:ao ((1:Int)+1)=2:=rfl;have e2:decide ((2:Int)<(([0,0]:List Int).length:Int))=false:=rfl;simp only [e0,cond_true,g0,qa0,bne_self_eq_false,cond_false,w0,bk];rw [bq];simp only [e1,cond_true,g1,qa0,bne_self_eq_false,cond_false,w1,bk];rw [bq];simp only [e2,cond_false,qa0,bk,if_true]
  ·rw [bq];have e0:decide ((0:Int)<(([0,b]:List Int).length:Int))=true:=rfl;have g0:bs ([0,b]:List Int) 0=some 0:=rfl;have w0:ao ((0:Int)+1)=1:=rfl;have e1:decide ((1:Int)<(([0,b]:List Int).length:Int))=true:=rfl;have g1:bs ([0,b]:List Int) 1=some b:=rfl;simp only [e0,cond_true,g0,qa0,bne_self_eq_false,cond_false,w0,bk];rw [bq];have fS:(b != 0)=true:=by simpa using hb
   simp only [e1,cond_true,g1,qa0,fS,bk,if_true]
 ·rw [bq];have e0:decide ((0:Int)<(([a,b]:List Int).length:Int))=true:=rfl;have g0:bs ([a,b]:List Int) 0=some a:=rfl;have ha':(a != 0)=true:=by simpa using ha
  simp only [e0,cond_true,g0,qa0,ha',bk,if_neg ha]
theorem qI(x y:cQ): ∃r,M.dp (x.1,x.2) (y.1,y.2)=some r/\decide (r<0)=lO x y/\decide (0<r)=lO y x:=by
 unfold M.dp;simp only [C5,qa0,Ty];refine ⟨_,rfl, ?_, ?_⟩
 ·unfold lO;apply decide_eq_decide.2;by_cases h:z8 x.2 y.2=0
  ·rw [if_pos h,yH];rw [sQ] at h;omega
  ·rw [if_neg h,yH];rw [sQ] at h;omega
 ·unfold lO;apply decide_eq_decide.2;by_cases h:z8 x.2 y.2=0
  ·rw [if_pos h,Jp];rw [sQ] at h;omega
  ·rw [if_neg h,Jp];rw [sQ] at h;omega
theorem Da:Np GW lO (λ_=>True):=λx y _ _=>by
 obtain ⟨r,h1,h2,_⟩:=qI x y;exact ⟨r,h1,h2⟩
theorem BJ{h:List cQ}{i j:Nat}(hi:i<h.length)(hj:j<h.length):M.dV h (i:Int) (j:Int)=some (lO (el h j) (el h i)):=by
 unfold M.dV;obtain ⟨r,h1,_,h3⟩:=qI (el h i) (el h j);simp only [rv hi,rv hj,qa0,h1,h3]
theorem GY{h:List cQ}{i j:Nat}(hi:i<h.length)(hj:j<h.length):M.fH h (i:Int) (j:Int)=some (swp h i j):=by
 unfold M.fH;simp only [rv hi,rv hj,qa0,qb1,Jz (d:=h) (i:=i) (j:=j) hj]
 rfl
def HP(n:Nat)(h:List cQ):Prop:= ∀i,0<i->i<n->lO (el h ((i - 1) / 2)) (el h i)=false
theorem Po{h0:List cQ}(hn:h0.length<1000000000): ∀(m:Nat) (h:List cQ) (j:Nat),j=m->j<h0.length->mv 0 h0.length h0 h->
  (∀i,0<i->i<h0.length->i≠j->lO (el h ((i - 1) / 2)) (el h i)=false)->(∀i,0<i->i<h0.length->0<j->(i - 1) / 2=j->lO (el h ((j - 1) / 2)) (el h i)=false)->
  ∃h',M.bu h (j:Int)=some h'/\mv 0 h0.length h0 h'/\HP h0.length h':=by
 intro m
 induction m using Nat.strongRecOn with
 | _ m ih=>
  intro h j hjm hj hP h1 h2;have hlen:=hP.len;by_cases hj0:j=0
  ·subst hj0;unfold M.bu;rw [bq];have e:(ao ((ao (((0:Nat):Int) - 1)).tdiv 2)==((0:Nat):Int))=true:=rfl;simp only [e,cond_true,qa0,bk];exact ⟨h,rfl,hP,λi vM Bz=>h1 i vM Bz (by omega)⟩
  ·have ep:ao ((ao ((j:Int) - 1)).tdiv 2)=(((j - 1) / 2:Nat):Int):=by
    rw [C9 (by omega) (by omega),Int.tdiv_eq_ediv_of_nonneg (by omega),aU (by omega) (by omega)];omega
   have ene:((((j - 1) / 2:Nat):Int)==(j:Int))=false:=beq_eq_false_iff_ne.2 (by omega);have hlp:(j - 1) / 2<h.length:=by omega
   cases bG:lO (el h ((j - 1) / 2)) (el h j) with
   | false=>
    unfold M.bu;rw [bq];simp only [ep,ene,cond_false,BJ (h:=h) (i:=j) (j:=(j - 1) / 2) (by omega) hlp,qa0,bG,qcl,cond_true,bk];refine ⟨h,rfl,hP,λi vM Bz=> ?_⟩;by_cases qh:i=j
    ·subst qh;exact bG
    ·exact h1 i vM Bz qh
   | true=>
    have sw: ∀k,el (swp h ((j - 1) / 2) j) k=if k=j then el h ((j - 1) / 2) else if k=(j - 1) / 2 then el h j else el h k:=λk=>C8 hlp (by omega)
    have j6:M.bu h (j:Int)=M.bu (swp h ((j - 1) / 2) j) (((j - 1) / 2:Nat):Int):=by
     conv=>lhs;unfold M.bu
     rw [bq];simp only [ep,ene,cond_false,BJ (h:=h) (i:=j) (j:=(j - 1) / 2) (by omega) hlp,qa0,bG,qae,cond_false,GY (h:=h) (i:=(j - 1) / 2) (j:=j) hlp (by omega),bk]
     rfl
    rw [j6];have asy:=qH.asymm trivial trivial bG;refine ih ((j - 1) / 2) (by omega) _ _ rfl (by omega) (hP.trans (mv.swp (by omega) (by omega) (by omega) (by omega) (by omega))) ?_ ?_
    ·intro i vM Bz hip;rw [sw,sw];by_cases qh:i=j
     ·subst qh;rw [if_pos rfl,if_neg (by omega),if_pos rfl];exact asy
     ·rw [if_neg qh,if_neg hip];by_cases hpj:(i - 1) / 2=j
      ·rw [if_pos hpj];exact h2 i vM Bz (by omega) hpj
      ·rw [if_neg hpj];by_cases hpp:(i - 1) / 2=(j - 1) / 2
       ·rw [if_pos hpp];have:=h1 i vM Bz qh;rw [hpp] at this;exact qH.ntrans trivial trivial trivial asy this
       ·rw [if_neg hpp];exact h1 i vM Bz qh
    ·intro i vM Bz hp0 hpi;have aeT:=h1 ((j - 1) / 2) hp0 (by omega) (by omega);rw [sw,sw,if_neg (by omega),if_neg (by omega)];by_cases qh:i=j
     ·subst qh;rw [if_pos rfl];exact aeT
     ·rw [if_neg qh,if_neg (by omega)];have:=h1 i vM Bz qh;rw [hpi] at this;exact qH.ntrans trivial trivial trivial aeT this
theorem Xg{h:List cQ}(hn:h.length<1000000)(hh:HP h.length h)(x:cQ): ∃h',M.bP h (x.1,x.2)=some h'/\h'.Perm (x::h)/\HP h'.length h':=by
 unfold M.bP M.fz M.iz;rw [iN (by simp;omega)];have hl:(h++[(x.1,x.2)]).length=h.length+1:=by simp
 have e:ao (((h++[(x.1,x.2)]).length:Int) - 1)=(h.length:Int):=by rw [hl,aU (by omega) (by omega)];omega
 simp only [qa0,e];have ea: ∀k,k<h.length->el (h++[(x.1,x.2)]) k=el h k:=λk hk=>by
  rw [oJ (by omega),oJ hk,qb7 hk]
 obtain ⟨h',h1,h2,h3⟩:=Po (h0:=h++[(x.1,x.2)]) (by omega) h.length _ h.length rfl (by omega) (mv.refl _)
  (λi vM Bz jE=>by rw [ea _ (by omega),ea _ (by omega)];exact hh i vM (by omega)) (λi vM Bz _ hpi=>by omega)
 rw [h1];refine ⟨h',rfl,h2.perm.trans ?_,by rw [h2.len];exact h3⟩;exact qc6 (l₁:=h) (l₂:=[x])
theorem HP.top{n:Nat}{h:List cQ}(hh:HP n h): ∀i,i<n->lO (el h 0) (el h i)=false:=by
 intro i
 induction i using Nat.strongRecOn with
 | _ i ih=>
  intro hi;by_cases h0:i=0
  ·subst h0;exact qH.irrefl _ trivial
  ·exact qH.ntrans trivial trivial trivial (ih ((i - 1) / 2) (by omega) (by omega)) (hh i (by omega) hi)
theorem JA{h0:List cQ}{n:Nat}(hn:h0.length<1000000)(Vb:n<=h0.length): ∃r,M.cR h0 0 (n:Int)=some r/\
  ((∀k,0<k->k<n->(k - 1) / 2≠0->lO (el h0 ((k - 1) / 2)) (el h0 k)=false)->mv 0 n h0 r.2/\HP n r.2):=by
 unfold M.cR;refine Xf (λs=> ∃(h:List cQ) (i:Nat),s=(h,(i:Int))/\i<=h0.length/\h.length=h0.length/\((∀k,0<k->k<n->(k - 1) / 2≠0->lO (el h0 ((k - 1) / 2)) (el h0 k)=false)->mv 0 n h0 h/\
   (∀k,0<k->k<n->(k - 1) / 2≠i->lO (el h ((k - 1) / 2)) (el h k)=false)/\(∀k,0<k->k<n->0<i->(k - 1) / 2=i->lO (el h ((i - 1) / 2)) (el h k)=false))) (λs=>((h0.length:Int) - s.2).toNat)
  (λr=>(∀k,0<k->k<n->(k - 1) / 2≠0->lO (el h0 ((k - 1) / 2)) (el h0 k)=false)->mv 0 n h0 r.1/\HP n r.1) ?_
  ⟨h0,0,rfl,by omega,rfl,λhh=>⟨mv.refl _,λk h1 h2 h3=>hh k h1 h2 h3,λk _ _ h=>absurd h (qc1 _)⟩⟩ (λr hr=>⟨_,rfl,hr⟩)
 rintro _ ⟨h,i,rfl,hi,hlen,hJ⟩;have e1:ao ((ao (2*(i:Int)))+1)=((2*i+1:Nat):Int):=by rw [aU (n:=2*(i:Int)) (by omega) (by omega),aU (by omega) (by omega)];omega
 have e2:ao (((2*i+1:Nat):Int)+1)=((2*i+2:Nat):Int):=by rw [aU (by omega) (by omega)];omega
 simp only [e1,e2];by_cases hc:n<=2*i+1
 ·right;have e3:decide ((n:Int)<=((2*i+1:Nat):Int))=true:=decide_eq_true (by omega);refine ⟨(h,(i:Int)),by simp only [e3,cond_true,qa0],λhh=> ?_⟩;obtain ⟨j1,j2,j3⟩:=hJ hh;exact ⟨j1,λk k1 k2=>j2 k k1 k2 (by omega)⟩
 ·have e3:decide ((n:Int)<=((2*i+1:Nat):Int))=false:=decide_eq_false (by omega);have e4:decide (((2*i+1:Nat):Int)<0)=false:=decide_eq_false (by omega);obtain ⟨j,hj1,ZV,hj3,hj4⟩: ∃j:Nat,(Option.bind ((bif decide (((2*i+2:Nat):Int)<(n:Int)) then (M.dV h ((2*i+2:Nat):Int) ((2*i+1:Nat):Int)).bind λrn=>some rn else some false)) λwH=>(bif wH then some ((2*i+2:Nat):Int) else some ((2*i+1:Nat):Int)))=some (j:Int)/\(j - 1) / 2=i/\(0<j/\j<n)/\(∀k,0<k->k<n->(k - 1) / 2=i->lO (el h j) (el h k)=false):=by
   by_cases UK:2*i+2<n
   ·have e5:decide (((2*i+2:Nat):Int)<(n:Int))=true:=decide_eq_true (by omega);simp only [e5,cond_true,BJ (h:=h) (i:=2*i+2) (j:=2*i+1) (by omega) (by omega),qa0];cases bG:lO (el h (2*i+1)) (el h (2*i+2)) with
    | true=>
     refine ⟨2*i+2,rfl,by omega,by omega,λk k1 k2 k3=> ?_⟩;rcases (show k=2*i+1\/k=2*i+2 by omega) with rfl | rfl
     ·exact qH.asymm trivial trivial bG
     ·exact qH.irrefl _ trivial
    | false=>
     refine ⟨2*i+1,rfl,by omega,by omega,λk k1 k2 k3=> ?_⟩;rcases (show k=2*i+1\/k=2*i+2 by omega) with rfl | rfl
     ·exact qH.irrefl _ trivial
     ·exact bG
   ·have e5:decide (((2*i+2:Nat):Int)<(n:Int))=false:=decide_eq_false (by omega);simp only [e5,cond_false,qa0];refine ⟨2*i+1,rfl,by omega,by omega,λk k1 k2 k3=> ?_⟩;have:k=2*i+1:=by omega
    subst this;exact qH.irrefl _ trivial
  have hrw: ∀{β:Type} (g:Int->Option β),(Option.bind ((bif decide (((2*i+2:Nat):Int)<(n:Int)) then (M.dV h ((2*i+2:Nat):Int) ((2*i+1:Nat):Int)).bind λrn=>some rn else some false)) λwH=>Option.bind (bif wH then some ((2*i+2:Nat):Int) else some ((2*i+1:Nat):Int)) g)=g (j:Int):=by
   intro β g;rw [←Option.bind_assoc,hj1];rfl
  simp only [e3,cond_false,e4,qa0];rw [hrw];simp only [BJ (h:=h) (i:=j) (j:=i) (by omega) (by omega),qa0];cases bG:lO (el h i) (el h j) with
  | false=>
   right;refine ⟨(h,(i:Int)),by simp only [qcl,cond_true],λhh=> ?_⟩;obtain ⟨j1,j2,j3⟩:=hJ hh;refine ⟨j1,λk k1 k2=> ?_⟩;by_cases hk:(k - 1) / 2=i
   ·rw [hk];exact qH.ntrans trivial trivial trivial bG (hj4 k k1 k2 hk)
   ·exact j2 k k1 k2 hk
  | true=>
   left;have sw: ∀k,el (swp h i j) k=if k=j then el h i else if k=i then el h j else el h k:=λk=>C8 (by omega) (by omega)
   refine ⟨(swp h i j,(j:Int)),by simp only [qae,cond_false,GY (h:=h) (i:=i) (j:=j) (by omega) (by omega),qa0],⟨swp h i j,j,rfl,by omega,by rw [GX];exact hlen,λhh=> ?_⟩,by simp only;omega⟩;obtain ⟨j1,j2,j3⟩:=hJ hh;have asy:=qH.asymm trivial trivial bG;refine ⟨j1.trans (mv.swp (by omega) (by omega) (by omega) (by omega) (by omega)),λk k1 k2 k3=> ?_,λk k1 k2 k3 k4=> ?_⟩
   ·rw [sw,sw,if_neg k3];by_cases hkj:k=j
    ·subst hkj;rw [if_pos rfl,if_pos ZV];exact asy
    ·rw [if_neg hkj];by_cases hki:k=i
     ·subst hki;rw [if_pos rfl,if_neg (by omega)];exact j3 j (by omega) (by omega) (by omega) ZV
     ·rw [if_neg hki];by_cases hp:(k - 1) / 2=i
      ·rw [if_pos hp];exact hj4 k k1 k2 hp
      ·rw [if_neg hp];exact j2 k k1 k2 hp
   ·rw [sw,sw,if_neg (by omega),if_pos ZV,if_neg (by omega),if_neg (by omega)];have:=j2 k k1 k2 (by omega);rw [k4] at this;exact this
end Go.Vs
namespace Go.Vs
def lW(x:cQ):List cQ->List cQ
 | []=>[x]
 | y::r=>if lO x y then x::y::r else y::lW x r
def yJ(l:List cQ):Prop:=l.Pairwise λx y=>lO y x=false
theorem sT(x:cQ)(l:List cQ):(lW x l).Perm (x::l):=by
 induction l with
 | nil=>exact List.Perm.refl _
 | cons y r ih=>
  unfold lW;split
  ·exact List.Perm.refl _
  ·exact (List.Perm.cons y ih).trans (List.Perm.swap x y r)
theorem Db{x:cQ}{l:List cQ}(h:yJ l):yJ (lW x l):=by
 induction l with
 | nil=>exact List.pairwise_singleton _ _
 | cons y r ih=>
  obtain ⟨h1,h2⟩:=qbf.1 h;unfold lW;split
  ·rename_i bG;refine qbf.2 ⟨λz hz=> ?_,h⟩;rcases qa7.1 hz with rfl | hz
   ·exact qH.asymm trivial trivial bG
   ·exact qH.ntrans trivial trivial trivial (h1 z hz) (qH.asymm trivial trivial bG)
  ·rename_i bG;refine qbf.2 ⟨λz hz=> ?_,ih h2⟩;rcases qa7.1 ((sT x r).mem_iff.1 hz) with rfl | hz
   ·simpa using bG
   ·exact h1 z hz
theorem tN{x y:cQ}(h1:lO x y=false)(h2:lO y x=false):x=y:=by
 rcases Classical.em (x=y) with h | h
 ·exact h
 ·rcases qH.total x y trivial trivial h with h' | h'
  ·rw [h1] at h';cases h'
  ·rw [h2] at h';cases h'
theorem yK{l m:List cQ}(hl:yJ l)(hm:yJ m)(h:l.Perm m):l=m:=
 List.Perm.eq_of_pairwise (le:=λx y=>lO y x=false) (λ_ _ _ _ h1 h2=>tN h2 h1) hl hm h
theorem JB(x:cQ)(l:List cQ):(lW x l).length=l.length+1:=by rw [(sT x l).length_eq];rfl
theorem E5(x:cQ): ∀(k:Nat) (l:List cQ),(lW x (l.take k)).take k=(lW x l).take k
 | 0,l=>by simp
 | k+1,[]=>by simp
 | k+1,y::r=>by
  rw [qc0];unfold lW;split
  ·rw [qc0,qc0];cases k with
   | zero=>simp
   | succ k=>simp [List.take_take]
  ·rw [qc0,qc0,E5 x k r]
def fF(l:List cQ):List cQ:=l.foldl (λS x=>lW x S) []
theorem dS(l:List cQ):yJ (fF l)/\(fF l).Perm l:=by
 have key: ∀(l S:List cQ),yJ S->yJ (l.foldl (λS x=>lW x S) S)/\(l.foldl (λS x=>lW x S) S).Perm (S++l):=by
  intro l
  induction l with
  | nil=>intro S h;exact ⟨h,by simp⟩
  | cons x r ih=>
   intro S h;obtain ⟨h1,h2⟩:=ih (lW x S) (Db h);refine ⟨h1,h2.trans ?_⟩;have:=List.Perm.append_right r (sT x S);exact this.trans (List.perm_middle.symm)
 exact key l [] List.Pairwise.nil
theorem LV(l:List cQ)(x:cQ):fF (l++[x])=lW x (fF l):=by simp [fF]
theorem E6(l:List cQ):(fF l).length=l.length:=(dS l).2.length_eq
theorem tO{l m:List cQ}(hm:yJ m)(h:m.Perm l):fF l=m:=yK (dS l).1 hm ((dS l).2.trans h.symm)
def cP(k:Nat)(l:List cQ):List cQ:=(fF l).take k
theorem pW(k:Nat)(l:List cQ)(x:cQ):cP k (l++[x])=(lW x (cP k l)).take k:=by
 unfold cP;rw [LV,E5]
theorem qJ(k:Nat)(l:List cQ):yJ (cP k l):=(dS l).1.sublist (List.take_sublist _ _)
theorem ly(k:Nat)(l:List cQ):(cP k l).length=min k l.length:=by simp [cP,E6]
theorem vp(k:Nat)(l:List cQ): ∀x∈cP k l,x∈l:=λx hx=>(dS l).2.mem_iff.1 (List.mem_of_mem_take hx)
theorem aba{h:List cQ}(hn:h.length<1000000)(h1:0<h.length)(hh:HP h.length h): ∃x h',M.cX h=some (x,h')/\(h'++[x]).Perm h/\HP h'.length h'/\ ∀y∈h,lO x y=false:=by
 unfold M.cX M.iz;have el1:ao ((h.length:Int) - 1)=((h.length - 1:Nat):Int):=C9 h1 (by omega);have e0:(0:Int)=((0:Nat):Int):=rfl;simp only [qa0,el1];rw [e0,GY h1 (by omega)];simp only [qa0];have hs:(swp h 0 (h.length - 1)).length=h.length:=GX;obtain ⟨r,hr,hJ⟩:=JA (h0:=swp h 0 (h.length - 1)) (n:=h.length - 1) (by omega) (by omega);have sw: ∀k,el (swp h 0 (h.length - 1)) k=if k=h.length - 1 then el h 0 else if k=0 then el h (h.length - 1) else el h k:=λk=>C8 h1 (by omega)
 obtain ⟨j1,j2⟩:=hJ (λk k1 k2 k3=>by
  rw [sw,sw,if_neg (by omega),if_neg k3,if_neg (by omega),if_neg (by omega)];exact hh k k1 (by omega))
 rw [←e0,hr];simp only [qa0];unfold M.lF;have dB:r.2.length=h.length:=by rw [j1.len,hs]
 have el2:ao ((r.2.length:Int) - 1)=((h.length - 1:Nat):Int):=by rw [dB];exact el1
 have Y8:el r.2 (h.length - 1)=el h 0:=by rw [j1.out _ (by omega),sw,if_pos rfl]
 rw [el2,rv (by omega),kE (by omega) (by omega) (by omega)];simp only [qa0,qb1,Y8,Int.toNat_zero,qcc];refine ⟨_,_,rfl, ?_, ?_, ?_⟩
 ·have:r.2.take (h.length - 1)++[el h 0]=r.2:=by
   have:=qb4 (l:=r.2) (i:=h.length - 1) (by omega);rw [←oJ (by omega),Y8,show h.length - 1+1=r.2.length by omega,qbv] at this;exact this.symm
  show (r.2.take (h.length - 1)++[el h 0]).Perm h;rw [this];exact j1.perm.trans (Jy h1 (by omega))
 ·have ht:(r.2.take (h.length - 1)).length=h.length - 1:=by simp;omega
  rw [ht];intro i i1 i2;have e: ∀k,k<h.length - 1->el (r.2.take (h.length - 1)) k=el r.2 k:=λk hk=>by
   rw [oJ (by omega),oJ (by omega),qcd]
  rw [e _ (by omega),e _ (by omega)];exact j2 i i1 i2
 ·intro y hy;obtain ⟨i,hi,rfl⟩:=qal.1 hy;rw [←oJ hi];exact hh.top i hi
theorem Tz{T kept:List cQ}{k:Nat}(hk:k<=1000)(hT:yJ T)(hTk:T.length<=k)(hh:HP kept.length kept)(hp:kept.Perm T)(x:cQ):
  ∃sU,M.dF ((k:Int),kept) (x.1,x.2)=some ((k:Int),sU)/\HP sU.length sU/\sU.Perm ((lW x T).take k):=by
 unfold M.dF;have K1:=hp.length_eq;obtain ⟨k1,h1,h2,h3⟩:=Xg (h:=kept) (by omega) hh x;simp only [h1,qa0];have wQ:k1.length=T.length+1:=by rw [h2.length_eq];simp [K1]
 have hp1:k1.Perm (lW x T):=h2.trans ((List.Perm.cons x hp).trans (sT x T).symm);have hil:=JB x T;by_cases hc:k<k1.length
 ·have e1:decide ((k:Int)<(k1.length:Int))=true:=decide_eq_true (by omega);obtain ⟨mx,k2,g1,g2,g3,g4⟩:=aba (h:=k1) (by omega) (by omega) h3;simp only [e1,cond_true,g1,qa0];refine ⟨k2,rfl,g3, ?_⟩;have hI:=Db (x:=x) hT;have jE:lW x T≠[]:=by intro e;rw [e] at hil;simp at hil
  have hdl:lW x T=(lW x T).take k++[(lW x T).getLast jE]:=by
   have h:=List.dropLast_concat_getLast jE;rw [List.dropLast_eq_take,show (lW x T).length - 1=k by omega] at h;exact h.symm
  have Qm:mx=(lW x T).getLast jE:=by
   refine tN (g4 _ (hp1.mem_iff.2 (List.getLast_mem jE))) ?_;have OC:mx∈lW x T:=hp1.mem_iff.1 (g2.mem_iff.1 (by simp));rw [hdl] at OC hI;rcases qaf.1 OC with h | h
   ·exact (List.pairwise_append.1 hI).2.2 _ h _ (by simp)
   ·rw [qbe.1 h];exact qH.irrefl _ trivial
  have:=(g2.trans hp1);rw [hdl, ←Qm] at this;exact (List.perm_append_right_iff _).1 this
 ·have e1:decide ((k:Int)<(k1.length:Int))=false:=decide_eq_false (by omega);simp only [e1,cond_false];refine ⟨k1,rfl,h3, ?_⟩;rw [qby (by omega)];exact hp1
theorem LX{T kept:List cQ}(hT:yJ T)(hp:kept.Perm T)(EV:T.Nodup)(hl:T.length<=16)(k:Int):M.fg (k,kept)=some T:=by
 unfold M.fg M.aP M.bm M.bA M.dz M.bb;have K1:=hp.length_eq;have QH:M.zn kept=some kept:=by unfold M.zn;rw [if_pos (by omega)]
 simp only [qa0,QH];obtain ⟨d',h1,h2,h3⟩:=IA (cmp:=GW) (lt:=lO) (xs:=kept) (by omega) (λx _ y _=>Da x y trivial trivial) (λx _=>qH.irrefl x trivial) (λx _ y _ z _=>qH.trans x y z trivial trivial trivial) (λx _ y _=>qH.total x y trivial trivial);rw [h1];simp only [qa0];exact congrArg some (yK h3 hT (h2.trans hp))
theorem E7(x y:cQ):M.jL (x.1,x.2) (y.1,y.2)=some (lO x y):=by
 unfold M.jL lO;by_cases h1:x.2<y.2
 ·simp [h1]
 ·by_cases h2:x.2=y.2
  ·simp [h2]
  ·have h3:(x.2==y.2)=false:=beq_eq_false_iff_ne.2 h2;simp [h1,h2,h3]
def abb:cQ->cQ->Option Int:=λx y=>some (if lO x y then -1 else 0)
theorem Nq:Np abb lO (λ_=>True):=λx y _ _=>⟨_,rfl,by cases h:lO x y <;> simp⟩
theorem Ad{S:List cQ}{k:Nat}(hS:yJ S)(hl:S.length<=1000)(hk:k<=1000)(x:cQ):M.lh S (x.1,x.2) (k:Int)=some ((lW x S).take k):=by
  unfold M.lh;rw [iN (by simp;omega)];simp only [qa0,qba];rw [iN (by simp;omega)];simp only [qa0];have hlen:(S++[(x.1,x.2)]).length=S.length+1:=by simp
  have e1:ao (((S++[(x.1,x.2)]).length:Int) - 1)=(S.length:Int):=by rw [hlen,aU (by omega) (by omega)];omega
  have hf:(fun (gQ:(List (Int×Int))×(Int))=>Option.bind ((bif decide (0<gQ.2) then
  (bs gQ.1 gQ.2).bind λur=>
  (bs gQ.1 (ao (gQ.2 - 1))).bind λxD=>
  (M.jL (ur.1,ur.2) (xD.1,xD.2)).bind λSe=>
  some Se
 else
  some false)) λqp=>
  (bif qp then
  (bs gQ.1 gQ.2).bind λx44=>
  (bs gQ.1 (ao (gQ.2 - 1))).bind λM5=>
  (bs gQ.1 gQ.2).bind λx61=>
  (bs (gQ.1.set gQ.2.toNat (M5.1,M5.2)) (ao (gQ.2 - 1))).bind λx68=>
  some (.inl (((gQ.1.set gQ.2.toNat (M5.1,M5.2)).set (ao (gQ.2 - 1)).toNat (x44.1,x44.2)),ao (gQ.2 - 1)))
 else
  some (.inr gQ.1):Option ((List cQ×Int)⊕List cQ)))=(fun (s7:(List cQ)×(Int))=>Option.bind ((bif decide (((0:Nat):Int)<s7.2) then
  (bs s7.1 s7.2).bind λM3=>
  (bs s7.1 (ao (s7.2 - 1))).bind λx19=>
  (abb M3 x19).bind λuo=>
  some (decide (uo<0))
 else
  some false)) λwH=>
  (bif wH then
  (bs s7.1 (ao (s7.2 - 1))).bind λzI=>
  (bs s7.1 s7.2).bind λSn=>
  (bs s7.1 s7.2).bind λx48=>
  (bs (s7.1.set s7.2.toNat zI) (ao (s7.2 - 1))).bind λM5=>
  some (.inl (((s7.1.set s7.2.toNat zI).set (ao (s7.2 - 1)).toNat Sn),ao (s7.2 - 1)))
 else
  some (.inr s7.1))):=by
   funext s;have ec: ∀a b:cQ,((M.jL (a.1,a.2) (b.1,b.2)).bind λSe=>some Se)=((abb a b).bind λuo=>some (decide (uo<0))):=by
    intro a b;rw [E7,Tx Nq trivial trivial];rfl
   have ec2: ∀(a:Option cQ) (b:Option cQ) (c:Option cQ) (g:cQ->Option cQ) (F:cQ->cQ->Option ((List cQ×Int)⊕List cQ)),(a.bind λx44=>b.bind λM5=>c.bind λx61=>(g M5).bind λ_=>F M5 x44)=(b.bind λzI=>a.bind λSn=>c.bind λx48=>(g zI).bind λ_=>F zI Sn):=by
    intro a b c g F;cases a <;> cases b <;> rfl
   simp only [ec,Int.cast_ofNat_Int];congr 1;funext o;cases o with
   | false=>rfl
   | true=>exact ec2 (bs s.1 s.2) (bs s.1 (ao (s.2 - 1))) (bs s.1 s.2) (λy=>bs (s.1.set s.2.toNat y) (ao (s.2 - 1))) (λy z=>some (.inl (((s.1.set s.2.toNat y).set (ao (s.2 - 1)).toNat z),ao (s.2 - 1))))
  rw [hf,e1];have ea: ∀i,i<S.length->el (S++[(x.1,x.2)]) i=el S i:=λi hi=>by rw [oJ (by omega),oJ hi,qb7 hi]
  obtain ⟨d',h1,h2,h3⟩:=Pn Nq qH (a:=0) (i:=S.length) (d0:=S++[(x.1,x.2)]) (by omega) (by omega) (λ_ _=>trivial) (S++[(x.1,x.2)]) S.length (qa8 _) (qa3 _) (mv.refl _)
   (λu v _ huv hv uI Hw=>by
    rw [ea u (by omega),ea v (by omega),oJ (by omega),oJ (by omega)];exact qas.1 hS u v _ _ huv) (λy h h'=>by omega)
  rw [h1];have hdl:d'.length=S.length+1:=by rw [h2.len,hlen]
  have ajb:yJ d':=by
   refine qas.2 λi j hi hj qh=> ?_;have:=h3 i j (qa8 _) qh (by omega);rwa [oJ hi,oJ hj] at this
  have hd:d'=lW x S:=yK ajb (Db hS) (h2.perm.trans ((qc6 (l₁:=S) (l₂:=[x])).trans (sT x S).symm));have hil:=JB x S;simp only [qa0];rw [hd,kE (by omega) (by omega) (by omega)];simp only [qa0,Int.toNat_zero,qcc,qah];by_cases hc:k<=(lW x S).length
  ·rw [show (min (k:Int) ((lW x S).length:Int)).toNat=k by omega]
  ·rw [show (min (k:Int) ((lW x S).length:Int)).toNat=(lW x S).length by omega,qbv,qby (by omega)]
def bB(l:List Item)(kind:Int)(at_:List Int):List cQ:=l.map λx=>(x.1,xq kind x.2.1 at_)
theorem LY{l:List Item}{kind:Int}{at_:List Int}:(bB l kind at_).length=l.length:=by simp [bB]
theorem GZ{l:List Item}{kind:Int}{at_:List Int}(hp:l.Pairwise (λx y=>x.1<y.1)):(bB l kind at_).Nodup:=by
 unfold bB List.Nodup;rw [List.pairwise_map];refine hp.imp λh e=> ?_;have:=congrArg Prod.fst e;simp only at this;omega
theorem tP{k:Nat}{l:List cQ}(h:l.Nodup):(cP k l).Nodup:=by
 unfold cP;exact (List.take_sublist _ _).nodup ((dS l).2.nodup_iff.2 h)
theorem JC{l:List Item}{kind:Int}{at_:List Int}{i:Nat}(hi:i<l.length):bB (l.take (i+1)) kind at_=bB (l.take i) kind at_++[(l[i].1,xq kind l[i].2.1 at_)]:=by
 unfold bB;rw [qb4 hi,qc7];rfl
def fi(l:List Item)(kind:Int)(at_:List Int):Bool:=cJ l&&isKind kind&&fE at_
def oK(l:List Item)(kind:Int)(at_:List Int)(k:Int):List cQ:=if fi l kind at_=true/\1<=k/\k<=16 then cP k.toNat (bB l kind at_) else []
theorem iu{l:List Item}{kind:Int}{at_:List Int}:fi l kind at_=true↔cJ l=true/\isKind kind=true/\fE at_=true:=by simp [fi,and_assoc]
theorem G0{l:List Item}{kind:Int}{at_:List Int}{k:Nat}(abc: ∀x∈l,fE x.2.1=true)(po:isKind kind=true)(hv:fE at_=true)(hlen:l.length<=1000)(hk:k<=1000):M.lG l kind at_ (k:Int)=some (cP k (bB l kind at_)):=by
 unfold M.lG;refine lN (xs:=l) (fun (s:List cQ) i=>(s,i)) (λs x=>(lW (x.1,xq kind x.2.1 at_) s).take k) (λi s=>s=cP k (bB (l.take i) kind at_)) (λs=>s) (s0:=[]) (by simp [bB,cP,fF]) ?_ ?_ ?_
 ·rintro s i hi rfl;have e1:decide ((i:Int)<(l.length:Int))=true:=decide_eq_true (by omega);have hx:=abc _ (qad hi);have hL:=ly k (bB (l.take i) kind at_);simp only [e1,cond_true,bT hi,qa0,GU po hx hv,fx (i:=i) (by omega)];have:=Ad (k:=k) (qJ k (bB (l.take i) kind at_)) (by rw [hL];omega) hk (l[i].1,xq kind l[i].2.1 at_);simp only at this;rw [this];refine ⟨rfl, ?_⟩;rw [←pW,JC hi]
 ·intro s _;simp
 ·intro hs;rw [hs,qbv]
theorem Bi{l:List Item}{kind:Int}{at_:List Int}{k:Nat}(hq:fi l kind at_=true)(hk:k<=1000):M.lG l kind at_ (k:Int)=some (cP k (bB l kind at_)):=by
 obtain ⟨ho,po,hv⟩:=iu.1 hq;obtain ⟨hlen,hit,_⟩:=dh.1 ho;exact G0 (λx hx=>C6 (hit x hx)) po hv (by omega) hk
theorem xv(n a b:Int):M.dE n a b=some (decide (a<=n/\n<=b)):=by
 unfold M.dE;by_cases h:a<=n <;> simp [h]
theorem Ef{l:List Item}{kind:Int}{at_:List Int}(h:gG l)(ha:at_.length<2000000):M.j8 l kind at_=some (fi l kind at_):=by
 unfold M.j8 fi;simp only [h.Y7,Jt,C2 at_ ha,qa0];cases cJ l <;> cases isKind kind <;> simp
theorem JD(k:Int):M.iQ k=some (decide (1<=k/\k<=16)):=by
 unfold M.iQ;by_cases h1:1<=k <;> simp [h1]
theorem qK{l:List Item}{kind:Int}{at_:List Int}{k:Int}(h:gG l)(ha:at_.length<2000000):M.gD l kind at_ k=some (decide (fi l kind at_=true/\1<=k/\k<=16)):=by
 unfold M.gD fi;simp only [h.impl,Jr,tK at_ ha,JD,qa0];cases cJ l <;> cases isKind kind <;> cases fE at_ <;> simp
theorem Xh{l:List Item}{D:Item->Int}{n:Nat}(hn:n<=1000){f:((Int)×(List (Int×Int)))×(Int)->Option ((((Int)×(List (Int×Int)))×(Int))⊕((Int)×(List (Int×Int))))}(hlen:l.length<=16)
  (hs: ∀i (h:i<l.length) (kept:List cQ),f (((n:Int),kept),(i:Int))=(M.dF ((n:Int),kept) (l[i].1,D l[i])).bind λr=>some (.inl ((r.1,r.2),((i+1:Nat):Int))))
  (he: ∀kept:List cQ,f (((n:Int),kept),(l.length:Int))=some (.inr ((n:Int),kept))):
  ∃sU,cu f (((n:Int),[]),0)=some ((n:Int),sU)/\sU.Perm (cP n (l.map λx=>(x.1,D x))):=by
 have key: ∀m i:Nat,i+m=l.length-> ∀kept:List cQ,HP kept.length kept->kept.Perm (cP n ((l.take i).map λx=>(x.1,D x)))->
   ∃sU,cu f (((n:Int),kept),(i:Int))=some ((n:Int),sU)/\sU.Perm (cP n (l.map λx=>(x.1,D x))):=by
  intro m
  induction m with
  | zero=>
   intro i hi kept hh hp;have:i=l.length:=by omega
   subst this;rw [qbv] at hp;rw [bq,he];exact ⟨kept,rfl,hp⟩
  | succ m ih=>
   intro i hi kept hh hp;have hil:i<l.length:=by omega
   have hL:=ly n ((l.take i).map λx=>(x.1,D x));obtain ⟨sU,g1,g2,g3⟩:=Tz (k:=n) hn (qJ n ((l.take i).map λx=>(x.1,D x))) (by omega) hh hp (l[i].1,D l[i]);simp only at g1;rw [bq,hs i hil,g1];simp only [qa0,bk];refine ih (i+1) (by omega) sU g2 ?_;rw [←pW] at g3;rw [qb4 hil,qc7];exact g3
 have:=key l.length 0 (by omega) [] (λi h1 h2=>by simp at h2) (by simp [cP,fF]);rw [show ((0:Nat):Int)=0 from rfl] at this;exact this
theorem G1{l:List Item}{kind:Int}{at_:List Int}{n:Nat}(abc: ∀x∈l,fE x.2.1=true)(hv:fE at_=true)(EV:(bB l kind at_).Nodup)(hlen:l.length<=16)(hn:n<=1000):M.iW l kind at_ (n:Int)=some (cP n (bB l kind at_)):=by
  unfold M.iW M.dA;obtain ⟨sU,g1,g2⟩:=Xh (l:=l) (D:=λx=>xq kind x.2.1 at_) (n:=n) hn (f:=fun (s5:((Int)×(List (Int×Int)))×(Int))=>(bif decide (s5.2<(l.length:Int)) then
  (bs l s5.2).bind λoH=>
  (M.dJ (oH.1,oH.2.1,oH.2.2) kind at_).bind λy8=>
  (M.dF (s5.1.1,s5.1.2) (oH.1,y8)).bind λKb=>
  some (.inl ((Kb.1,Kb.2),ao (s5.2+1)))
 else
  some (.inr (s5.1.1,s5.1.2)))) hlen (λi hi kept=>by
   have e1:decide ((i:Int)<(l.length:Int))=true:=decide_eq_true (by omega);unfold M.dJ;simp only [e1,cond_true,bT hi,qa0,GV (abc _ (qad hi)) hv,fx (i:=i) (by omega)]) (λkept=>by simp)
  rw [g1];have hL:=ly n (bB l kind at_);have dB:=LY (l:=l) (kind:=kind) (at_:=at_);simp only [qa0,LX (qJ n (bB l kind at_)) g2 (tP EV) (by omega)]
theorem vq{l:List Item}{kind:Int}{at_:List Int}{k:Int}(h:gG l)(ha:at_.length<2000000):M.ik l kind at_ k=some (oK l kind at_ k):=by
 unfold M.ik oK;simp only [qK h ha,qa0];by_cases hk:fi l kind at_=true/\1<=k/\k<=16
 ·obtain ⟨n,rfl⟩:=qb0 (show 0<=k by omega);obtain ⟨ho,po,hv⟩:=iu.1 hk.1;obtain ⟨hlen,hit,hpw⟩:=dh.1 ho;have rE:(1:Int)<=(n:Int)/\(n:Int)<=16:=hk.2;have abd:decide (fi l kind at_=true/\(1:Int)<=(n:Int)/\(n:Int)<=16)=true:=decide_eq_true hk;rw [abd,if_pos (show fi l kind at_=true/\(1:Int)<=(n:Int)/\(n:Int)<=16 from hk)];simp only [qae,cond_false,G1 (n:=n) (λx hx=>C6 (hit x hx)) hv (GZ hpw) hlen (by omega),qa0,qb1]
 ·have abd:decide (fi l kind at_=true/\1<=k/\k<=16)=false:=decide_eq_false hk;rw [abd,if_neg hk];rfl
end Go.Vs
namespace Go.Vs
theorem abe(x y:cQ):(([x.1,x.2]:List Int)==([y.1,y.2]:List Int))=(x==y):=by
 rw [qch];simp only [beq_iff_eq,List.cons.injEq,and_true];exact Prod.ext_iff.symm
theorem pJ{a b:List cQ}(ha:a.length<2000000):M.ff a b=some (decide (a=b)):=by
 unfold M.ff;simp only [abe];by_cases hl:a.length=b.length
 ·have e:((a.length:Int) != (b.length:Int))=false:=by simp;omega
  simp only [e,cond_false];rw [sP (xs:=a.zip b) (P:=λp=>p.1==p.2) (r:=false)]
  ·by_cases h:a=b
   ·subst h;have:(a.zip a).all (λp=>p.1==p.2)=true:=by
     rw [qab];intro p hp;obtain ⟨i,hi,rfl⟩:=qal.1 hp;simp
    rw [if_pos this];simp [bk]
   ·have: ¬(a.zip b).all (λp=>p.1==p.2)=true:=by
     intro hh;apply h;apply List.ext_getElem hl;intro i h1 h2;rw [qab] at hh;have:=hh (a[i],b[i]) (qal.2 ⟨i,by simp;omega,by simp⟩);simpa using this
    rw [if_neg this];simp [bk,h]
  ·intro i hi;have vM:i<a.length:=by simp at hi;omega
   have Bz:i<b.length:=by simp at hi;omega
   have e1:decide ((i:Int)<(a.length:Int))=true:=by simpa using vM
   have e2:ao ((i:Int)+1)=(i:Int)+1:=aU (by omega) (by omega);simp only [e1,cond_true,bT vM,bT Bz,qa0,e2,List.getElem_zip];cases hc:(a[i]==b[i]) <;> simp
  ·have:(a.zip b).length=a.length:=by simp;omega
   rw [this];simp
 ·have e:((a.length:Int) != (b.length:Int))=true:=by simp;omega
  have:a≠b:=λh=>hl (by rw [h]);simp [e,this]
theorem vr{l:List Item}{kind:Int}{at_:List Int}{k:Int}:(oK l kind at_ k).length<=16:=by
 unfold oK;split
 ·rename_i h;have:=ly k.toNat (bB l kind at_);omega
 ·simp
theorem vt{l:List Item}{kind:Int}{at_:List Int}{k:Int}(h:fi l kind at_=true)(h1:1<=k)(h2:k<=16):oK l kind at_ k=cP k.toNat (bB l kind at_):=if_pos ⟨h,h1,h2⟩
theorem xw{l:List Item}{kind:Int}{at_:List Int}{h:cQ}:h∈bB l kind at_↔ ∃x∈l,h=(x.1,xq kind x.2.1 at_):=by
 unfold bB;rw [qc5]
 constructor
 ·rintro ⟨x,hx,rfl⟩;exact ⟨x,hx,rfl⟩
 ·rintro ⟨x,hx,rfl⟩;exact ⟨x,hx,rfl⟩
end Go.Vs
namespace Go.Vs
theorem Xi{l:List cQ}(h:l.length<1000000):M.si l=some (l.map (·.1)):=by
 unfold M.si;refine lN (xs:=l) (fun (s:List Int) i=>(s,i)) (λs x=>s++[x.1]) (λi s=>s.length<=i) (λs=>s) (s0:=[]) (by simp) ?_ ?_ ?_
 ·rintro s i hi hs;have e1:decide ((i:Int)<(l.length:Int))=true:=decide_eq_true (by omega);simp only [e1,cond_true,bT hi,qa0,fx (i:=i) (by omega)];rw [iN (by simp;omega)];exact ⟨rfl,by simp;omega⟩
 ·intro s _;simp
 ·intro _;rw [foldl_map];simp
end Go.Vs
namespace Go.Vs
theorem G2(q:cQ->Bool)(l:List cQ):fF (l.filter q)=(fF l).filter q:=
 tO ((dS l).1.sublist qax) ((dS l).2.filter q)
theorem TA{l:List Item}{kind:Int}{at_:List Int}{k:Int}:bB (lQ l k) kind at_=(bB l kind at_).filter λh=>h.1 != k:=by
 unfold bB lQ;rw [List.filter_map];rfl
end Go.Vs
namespace Go.Vs
end Go.Vs
namespace Go.Vs
end Go.Vs
namespace Go.Vs
end Go.Vs
namespace Go.Vs
end Go.Vs
namespace Go.Vs
end Go.Vs
namespace Go.Vs
end Go.Vs
namespace Go.Vs
end Go.Vs
namespace Go.Vs
end Go.Vs
namespace Go.Vs
end Go.Vs
namespace Go.Vs
end Go.Vs
namespace Go.Vs
end Go.Vs
namespace Go.Vs
end Go.Vs
namespace Go.Vs
end Go.Vs
namespace Go.Vs
end Go.Vs
namespace Go.Vs
end Go.Vs
namespace Go.Vs
end Go.Vs
namespace Go.Vs
end Go.Vs
namespace Go.Vs
theorem Dc{α:Type}(p q:α->Bool)(l:List α)(h: ∀x∈l,p x=true->q x=false):(l.filter p++l.filter q).Perm (l.filter λx=>p x || q x):=by
 induction l with
 | nil=>simp
 | cons x r ih=>
  have ih:=ih (λy hy=>h y (by simp [hy]));by_cases hp:p x=true
  ·have hq:=h x (by simp) hp;rw [List.filter_cons_of_pos hp,List.filter_cons_of_neg (by simp [hq]),List.filter_cons_of_pos (by simp [hp])];exact List.Perm.cons x ih
  ·simp only [qbg] at hp;by_cases hq:q x=true
   ·rw [List.filter_cons_of_neg (by simp [hp]),List.filter_cons_of_pos hq,List.filter_cons_of_pos (by simp [hq])];exact List.perm_middle.trans (List.Perm.cons x ih)
   ·simp only [qbg] at hq;rw [List.filter_cons_of_neg (by simp [hp]),List.filter_cons_of_neg (by simp [hq]),List.filter_cons_of_neg (by simp [hp,hq])];exact ih
end Go.Vs
namespace Go.Vs
end Go.Vs
namespace Go.Vs
end Go.Vs
namespace Go.Vs
end Go.Vs
namespace Go.Vs
end Go.Vs
namespace Go.Vs
end Go.Vs
namespace Go.Vs
end Go.Vs
namespace Go.Vs
end Go.Vs
namespace Go.Vs
end Go.Vs
namespace Go.Vs
end Go.Vs
namespace Go.Vs
end Go.Vs
namespace Go.Vs
end Go.Vs
namespace Go.Vs
end Go.Vs
namespace Go.Vs
end Go.Vs
namespace Go.Vs
end Go.Vs
namespace Go.Vs
theorem vV{k:Nat}{l m:List cQ}(h:l.Perm m):cP k l=cP k m:=by
 unfold cP;rw [tO (dS m).1 ((dS m).2.trans h.symm)]
theorem TB{k:Nat}(hk:k<=500000){r:List UInt8×Int}(hr:Good k r): ∃x r',M.qn (r.1,r.2)=some (x,(r'.1,r'.2))/\Good (k+1) r'/\0<=x/\x<=17:=by
 obtain ⟨x,⟨p,q⟩,h1,g1,m1⟩:=vm (by omega) hr (list:=[1,2,3,5,16,4,0,17]) (by simp);have Qq:M.cV (r.1,r.2) [1,2,3,5,16,4,0,17]=some (x,(p,q)):=h1;refine ⟨x,(p,q),by unfold M.qn;simp only [Qq,qa0],g1, ?_⟩;simp only [qa7,qap,or_false] at m1;omega
end Go.Vs
namespace Go.Vs
theorem Xj(h:cQ):lO h h=false:=by rw [vU];omega
theorem vW{a b c:cQ}(h1:lO a b=true)(h2:lO b c=true):lO a c=true:=by
 rw [tM] at *; omega
theorem TC{a b:cQ}(h:lO a b=true):lO b a=false:=by
 rw [tM] at h;rw [vU];omega
end Go.Vs
namespace Go.Vs
end Go.Vs
namespace Go.Vs
end Go.Vs
namespace Go.Vs
theorem Pp{S T R:Type}(st:S->Int->T)(g:S->Nat->S)(Inv:Nat->S->Prop){fin:S->R}{f:T->Option (T⊕R)}(n:Nat)
  (hs: ∀s i,i<n->Inv i s->f (st s (i:Int))=some (.inl (st (g s i) ((i+1:Nat):Int)))/\Inv (i+1) (g s i)) (he: ∀s,Inv n s->f (st s (n:Int))=some (.inr (fin s))):
  ∀(m a:Nat) (s:S),a+m=n->Inv a s->cu f (st s (a:Int))=some (fin ((List.range' a m).foldl g s))/\Inv n ((List.range' a m).foldl g s):=by
 intro m
 induction m with
 | zero=>
  intro a s h hi;have:a=n:=by omega
  subst this;rw [bq,he s hi];simpa [bk] using hi
 | succ m ih=>
  intro a s h hi;obtain ⟨h1,h2⟩:=hs s a (by omega) hi;rw [bq,h1,List.range'_succ];exact ih (a+1) _ (by omega) h2
theorem Pq{S T R U:Type}(st:S->Int->T)(g:S->Nat->S)(Inv:Nat->S->Prop)(fin:S->R){f:T->Option (T⊕R)}(a n:Nat){s0:S}{k:R->Option U}{r:Option U}(ha:a<=n)(h0:Inv a s0)
  (hs: ∀s i,i<n->Inv i s->f (st s (i:Int))=some (.inl (st (g s i) ((i+1:Nat):Int)))/\Inv (i+1) (g s i)) (he: ∀s,Inv n s->f (st s (n:Int))=some (.inr (fin s)))
  (hk:Inv n ((List.range' a (n - a)).foldl g s0)->k (fin ((List.range' a (n - a)).foldl g s0))=r):(cu f (st s0 (a:Int))).bind k=r:=by
 obtain ⟨h1,h2⟩:=Pp st g Inv (fin:=fin) n hs he (n - a) a s0 (by omega) h0;rw [h1];exact hk h2
end Go.Vs
namespace Go.Vs
end Go.Vs
namespace Go.Vs
def Y9(x:cQ):Bool:=decide (1<=x.1/\x.1<=99)&&decide (0<=x.2/\x.2<=1000000)
def P9(l:List cQ)(i:Nat):cQ:=l.getD i (0,0)
theorem nJ{l:List cQ}{i:Nat}(h:i<l.length):P9 l i=l[i]:=by unfold P9;simp [List.getD,h]
def yL(l:List cQ)(i:Nat):Bool:=Y9 (P9 l i)&&(decide (i=0) || lO (P9 l (i - 1)) (P9 l i))&&(l.take i).all λy=> !(y.1==(P9 l i).1)
def uB(l:List cQ):Bool:=(List.range l.length).all (yL l)&&decide (l.length<=16)
theorem qL{l:List cQ}:uB l=true↔(∀x∈l,Y9 x=true)/\l.Pairwise (λx y=>lO x y=true)/\(l.map (·.1)).Nodup/\l.length<=16:=by
 unfold uB;rw [qa4,qab,decide_eq_true_eq]
 constructor
 ·rintro ⟨h,hl⟩;have hh: ∀i (hi:i<l.length),yL l i=true:=λi hi=>h i (qav.2 hi);simp only [yL,qa4,qc3,decide_eq_true_eq,qab,qbh,beq_eq_false_iff_ne] at hh;refine ⟨?_, ?_, ?_,hl⟩
  ·intro x hx;obtain ⟨i,hi,rfl⟩:=qal.1 hx;have:=(hh i hi).1.1;rwa [nJ hi] at this
  ·rw [qas];have adj: ∀i (hi:i+1<l.length),lO l[i] l[i+1]=true:=by
    intro i hi;have:=(hh (i+1) hi).1.2;rcases this with h0 | h1
    ·omega
    ·rw [nJ hi] at h1;rw [show i+1 - 1=i by omega,nJ (by omega:i<l.length)] at h1;exact h1
   intro i j hi hj qh;have key: ∀m, ∀(h:i+m+1<l.length),lO l[i] l[i+m+1]=true:=by
    intro m
    induction m with
    | zero=>intro h;exact adj i h
    | succ m ih=>intro h;exact vW (ih (by omega)) (adj (i+m+1) h)
   have:=key (j - i - 1) (by omega);simpa [show i+(j - i - 1)+1=j by omega] using this
  ·rw [List.nodup_iff_pairwise_ne,qas];intro i j hi hj qh;simp only [qbu] at hi hj;have:=(hh j hj).2 l[i] (qal.2 ⟨i,by rw [qan];omega,by simp⟩);rw [nJ hj] at this;simpa using this
 ·rintro ⟨h1,h2,h3,h4⟩;refine ⟨λi hi=> ?_,h4⟩;have hi:=qav.1 hi;simp only [yL,qa4,qc3,decide_eq_true_eq,qab,qbh,beq_eq_false_iff_ne,nJ hi];refine ⟨⟨h1 _ (qad hi), ?_⟩, ?_⟩
  ·by_cases h0:i=0
   ·exact .inl h0
   ·refine .inr ?_;rw [nJ (by omega:i - 1<l.length)];exact (qas.1 h2) (i - 1) i (by omega) hi (by omega)
  ·intro y hy;obtain ⟨k,hk,rfl⟩:=qal.1 hy;rw [qan] at hk;rw [List.nodup_iff_pairwise_ne,qas] at h3;have:=h3 k i (by simp;omega) (by simp;omega) (by omega);simpa using this
theorem Pr{l:List cQ}{i:Nat}(hi:i<l.length)(hl:l.length<=2000000){R:Type}(r:R):
  (cu (fun (Kc:(Int))=>(bif decide (Kc<(i:Int)) then
    (bs l Kc).bind λx55=>
    (bif x55.1==l[i].1 then
    some (Sum.inr (Sum.inr r):Int⊕(Unit⊕R))
   else
    some (Sum.inl (ao (Kc+1))))
   else
    some (Sum.inr (Sum.inl ())))) 0)=some (if (l.take i).all (λy=> !(y.1==(l[i]).1)) then Sum.inl () else Sum.inr r):=by
 refine sP (xs:=l.take i) (P:=λy=> !(y.1==(l[i]).1)) (r:=r) ?_ ?_
 ·intro k hk;have rE:k<i:=by rw [qan] at hk;omega
  have e1:decide ((k:Int)<(i:Int))=true:=decide_eq_true (by omega);simp only [e1,cond_true,bT (show k<l.length by omega),qa0,fx (i:=k) (by omega),qcd];cases l[k].1==l[i].1 <;> simp
 ·rw [qan,Nat.min_eq_left (by omega)];simp
theorem sV{l:List cQ}(hl:l.length<=2000000):M.ju l=some (uB l):=by
 unfold M.ju;have key: ∀i (h:i<(List.range l.length).length),yL l (List.range l.length)[i]=yL l i:=by intro i h;simp
 rw [sP (xs:=List.range l.length) (P:=yL l) (r:=false) ?_ ?_]
 ·unfold uB;cases (List.range l.length).all (yL l) with
  | true=>simp [bk];omega
  | false=>simp [bk]
 ·intro i h;have hi:i<l.length:=by simpa using h
  have e1:decide ((i:Int)<(l.length:Int))=true:=decide_eq_true (by omega);rw [key i h];simp only [e1,cond_true,bT hi,qa0,xv,Pr hi hl false,fx (i:=i) (show i<4000000000000000000 by omega)];unfold yL;rw [nJ hi];unfold Y9;cases hk:decide (1<=l[i].1/\l[i].1<=99) with
  | false=>simp
  | true=>
   cases hd:decide (0<=l[i].2/\l[i].2<=1000000) with
   | false=>simp
   | true=>
    simp only [qae,cond_false,qbo,qa0];by_cases h0:i=0
    ·subst h0;simp [bk]
    ·have e2:decide ((0:Int)<(i:Int))=true:=decide_eq_true (by omega);have e3:ao ((i:Int) - 1)=((i - 1:Nat):Int):=by rw [aU (by omega) (by omega)];omega
     have e4:decide (i=0)=false:=decide_eq_false h0;simp only [e2,e3,e4,cond_true,bT (show i - 1<l.length by omega),qa0,E7,qck,nJ (show i - 1<l.length by omega)];cases hn:lO l[i - 1] l[i] with
     | false=>simp
     | true=>
      simp only [qae,cond_false,qbo];cases (l.take i).all (λy=> !(y.1==l[i].1)) <;> simp [bk]
 ·simp
def uC(l:List cQ)(key:Int):Option Nat:=l.findIdx? λy=>y.1==key
def G3(l:List cQ)(key:Int):Int:=match uC l key with | some i=>(i:Int) | none=> -1
theorem yM{l:List cQ}{key:Int}(hl:l.length<=2000000):M.nX l key=some (G3 l key):=by
 unfold M.nX G3 uC;rw [xr (xs:=l) (λy=>y.1==key) (λi=>(i:Int)) ?_ ?_]
 ·cases l.findIdx? (λy=>y.1==key) <;> simp [bk]
 ·intro i hi;have e1:decide ((i:Int)<(l.length:Int))=true:=decide_eq_true (by omega);simp only [e1,cond_true,bT hi,qa0,fx (i:=i) (by omega)];cases l[i].1==key <;> simp
 ·simp
theorem sW{l:List cQ}{key:Int}{i:Nat}(h:uC l key=some i): ∃hi:i<l.length,l[i].1=key:=by
 unfold uC at h;rw [List.findIdx?_eq_some_iff_getElem] at h;obtain ⟨hi,h1,_⟩:=h;exact ⟨hi,by simpa using h1⟩
theorem Ae{l:List cQ}{key:Int}:uC l key=none↔ ∀x∈l,x.1≠key:=by
 unfold uC;rw [List.findIdx?_eq_none_iff];simp
theorem Nr{l:List cQ}(hn:(l.map (·.1)).Nodup){i:Nat}(hi:i<l.length):uC l l[i].1=some i:=by
 unfold uC;rw [List.findIdx?_eq_some_iff_getElem];refine ⟨hi,by simp,λj hj=> ?_⟩;rw [List.nodup_iff_pairwise_ne,qas] at hn;have:=hn j i (by simp;omega) (by simp;omega) hj;simpa using this
end Go.Vs
namespace Go.Vs
def vu(b:List cQ)(x:cQ):Bool:=match uC b x.1 with | none=>true | some n=>decide (x.2<=(P9 b n).2)
def me(a:List cQ)(x:cQ):Bool:=match uC a x.1 with | none=>true | some n=>decide (x.2<(P9 a n).2)
def mrg(a b:List cQ):List cQ:=a.filter (vu b)++b.filter (me a)
def Dd(a b:List cQ)(k:Int):List cQ:=if uB a=true/\uB b=true/\1<=k/\k<=16 then cP k.toNat (mrg a b) else []
theorem G4{a b:List cQ}{k:Int}(ha:a.length<=2000000)(hb:b.length<=2000000):M.lk a b k=some (Dd a b k):=by
 unfold M.lk Dd;simp only [sV ha,sV hb,xv,qa0];cases hoa:uB a with
 | false=>simp
 | true=>
  cases hob:uB b with
  | false=>simp
  | true=>
   by_cases hk:1<=k/\k<=16
   rotate_left
   ·have:=decide_eq_false hk;simp [this,hk]
   have hd:=decide_eq_true hk;obtain ⟨n,rfl⟩:=qb0 (show 0<=k by omega);obtain ⟨_,_,_,hal⟩:=qL.1 hoa;obtain ⟨_,_,_,hbl⟩:=qL.1 hob;simp only [hd,qae,cond_false,qa0,true_and];rw [if_pos hk,qb1];have len: ∀l:List cQ,(cP n l).length<=1000:=λl=>by rw [ly];omega
   refine lN (xs:=a) (fun (s:List cQ) i=>(s,i)) (λs x=>if vu b x=true then (lW x s).take n else s) (λi s=>s=cP n ((a.take i).filter (vu b))) (λs=>s) (s0:=[]) (by simp [cP,fF]) ?_ ?_ ?_
   ·rintro s i hi rfl;have e1:decide ((i:Int)<(a.length:Int))=true:=decide_eq_true (by omega);simp only [e1,cond_true,bT hi,qa0,yM hb,fx (i:=i) (show i<4000000000000000000 by omega),Ad (qJ _ _) (len _) (show n<=1000 by omega)];rw [qb4 hi,List.filter_append];unfold G3;have hkA:vu b a[i]=match uC b a[i].1 with | none=>true | some n=>decide (a[i].2<=(P9 b n).2):=rfl
    cases hp:uC b a[i].1 with
    | none=>
     rw [hp] at hkA;have e2:vu b a[i]=true:=hkA;simp [e2,pW]
    | some m=>
     rw [hp] at hkA;obtain ⟨hm,_⟩:=sW hp;have e3:decide ((m:Int)<0)=false:=decide_eq_false (by omega);simp only [e3,cond_false,bT hm,qa0];rw [←nJ hm];cases hc:decide (a[i].2<=(P9 b m).2) with
     | true=>
      have e2:vu b a[i]=true:=by rw [hkA];exact hc
      simp [e2,pW]
     | false=>
      have e2:vu b a[i]=false:=by rw [hkA];exact hc
      simp [e2]
   ·intro s _;simp
   ·intro hs;rw [hs,qbv];refine lN (xs:=b) (fun (s:List cQ) i=>(s,i)) (λs x=>if me a x=true then (lW x s).take n else s) (λi s=>s=cP n (a.filter (vu b)++(b.take i).filter (me a))) (λs=>s) (s0:=cP n (a.filter (vu b))) (by simp) ?_ ?_ ?_
    ·rintro s i hi rfl;have e1:decide ((i:Int)<(b.length:Int))=true:=decide_eq_true (by omega);simp only [e1,cond_true,bT hi,qa0,yM ha,fx (i:=i) (show i<4000000000000000000 by omega),Ad (qJ _ _) (len _) (show n<=1000 by omega)];rw [qb4 hi,List.filter_append, ←List.append_assoc];unfold G3;have hkB:me a b[i]=match uC a b[i].1 with | none=>true | some n=>decide (b[i].2<(P9 a n).2):=rfl
     cases hp:uC a b[i].1 with
     | none=>
      rw [hp] at hkB;have e2:me a b[i]=true:=hkB;simp [e2,pW, ←List.append_assoc]
     | some m=>
      rw [hp] at hkB;obtain ⟨hm,_⟩:=sW hp;have e3:decide ((m:Int)<0)=false:=decide_eq_false (by omega);simp only [e3,cond_false,bT hm,qa0];rw [←nJ hm];cases hc:decide (b[i].2<(P9 a m).2) with
      | true=>
       have e2:me a b[i]=true:=by rw [hkB];exact hc
       simp [e2,pW, ←List.append_assoc]
      | false=>
       have e2:me a b[i]=false:=by rw [hkB];exact hc
       simp [e2]
    ·intro s _;simp
    ·intro hs2;rw [hs2,qbv]
     rfl
end Go.Vs
namespace Go.Vs
end Go.Vs
namespace Go.Vs
theorem G5(x y:cQ): ∃r,M.dp (x.1,x.2) (y.1,y.2)=some r/\decide (0<=r)= !lO x y:=by
 obtain ⟨r,h1,h2,_⟩:=qI x y;refine ⟨r,h1, ?_⟩;rw [←h2,qch];simp
end Go.Vs
namespace Go.Vs
theorem yN{l:List cQ}{key:Int}(hl:l.length<=2000000):M.lI l key=some (G3 l key):=by
 unfold M.lI M.bS G3 uC;rw [xr (xs:=l) (λy=>y.1==key) (λi=>(i:Int)) ?_ ?_]
 ·cases l.findIdx? (λy=>y.1==key) <;> simp [bk]
 ·intro i hi;have e1:decide ((i:Int)<(l.length:Int))=true:=decide_eq_true (by omega);simp only [e1,cond_true,bT hi,qa0,M.jT,fx (i:=i) (by omega)];cases l[i].1==key <;> simp
 ·simp
theorem JE{l:List cQ}{key:Int}:decide (G3 l key<0)=l.all λy=> !(y.1==key):=by
 unfold G3;cases h:uC l key with
 | none=>
  have:=Ae.1 h;rw [qch];simp only [qab,qbh,beq_eq_false_iff_ne,decide_eq_true_eq];exact ⟨λ_=>this,λ_=>by omega⟩
 | some i=>
  obtain ⟨hi,e⟩:=sW h;have h1:decide ((i:Int)<0)=false:=decide_eq_false (by omega);have h2:(l.all λy=> !(y.1==key))=false:=by
   rw [List.all_eq_false];exact ⟨l[i],qad hi,by simp [e]⟩
  rw [h2];exact h1
theorem Xk{l:List cQ}{key:Int}:decide (0<=G3 l key)= !(l.all λy=> !(y.1==key)):=by
 rw [←JE,qch];simp
theorem AH(k:Int):M.ir k=some (decide (1<=k/\k<=99)):=by
 unfold M.ir;by_cases h1:1<=k
 ·by_cases h2:k<=99 <;> simp [h1,h2]
 ·simp [h1]
theorem Bl(h:cQ):M.mi (h.1,h.2)=some (Y9 h):=by
 unfold M.mi Y9;simp only [AH,qa0];by_cases h1:1<=h.1/\h.1<=99
 ·have e1:decide (1<=h.1/\h.1<=99)=true:=decide_eq_true h1;simp only [e1,cond_true,qbo];by_cases h2:0<=h.2
  ·simp [h2]
  ·simp [h2]
 ·have e1:decide (1<=h.1/\h.1<=99)=false:=decide_eq_false h1;simp only [e1,cond_false,Bool.false_and]
theorem E8{l:List cQ}(hl:l.length<=2000000):M.jv l=some (uB l):=by
 unfold M.jv;by_cases h16:(16:Int)<(l.length:Int)
 ·have:uB l=false:=by
   unfold uB;rw [show decide (l.length<=16)=false from decide_eq_false (by omega),Bool.and_false]
  simp [h16,this]
 simp only [h16,decide_false,cond_false];have key: ∀i (h:i<(List.range l.length).length),yL l (List.range l.length)[i]=yL l i:=by intro i h;simp
 rw [sP (xs:=List.range l.length) (P:=yL l) (r:=false) ?_ ?_]
 ·unfold uB;rw [show decide (l.length<=16)=true from decide_eq_true (by omega),Bool.and_true];cases (List.range l.length).all (yL l) <;> simp [bk]
 ·intro i h;have hi:i<l.length:=by simpa using h
  have e1:decide ((i:Int)<(l.length:Int))=true:=decide_eq_true (by omega);rw [key i h];have hgs:eI l 0 (i:Int)=some (l.take i):=by
   rw [kE (xs:=l) (show (0:Int)<=0 by omega) (show (0:Int)<=(i:Int) by omega) (by omega)];simp
  have htl:(l.take i).length<=2000000:=by rw [qan];omega
  simp only [e1,cond_true,bT hi,qa0,Bl,hgs,yN htl,Xk,fx (i:=i) (show i<4000000000000000000 by omega)];unfold yL;rw [nJ hi];cases hv:Y9 l[i] with
  | false=>simp
  | true=>
   simp only [qae,cond_false,qbo];by_cases h0:i=0
   ·subst h0;simp
   ·have e2:decide ((0:Int)<(i:Int))=true:=decide_eq_true (by omega);have e3:ao ((i:Int) - 1)=((i - 1:Nat):Int):=by rw [aU (by omega) (by omega)];omega
    have e4:decide (i=0)=false:=decide_eq_false h0;obtain ⟨r,hr1,hr2⟩:=G5 l[i - 1] l[i];simp only [e2,e3,e4,cond_true,bT (show i - 1<l.length by omega),qa0,hr1,hr2,qck,nJ (show i - 1<l.length by omega)];cases hn:lO l[i - 1] l[i] with
    | false=>simp
    | true=>
     simp only [qae,cond_false,qbo];cases (l.take i).all (λy=> !(y.1==l[i].1)) <;> simp
 ·simp
end Go.Vs
namespace Go.Vs
theorem JF{l:List cQ}(h:(l.map (·.1)).Nodup):l.Nodup:=List.Pairwise.of_map (·.1) (λa b h e=>h (congrArg _ e)) h
theorem key_inj{l:List cQ}(h:(l.map (·.1)).Nodup){x y:cQ}(hx:x∈l)(hy:y∈l)(e:x.1=y.1):x=y:=by
 obtain ⟨i,hi,rfl⟩:=qal.1 hx;obtain ⟨j,hj,rfl⟩:=qal.1 hy;have h1:=Nr h hi;rw [e,Nr h hj] at h1;cases qai h1;rfl
end Go.Vs
namespace Go.Vs
theorem yO{α:Type}[DecidableEq α]: ∀{l m:List α},l.Nodup->(∀x∈l,x∈m)->l.length<=m.length
 | [],m,_,_=>qa8 _
 | x::t,m,hn,hs=>by
  obtain ⟨h1,h2⟩:=List.nodup_cons.1 hn;have hx:x∈m:=hs x (by simp);have:=yO (m:=m.erase x) h2 (λy hy=>(List.mem_erase_of_ne (by rintro rfl;exact h1 hy)).2 (hs y (by simp [hy])));rw [List.length_erase_of_mem hx] at this;have:0<m.length:=List.length_pos_of_mem hx;simp only [qb2];omega
theorem G6{x y:cQ}(h:x≠y)(h2:lO y x=false):lO x y=true:=by
 cases h1:lO x y with
 | true=>rfl
 | false=>exact absurd (tN h1 h2) h
theorem yP{L:List cQ}(hn:L.Nodup):(fF L).Pairwise (λx y=>lO x y=true):=by
 have h1:=(dS L).1;have h2:(fF L).Nodup:=(dS L).2.nodup_iff.2 hn;exact (List.Pairwise.and h2 h1).imp λh=>G6 h.1 h.2
theorem wK{A:List cQ}(h:A.Pairwise (λx y=>lO x y=true)){i:Nat}(hi:i<A.length):A.filter (λy=>lO y A[i])=A.take i:=by
 rw [qas] at h;generalize hx:A[i]=x
 conv=>lhs;rw [←List.take_append_drop i A,List.filter_append]
 have e1:(A.take i).filter (λy=>lO y x)=A.take i:=by
  rw [qci];intro y hy;obtain ⟨j,hj,rfl⟩:=qal.1 hy;rw [qan] at hj;rw [qcd, ←hx];exact h j i (by omega) hi (by omega)
 have e2:(A.drop i).filter (λy=>lO y x)=[]:=by
  rw [List.filter_eq_nil_iff];intro y hy;obtain ⟨j,hj,rfl⟩:=qal.1 hy;rw [List.length_drop] at hj;rw [List.getElem_drop, ←hx];by_cases h0:j=0
  ·subst h0;simp [Xj]
  ·rw [TC (h i (i+j) hi (by omega) (by omega))];simp
 rw [e1,e2,List.append_nil]
def E9(L:List cQ)(x:cQ):Nat:=(L.filter λy=>lO y x).length
theorem vX{k:Nat}{L:List cQ}(hn:L.Nodup){x:cQ}:x∈cP k L↔x∈L/\E9 L x<k:=by
 have hs:=yP hn;have hp:=(dS L).2;have hc:E9 L x=((fF L).filter λy=>lO y x).length:=(hp.filter _).length_eq.symm;unfold cP;rw [hc]
 constructor
 ·intro h;obtain ⟨i,hi,rfl⟩:=qal.1 h;rw [qan] at hi;rw [qcd];refine ⟨hp.mem_iff.1 (qad (by omega)), ?_⟩;rw [wK hs (by omega),qan];omega
 ·rintro ⟨h1,h2⟩;obtain ⟨i,hi,rfl⟩:=qal.1 (hp.mem_iff.2 h1);rw [wK hs hi,qan] at h2;exact qal.2 ⟨i,by rw [qan];omega,by simp⟩
theorem Xl{k:Nat}{L M:List cQ}(hl:L.Nodup)(hm:M.Nodup)(h: ∀x,x∈cP k L↔x∈cP k M):cP k L=cP k M:=
 yK (qJ _ _) (qJ _ _) ((List.perm_ext_iff_of_nodup (tP hl) (tP hm)).2 h)
def Bst(S:List cQ)(x:cQ):Prop:=x∈S/\ ∀y∈S,y.1=x.1->x.2<=y.2
structure BL(S L:List cQ):Prop where
 keys:(L.map (·.1)).Nodup
 mem: ∀x,x∈L↔Bst S x
theorem BL.nodup{S L:List cQ}(h:BL S L):L.Nodup:=JF h.keys
theorem LZ: ∀{S:List cQ} {y:cQ},y∈S-> ∃z,Bst S z/\z.1=y.1
 | h::t,y,hy=>by
  by_cases hw: ∃w∈t,w.1=y.1
  ·obtain ⟨w,hw,e⟩:=hw;obtain ⟨z,⟨hz,hz2⟩,ez⟩:=LZ hw;by_cases hh:h.1=y.1/\h.2<z.2
   ·refine ⟨h,⟨by simp, ?_⟩,hh.1⟩;intro u hu eu;rcases qa7.1 hu with rfl | hu
    ·exact Int.le_refl _
    ·have:=hz2 u hu (by rw [eu,hh.1,ez,e]);omega
   ·refine ⟨z,⟨by simp [hz], ?_⟩,by rw [ez,e]⟩;intro u hu eu;rcases qa7.1 hu with rfl | hu
    ·have: ¬u.2<z.2:=λbG=>hh ⟨by rw [eu,ez,e],bG⟩;omega
    ·exact hz2 u hu eu
  ·rcases qa7.1 hy with rfl | hy
   ·refine ⟨y,⟨by simp, ?_⟩,rfl⟩;intro u hu eu;rcases qa7.1 hu with rfl | hu
    ·exact Int.le_refl _
    ·exact absurd ⟨u,hu,eu⟩ hw
   ·exact absurd ⟨y,hy,rfl⟩ hw
theorem G7{S S' L L':List cQ}(h:BL S L)(h':BL S' L')(hs: ∀x∈S,x∈S')(x:cQ):E9 L x<=E9 L' x:=by
 unfold E9;have:=yO (l:=(L.filter λy=>lO y x).map (·.1)) (m:=(L'.filter λy=>lO y x).map (·.1)) (h.keys.sublist (qax.map _)) ?_
 ·simpa using this
 ·intro k hk;obtain ⟨y,hy,rfl⟩:=qc5.1 hk;obtain ⟨hy,bG⟩:=qaw.1 hy;have hyS:=((h.mem y).1 hy).1;obtain ⟨z,hz,ez⟩:=LZ (hs y hyS);refine qc5.2 ⟨z,qaw.2 ⟨(h'.mem z).2 hz, ?_⟩,ez⟩;have hle:=hz.2 y (hs y hyS) ez.symm;simp only [tM] at bG ⊢;rcases bG with bG | ⟨h1,h2⟩
  ·left;omega
  ·rcases Int.lt_or_eq_of_le hle with h3 | h3
   ·left;omega
   ·right;exact ⟨by omega,by omega⟩
theorem Ns{S C L M N:List cQ}{k:Nat}(hL:BL S L)(hM:BL (cP k L++C) M)(hN:BL (S++C) N):cP k M=cP k N:=by
 have hnL:=hL.nodup;have hT:BL (cP k L) (cP k L):=by
  have hk:((cP k L).map (·.1)).Nodup:=by
   unfold cP;have:=((dS L).2.map (·.1)).nodup_iff.2 hL.keys;exact this.sublist ((List.take_sublist _ _).map _)
  refine ⟨hk,λx=>⟨λhx=>⟨hx,λy hy e=> ?_⟩,λh=>h.1⟩⟩;rw [key_inj hk hy hx e];exact Int.le_refl _
 have hTS: ∀x∈cP k L,x∈S:=λx hx=>((hL.mem x).1 (vp _ _ x hx)).1;have hTC: ∀x∈cP k L++C,x∈S++C:=λx hx=>by
  rcases qaf.1 hx with h | h
  ·exact qaf.2 (.inl (hTS x h))
  ·exact qaf.2 (.inr h)
 have fwd: ∀x,x∈N->E9 N x<k->x∈M/\E9 M x<k:=by
  intro x hx hc;have hb:=(hN.mem x).1 hx;have oN:x∈cP k L++C:=by
   rcases qaf.1 hb.1 with h | h
   ·have hxL:x∈L:=(hL.mem x).2 ⟨h,λy hy=>hb.2 y (qaf.2 (.inl hy))⟩;have:=G7 hL hN (λz hz=>qaf.2 (.inl hz)) x;exact qaf.2 (.inl ((vX hnL).2 ⟨hxL,by omega⟩))
   ·exact qaf.2 (.inr h)
  refine ⟨(hM.mem x).2 ⟨oN,λy hy=>hb.2 y (hTC y hy)⟩, ?_⟩;have:=G7 hM hN hTC x;omega
 refine Xl hM.nodup hN.nodup λx=> ?_;rw [vX hM.nodup,vX hN.nodup]
 constructor
 rotate_left
 ·rintro ⟨h1,h2⟩;exact fwd x h1 h2
 rintro ⟨hx,hc⟩;have hb:=(hM.mem x).1 hx;have hxN:x∈N:=by
  refine (hN.mem x).2 ⟨hTC x hb.1,λy hy e=> ?_⟩;rcases qaf.1 hy with h | h
  ·obtain ⟨z,hz,ez⟩:=LZ h;have hzy:=hz.2 y h ez.symm;by_cases bG:y.2<x.2
   ·exfalso;have hzL:=(hL.mem z).2 hz;have hzT:z∉cP k L:=λhzT=>by
     have:=hb.2 z (qaf.2 (.inl hzT)) (by rw [ez,e]);omega
    have hck:k<=E9 L z:=by
     apply Nat.le_of_not_lt;intro h';exact hzT ((vX hnL).2 ⟨hzL,h'⟩)
    have hlen:(cP k L).length=k:=by
     rw [ly];have:E9 L z<=L.length:=List.length_filter_le _ _;omega
    have lS: ∀t∈cP k L,lO t x=true:=by
     intro t ht;obtain ⟨htL,htc⟩:=(vX hnL).1 ht;have jE:t≠z:=by rintro rfl;exact hzT ht
     have htz:lO t z=true:=by
      cases h1:lO t z with
      | true=>rfl
      | false=>
       exfalso;have h2:lO z t=true:=G6 (qbq jE) h1;have:E9 L z<=E9 L t:=by
        unfold E9;refine yO (hnL.sublist qax) λu hu=> ?_;obtain ⟨wS,hu2⟩:=qaw.1 hu;exact qaw.2 ⟨wS,vW hu2 h2⟩
       omega
     refine vW htz (tM.2 (.inl (by omega)))
    have h3:E9 (cP k L) x=k:=by
     unfold E9;rw [qci.2 lS,hlen]
    have:=G7 hT hM (λz hz=>qaf.2 (.inl hz)) x;omega
   ·omega
  ·exact hb.2 y (qaf.2 (.inr h)) e
 refine ⟨hxN, ?_⟩;apply Nat.lt_of_not_le;intro hk;have hlen:(cP k N).length=k:=by
  rw [ly];have:E9 N x<=N.length:=List.length_filter_le _ _;omega
 have:(cP k N).length<=E9 M x:=by
  unfold E9;refine yO (tP hN.nodup) λu hu=> ?_;obtain ⟨wS,hu2⟩:=(vX hN.nodup).1 hu;refine qaw.2 ⟨(fwd u wS hu2).1, ?_⟩;cases h1:lO u x with
  | true=>rfl
  | false=>
   exfalso;have hcx:E9 N x<=E9 N u:=by
    unfold E9;refine yO (hN.nodup.sublist qax) λw hw=> ?_;obtain ⟨Au,uF⟩:=qaw.1 hw;refine qaw.2 ⟨Au, ?_⟩;by_cases ZR:x=u
    ·rw [←ZR];exact uF
    ·exact vW uF (G6 ZR h1)
   omega
 omega
theorem Fa{b:List cQ}(hn:(b.map (·.1)).Nodup){x:cQ}:vu b x=true↔ ∀y∈b,y.1=x.1->x.2<=y.2:=by
 unfold vu;cases h:uC b x.1 with
 | none=>simp only [true_iff];exact λy hy e=>absurd e (Ae.1 h y hy)
 | some i=>
  obtain ⟨hi,e⟩:=sW h;simp only [decide_eq_true_eq,nJ hi]
  constructor
  ·intro hle y hy ey;rw [key_inj hn hy (qad hi) (by rw [ey,e])];exact hle
  ·intro hh;exact hh _ (qad hi) e
theorem Fb{b:List cQ}(hn:(b.map (·.1)).Nodup){x:cQ}:me b x=true↔ ∀y∈b,y.1=x.1->x.2<y.2:=by
 unfold me;cases h:uC b x.1 with
 | none=>simp only [true_iff];exact λy hy e=>absurd e (Ae.1 h y hy)
 | some i=>
  obtain ⟨hi,e⟩:=sW h;simp only [decide_eq_true_eq,nJ hi]
  constructor
  ·intro hle y hy ey;rw [key_inj hn hy (qad hi) (by rw [ey,e])];exact hle
  ·intro hh;exact hh _ (qad hi) e
theorem TD{a b:List cQ}(ha:(a.map (·.1)).Nodup)(hb:(b.map (·.1)).Nodup):BL (a++b) (mrg a b):=by
 constructor
 ·unfold mrg;rw [qc7,List.nodup_append];refine ⟨ha.sublist (qax.map _),hb.sublist (qax.map _), ?_⟩;intro p hp q hq e;obtain ⟨x,hx,rfl⟩:=qc5.1 hp;obtain ⟨y,hy,rfl⟩:=qc5.1 hq;obtain ⟨hx1,oN⟩:=qaw.1 hx;obtain ⟨hy1,hy2⟩:=qaw.1 hy;have h1:=(Fa hb).1 oN y hy1 e.symm;have h2:=(Fb ha).1 hy2 x hx1 e;omega
 ·intro x;unfold mrg Bst;rw [qaf,qaw,qaw,Fa hb,Fb ha,qaf]
  constructor
  ·rintro (⟨h1,h2⟩ | ⟨h1,h2⟩)
   ·refine ⟨.inl h1,λy hy e=> ?_⟩;rcases qaf.1 hy with h | h
    ·rw [key_inj ha h h1 e];exact Int.le_refl _
    ·exact h2 y h e
   ·refine ⟨.inr h1,λy hy e=> ?_⟩;rcases qaf.1 hy with h | h
    ·exact Int.le_of_lt (h2 y h e)
    ·rw [key_inj hb h h1 e];exact Int.le_refl _
  ·rintro ⟨h1,h2⟩;by_cases KP:x∈a
   ·exact .inl ⟨KP,λy hy=>h2 y (qaf.2 (.inr hy))⟩
   ·have hxb:x∈b:=h1.resolve_left KP;refine .inr ⟨hxb,λy hy e=> ?_⟩;have hle:=h2 y (qaf.2 (.inl hy)) e;rcases Int.lt_or_eq_of_le hle with h | h
    ·exact h
    ·exact absurd (show x∈a by rw [show x=y from Prod.ext e.symm h];exact hy) KP
theorem BL.same{S S' L L':List cQ}{k:Nat}(h:BL S L)(h':BL S' L')(hs: ∀x,x∈S↔x∈S'):cP k L=cP k L':=by
 refine vV ((List.perm_ext_iff_of_nodup h.nodup h'.nodup).2 λx=> ?_);rw [h.mem,h'.mem];unfold Bst
 constructor
 ·rintro ⟨h1,h2⟩;exact ⟨(hs x).1 h1,λy hy=>h2 y ((hs y).2 hy)⟩
 ·rintro ⟨h1,h2⟩;exact ⟨(hs x).2 h1,λy hy=>h2 y ((hs y).1 hy)⟩
theorem TE{L:List cQ}{k:Nat}(hk:k<=16)(h1: ∀x∈L,Y9 x=true)(h2:(L.map (·.1)).Nodup):uB (cP k L)=true:=by
 have hn:=JF h2;refine qL.2 ⟨λx hx=>h1 x (vp _ _ x hx),(yP hn).sublist (List.take_sublist _ _), ?_,by rw [ly];omega⟩;have:=((dS L).2.map (·.1)).nodup_iff.2 h2;exact this.sublist ((List.take_sublist _ _).map _)
end Go.Vs
namespace Go.Vs
theorem G8{n:Nat}(hn:n<=1000000):M.dC [] (n:Int)=some []:=by
 unfold M.dC;have e0:decide ((n:Int)<0)=false:=decide_eq_false (by omega);have e1:ao ((n:Int) - ao ((([]:List cQ).length:Int) - (([]:List cQ).length:Int)))=(n:Int):=by
  have:ao ((([]:List cQ).length:Int) - (([]:List cQ).length:Int))=0:=by decide
  rw [this,aU (by omega) (by omega)];omega
 have g0:eI ([]:List cQ) 0 (([]:List cQ).length:Int)=some []:=by
  rw [kE (by omega) (by simp) (by simp)];rfl
 simp only [e0,cond_false,e1];by_cases h:0<n
 ·have e2:decide (0<(n:Int))=true:=decide_eq_true (by omega);have g1:EY ([]:List cQ) (n:Int) (0,0)=some (List.replicate n (0,0)):=by
   unfold EY;rw [if_pos ⟨by omega,by simp;omega⟩];simp
  have g2:eI (List.replicate n ((0,0):cQ)) 0 (([]:List cQ).length:Int)=some []:=by
   rw [kE (by omega) (by simp) (by simp)];simp
  simp only [e2,cond_true,g0,qa0,g1,g2]
 ·have e2:decide (0<(n:Int))=false:=decide_eq_false (by omega);simp only [e2,cond_false,qa0]
theorem Eg{a b:List cQ}(ha:a.length<=100000)(hb:b.length<=100000):M.cZ [a,b]=some (a++b):=by
 unfold M.cZ;have c0:decide ((0:Int)<(([a,b]:List (List cQ)).length:Int))=true:=rfl;have c1:decide ((1:Int)<(([a,b]:List (List cQ)).length:Int))=true:=rfl;have c2:decide ((2:Int)<(([a,b]:List (List cQ)).length:Int))=false:=rfl;have i0:bs ([a,b]:List (List cQ)) 0=some a:=rfl;have i1:bs ([a,b]:List (List cQ)) 1=some b:=rfl;have w0:ao ((0:Int)+1)=1:=rfl;have w1:ao ((1:Int)+1)=2:=rfl;have s0:ao ((0:Int)+(a.length:Int))=(a.length:Int):=by rw [aU (by omega) (by omega)];omega
 have s1:ao ((a.length:Int)+(b.length:Int))=((a.length+b.length:Nat):Int):=by rw [aU (by omega) (by omega)];omega
 have n0:decide ((a.length:Int)<0)=false:=decide_eq_false (by omega);have n1:decide (((a.length+b.length:Nat):Int)<0)=false:=decide_eq_false (by omega);rw [bq];simp only [c0,cond_true,i0,qa0,s0,n0,cond_false,w0,bk];rw [bq];simp only [c1,cond_true,i1,qa0,s1,n1,cond_false,w1,bk];rw [bq];simp only [c2,cond_false,qa0,bk,G8 (show a.length+b.length<=1000000 by omega)];rw [bq];simp only [c0,cond_true,i0,qa0,iN (show ([]:List cQ).length+a.length<=2147483648 by simp;omega),w0,qba,bk];rw [bq];simp only [c1,cond_true,i1,qa0,iN (show a.length+b.length<=2147483648 by omega),w1,bk];rw [bq];simp only [c2,cond_false,qa0,bk]
theorem G9{l:List cQ}(hl:l.length<=1000000):M.bb l=some (fF l):=by
 unfold M.bb;obtain ⟨d',h1,h2,h3⟩:=IA (cmp:=GW) (lt:=lO) (xs:=l) (by omega) (λx _ y _=>Da x y trivial trivial) (λx _=>qH.irrefl x trivial) (λx _ y _ z _=>qH.trans x y z trivial trivial trivial) (λx _ y _=>qH.total x y trivial trivial);rw [tO h3 h2];exact h1
def Pu(s:List cQ)(x:cQ):List cQ:=if s.all (λy=> !(y.1==x.1))=true then s++[x] else s
def Za(L:List cQ):List cQ:=L.foldl Pu []
structure Xm(P s:List cQ):Prop where
 sub:s.Sublist P
 keys:(s.map (·.1)).Nodup
 all: ∀y∈P, ∃z∈s,z.1=y.1/\z.2<=y.2
theorem Xm.nil:Xm [] []:=⟨List.Sublist.refl _,by simp,by simp⟩
theorem Xm.snoc{P s:List cQ}{x:cQ}(h:Xm P s)(hx: ∀y∈P,lO x y=false):Xm (P++[x]) (Pu s x):=by
 unfold Pu;by_cases hc:s.all (λy=> !(y.1==x.1))=true
 ·rw [if_pos hc];simp only [qab,qbh,beq_eq_false_iff_ne] at hc;refine ⟨List.Sublist.append h.sub (List.Sublist.refl _), ?_, ?_⟩
  ·rw [qc7,List.nodup_append];refine ⟨h.keys,by simp, ?_⟩;intro k hk k' rE e;obtain ⟨y,hy,rfl⟩:=qc5.1 hk;simp only [qaz,qbm,qbe] at rE;exact hc y hy (e.trans rE)
  ·intro y hy;rcases qaf.1 hy with hy | hy
   ·obtain ⟨z,hz,h1,h2⟩:=h.all y hy;exact ⟨z,by simp [hz],h1,h2⟩
   ·rw [qbe.1 hy];exact ⟨x,by simp,rfl,Int.le_refl _⟩
 ·rw [if_neg hc];refine ⟨h.sub.trans (List.sublist_append_left _ _),h.keys, ?_⟩;intro y hy;rcases qaf.1 hy with hy | hy
  ·exact h.all y hy
  ·rw [qbe.1 hy];simp only [qab,qbh,beq_eq_false_iff_ne] at hc;have: ∃z∈s,z.1=x.1:=qa9 λhn=>hc λz hz e=>hn ⟨z,hz,e⟩;obtain ⟨z,hz,e⟩:=this;refine ⟨z,hz,e, ?_⟩;have:=vU.1 (hx z (h.sub.subset hz));omega
theorem JG: ∀{Q P s:List cQ},Xm P s->(P++Q).Pairwise (λx y=>lO y x=false)->Xm (P++Q) (Q.foldl Pu s)
 | [],P,s,h,_=>by simpa using h
 | x::Q,P,s,h,hp=>by
  have e:P++x::Q=(P++[x])++Q:=by simp
  rw [e] at hp ⊢;rw [List.foldl_cons];refine JG (h.snoc ?_) hp;intro y hy;have:=(List.pairwise_append.1 ((List.pairwise_append.1 hp).1)).2.2 y hy x (by simp);exact this
theorem abf{S:List cQ}:BL S (Za (fF S))/\yJ (Za (fF S)):=by
 obtain ⟨h1,h2⟩:=dS S;have h:=JG (Q:=fF S) Xm.nil (by rw [qba];exact h1);rw [qba] at h;change Xm (fF S) (Za (fF S)) at h;refine ⟨⟨h.keys,λx=>⟨λhx=> ?_,λhx=> ?_⟩⟩,h1.sublist h.sub⟩
 ·refine ⟨h2.mem_iff.1 (h.sub.subset hx),λy hy e=> ?_⟩;obtain ⟨z,hz,e1,e2⟩:=h.all y (h2.mem_iff.2 hy);have:z=x:=key_inj h.keys hz hx (e1.trans e);rw [←this];exact e2
 ·obtain ⟨z,hz,e1,e2⟩:=h.all x (h2.mem_iff.2 hx.1);have h3:=hx.2 z (h2.mem_iff.1 (h.sub.subset hz)) e1;have:z=x:=Prod.ext e1 (by omega);rw [←this];exact hz
theorem Xn{a b:List cQ}{k:Nat}(ha:(a.map (·.1)).Nodup)(hb:(b.map (·.1)).Nodup):(Za (fF (a++b))).take k=cP k (mrg a b):=by
 obtain ⟨h1,h2⟩:=abf (S:=a++b);have h3:=TD ha hb;rw [←h1.same (k:=k) h3 (λx=>Iff.rfl)];unfold cP;rw [tO h2 (List.Perm.refl _)]
theorem Eh{a b:List cQ}(ha:a.length<=100000)(hb:b.length<=100000):M.kh a b=some (Za (fF (a++b))):=by
 unfold M.kh;have hl:(fF (a++b)).length<=200000:=by rw [E6];simp;omega
 simp only [Eg ha hb,qa0,G9 (show (a++b).length<=1000000 by simp;omega)];generalize fF (a++b)=L at hl;refine lN (xs:=L) (fun (s:List cQ) i=>(s,i)) Pu (λi s=>s.length<=i) (λs=>s) (s0:=[]) (by simp) ?_ ?_ ?_
 ·intro s i hi hs;have e1:decide ((i:Int)<(L.length:Int))=true:=decide_eq_true (by omega);simp only [e1,cond_true,bT hi,qa0,yN (show s.length<=2000000 by omega),JE,fx (i:=i) (show i<4000000000000000000 by omega)];unfold Pu;by_cases hc:s.all (λy=> !(y.1==L[i].1))=true
  ·rw [hc,if_pos rfl];simp only [cond_true,iN (show s.length+[(L[i].1,L[i].2)].length<=2147483648 by simp;omega),qa0,true_and];simp;omega
  ·rw [if_neg hc,qbg] at*;rw [hc];simp only [cond_false,qa0,true_and];omega
 ·intro s _;simp
 ·intro _;rfl
theorem Ha{a b:List cQ}{k:Int}(ha:a.length<=2000000)(hb:b.length<=2000000):M.jw a b k=some (Dd a b k):=by
 unfold M.jw Dd;simp only [E8 (show a.length<=2000000 by omega),E8 (show b.length<=2000000 by omega),JD,qa0];cases hoa:uB a with
 | false=>simp
 | true=>
  cases hob:uB b with
  | false=>simp
  | true=>
   by_cases hk:1<=k/\k<=16
   rotate_left
   ·have:=decide_eq_false hk;simp [this,hk]
   have hd:=decide_eq_true hk;obtain ⟨n,rfl⟩:=qb0 (show 0<=k by omega);have hm:min (n:Int) ((Za (fF (a++b))).length:Int)=((min n (Za (fF (a++b))).length:Nat):Int):=by omega
   have hal:=(qL.1 hoa).2.2.2;have hbl:=(qL.1 hob).2.2.2;simp only [hd,qae,cond_false,qa0,true_and,Eh (show a.length<=100000 by omega) (show b.length<=100000 by omega),hm];rw [if_pos hk,qb1, ←Xn (qL.1 hoa).2.2.1 (qL.1 hob).2.2.1];rw [kE (by omega) (by omega) (by omega)];simp only [qa0,qb1,Int.toNat_zero,qcc];congr 1;rcases Nat.le_total n (Za (fF (a++b))).length with h | h
   ·rw [Nat.min_eq_left h]
   ·rw [Nat.min_eq_right h,qbv,qby h]
end Go.Vs
namespace Go.Vs
theorem TF{a b:List cQ}{k:Int}:(Dd a b k).length<=16:=by
 unfold Dd;split
 ·rename_i h;rw [ly];omega
 ·simp
theorem Xo{a b:List cQ}{k:Nat}(ha:uB a=true)(hb:uB b=true)(h1:1<=k)(h2:k<=16):Dd a b (k:Int)=cP k (mrg a b):=by
 unfold Dd;rw [if_pos ⟨ha,hb,by omega,by omega⟩,qb1]
end Go.Vs
namespace Go.Vs
theorem AI{l:List Item}{kind:Int}{v:List Int}:(bB l kind v).map (·.1)=l.map (·.1):=by
 unfold bB;rw [List.map_map];rfl
theorem JH{l:List Item}(h:l.Pairwise (λx y=>x.1<y.1)):(l.map (·.1)).Nodup:=by
 unfold List.Nodup;rw [List.pairwise_map];exact h.imp λh=>by omega
theorem BL.self{S:List cQ}(h:(S.map (·.1)).Nodup):BL S S:=⟨h,λx=>⟨λhx=>⟨hx,λy hy e=>by rw [key_inj h hy hx e];exact Int.le_refl _⟩,λh=>h.1⟩⟩
theorem Fc{L:List cQ}{k:Nat}(h:(L.map (·.1)).Nodup):((cP k L).map (·.1)).Nodup:=by
 unfold cP;have:=((dS L).2.map (·.1)).nodup_iff.2 h;exact this.sublist ((List.take_sublist _ _).map _)
theorem Pv{A B:List cQ}{k:Nat}(h:((A++B).map (·.1)).Nodup):cP k (mrg (cP k A) (cP k B))=cP k (A++B):=by
 have hA:(A.map (·.1)).Nodup:=h.sublist ((List.sublist_append_left A B).map _);have hB:(B.map (·.1)).Nodup:=h.sublist ((List.sublist_append_right A B).map _);have tA:=Fc (k:=k) hA;have tB:=Fc (k:=k) hB;have hAB:=List.nodup_append.1 (by rw [qc7] at h;exact h);have hd:((A++cP k B).map (·.1)).Nodup:=by
  rw [qc7,List.nodup_append];refine ⟨hA,tB,λa ha b hb=>hAB.2.2 a ha b ?_⟩;obtain ⟨x,hx,rfl⟩:=qc5.1 hb;exact qc5.2 ⟨x,vp _ _ x hx,rfl⟩
 have e1:=Ns (k:=k) (BL.self hA) (TD tA tB) (BL.self hd);rw [e1];have hd2:((cP k B++A).map (·.1)).Nodup:=((qc6 (l₁:=A) (l₂:=cP k B)).map (·.1)).nodup_iff.1 hd;have hd3:((B++A).map (·.1)).Nodup:=((qc6 (l₁:=A) (l₂:=B)).map (·.1)).nodup_iff.1 h;have e2:=Ns (k:=k) (BL.self hB) (BL.self hd2) (BL.self hd3);rw [vV (qc6 (l₁:=A) (l₂:=cP k B)),e2];exact vV qc6
theorem wL(l m:List Item)(kind:Int)(v:List Int):bB (l++m) kind v=bB l kind v++bB m kind v:=by unfold bB;rw [qc7]
end Go.Vs
namespace Go.Vs
end Go.Vs
namespace Go.Vs
theorem Fe{L:List Item}{kind:Int}{v:List Int}{k:Nat}(hk:k<=16)(po:isKind kind=true)(hv:fE v=true)(h1: ∀x∈L,iK x=true)(h2:(L.map (·.1)).Nodup):uB (cP k (bB L kind v))=true:=by
 refine TE hk ?_ (by rw [AI];exact h2);intro x hx;obtain ⟨y,hy,rfl⟩:=xw.1 hx;obtain ⟨q1,q2,_⟩:=lx.1 (h1 y hy);have:=LR po q2 hv;unfold Y9;simp only [qa4,decide_eq_true_eq];omega
end Go.Vs
namespace Go.Vs
def L0(k s:Int):Int:=389*k % 1009*s / 1009
theorem sX{k s:Int}(h:1<=s):0<=L0 k s/\L0 k s<s:=by
 unfold L0;have h1:0<=389*k % 1009:=Int.emod_nonneg _ (by omega);have h2:389*k % 1009<1009:=Int.emod_lt_of_pos _ (by omega);refine ⟨Int.ediv_nonneg (Int.mul_nonneg h1 (by omega)) (by omega), ?_⟩;rw [Int.ediv_lt_iff_lt_mul (by omega),Int.mul_comm s 1009];exact Int.mul_lt_mul_of_pos_right h2 (by omega)
def DL(l:List Item)(s n:Int):List Item:=l.filter λx=>L0 x.1 s==n
theorem BK{l:List Item}{s n:Int}:(DL l s n).Sublist l:=qax
def jZ(l:List Item)(s n:Int):List Item:=l.filter λx=>decide (L0 x.1 s<n)
theorem AJ{l:List Item}{s:Int}(h:1<=s):jZ l s 0=[]:=by
 unfold jZ;rw [List.filter_eq_nil_iff];intro x _;have:=(sX (k:=x.1) h).1;simp;omega
theorem L4{l:List Item}{s:Int}(h:1<=s):jZ l s s=l:=by
 unfold jZ;rw [qci];intro x _;have:=(sX (k:=x.1) h).2;simpa using this
theorem AK(l:List Item)(s n:Int):(jZ l s n++DL l s n).Perm (jZ l s (n+1)):=by
 have:=Dc (λx:Item=>decide (L0 x.1 s<n)) (λx=>L0 x.1 s==n) l (λx _ h=>by simp at h ⊢;omega);refine this.trans (List.Perm.of_eq ?_);unfold jZ;refine List.filter_congr λx _=> ?_;rw [qch];simp;omega
theorem JI{l m:List Item}{kind:Int}{v:List Int}(h:l.Perm m):(bB l kind v).Perm (bB m kind v):=h.map _
theorem De{l:List Item}{kind:Int}{v:List Int}{k:Nat}{s n:Int}(hq:fi l kind v=true)(h1:1<=k)(h2:k<=16):
  Dd (cP k (bB (jZ l s n) kind v)) (cP k (bB (DL l s n) kind v)) (k:Int)=cP k (bB (jZ l s (n+1)) kind v):=by
 obtain ⟨ho,po,hv⟩:=iu.1 hq;obtain ⟨_,hit,hp⟩:=dh.1 ho;have sA:(jZ l s n).Sublist l:=qax;have sB:(DL l s n).Sublist l:=qax;have kn: ∀m:List Item,m.Sublist l->(m.map (·.1)).Nodup:=λm hm=>(JH hp).sublist (hm.map _);have oA:=Fe (k:=k) h2 po hv (λx hx=>hit x (sA.subset hx)) (kn _ sA);have oB:=Fe (k:=k) h2 po hv (λx hx=>hit x (sB.subset hx)) (kn _ sB);have RU:=JI (kind:=kind) (v:=v) (AK l s n);have hn:((bB (jZ l s n) kind v++bB (DL l s n) kind v).map (·.1)).Nodup:=by
  rw [←wL,AI];exact ((AK l s n).map (·.1)).nodup_iff.2 (kn _ qax)
 rw [Xo oA oB h1 h2,Pv hn, ←wL];exact vV RU
def vY(l:List Item)(s:Nat)(kind:Int)(v:List Int)(k:Nat)(n:Nat):List cQ:=(List.range n).foldl (fun (out:List cQ) (i:Nat)=>Dd out (cP k (bB (DL l (s:Int) (i:Int)) kind v)) (k:Int)) []
theorem Df{l:List Item}{kind:Int}{v:List Int}{k s:Nat}(hq:fi l kind v=true)(h1:1<=k)(h2:k<=16)(hs:1<=s):vY l s kind v k s=cP k (bB l kind v):=by
 have key: ∀n:Nat,vY l s kind v k n=cP k (bB (jZ l s n) kind v):=by
  intro n
  induction n with
  | zero=>
   have:=AJ (l:=l) (s:=(s:Int)) (by omega);unfold vY;rw [Int.natCast_zero,this];simp [bB,cP,fF]
  | succ n ih=>
   have:=De (s:=(s:Int)) (n:=(n:Int)) hq h1 h2;unfold vY at ih ⊢;rw [List.range_succ,List.foldl_append,ih,List.foldl_cons,List.foldl_nil,this]
   rfl
 rw [key,L4 (by omega)]
end Go.Vs
namespace Go.Vs
end Go.Vs
namespace Go.Vs
theorem Dg{k s:Int}(hk:1<=k/\k<=99)(hs:1<=s/\s<=8):M.lH k s=some (L0 k s):=by
 unfold M.lH;have h1:0<=389*k % 1009:=Int.emod_nonneg _ (by omega);have h2:389*k % 1009<1009:=Int.emod_lt_of_pos _ (by omega);have e1:ao (389*k)=389*k:=aU (by omega) (by omega);have e2:(389*k).tmod 1009=389*k % 1009:=Int.tmod_eq_emod_of_nonneg (by omega);have h3:0<=389*k % 1009*s:=Int.mul_nonneg h1 (by omega);have h4:389*k % 1009*s<=1009*8:=Int.mul_le_mul (by omega) hs.2 (by omega) (by omega);have e3:ao (389*k % 1009*s)=389*k % 1009*s:=aU (by omega) (by omega);have e4:(389*k % 1009*s).tdiv 1009=389*k % 1009*s / 1009:=Int.tdiv_eq_ediv_of_nonneg h3;have hr:=sX (k:=k) hs.1;rw [e1,e2,e3,e4];unfold L0 at*;rw [aU (by omega) (by omega)]
def shV(k s:Int):Int:=if (1<=k/\k<=99)/\1<=s/\s<=8 then L0 k s else -1
theorem L6(k s:Int):M.nu k s=some (shV k s):=by
 unfold M.nu M.eL shV;simp only [AH,qa0];by_cases hk:1<=k/\k<=99
 rotate_left
 ·rw [if_neg λh=>hk h.1];simp [decide_eq_false hk]
 by_cases hs:1<=s/\s<=8
 rotate_left
 ·rw [if_neg λh=>hs h.2];by_cases h1:1<=s
  ·have: ¬s<=8:=λh=>hs ⟨h1,h⟩;simp [decide_eq_true hk,h1,this]
  ·simp [decide_eq_true hk,h1]
 rw [if_pos ⟨hk,hs⟩];have h:=Dg hk hs;unfold M.lH at h;simp only [decide_eq_true hk,decide_eq_true hs.1,decide_eq_true hs.2,qae,cond_true,cond_false,qa0];exact h
theorem Ei{k:Nat}(hk:k<=500000){r:List UInt8×Int}(hr:Good k r): ∃x r',M.j9 (r.1,r.2)=some (x,(r'.1,r'.2))/\Good (k+1) r'/\0<=x/\x<=9:=by
 obtain ⟨x,r1,h1,g1,m1⟩:=vm (by omega) hr (list:=[1,2,3,4,8,0,9,5]) (by simp);refine ⟨x,r1,by unfold M.j9;simp only [h1,qa0],g1, ?_⟩;simp only [qa7,qap,or_false] at m1;omega
theorem Ff{l:List Item}(h:cJ l=true){x:Item}(hx:x∈l):1<=x.1/\x.1<=99:=(lx.1 ((dh.1 h).2.1 x hx)).1
theorem L8{l:List Item}{s n:Int}(h:cJ l=true)(hs:1<=s/\s<=8):M.kg l s n=some (DL l s n):=by
 unfold M.kg;obtain ⟨hlen,hit,_⟩:=dh.1 h;refine lN (xs:=l) (fun (s:List Item) i=>(s,i)) (λt x=>if (L0 x.1 s==n)=true then t++[x] else t) (λi t=>t.length<=i) (λt=>t) (s0:=[]) (by simp) ?_ ?_ ?_
 ·intro t i hi ht;have e1:decide ((i:Int)<(l.length:Int))=true:=decide_eq_true (by omega);have hx:=qad hi;have h4:=qF (hit _ hx);simp only [e1,cond_true,bT hi,qa0,Dg (Ff h hx) hs,ou (show l[i].2.1.length<=1000000 by omega),fx (i:=i) (by omega)];cases (L0 l[i].1 s==n) with
  | true=>
   simp only [cond_true,if_true];rw [iN (by simp;omega)];exact ⟨rfl,by simp;omega⟩
  | false=>exact ⟨by simp,by simpa using Nat.le_succ_of_le ht⟩
 ·intro t _;simp
 ·intro _;rw [foldl_filter];rfl
def abg(l:List Item)(s n:Int):List Item:=if cJ l=true/\1<=s/\s<=8 then DL l s n else []
theorem Xp{l:List Item}{s n:Int}(h:cJ l=true)(hs:1<=s/\s<=8):abg l s n=DL l s n:=if_pos ⟨h,hs⟩
theorem JJ{l:List Item}{s n:Int}(h:cJ l=true)(hs:1<=s/\s<=8):M.cS l s n=some (DL l s n):=by
 unfold M.cS M.gn;obtain ⟨hlen,hit,_⟩:=dh.1 h;refine lN (xs:=l) (fun (s:List Item) i=>(s,i)) (λt x=>if (L0 x.1 s==n)=true then t++[x] else t) (λi t=>t.length<=i) (λt=>t) (s0:=[]) (by simp) ?_ ?_ ?_
 ·intro t i hi ht;have e1:decide ((i:Int)<(l.length:Int))=true:=decide_eq_true (by omega);have hx:=qad hi;have hV:shV l[i].1 s=L0 l[i].1 s:=if_pos ⟨Ff h hx,hs⟩;simp only [e1,cond_true,bT hi,qa0,L6,hV,fx (i:=i) (by omega)];cases (L0 l[i].1 s==n) with
  | true=>
   simp only [cond_true,if_true];rw [iN (by simp;omega)];exact ⟨rfl,by simp;omega⟩
  | false=>exact ⟨by simp,by simpa using Nat.le_succ_of_le ht⟩
 ·intro t _;simp
 ·intro _;rw [foldl_filter];rfl
theorem Dh(s:Int):M.eL s=some (decide (1<=s/\s<=8)):=by
 unfold M.eL;by_cases h1:1<=s <;> by_cases h2:s<=8 <;> simp [h1,h2]
theorem JK{l:List Item}{s n:Int}(sl:gG l):M.fY l s n=some (abg l s n):=by
 unfold M.fY abg;simp only [sl.impl,Dh,qa0];cases ho:cJ l with
 | false=>simp
 | true=>
  by_cases hs:1<=s/\s<=8
  ·rw [if_pos ⟨rfl,hs⟩];have RP:gG (DL l s n):=⟨qaa BK.length_le sl.1,λx hx=>sl.2 x (BK.subset hx)⟩;simp only [decide_eq_true hs,qae,cond_false,qa0,JJ ho hs,yI RP]
  ·rw [if_neg λh=>hs h.2];simp [decide_eq_false hs]
end Go.Vs
namespace Go.Vs
end Go.Vs
namespace Go.Vs
end Go.Vs
namespace Go.Vs
end Go.Vs
namespace Go.Vs
end Go.Vs
namespace Go.Vs
end Go.Vs
namespace Go.Vs
def cr(l:List Item)(s kind:Int)(v:List Int)(k:Int):List cQ:=if fi l kind v=true/\(1<=s/\s<=8)/\1<=k/\k<=16 then vY l s.toNat kind v k.toNat s.toNat else []
theorem pK{l:List Item}{s kind:Int}{v:List Int}{k:Int}(hs:1<=s/\s<=8):cr l s kind v k=oK l kind v k:=by
 unfold cr oK;by_cases h:fi l kind v=true/\1<=k/\k<=16
 ·rw [if_pos ⟨h.1,hs,h.2⟩,if_pos h,Df h.1 (by omega) (by omega) (by omega)]
 ·rw [if_neg λq=>h ⟨q.1,q.2.2⟩,if_neg h]
theorem rO{l:List Item}{s kind:Int}{v:List Int}{k:Int}(sl:gG l)(hv:v.length<2000000):M.eZ l s kind v k=some (cr l s kind v k):=by
 unfold M.eZ cr;simp only [Ef sl hv,xv,qa0];cases hq:fi l kind v with
 | false=>simp
 | true=>
  by_cases hs:1<=s/\s<=8
  rotate_left
  ·rw [if_neg λh=>hs h.2.1];simp [decide_eq_false hs]
  by_cases hk:1<=k/\k<=16
  rotate_left
  ·rw [if_neg λh=>hk h.2.2];simp [decide_eq_true hs,decide_eq_false hk]
  obtain ⟨n,rfl⟩:=qb0 (show 0<=k by omega);obtain ⟨m,rfl⟩:=qb0 (show 0<=s by omega);obtain ⟨ho,po,hvv⟩:=iu.1 hq;rw [if_pos ⟨rfl,hs,hk⟩];simp only [decide_eq_true hs,decide_eq_true hk,qae,cond_false,qa0,qb1];refine Pq (fun (t:List cQ) i=>(t,i)) (λt i=>Dd t (cP n (bB (DL l (m:Int) (i:Int)) kind v)) (n:Int)) (λi t=>t.length<=16) (λt=>t) 0 m (s0:=[]) (by omega) (by simp) ?_ ?_ ?_
  ·intro t i hi ht;have e1:decide ((i:Int)<(m:Int))=true:=decide_eq_true (by omega);have q1:fi (DL l (m:Int) (i:Int)) kind v=true:=iu.2 ⟨vn ho BK,po,hvv⟩;have l1:(cP n (bB (DL l (m:Int) (i:Int)) kind v)).length<=16:=by rw [ly];omega
   simp only [e1,cond_true,L8 ho hs,qa0,Bi q1 (show n<=1000 by omega),G4 (show t.length<=2000000 by omega) (show (cP n (bB (DL l (m:Int) (i:Int)) kind v)).length<=2000000 by omega),fx (i:=i) (by omega)];exact ⟨trivial,TF⟩
  ·intro t _;simp
  ·intro _;unfold vY;rw [Nat.sub_zero,List.range_eq_range']
theorem xx(code:List UInt8): ∃(l:List Item) (s kind:Int) (v:List Int) (k:Int),M.dO code=some (l,s,kind,v,k)/\Jm l/\Tl v/\(0<=s/\s<=9)/\0<=k/\k<=17:=by
 obtain ⟨⟨r1,r2⟩,h,g⟩:=GQ code;obtain ⟨l,⟨q1,q2⟩,h1,g1,nl⟩:=Jo (by omega) g;obtain ⟨s,⟨c1,c2⟩,h2,g2,m2⟩:=Ei (by omega) g1;obtain ⟨kind,⟨u1,u2⟩,h3,g3⟩:=W9 (by omega) g2;obtain ⟨v,⟨t1,t2⟩,h4,g4,nv⟩:=LL (by omega) g3;obtain ⟨k,⟨s1,s2⟩,h5,g5,m5⟩:=TB (by omega) g4;exact ⟨l,s,kind,v,k,by unfold M.dO;simp only [h,h1,h2,h3,h4,h5,qa0],nl,nv,m2,m5⟩
theorem vv{l:List Item}{s kind:Int}{v:List Int}{k:Int}:(cr l s kind v k).length<=16:=by
 by_cases hs:1<=s/\s<=8
 ·rw [pK hs];exact vr
 ·unfold cr;rw [if_neg λh=>hs h.2.1];simp
end Go.Vs
namespace Go.Vs
end Go.Vs
namespace Go.Vs
end Go.Vs
namespace Go.Vs
end Go.Vs
namespace Go.Vs
end Go.Vs
namespace Go.Vs
end Go.Vs
namespace Go.Vs
theorem JL{β:Type}{f:Nat->Option β}{g:Nat->β}: ∀{n:Nat},(∀i,i<n->f i=some (g i))->EZ f n=some ((List.range n).map g)
 | 0,_=>rfl
 | n+1,h=>by
  rw [EZ,JL (λi hi=>h i (by omega)),qa0,h n (by omega),qa0,List.range_succ,qc7]
  rfl
theorem rP{l:List Item}{s kind:Int}{v:List Int}{k:Int}(sl:gG l)(hv:v.length<2000000):M.fI l s kind v k=some (cr l s kind v k):=by
  unfold M.fI cr;simp only [Dh,qa0];by_cases hs:1<=s/\s<=8
  rotate_left
  ·rw [if_neg λh=>hs h.2.1];simp [decide_eq_false hs]
  simp only [decide_eq_true hs,qae,cond_false,qK sl hv,qa0];by_cases hq:fi l kind v=true/\1<=k/\k<=16
  rotate_left
  ·rw [if_neg λh=>hq ⟨h.1,h.2.2⟩];simp [decide_eq_false hq]
  obtain ⟨hq,hk⟩:=hq;obtain ⟨n,rfl⟩:=qb0 (show 0<=k by omega);obtain ⟨m,rfl⟩:=qb0 (show 0<=s by omega);obtain ⟨ho,po,hvv⟩:=iu.1 hq;rw [if_pos ⟨hq,hs,hk⟩];simp only [decide_eq_true (show fi l kind v=true/\1<=(n:Int)/\(n:Int)<=16 from ⟨hq,hk⟩),qae,cond_false,qb1]
  let g:Nat->List cQ:=λi=>cP n (bB (DL l (m:Int) (i:Int)) kind v)
  have Xq: ∀i:Nat,cJ (DL l (m:Int) (i:Int))=true:=λi=>vn ho BK;have hf:M.gH l (m:Int) kind v (n:Int)=some ((List.range m).map g++List.replicate (8 - m) []):=by
   unfold M.gH;rw [JL (g:=g) (λi hi=> ?_)]
   ·simp
   ·have q1:fi (DL l (m:Int) (i:Int)) kind v=true:=iu.2 ⟨Xq i,po,hvv⟩;rw [JK sl,qa0,Xp ho hs,vq (ot (Xq i)) hv,vt q1 hk.1 hk.2];simp [g]
  rw [hf,qa0];have UQ: ∀i:Nat,i<8->bs ((List.range m).map g++List.replicate (8 - m) []) (i:Int)=some (g i):=by
   intro i hi;rw [bT (by simp;omega)];congr 1;by_cases him:i<m
   ·rw [qb7 (by simpa using him)];simp
   ·rw [qbk (by simp;omega)];have:DL l (m:Int) (i:Int)=[]:=by
     unfold DL;rw [List.filter_eq_nil_iff];intro x _;have:=(sX (k:=x.1) (s:=(m:Int)) hs.1).2;simp;omega
    simp [g,this,bB,cP,fF]
  have hb0:([]:List cQ)=cP n (bB (jZ l (m:Int) ((0:Nat):Int)) kind v):=by
   rw [Int.natCast_zero,AJ hs.1];simp [bB,cP,fF]
  have lT:jZ l (m:Int) ((8:Nat):Int)=l:=by
   unfold jZ;rw [qci];intro x _;have:=(sX (k:=x.1) (s:=(m:Int)) hs.1).2;simp;omega
  have hlen: ∀x:List Item,(cP n (bB x kind v)).length<=16:=λx=>by rw [ly];omega
  have bU:=Jg (R:=List cQ) (r:=cP n (bB l kind v)) (f:=fun (D2:(List (Int×Int))×(Int))=>(bif decide (D2.2<8) then
  (bs ((List.range m).map g++List.replicate (8 - m) []) D2.2).bind λWp=>
  (M.jw D2.1 Wp (n:Int)).bind λBI=>
  some (.inl (BI,ao (D2.2+1)))
 else
  some (.inr D2.1))) 8 (λi=>(cP n (bB (jZ l (m:Int) (i:Int)) kind v),(i:Int))) ?_ ?_
  ·have hz:(([]:List cQ),(0:Int))=(cP n (bB (jZ l (m:Int) ((0:Nat):Int)) kind v),((0:Nat):Int)):=by rw [←hb0];rfl
   rw [hz,bU,qa0,Df hq (by omega) (by omega) (by omega)]
  ·intro i hi;have d1:decide ((i:Int)<8)=true:=decide_eq_true (by omega);have e6:ao ((i:Int)+1)=((i+1:Nat):Int):=aU (by omega) (by omega);have h1:=hlen (jZ l (m:Int) (i:Int));have h2:=hlen (DL l (m:Int) (i:Int));have fu:=De (s:=(m:Int)) (n:=(i:Int)) (k:=n) hq (by omega) (by omega);simp only [d1,cond_true,UQ i hi,qa0,g,Ha (show (cP n (bB (jZ l (m:Int) (i:Int)) kind v)).length<=2000000 by omega) (show (cP n (bB (DL l (m:Int) (i:Int)) kind v)).length<=2000000 by omega),fu,e6]
   rfl
  ·have d1:decide (((8:Nat):Int)<8)=false:=by decide
   simp only [d1,cond_false,lT]
theorem Pw(code:List UInt8):M.pk code=some true:=by
 unfold M.pk;by_cases hc:1048576<(code.length:Int)
 ·simp [hc]
 obtain ⟨l,s,kind,v,k,h,nl,nv,hs,hk⟩:=xx code;have sl:=nl.small;have la:v.length<2000000:=by have:=nv.1;omega
 have hlen:=vv (l:=l) (s:=s) (kind:=kind) (v:=v) (k:=k);simp only [hc,decide_false,cond_false,h,qa0,rO sl la,rP sl la,pJ (show (cr l s kind v k).length<2000000 by omega),decide_true,qae];by_cases h1:s<1
 ·simp [h1]
 by_cases h8:8<s
 ·simp [h1,h8]
 have e:=pK (l:=l) (s:=s) (kind:=kind) (v:=v) (k:=k) ⟨by omega,by omega⟩;have dB:=vr (l:=l) (kind:=kind) (at_:=v) (k:=k);simp only [h1,h8,decide_false,cond_false,qa0,vq sl la,e,pJ (show (oK l kind v k).length<2000000 by omega),decide_true]
theorem tQ(code:List UInt8):M.gp code=some true:=by
 unfold M.gp;by_cases hc:1048576<(code.length:Int)
 ·simp [hc]
 obtain ⟨l,s,kind,v,k,h,nl,nv,hs,hk⟩:=xx code;have sl:=nl.small;have la:v.length<2000000:=by have:=nv.1;omega
 have hlen:=vv (l:=l) (s:=s) (kind:=kind) (v:=v) (k:=k);simp only [hc,decide_false,cond_false,h,qa0,rO sl la,rP sl la,pJ (show (cr l s kind v k).length<2000000 by omega),decide_true,qae];by_cases jE:cr l s kind v k=[]
 ·simp [jE]
 have uW:=List.length_pos_iff.2 jE;have e3:(((cr l s kind v k).length:Int)==0)=false:=beq_eq_false_iff_ne.2 (by omega);have hq:fi l kind v=true/\(1<=s/\s<=8)/\1<=k/\k<=16:=by
  unfold cr at jE;split at jE
  ·assumption
  ·exact absurd rfl jE
 obtain ⟨hq,rs,k1,k2⟩:=hq;obtain ⟨ho,po,hv⟩:=iu.1 hq;obtain ⟨aaO,hit,hpw⟩:=dh.1 ho;have ek:cr l s kind v k=cP k.toNat (bB l kind v):=by rw [pK rs,vt hq k1 k2]
 have e0:(0:Int)=((0:Nat):Int):=rfl;simp only [e3,cond_false,qa0];have g0:bs (cr l s kind v k) 0=some (cr l s kind v k)[0]:=bT (i:=0) uW;simp only [g0,qa0];have hm0:(cr l s kind v k)[0]∈bB l kind v:=by
  have Xq: ∀t∈cr l s kind v k,t∈bB l kind v:=λt ht=>by
   rw [ek] at ht;exact vp _ _ _ ht
  exact Xq _ (qad uW)
 obtain ⟨x,hx,hx0⟩:=xw.1 hm0;have hx1:(cr l s kind v k)[0].1=x.1:=by rw [hx0]
 have ajc:(l.any λy=>y.1==x.1)=true:=qbs.2 ⟨x,hx,by simp⟩;have hd:=Jx (k:=x.1) ho ajc;have RZ:cJ (lQ l x.1)=true:=vn ho Ac;have Fg:fi (lQ l x.1) kind v=true:=iu.2 ⟨RZ,po,hv⟩;have ek2:cr (lQ l x.1) s kind v k=cP k.toNat (bB (lQ l x.1) kind v):=by rw [pK rs,vt Fg k1 k2]
 have akg:=vv (l:=lQ l x.1) (s:=s) (kind:=kind) (v:=v) (k:=k);have ajd:fF (bB (lQ l x.1) kind v)=(fF (bB l kind v)).tail:=by
  obtain ⟨i1,i2⟩:=dS (bB l kind v);rw [TA,G2];have EV:((fF (bB l kind v)).map (·.1)).Nodup:=(i2.map (·.1)).nodup_iff.2 (by
   unfold bB List.Nodup;rw [List.map_map,List.pairwise_map];exact hpw.imp λh=>by simp only [Function.comp];omega)
  have abh: ∃r,fF (bB l kind v)=(cr l s kind v k)[0]::r:=by
   have K7:0<k.toNat:=by omega
   cases hi:fF (bB l kind v) with
   | nil=>rw [ek] at uW;unfold cP at uW;rw [hi] at uW;simp at uW
   | cons m r=>
    refine ⟨r, ?_⟩;have:(cr l s kind v k)=m::r.take (k.toNat - 1):=by
     rw [ek];unfold cP;rw [hi];obtain ⟨n,hn⟩: ∃n,k.toNat=n+1:=⟨k.toNat - 1,by omega⟩;rw [hn];rfl
    simp [this]
  obtain ⟨r,hr⟩:=abh;rw [hr] at EV ⊢;rw [qaz,List.nodup_cons,hx1] at EV;rw [List.filter_cons,if_neg (by simp [hx1]),List.tail_cons];exact qci.2 λy hy=>by
   have:y.1≠x.1:=λq=>EV.1 (qc5.2 ⟨y,hy,q⟩);simpa using this
 have wB:cr (lQ l x.1) s kind v k=((fF (bB l kind v)).tail).take k.toNat:=by rw [ek2];unfold cP;rw [ajd]
 have aeU:cr l s kind v k=(fF (bB l kind v)).take k.toNat:=ek;have NM:(((cr (lQ l x.1) s kind v k).map (·.1)).any λy=>y==x.1)=false:=by
  rw [List.any_eq_false];intro y hy;obtain ⟨t,ht,rfl⟩:=qc5.1 hy;rw [ek2] at ht;obtain ⟨z,hz,rfl⟩:=xw.1 (vp _ _ _ ht);have:=(Aa.1 hz).2;simpa using this
 have Zb:ao (((cr l s kind v k).length:Int) - 1)=(((cr l s kind v k).length - 1:Nat):Int):=by rw [aU (by omega) (by omega)];omega
 have Vb:(cr l s kind v k).length - 1<=(cr (lQ l x.1) s kind v k).length:=by
  rw [wB,aeU,qan,qan,List.length_tail];omega
 have d5:decide ((((cr l s kind v k).length - 1:Nat):Int)<=((cr (lQ l x.1) s kind v k).length:Int))=true:=decide_eq_true (by omega);have g1:=Cy (xs:=cr (lQ l x.1) s kind v k) (l:=0) (h:=(cr l s kind v k).length - 1) (by omega) Vb;have g2:=Cy (xs:=cr l s kind v k) (l:=1) (h:=(cr l s kind v k).length) (by omega) (by omega);simp only [Int.natCast_zero,Int.natCast_one] at g1 g2;have EB:((cr (lQ l x.1) s kind v k).take ((cr l s kind v k).length - 1)).drop 0=((cr l s kind v k).take (cr l s kind v k).length).drop 1:=by
  rw [qcc,qbv,wB,aeU];generalize fF (bB l kind v)=I;cases I with
  | nil=>simp
  | cons m r=>
   obtain ⟨n,hn⟩: ∃n,k.toNat=n+1:=⟨k.toNat - 1,by omega⟩;rw [hn];simp only [List.tail_cons,qc0,qb2,qan,Nat.add_sub_cancel,List.drop_succ_cons,qcc,List.take_take];rw [List.take_eq_take_iff];omega
 have oP:(((cr l s kind v k).take (cr l s kind v k).length).drop 1).length<2000000:=by simp;omega
 simp only [hx1,uh sl,hd,qa0,rO (ot RZ) la,rP (ot RZ) la,cond_true,Xi (show (cr (lQ l x.1) s kind v k).length<1000000 by omega),Xc (show ((cr (lQ l x.1) s kind v k).map (·.1)).length<2000000 by simp;omega),NM,qcl,Zb,d5,g1,g2,EB,pJ oP,decide_true]
end Go.Vs
