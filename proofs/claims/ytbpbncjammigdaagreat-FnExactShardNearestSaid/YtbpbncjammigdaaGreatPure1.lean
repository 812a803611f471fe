/- Plain facts of what the functions compute. -/
import Derived.Test.YtbpbncjammigdaaGreatAl
import Derived.Test.YtbpbncjammigdaaGreatEng1
import Derived.Test.YtbpbncjammigdaaGreatLib1
set_option linter.unusedVariables false
set_option linter.unusedSimpArgs false
namespace Go.Vs
theorem rh{S R:Type}{f:S->Option (S⊕R)}{r:R}(k:Nat)(st:Nat->S)(hs: ∀i,i<k->f (st i)=some (.inl (st (i+1))))(he:f (st k)=some (.inr r)):bT f (st 0)=some r:=by
 induction k generalizing st with
 | zero=>rw [bz,he];rfl
 | succ k ih=>
  rw [bz,hs 0 (by omega)];exact ih (λi=>st (i+1)) (λi hi=>hs (i+1) (by omega)) he
theorem bG{α:Type}{xs:List α}{i:Nat}(h:i<xs.length):aZ xs (i:Int)=some xs[i]:=by
 unfold aZ;rw [if_pos (by omega)];simp [h]
theorem mS{α:Type}{xs ys:List α}(h:xs.length+ys.length<=2147483648):tO xs ys=some (xs++ys):=by unfold tO;rw [if_pos h]
theorem ou{α:Type}{xs:List α}{l h:Int}(h0:0<=l)(h1:l<=h)(h2:h<=xs.length):iM xs l h=some ((xs.take h.toNat).drop l.toNat):=by
 unfold iM;rw [if_pos ⟨h0,h1,h2⟩]
theorem Hq{α:Type}{k:Int}{z:α}(h0:0<=k)(h1:k<=2147483648):tP k z=some (List.replicate k.toNat z):=by unfold tP;rw [if_pos ⟨h0,h1⟩]
theorem La{α:Type}{k:Nat}{xs:List α}(h:k<=xs.length):Mp k xs=some (xs.take k):=by unfold Mp;rw [if_pos h]
theorem nh{α R:Type}{xs:List α}{P:α->Bool}{r:R}{f:Int->Option (Int⊕(Unit⊕R))}(hs: ∀i (h:i<xs.length),f (i:Int)=some (if P xs[i] then .inl ((i:Int)+1) else .inr (.inr r)))(he:f (xs.length:Int)=some (.inr (.inl ()))):
  bT f 0=some (if xs.all P then .inl () else .inr r):=by
 have key: ∀m k:Nat,k+m=xs.length->bT f (k:Int)=some (if (xs.drop k).all P then .inl () else .inr r):=by
  intro m
  induction m with
  | zero=>
   intro k hk;have:k=xs.length:=by omega
   subst this;rw [bz,he];simp [bb]
  | succ m ih=>
   intro k hk;have bs:k<xs.length:=by omega
   rw [bz,hs k bs,qb4 bs];by_cases hp:P xs[k]=true
   ·rw [if_pos hp];have:=ih (k+1) (by omega);simp only [Int.natCast_add,qbn] at this;simp only [List.all_cons,hp,qbt,bb,this,qa0]
   ·rw [if_neg hp];simp only [List.all_cons,qbh] at hp ⊢;simp only [hp,Bool.false_and,bb,qa0];rfl
 have:=key xs.length 0 (by omega);simpa using this
end Go.Vs
namespace Go.Vs
def fx(v:List Int):Bool:=decide (v.length=4)&&v.all λx=>decide (-100<=x)&&decide (x<=100)
theorem ri{v:List Int}:fx v=true↔v.length=4/\ ∀x∈v, -100<=x/\x<=100:=by
 unfold fx;simp
theorem JP{v:List Int}(h:fx v=true): ∃a b c d,v=[a,b,c,d]/\(-100<=a/\a<=100)/\(-100<=b/\b<=100)/\(-100<=c/\c<=100)/\(-100<=d/\d<=100):=by
 obtain ⟨h1,h2⟩:=ri.1 h
 match v,h1 with
 | [a,b,c,d],_=>exact ⟨a,b,c,d,rfl,h2 a (by simp),h2 b (by simp),h2 c (by simp),h2 d (by simp)⟩
end Go.Vs
namespace Go.Vs
theorem Uf{v:List Int}(h:v.length<=1000000):M.kR v=some v:=by
 unfold M.kR;rw [mS (by simp;omega)];rfl
theorem Cy(v:List Int)(hb:v.length<2000000):M.ir v=some (v.all λx=>decide (-100<=x)&&decide (x<=100)):=by
 unfold M.ir;rw [nh (xs:=v) (P:=λx=>decide (-100<=x)&&decide (x<=100)) (r:=false)]
 ·by_cases ha:(v.all λx=>decide (-100<=x)&&decide (x<=100))=true
  ·simp only [ha,if_true,qa0,bb]
  ·simp only [qbh] at ha;simp only [ha];simp [bb]
 ·intro i h;have e1:decide ((i:Int)<(v.length:Int))=true:=by simpa using h
  have e2:av ((i:Int)+1)=(i:Int)+1:=aT (by omega) (by omega);simp only [e1,cond_true,bG h,qa0,e2];by_cases c1:v[i]< -100
  ·have c2: ¬(-100<=v[i]):=by omega
   simp [c1,c2]
  ·by_cases c3:100<v[i]
   ·have c4: ¬(v[i]<=100):=by omega
    simp [c1,c3,c4]
   ·simp [c1,c3,show -100<=v[i] by omega,show v[i]<=100 by omega]
 ·simp
theorem sd(v:List Int)(hb:v.length<2000000):M.en v=some (fx v):=by
 unfold M.en;simp only [Cy v hb,qa0];unfold fx;by_cases hl:v.length=4
 ·have e:((v.length:Int)==4)=true:=by simp;omega
  rw [e,cond_true,decide_eq_true hl,qbt]
 ·have e:((v.length:Int)==4)=false:=by simp;omega
  rw [e,cond_false,decide_eq_false hl,Bool.false_and]
theorem Bc(n l h:Int):M.de n l h=some (decide (l<=n)&&decide (n<=h)):=by
 unfold M.de;by_cases h1:l<=n <;> simp [h1]
theorem Qz(v:List Int)(l h:Int)(hb:v.length<2000000):M.oL v l h=some (v.all λx=>decide (l<=x)&&decide (x<=h)):=by
 unfold M.oL;rw [nh (xs:=v) (P:=λx=>decide (l<=x)&&decide (x<=h)) (r:=false)]
 ·by_cases ha:(v.all λx=>decide (l<=x)&&decide (x<=h))=true
  ·simp only [ha,if_true,qa0,bb]
  ·simp only [qbh] at ha;simp [ha,bb]
 ·intro i hi;have e1:decide ((i:Int)<(v.length:Int))=true:=by simpa using hi
  have e2:av ((i:Int)+1)=(i:Int)+1:=aT (by omega) (by omega);simp only [e1,cond_true,bG hi,qa0,e2,Bc];cases (decide (l<=v[i])&&decide (v[i]<=h)) <;> rfl
 ·simp
theorem Bd(v:List Int)(hb:v.length<2000000):M.jf v=some (fx v):=by
 unfold M.jf;by_cases hl:v.length=4
 ·have e:((v.length:Int)==4)=true:=by simp;omega
  simp [e,Qz v _ _ hb,fx,hl]
 ·have e:((v.length:Int)==4)=false:=by simp;omega
  simp [e,fx,hl]
end Go.Vs
namespace Go.Vs
end Go.Vs
namespace Go.Vs
theorem xg{S R:Type}{f:S->Option (S⊕R)}{s0 s1 s2 s3 s4:S}{r:R}(h0:f s0=some (.inl s1))(h1:f s1=some (.inl s2))(h2:f s2=some (.inl s3))(h3:f s3=some (.inl s4))(h4:f s4=some (.inr r)):bT f s0=some r:=by
 rw [bz,h0,qa0,bb,bz,h1,qa0,bb,bz,h2,qa0,bb,bz,h3,qa0,bb,bz,h4];rfl
theorem Sb{α:Type}{a:α}{l:List α}:aZ (a::l) 0=some a:=bG (i:=0) (by simp)
theorem Ug{α:Type}{a b:α}{l:List α}:aZ (a::b::l) 1=some b:=bG (i:=1) (by simp)
theorem Uh{α:Type}{a b c:α}{l:List α}:aZ (a::b::c::l) 2=some c:=bG (i:=2) (by simp)
theorem Ui{α:Type}{a b c d:α}{l:List α}:aZ (a::b::c::d::l) 3=some d:=bG (i:=3) (by simp)
theorem Uj:av ((0:Int)+1)=1:=aT (by omega) (by omega)
theorem i12:av ((1:Int)+1)=2:=aT (by omega) (by omega)
theorem i23:av ((2:Int)+1)=3:=aT (by omega) (by omega)
theorem i34:av ((3:Int)+1)=4:=aT (by omega) (by omega)
theorem Se:decide ((0:Int)<4)=true:=rfl
theorem d14:decide ((1:Int)<4)=true:=rfl
theorem d24:decide ((2:Int)<4)=true:=rfl
theorem d34:decide ((3:Int)<4)=true:=rfl
theorem d44:decide ((4:Int)<4)=false:=rfl
theorem l4{α:Type}{a b c d:α}:(([a,b,c,d]:List α).length:Int)=4:=rfl
def pN(x y:Int):Int:=max (x - y) (y - x)
theorem fS(x y:Int):0<=pN x y:=by unfold pN;omega
def Co(x:Int):Prop:= -100<=x/\x<=100
theorem nH{x y:Int}(hx:Co x)(hy:Co y):pN x y<=200:=by unfold pN;unfold Co at hx hy;omega
theorem eT{g:Int}(h0:0<=g)(h:g<=200):0<=g*g/\g<=g*g/\g*g<=40000:=by
 refine ⟨Int.mul_nonneg h0 h0, ?_, ?_⟩
 ·by_cases h1:g=0
  ·subst h1;simp
  ·have:=Int.mul_le_mul_of_nonneg_right (show (1:Int)<=g by omega) h0;omega
 ·have:=Int.mul_le_mul h h h0 (by omega);omega
def dk(k g0 g1 g2 g3:Int):Int:=
 if k=1 then g0+g1+g2+g3 else if k=2 then max (max (max (max 0 g0) g1) g2) g3 else if k=3 then g0*g0+g1*g1+g2*g2+g3*g3 else if k=4 then min g0 1+min g1 1+min g2 1+min g3 1 else -1
theorem Cz(k:Int){g0 g1 g2 g3:Int}(h0:0<=g0)(BV:g0<=200)(h1:0<=g1)(Oh:g1<=200)(h2:0<=g2)(Im:g2<=200)(h3:0<=g3)(h3':g3<=200):
  M.iY k [g0,g1,g2,g3]=some (dk k g0 g1 g2 g3):=by
 unfold M.iY;have s0:=eT h0 BV;have s1:=eT h1 Oh;have s2:=eT h2 Im;have s3:=eT h3 h3';by_cases k1:k=1
 ·subst k1;have e0:av (0+g0)=g0:=by rw [aT (by omega) (by omega)];omega
  have e1:av (g0+g1)=g0+g1:=aT (by omega) (by omega);have e2:av (g0+g1+g2)=g0+g1+g2:=aT (by omega) (by omega);have e3:av (g0+g1+g2+g3)=g0+g1+g2+g3:=aT (by omega) (by omega);rw [xg (s1:=(g0,1)) (s2:=(g0+g1,2)) (s3:=(g0+g1+g2,3)) (s4:=(g0+g1+g2+g3,4)) (r:= .inl (g0+g1+g2+g3))]
  ·rfl
  ·simp only [Se,Sb,Uj,e0,bb,cond_true,qa0];rfl
  ·simp only [d14,Ug,i12,e1,bb,cond_true,qa0];rfl
  ·simp only [d24,Uh,i23,e2,bb,cond_true,qa0];rfl
  ·simp only [d34,Ui,i34,e3,bb,cond_true,qa0];rfl
  ·simp [d44]
 by_cases k2:k=2
 ·subst k2;rw [xg (s1:=(max 0 g0,1)) (s2:=(max (max 0 g0) g1,2)) (s3:=(max (max (max 0 g0) g1) g2,3)) (s4:=(max (max (max (max 0 g0) g1) g2) g3,4)) (r:= .inl (max (max (max (max 0 g0) g1) g2) g3))]
  ·rfl
  ·simp only [Se,Sb,Uj,bb,cond_true,qa0];rfl
  ·simp only [d14,Ug,i12,bb,cond_true,qa0];rfl
  ·simp only [d24,Uh,i23,bb,cond_true,qa0];rfl
  ·simp only [d34,Ui,i34,bb,cond_true,qa0];rfl
  ·simp [d44]
 by_cases k3:k=3
 ·subst k3;have q0:av (g0*g0)=g0*g0:=aT (by omega) (by omega);have q1:av (g1*g1)=g1*g1:=aT (by omega) (by omega);have q2:av (g2*g2)=g2*g2:=aT (by omega) (by omega);have q3:av (g3*g3)=g3*g3:=aT (by omega) (by omega);have e0:av (0+g0*g0)=g0*g0:=by rw [aT (by omega) (by omega)];omega
  have e1:av (g0*g0+g1*g1)=g0*g0+g1*g1:=aT (by omega) (by omega);have e2:av (g0*g0+g1*g1+g2*g2)=g0*g0+g1*g1+g2*g2:=aT (by omega) (by omega);have e3:av (g0*g0+g1*g1+g2*g2+g3*g3)=g0*g0+g1*g1+g2*g2+g3*g3:=aT (by omega) (by omega);rw [xg (s1:=(g0*g0,1)) (s2:=(g0*g0+g1*g1,2)) (s3:=(g0*g0+g1*g1+g2*g2,3)) (s4:=(g0*g0+g1*g1+g2*g2+g3*g3,4)) (r:= .inl (g0*g0+g1*g1+g2*g2+g3*g3))]
  ·rfl
  ·simp only [Se,Sb,Uj,e0,q0,bb,cond_true,qa0];rfl
  ·simp only [d14,Ug,i12,e1,q1,bb,cond_true,qa0];rfl
  ·simp only [d24,Uh,i23,e2,q2,bb,cond_true,qa0];rfl
  ·simp only [d34,Ui,i34,e3,q3,bb,cond_true,qa0];rfl
  ·simp [d44]
 by_cases k4:k=4
 ·subst k4;have e0:av (0+min g0 1)=min g0 1:=by rw [aT (by omega) (by omega)];omega
  have e1:av (min g0 1+min g1 1)=min g0 1+min g1 1:=aT (by omega) (by omega);have e2:av (min g0 1+min g1 1+min g2 1)=min g0 1+min g1 1+min g2 1:=aT (by omega) (by omega);have e3:av (min g0 1+min g1 1+min g2 1+min g3 1)=min g0 1+min g1 1+min g2 1+min g3 1:=aT (by omega) (by omega);rw [xg (s1:=(min g0 1,1)) (s2:=(min g0 1+min g1 1,2)) (s3:=(min g0 1+min g1 1+min g2 1,3)) (s4:=(min g0 1+min g1 1+min g2 1+min g3 1,4)) (r:= .inl (min g0 1+min g1 1+min g2 1+min g3 1))]
  ·rfl
  ·simp only [Se,Sb,Uj,e0,bb,cond_true,qa0];rfl
  ·simp only [d14,Ug,i12,e1,bb,cond_true,qa0];rfl
  ·simp only [d24,Uh,i23,e2,bb,cond_true,qa0];rfl
  ·simp only [d34,Ui,i34,e3,bb,cond_true,qa0];rfl
  ·simp [d44]
 have b1:(k==1)=false:=by simpa using k1
 have b2:(k==2)=false:=by simpa using k2
 have b3:(k==3)=false:=by simpa using k3
 have b4:(k==4)=false:=by simpa using k4
 rw [bz];simp [Se,Sb,b1,b2,b3,b4,bb,dk,k1,k2,k3,k4]
theorem M3{a b c d x y z w:Int}(ha:Co a)(hb:Co b)(hc:Co c)(hd:Co d)(hx:Co x)(hy:Co y)(hz:Co z)(hw:Co w):
  M.mY [a,b,c,d] [x,y,z,w]=some [pN a x,pN b y,pN c z,pN d w]:=by
 have e: ∀p q,Co p->Co q->max (av (p - q)) (av (q - p))=pN p q:=by
  intro p q hp hq;unfold Co at hp hq;rw [aT (n:=p - q) (by omega) (by omega),aT (n:=q - p) (by omega) (by omega)];rfl
 unfold M.mY;rw [xg (s1:=([pN a x,0,0,0],1)) (s2:=([pN a x,pN b y,0,0],2)) (s3:=([pN a x,pN b y,pN c z,0],3)) (s4:=([pN a x,pN b y,pN c z,pN d w],4)) (r:=[pN a x,pN b y,pN c z,pN d w])]
 ·rfl
 ·simp only [show List.replicate 4 (0:Int)=[0,0,0,0] from rfl,Se,Sb,Uj,cond_true,qa0,e a x ha hx];rfl
 ·simp only [d14,Ug,i12,cond_true,qa0,e b y hb hy];rfl
 ·simp only [d24,Uh,i23,cond_true,qa0,e c z hc hz];rfl
 ·simp only [d34,Ui,i34,cond_true,qa0,e d w hd hw];rfl
 ·simp only [d44,cond_false]
theorem Hr{k:Int}(hk:1<=k/\k<=4){a b c d x y z w:Int}(ha:Co a)(hb:Co b)(hc:Co c)(hd:Co d)(hx:Co x)(hy:Co y)(hz:Co z)(hw:Co w):
  M.oq k [a,b,c,d] [x,y,z,w]=some (dk k (pN a x) (pN b y) (pN c z) (pN d w)):=by
 have e: ∀p q,Co p->Co q->M.qO (av (p - q))=some (pN p q):=by
  intro p q hp hq;unfold Co at hp hq;unfold M.qO;rw [aT (n:=p - q) (by omega) (by omega),aT (n:=0 - (p - q)) (by omega) (by omega)];unfold pN;congr 1;omega
 have t: ∀g:Int,0<=g->M.oM (decide (0<g))=some (min g 1):=by
  intro g hg;unfold M.oM;by_cases h:0<g
  ·simp [h];omega
  ·simp [h];omega
 have ea:=e a x ha hx;have eb:=e b y hb hy;have ec:=e c z hc hz;have ed:=e d w hd hw;have h0:=fS a x;have h1:=fS b y;have h2:=fS c z;have h3:=fS d w;have BV:=nH ha hx;have Oh:=nH hb hy;have Im:=nH hc hz;have h3':=nH hd hw;generalize pN a x=g0 at*;generalize pN b y=g1 at*;generalize pN c z=g2 at*;generalize pN d w=g3 at*;have s0:=eT h0 BV;have s1:=eT h1 Oh;have s2:=eT h2 Im;have s3:=eT h3 h3';unfold M.oq;by_cases k1:k=1
 ·subst k1;have e0:av (0+g0)=g0:=by rw [aT (by omega) (by omega)];omega
  have e1:av (g0+g1)=g0+g1:=aT (by omega) (by omega);have e2:av (g0+g1+g2)=g0+g1+g2:=aT (by omega) (by omega);have e3:av (g0+g1+g2+g3)=g0+g1+g2+g3:=aT (by omega) (by omega);rw [xg (s1:=(g0,1)) (s2:=(g0+g1,2)) (s3:=(g0+g1+g2,3)) (s4:=(g0+g1+g2+g3,4)) (r:=g0+g1+g2+g3)]
  ·rfl
  ·simp only [l4,Se,Sb,Uj,e0,ea,cond_true,qa0];rfl
  ·simp only [l4,d14,Ug,i12,e1,eb,cond_true,qa0];rfl
  ·simp only [l4,d24,Uh,i23,e2,ec,cond_true,qa0];rfl
  ·simp only [l4,d34,Ui,i34,e3,ed,cond_true,qa0];rfl
  ·simp [l4,d44]
 by_cases k2:k=2
 ·subst k2;rw [xg (s1:=(max 0 g0,1)) (s2:=(max (max 0 g0) g1,2)) (s3:=(max (max (max 0 g0) g1) g2,3)) (s4:=(max (max (max (max 0 g0) g1) g2) g3,4)) (r:=max (max (max (max 0 g0) g1) g2) g3)]
  ·rfl
  ·simp only [l4,Se,Sb,Uj,ea,cond_true,qa0];rfl
  ·simp only [l4,d14,Ug,i12,eb,cond_true,qa0];rfl
  ·simp only [l4,d24,Uh,i23,ec,cond_true,qa0];rfl
  ·simp only [l4,d34,Ui,i34,ed,cond_true,qa0];rfl
  ·simp [l4,d44]
 by_cases k3:k=3
 ·subst k3;have q0:av (g0*g0)=g0*g0:=aT (by omega) (by omega);have q1:av (g1*g1)=g1*g1:=aT (by omega) (by omega);have q2:av (g2*g2)=g2*g2:=aT (by omega) (by omega);have q3:av (g3*g3)=g3*g3:=aT (by omega) (by omega);have e0:av (0+g0*g0)=g0*g0:=by rw [aT (by omega) (by omega)];omega
  have e1:av (g0*g0+g1*g1)=g0*g0+g1*g1:=aT (by omega) (by omega);have e2:av (g0*g0+g1*g1+g2*g2)=g0*g0+g1*g1+g2*g2:=aT (by omega) (by omega);have e3:av (g0*g0+g1*g1+g2*g2+g3*g3)=g0*g0+g1*g1+g2*g2+g3*g3:=aT (by omega) (by omega);rw [xg (s1:=(g0*g0,1)) (s2:=(g0*g0+g1*g1,2)) (s3:=(g0*g0+g1*g1+g2*g2,3)) (s4:=(g0*g0+g1*g1+g2*g2+g3*g3,4)) (r:=g0*g0+g1*g1+g2*g2+g3*g3)]
  ·rfl
  ·simp only [l4,Se,Sb,Uj,e0,q0,ea,cond_true,qa0];rfl
  ·simp only [l4,d14,Ug,i12,e1,q1,eb,cond_true,qa0];rfl
  ·simp only [l4,d24,Uh,i23,e2,q2,ec,cond_true,qa0];rfl
  ·simp only [l4,d34,Ui,i34,e3,q3,ed,cond_true,qa0];rfl
  ·simp [l4,d44]
 ·have k4:k=4:=by omega
  subst k4;have e0:av (0+min g0 1)=min g0 1:=by rw [aT (by omega) (by omega)];omega
  have e1:av (min g0 1+min g1 1)=min g0 1+min g1 1:=aT (by omega) (by omega);have e2:av (min g0 1+min g1 1+min g2 1)=min g0 1+min g1 1+min g2 1:=aT (by omega) (by omega);have e3:av (min g0 1+min g1 1+min g2 1+min g3 1)=min g0 1+min g1 1+min g2 1+min g3 1:=aT (by omega) (by omega);rw [xg (s1:=(min g0 1,1)) (s2:=(min g0 1+min g1 1,2)) (s3:=(min g0 1+min g1 1+min g2 1,3)) (s4:=(min g0 1+min g1 1+min g2 1+min g3 1,4)) (r:=min g0 1+min g1 1+min g2 1+min g3 1)]
  ·rfl
  ·simp only [l4,Se,Sb,Uj,e0,ea,t g0 h0,cond_true,qa0];simp only [show ((4:Int)==1)=false from rfl,show ((4:Int)==2)=false from rfl,show ((4:Int)==3)=false from rfl,cond_false,qa0,t g0 h0,e0]
  ·simp only [l4,d14,Ug,i12,e1,eb,t g1 h1,cond_true,qa0];simp only [show ((4:Int)==1)=false from rfl,show ((4:Int)==2)=false from rfl,show ((4:Int)==3)=false from rfl,cond_false,qa0,t g1 h1,e1]
  ·simp only [l4,d24,Uh,i23,e2,ec,t g2 h2,cond_true,qa0];simp only [show ((4:Int)==1)=false from rfl,show ((4:Int)==2)=false from rfl,show ((4:Int)==3)=false from rfl,cond_false,qa0,t g2 h2,e2]
  ·simp only [l4,d34,Ui,i34,e3,ed,t g3 h3,cond_true,qa0];simp only [show ((4:Int)==1)=false from rfl,show ((4:Int)==2)=false from rfl,show ((4:Int)==3)=false from rfl,cond_false,qa0,t g3 h3,e3]
  ·simp [l4,d44]
end Go.Vs
namespace Go.Vs
def vO(k:Int)(a b:List Int):Int:=
 if fx a=true/\fx b=true then dk k (pN (a.getD 0 0) (b.getD 0 0)) (pN (a.getD 1 0) (b.getD 1 0)) (pN (a.getD 2 0) (b.getD 2 0)) (pN (a.getD 3 0) (b.getD 3 0)) else -1
theorem Be{k:Int}{a b c d x y z w:Int}(ha:fx [a,b,c,d]=true)(hb:fx [x,y,z,w]=true):vO k [a,b,c,d] [x,y,z,w]=dk k (pN a x) (pN b y) (pN c z) (pN d w):=by
 unfold vO;rw [if_pos ⟨ha,hb⟩];rfl
theorem ov{v:List Int}(h:fx v=true): ∃a b c d,v=[a,b,c,d]/\Co a/\Co b/\Co c/\Co d:=JP h
theorem zx(k:Int){a b:List Int}(ha:a.length<2000000)(hb:b.length<2000000):M.jg k a b=some (vO k a b):=by
 unfold M.jg;simp only [sd a ha,qa0];by_cases va:fx a=true
 ·simp only [va,qai,cond_false,sd b hb,qa0];by_cases vb:fx b=true
  ·simp only [vb,qai,cond_false];obtain ⟨x0,x1,x2,x3,rfl,c0,c1,c2,c3⟩:=ov va;obtain ⟨y0,y1,y2,y3,rfl,e0,e1,e2,e3⟩:=ov vb;rw [Be va vb,La (by simp),La (by simp)];simp only [qa0,qcc,List.take_zero,M3 c0 c1 c2 c3 e0 e1 e2 e3];rw [Cz k (fS _ _) (nH c0 e0) (fS _ _) (nH c1 e1) (fS _ _) (nH c2 e2) (fS _ _) (nH c3 e3)]
   rfl
  ·have vb':fx b=false:=by simpa using vb
   simp [vb',vO]
 ·have va':fx a=false:=by simpa using va
  simp [va',vO]
theorem E9{a b:List Int}(ha:a.length<2000000):M.tU a b=some (decide (a=b)):=by
 unfold M.tU;by_cases hl:a.length=b.length
 ·have e:((a.length:Int) != (b.length:Int))=false:=by simp;omega
  simp only [e,cond_false];rw [nh (xs:=a.zip b) (P:=λp=>p.1==p.2) (r:=false)]
  ·by_cases h:a=b
   ·subst h;have:(a.zip a).all (λp=>p.1==p.2)=true:=by
     rw [qa9];intro p hp;obtain ⟨i,hi,rfl⟩:=qan.1 hp;simp
    rw [if_pos this];simp [bb]
   ·have: ¬(a.zip b).all (λp=>p.1==p.2)=true:=by
     intro hh;apply h;apply List.ext_getElem hl;intro i h1 h2;rw [qa9] at hh;have:=hh (a[i],b[i]) (qan.2 ⟨i,by simp;omega,by simp⟩);simpa using this
    rw [if_neg this];simp [bb,h]
  ·intro i hi;have uw:i<a.length:=by simp at hi;omega
   have yK:i<b.length:=by simp at hi;omega
   have e1:decide ((i:Int)<(a.length:Int))=true:=by simpa using uw
   have e2:av ((i:Int)+1)=(i:Int)+1:=aT (by omega) (by omega);simp only [e1,cond_true,bG uw,bG yK,qa0,e2,List.getElem_zip];by_cases hc:a[i]=b[i]
   ·simp [hc]
   ·have hb:(a[i]==b[i])=false:=by simpa using hc
    have eU:(a[i] != b[i])=true:=by simpa using hc
    simp [hb,eU]
  ·have:(a.zip b).length=a.length:=by simp;omega
   rw [this];simp
 ·have e:((a.length:Int) != (b.length:Int))=true:=by simp;omega
  have:a≠b:=λh=>hl (by rw [h]);simp [e,this]
structure YP(g0 g1 g2 g3:Int):Prop where
 n0:0<=g0
 n1:0<=g1
 n2:0<=g2
 n3:0<=g3
 m0:g0<=200
 m1:g1<=200
 m2:g2<=200
 m3:g3<=200
theorem Uk{a b c d x y z w:Int}(c0:Co a)(c1:Co b)(c2:Co c)(c3:Co d)(e0:Co x)(e1:Co y)(e2:Co z)(e3:Co w):YP (pN a x) (pN b y) (pN c z) (pN d w):=
 ⟨fS _ _,fS _ _,fS _ _,fS _ _,nH c0 e0,nH c1 e1,nH c2 e2,nH c3 e3⟩
theorem QA{k g0 g1 g2 g3:Int}(h:YP g0 g1 g2 g3): -1<=dk k g0 g1 g2 g3/\dk k g0 g1 g2 g3<1000000:=by
 obtain ⟨n0,n1,n2,n3,m0,m1,m2,m3⟩:=h;have s0:=eT n0 m0;have s1:=eT n1 m1;have s2:=eT n2 m2;have s3:=eT n3 m3;unfold dk;split
 ·omega
 split
 ·omega
 split
 ·generalize g0*g0=q0 at*;generalize g1*g1=q1 at*;generalize g2*g2=q2 at*;generalize g3*g3=q3 at*;omega
 split <;> omega
end Go.Vs
namespace Go.Vs
end Go.Vs
namespace Go.Vs
end Go.Vs
namespace Go.Vs
end Go.Vs
namespace Go.Vs
end Go.Vs
namespace Go.Vs
theorem yw{a:List Int}(h:a.length<=1048576):M.fK a=some a:=by
  unfold M.fK;rw [Hq (by omega) (by omega)];simp only [qa0,qal];have rj:=rh (R:=List Int) (f:=fun (nz:(List Int)×(Int))=>(bif decide (nz.2<(a.length:Int)) then
  (aZ a nz.2).bind λTH=>
  (aZ nz.1 nz.2).bind λwO=>
  some (.inl ((nz.1.set nz.2.toNat TH),av (nz.2+1)))
 else
  some (.inr nz.1))) (r:=a) a.length (λi=>(a.take i++List.replicate (a.length - i) 0,(i:Int))) (by
   intro i hi;have e1:decide ((i:Int)<(a.length:Int))=true:=by simpa using hi
   have e2:av ((i:Int)+1)=((i+1:Nat):Int):=aT (by omega) (by omega);have hl:i<(a.take i++List.replicate (a.length - i) (0:Int)).length:=by simp;omega
   simp only [e1,cond_true,bG hi,bG hl,qa0,e2,qal,qac,Sum.inl.injEq,qcd,and_true];rw [qas hi];have hr:List.replicate (a.length - i) (0:Int)=0::List.replicate (a.length - (i+1)) 0:=by
    rw [show a.length - i=(a.length - (i+1))+1 by omega,List.replicate_succ]
   rw [hr,qc4 _ _ (by simp;omega)];have:i - (a.take i).length=0:=by simp;omega
   rw [this];simp only [List.set_cons_zero,List.append_assoc,qc9,qb8]) (by
   have e1:decide (((a.length:Nat):Int)<(a.length:Int))=false:=by simp
   simp only [e1,cond_false,qbu,Nat.sub_self,List.replicate_zero,qbw])
  simp only [List.take_zero,qb8,Nat.sub_zero,qbn] at rj;rw [rj];rfl
theorem DG{a b:List Int}(ha:a.length<2000000):M.mZ a b=some (decide (a=b)):=E9 ha
end Go.Vs
namespace Go.Vs
end Go.Vs
namespace Go.Vs
abbrev Item:=Int×(List Int)×Int
def kG(x:Item):Bool:=(decide (1<=x.1)&&decide (x.1<=99))&&(fx x.2.1&&(decide (0<=x.2.2)&&decide (x.2.2<=15)))
def lB:Int->List Item->Bool
 | _,[]=>true
 | p,x::l=>(kG x&&decide (p<x.1))&&lB x.1 l
def fi(l:List Item):Bool:=decide (l.length<=16)&&lB 0 l
theorem Ht{x:Item}(h:x.2.1.length<2000000):M.iw (x.1,x.2.1,x.2.2)=some (kG x):=by
 unfold M.iw M.gk M.lW kG;simp only [sd x.2.1 h,qa0];by_cases h1:1<=x.1
 ·by_cases h2:x.1<=99
  ·by_cases h3:fx x.2.1=true
   ·by_cases h4:0<=x.2.2
    ·simp [h1,h2,h3,h4]
    ·simp [h1,h2,h3,h4]
   ·simp only [qbh] at h3;simp [h1,h2,h3]
  ·simp [h1,h2]
 ·simp [h1]
theorem Hu{x:Item}(h:x.2.1.length<2000000):M.iu (x.1,x.2.1,x.2.2)=some (kG x):=by
 unfold M.iu kG;simp only [Bc,Bd x.2.1 h,qa0];cases (decide (1<=x.1)&&decide (x.1<=99)) <;> cases fx x.2.1 <;> simp
theorem Fa{l:List Item}(hb: ∀x∈l,x.2.1.length<2000000):M.fR l=some (fi l):=by
  unfold M.fR fi;by_cases hl:16<(l.length:Int)
  ·have: ¬l.length<=16:=by omega
   simp [hl,this]
  have oi:l.length<=16:=by omega
  simp only [hl,decide_false,cond_false,oi,decide_true,qbt];have key: ∀m k:Nat, ∀p:Int,k+m=l.length->bT (fun (s3:(Int)×(Int))=>(bif decide (s3.2<(l.length:Int)) then
  (aZ l s3.2).bind λx8=>
  Option.bind ((M.iw (x8.1,x8.2.1,x8.2.2)).bind λNK=>
  (bif !NK then
  some true
 else
  some (decide (x8.1<=s3.1)))) λo29=>
  (bif o29 then
  some (.inr (.inr false))
 else
  some (.inl (x8.1,av (s3.2+1))))
 else
  some (.inr (.inl ())))) (p,(k:Int))=some (if lB p (l.drop k) then (.inl ():Unit⊕Bool) else .inr false):=by
   intro m
   induction m with
   | zero=>
    intro k p hk;have:k=l.length:=by omega
    subst this;rw [bz];simp [bb,lB]
   | succ m ih=>
    intro k p hk;have bs:k<l.length:=by omega
    rw [bz,qb4 bs];have e1:decide ((k:Int)<(l.length:Int))=true:=by simpa using bs
    have e2:av ((k:Int)+1)=((k+1:Nat):Int):=aT (by omega) (by omega);simp only [e1,cond_true,bG bs,qa0,Ht (hb _ (qae bs)),e2,lB];by_cases h1:kG l[k]=true
    ·by_cases h2:p<l[k].1
     ·have Im: ¬l[k].1<=p:=by omega
      simp only [h1,h2,Im,qai,cond_false,qa0,decide_false,decide_true,Bool.and_self,qbt,bb];exact ih (k+1) l[k].1 (by omega)
     ·have Im:l[k].1<=p:=by omega
      simp [h1,h2,Im,bb]
    ·simp only [qbh] at h1;simp [h1,bb]
  have:=key l.length 0 0 (by omega);simp only [qbn,qce] at this;rw [this];cases lB 0 l <;> rfl
def mN(l:List Item):Nat->Int
 | 0=>0
 | k+1=>(l.getD k (0,[],0)).1
theorem Fb{l:List Item}(hb: ∀x∈l,x.2.1.length<2000000)(hL:l.length<2000000):M.gE l=some (fi l):=by
  unfold M.gE fi;have key: ∀m k:Nat,k+m=l.length->bT (fun (s2:(Int))=>(bif decide (s2<(l.length:Int)) then
  Option.bind ((aZ l s2).bind λx8=>
  (M.iu (x8.1,x8.2.1,x8.2.2)).bind λPY=>
  (bif !PY then
  some true
 else
  (bif decide (0<s2) then
  (aZ l s2).bind λME=>
  (aZ l (av (s2 - 1))).bind λvX=>
  some (decide (ME.1<=vX.1))
 else
  some false))) λo7=>
  (bif o7 then
  some (.inr (.inr false))
 else
  some (.inl (av (s2+1))))
 else
  some (.inr (.inl ())))) (k:Int)=some (if lB (mN l k) (l.drop k) then (.inl ():Unit⊕Bool) else .inr false):=by
   intro m
   induction m with
   | zero=>
    intro k hk;have:k=l.length:=by omega
    subst this;rw [bz];simp [bb,lB]
   | succ m ih=>
    intro k hk;have bs:k<l.length:=by omega
    rw [bz,qb4 bs];have e1:decide ((k:Int)<(l.length:Int))=true:=by simpa using bs
    have e2:av ((k:Int)+1)=((k+1:Nat):Int):=aT (by omega) (by omega);have Ak:mN l (k+1)=l[k].1:=by simp [mN,List.getD,bs]
    have ih':=ih (k+1) (by omega);rw [Ak] at ih';simp only [e1,cond_true,bG bs,qa0,Hu (hb _ (qae bs)),e2,lB];by_cases h1:kG l[k]=true
    ·simp only [h1,qai,cond_false,qbt]
     match k,bs with
     | 0,bs=>
      have B8:mN l 0<l[0].1:=by
       have:1<=l[0].1:=by
        unfold kG at h1;simp at h1;exact h1.1.1
       show 0<_;omega
      have e3:decide ((0:Int)<((0:Nat):Int))=false:=rfl;simp only [e3,cond_false,qa0,B8,decide_true,qbt,bb];exact ih'
     | j+1,bs=>
      have e3:decide ((0:Int)<((j+1:Nat):Int))=true:=by simp
      have e4:av (((j+1:Nat):Int) - 1)=(j:Int):=by rw [aT (by omega) (by omega)];omega
      have hj:j<l.length:=by omega
      have hk:mN l (j+1)=l[j].1:=by simp [mN,List.getD,hj]
      simp only [e3,cond_true,e4,bG hj,qa0,hk];by_cases h2:l[j].1<l[j+1].1
      ·have Im: ¬l[j+1].1<=l[j].1:=by omega
       simp only [h2,Im,decide_false,decide_true,cond_false,qbt,bb,qa0];exact ih'
      ·have Im:l[j+1].1<=l[j].1:=by omega
       simp [h2,Im,bb]
    ·simp only [qbh] at h1;simp [h1,bb]
  have:=key l.length 0 (by omega);simp only [qbn,qce] at this;rw [this];show _=some (decide (l.length<=16)&&lB 0 l);have e:mN l 0=0:=rfl;rw [e];by_cases h16:l.length<=16
  ·have:decide ((l.length:Int)<=16)=true:=by simp;omega
   cases lB 0 l <;> simp [bb,this,h16]
  ·have:decide ((l.length:Int)<=16)=false:=by simp;omega
   cases lB 0 l <;> simp [bb,this,h16]
end Go.Vs
namespace Go.Vs
theorem M4{a:List Int}{left:Int}(ha:a.length<=9223372036854775807)(h0:0<=left)(h1:left<=1048576):
  ∃s,M.na a left=some s/\(s<0\/(0<=s/\s<=left/\a.length<=1048576)):=by
 unfold M.na;rw [aT (by omega) (by omega)];by_cases h:left - (a.length:Int)<0
 ·exact ⟨-1,by simp [h], .inl (by omega)⟩
 ·exact ⟨left - a.length,by simp [h], .inr (by omega)⟩
theorem M5{x:Item}{left:Int}(ha:x.2.1.length<=9223372036854775807)(h0:0<=left)(h1:left<=1048576):
  ∃s,M.jO x left=some s/\(s<0\/(0<=s/\s<=left/\x.2.1.length<=1048576)):=by
 obtain ⟨s,e,h⟩:=M4 ha h0 h1;unfold M.jO;simp only [e,qa0];by_cases c:s<0
 ·exact ⟨-1,by simp [c], .inl (by omega)⟩
 ·exact ⟨s,by simp [c],h⟩
theorem Bf{a:List Item}{left:Int}(ha:a.length<=9223372036854775807)(hx: ∀x∈a,x.2.1.length<=9223372036854775807)(h0:0<=left)(h1:left<=1048576):
   ∃s,M.kg a left=some s/\(s<0\/(0<=s/\a.length<=1048576/\ ∀x∈a,x.2.1.length<=1048576)):=by
  unfold M.kg;rw [aT (by omega) (by omega)];by_cases h:left - (a.length:Int)<0
  ·exact ⟨-1,by simp [h], .inl (by omega)⟩
  simp only [h,decide_false,cond_false];have hl:a.length<=1048576:=by omega
  have key: ∀m k:Nat, ∀l:Int,k+m=a.length->0<=l->l<=1048576-> ∃r:Int⊕Int,bT (fun (s3:(Int)×(Int))=>(bif decide (s3.2<(a.length:Int)) then
  (aZ a s3.2).bind λx8=>
  (M.jO (x8.1,x8.2.1,x8.2.2) s3.1).bind λPY=>
  (bif decide (PY<0) then
  some (.inr (.inr (-1)))
 else
  some (.inl (PY,av (s3.2+1))))
 else
  some (.inr (.inl s3.1)))) (l,(k:Int))=some r/\(r= .inr (-1)\/ ∃l',r= .inl l'/\0<=l'/\ ∀x∈a.drop k,x.2.1.length<=1048576):=by
   intro m
   induction m with
   | zero=>
    intro k l hk hl0 _;have:k=a.length:=by omega
    subst this;refine ⟨.inl l, ?_, .inr ⟨l,rfl,hl0,by simp⟩⟩;rw [bz];simp [bb]
   | succ m ih=>
    intro k l hk hl0 uI;have bs:k<a.length:=by omega
    have e1:decide ((k:Int)<(a.length:Int))=true:=by simpa using bs
    have e2:av ((k:Int)+1)=((k+1:Nat):Int):=aT (by omega) (by omega);obtain ⟨s,es,hs⟩:=M5 (x:=a[k]) (hx _ (qae bs)) hl0 uI;have BW:M.jO (a[k].1,a[k].2.1,a[k].2.2) l=some s:=es;rw [bz];simp only [e1,cond_true,bG bs,qa0,BW,e2];rcases hs with hs | ⟨hs0,hs1,VX⟩
    ·exact ⟨.inr (-1),by simp [hs,bb], .inl rfl⟩
    ·obtain ⟨r,hr,Sp⟩:=ih (k+1) s (by omega) hs0 (by omega);refine ⟨r, ?_, ?_⟩
     ·have: ¬s<0:=by omega
      simp only [this,decide_false,cond_false,bb,qa0];exact hr
     ·rcases Sp with Sp | ⟨l',e,BV,jF⟩
      ·exact .inl Sp
      ·refine .inr ⟨l',e,BV, ?_⟩;rw [qb4 bs];intro x uL;rcases qad.1 uL with h | h
       ·subst h;exact VX
       ·exact jF x h
  obtain ⟨r,hr,Sp⟩:=key a.length 0 (left - a.length) (by omega) (by omega) (by omega);simp only [qbn] at hr;rw [hr];rcases Sp with rfl | ⟨l',rfl,BV,jF⟩
  ·exact ⟨-1,rfl, .inl (by omega)⟩
  ·exact ⟨l',rfl, .inr ⟨BV,hl,by simpa using jF⟩⟩
theorem M6{α:Type}{a:List α}{z:α}{g:α->Option α}(ha:a.length<=1048576)(hg: ∀x∈a,g x=some x){f:List α×Int->Option ((List α×Int)⊕List α)}
  (hs: ∀(s:List α) (i:Nat) (h:i<a.length) (h':i<s.length),g a[i]=some a[i]->f (s,(i:Int))=some (.inl (s.set i a[i],((i+1:Nat):Int)))) (he: ∀s,f (s,(a.length:Int))=some (.inr s)):
  bT f (List.replicate a.length z,0)=some a:=by
 have rj:=rh (R:=List α) (f:=f) (r:=a) a.length (λi=>(a.take i++List.replicate (a.length - i) z,(i:Int))) (by
  intro i hi;have hl:i<(a.take i++List.replicate (a.length - i) z).length:=by simp;omega
  rw [hs _ i hi hl (hg _ (qae hi))];have hr:List.replicate (a.length - i) z=z::List.replicate (a.length - (i+1)) z:=by
   rw [show a.length - i=(a.length - (i+1))+1 by omega,List.replicate_succ]
  rw [qas hi,hr,qc4 _ _ (by simp;omega)];have:i - (a.take i).length=0:=by simp;omega
  rw [this];simp only [List.set_cons_zero,List.append_assoc,qc9,qb8]) (by
  rw [he];simp)
 simpa using rj
theorem Hv{x:Item}(h:x.2.1.length<2000000):M.nb (x.1,x.2.1,x.2.2) (x.1,x.2.1,x.2.2)=some true:=by
 unfold M.nb;simp only [bne_self_eq_false,cond_false,DG h,decide_true,qai,qa0]
theorem Fc{a:List Item}(h:a.length<2000000)(hx: ∀x∈a,x.2.1.length<2000000):M.lX a a=some true:=by
 unfold M.lX;simp only [bne_self_eq_false,cond_false];rw [nh (xs:=a) (P:=λ_=>true) (r:=false)]
 ·simp [bb]
 ·intro i hi;have e1:decide ((i:Int)<(a.length:Int))=true:=by simpa using hi
  have e2:av ((i:Int)+1)=(i:Int)+1:=aT (by omega) (by omega);simp only [e1,cond_true,bG hi,qa0,Hv (hx _ (qae hi)),qai,cond_false,e2,if_true]
 ·simp
end Go.Vs
namespace Go.Vs
theorem gV{i:Nat}(h:i<4000000000000000000):av ((i:Int)+1)=((i+1:Nat):Int):=aT (by omega) (by omega)
section
variable{α S T R U:Type}{xs:List α}
theorem M7(st:S->Int->T)(g:S->α->S)(Inv:Nat->S->Prop){fin:S->R}{f:T->Option (T⊕R)}{s0:S}(h0:Inv 0 s0)
  (hs: ∀s i (h:i<xs.length),Inv i s->f (st s (i:Int))=some (.inl (st (g s xs[i]) ((i+1:Nat):Int)))/\Inv (i+1) (g s xs[i]))
  (he: ∀s,Inv xs.length s->f (st s (xs.length:Int))=some (.inr (fin s))):
  bT f (st s0 0)=some (fin (xs.foldl g s0))/\Inv xs.length (xs.foldl g s0):=by
 have key: ∀m k:Nat, ∀s,k+m=xs.length->Inv k s->bT f (st s (k:Int))=some (fin ((xs.drop k).foldl g s))/\Inv xs.length ((xs.drop k).foldl g s):=by
  intro m
  induction m with
  | zero=>
   intro k s hk hi;have:k=xs.length:=by omega
   subst this;rw [bz,he s hi];simpa [bb] using hi
  | succ m ih=>
   intro k s hk hi;have bs:k<xs.length:=by omega
   obtain ⟨h1,h2⟩:=hs s k bs hi;rw [bz,h1,qb4 bs];exact ih (k+1) _ (by omega) h2
 have:=key xs.length 0 s0 (by omega) h0;simpa using this
theorem oy(st:S->Int->T)(g:S->α->S)(Inv:Nat->S->Prop)(fin:S->R){f:T->Option (T⊕R)}{s0:S}{k:R->Option U}{r:Option U}(h0:Inv 0 s0)
  (hs: ∀s i (h:i<xs.length),Inv i s->f (st s (i:Int))=some (.inl (st (g s xs[i]) ((i+1:Nat):Int)))/\Inv (i+1) (g s xs[i]))
  (he: ∀s,Inv xs.length s->f (st s (xs.length:Int))=some (.inr (fin s)))
  (hk:Inv xs.length (xs.foldl g s0)->k (fin (xs.foldl g s0))=r):(bT f (st s0 0)).bind k=r:=by
 obtain ⟨h1,h2⟩:=M7 st g Inv (fin:=fin) h0 hs he;rw [h1];exact hk h2
theorem Bg(p:α->Bool)(r:Nat->R){f:Int->Option (Int⊕(Unit⊕R))}
  (hs: ∀i (h:i<xs.length),f (i:Int)=some (if p xs[i]=true then .inr (.inr (r i)) else .inl ((i+1:Nat):Int))) (he:f (xs.length:Int)=some (.inr (.inl ()))):
  bT f 0=some (match xs.findIdx? p with | some i=> .inr (r i) | none=> .inl ()):=by
 have key: ∀m k:Nat,k+m=xs.length->bT f (k:Int)=some (match (xs.drop k).findIdx? p with | some i=> .inr (r (k+i)) | none=> .inl ()):=by
  intro m
  induction m with
  | zero=>
   intro k hk;have:k=xs.length:=by omega
   subst this;rw [bz,he];simp [bb]
  | succ m ih=>
   intro k hk;have bs:k<xs.length:=by omega
   rw [bz,hs k bs,qb4 bs,List.findIdx?_cons];by_cases hp:p xs[k]=true
   ·simp [hp,bb]
   ·simp only [hp,if_false,bb,qa0,qa7];rw [ih (k+1) (by omega)];cases h:List.findIdx? p (List.drop (k+1) xs) with
    | none=>rfl
    | some i=>simp only [qab];rw [show k+1+i=k+(i+1) by omega]
 have:=key xs.length 0 (by omega);simpa using this
end
theorem foldl_filter{α:Type}(p:α->Bool)(l:List α): ∀s:List α,l.foldl (λs x=>if p x=true then s++[x] else s) s=s++l.filter p:=by
 induction l with
 | nil=>intro s;simp
 | cons x l ih=>
  intro s;rw [List.foldl_cons,ih,List.filter_cons];by_cases h:p x=true <;> simp [h]
theorem JQ{l:List Item}: ∀{p:Int},lB p l=true↔(∀x∈l,kG x=true/\p<x.1)/\l.Pairwise (λx y=>x.1<y.1):=by
 induction l with
 | nil=>intro p;simp [lB]
 | cons x l ih=>
  intro p;simp only [lB,qa4,decide_eq_true_eq,ih,List.pairwise_cons,qad,forall_eq_or_imp]
  constructor
  ·rintro ⟨⟨h1,h2⟩,h3,h4⟩;exact ⟨⟨⟨h1,h2⟩,λy hy=>⟨(h3 y hy).1,by have:=(h3 y hy).2;omega⟩⟩,λy hy=>(h3 y hy).2,h4⟩
  ·rintro ⟨⟨⟨h1,h2⟩,h3⟩,h4,h5⟩;exact ⟨⟨h1,h2⟩,λy hy=>⟨(h3 y hy).1,h4 y hy⟩,h5⟩
theorem oY{x:Item}:kG x=true↔(1<=x.1/\x.1<=99)/\fx x.2.1=true/\0<=x.2.2/\x.2.2<=15:=by
 unfold kG;simp only [qa4,decide_eq_true_eq]
theorem gm{l:List Item}:fi l=true↔l.length<=16/\(∀x∈l,kG x=true)/\l.Pairwise (λx y=>x.1<y.1):=by
 unfold fi;simp only [qa4,decide_eq_true_eq,JQ]
 constructor
 ·rintro ⟨h1,h2,h3⟩;exact ⟨h1,λx hx=>(h2 x hx).1,h3⟩
 ·rintro ⟨h1,h2,h3⟩;exact ⟨h1,λx hx=>⟨h2 x hx,by have:=(oY.1 (h2 x hx)).1.1;omega⟩,h3⟩
theorem yV{l m:List Item}(h:fi l=true)(hs:m.Sublist l):fi m=true:=by
 obtain ⟨h1,h2,h3⟩:=gm.1 h;exact gm.2 ⟨qa8 hs.length_le h1,λx hx=>h2 x (hs.subset hx),h3.sublist hs⟩
theorem Bh{x:Item}(h:kG x=true):x.2.1.length=4:=(ri.1 (oY.1 h).2.1).1
def gx(l:List Item):Prop:=l.length<=1048576/\ ∀x∈l,x.2.1.length<=1048576
theorem gx.hb{l:List Item}(h:gx l): ∀x∈l,x.2.1.length<2000000:=λx hx=>by have:=h.2 x hx;omega
theorem gx.hL{l:List Item}(h:gx l):l.length<2000000:=by have:=h.1;omega
theorem CB{l:List Item}(h:fi l=true):gx l:=by
 obtain ⟨h1,h2,h3⟩:=gm.1 h;exact ⟨by omega,λx hx=>by have:=Bh (h2 x hx);omega⟩
theorem gx.impl{l:List Item}(h:gx l):M.fR l=some (fi l):=Fa h.hb
theorem gx.acz{l:List Item}(h:gx l):M.gE l=some (fi l):=Fb h.hb h.hL
theorem CC{x:Item}(h:x.2.1.length<=1000000):M.kS (x.1,x.2.1,x.2.2)=some x:=by
 unfold M.kS;simp only [Uf h,qa0]
end Go.Vs
namespace Go.Vs
def CE(x y:Int):Int:=if x<y then -1 else if y<x then 1 else 0
theorem JR(x y:Int):M.gF x y=some (CE x y):=by
 unfold M.gF M.cmp_isNaN_int CE;simp only [bne_self_eq_false,qa0,cond_false];by_cases h1:x<y
 ·simp [h1]
 ·by_cases h2:y<x <;> simp [h1,h2]
theorem Hw{x y:Int}:CE x y<0↔x<y:=by unfold CE;split <;> (try split) <;> omega
theorem uB{x y:Int}:CE x y=0↔x=y:=by unfold CE;split <;> (try split) <;> omega
theorem Hx{x y:Int}:0<CE x y↔y<x:=by unfold CE;split <;> (try split) <;> omega
theorem QB{v:List Int}(h:v.length<=1048576):M.fL v=some v:=by
 unfold M.fL;rw [mS (by simp;omega)];rfl
theorem Hy{x:Item}(h:x.2.1.length<=1048576):M.jh (x.1,x.2.1,x.2.2)=some x:=by
 unfold M.jh;simp only [QB h,qa0]
end Go.Vs
namespace Go.Vs
theorem Bi{x:Item}(h:kG x=true):fx x.2.1=true:=(oY.1 h).2.1
end Go.Vs
namespace Go.Vs
end Go.Vs
namespace Go.Vs
def isKind(k:Int):Bool:=decide (1<=k)&&decide (k<=4)
theorem Bl{k:Int}:isKind k=true↔1<=k/\k<=4:=by unfold isKind;simp
theorem Hz(k:Int):M.jQ k=some (isKind k):=by
 unfold M.jQ isKind;by_cases h:1<=k <;> simp [h]
theorem HA(k:Int):M.jN k=some (isKind k):=by
 unfold M.jN;simp only [Bc,qa0];rfl
theorem M8{k g0 g1 g2 g3:Int}(h:YP g0 g1 g2 g3)(hk:1<=k/\k<=4):0<=dk k g0 g1 g2 g3:=by
 obtain ⟨n0,n1,n2,n3,m0,m1,m2,m3⟩:=h;have s0:=eT n0 m0;have s1:=eT n1 m1;have s2:=eT n2 m2;have s3:=eT n3 m3;by_cases k1:k=1
 ·subst k1;simp only [dk,if_true];omega
 by_cases k2:k=2
 ·subst k2;rw [dk,if_neg (by omega),if_pos rfl];omega
 by_cases k3:k=3
 ·subst k3;rw [dk,if_neg (by omega),if_neg (by omega),if_pos rfl];omega
 ·have k4:k=4:=by omega
  subst k4;rw [dk,if_neg (by omega),if_neg (by omega),if_neg (by omega),if_pos rfl];omega
theorem JS{k:Int}{a b:List Int}(hk:isKind k=true)(ha:fx a=true)(hb:fx b=true):0<=vO k a b/\vO k a b<1000000:=by
 obtain ⟨x0,x1,x2,x3,rfl,c0,c1,c2,c3⟩:=ov ha;obtain ⟨y0,y1,y2,y3,rfl,e0,e1,e2,e3⟩:=ov hb;rw [Be ha hb];have G:=Uk c0 c1 c2 c3 e0 e1 e2 e3;exact ⟨M8 G (Bl.1 hk),(QA G).2⟩
theorem Fe{k:Int}{a b:List Int}(hk:isKind k=true)(ha:fx a=true)(hb:fx b=true):M.oq k a b=some (vO k a b):=by
 obtain ⟨x0,x1,x2,x3,rfl,c0,c1,c2,c3⟩:=ov ha;obtain ⟨y0,y1,y2,y3,rfl,e0,e1,e2,e3⟩:=ov hb;rw [Be ha hb];exact Hr (Bl.1 hk) c0 c1 c2 c3 e0 e1 e2 e3
theorem Ff{k:Int}{a b:List Int}(ha:fx a=true)(hb:fx b=true):M.jg k a b=some (vO k a b):=
 zx k (by rw [(ri.1 ha).1];omega) (by rw [(ri.1 hb).1];omega)
end Go.Vs
namespace Go.Vs
theorem Fg{l:List Item}(h:gx l):M.jP l=some l:=by
 unfold M.jP;rw [Hq (by omega) (by have:=h.1;omega)];simp only [qa0,qal];rw [M6 (a:=l) (g:=λx=>M.jh (x.1,x.2.1,x.2.2)) h.1 (λx uL=>Hy (h.2 x uL))]
 ·rfl
 ·intro s i hi fz hg;have e1:decide ((i:Int)<(l.length:Int))=true:=decide_eq_true (by omega);simp only [e1,cond_true,bG hi,bG fz,qa0,hg,gV (i:=i) (by have:=h.1;omega),qal]
 ·intro s;simp
end Go.Vs
namespace Go.Vs
end Go.Vs
namespace Go.Vs
def oZ(k:Int)(n:Nat):List Int:=(List.range n).map λi:Nat=>k+(i:Int)
theorem sf{k:Int}{n:Nat}:(oZ k n).length=n:=by simp [oZ]
theorem yW{a:List Int}{k:Int}(ha:a.length<2000000)(h0:0<=k)(h1:k<=2000000000000000):M.ie a k=some (k+(a.length:Int),oZ k a.length):=by
  unfold M.ie;have rj:=rh (R:=List Int×Int) (f:=fun (s2:(List Int)×(Int)×(Int))=>(bif decide (s2.2.2<(s2.1.length:Int)) then
  (aZ s2.1 s2.2.2).bind λx6=>
  some (.inl ((s2.1.set s2.2.2.toNat s2.2.1),av (s2.2.1+1),av (s2.2.2+1)))
 else
  some (.inr (s2.1,s2.2.1)))) (r:=(oZ k a.length,k+(a.length:Int))) a.length (λi=>(oZ k i++a.drop i,k+(i:Int),(i:Int))) (by
   intro i hi;have hl:(oZ k i++a.drop i).length=a.length:=by rw [qap,sf,List.length_drop];omega
   have e1:decide ((i:Int)<((oZ k i++a.drop i).length:Int))=true:=decide_eq_true (by omega);have e2:av ((i:Int)+1)=((i+1:Nat):Int):=aT (by omega) (by omega);have e3:av (k+(i:Int)+1)=k+((i+1:Nat):Int):=by rw [aT (by omega) (by omega)];omega
   have oi:i<(oZ k i++a.drop i).length:=by omega
   simp only [e1,cond_true,bG oi,qa0,e2,e3,qal,qac,Sum.inl.injEq,qcd,and_true];rw [qc4 _ _ (by rw [sf];omega),sf,Nat.sub_self,qb4 hi,List.set_cons_zero];simp [oZ,List.range_succ]) (by
   have e1:decide (((a.length:Nat):Int)<((oZ k a.length++a.drop a.length).length:Int))=false:=decide_eq_false (by rw [qap,sf];simp);simp only [List.drop_length,qbw] at e1 ⊢;simp only [e1,cond_false])
  simp only [oZ,List.range_zero,qbm,qb8,qce,qbn,Int.add_zero] at rj;rw [rj];rfl
end Go.Vs
namespace Go.Vs
theorem DI{a:List Item}(h:a.length<=1048576)(hx: ∀x∈a,x.2.1.length<=1048576):M.qo a=some a:=by
 unfold M.qo;rw [if_pos ⟨by omega,λx uL=>yw (hx x uL)⟩]
theorem vj: ∀(a:List Item) (k:Int),(∀x∈a,x.2.1.length<=1048576)->0<=k->k+a.length*1048578<=1999999999999990-> ∃r,M.lk a k=some r/\k<=r/\r<=k+a.length*1048578
 | [],k,_,_,_=>⟨k,rfl,Int.le_refl _,by simp⟩
 | x::a,k,hx,h0,h1=>by
  have hl:=hx x (by simp);have h2:((x::a).length:Int)=a.length+1:=by simp
  rw [h2] at h1;have e1:av (k+1)=k+1:=aT (by omega) (by omega);have hm:=yW (a:=x.2.1) (k:=k+1) (by omega) (by omega) (by omega);have e2:av (k+1+(x.2.1.length:Int)+1)=k+1+(x.2.1.length:Int)+1:=aT (by omega) (by omega);obtain ⟨r,hr,g1,g2⟩:=vj a (k+1+(x.2.1.length:Int)+1) (λy hy=>hx y (by simp [hy])) (by omega) (by omega);refine ⟨r, ?_,by omega,by rw [h2];omega⟩;simp only [M.lk,e1,hm,qa0,e2,hr]
theorem Fh{a:List Item}(h:a.length<=1048576)(hx: ∀x∈a,x.2.1.length<=1048576): ∃r,M.ot a 1=some r/\1<=r/\r<=1100000000000:=by
 obtain ⟨r,hr,h1,h2⟩:=vj a 1 hx (by omega) (by omega);refine ⟨r, ?_,h1,by omega⟩;unfold M.ot;rw [if_pos (by omega),hr]
theorem acA:(0:Int)<=1:=by omega
theorem acB:(1:Int)<=2000000000000000:=by omega
end Go.Vs
namespace Go.Vs
section
noncomputable abbrev Fi:Int×Int->Int×Int->Option Int:=λx y=>M.cS (x.1,x.2) (y.1,y.2)
end
end Go.Vs
namespace Go.Vs
section
variable{α:Type}[Inhabited α]
def el(d:List α)(i:Nat):α:=d.getD i default
theorem ni{d:List α}{i:Nat}(h:i<d.length):el d i=d[i]:=by simp [el,List.getD,h]
theorem qh{d:List α}{i:Nat}(h:i<d.length):aZ d (i:Int)=some (el d i):=by rw [bG h,ni h]
theorem QC{d:List α}{i k:Nat}{x:α}(h:i<d.length):el (d.set i x) k=if k=i then x else el d k:=by
 unfold el;simp only [List.getD_eq_getElem?_getD,List.getElem?_set];by_cases e:i=k
 ·subst e;simp [h]
 ·simp [e,qbp e]
def swp(d:List α)(i j:Nat):List α:=(d.set i (el d j)).set j (el d i)
theorem Fj{d:List α}{i j:Nat}:(swp d i j).length=d.length:=by simp [swp]
theorem Bm{d:List α}{i j k:Nat}(hi:i<d.length)(hj:j<d.length):el (swp d i j) k=if k=j then el d i else if k=i then el d j else el d k:=by
 unfold swp;rw [QC (by simpa using hj),QC hi]
theorem HB{d:List α}{i j:Nat}(hi:i<d.length)(hj:j<d.length):(swp d i j).Perm d:=by
 unfold swp;rw [ni hi,ni hj];exact List.set_set_perm hi hj
structure k8(a b:Nat)(d d':List α):Prop where
 len:d'.length=d.length
 out: ∀i,i<a\/b<=i->el d' i=el d i
 perm:d'.Perm d
theorem k8.refl{a b:Nat}(d:List α):k8 a b d d:=⟨rfl,λ_ _=>rfl,List.Perm.refl _⟩
theorem k8.trans{a b:Nat}{d d' d'':List α}(h:k8 a b d d')(k:k8 a b d' d''):k8 a b d d'':=
 ⟨k.len.trans h.len,λi hi=>(k.out i hi).trans (h.out i hi),k.perm.trans h.perm⟩
theorem k8.swp{a b i j:Nat}{d:List α}(h1:a<=i)(h2:i<b)(h3:a<=j)(h4:j<b)(h5:b<=d.length):k8 a b d (swp d i j):=
 ⟨Fj,λk hk=>by rw [Bm (by omega) (by omega),if_neg (by omega),if_neg (by omega)],HB (by omega) (by omega)⟩
end
structure uK{α:Type}(lt:α->α->Bool)(p:α->Prop):Prop where
 irrefl: ∀x,p x->lt x x=false
 trans: ∀x y z,p x->p y->p z->lt x y=true->lt y z=true->lt x z=true
 total: ∀x y,p x->p y->x≠y->lt x y=true\/lt y x=true
theorem uK.asymm{α:Type}{lt:α->α->Bool}{p:α->Prop}(h:uK lt p){x y:α}(hx:p x)(hy:p y)(hl:lt x y=true):lt y x=false:=by
 cases e:lt y x with
 | false=>rfl
 | true=>have:=h.trans x y x hx hy hx hl e;rw [h.irrefl x hx] at this;cases this
theorem uK.ntrans{α:Type}{lt:α->α->Bool}{p:α->Prop}(h:uK lt p){x y z:α}(hx:p x)(hy:p y)(hz:p z)(h1:lt x y=false)(h2:lt y z=false):lt x z=false:=by
 cases e:lt x z with
 | false=>rfl
 | true=>
  rcases Classical.em (x=y) with rfl | jv
  ·rw [h2] at e;cases e
  ·rcases h.total x y hx hy jv with h' | h'
   ·rw [h1] at h';cases h'
   ·have:=h.trans y x z hy hx hz h' e;rw [h2] at this;cases this
def Lb{α:Type}(cmp:α->α->Option Int)(lt:α->α->Bool)(p:α->Prop):Prop:= ∀x y,p x->p y-> ∃r,cmp x y=some r/\decide (r<0)=lt x y
def JU{α:Type}[Inhabited α](p:α->Prop)(d:List α):Prop:= ∀i,i<d.length->p (el d i)
theorem JU.of{α:Type}[Inhabited α]{p:α->Prop}{d:List α}(h: ∀x∈d,p x):JU p d:=λi hi=>h _ (by rw [ni hi];exact qae _)
theorem JU.perm{α:Type}[Inhabited α]{p:α->Prop}{d d':List α}(h:JU p d)(hp:d'.Perm d):JU p d':=by
 refine JU.of λx hx=> ?_;obtain ⟨i,hi,e⟩:=qan.1 (hp.mem_iff.1 hx);rw [←e, ←ni hi];exact h i hi
def Asc{α:Type}[Inhabited α](lt:α->α->Bool)(a b:Nat)(d:List α):Prop:= ∀i j,a<=i->i<j->j<b->lt (el d j) (el d i)=false
end Go.Vs
namespace Go.Vs
theorem Bn{j:Nat}(h:1<=j)(h2:j<4000000000000000000):av ((j:Int) - 1)=((j - 1:Nat):Int):=by rw [aT (by omega) (by omega)];omega
section
variable{α:Type}{cmp:α->α->Option Int}{lt:α->α->Bool}{p:α->Prop}
theorem QD(hc:Lb cmp lt p){x y:α}(hx:p x)(hy:p y):(cmp x y).bind (λr=>some (decide (r<0)))=some (lt x y):=by
 obtain ⟨r,h1,h2⟩:=hc x y hx hy;rw [h1,qa0,h2]
end
section
variable{α:Type}[Inhabited α]{cmp:α->α->Option Int}{lt:α->α->Bool}{p:α->Prop}
theorem HC{d:List α}{i j:Nat}{x:α}(hj:j<d.length):aZ (d.set i x) (j:Int)=some (el (d.set i x) j):=qh (by simpa using hj)
theorem Ul(d:List α)(i j:Nat):(d.set i (el d j)).set j (el d i)=swp d i j:=rfl
theorem M9(hc:Lb cmp lt p)(hl:uK lt p){a i:Nat}{d0:List α}(hi:i<d0.length)(hn:d0.length<1000000000)(hp:JU p d0): ∀(d:List α) (j:Nat),a<=j->j<=i->k8 a (i+1) d0 d->
   (∀x y,a<=x->x<y->y<=i->x≠j->y≠j->lt (el d y) (el d x)=false)->(∀y,j<y->y<=i->lt (el d y) (el d j)=false)->
   ∃d',bT (fun (s7:(List α)×(Int))=>Option.bind ((bif decide ((a:Int)<s7.2) then
  (aZ s7.1 s7.2).bind λzP=>
  (aZ s7.1 (av (s7.2 - 1))).bind λx19=>
  (cmp zP x19).bind λuP=>
  some (decide (uP<0))
 else
  some false)) λns=>
  (bif ns then
  (aZ s7.1 (av (s7.2 - 1))).bind λWu=>
  (aZ s7.1 s7.2).bind λP5=>
  (aZ s7.1 s7.2).bind λx48=>
  (aZ (s7.1.set s7.2.toNat Wu) (av (s7.2 - 1))).bind λK1=>
  some (.inl (((s7.1.set s7.2.toNat Wu).set (av (s7.2 - 1)).toNat P5),av (s7.2 - 1)))
 else
  some (.inr s7.1))) (d,(j:Int))=some d'/\k8 a (i+1) d0 d'/\Asc lt a (i+1) d':=by
  intro d j
  induction j generalizing d with
  | zero=>
   intro ha _ hP h1 h2;have e1:decide ((a:Int)<((0:Nat):Int))=false:=decide_eq_false (by omega);rw [bz];simp only [e1,cond_false,qa0,bb];refine ⟨d,rfl,hP,λx y hx Ko hy=> ?_⟩;by_cases hx0:x=0
   ·subst hx0;exact h2 y Ko (by omega)
   ·exact h1 x y hx Ko (by omega) hx0 (by omega)
  | succ j ih=>
   intro ha hji hP h1 h2;have hlen:=hP.len;have YQ:=hp.perm hP.perm;have ej:av (((j+1:Nat):Int) - 1)=(j:Int):=Bn (by omega) (by omega);rw [bz];by_cases haj:a<j+1
   ·have e1:decide ((a:Int)<((j+1:Nat):Int))=true:=decide_eq_true (by omega);simp only [e1,cond_true,ej,qh (d:=d) (i:=j+1) (by omega),qh (d:=d) (i:=j) (by omega),qa0,QD hc (YQ (j+1) (by omega)) (YQ j (by omega))];cases bs:lt (el d (j+1)) (el d j) with
    | true=>
     simp only [cond_true,HC (d:=d) (i:=j+1) (j:=j) (x:=el d j) (by omega),qa0,qal,Ul,bb];have sw: ∀k,el (swp d (j+1) j) k=if k=j then el d (j+1) else if k=j+1 then el d j else el d k:=λk=>Bm (by omega) (by omega)
     refine ih (swp d (j+1) j) (by omega) (by omega) (hP.trans (k8.swp (by omega) (by omega) (by omega) (by omega) (by omega))) ?_ ?_
     ·intro x y hx Ko hy hxj hyj;rw [sw,sw,if_neg hyj,if_neg hxj];by_cases JV:y=j+1
      ·subst JV;rw [if_pos rfl,if_neg (by omega)];exact h1 x j hx (by omega) (by omega) (by omega) (by omega)
      ·rw [if_neg JV];by_cases YR:x=j+1
       ·subst YR;rw [if_pos rfl];exact h1 j y (by omega) (by omega) hy (by omega) JV
       ·rw [if_neg YR];exact h1 x y hx Ko hy YR JV
     ·intro y hy hyi;rw [sw,sw,if_neg (by omega),if_pos rfl];by_cases JV:y=j+1
      ·subst JV;rw [if_pos rfl];exact hl.asymm (YQ _ (by omega)) (YQ _ (by omega)) bs
      ·rw [if_neg JV];exact h2 y (by omega) hyi
    | false=>
     simp only [cond_false,bb];refine ⟨d,rfl,hP,λx y hx Ko hy=> ?_⟩;by_cases hxj:x=j+1
     ·subst hxj;exact h2 y Ko (by omega)
     ·by_cases hyj:y=j+1
      ·subst hyj;by_cases agu:x=j
       ·subst agu;exact bs
       ·exact hl.ntrans (YQ _ (by omega)) (YQ j (by omega)) (YQ _ (by omega)) bs (h1 x j hx (by omega) (by omega) hxj (by omega))
      ·exact h1 x y hx Ko (by omega) hxj hyj
   ·have e1:decide ((a:Int)<((j+1:Nat):Int))=false:=decide_eq_false (by omega);have:a=j+1:=by omega
    simp only [e1,cond_false,qa0,bb];refine ⟨d,rfl,hP,λx y hx Ko hy=> ?_⟩;by_cases hx0:x=j+1
    ·subst hx0;exact h2 y Ko (by omega)
    ·exact h1 x y hx Ko (by omega) hx0 (by omega)
end
end Go.Vs
namespace Go.Vs
end Go.Vs
namespace Go.Vs
theorem Um{S R U:Type}{f:S->Option (S⊕R)}(J:S->Prop)(μ:S->Nat)(Z:R->Prop)(step: ∀s,J s->(∃s',f s=some (.inl s')/\J s'/\μ s'<μ s)\/ ∃r,f s=some (.inr r)/\Z r){s:S}(hs:J s){c:R->Option U}{P:U->Prop}
  (hk: ∀r,Z r-> ∃u,c r=some u/\P u): ∃u,(bT f s).bind c=some u/\P u:=by
 obtain ⟨r,h1,h2⟩:=Mq J μ Z step s hs;obtain ⟨u,h3,h4⟩:=hk r h2;exact ⟨u,by rw [h1];exact h3,h4⟩
end Go.Vs
namespace Go.Vs
end Go.Vs
namespace Go.Vs
abbrev cJ:=Int×Int
def ku(x y:cJ):Bool:=decide (x.2<y.2\/x.2=y.2/\x.1<y.1)
theorem sg{x y:cJ}:ku x y=true↔x.2<y.2\/x.2=y.2/\x.1<y.1:=by simp [ku]
theorem uC{x y:cJ}:ku x y=false↔ ¬(x.2<y.2\/x.2=y.2/\x.1<y.1):=by simp [ku]
theorem pa:uK ku (λ_=>True) where
 irrefl x _:=by rw [uC];omega
 trans x y z _ _ _ h1 h2:=by rw [sg] at *; omega
 total x y _ _ h:=by
  rw [sg,sg];by_cases e:x.2=y.2
  ·have:x.1≠y.1:=λe2=>h (Prod.ext e2 e);omega
  ·omega
theorem QE(a b:Int):M.oN [a,b]=some (if a=0 then b else a):=by
 unfold M.oN;by_cases ha:a=0
 ·subst ha;by_cases hb:b=0
  ·subst hb;rw [bz];have e0:decide ((0:Int)<(([0,0]:List Int).length:Int))=true:=rfl;have g0:aZ ([0,0]:List Int) 0=some 0:=rfl;have w0:av ((0:Int)+1)=1:=rfl;have e1:decide ((1:Int)<(([0,0]:List Int).length:Int))=true:=rfl;have g1:aZ ([0,0]:List Int) 1=some 0:=rfl;have w1:av ((1:Int)+1)=2:=rfl;have e2:decide ((2:Int)<(([0,0]:List Int).length:Int))=false:=rfl;simp only [e0,cond_true,g0,qa0,bne_self_eq_false,cond_false,w0,bb];rw [bz];simp only [e1,cond_true,g1,qa0,bne_self_eq_false,cond_false,w1,bb];rw [bz];simp only [e2,cond_false,qa0,bb,if_true]
  ·rw [bz];have e0:decide ((0:Int)<(([0,b]:List Int).length:Int))=true:=rfl;have g0:aZ ([0,b]:List Int) 0=some 0:=rfl;have w0:av ((0:Int)+1)=1:=rfl;have e1:decide ((1:Int)<(([0,b]:List Int).length:Int))=true:=rfl;have g1:aZ ([0,b]:List Int) 1=some b:=rfl;simp only [e0,cond_true,g0,qa0,bne_self_eq_false,cond_false,w0,bb];rw [bz];have eU:(b != 0)=true:=by simpa using hb
   simp only [e1,cond_true,g1,qa0,eU,bb,if_true]
 ·rw [bz];have e0:decide ((0:Int)<(([a,b]:List Int).length:Int))=true:=rfl;have g0:aZ ([a,b]:List Int) 0=some a:=rfl;have ha':(a != 0)=true:=by simpa using ha
  simp only [e0,cond_true,g0,qa0,ha',bb,if_neg ha]
theorem pd(x y:cJ): ∃r,M.cS (x.1,x.2) (y.1,y.2)=some r/\decide (r<0)=ku x y/\decide (0<r)=ku y x:=by
 unfold M.cS;simp only [JR,qa0,QE];refine ⟨_,rfl, ?_, ?_⟩
 ·unfold ku;apply decide_eq_decide.2;by_cases h:CE x.2 y.2=0
  ·rw [if_pos h,Hw];rw [uB] at h;omega
  ·rw [if_neg h,Hw];rw [uB] at h;omega
 ·unfold ku;apply decide_eq_decide.2;by_cases h:CE x.2 y.2=0
  ·rw [if_pos h,Hx];rw [uB] at h;omega
  ·rw [if_neg h,Hx];rw [uB] at h;omega
theorem Bo:Lb Fi ku (λ_=>True):=λx y _ _=>by
 obtain ⟨r,h1,h2,_⟩:=pd x y;exact ⟨r,h1,h2⟩
theorem zR{h:List cJ}{i j:Nat}(hi:i<h.length)(hj:j<h.length):M.dE h (i:Int) (j:Int)=some (ku (el h j) (el h i)):=by
 unfold M.dE;obtain ⟨r,h1,_,h3⟩:=pd (el h i) (el h j);simp only [qh hi,qh hj,qa0,h1,h3]
theorem Fl{h:List cJ}{i j:Nat}(hi:i<h.length)(hj:j<h.length):M.eI h (i:Int) (j:Int)=some (swp h i j):=by
 unfold M.eI;simp only [qh hi,qh hj,qa0,qal,HC (d:=h) (i:=i) (j:=j) hj]
 rfl
def HP(n:Nat)(h:List cJ):Prop:= ∀i,0<i->i<n->ku (el h ((i - 1) / 2)) (el h i)=false
theorem Na{h0:List cJ}(hn:h0.length<1000000000): ∀(m:Nat) (h:List cJ) (j:Nat),j=m->j<h0.length->k8 0 h0.length h0 h->
  (∀i,0<i->i<h0.length->i≠j->ku (el h ((i - 1) / 2)) (el h i)=false)->(∀i,0<i->i<h0.length->0<j->(i - 1) / 2=j->ku (el h ((j - 1) / 2)) (el h i)=false)->
  ∃h',M.bh h (j:Int)=some h'/\k8 0 h0.length h0 h'/\HP h0.length h':=by
 intro m
 induction m using Nat.strongRecOn with
 | _ m ih=>
  intro h j hjm hj hP h1 h2;have hlen:=hP.len;by_cases hj0:j=0
  ·subst hj0;unfold M.bh;rw [bz];have e:(av ((av (((0:Nat):Int) - 1)).tdiv 2)==((0:Nat):Int))=true:=rfl;simp only [e,cond_true,qa0,bb];exact ⟨h,rfl,hP,λi uw yK=>h1 i uw yK (by omega)⟩
  ·have ep:av ((av ((j:Int) - 1)).tdiv 2)=(((j - 1) / 2:Nat):Int):=by
    rw [Bn (by omega) (by omega),Int.tdiv_eq_ediv_of_nonneg (by omega),aT (by omega) (by omega)];omega
   have ene:((((j - 1) / 2:Nat):Int)==(j:Int))=false:=beq_eq_false_iff_ne.2 (by omega);have hlp:(j - 1) / 2<h.length:=by omega
   cases bs:ku (el h ((j - 1) / 2)) (el h j) with
   | false=>
    unfold M.bh;rw [bz];simp only [ep,ene,cond_false,zR (h:=h) (i:=j) (j:=(j - 1) / 2) (by omega) hlp,qa0,bs,Bool.not_false,cond_true,bb];refine ⟨h,rfl,hP,λi uw yK=> ?_⟩;by_cases pV:i=j
    ·subst pV;exact bs
    ·exact h1 i uw yK pV
   | true=>
    have sw: ∀k,el (swp h ((j - 1) / 2) j) k=if k=j then el h ((j - 1) / 2) else if k=(j - 1) / 2 then el h j else el h k:=λk=>Bm hlp (by omega)
    have iV:M.bh h (j:Int)=M.bh (swp h ((j - 1) / 2) j) (((j - 1) / 2:Nat):Int):=by
     conv=>lhs;unfold M.bh
     rw [bz];simp only [ep,ene,cond_false,zR (h:=h) (i:=j) (j:=(j - 1) / 2) (by omega) hlp,qa0,bs,qai,cond_false,Fl (h:=h) (i:=(j - 1) / 2) (j:=j) hlp (by omega),bb]
     rfl
    rw [iV];have asy:=pa.asymm trivial trivial bs;refine ih ((j - 1) / 2) (by omega) _ _ rfl (by omega) (hP.trans (k8.swp (by omega) (by omega) (by omega) (by omega) (by omega))) ?_ ?_
    ·intro i uw yK hip;rw [sw,sw];by_cases pV:i=j
     ·subst pV;rw [if_pos rfl,if_neg (by omega),if_pos rfl];exact asy
     ·rw [if_neg pV,if_neg hip];by_cases hpj:(i - 1) / 2=j
      ·rw [if_pos hpj];exact h2 i uw yK (by omega) hpj
      ·rw [if_neg hpj];by_cases XF:(i - 1) / 2=(j - 1) / 2
       ·rw [if_pos XF];have:=h1 i uw yK pV;rw [XF] at this;exact pa.ntrans trivial trivial trivial asy this
       ·rw [if_neg XF];exact h1 i uw yK pV
    ·intro i uw yK hp0 hpi;have acC:=h1 ((j - 1) / 2) hp0 (by omega) (by omega);rw [sw,sw,if_neg (by omega),if_neg (by omega)];by_cases pV:i=j
     ·subst pV;rw [if_pos rfl];exact acC
     ·rw [if_neg pV,if_neg (by omega)];have:=h1 i uw yK pV;rw [hpi] at this;exact pa.ntrans trivial trivial trivial acC this
theorem Un{h:List cJ}(hn:h.length<1000000)(hh:HP h.length h)(x:cJ): ∃h',M.bC h (x.1,x.2)=some h'/\h'.Perm (x::h)/\HP h'.length h':=by
 unfold M.bC M.eo M.gq;rw [mS (by simp;omega)];have hl:(h++[(x.1,x.2)]).length=h.length+1:=by simp
 have e:av (((h++[(x.1,x.2)]).length:Int) - 1)=(h.length:Int):=by rw [hl,aT (by omega) (by omega)];omega
 simp only [qa0,e];have ea: ∀k,k<h.length->el (h++[(x.1,x.2)]) k=el h k:=λk hk=>by
  rw [ni (by omega),ni hk,qb1 hk]
 obtain ⟨h',h1,h2,h3⟩:=Na (h0:=h++[(x.1,x.2)]) (by omega) h.length _ h.length rfl (by omega) (k8.refl _)
  (λi uw yK jv=>by rw [ea _ (by omega),ea _ (by omega)];exact hh i uw (by omega)) (λi uw yK _ hpi=>by omega)
 rw [h1];refine ⟨h',rfl,h2.perm.trans ?_,by rw [h2.len];exact h3⟩;exact qc5 (l₁:=h) (l₂:=[x])
theorem HP.top{n:Nat}{h:List cJ}(hh:HP n h): ∀i,i<n->ku (el h 0) (el h i)=false:=by
 intro i
 induction i using Nat.strongRecOn with
 | _ i ih=>
  intro hi;by_cases h0:i=0
  ·subst h0;exact pa.irrefl _ trivial
  ·exact pa.ntrans trivial trivial trivial (ih ((i - 1) / 2) (by omega) (by omega)) (hh i (by omega) hi)
theorem HD{h0:List cJ}{n:Nat}(hn:h0.length<1000000)(W7:n<=h0.length): ∃r,M.cC h0 0 (n:Int)=some r/\
  ((∀k,0<k->k<n->(k - 1) / 2≠0->ku (el h0 ((k - 1) / 2)) (el h0 k)=false)->k8 0 n h0 r.2/\HP n r.2):=by
 unfold M.cC;refine Um (λs=> ∃(h:List cJ) (i:Nat),s=(h,(i:Int))/\i<=h0.length/\h.length=h0.length/\((∀k,0<k->k<n->(k - 1) / 2≠0->ku (el h0 ((k - 1) / 2)) (el h0 k)=false)->k8 0 n h0 h/\
   (∀k,0<k->k<n->(k - 1) / 2≠i->ku (el h ((k - 1) / 2)) (el h k)=false)/\(∀k,0<k->k<n->0<i->(k - 1) / 2=i->ku (el h ((i - 1) / 2)) (el h k)=false))) (λs=>((h0.length:Int) - s.2).toNat)
  (λr=>(∀k,0<k->k<n->(k - 1) / 2≠0->ku (el h0 ((k - 1) / 2)) (el h0 k)=false)->k8 0 n h0 r.1/\HP n r.1) ?_
  ⟨h0,0,rfl,by omega,rfl,λhh=>⟨k8.refl _,λk h1 h2 h3=>hh k h1 h2 h3,λk _ _ h=>absurd h (qc0 _)⟩⟩ (λr hr=>⟨_,rfl,hr⟩)
 rintro _ ⟨h,i,rfl,hi,hlen,hJ⟩;have e1:av ((av (2*(i:Int)))+1)=((2*i+1:Nat):Int):=by rw [aT (n:=2*(i:Int)) (by omega) (by omega),aT (by omega) (by omega)];omega
 have e2:av (((2*i+1:Nat):Int)+1)=((2*i+2:Nat):Int):=by rw [aT (by omega) (by omega)];omega
 simp only [e1,e2];by_cases hc:n<=2*i+1
 ·right;have e3:decide ((n:Int)<=((2*i+1:Nat):Int))=true:=decide_eq_true (by omega);refine ⟨(h,(i:Int)),by simp only [e3,cond_true,qa0],λhh=> ?_⟩;obtain ⟨j1,j2,j3⟩:=hJ hh;exact ⟨j1,λk k1 k2=>j2 k k1 k2 (by omega)⟩
 ·have e3:decide ((n:Int)<=((2*i+1:Nat):Int))=false:=decide_eq_false (by omega);have e4:decide (((2*i+1:Nat):Int)<0)=false:=decide_eq_false (by omega);obtain ⟨j,hj1,Xu,hj3,hj4⟩: ∃j:Nat,(Option.bind ((bif decide (((2*i+2:Nat):Int)<(n:Int)) then (M.dE h ((2*i+2:Nat):Int) ((2*i+1:Nat):Int)).bind λuO=>some uO else some false)) λns=>(bif ns then some ((2*i+2:Nat):Int) else some ((2*i+1:Nat):Int)))=some (j:Int)/\(j - 1) / 2=i/\(0<j/\j<n)/\(∀k,0<k->k<n->(k - 1) / 2=i->ku (el h j) (el h k)=false):=by
   by_cases RY:2*i+2<n
   ·have e5:decide (((2*i+2:Nat):Int)<(n:Int))=true:=decide_eq_true (by omega);simp only [e5,cond_true,zR (h:=h) (i:=2*i+2) (j:=2*i+1) (by omega) (by omega),qa0];cases bs:ku (el h (2*i+1)) (el h (2*i+2)) with
    | true=>
     refine ⟨2*i+2,rfl,by omega,by omega,λk k1 k2 k3=> ?_⟩;rcases (show k=2*i+1\/k=2*i+2 by omega) with rfl | rfl
     ·exact pa.asymm trivial trivial bs
     ·exact pa.irrefl _ trivial
    | false=>
     refine ⟨2*i+1,rfl,by omega,by omega,λk k1 k2 k3=> ?_⟩;rcases (show k=2*i+1\/k=2*i+2 by omega) with rfl | rfl
     ·exact pa.irrefl _ trivial
     ·exact bs
   ·have e5:decide (((2*i+2:Nat):Int)<(n:Int))=false:=decide_eq_false (by omega);simp only [e5,cond_false,qa0];refine ⟨2*i+1,rfl,by omega,by omega,λk k1 k2 k3=> ?_⟩;have:k=2*i+1:=by omega
    subst this;exact pa.irrefl _ trivial
  have hrw: ∀{β:Type} (g:Int->Option β),(Option.bind ((bif decide (((2*i+2:Nat):Int)<(n:Int)) then (M.dE h ((2*i+2:Nat):Int) ((2*i+1:Nat):Int)).bind λuO=>some uO else some false)) λns=>Option.bind (bif ns then some ((2*i+2:Nat):Int) else some ((2*i+1:Nat):Int)) g)=g (j:Int):=by
   intro β g;rw [←Option.bind_assoc,hj1];rfl
  simp only [e3,cond_false,e4,qa0];rw [hrw];simp only [zR (h:=h) (i:=j) (j:=i) (by omega) (by omega),qa0];cases bs:ku (el h i) (el h j) with
  | false=>
   right;refine ⟨(h,(i:Int)),by simp only [Bool.not_false,cond_true],λhh=> ?_⟩;obtain ⟨j1,j2,j3⟩:=hJ hh;refine ⟨j1,λk k1 k2=> ?_⟩;by_cases hk:(k - 1) / 2=i
   ·rw [hk];exact pa.ntrans trivial trivial trivial bs (hj4 k k1 k2 hk)
   ·exact j2 k k1 k2 hk
  | true=>
   left;have sw: ∀k,el (swp h i j) k=if k=j then el h i else if k=i then el h j else el h k:=λk=>Bm (by omega) (by omega)
   refine ⟨(swp h i j,(j:Int)),by simp only [qai,cond_false,Fl (h:=h) (i:=i) (j:=j) (by omega) (by omega),qa0],⟨swp h i j,j,rfl,by omega,by rw [Fj];exact hlen,λhh=> ?_⟩,by simp only;omega⟩;obtain ⟨j1,j2,j3⟩:=hJ hh;have asy:=pa.asymm trivial trivial bs;refine ⟨j1.trans (k8.swp (by omega) (by omega) (by omega) (by omega) (by omega)),λk k1 k2 k3=> ?_,λk k1 k2 k3 k4=> ?_⟩
   ·rw [sw,sw,if_neg k3];by_cases hkj:k=j
    ·subst hkj;rw [if_pos rfl,if_pos Xu];exact asy
    ·rw [if_neg hkj];by_cases hki:k=i
     ·subst hki;rw [if_pos rfl,if_neg (by omega)];exact j3 j (by omega) (by omega) (by omega) Xu
     ·rw [if_neg hki];by_cases hp:(k - 1) / 2=i
      ·rw [if_pos hp];exact hj4 k k1 k2 hp
      ·rw [if_neg hp];exact j2 k k1 k2 hp
   ·rw [sw,sw,if_neg (by omega),if_pos Xu,if_neg (by omega),if_neg (by omega)];have:=j2 k k1 k2 (by omega);rw [k4] at this;exact this
end Go.Vs
namespace Go.Vs
def kH(x:cJ):List cJ->List cJ
 | []=>[x]
 | y::r=>if ku x y then x::y::r else y::kH x r
def xh(l:List cJ):Prop:=l.Pairwise λx y=>ku y x=false
theorem rm(x:cJ)(l:List cJ):(kH x l).Perm (x::l):=by
 induction l with
 | nil=>exact List.Perm.refl _
 | cons y r ih=>
  unfold kH;split
  ·exact List.Perm.refl _
  ·exact (List.Perm.cons y ih).trans (List.Perm.swap x y r)
theorem Bp{x:cJ}{l:List cJ}(h:xh l):xh (kH x l):=by
 induction l with
 | nil=>exact List.pairwise_singleton _ _
 | cons y r ih=>
  obtain ⟨h1,h2⟩:=List.pairwise_cons.1 h;unfold kH;split
  ·rename_i bs;refine List.pairwise_cons.2 ⟨λz hz=> ?_,h⟩;rcases qad.1 hz with rfl | hz
   ·exact pa.asymm trivial trivial bs
   ·exact pa.ntrans trivial trivial trivial (h1 z hz) (pa.asymm trivial trivial bs)
  ·rename_i bs;refine List.pairwise_cons.2 ⟨λz hz=> ?_,ih h2⟩;rcases qad.1 ((rm x r).mem_iff.1 hz) with rfl | hz
   ·simpa using bs
   ·exact h1 z hz
theorem si{x y:cJ}(h1:ku x y=false)(h2:ku y x=false):x=y:=by
 rcases Classical.em (x=y) with h | h
 ·exact h
 ·rcases pa.total x y trivial trivial h with h' | h'
  ·rw [h1] at h';cases h'
  ·rw [h2] at h';cases h'
theorem xi{l m:List cJ}(hl:xh l)(hm:xh m)(h:l.Perm m):l=m:=
 List.Perm.eq_of_pairwise (le:=λx y=>ku y x=false) (λ_ _ _ _ h1 h2=>si h2 h1) hl hm h
theorem HE(x:cJ)(l:List cJ):(kH x l).length=l.length+1:=by rw [(rm x l).length_eq];rfl
theorem DJ(x:cJ): ∀(k:Nat) (l:List cJ),(kH x (l.take k)).take k=(kH x l).take k
 | 0,l=>by simp
 | k+1,[]=>by simp
 | k+1,y::r=>by
  rw [qcc];unfold kH;split
  ·rw [qcc,qcc];cases k with
   | zero=>simp
   | succ k=>simp [List.take_take]
  ·rw [qcc,qcc,DJ x k r]
def gB(l:List cJ):List cJ:=l.foldl (λS x=>kH x S) []
theorem ef(l:List cJ):xh (gB l)/\(gB l).Perm l:=by
 have key: ∀(l S:List cJ),xh S->xh (l.foldl (λS x=>kH x S) S)/\(l.foldl (λS x=>kH x S) S).Perm (S++l):=by
  intro l
  induction l with
  | nil=>intro S h;exact ⟨h,by simp⟩
  | cons x r ih=>
   intro S h;obtain ⟨h1,h2⟩:=ih (kH x S) (Bp h);refine ⟨h1,h2.trans ?_⟩;have:=List.Perm.append_right r (rm x S);exact this.trans (List.perm_middle.symm)
 exact key l [] List.Pairwise.nil
theorem JW(l:List cJ)(x:cJ):gB (l++[x])=kH x (gB l):=by simp [gB]
theorem DK(l:List cJ):(gB l).length=l.length:=(ef l).2.length_eq
theorem vP{l m:List cJ}(hm:xh m)(h:m.Perm l):gB l=m:=xi (ef l).1 hm ((ef l).2.trans h.symm)
def cL(k:Nat)(l:List cJ):List cJ:=(gB l).take k
theorem oz(k:Nat)(l:List cJ)(x:cJ):cL k (l++[x])=(kH x (cL k l)).take k:=by
 unfold cL;rw [JW,DJ]
theorem pg(k:Nat)(l:List cJ):xh (cL k l):=(ef l).1.sublist (List.take_sublist _ _)
theorem j5(k:Nat)(l:List cJ):(cL k l).length=min k l.length:=by simp [cL,DK]
theorem Bq(k:Nat)(l:List cJ): ∀x∈cL k l,x∈l:=λx hx=>(ef l).2.mem_iff.1 (List.mem_of_mem_take hx)
theorem YS{h:List cJ}(hn:h.length<1000000)(h1:0<h.length)(hh:HP h.length h): ∃x h',M.cK h=some (x,h')/\(h'++[x]).Perm h/\HP h'.length h'/\ ∀y∈h,ku x y=false:=by
 unfold M.cK M.gq;have el1:av ((h.length:Int) - 1)=((h.length - 1:Nat):Int):=Bn h1 (by omega);have e0:(0:Int)=((0:Nat):Int):=rfl;simp only [qa0,el1];rw [e0,Fl h1 (by omega)];simp only [qa0];have hs:(swp h 0 (h.length - 1)).length=h.length:=Fj;obtain ⟨r,hr,hJ⟩:=HD (h0:=swp h 0 (h.length - 1)) (n:=h.length - 1) (by omega) (by omega);have sw: ∀k,el (swp h 0 (h.length - 1)) k=if k=h.length - 1 then el h 0 else if k=0 then el h (h.length - 1) else el h k:=λk=>Bm h1 (by omega)
 obtain ⟨j1,j2⟩:=hJ (λk k1 k2 k3=>by
  rw [sw,sw,if_neg (by omega),if_neg k3,if_neg (by omega),if_neg (by omega)];exact hh k k1 (by omega))
 rw [←e0,hr];simp only [qa0];unfold M.kh;have cP:r.2.length=h.length:=by rw [j1.len,hs]
 have el2:av ((r.2.length:Int) - 1)=((h.length - 1:Nat):Int):=by rw [cP];exact el1
 have Wv:el r.2 (h.length - 1)=el h 0:=by rw [j1.out _ (by omega),sw,if_pos rfl]
 rw [el2,qh (by omega),ou (by omega) (by omega) (by omega)];simp only [qa0,qal,Wv,Int.toNat_zero,qce];refine ⟨_,_,rfl, ?_, ?_, ?_⟩
 ·have:r.2.take (h.length - 1)++[el h 0]=r.2:=by
   have:=qas (l:=r.2) (i:=h.length - 1) (by omega);rw [←ni (by omega),Wv,show h.length - 1+1=r.2.length by omega,qbu] at this;exact this.symm
  show (r.2.take (h.length - 1)++[el h 0]).Perm h;rw [this];exact j1.perm.trans (HB h1 (by omega))
 ·have ht:(r.2.take (h.length - 1)).length=h.length - 1:=by simp;omega
  rw [ht];intro i i1 i2;have e: ∀k,k<h.length - 1->el (r.2.take (h.length - 1)) k=el r.2 k:=λk hk=>by
   rw [ni (by omega),ni (by omega),qca]
  rw [e _ (by omega),e _ (by omega)];exact j2 i i1 i2
 ·intro y hy;obtain ⟨i,hi,rfl⟩:=qan.1 hy;rw [←ni hi];exact hh.top i hi
theorem QF{T kept:List cJ}{k:Nat}(hk:k<=1000)(hT:xh T)(hTk:T.length<=k)(hh:HP kept.length kept)(hp:kept.Perm T)(x:cJ):
  ∃rn,M.dh ((k:Int),kept) (x.1,x.2)=some ((k:Int),rn)/\HP rn.length rn/\rn.Perm ((kH x T).take k):=by
 unfold M.dh;have Ji:=hp.length_eq;obtain ⟨k1,h1,h2,h3⟩:=Un (h:=kept) (by omega) hh x;simp only [h1,qa0];have uI:k1.length=T.length+1:=by rw [h2.length_eq];simp [Ji]
 have hp1:k1.Perm (kH x T):=h2.trans ((List.Perm.cons x hp).trans (rm x T).symm);have VP:=HE x T;by_cases hc:k<k1.length
 ·have e1:decide ((k:Int)<(k1.length:Int))=true:=decide_eq_true (by omega);obtain ⟨mx,k2,g1,g2,g3,g4⟩:=YS (h:=k1) (by omega) (by omega) h3;simp only [e1,cond_true,g1,qa0];refine ⟨k2,rfl,g3, ?_⟩;have hI:=Bp (x:=x) hT;have jv:kH x T≠[]:=by intro e;rw [e] at VP;simp at VP
  have hdl:kH x T=(kH x T).take k++[(kH x T).getLast jv]:=by
   have h:=List.dropLast_concat_getLast jv;rw [List.dropLast_eq_take,show (kH x T).length - 1=k by omega] at h;exact h.symm
  have LN:mx=(kH x T).getLast jv:=by
   refine si (g4 _ (hp1.mem_iff.2 (List.getLast_mem jv))) ?_;have Mt:mx∈kH x T:=hp1.mem_iff.1 (g2.mem_iff.1 (by simp));rw [hdl] at Mt hI;rcases qag.1 Mt with h | h
   ·exact (List.pairwise_append.1 hI).2.2 _ h _ (by simp)
   ·rw [qaz.1 h];exact pa.irrefl _ trivial
  have:=(g2.trans hp1);rw [hdl, ←LN] at this;exact (List.perm_append_right_iff _).1 this
 ·have e1:decide ((k:Int)<(k1.length:Int))=false:=decide_eq_false (by omega);simp only [e1,cond_false];refine ⟨k1,rfl,h3, ?_⟩;rw [qbo (by omega)];exact hp1
theorem JX{T kept:List cJ}(hT:xh T)(hp:kept.Perm T)(Is:T.Nodup)(hl:T.length<=16)(k:Int):M.dS (k,kept)=some T:=by
 unfold M.dS M.aL M.bg M.bm M.cW M.aU;have Ji:=hp.length_eq;have OF:M.xQ kept=some kept:=by unfold M.xQ;rw [if_pos (by omega)]
 simp only [qa0,OF];obtain ⟨d',h1,h2,h3⟩:=GX (cmp:=Fi) (lt:=ku) (xs:=kept) (by omega) (λx _ y _=>Bo x y trivial trivial) (λx _=>pa.irrefl x trivial) (λx _ y _ z _=>pa.trans x y z trivial trivial trivial) (λx _ y _=>pa.total x y trivial trivial);rw [h1];simp only [qa0];exact congrArg some (xi h3 hT (h2.trans hp))
theorem DL(x y:cJ):M.iG (x.1,x.2) (y.1,y.2)=some (ku x y):=by
 unfold M.iG ku;by_cases h1:x.2<y.2
 ·simp [h1]
 ·by_cases h2:x.2=y.2
  ·simp [h2]
  ·have h3:(x.2==y.2)=false:=beq_eq_false_iff_ne.2 h2;simp [h1,h2,h3]
def YT:cJ->cJ->Option Int:=λx y=>some (if ku x y then -1 else 0)
theorem Ld:Lb YT ku (λ_=>True):=λx y _ _=>⟨_,rfl,by cases h:ku x y <;> simp⟩
theorem yx{S:List cJ}{k:Nat}(hS:xh S)(hl:S.length<=1000)(hk:k<=1000)(x:cJ):M.jR S (x.1,x.2) (k:Int)=some ((kH x S).take k):=by
  unfold M.jR;rw [mS (by simp;omega)];simp only [qa0,qb8];rw [mS (by simp;omega)];simp only [qa0];have hlen:(S++[(x.1,x.2)]).length=S.length+1:=by simp
  have e1:av (((S++[(x.1,x.2)]).length:Int) - 1)=(S.length:Int):=by rw [hlen,aT (by omega) (by omega)];omega
  have hf:(fun (fV:(List (Int×Int))×(Int))=>Option.bind ((bif decide (0<fV.2) then
  (aZ fV.1 fV.2).bind λCi=>
  (aZ fV.1 (av (fV.2 - 1))).bind λvX=>
  (M.iG (Ci.1,Ci.2) (vX.1,vX.2)).bind λr37=>
  some r37
 else
  some false)) λCj=>
  (bif Cj then
  (aZ fV.1 fV.2).bind λX2=>
  (aZ fV.1 (av (fV.2 - 1))).bind λK1=>
  (aZ fV.1 fV.2).bind λX3=>
  (aZ (fV.1.set fV.2.toNat (K1.1,K1.2)) (av (fV.2 - 1))).bind λx68=>
  some (.inl (((fV.1.set fV.2.toNat (K1.1,K1.2)).set (av (fV.2 - 1)).toNat (X2.1,X2.2)),av (fV.2 - 1)))
 else
  some (.inr fV.1):Option ((List cJ×Int)⊕List cJ)))=(fun (s7:(List cJ)×(Int))=>Option.bind ((bif decide (((0:Nat):Int)<s7.2) then
  (aZ s7.1 s7.2).bind λzP=>
  (aZ s7.1 (av (s7.2 - 1))).bind λx19=>
  (YT zP x19).bind λuP=>
  some (decide (uP<0))
 else
  some false)) λns=>
  (bif ns then
  (aZ s7.1 (av (s7.2 - 1))).bind λWu=>
  (aZ s7.1 s7.2).bind λP5=>
  (aZ s7.1 s7.2).bind λx48=>
  (aZ (s7.1.set s7.2.toNat Wu) (av (s7.2 - 1))).bind λK1=>
  some (.inl (((s7.1.set s7.2.toNat Wu).set (av (s7.2 - 1)).toNat P5),av (s7.2 - 1)))
 else
  some (.inr s7.1))):=by
   funext s;have ec: ∀a b:cJ,((M.iG (a.1,a.2) (b.1,b.2)).bind λr37=>some r37)=((YT a b).bind λuP=>some (decide (uP<0))):=by
    intro a b;rw [DL,QD Ld trivial trivial];rfl
   have ec2: ∀(a:Option cJ) (b:Option cJ) (c:Option cJ) (g:cJ->Option cJ) (F:cJ->cJ->Option ((List cJ×Int)⊕List cJ)),(a.bind λX2=>b.bind λK1=>c.bind λX3=>(g K1).bind λ_=>F K1 X2)=(b.bind λWu=>a.bind λP5=>c.bind λx48=>(g Wu).bind λ_=>F Wu P5):=by
    intro a b c g F;cases a <;> cases b <;> rfl
   simp only [ec,qbn];congr 1;funext o;cases o with
   | false=>rfl
   | true=>exact ec2 (aZ s.1 s.2) (aZ s.1 (av (s.2 - 1))) (aZ s.1 s.2) (λy=>aZ (s.1.set s.2.toNat y) (av (s.2 - 1))) (λy z=>some (.inl (((s.1.set s.2.toNat y).set (av (s.2 - 1)).toNat z),av (s.2 - 1))))
  rw [hf,e1];have ea: ∀i,i<S.length->el (S++[(x.1,x.2)]) i=el S i:=λi hi=>by rw [ni (by omega),ni hi,qb1 hi]
  obtain ⟨d',h1,h2,h3⟩:=M9 Ld pa (a:=0) (i:=S.length) (d0:=S++[(x.1,x.2)]) (by omega) (by omega) (λ_ _=>trivial) (S++[(x.1,x.2)]) S.length (qaa _) (qa3 _) (k8.refl _)
   (λu v _ huv hv tj BU=>by
    rw [ea u (by omega),ea v (by omega),ni (by omega),ni (by omega)];exact qb0.1 hS u v _ _ huv) (λy h h'=>by omega)
  rw [h1];have hdl:d'.length=S.length+1:=by rw [h2.len,hlen]
  have agv:xh d':=by
   refine qb0.2 λi j hi hj pV=> ?_;have:=h3 i j (qaa _) pV (by omega);rwa [ni hi,ni hj] at this
  have hd:d'=kH x S:=xi agv (Bp hS) (h2.perm.trans ((qc5 (l₁:=S) (l₂:=[x])).trans (rm x S).symm));have VP:=HE x S;simp only [qa0];rw [hd,ou (by omega) (by omega) (by omega)];simp only [qa0,Int.toNat_zero,qce,qac];by_cases hc:k<=(kH x S).length
  ·rw [show (min (k:Int) ((kH x S).length:Int)).toNat=k by omega]
  ·rw [show (min (k:Int) ((kH x S).length:Int)).toNat=(kH x S).length by omega,qbu,qbo (by omega)]
def bW(l:List Item)(kind:Int)(at_:List Int):List cJ:=l.map λx=>(x.1,vO kind x.2.1 at_)
theorem JY{l:List Item}{kind:Int}{at_:List Int}:(bW l kind at_).length=l.length:=by simp [bW]
theorem Fo{l:List Item}{kind:Int}{at_:List Int}(hp:l.Pairwise (λx y=>x.1<y.1)):(bW l kind at_).Nodup:=by
 unfold bW List.Nodup;rw [List.pairwise_map];refine hp.imp λh e=> ?_;have:=congrArg Prod.fst e;simp only at this;omega
theorem sn{k:Nat}{l:List cJ}(h:l.Nodup):(cL k l).Nodup:=by
 unfold cL;exact (List.take_sublist _ _).nodup ((ef l).2.nodup_iff.2 h)
theorem HG{l:List Item}{kind:Int}{at_:List Int}{i:Nat}(hi:i<l.length):bW (l.take (i+1)) kind at_=bW (l.take i) kind at_++[(l[i].1,vO kind l[i].2.1 at_)]:=by
 unfold bW;rw [qas hi,qbr];rfl
def eL(l:List Item)(kind:Int)(at_:List Int):Bool:=fi l&&isKind kind&&fx at_
def pj(l:List Item)(kind:Int)(at_:List Int)(k:Int):List cJ:=if eL l kind at_=true/\1<=k/\k<=16 then cL k.toNat (bW l kind at_) else []
theorem iH{l:List Item}{kind:Int}{at_:List Int}:eL l kind at_=true↔fi l=true/\isKind kind=true/\fx at_=true:=by simp [eL,and_assoc]
theorem Fp{l:List Item}{kind:Int}{at_:List Int}{k:Nat}(YU: ∀x∈l,fx x.2.1=true)(qi:isKind kind=true)(hv:fx at_=true)(hlen:l.length<=1000)(hk:k<=1000):M.ki l kind at_ (k:Int)=some (cL k (bW l kind at_)):=by
 unfold M.ki;refine oy (xs:=l) (fun (s:List cJ) i=>(s,i)) (λs x=>(kH (x.1,vO kind x.2.1 at_) s).take k) (λi s=>s=cL k (bW (l.take i) kind at_)) (λs=>s) (s0:=[]) (by simp [bW,cL,gB]) ?_ ?_ ?_
 ·rintro s i hi rfl;have e1:decide ((i:Int)<(l.length:Int))=true:=decide_eq_true (by omega);have hx:=YU _ (qae hi);have hL:=j5 k (bW (l.take i) kind at_);simp only [e1,cond_true,bG hi,qa0,Fe qi hx hv,gV (i:=i) (by omega)];have:=yx (k:=k) (pg k (bW (l.take i) kind at_)) (by rw [hL];omega) hk (l[i].1,vO kind l[i].2.1 at_);simp only at this;rw [this];refine ⟨rfl, ?_⟩;rw [←oz,HG hi]
 ·intro s _;simp
 ·intro hs;rw [hs,qbu]
theorem zy{l:List Item}{kind:Int}{at_:List Int}{k:Nat}(hq:eL l kind at_=true)(hk:k<=1000):M.ki l kind at_ (k:Int)=some (cL k (bW l kind at_)):=by
 obtain ⟨ho,qi,hv⟩:=iH.1 hq;obtain ⟨hlen,hit,_⟩:=gm.1 ho;exact Fp (λx hx=>Bi (hit x hx)) qi hv (by omega) hk
theorem vQ(n a b:Int):M.de n a b=some (decide (a<=n/\n<=b)):=by
 unfold M.de;by_cases h:a<=n <;> simp [h]
theorem CF{l:List Item}{kind:Int}{at_:List Int}(h:gx l)(ha:at_.length<2000000):M.iZ l kind at_=some (eL l kind at_):=by
 unfold M.iZ eL;simp only [h.acz,HA,Bd at_ ha,qa0];cases fi l <;> cases isKind kind <;> simp
theorem HH(k:Int):M.gG k=some (decide (1<=k/\k<=16)):=by
 unfold M.gG;by_cases h1:1<=k <;> simp [h1]
theorem pk{l:List Item}{kind:Int}{at_:List Int}{k:Int}(h:gx l)(ha:at_.length<2000000):M.fB l kind at_ k=some (decide (eL l kind at_=true/\1<=k/\k<=16)):=by
 unfold M.fB eL;simp only [h.impl,Hz,sd at_ ha,HH,qa0];cases fi l <;> cases isKind kind <;> cases fx at_ <;> simp
theorem Uo{l:List Item}{D:Item->Int}{n:Nat}(hn:n<=1000){f:((Int)×(List (Int×Int)))×(Int)->Option ((((Int)×(List (Int×Int)))×(Int))⊕((Int)×(List (Int×Int))))}(hlen:l.length<=16)
  (hs: ∀i (h:i<l.length) (kept:List cJ),f (((n:Int),kept),(i:Int))=(M.dh ((n:Int),kept) (l[i].1,D l[i])).bind λr=>some (.inl ((r.1,r.2),((i+1:Nat):Int))))
  (he: ∀kept:List cJ,f (((n:Int),kept),(l.length:Int))=some (.inr ((n:Int),kept))):
  ∃rn,bT f (((n:Int),[]),0)=some ((n:Int),rn)/\rn.Perm (cL n (l.map λx=>(x.1,D x))):=by
 have key: ∀m i:Nat,i+m=l.length-> ∀kept:List cJ,HP kept.length kept->kept.Perm (cL n ((l.take i).map λx=>(x.1,D x)))->
   ∃rn,bT f (((n:Int),kept),(i:Int))=some ((n:Int),rn)/\rn.Perm (cL n (l.map λx=>(x.1,D x))):=by
  intro m
  induction m with
  | zero=>
   intro i hi kept hh hp;have:i=l.length:=by omega
   subst this;rw [qbu] at hp;rw [bz,he];exact ⟨kept,rfl,hp⟩
  | succ m ih=>
   intro i hi kept hh hp;have VP:i<l.length:=by omega
   have hL:=j5 n ((l.take i).map λx=>(x.1,D x));obtain ⟨rn,g1,g2,g3⟩:=QF (k:=n) hn (pg n ((l.take i).map λx=>(x.1,D x))) (by omega) hh hp (l[i].1,D l[i]);simp only at g1;rw [bz,hs i VP,g1];simp only [qa0,bb];refine ih (i+1) (by omega) rn g2 ?_;rw [←oz] at g3;rw [qas VP,qbr];exact g3
 have:=key l.length 0 (by omega) [] (λi h1 h2=>by simp at h2) (by simp [cL,gB]);rw [show ((0:Nat):Int)=0 from rfl] at this;exact this
theorem Fs{l:List Item}{kind:Int}{at_:List Int}{n:Nat}(YU: ∀x∈l,fx x.2.1=true)(hv:fx at_=true)(Is:(bW l kind at_).Nodup)(hlen:l.length<=16)(hn:n<=1000):M.gM l kind at_ (n:Int)=some (cL n (bW l kind at_)):=by
  unfold M.gM M.cX;obtain ⟨rn,g1,g2⟩:=Uo (l:=l) (D:=λx=>vO kind x.2.1 at_) (n:=n) hn (f:=fun (s5:((Int)×(List (Int×Int)))×(Int))=>(bif decide (s5.2<(l.length:Int)) then
  (aZ l s5.2).bind λnc=>
  (M.dp (nc.1,nc.2.1,nc.2.2) kind at_).bind λCf=>
  (M.dh (s5.1.1,s5.1.2) (nc.1,Cf)).bind λNI=>
  some (.inl ((NI.1,NI.2),av (s5.2+1)))
 else
  some (.inr (s5.1.1,s5.1.2)))) hlen (λi hi kept=>by
   have e1:decide ((i:Int)<(l.length:Int))=true:=decide_eq_true (by omega);unfold M.dp;simp only [e1,cond_true,bG hi,qa0,Ff (YU _ (qae hi)) hv,gV (i:=i) (by omega)]) (λkept=>by simp)
  rw [g1];have hL:=j5 n (bW l kind at_);have cP:=JY (l:=l) (kind:=kind) (at_:=at_);simp only [qa0,JX (pg n (bW l kind at_)) g2 (sn Is) (by omega)]
theorem Br{l:List Item}{kind:Int}{at_:List Int}{k:Int}(h:gx l)(ha:at_.length<2000000):M.gN l kind at_ k=some (pj l kind at_ k):=by
 unfold M.gN pj;simp only [pk h ha,qa0];by_cases hk:eL l kind at_=true/\1<=k/\k<=16
 ·obtain ⟨n,rfl⟩:=qb9 (show 0<=k by omega);obtain ⟨ho,qi,hv⟩:=iH.1 hk.1;obtain ⟨hlen,hit,hpw⟩:=gm.1 ho;have pH:(1:Int)<=(n:Int)/\(n:Int)<=16:=hk.2;have YV:decide (eL l kind at_=true/\(1:Int)<=(n:Int)/\(n:Int)<=16)=true:=decide_eq_true hk;rw [YV,if_pos (show eL l kind at_=true/\(1:Int)<=(n:Int)/\(n:Int)<=16 from hk)];simp only [qai,cond_false,Fs (n:=n) (λx hx=>Bi (hit x hx)) hv (Fo hpw) hlen (by omega),qa0,qal]
 ·have YV:decide (eL l kind at_=true/\1<=k/\k<=16)=false:=decide_eq_false hk;rw [YV,if_neg hk];rfl
end Go.Vs
namespace Go.Vs
theorem Bs{l:List Item}{kind:Int}{at_:List Int}{k:Int}:(pj l kind at_ k).length<=16:=by
 unfold pj;split
 ·rename_i h;have:=j5 k.toNat (bW l kind at_);omega
 ·simp
theorem HI{l:List Item}{kind:Int}{at_:List Int}{k:Int}(h:eL l kind at_=true)(h1:1<=k)(h2:k<=16):pj l kind at_ k=cL k.toNat (bW l kind at_):=if_pos ⟨h,h1,h2⟩
theorem JZ{l:List Item}{kind:Int}{at_:List Int}{h:cJ}:h∈bW l kind at_↔ ∃x∈l,h=(x.1,vO kind x.2.1 at_):=by
 unfold bW;rw [qcf]
 constructor
 ·rintro ⟨x,hx,rfl⟩;exact ⟨x,hx,rfl⟩
 ·rintro ⟨x,hx,rfl⟩;exact ⟨x,hx,rfl⟩
end Go.Vs
namespace Go.Vs
end Go.Vs
namespace Go.Vs
end Go.Vs
namespace Go.Vs
def ig(k:Int)(n:Nat):List (Int×Int):=(List.range n).map λi:Nat=>(k+2*(i:Int),k+2*(i:Int)+1)
theorem mO{k:Int}{n:Nat}:(ig k n).length=n:=by simp [ig]
theorem J0{k:Int}{n i:Nat}(h:i<(ig k n).length):(ig k n)[i]=(k+2*(i:Int),k+2*(i:Int)+1):=by simp [ig]
theorem Nb{α:Type}{xs:List α}{i:Nat}{e:α}(h:i<xs.length):aZ (xs.set i e) (i:Int)=some e:=by
 unfold aZ;rw [if_pos (by omega)];simp [h]
theorem HJ{a:List (Int×Int)}{k:Int}(ha:a.length<2000000)(h0:0<=k)(h1:k<=2000000000000000):M.kT a k=some (k+2*(a.length:Int),ig k a.length):=by
  unfold M.kT;have rj:=rh (R:=List (Int×Int)×Int) (f:=fun (s2:(List (Int×Int))×(Int)×(Int))=>(bif decide (s2.2.2<(s2.1.length:Int)) then
  (aZ s2.1 s2.2.2).bind λx6=>
  (aZ (s2.1.set s2.2.2.toNat (s2.2.1,x6.2)) s2.2.2).bind λzP=>
  some (.inl (((s2.1.set s2.2.2.toNat (s2.2.1,x6.2)).set s2.2.2.toNat (zP.1,av (s2.2.1+1))),av ((av (s2.2.1+1))+1),av (s2.2.2+1)))
 else
  some (.inr (s2.1,s2.2.1)))) (r:=(ig k a.length,k+2*(a.length:Int))) a.length (λi=>(ig k i++a.drop i,k+2*(i:Int),(i:Int))) (by
   intro i hi;have hl:(ig k i++a.drop i).length=a.length:=by rw [qap,mO,List.length_drop];omega
   have e1:decide ((i:Int)<((ig k i++a.drop i).length:Int))=true:=decide_eq_true (by omega);have e2:av ((i:Int)+1)=((i+1:Nat):Int):=aT (by omega) (by omega);have e3:av (k+2*(i:Int)+1)=k+2*(i:Int)+1:=aT (by omega) (by omega);have e4:av (k+2*(i:Int)+1+1)=k+2*((i+1:Nat):Int):=by rw [aT (by omega) (by omega)];omega
   have oi:i<(ig k i++a.drop i).length:=by omega
   simp only [e1,cond_true,bG oi,qa0,e2,e3,e4,qal,Nb oi,List.set_set,qac,Sum.inl.injEq,qcd,and_true];rw [qc4 _ _ (by rw [mO];omega),mO,Nat.sub_self,qb4 hi,List.set_cons_zero];simp [ig,List.range_succ]) (by
   have e1:decide (((a.length:Nat):Int)<((ig k a.length++a.drop a.length).length:Int))=false:=decide_eq_false (by rw [qap,mO];simp);simp only [List.drop_length,qbw] at e1 ⊢;simp only [e1,cond_false])
  simp only [ig,List.range_zero,qbm,qb8,qce,qbn,Int.mul_zero,Int.add_zero] at rj;rw [rj];rfl
theorem HK{n:Nat}{k:Int}(ha:n<2000000)(h0:0<=k)(h1:k<=2000000000000000):M.ji (ig k n) k=some (k+2*(n:Int)):=by
  unfold M.ji;have rj:=rh (R:=Int⊕Int) (f:=fun (s2:(Int)×(Int))=>(bif decide (s2.2<((ig k n).length:Int)) then
  (aZ (ig k n) s2.2).bind λx5=>
  (bif x5.1 != s2.1 then
  some (.inr (.inr (-1)))
 else
  (aZ (ig k n) s2.2).bind λzP=>
  (bif zP.2 != (av (s2.1+1)) then
  some (.inr (.inr (-1)))
 else
  some (.inl (av ((av (s2.1+1))+1),av (s2.2+1)))))
 else
  some (.inr (.inl s2.1)))) (r:= .inl (k+2*(n:Int))) n (λi=>(k+2*(i:Int),(i:Int))) (by
   intro i hi;have hl:i<(ig k n).length:=by rw [mO];exact hi
   have e1:decide ((i:Int)<((ig k n).length:Int))=true:=decide_eq_true (by omega);have e2:av ((i:Int)+1)=((i+1:Nat):Int):=aT (by omega) (by omega);have e3:av (k+2*(i:Int)+1)=k+2*(i:Int)+1:=aT (by omega) (by omega);have e4:av (k+2*(i:Int)+1+1)=k+2*((i+1:Nat):Int):=by rw [aT (by omega) (by omega)];omega
   simp only [e1,cond_true,bG hl,J0,qa0,e2,e3,e4,bne_self_eq_false,cond_false]) (by
   have e1:decide ((n:Int)<((ig k n).length:Int))=false:=decide_eq_false (by rw [mO];omega);simp only [e1,cond_false])
  simp only [qbn,Int.mul_zero,Int.add_zero] at rj;rw [rj];rfl
theorem HL{a:List (Int×Int)}(h:a.length<2000000):M.jT a a=some true:=by
 unfold M.jT;simp only [bne_self_eq_false,cond_false];rw [nh (xs:=a) (P:=λ_=>true) (r:=false)]
 ·simp [bb]
 ·intro i hi;have e1:decide ((i:Int)<(a.length:Int))=true:=by simpa using hi
  have e2:av ((i:Int)+1)=(i:Int)+1:=aT (by omega) (by omega);simp only [e1,cond_true,bG hi,qa0,M.rT,bne_self_eq_false,qai,cond_false,e2,if_true]
 ·simp
end Go.Vs
namespace Go.Vs
end Go.Vs
namespace Go.Vs
end Go.Vs
namespace Go.Vs
end Go.Vs
namespace Go.Vs
end Go.Vs
namespace Go.Vs
end Go.Vs
namespace Go.Vs
end Go.Vs
namespace Go.Vs
end Go.Vs
namespace Go.Vs
end Go.Vs
namespace Go.Vs
end Go.Vs
namespace Go.Vs
end Go.Vs
namespace Go.Vs
end Go.Vs
namespace Go.Vs
end Go.Vs
namespace Go.Vs
end Go.Vs
namespace Go.Vs
end Go.Vs
namespace Go.Vs
end Go.Vs
namespace Go.Vs
end Go.Vs
namespace Go.Vs
theorem Bt{α:Type}(p q:α->Bool)(l:List α)(h: ∀x∈l,p x=true->q x=false):(l.filter p++l.filter q).Perm (l.filter λx=>p x || q x):=by
 induction l with
 | nil=>simp
 | cons x r ih=>
  have ih:=ih (λy hy=>h y (by simp [hy]));by_cases hp:p x=true
  ·have hq:=h x (by simp) hp;rw [List.filter_cons_of_pos hp,List.filter_cons_of_neg (by simp [hq]),List.filter_cons_of_pos (by simp [hp])];exact List.Perm.cons x ih
  ·simp only [qbh] at hp;by_cases hq:q x=true
   ·rw [List.filter_cons_of_neg (by simp [hp]),List.filter_cons_of_pos hq,List.filter_cons_of_pos (by simp [hq])];exact List.perm_middle.trans (List.Perm.cons x ih)
   ·simp only [qbh] at hq;rw [List.filter_cons_of_neg (by simp [hp]),List.filter_cons_of_neg (by simp [hq]),List.filter_cons_of_neg (by simp [hp,hq])];exact ih
end Go.Vs
namespace Go.Vs
end Go.Vs
namespace Go.Vs
end Go.Vs
namespace Go.Vs
end Go.Vs
namespace Go.Vs
end Go.Vs
namespace Go.Vs
end Go.Vs
namespace Go.Vs
end Go.Vs
namespace Go.Vs
end Go.Vs
namespace Go.Vs
end Go.Vs
namespace Go.Vs
end Go.Vs
namespace Go.Vs
end Go.Vs
namespace Go.Vs
end Go.Vs
namespace Go.Vs
end Go.Vs
namespace Go.Vs
end Go.Vs
namespace Go.Vs
end Go.Vs
namespace Go.Vs
theorem uD{k:Nat}{l m:List cJ}(h:l.Perm m):cL k l=cL k m:=by
 unfold cL;rw [vP (ef m).1 ((ef m).2.trans h.symm)]
end Go.Vs
namespace Go.Vs
theorem Up(h:cJ):ku h h=false:=by rw [uC];omega
theorem uE{a b c:cJ}(h1:ku a b=true)(h2:ku b c=true):ku a c=true:=by
 rw [sg] at *; omega
theorem QG{a b:cJ}(h:ku a b=true):ku b a=false:=by
 rw [sg] at h;rw [uC];omega
end Go.Vs
namespace Go.Vs
end Go.Vs
namespace Go.Vs
end Go.Vs
namespace Go.Vs
theorem Nc{S T R:Type}(st:S->Int->T)(g:S->Nat->S)(Inv:Nat->S->Prop){fin:S->R}{f:T->Option (T⊕R)}(n:Nat)
  (hs: ∀s i,i<n->Inv i s->f (st s (i:Int))=some (.inl (st (g s i) ((i+1:Nat):Int)))/\Inv (i+1) (g s i)) (he: ∀s,Inv n s->f (st s (n:Int))=some (.inr (fin s))):
  ∀(m a:Nat) (s:S),a+m=n->Inv a s->bT f (st s (a:Int))=some (fin ((List.range' a m).foldl g s))/\Inv n ((List.range' a m).foldl g s):=by
 intro m
 induction m with
 | zero=>
  intro a s h hi;have:a=n:=by omega
  subst this;rw [bz,he s hi];simpa [bb] using hi
 | succ m ih=>
  intro a s h hi;obtain ⟨h1,h2⟩:=hs s a (by omega) hi;rw [bz,h1,List.range'_succ];exact ih (a+1) _ (by omega) h2
theorem Nd{S T R U:Type}(st:S->Int->T)(g:S->Nat->S)(Inv:Nat->S->Prop)(fin:S->R){f:T->Option (T⊕R)}(a n:Nat){s0:S}{k:R->Option U}{r:Option U}(ha:a<=n)(h0:Inv a s0)
  (hs: ∀s i,i<n->Inv i s->f (st s (i:Int))=some (.inl (st (g s i) ((i+1:Nat):Int)))/\Inv (i+1) (g s i)) (he: ∀s,Inv n s->f (st s (n:Int))=some (.inr (fin s)))
  (hk:Inv n ((List.range' a (n - a)).foldl g s0)->k (fin ((List.range' a (n - a)).foldl g s0))=r):(bT f (st s0 (a:Int))).bind k=r:=by
 obtain ⟨h1,h2⟩:=Nc st g Inv (fin:=fin) n hs he (n - a) a s0 (by omega) h0;rw [h1];exact hk h2
end Go.Vs
namespace Go.Vs
end Go.Vs
namespace Go.Vs
def Ww(x:cJ):Bool:=decide (1<=x.1/\x.1<=99)&&decide (0<=x.2/\x.2<=1000000)
def NQ(l:List cJ)(i:Nat):cJ:=l.getD i (0,0)
theorem mg{l:List cJ}{i:Nat}(h:i<l.length):NQ l i=l[i]:=by unfold NQ;simp [List.getD,h]
def xj(l:List cJ)(i:Nat):Bool:=Ww (NQ l i)&&(decide (i=0) || ku (NQ l (i - 1)) (NQ l i))&&(l.take i).all λy=> !(y.1==(NQ l i).1)
def sY(l:List cJ):Bool:=(List.range l.length).all (xj l)&&decide (l.length<=16)
theorem pn{l:List cJ}:sY l=true↔(∀x∈l,Ww x=true)/\l.Pairwise (λx y=>ku x y=true)/\(l.map (·.1)).Nodup/\l.length<=16:=by
 unfold sY;rw [qa4,qa9,decide_eq_true_eq]
 constructor
 ·rintro ⟨h,hl⟩;have hh: ∀i (hi:i<l.length),xj l i=true:=λi hi=>h i (qaw.2 hi);simp only [xj,qa4,qc2,decide_eq_true_eq,qa9,qbc,beq_eq_false_iff_ne] at hh;refine ⟨?_, ?_, ?_,hl⟩
  ·intro x hx;obtain ⟨i,hi,rfl⟩:=qan.1 hx;have:=(hh i hi).1.1;rwa [mg hi] at this
  ·rw [qb0];have adj: ∀i (hi:i+1<l.length),ku l[i] l[i+1]=true:=by
    intro i hi;have:=(hh (i+1) hi).1.2;rcases this with h0 | h1
    ·omega
    ·rw [mg hi] at h1;rw [show i+1 - 1=i by omega,mg (by omega:i<l.length)] at h1;exact h1
   intro i j hi hj pV;have key: ∀m, ∀(h:i+m+1<l.length),ku l[i] l[i+m+1]=true:=by
    intro m
    induction m with
    | zero=>intro h;exact adj i h
    | succ m ih=>intro h;exact uE (ih (by omega)) (adj (i+m+1) h)
   have:=key (j - i - 1) (by omega);simpa [show i+(j - i - 1)+1=j by omega] using this
  ·rw [List.nodup_iff_pairwise_ne,qb0];intro i j hi hj pV;simp only [qbq] at hi hj;have:=(hh j hj).2 l[i] (qan.2 ⟨i,by rw [qav];omega,by simp⟩);rw [mg hj] at this;simpa using this
 ·rintro ⟨h1,h2,h3,h4⟩;refine ⟨λi hi=> ?_,h4⟩;have hi:=qaw.1 hi;simp only [xj,qa4,qc2,decide_eq_true_eq,qa9,qbc,beq_eq_false_iff_ne,mg hi];refine ⟨⟨h1 _ (qae hi), ?_⟩, ?_⟩
  ·by_cases h0:i=0
   ·exact .inl h0
   ·refine .inr ?_;rw [mg (by omega:i - 1<l.length)];exact (qb0.1 h2) (i - 1) i (by omega) hi (by omega)
  ·intro y hy;obtain ⟨k,hk,rfl⟩:=qan.1 hy;rw [qav] at hk;rw [List.nodup_iff_pairwise_ne,qb0] at h3;have:=h3 k i (by simp;omega) (by simp;omega) (by omega);simpa using this
theorem Nf{l:List cJ}{i:Nat}(hi:i<l.length)(hl:l.length<=2000000){R:Type}(r:R):
  (bT (fun (Iw:(Int))=>(bif decide (Iw<(i:Int)) then
    (aZ l Iw).bind λx55=>
    (bif x55.1==l[i].1 then
    some (Sum.inr (Sum.inr r):Int⊕(Unit⊕R))
   else
    some (Sum.inl (av (Iw+1))))
   else
    some (Sum.inr (Sum.inl ())))) 0)=some (if (l.take i).all (λy=> !(y.1==(l[i]).1)) then Sum.inl () else Sum.inr r):=by
 refine nh (xs:=l.take i) (P:=λy=> !(y.1==(l[i]).1)) (r:=r) ?_ ?_
 ·intro k hk;have pH:k<i:=by rw [qav] at hk;omega
  have e1:decide ((k:Int)<(i:Int))=true:=decide_eq_true (by omega);simp only [e1,cond_true,bG (show k<l.length by omega),qa0,gV (i:=k) (by omega),qca];cases l[k].1==l[i].1 <;> simp
 ·rw [qav,Nat.min_eq_left (by omega)];simp
theorem rq{l:List cJ}(hl:l.length<=2000000):M.iy l=some (sY l):=by
 unfold M.iy;have key: ∀i (h:i<(List.range l.length).length),xj l (List.range l.length)[i]=xj l i:=by intro i h;simp
 rw [nh (xs:=List.range l.length) (P:=xj l) (r:=false) ?_ ?_]
 ·unfold sY;cases (List.range l.length).all (xj l) with
  | true=>simp [bb];omega
  | false=>simp [bb]
 ·intro i h;have hi:i<l.length:=by simpa using h
  have e1:decide ((i:Int)<(l.length:Int))=true:=decide_eq_true (by omega);rw [key i h];simp only [e1,cond_true,bG hi,qa0,vQ,Nf hi hl false,gV (i:=i) (show i<4000000000000000000 by omega)];unfold xj;rw [mg hi];unfold Ww;cases hk:decide (1<=l[i].1/\l[i].1<=99) with
  | false=>simp
  | true=>
   cases hd:decide (0<=l[i].2/\l[i].2<=1000000) with
   | false=>simp
   | true=>
    simp only [qai,cond_false,qbt,qa0];by_cases h0:i=0
    ·subst h0;simp [bb]
    ·have e2:decide ((0:Int)<(i:Int))=true:=decide_eq_true (by omega);have e3:av ((i:Int) - 1)=((i - 1:Nat):Int):=by rw [aT (by omega) (by omega)];omega
     have e4:decide (i=0)=false:=decide_eq_false h0;simp only [e2,e3,e4,cond_true,bG (show i - 1<l.length by omega),qa0,DL,Bool.false_or,mg (show i - 1<l.length by omega)];cases hn:ku l[i - 1] l[i] with
     | false=>simp
     | true=>
      simp only [qai,cond_false,qbt];cases (l.take i).all (λy=> !(y.1==l[i].1)) <;> simp [bb]
 ·simp
def sZ(l:List cJ)(key:Int):Option Nat:=l.findIdx? λy=>y.1==key
def Ft(l:List cJ)(key:Int):Int:=match sZ l key with | some i=>(i:Int) | none=> -1
theorem xk{l:List cJ}{key:Int}(hl:l.length<=2000000):M.mE l key=some (Ft l key):=by
 unfold M.mE Ft sZ;rw [Bg (xs:=l) (λy=>y.1==key) (λi=>(i:Int)) ?_ ?_]
 ·cases l.findIdx? (λy=>y.1==key) <;> simp [bb]
 ·intro i hi;have e1:decide ((i:Int)<(l.length:Int))=true:=decide_eq_true (by omega);simp only [e1,cond_true,bG hi,qa0,gV (i:=i) (by omega)];cases l[i].1==key <;> simp
 ·simp
theorem rr{l:List cJ}{key:Int}{i:Nat}(h:sZ l key=some i): ∃hi:i<l.length,l[i].1=key:=by
 unfold sZ at h;rw [List.findIdx?_eq_some_iff_getElem] at h;obtain ⟨hi,h1,_⟩:=h;exact ⟨hi,by simpa using h1⟩
theorem yy{l:List cJ}{key:Int}:sZ l key=none↔ ∀x∈l,x.1≠key:=by
 unfold sZ;rw [List.findIdx?_eq_none_iff];simp
theorem Lf{l:List cJ}(hn:(l.map (·.1)).Nodup){i:Nat}(hi:i<l.length):sZ l l[i].1=some i:=by
 unfold sZ;rw [List.findIdx?_eq_some_iff_getElem];refine ⟨hi,by simp,λj hj=> ?_⟩;rw [List.nodup_iff_pairwise_ne,qb0] at hn;have:=hn j i (by simp;omega) (by simp;omega) hj;simpa using this
end Go.Vs
namespace Go.Vs
def ub(b:List cJ)(x:cJ):Bool:=match sZ b x.1 with | none=>true | some n=>decide (x.2<=(NQ b n).2)
def kO(a:List cJ)(x:cJ):Bool:=match sZ a x.1 with | none=>true | some n=>decide (x.2<(NQ a n).2)
def YW(a b:List cJ):List cJ:=a.filter (ub b)++b.filter (kO a)
def Bu(a b:List cJ)(k:Int):List cJ:=if sY a=true/\sY b=true/\1<=k/\k<=16 then cL k.toNat (YW a b) else []
theorem Fu{a b:List cJ}{k:Int}(ha:a.length<=2000000)(hb:b.length<=2000000):M.jU a b k=some (Bu a b k):=by
 unfold M.jU Bu;simp only [rq ha,rq hb,vQ,qa0];cases hoa:sY a with
 | false=>simp
 | true=>
  cases hob:sY b with
  | false=>simp
  | true=>
   by_cases hk:1<=k/\k<=16
   rotate_left
   ·have:=decide_eq_false hk;simp [this,hk]
   have hd:=decide_eq_true hk;obtain ⟨n,rfl⟩:=qb9 (show 0<=k by omega);obtain ⟨_,_,_,hal⟩:=pn.1 hoa;obtain ⟨_,_,_,hbl⟩:=pn.1 hob;simp only [hd,qai,cond_false,qa0,true_and];rw [if_pos hk,qal];have len: ∀l:List cJ,(cL n l).length<=1000:=λl=>by rw [j5];omega
   refine oy (xs:=a) (fun (s:List cJ) i=>(s,i)) (λs x=>if ub b x=true then (kH x s).take n else s) (λi s=>s=cL n ((a.take i).filter (ub b))) (λs=>s) (s0:=[]) (by simp [cL,gB]) ?_ ?_ ?_
   ·rintro s i hi rfl;have e1:decide ((i:Int)<(a.length:Int))=true:=decide_eq_true (by omega);simp only [e1,cond_true,bG hi,qa0,xk hb,gV (i:=i) (show i<4000000000000000000 by omega),yx (pg _ _) (len _) (show n<=1000 by omega)];rw [qas hi,List.filter_append];unfold Ft;have hkA:ub b a[i]=match sZ b a[i].1 with | none=>true | some n=>decide (a[i].2<=(NQ b n).2):=rfl
    cases hp:sZ b a[i].1 with
    | none=>
     rw [hp] at hkA;have e2:ub b a[i]=true:=hkA;simp [e2,oz]
    | some m=>
     rw [hp] at hkA;obtain ⟨hm,_⟩:=rr hp;have e3:decide ((m:Int)<0)=false:=decide_eq_false (by omega);simp only [e3,cond_false,bG hm,qa0];rw [←mg hm];cases hc:decide (a[i].2<=(NQ b m).2) with
     | true=>
      have e2:ub b a[i]=true:=by rw [hkA];exact hc
      simp [e2,oz]
     | false=>
      have e2:ub b a[i]=false:=by rw [hkA];exact hc
      simp [e2]
   ·intro s _;simp
   ·intro hs;rw [hs,qbu];refine oy (xs:=b) (fun (s:List cJ) i=>(s,i)) (λs x=>if kO a x=true then (kH x s).take n else s) (λi s=>s=cL n (a.filter (ub b)++(b.take i).filter (kO a))) (λs=>s) (s0:=cL n (a.filter (ub b))) (by simp) ?_ ?_ ?_
    ·rintro s i hi rfl;have e1:decide ((i:Int)<(b.length:Int))=true:=decide_eq_true (by omega);simp only [e1,cond_true,bG hi,qa0,xk ha,gV (i:=i) (show i<4000000000000000000 by omega),yx (pg _ _) (len _) (show n<=1000 by omega)];rw [qas hi,List.filter_append, ←List.append_assoc];unfold Ft;have hkB:kO a b[i]=match sZ a b[i].1 with | none=>true | some n=>decide (b[i].2<(NQ a n).2):=rfl
     cases hp:sZ a b[i].1 with
     | none=>
      rw [hp] at hkB;have e2:kO a b[i]=true:=hkB;simp [e2,oz, ←List.append_assoc]
     | some m=>
      rw [hp] at hkB;obtain ⟨hm,_⟩:=rr hp;have e3:decide ((m:Int)<0)=false:=decide_eq_false (by omega);simp only [e3,cond_false,bG hm,qa0];rw [←mg hm];cases hc:decide (b[i].2<(NQ a m).2) with
      | true=>
       have e2:kO a b[i]=true:=by rw [hkB];exact hc
       simp [e2,oz, ←List.append_assoc]
      | false=>
       have e2:kO a b[i]=false:=by rw [hkB];exact hc
       simp [e2]
    ·intro s _;simp
    ·intro VX;rw [VX,qbu]
     rfl
end Go.Vs
namespace Go.Vs
end Go.Vs
namespace Go.Vs
theorem Fv(x y:cJ): ∃r,M.cS (x.1,x.2) (y.1,y.2)=some r/\decide (0<=r)= !ku x y:=by
 obtain ⟨r,h1,h2,_⟩:=pd x y;refine ⟨r,h1, ?_⟩;rw [←h2,Bool.eq_iff_iff];simp
end Go.Vs
namespace Go.Vs
theorem xl{l:List cJ}{key:Int}(hl:l.length<=2000000):M.kl l key=some (Ft l key):=by
 unfold M.kl M.bF Ft sZ;rw [Bg (xs:=l) (λy=>y.1==key) (λi=>(i:Int)) ?_ ?_]
 ·cases l.findIdx? (λy=>y.1==key) <;> simp [bb]
 ·intro i hi;have e1:decide ((i:Int)<(l.length:Int))=true:=decide_eq_true (by omega);simp only [e1,cond_true,bG hi,qa0,M.iO,gV (i:=i) (by omega)];cases l[i].1==key <;> simp
 ·simp
theorem HM{l:List cJ}{key:Int}:decide (Ft l key<0)=l.all λy=> !(y.1==key):=by
 unfold Ft;cases h:sZ l key with
 | none=>
  have:=yy.1 h;rw [Bool.eq_iff_iff];simp only [qa9,qbc,beq_eq_false_iff_ne,decide_eq_true_eq];exact ⟨λ_=>this,λ_=>by omega⟩
 | some i=>
  obtain ⟨hi,e⟩:=rr h;have h1:decide ((i:Int)<0)=false:=decide_eq_false (by omega);have h2:(l.all λy=> !(y.1==key))=false:=by
   rw [List.all_eq_false];exact ⟨l[i],qae hi,by simp [e]⟩
  rw [h2];exact h1
theorem Uq{l:List cJ}{key:Int}:decide (0<=Ft l key)= !(l.all λy=> !(y.1==key)):=by
 rw [←HM,Bool.eq_iff_iff];simp
theorem yX(k:Int):M.gk k=some (decide (1<=k/\k<=99)):=by
 unfold M.gk;by_cases h1:1<=k
 ·by_cases h2:k<=99 <;> simp [h1,h2]
 ·simp [h1]
theorem zz(h:cJ):M.kU (h.1,h.2)=some (Ww h):=by
 unfold M.kU Ww;simp only [yX,qa0];by_cases h1:1<=h.1/\h.1<=99
 ·have e1:decide (1<=h.1/\h.1<=99)=true:=decide_eq_true h1;simp only [e1,cond_true,qbt];by_cases h2:0<=h.2
  ·simp [h2]
  ·simp [h2]
 ·have e1:decide (1<=h.1/\h.1<=99)=false:=decide_eq_false h1;simp only [e1,cond_false,Bool.false_and]
theorem DN{l:List cJ}(hl:l.length<=2000000):M.iz l=some (sY l):=by
 unfold M.iz;by_cases h16:(16:Int)<(l.length:Int)
 ·have:sY l=false:=by
   unfold sY;rw [show decide (l.length<=16)=false from decide_eq_false (by omega),Bool.and_false]
  simp [h16,this]
 simp only [h16,decide_false,cond_false];have key: ∀i (h:i<(List.range l.length).length),xj l (List.range l.length)[i]=xj l i:=by intro i h;simp
 rw [nh (xs:=List.range l.length) (P:=xj l) (r:=false) ?_ ?_]
 ·unfold sY;rw [show decide (l.length<=16)=true from decide_eq_true (by omega),Bool.and_true];cases (List.range l.length).all (xj l) <;> simp [bb]
 ·intro i h;have hi:i<l.length:=by simpa using h
  have e1:decide ((i:Int)<(l.length:Int))=true:=decide_eq_true (by omega);rw [key i h];have hgs:iM l 0 (i:Int)=some (l.take i):=by
   rw [ou (xs:=l) (show (0:Int)<=0 by omega) (show (0:Int)<=(i:Int) by omega) (by omega)];simp
  have htl:(l.take i).length<=2000000:=by rw [qav];omega
  simp only [e1,cond_true,bG hi,qa0,zz,hgs,xl htl,Uq,gV (i:=i) (show i<4000000000000000000 by omega)];unfold xj;rw [mg hi];cases hv:Ww l[i] with
  | false=>simp
  | true=>
   simp only [qai,cond_false,qbt];by_cases h0:i=0
   ·subst h0;simp
   ·have e2:decide ((0:Int)<(i:Int))=true:=decide_eq_true (by omega);have e3:av ((i:Int) - 1)=((i - 1:Nat):Int):=by rw [aT (by omega) (by omega)];omega
    have e4:decide (i=0)=false:=decide_eq_false h0;obtain ⟨r,hr1,Z8⟩:=Fv l[i - 1] l[i];simp only [e2,e3,e4,cond_true,bG (show i - 1<l.length by omega),qa0,hr1,Z8,Bool.false_or,mg (show i - 1<l.length by omega)];cases hn:ku l[i - 1] l[i] with
    | false=>simp
    | true=>
     simp only [qai,cond_false,qbt];cases (l.take i).all (λy=> !(y.1==l[i].1)) <;> simp
 ·simp
end Go.Vs
namespace Go.Vs
theorem HN{l:List cJ}(h:(l.map (·.1)).Nodup):l.Nodup:=List.Pairwise.of_map (·.1) (λa b h e=>h (congrArg _ e)) h
theorem key_inj{l:List cJ}(h:(l.map (·.1)).Nodup){x y:cJ}(hx:x∈l)(hy:y∈l)(e:x.1=y.1):x=y:=by
 obtain ⟨i,hi,rfl⟩:=qan.1 hx;obtain ⟨j,hj,rfl⟩:=qan.1 hy;have h1:=Lf h hi;rw [e,Lf h hj] at h1;cases qaf h1;rfl
end Go.Vs
namespace Go.Vs
theorem xm{α:Type}[DecidableEq α]: ∀{l m:List α},l.Nodup->(∀x∈l,x∈m)->l.length<=m.length
 | [],m,_,_=>qaa _
 | x::t,m,hn,hs=>by
  obtain ⟨h1,h2⟩:=List.nodup_cons.1 hn;have hx:x∈m:=hs x (by simp);have:=xm (m:=m.erase x) h2 (λy hy=>(List.mem_erase_of_ne (by rintro rfl;exact h1 hy)).2 (hs y (by simp [hy])));rw [List.length_erase_of_mem hx] at this;have:0<m.length:=List.length_pos_of_mem hx;simp only [qbb];omega
theorem Fy{x y:cJ}(h:x≠y)(h2:ku y x=false):ku x y=true:=by
 cases h1:ku x y with
 | true=>rfl
 | false=>exact absurd (si h1 h2) h
theorem xn{L:List cJ}(hn:L.Nodup):(gB L).Pairwise (λx y=>ku x y=true):=by
 have h1:=(ef L).1;have h2:(gB L).Nodup:=(ef L).2.nodup_iff.2 hn;exact (List.Pairwise.and h2 h1).imp λh=>Fy h.1 h.2
theorem vk{A:List cJ}(h:A.Pairwise (λx y=>ku x y=true)){i:Nat}(hi:i<A.length):A.filter (λy=>ku y A[i])=A.take i:=by
 rw [qb0] at h;generalize hx:A[i]=x
 conv=>lhs;rw [←List.take_append_drop i A,List.filter_append]
 have e1:(A.take i).filter (λy=>ku y x)=A.take i:=by
  rw [List.filter_eq_self];intro y hy;obtain ⟨j,hj,rfl⟩:=qan.1 hy;rw [qav] at hj;rw [qca, ←hx];exact h j i (by omega) hi (by omega)
 have e2:(A.drop i).filter (λy=>ku y x)=[]:=by
  rw [List.filter_eq_nil_iff];intro y hy;obtain ⟨j,hj,rfl⟩:=qan.1 hy;rw [List.length_drop] at hj;rw [List.getElem_drop, ←hx];by_cases h0:j=0
  ·subst h0;simp [Up]
  ·rw [QG (h i (i+j) hi (by omega) (by omega))];simp
 rw [e1,e2,qbw]
def DO(L:List cJ)(x:cJ):Nat:=(L.filter λy=>ku y x).length
theorem uF{k:Nat}{L:List cJ}(hn:L.Nodup){x:cJ}:x∈cL k L↔x∈L/\DO L x<k:=by
 have hs:=xn hn;have hp:=(ef L).2;have hc:DO L x=((gB L).filter λy=>ku y x).length:=(hp.filter _).length_eq.symm;unfold cL;rw [hc]
 constructor
 ·intro h;obtain ⟨i,hi,rfl⟩:=qan.1 h;rw [qav] at hi;rw [qca];refine ⟨hp.mem_iff.1 (qae (by omega)), ?_⟩;rw [vk hs (by omega),qav];omega
 ·rintro ⟨h1,h2⟩;obtain ⟨i,hi,rfl⟩:=qan.1 (hp.mem_iff.2 h1);rw [vk hs hi,qav] at h2;exact qan.2 ⟨i,by rw [qav];omega,by simp⟩
theorem Ur{k:Nat}{L M:List cJ}(hl:L.Nodup)(hm:M.Nodup)(h: ∀x,x∈cL k L↔x∈cL k M):cL k L=cL k M:=
 xi (pg _ _) (pg _ _) ((List.perm_ext_iff_of_nodup (sn hl) (sn hm)).2 h)
def Bst(S:List cJ)(x:cJ):Prop:=x∈S/\ ∀y∈S,y.1=x.1->x.2<=y.2
structure BL(S L:List cJ):Prop where
 keys:(L.map (·.1)).Nodup
 mem: ∀x,x∈L↔Bst S x
theorem BL.nodup{S L:List cJ}(h:BL S L):L.Nodup:=HN h.keys
theorem J1: ∀{S:List cJ} {y:cJ},y∈S-> ∃z,Bst S z/\z.1=y.1
 | h::t,y,hy=>by
  by_cases hw: ∃w∈t,w.1=y.1
  ·obtain ⟨w,hw,e⟩:=hw;obtain ⟨z,⟨hz,hz2⟩,ez⟩:=J1 hw;by_cases hh:h.1=y.1/\h.2<z.2
   ·refine ⟨h,⟨by simp, ?_⟩,hh.1⟩;intro u hu eu;rcases qad.1 hu with rfl | hu
    ·exact Int.le_refl _
    ·have:=hz2 u hu (by rw [eu,hh.1,ez,e]);omega
   ·refine ⟨z,⟨by simp [hz], ?_⟩,by rw [ez,e]⟩;intro u hu eu;rcases qad.1 hu with rfl | hu
    ·have: ¬u.2<z.2:=λbs=>hh ⟨by rw [eu,ez,e],bs⟩;omega
    ·exact hz2 u hu eu
  ·rcases qad.1 hy with rfl | hy
   ·refine ⟨y,⟨by simp, ?_⟩,rfl⟩;intro u hu eu;rcases qad.1 hu with rfl | hu
    ·exact Int.le_refl _
    ·exact absurd ⟨u,hu,eu⟩ hw
   ·exact absurd ⟨y,hy,rfl⟩ hw
theorem FA{S S' L L':List cJ}(h:BL S L)(h':BL S' L')(hs: ∀x∈S,x∈S')(x:cJ):DO L x<=DO L' x:=by
 unfold DO;have:=xm (l:=(L.filter λy=>ku y x).map (·.1)) (m:=(L'.filter λy=>ku y x).map (·.1)) (h.keys.sublist (qbg.map _)) ?_
 ·simpa using this
 ·intro k hk;obtain ⟨y,hy,rfl⟩:=qcf.1 hk;obtain ⟨hy,bs⟩:=qbs.1 hy;have hyS:=((h.mem y).1 hy).1;obtain ⟨z,hz,ez⟩:=J1 (hs y hyS);refine qcf.2 ⟨z,qbs.2 ⟨(h'.mem z).2 hz, ?_⟩,ez⟩;have hle:=hz.2 y (hs y hyS) ez.symm;simp only [sg] at bs ⊢;rcases bs with bs | ⟨h1,h2⟩
  ·left;omega
  ·rcases Int.lt_or_eq_of_le hle with h3 | h3
   ·left;omega
   ·right;exact ⟨by omega,by omega⟩
theorem Lg{S C L M N:List cJ}{k:Nat}(hL:BL S L)(hM:BL (cL k L++C) M)(hN:BL (S++C) N):cL k M=cL k N:=by
 have hnL:=hL.nodup;have hT:BL (cL k L) (cL k L):=by
  have hk:((cL k L).map (·.1)).Nodup:=by
   unfold cL;have:=((ef L).2.map (·.1)).nodup_iff.2 hL.keys;exact this.sublist ((List.take_sublist _ _).map _)
  refine ⟨hk,λx=>⟨λhx=>⟨hx,λy hy e=> ?_⟩,λh=>h.1⟩⟩;rw [key_inj hk hy hx e];exact Int.le_refl _
 have hTS: ∀x∈cL k L,x∈S:=λx hx=>((hL.mem x).1 (Bq _ _ x hx)).1;have hTC: ∀x∈cL k L++C,x∈S++C:=λx hx=>by
  rcases qag.1 hx with h | h
  ·exact qag.2 (.inl (hTS x h))
  ·exact qag.2 (.inr h)
 have fwd: ∀x,x∈N->DO N x<k->x∈M/\DO M x<k:=by
  intro x hx hc;have hb:=(hN.mem x).1 hx;have tg:x∈cL k L++C:=by
   rcases qag.1 hb.1 with h | h
   ·have hxL:x∈L:=(hL.mem x).2 ⟨h,λy hy=>hb.2 y (qag.2 (.inl hy))⟩;have:=FA hL hN (λz hz=>qag.2 (.inl hz)) x;exact qag.2 (.inl ((uF hnL).2 ⟨hxL,by omega⟩))
   ·exact qag.2 (.inr h)
  refine ⟨(hM.mem x).2 ⟨tg,λy hy=>hb.2 y (hTC y hy)⟩, ?_⟩;have:=FA hM hN hTC x;omega
 refine Ur hM.nodup hN.nodup λx=> ?_;rw [uF hM.nodup,uF hN.nodup]
 constructor
 rotate_left
 ·rintro ⟨h1,h2⟩;exact fwd x h1 h2
 rintro ⟨hx,hc⟩;have hb:=(hM.mem x).1 hx;have hxN:x∈N:=by
  refine (hN.mem x).2 ⟨hTC x hb.1,λy hy e=> ?_⟩;rcases qag.1 hy with h | h
  ·obtain ⟨z,hz,ez⟩:=J1 h;have hzy:=hz.2 y h ez.symm;by_cases bs:y.2<x.2
   ·exfalso;have hzL:=(hL.mem z).2 hz;have hzT:z∉cL k L:=λhzT=>by
     have:=hb.2 z (qag.2 (.inl hzT)) (by rw [ez,e]);omega
    have hck:k<=DO L z:=by
     apply Nat.le_of_not_lt;intro h';exact hzT ((uF hnL).2 ⟨hzL,h'⟩)
    have hlen:(cL k L).length=k:=by
     rw [j5];have:DO L z<=L.length:=List.length_filter_le _ _;omega
    have jF: ∀t∈cL k L,ku t x=true:=by
     intro t ht;obtain ⟨htL,htc⟩:=(uF hnL).1 ht;have jv:t≠z:=by rintro rfl;exact hzT ht
     have htz:ku t z=true:=by
      cases h1:ku t z with
      | true=>rfl
      | false=>
       exfalso;have h2:ku z t=true:=Fy (qbp jv) h1;have:DO L z<=DO L t:=by
        unfold DO;refine xm (hnL.sublist qbg) λu hu=> ?_;obtain ⟨rD,hu2⟩:=qbs.1 hu;exact qbs.2 ⟨rD,uE hu2 h2⟩
       omega
     refine uE htz (sg.2 (.inl (by omega)))
    have h3:DO (cL k L) x=k:=by
     unfold DO;rw [List.filter_eq_self.2 jF,hlen]
    have:=FA hT hM (λz hz=>qag.2 (.inl hz)) x;omega
   ·omega
  ·exact hb.2 y (qag.2 (.inr h)) e
 refine ⟨hxN, ?_⟩;apply Nat.lt_of_not_le;intro hk;have hlen:(cL k N).length=k:=by
  rw [j5];have:DO N x<=N.length:=List.length_filter_le _ _;omega
 have:(cL k N).length<=DO M x:=by
  unfold DO;refine xm (sn hN.nodup) λu hu=> ?_;obtain ⟨rD,hu2⟩:=(uF hN.nodup).1 hu;refine qbs.2 ⟨(fwd u rD hu2).1, ?_⟩;cases h1:ku u x with
  | true=>rfl
  | false=>
   exfalso;have hcx:DO N x<=DO N u:=by
    unfold DO;refine xm (hN.nodup.sublist qbg) λw hw=> ?_;obtain ⟨yH,th⟩:=qbs.1 hw;refine qbs.2 ⟨yH, ?_⟩;by_cases Xq:x=u
    ·rw [←Xq];exact th
    ·exact uE th (Fy Xq h1)
   omega
 omega
theorem DR{b:List cJ}(hn:(b.map (·.1)).Nodup){x:cJ}:ub b x=true↔ ∀y∈b,y.1=x.1->x.2<=y.2:=by
 unfold ub;cases h:sZ b x.1 with
 | none=>simp only [true_iff];exact λy hy e=>absurd e (yy.1 h y hy)
 | some i=>
  obtain ⟨hi,e⟩:=rr h;simp only [decide_eq_true_eq,mg hi]
  constructor
  ·intro hle y hy ey;rw [key_inj hn hy (qae hi) (by rw [ey,e])];exact hle
  ·intro hh;exact hh _ (qae hi) e
theorem DT{b:List cJ}(hn:(b.map (·.1)).Nodup){x:cJ}:kO b x=true↔ ∀y∈b,y.1=x.1->x.2<y.2:=by
 unfold kO;cases h:sZ b x.1 with
 | none=>simp only [true_iff];exact λy hy e=>absurd e (yy.1 h y hy)
 | some i=>
  obtain ⟨hi,e⟩:=rr h;simp only [decide_eq_true_eq,mg hi]
  constructor
  ·intro hle y hy ey;rw [key_inj hn hy (qae hi) (by rw [ey,e])];exact hle
  ·intro hh;exact hh _ (qae hi) e
theorem QH{a b:List cJ}(ha:(a.map (·.1)).Nodup)(hb:(b.map (·.1)).Nodup):BL (a++b) (YW a b):=by
 constructor
 ·unfold YW;rw [qbr,List.nodup_append];refine ⟨ha.sublist (qbg.map _),hb.sublist (qbg.map _), ?_⟩;intro p hp q hq e;obtain ⟨x,hx,rfl⟩:=qcf.1 hp;obtain ⟨y,hy,rfl⟩:=qcf.1 hq;obtain ⟨hx1,tg⟩:=qbs.1 hx;obtain ⟨hy1,hy2⟩:=qbs.1 hy;have h1:=(DR hb).1 tg y hy1 e.symm;have h2:=(DT ha).1 hy2 x hx1 e;omega
 ·intro x;unfold YW Bst;rw [qag,qbs,qbs,DR hb,DT ha,qag]
  constructor
  ·rintro (⟨h1,h2⟩ | ⟨h1,h2⟩)
   ·refine ⟨.inl h1,λy hy e=> ?_⟩;rcases qag.1 hy with h | h
    ·rw [key_inj ha h h1 e];exact Int.le_refl _
    ·exact h2 y h e
   ·refine ⟨.inr h1,λy hy e=> ?_⟩;rcases qag.1 hy with h | h
    ·exact Int.le_of_lt (h2 y h e)
    ·rw [key_inj hb h h1 e];exact Int.le_refl _
  ·rintro ⟨h1,h2⟩;by_cases I7:x∈a
   ·exact .inl ⟨I7,λy hy=>h2 y (qag.2 (.inr hy))⟩
   ·have hxb:x∈b:=h1.resolve_left I7;refine .inr ⟨hxb,λy hy e=> ?_⟩;have hle:=h2 y (qag.2 (.inl hy)) e;rcases Int.lt_or_eq_of_le hle with h | h
    ·exact h
    ·exact absurd (show x∈a by rw [show x=y from Prod.ext e.symm h];exact hy) I7
theorem BL.same{S S' L L':List cJ}{k:Nat}(h:BL S L)(h':BL S' L')(hs: ∀x,x∈S↔x∈S'):cL k L=cL k L':=by
 refine uD ((List.perm_ext_iff_of_nodup h.nodup h'.nodup).2 λx=> ?_);rw [h.mem,h'.mem];unfold Bst
 constructor
 ·rintro ⟨h1,h2⟩;exact ⟨(hs x).1 h1,λy hy=>h2 y ((hs y).2 hy)⟩
 ·rintro ⟨h1,h2⟩;exact ⟨(hs x).2 h1,λy hy=>h2 y ((hs y).1 hy)⟩
theorem QI{L:List cJ}{k:Nat}(hk:k<=16)(h1: ∀x∈L,Ww x=true)(h2:(L.map (·.1)).Nodup):sY (cL k L)=true:=by
 have hn:=HN h2;refine pn.2 ⟨λx hx=>h1 x (Bq _ _ x hx),(xn hn).sublist (List.take_sublist _ _), ?_,by rw [j5];omega⟩;have:=((ef L).2.map (·.1)).nodup_iff.2 h2;exact this.sublist ((List.take_sublist _ _).map _)
end Go.Vs
namespace Go.Vs
theorem FB{n:Nat}(hn:n<=1000000):M.da [] (n:Int)=some []:=by
 unfold M.da;have e0:decide ((n:Int)<0)=false:=decide_eq_false (by omega);have e1:av ((n:Int) - av ((([]:List cJ).length:Int) - (([]:List cJ).length:Int)))=(n:Int):=by
  have:av ((([]:List cJ).length:Int) - (([]:List cJ).length:Int))=0:=by decide
  rw [this,aT (by omega) (by omega)];omega
 have g0:iM ([]:List cJ) 0 (([]:List cJ).length:Int)=some []:=by
  rw [ou (by omega) (by simp) (by simp)];rfl
 simp only [e0,cond_false,e1];by_cases h:0<n
 ·have e2:decide (0<(n:Int))=true:=decide_eq_true (by omega);have g1:Ds ([]:List cJ) (n:Int) (0,0)=some (List.replicate n (0,0)):=by
   unfold Ds;rw [if_pos ⟨by omega,by simp;omega⟩];simp
  have g2:iM (List.replicate n ((0,0):cJ)) 0 (([]:List cJ).length:Int)=some []:=by
   rw [ou (by omega) (by simp) (by simp)];simp
  simp only [e2,cond_true,g0,qa0,g1,g2]
 ·have e2:decide (0<(n:Int))=false:=decide_eq_false (by omega);simp only [e2,cond_false,qa0]
theorem CG{a b:List cJ}(ha:a.length<=100000)(hb:b.length<=100000):M.cN [a,b]=some (a++b):=by
 unfold M.cN;have c0:decide ((0:Int)<(([a,b]:List (List cJ)).length:Int))=true:=rfl;have c1:decide ((1:Int)<(([a,b]:List (List cJ)).length:Int))=true:=rfl;have c2:decide ((2:Int)<(([a,b]:List (List cJ)).length:Int))=false:=rfl;have i0:aZ ([a,b]:List (List cJ)) 0=some a:=rfl;have i1:aZ ([a,b]:List (List cJ)) 1=some b:=rfl;have w0:av ((0:Int)+1)=1:=rfl;have w1:av ((1:Int)+1)=2:=rfl;have s0:av ((0:Int)+(a.length:Int))=(a.length:Int):=by rw [aT (by omega) (by omega)];omega
 have s1:av ((a.length:Int)+(b.length:Int))=((a.length+b.length:Nat):Int):=by rw [aT (by omega) (by omega)];omega
 have n0:decide ((a.length:Int)<0)=false:=decide_eq_false (by omega);have n1:decide (((a.length+b.length:Nat):Int)<0)=false:=decide_eq_false (by omega);rw [bz];simp only [c0,cond_true,i0,qa0,s0,n0,cond_false,w0,bb];rw [bz];simp only [c1,cond_true,i1,qa0,s1,n1,cond_false,w1,bb];rw [bz];simp only [c2,cond_false,qa0,bb,FB (show a.length+b.length<=1000000 by omega)];rw [bz];simp only [c0,cond_true,i0,qa0,mS (show ([]:List cJ).length+a.length<=2147483648 by simp;omega),w0,qb8,bb];rw [bz];simp only [c1,cond_true,i1,qa0,mS (show a.length+b.length<=2147483648 by omega),w1,bb];rw [bz];simp only [c2,cond_false,qa0,bb]
theorem FC{l:List cJ}(hl:l.length<=1000000):M.aU l=some (gB l):=by
 unfold M.aU;obtain ⟨d',h1,h2,h3⟩:=GX (cmp:=Fi) (lt:=ku) (xs:=l) (by omega) (λx _ y _=>Bo x y trivial trivial) (λx _=>pa.irrefl x trivial) (λx _ y _ z _=>pa.trans x y z trivial trivial trivial) (λx _ y _=>pa.total x y trivial trivial);rw [vP h3 h2];exact h1
def Ng(s:List cJ)(x:cJ):List cJ:=if s.all (λy=> !(y.1==x.1))=true then s++[x] else s
def Wy(L:List cJ):List cJ:=L.foldl Ng []
structure Us(P s:List cJ):Prop where
 sub:s.Sublist P
 keys:(s.map (·.1)).Nodup
 all: ∀y∈P, ∃z∈s,z.1=y.1/\z.2<=y.2
theorem Us.nil:Us [] []:=⟨List.Sublist.refl _,by simp,by simp⟩
theorem Us.snoc{P s:List cJ}{x:cJ}(h:Us P s)(hx: ∀y∈P,ku x y=false):Us (P++[x]) (Ng s x):=by
 unfold Ng;by_cases hc:s.all (λy=> !(y.1==x.1))=true
 ·rw [if_pos hc];simp only [qa9,qbc,beq_eq_false_iff_ne] at hc;refine ⟨List.Sublist.append h.sub (List.Sublist.refl _), ?_, ?_⟩
  ·rw [qbr,List.nodup_append];refine ⟨h.keys,by simp, ?_⟩;intro k hk k' pH e;obtain ⟨y,hy,rfl⟩:=qcf.1 hk;simp only [qb5,qbm,qaz] at pH;exact hc y hy (e.trans pH)
  ·intro y hy;rcases qag.1 hy with hy | hy
   ·obtain ⟨z,hz,h1,h2⟩:=h.all y hy;exact ⟨z,by simp [hz],h1,h2⟩
   ·rw [qaz.1 hy];exact ⟨x,by simp,rfl,Int.le_refl _⟩
 ·rw [if_neg hc];refine ⟨h.sub.trans (List.sublist_append_left _ _),h.keys, ?_⟩;intro y hy;rcases qag.1 hy with hy | hy
  ·exact h.all y hy
  ·rw [qaz.1 hy];simp only [qa9,qbc,beq_eq_false_iff_ne] at hc;have: ∃z∈s,z.1=x.1:=qa6 λhn=>hc λz hz e=>hn ⟨z,hz,e⟩;obtain ⟨z,hz,e⟩:=this;refine ⟨z,hz,e, ?_⟩;have:=uC.1 (hx z (h.sub.subset hz));omega
theorem HQ: ∀{Q P s:List cJ},Us P s->(P++Q).Pairwise (λx y=>ku y x=false)->Us (P++Q) (Q.foldl Ng s)
 | [],P,s,h,_=>by simpa using h
 | x::Q,P,s,h,hp=>by
  have e:P++x::Q=(P++[x])++Q:=by simp
  rw [e] at hp ⊢;rw [List.foldl_cons];refine HQ (h.snoc ?_) hp;intro y hy;have:=(List.pairwise_append.1 ((List.pairwise_append.1 hp).1)).2.2 y hy x (by simp);exact this
theorem YX{S:List cJ}:BL S (Wy (gB S))/\xh (Wy (gB S)):=by
 obtain ⟨h1,h2⟩:=ef S;have h:=HQ (Q:=gB S) Us.nil (by rw [qb8];exact h1);rw [qb8] at h;change Us (gB S) (Wy (gB S)) at h;refine ⟨⟨h.keys,λx=>⟨λhx=> ?_,λhx=> ?_⟩⟩,h1.sublist h.sub⟩
 ·refine ⟨h2.mem_iff.1 (h.sub.subset hx),λy hy e=> ?_⟩;obtain ⟨z,hz,e1,e2⟩:=h.all y (h2.mem_iff.2 hy);have:z=x:=key_inj h.keys hz hx (e1.trans e);rw [←this];exact e2
 ·obtain ⟨z,hz,e1,e2⟩:=h.all x (h2.mem_iff.2 hx.1);have h3:=hx.2 z (h2.mem_iff.1 (h.sub.subset hz)) e1;have:z=x:=Prod.ext e1 (by omega);rw [←this];exact hz
theorem Ut{a b:List cJ}{k:Nat}(ha:(a.map (·.1)).Nodup)(hb:(b.map (·.1)).Nodup):(Wy (gB (a++b))).take k=cL k (YW a b):=by
 obtain ⟨h1,h2⟩:=YX (S:=a++b);have h3:=QH ha hb;rw [←h1.same (k:=k) h3 (λx=>Iff.rfl)];unfold cL;rw [vP h2 (List.Perm.refl _)]
theorem CH{a b:List cJ}(ha:a.length<=100000)(hb:b.length<=100000):M.jb a b=some (Wy (gB (a++b))):=by
 unfold M.jb;have hl:(gB (a++b)).length<=200000:=by rw [DK];simp;omega
 simp only [CG ha hb,qa0,FC (show (a++b).length<=1000000 by simp;omega)];generalize gB (a++b)=L at hl;refine oy (xs:=L) (fun (s:List cJ) i=>(s,i)) Ng (λi s=>s.length<=i) (λs=>s) (s0:=[]) (by simp) ?_ ?_ ?_
 ·intro s i hi hs;have e1:decide ((i:Int)<(L.length:Int))=true:=decide_eq_true (by omega);simp only [e1,cond_true,bG hi,qa0,xl (show s.length<=2000000 by omega),HM,gV (i:=i) (show i<4000000000000000000 by omega)];unfold Ng;by_cases hc:s.all (λy=> !(y.1==L[i].1))=true
  ·rw [hc,if_pos rfl];simp only [cond_true,mS (show s.length+[(L[i].1,L[i].2)].length<=2147483648 by simp;omega),qa0,true_and];simp;omega
  ·rw [if_neg hc,qbh] at*;rw [hc];simp only [cond_false,qa0,true_and];omega
 ·intro s _;simp
 ·intro _;rfl
theorem FD{a b:List cJ}{k:Int}(ha:a.length<=2000000)(hb:b.length<=2000000):M.iA a b k=some (Bu a b k):=by
 unfold M.iA Bu;simp only [DN (show a.length<=2000000 by omega),DN (show b.length<=2000000 by omega),HH,qa0];cases hoa:sY a with
 | false=>simp
 | true=>
  cases hob:sY b with
  | false=>simp
  | true=>
   by_cases hk:1<=k/\k<=16
   rotate_left
   ·have:=decide_eq_false hk;simp [this,hk]
   have hd:=decide_eq_true hk;obtain ⟨n,rfl⟩:=qb9 (show 0<=k by omega);have hm:min (n:Int) ((Wy (gB (a++b))).length:Int)=((min n (Wy (gB (a++b))).length:Nat):Int):=by omega
   have hal:=(pn.1 hoa).2.2.2;have hbl:=(pn.1 hob).2.2.2;simp only [hd,qai,cond_false,qa0,true_and,CH (show a.length<=100000 by omega) (show b.length<=100000 by omega),hm];rw [if_pos hk,qal, ←Ut (pn.1 hoa).2.2.1 (pn.1 hob).2.2.1];rw [ou (by omega) (by omega) (by omega)];simp only [qa0,qal,Int.toNat_zero,qce];congr 1;rcases Nat.le_total n (Wy (gB (a++b))).length with h | h
   ·rw [Nat.min_eq_left h]
   ·rw [Nat.min_eq_right h,qbu,qbo h]
end Go.Vs
namespace Go.Vs
theorem QJ{a b:List cJ}{k:Int}:(Bu a b k).length<=16:=by
 unfold Bu;split
 ·rename_i h;rw [j5];omega
 ·simp
theorem Uu{a b:List cJ}{k:Nat}(ha:sY a=true)(hb:sY b=true)(h1:1<=k)(h2:k<=16):Bu a b (k:Int)=cL k (YW a b):=by
 unfold Bu;rw [if_pos ⟨ha,hb,by omega,by omega⟩,qal]
end Go.Vs
namespace Go.Vs
theorem yY{l:List Item}{kind:Int}{v:List Int}:(bW l kind v).map (·.1)=l.map (·.1):=by
 unfold bW;rw [List.map_map];rfl
theorem HR{l:List Item}(h:l.Pairwise (λx y=>x.1<y.1)):(l.map (·.1)).Nodup:=by
 unfold List.Nodup;rw [List.pairwise_map];exact h.imp λh=>by omega
theorem BL.self{S:List cJ}(h:(S.map (·.1)).Nodup):BL S S:=⟨h,λx=>⟨λhx=>⟨hx,λy hy e=>by rw [key_inj h hy hx e];exact Int.le_refl _⟩,λh=>h.1⟩⟩
theorem DU{L:List cJ}{k:Nat}(h:(L.map (·.1)).Nodup):((cL k L).map (·.1)).Nodup:=by
 unfold cL;have:=((ef L).2.map (·.1)).nodup_iff.2 h;exact this.sublist ((List.take_sublist _ _).map _)
theorem Nh{A B:List cJ}{k:Nat}(h:((A++B).map (·.1)).Nodup):cL k (YW (cL k A) (cL k B))=cL k (A++B):=by
 have hA:(A.map (·.1)).Nodup:=h.sublist ((List.sublist_append_left A B).map _);have hB:(B.map (·.1)).Nodup:=h.sublist ((List.sublist_append_right A B).map _);have tA:=DU (k:=k) hA;have tB:=DU (k:=k) hB;have hAB:=List.nodup_append.1 (by rw [qbr] at h;exact h);have hd:((A++cL k B).map (·.1)).Nodup:=by
  rw [qbr,List.nodup_append];refine ⟨hA,tB,λa ha b hb=>hAB.2.2 a ha b ?_⟩;obtain ⟨x,hx,rfl⟩:=qcf.1 hb;exact qcf.2 ⟨x,Bq _ _ x hx,rfl⟩
 have e1:=Lg (k:=k) (BL.self hA) (QH tA tB) (BL.self hd);rw [e1];have hd2:((cL k B++A).map (·.1)).Nodup:=((qc5 (l₁:=A) (l₂:=cL k B)).map (·.1)).nodup_iff.1 hd;have hd3:((B++A).map (·.1)).Nodup:=((qc5 (l₁:=A) (l₂:=B)).map (·.1)).nodup_iff.1 h;have e2:=Lg (k:=k) (BL.self hB) (BL.self hd2) (BL.self hd3);rw [uD (qc5 (l₁:=A) (l₂:=cL k B)),e2];exact uD qc5
theorem vm(l m:List Item)(kind:Int)(v:List Int):bW (l++m) kind v=bW l kind v++bW m kind v:=by unfold bW;rw [qbr]
end Go.Vs
namespace Go.Vs
end Go.Vs
namespace Go.Vs
theorem DV{L:List Item}{kind:Int}{v:List Int}{k:Nat}(hk:k<=16)(qi:isKind kind=true)(hv:fx v=true)(h1: ∀x∈L,kG x=true)(h2:(L.map (·.1)).Nodup):sY (cL k (bW L kind v))=true:=by
 refine QI hk ?_ (by rw [yY];exact h2);intro x hx;obtain ⟨y,hy,rfl⟩:=JZ.1 hx;obtain ⟨q1,q2,_⟩:=oY.1 (h1 y hy);have:=JS qi q2 hv;unfold Ww;simp only [qa4,decide_eq_true_eq];omega
end Go.Vs
namespace Go.Vs
def J2(k s:Int):Int:=389*k % 1009*s / 1009
theorem ru{k s:Int}(h:1<=s):0<=J2 k s/\J2 k s<s:=by
 unfold J2;have h1:0<=389*k % 1009:=Int.emod_nonneg _ (by omega);have h2:389*k % 1009<1009:=Int.emod_lt_of_pos _ (by omega);refine ⟨Int.ediv_nonneg (Int.mul_nonneg h1 (by omega)) (by omega), ?_⟩;rw [Int.ediv_lt_iff_lt_mul (by omega),Int.mul_comm s 1009];exact Int.mul_lt_mul_of_pos_right h2 (by omega)
def B3(l:List Item)(s n:Int):List Item:=l.filter λx=>J2 x.1 s==n
theorem zS{l:List Item}{s n:Int}:(B3 l s n).Sublist l:=qbg
def iT(l:List Item)(s n:Int):List Item:=l.filter λx=>decide (J2 x.1 s<n)
theorem yZ{l:List Item}{s:Int}(h:1<=s):iT l s 0=[]:=by
 unfold iT;rw [List.filter_eq_nil_iff];intro x _;have:=(ru (k:=x.1) h).1;simp;omega
theorem J3{l:List Item}{s:Int}(h:1<=s):iT l s s=l:=by
 unfold iT;rw [List.filter_eq_self];intro x _;have:=(ru (k:=x.1) h).2;simpa using this
theorem y4(l:List Item)(s n:Int):(iT l s n++B3 l s n).Perm (iT l s (n+1)):=by
 have:=Bt (λx:Item=>decide (J2 x.1 s<n)) (λx=>J2 x.1 s==n) l (λx _ h=>by simp at h ⊢;omega);refine this.trans (List.Perm.of_eq ?_);unfold iT;refine List.filter_congr λx _=> ?_;rw [Bool.eq_iff_iff];simp;omega
theorem HS{l m:List Item}{kind:Int}{v:List Int}(h:l.Perm m):(bW l kind v).Perm (bW m kind v):=h.map _
theorem Bv{l:List Item}{kind:Int}{v:List Int}{k:Nat}{s n:Int}(hq:eL l kind v=true)(h1:1<=k)(h2:k<=16):
  Bu (cL k (bW (iT l s n) kind v)) (cL k (bW (B3 l s n) kind v)) (k:Int)=cL k (bW (iT l s (n+1)) kind v):=by
 obtain ⟨ho,qi,hv⟩:=iH.1 hq;obtain ⟨_,hit,hp⟩:=gm.1 ho;have sA:(iT l s n).Sublist l:=qbg;have sB:(B3 l s n).Sublist l:=qbg;have kn: ∀m:List Item,m.Sublist l->(m.map (·.1)).Nodup:=λm hm=>(HR hp).sublist (hm.map _);have oA:=DV (k:=k) h2 qi hv (λx hx=>hit x (sA.subset hx)) (kn _ sA);have oB:=DV (k:=k) h2 qi hv (λx hx=>hit x (sB.subset hx)) (kn _ sB);have PN:=HS (kind:=kind) (v:=v) (y4 l s n);have hn:((bW (iT l s n) kind v++bW (B3 l s n) kind v).map (·.1)).Nodup:=by
  rw [←vm,yY];exact ((y4 l s n).map (·.1)).nodup_iff.2 (kn _ qbg)
 rw [Uu oA oB h1 h2,Nh hn, ←vm];exact uD PN
def uG(l:List Item)(s:Nat)(kind:Int)(v:List Int)(k:Nat)(n:Nat):List cJ:=(List.range n).foldl (fun (out:List cJ) (i:Nat)=>Bu out (cL k (bW (B3 l (s:Int) (i:Int)) kind v)) (k:Int)) []
theorem Bw{l:List Item}{kind:Int}{v:List Int}{k s:Nat}(hq:eL l kind v=true)(h1:1<=k)(h2:k<=16)(hs:1<=s):uG l s kind v k s=cL k (bW l kind v):=by
 have key: ∀n:Nat,uG l s kind v k n=cL k (bW (iT l s n) kind v):=by
  intro n
  induction n with
  | zero=>
   have:=yZ (l:=l) (s:=(s:Int)) (by omega);unfold uG;rw [Int.natCast_zero,this];simp [bW,cL,gB]
  | succ n ih=>
   have:=Bv (s:=(s:Int)) (n:=(n:Int)) hq h1 h2;unfold uG at ih ⊢;rw [List.range_succ,List.foldl_append,ih,List.foldl_cons,List.foldl_nil,this]
   rfl
 rw [key,J3 (by omega)]
end Go.Vs
namespace Go.Vs
end Go.Vs
namespace Go.Vs
theorem By{k s:Int}(hk:1<=k/\k<=99)(hs:1<=s/\s<=8):M.kj k s=some (J2 k s):=by
 unfold M.kj;have h1:0<=389*k % 1009:=Int.emod_nonneg _ (by omega);have h2:389*k % 1009<1009:=Int.emod_lt_of_pos _ (by omega);have e1:av (389*k)=389*k:=aT (by omega) (by omega);have e2:(389*k).tmod 1009=389*k % 1009:=Int.tmod_eq_emod_of_nonneg (by omega);have h3:0<=389*k % 1009*s:=Int.mul_nonneg h1 (by omega);have h4:389*k % 1009*s<=1009*8:=Int.mul_le_mul (by omega) hs.2 (by omega) (by omega);have e3:av (389*k % 1009*s)=389*k % 1009*s:=aT (by omega) (by omega);have e4:(389*k % 1009*s).tdiv 1009=389*k % 1009*s / 1009:=Int.tdiv_eq_ediv_of_nonneg h3;have hr:=ru (k:=k) hs.1;rw [e1,e2,e3,e4];unfold J2 at*;rw [aT (by omega) (by omega)]
def shV(k s:Int):Int:=if (1<=k/\k<=99)/\1<=s/\s<=8 then J2 k s else -1
theorem J4(k s:Int):M.lZ k s=some (shV k s):=by
 unfold M.lZ M.dO shV;simp only [yX,qa0];by_cases hk:1<=k/\k<=99
 rotate_left
 ·rw [if_neg λh=>hk h.1];simp [decide_eq_false hk]
 by_cases hs:1<=s/\s<=8
 rotate_left
 ·rw [if_neg λh=>hs h.2];by_cases h1:1<=s
  ·have: ¬s<=8:=λh=>hs ⟨h1,h⟩;simp [decide_eq_true hk,h1,this]
  ·simp [decide_eq_true hk,h1]
 rw [if_pos ⟨hk,hs⟩];have h:=By hk hs;unfold M.kj at h;simp only [decide_eq_true hk,decide_eq_true hs.1,decide_eq_true hs.2,qai,cond_true,cond_false,qa0];exact h
theorem DW{l:List Item}(h:fi l=true){x:Item}(hx:x∈l):1<=x.1/\x.1<=99:=(oY.1 ((gm.1 h).2.1 x hx)).1
theorem J5{l:List Item}{s n:Int}(h:fi l=true)(hs:1<=s/\s<=8):M.ja l s n=some (B3 l s n):=by
 unfold M.ja;obtain ⟨hlen,hit,_⟩:=gm.1 h;refine oy (xs:=l) (fun (s:List Item) i=>(s,i)) (λt x=>if (J2 x.1 s==n)=true then t++[x] else t) (λi t=>t.length<=i) (λt=>t) (s0:=[]) (by simp) ?_ ?_ ?_
 ·intro t i hi ht;have e1:decide ((i:Int)<(l.length:Int))=true:=decide_eq_true (by omega);have hx:=qae hi;have h4:=Bh (hit _ hx);simp only [e1,cond_true,bG hi,qa0,By (DW h hx) hs,CC (show l[i].2.1.length<=1000000 by omega),gV (i:=i) (by omega)];cases (J2 l[i].1 s==n) with
  | true=>
   simp only [cond_true,if_true];rw [mS (by simp;omega)];exact ⟨rfl,by simp;omega⟩
  | false=>exact ⟨by simp,by simpa using Nat.le_succ_of_le ht⟩
 ·intro t _;simp
 ·intro _;rw [foldl_filter];rfl
def YY(l:List Item)(s n:Int):List Item:=if fi l=true/\1<=s/\s<=8 then B3 l s n else []
theorem Uv{l:List Item}{s n:Int}(h:fi l=true)(hs:1<=s/\s<=8):YY l s n=B3 l s n:=if_pos ⟨h,hs⟩
theorem HT{l:List Item}{s n:Int}(h:fi l=true)(hs:1<=s/\s<=8):M.cD l s n=some (B3 l s n):=by
 unfold M.cD M.fh;obtain ⟨hlen,hit,_⟩:=gm.1 h;refine oy (xs:=l) (fun (s:List Item) i=>(s,i)) (λt x=>if (J2 x.1 s==n)=true then t++[x] else t) (λi t=>t.length<=i) (λt=>t) (s0:=[]) (by simp) ?_ ?_ ?_
 ·intro t i hi ht;have e1:decide ((i:Int)<(l.length:Int))=true:=decide_eq_true (by omega);have hx:=qae hi;have hV:shV l[i].1 s=J2 l[i].1 s:=if_pos ⟨DW h hx,hs⟩;simp only [e1,cond_true,bG hi,qa0,J4,hV,gV (i:=i) (by omega)];cases (J2 l[i].1 s==n) with
  | true=>
   simp only [cond_true,if_true];rw [mS (by simp;omega)];exact ⟨rfl,by simp;omega⟩
  | false=>exact ⟨by simp,by simpa using Nat.le_succ_of_le ht⟩
 ·intro t _;simp
 ·intro _;rw [foldl_filter];rfl
theorem Bz(s:Int):M.dO s=some (decide (1<=s/\s<=8)):=by
 unfold M.dO;by_cases h1:1<=s <;> by_cases h2:s<=8 <;> simp [h1,h2]
theorem HU{l:List Item}{s n:Int}(sl:gx l):M.eZ l s n=some (YY l s n):=by
 unfold M.eZ YY;simp only [sl.impl,Bz,qa0];cases ho:fi l with
 | false=>simp
 | true=>
  by_cases hs:1<=s/\s<=8
  ·rw [if_pos ⟨rfl,hs⟩];have hsm:gx (B3 l s n):=⟨qa8 zS.length_le sl.1,λx hx=>sl.2 x (zS.subset hx)⟩;simp only [decide_eq_true hs,qai,cond_false,qa0,HT ho hs,Fg hsm]
  ·rw [if_neg λh=>hs h.2];simp [decide_eq_false hs]
end Go.Vs
namespace Go.Vs
end Go.Vs
namespace Go.Vs
end Go.Vs
namespace Go.Vs
end Go.Vs
namespace Go.Vs
end Go.Vs
namespace Go.Vs
end Go.Vs
namespace Go.Vs
def mU(l:List Item)(s kind:Int)(v:List Int)(k:Int):List cJ:=if eL l kind v=true/\(1<=s/\s<=8)/\1<=k/\k<=16 then uG l s.toNat kind v k.toNat s.toNat else []
theorem FE{l:List Item}{s kind:Int}{v:List Int}{k:Int}(hs:1<=s/\s<=8):mU l s kind v k=pj l kind v k:=by
 unfold mU pj;by_cases h:eL l kind v=true/\1<=k/\k<=16
 ·rw [if_pos ⟨h.1,hs,h.2⟩,if_pos h,Bw h.1 (by omega) (by omega) (by omega)]
 ·rw [if_neg λq=>h ⟨q.1,q.2.2⟩,if_neg h]
theorem CI{l:List Item}{s kind:Int}{v:List Int}{k:Int}(sl:gx l)(hv:v.length<2000000):M.gO l s kind v k=some (mU l s kind v k):=by
 unfold M.gO mU;simp only [CF sl hv,vQ,qa0];cases hq:eL l kind v with
 | false=>simp
 | true=>
  by_cases hs:1<=s/\s<=8
  rotate_left
  ·rw [if_neg λh=>hs h.2.1];simp [decide_eq_false hs]
  by_cases hk:1<=k/\k<=16
  rotate_left
  ·rw [if_neg λh=>hk h.2.2];simp [decide_eq_true hs,decide_eq_false hk]
  obtain ⟨n,rfl⟩:=qb9 (show 0<=k by omega);obtain ⟨m,rfl⟩:=qb9 (show 0<=s by omega);obtain ⟨ho,qi,hvv⟩:=iH.1 hq;rw [if_pos ⟨rfl,hs,hk⟩];simp only [decide_eq_true hs,decide_eq_true hk,qai,cond_false,qa0,qal];refine Nd (fun (t:List cJ) i=>(t,i)) (λt i=>Bu t (cL n (bW (B3 l (m:Int) (i:Int)) kind v)) (n:Int)) (λi t=>t.length<=16) (λt=>t) 0 m (s0:=[]) (by omega) (by simp) ?_ ?_ ?_
  ·intro t i hi ht;have e1:decide ((i:Int)<(m:Int))=true:=decide_eq_true (by omega);have q1:eL (B3 l (m:Int) (i:Int)) kind v=true:=iH.2 ⟨yV ho zS,qi,hvv⟩;have l1:(cL n (bW (B3 l (m:Int) (i:Int)) kind v)).length<=16:=by rw [j5];omega
   simp only [e1,cond_true,J5 ho hs,qa0,zy q1 (show n<=1000 by omega),Fu (show t.length<=2000000 by omega) (show (cL n (bW (B3 l (m:Int) (i:Int)) kind v)).length<=2000000 by omega),gV (i:=i) (by omega)];exact ⟨trivial,QJ⟩
  ·intro t _;simp
  ·intro _;unfold uG;rw [Nat.sub_zero,List.range_eq_range']
theorem HV{l:List Item}{s kind:Int}{v:List Int}{k:Int}:(mU l s kind v k).length<=16:=by
 by_cases hs:1<=s/\s<=8
 ·rw [FE hs];exact Bs
 ·unfold mU;rw [if_neg λh=>hs h.2.1];simp
end Go.Vs
namespace Go.Vs
end Go.Vs
namespace Go.Vs
end Go.Vs
namespace Go.Vs
end Go.Vs
namespace Go.Vs
end Go.Vs
namespace Go.Vs
end Go.Vs
namespace Go.Vs
theorem HW{β:Type}{f:Nat->Option β}{g:Nat->β}: ∀{n:Nat},(∀i,i<n->f i=some (g i))->Dy f n=some ((List.range n).map g)
 | 0,_=>rfl
 | n+1,h=>by
  rw [Dy,HW (λi hi=>h i (by omega)),qa0,h n (by omega),qa0,List.range_succ,qbr]
  rfl
theorem CJ{l:List Item}{s kind:Int}{v:List Int}{k:Int}(sl:gx l)(hv:v.length<2000000):M.fQ l s kind v k=some (mU l s kind v k):=by
  unfold M.fQ mU;simp only [Bz,qa0];by_cases hs:1<=s/\s<=8
  rotate_left
  ·rw [if_neg λh=>hs h.2.1];simp [decide_eq_false hs]
  simp only [decide_eq_true hs,qai,cond_false,pk sl hv,qa0];by_cases hq:eL l kind v=true/\1<=k/\k<=16
  rotate_left
  ·rw [if_neg λh=>hq ⟨h.1,h.2.2⟩];simp [decide_eq_false hq]
  obtain ⟨hq,hk⟩:=hq;obtain ⟨n,rfl⟩:=qb9 (show 0<=k by omega);obtain ⟨m,rfl⟩:=qb9 (show 0<=s by omega);obtain ⟨ho,qi,hvv⟩:=iH.1 hq;rw [if_pos ⟨hq,hs,hk⟩];simp only [decide_eq_true (show eL l kind v=true/\1<=(n:Int)/\(n:Int)<=16 from ⟨hq,hk⟩),qai,cond_false,qal]
  let g:Nat->List cJ:=λi=>cL n (bW (B3 l (m:Int) (i:Int)) kind v)
  have acD: ∀i:Nat,fi (B3 l (m:Int) (i:Int))=true:=λi=>yV ho zS;have hf:M.fP l (m:Int) kind v (n:Int)=some ((List.range m).map g++List.replicate (8 - m) []):=by
   unfold M.fP;rw [HW (g:=g) (λi hi=> ?_)]
   ·simp
   ·have q1:eL (B3 l (m:Int) (i:Int)) kind v=true:=iH.2 ⟨acD i,qi,hvv⟩;rw [HU sl,qa0,Uv ho hs,Br (CB (acD i)) hv,HI q1 hk.1 hk.2];simp [g]
  rw [hf,qa0];have KI: ∀i:Nat,i<8->aZ ((List.range m).map g++List.replicate (8 - m) []) (i:Int)=some (g i):=by
   intro i hi;rw [bG (by simp;omega)];congr 1;by_cases him:i<m
   ·rw [qb1 (by simpa using him)];simp
   ·rw [qb6 (by simp;omega)];have:B3 l (m:Int) (i:Int)=[]:=by
     unfold B3;rw [List.filter_eq_nil_iff];intro x _;have:=(ru (k:=x.1) (s:=(m:Int)) hs.1).2;simp;omega
    simp [g,this,bW,cL,gB]
  have hb0:([]:List cJ)=cL n (bW (iT l (m:Int) ((0:Nat):Int)) kind v):=by
   rw [Int.natCast_zero,yZ hs.1];simp [bW,cL,gB]
  have ml:iT l (m:Int) ((8:Nat):Int)=l:=by
   unfold iT;rw [List.filter_eq_self];intro x _;have:=(ru (k:=x.1) (s:=(m:Int)) hs.1).2;simp;omega
  have hlen: ∀x:List Item,(cL n (bW x kind v)).length<=16:=λx=>by rw [j5];omega
  have bH:=rh (R:=List cJ) (r:=cL n (bW l kind v)) (f:=fun (Ck:(List (Int×Int))×(Int))=>(bif decide (Ck.2<8) then
  (aZ ((List.range m).map g++List.replicate (8 - m) []) Ck.2).bind λTK=>
  (M.iA Ck.1 TK (n:Int)).bind λBZ=>
  some (.inl (BZ,av (Ck.2+1)))
 else
  some (.inr Ck.1))) 8 (λi=>(cL n (bW (iT l (m:Int) (i:Int)) kind v),(i:Int))) ?_ ?_
  ·have hz:(([]:List cJ),(0:Int))=(cL n (bW (iT l (m:Int) ((0:Nat):Int)) kind v),((0:Nat):Int)):=by rw [←hb0];rfl
   rw [hz,bH,qa0,Bw hq (by omega) (by omega) (by omega)]
  ·intro i hi;have d1:decide ((i:Int)<8)=true:=decide_eq_true (by omega);have e6:av ((i:Int)+1)=((i+1:Nat):Int):=aT (by omega) (by omega);have h1:=hlen (iT l (m:Int) (i:Int));have h2:=hlen (B3 l (m:Int) (i:Int));have er:=Bv (s:=(m:Int)) (n:=(i:Int)) (k:=n) hq (by omega) (by omega);simp only [d1,cond_true,KI i hi,qa0,g,FD (show (cL n (bW (iT l (m:Int) (i:Int)) kind v)).length<=2000000 by omega) (show (cL n (bW (B3 l (m:Int) (i:Int)) kind v)).length<=2000000 by omega),er,e6]
   rfl
  ·have d1:decide (((8:Nat):Int)<8)=false:=by decide
   simp only [d1,cond_false,ml]
theorem tc(l:List Item)(s kind:Int)(at_:List Int)(n:Int)(ha:l.length<=9223372036854775807/\ ∀x∈l,(True/\((x.2.1.length<=9223372036854775807/\ ∀y∈x.2.1,True)/\True))):M.fG l s kind at_ n=some true:=by
 unfold M.fG;by_cases hc:1048576<(at_.length:Int)
 ·simp [hc]
 have la:at_.length<=1048576:=by omega
 have la':at_.length<2000000:=by omega
 obtain ⟨t,es,hs⟩:=Bf (left:=1048576) ha.1 (λx hx=>(ha.2 x hx).2.1.1) (by omega) (by omega);simp only [hc,decide_false,cond_false,es,qa0];rcases hs with hs | ⟨h0,h1,h2⟩
 ·simp [hs]
 have hn: ¬t<0:=by omega
 have hb: ∀x∈l,x.2.1.length<2000000:=λx hx=>by have:=h2 x hx;omega
 have ss:gx l:=⟨by omega,h2⟩;have lm:(mU l s kind at_ n).length<2000000:=by have:=HV (l:=l) (s:=s) (kind:=kind) (v:=at_) (k:=n);omega
 obtain ⟨k,hk,k1,k2⟩:=Fh h1 h2;have hn1: ¬(k+(at_.length:Int))<0:=by omega
 have IJ: ¬(1+2*((mU l s kind at_ n).length:Int))<0:=by omega
 simp only [hn,decide_false,cond_false,yw la,DI h1 h2,qa0,CJ ss la',CI ss la',HL lm,DG la',Fc (show l.length<2000000 by omega) hb,decide_true,qai,hk,yW (k:=k) la' (by omega) (by omega),hn1,HJ lm acA acB,HK lm acA acB,IJ,bne_self_eq_false]
end Go.Vs
