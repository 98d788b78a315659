import Derived.Test.YtophdnlmpfmeiaaGreatDoorC23
import Derived.Test.YtophdnlmpfmeiaaGreatDoorC24
import Derived.Test.YtophdnlmpfmeiaaGreatDoorC25
import Derived.Test.YtophdnlmpfmeiaaGreatDoorC26
namespace Go.Proofs.YtophdnlmpfmeiaaGreatDoor
open ChangeShapes WideShapes RowKit Proofs.Tryz
set_option maxHeartbeats 16000000
set_option linter.all false
set_option maxRecDepth 100000
structure PR(n:Nat)(rs:List (List E)):Prop where
 rY:mF rs
 li:∀r∈rs,fG r
 gU:∀x∈rs.flatten,x.Good
 low:∀x∈rs.flatten,x.bV<=n
def Cf{x:E}(h:x.Good):x.key≠⟨#[]⟩:=λe=>by
 have:=h.LH;rw[e]at this;simp[ByteArray.size]at this
def PR.keys{n:Nat}{a:List (List E)}(h:PR n a):∀x∈a.flatten,x.key≠⟨#[]⟩:=λx b=>Cf (h.gU x b)
def Hk{C a D:List (List E)}{x:E}:x∈(C++a++D).flatten↔x∈C.flatten\/x∈a.flatten\/x∈D.flatten:=by
 simp only[dl,aw,or_assoc]
def PR.Qh{n:Nat}{C f c D:List (List E)}(h:PR n (C++f++D))(g:mF c)(j:∀r∈c,fG r)(a:∀x∈c.flatten,x∈f.flatten):PR n (C++c++D):=by
 have d:∀x,x∈(C++c++D).flatten->x∈(C++f++D).flatten:=by
  intro x d;rw[Hk]at d|-;exact d.imp id (λe=>e.imp (a x) id)
 refine⟨IW h.rY g a,λr i=>?_,λx b=>h.gU x (d x b),λx b=>h.low x (d x b)⟩;rcases aw.1 i with e|e
 ·rcases aw.1 e with e|e
  ·exact h.li r (by simp[e])
  ·exact j r e
 ·exact h.li r (by simp[e])
def PR.cons{h n:Nat}{m:List E}{k:List (List E)}(j:PR h k)(z:h<=n)(s:fG m)(r:∀x∈m,x.Good)(e:∀x∈m,(h:Int)<x.bV)(d:∀x∈m,x.bV<=n):PR n (m::k):=by
 refine⟨?_,?_,?_,?_⟩
 ·unfold mF;rw[bL];refine⟨λt g u o b q _=>?_,j.rY⟩;have w:=j.low b (bH.2 ⟨t,g,q⟩);have y:=e u o;omega
 ·intro t g;rcases aD.1 g with rfl|c
  ·exact s
  ·exact j.li t c
 ·intro x a;rw[aT,aw]at a;rcases a with c|c
  ·exact r x c
  ·exact j.gU x c
 ·intro x a;rw[aT,aw]at a;rcases a with c|c
  ·exact d x c
  ·have:=j.low x c;omega
def PR.za{n:Nat}{a:List (List E)}(h:PR n a):PR n ([]::a):=h.cons (ai _) fG.nil (by simp) (by simp) (by simp)
def PR.tail{n:Nat}{m:List E}{b:List (List E)}(h:PR n (m::b)):PR n b:=⟨(bL.1 h.rY).2,λr c=>h.li r (by simp[c]),λx a=>h.gU x (by rw[aT];simp[a]),λx a=>h.low x (by rw[aT];simp[a])⟩
def qf(a:List (List E))(k:aa):seen ([]::a) k=seen a k:=by
 unfold seen;rw[ld,JC,ik]
def bZ(a b c d:List ar):List (List E):=(a.map ar.all).reverse++[bN b,bN c,bN d]
def yH(a b c d:List ar)(t:ar):bZ (a++[t]) b c d=t.all::bZ a b c d:=by simp[bZ]
def ni{a:List ar}{l:List E}(h:a.map ar.all=jf l):bN a=l:=by
 unfold bN;rw[h];exact FR l
def PM(b:Bool):pE b []=[]:=by cases b<;>rfl
def zq{ts:List ar}(h:ts.isEmpty=true):bN ts=[]:=by
 rw[List.isEmpty_iff]at h;rw[h];rfl
def Gw{w:Nat}{b d c e f:List ar}(n:PR w (bZ b d c e))(l:f.map ar.all=jf (nC (c.isEmpty&&e.isEmpty) b d)):PR w (bZ [] f c e)/\(∀k,seen (bZ [] f c e) k=seen (bZ b d c e) k)/\(bN f).length<=(bN b).length+(bN d).length:=by
 have m:bN f=nC (c.isEmpty&&e.isEmpty) b d:=ni l;have a:bZ b d c e=[]++((b.map ar.all).reverse++[bN d])++[bN c,bN e]:=by simp[bZ]
 have h:bZ [] f c e=[]++[nC (c.isEmpty&&e.isEmpty) b d]++[bN c,bN e]:=by simp[bZ,m]
 rw[a]at n;have t:∀r∈b.map ar.all,fG r:=λr a=>n.li r (by simp only[cL,aw,gh];exact .inl (.inl a));have p:fG (bN d):=n.li _ (by simp);have s:mF ((b.map ar.all).reverse++[bN d]):=(bU.1 n.rY).1;have q:∀m∈((b.map ar.all).reverse++[bN d]).flatten,m.key≠⟨#[]⟩:=λm a=>n.keys m (Hk.2 (.inr (.inl a)));have o:(c.isEmpty&&e.isEmpty)=true->∀k,nu [bN c,bN e] k=none:=λg k=>by
  rw[mU]at g;exact AT (by intro r a;simp only[aD,cS,gX]at a;rcases a with rfl|rfl;exact zq g.1;exact zq g.2) k
 obtain⟨u,v⟩:=Hx t p s q o;have i:∀x∈[nC (c.isEmpty&&e.isEmpty) b d].flatten,x∈((b.map ar.all).reverse++[bN d]).flatten:=by
  intro x j;rw[aT,dH,cN]at j;have:=lq ((iE _ _).subset j);rw[aT,aw]at this;rw[dl,aw,aT,dH,cN];rcases this with c|c
  ·exact .inr c
  ·refine .inl ?_;obtain⟨y,g,j⟩:=bH.1 c;exact bH.2 ⟨y,gh.2 g,j⟩
 refine⟨?_,λk=>?_,?_⟩
 ·rw[h];exact n.Qh (by unfold mF;simp) (by intro r a;simp only[aD,cS,gX]at a;subst a;exact u) i
 ·rw[a,h];exact yD v k
 ·rw[m];have x:=EM (c.isEmpty&&e.isEmpty) (dt ⟨#[]⟩ (bN d::b.map ar.all));have j:=lu ⟨#[]⟩ (bN d::b.map ar.all);rw[aT,ag]at j;unfold nC;have:(b.map ar.all).flatten=bN b:=rfl;rw[this]at j;omega
def Mr{α:Type}(l:List α)(j:Nat)(h:j<l.length):l=l.take j++[l[j]]++l.drop (j+1):=by
 rw[aV,iZ,iJ,bF]
def OV{α:Type}(l:List α){p q:Nat}(h:p<=q):l=l.take p++(l.drop p).take (q-p)++l.drop q:=by
 have a:l.drop q=(l.drop p).drop (q-p):=by rw[List.drop_drop];congr 1;omega
 rw[aV,a,bF,bF]
def DS{u v e:List ar}{D:List (List E)}{a:Bool}{j p q:Nat}(Q:jp u)(k:jp v)(A:Over (bN u) (bN v))(N:∀x,x∈bN u\/x∈bN v->x.Good)(O:j<u.length)(y:vL v (fh u[j].ks) (fm u[j].ks) p q)(C:e.map ar.all=jf (nC a [u[j]] ((v.drop p).take (q-p))))(T:a=true->∀ad,nu D ad=none):fG (bN e)/\fG (bN (v.take p++e++v.drop q))/\Bp [bN u,bN v] [bN (u.take j++u.drop (j+1)),bN (v.take p++e++v.drop q)] D/\Over (bN (u.take j++u.drop (j+1))) (bN (v.take p++e++v.drop q))/\(∀x,x∈bN (u.take j++u.drop (j+1))\/x∈bN (v.take p++e++v.drop q)->x∈bN u\/x∈bN v)/\(∀x∈bN e,x∈bN u\/x∈bN v)/\(bN (u.take j++u.drop (j+1))).length+(bN (v.take p++e++v.drop q)).length<=(bN u).length+(bN v).length:=by
 have ac:bN e=pE a (dt ⟨#[]⟩ [bN ((v.drop p).take (q-p)),u[j].all]):=ni C;have m:bN u=bN (u.take j)++u[j].all++bN (u.drop (j+1)):=by
  have h:bN [u[j]]=u[j].all:=by simp[bN]
  conv=>lhs;rw[Mr u j O,gw,gw,h]
 have n:bN v=bN (v.take p)++bN ((v.drop p).take (q-p))++bN (v.drop q):=by
  conv=>lhs;rw[OV v y.le,gw,gw]
 have L:=Q.pure u[j] (au O);have r:∀K∈bN (v.take p),∀H∈u[j].all,ep K.key H.key=true:=by
  intro K t H w;obtain⟨al,B,g⟩:=oY.1 t;obtain⟨G,z,rfl⟩:=eO.1 B;have b:G<p/\G<v.length:=by rw[cU]at z;omega
  rw[fi]at g;have h:=(k.pure v[G] (au b.2)).xU g;have i:=y.Ox.low G b.2 b.1;have o:=L.Ep w;exact Gf (sZ h i) o
 have s:∀K∈u[j].all,∀H∈bN (v.drop q),ep K.key H.key=true:=by
  intro K t H w;obtain⟨al,B,g⟩:=oY.1 w;obtain⟨G,z,rfl⟩:=eO.1 B;have b:q+G<v.length:=by rw[fE]at z;omega
  rw[pH]at g;have l:q<v.length:=by omega
  have h:=y.behind l;have i:=L.xU t;obtain⟨x,d,F⟩:=(k.pure v[q] (au l)).AW;have o:ep H.key (fh v[q].ks)=false:=by
   rcases de G with rfl|P
   ·exact(k.pure v[q] (au l)).Ep g
   ·rw[<-F];exact fV (k.pair l b (by omega) d g)
  exact Gf (sZ i h) o
 have U:∀x∈u[j].all++bN ((v.drop p).take (q-p)),x.key≠⟨#[]⟩:=by
  intro x d;rcases aw.1 d with c|c
  ·exact Cf (N x (.inl (by rw[m];simp[c])))
  ·exact Cf (N x (.inr (by rw[n];simp[c])))
 have R:=Q.li;have S:=k.li;rw[m]at R A;rw[n]at S A;obtain⟨V,W,X,r4⟩:=Lj R S A U r s T;rw[gw,gw,gw,ac,m,n];have f:∀x∈pE a (dt ⟨#[]⟩ [bN ((v.drop p).take (q-p)),u[j].all]),x∈u[j].all\/x∈bN ((v.drop p).take (q-p)):=by
  intro x d;have:=lq ((iE _ _).subset d);rw[aT,aT,dH,cN,aw]at this;exact this.symm
 refine⟨V,W,X,r4,?_,?_,?_⟩
 ·intro x d;simp only[aw]at d|-;rcases d with(c|c)|(c|c)|c
  ·exact .inl (.inl (.inl c))
  ·exact .inl (.inr c)
  ·exact .inr (.inl (.inl c))
  ·rcases f x c with c|c
   ·exact .inl (.inl (.inr c))
   ·exact .inr (.inl (.inr c))
  ·exact .inr (.inr c)
 ·intro x d;simp only[aw];rcases f x d with c|c
  ·exact .inl (.inl (.inr c))
  ·exact .inr (.inl (.inr c))
 ·have h:=EM a (dt ⟨#[]⟩ [bN ((v.drop p).take (q-p)),u[j].all]);have i:=lu ⟨#[]⟩ [bN ((v.drop p).take (q-p)),u[j].all];rw[aT,aT,dH,cN,ag]at i;simp only[ag];omega
def Lo{r s:List E}(h:Over r s):mF [r,s]:=by
 unfold mF;simp only[bL,aD,cS,gX,forall_eq,dK,oG,false_implies,implies_true];exact h
def Hc{C D:List (List E)}{r s:List E}(h:mF (C++[r,s]++D)):Over r s:=by
 have a:=(bU.1 (bU.1 h).1).2.1;exact(bL.1 a).1 s (by simp)
def Gv{A:Nat}{i b c g d:List ar}{j p q:Nat}(o:PR A (bZ i b c g))(l:jp b)(r:jp c)(n:j<b.length)(hcut:vL c (fh b[j].ks) (fm b[j].ks) p q)(h:d.map ar.all=jf (nC g.isEmpty [b[j]] ((c.drop p).take (q-p)))):PR A (bZ i (b.take j++b.drop (j+1)) (c.take p++d++c.drop q) g)/\(∀k,seen (bZ i (b.take j++b.drop (j+1)) (c.take p++d++c.drop q) g) k=seen (bZ i b c g) k)/\fG (bN d)/\(∀x∈bN d,x.Good)/\(bN (b.take j++b.drop (j+1))).length+(bN (c.take p++d++c.drop q)).length<=(bN b).length+(bN c).length:=by
 have a:∀x y:List ar,bZ i x y g=(i.map ar.all).reverse++[bN x,bN y]++[bN g]:=λx y=>by simp[bZ]
 rw[a]at o;have m:∀x,x∈bN b\/x∈bN c->x.Good:=λx f=>o.gU x (Hk.2 (.inr (.inl (by simpa using f))));obtain⟨s,t,u,v,w,y,z⟩:=DS (D:=[bN g]) l r (Hc o.rY) m n hcut h (λb k=>AT (by intro B a;simp only[aD,cS,gX]at a;subst a;exact zq b) k);refine⟨?_,λk=>?_,s,λx f=>m x (y x f),z⟩
 ·rw[a];refine o.Qh (Lo v) (λB e=>?_) (λx f=>?_)
  ·simp only[aD,cS,gX]at e;rcases e with rfl|rfl
   ·rw[gw];have:=l.li.sub (mz (us:=b.take j++b.drop (j+1)) (ts:=b) (by(conv=>rhs;rw[Mr b j n]);rw[aV];exact(dJ _).append (eR _ _)));rwa[gw]at this
   ·exact t
  ·have:=w x (by simpa using f);simpa using this
 ·rw[a,a];exact yD u k
def Gu{A:Nat}{h i c d a:List ar}{j p q:Nat}(o:PR A (bZ h i c d))(l:jp c)(r:jp d)(n:j<c.length)(hcut:vL d (fh c[j].ks) (fm c[j].ks) p q)(g:a.map ar.all=jf (nC true [c[j]] ((d.drop p).take (q-p)))):PR A (bZ h i (c.take j++c.drop (j+1)) (d.take p++a++d.drop q))/\(∀k,seen (bZ h i (c.take j++c.drop (j+1)) (d.take p++a++d.drop q)) k=seen (bZ h i c d) k)/\fG (bN a)/\(∀x∈bN a,x.Good)/\(bN (c.take j++c.drop (j+1))).length+(bN (d.take p++a++d.drop q)).length<=(bN c).length+(bN d).length:=by
 have f:∀x y:List ar,bZ h i x y=((h.map ar.all).reverse++[bN i])++[bN x,bN y]++[]:=λx y=>by simp[bZ]
 rw[f]at o;have m:∀x,x∈bN c\/x∈bN d->x.Good:=λx e=>o.gU x (Hk.2 (.inr (.inl (by simpa using e))));obtain⟨s,t,u,v,w,y,z⟩:=DS (D:=[]) l r (Hc o.rY) m n hcut g (λb k=>tK k);refine⟨?_,λk=>?_,s,λx e=>m x (y x e),z⟩
 ·rw[f];refine o.Qh (Lo v) (λB b=>?_) (λx e=>?_)
  ·simp only[aD,cS,gX]at b;rcases b with rfl|rfl
   ·rw[gw];have:=l.li.sub (mz (us:=c.take j++c.drop (j+1)) (ts:=c) (by(conv=>rhs;rw[Mr c j n]);rw[aV];exact(dJ _).append (eR _ _)));rwa[gw]at this
   ·exact t
  ·have:=w x (by simpa using e);simpa using this
 ·rw[f,f];exact yD u k
def tI{w:J}{base:Nat}{h:List ar}{l:List E}(s:h.map ar.all=jf l)(p:∀t∈h,uz w base t)(k:fG l)(n:∀x∈l,x.Good):∀t∈h,pF t.ks t.cs/\CK (aW 0 t.cs)/\t.ks=aW 0 t.cs/\t.all.length<=100:=by
 intro t m;obtain⟨q,bJ,x,eL,d⟩:=p t m;have i:t.all∈jf l:=by rw[<-s];exact gL m
 unfold jf at i;obtain⟨u,o,j⟩:=aZ.1 i;have e:u<fK l.length:=by simpa using o
 obtain⟨_,f,g⟩:=sQ e;rw[j]at f g;have a:t.all.Sublist l:=by rw[<-j];exact(lW _ _).trans (jk _ _)
 have c:t.all≠[]:=by intro r;rw[r]at f;simp at f
 have b:∀x∈t.all,x.Good:=λx c=>n x (a.subset c);refine⟨?_,d.pieces.idx c b (k.sub a) g,d.ks,g⟩;rw[d.ks];exact d.pieces.dw c b (k.sub a)
theorem nR.Jl{w w':J}{e:Nat}{o:Fs}{A:Nat->Prop}{t:ar}(n:nR w e o A t)(q:∀k,A k->w'.heap[k]?=w.heap[k]?):nR w' e o A t:=by
 obtain⟨r,m,bJ,s,p⟩:=n.mem;exact⟨⟨r,m,bJ,s.dh (q _ n.loc) (q _ p),p⟩,n.loc,n.ks,n.num,n.pure,n.idx,n.small,n.file⟩
structure ET(t:ar):Prop where
 pure:pF t.ks t.cs
 idx:CK (aW 0 t.cs)
 small:(cC t.cs).length<=100000
def CE(e sb base:Nat)(K:DK)(k:Nat):Prop:=k<base/\¬K.aS e k/\k≠sb
def XT(g:List ar)(f:List NT)(t:ar):Prop:=t∈g\/∃p∈f,p.t=t
def mS(w:J)(e sb base:Nat)(K:DK)(v:M):Prop:=∀k,v.ownBlock=some k->k<w.heap.size/\¬K.aS e k/\k≠sb/\(k<base\/∃m n,w.heap[k]?=some (.cells m 199 n))
theorem mS.ay{w w':J}{e sb base:Nat}{K:DK}{v:M}(A:mS w e sb base K v)(y:I (K.aS e) w w'):mS w' e sb base K v:=λk z=>by
 obtain⟨o,r,B,D⟩:=A k z;exact⟨ah o y.size,r,B,D.imp id (λ⟨z,A,E⟩=>⟨z,A,(y.block k o r).trans E⟩)⟩
structure LS(w:J)(e sb base:Nat)(K:DK)(g:List ar)(f:List NT)(C:Nat)(i j l h:M)(a b c d:List ar):Prop where
 D:(ku e K).D w
 le:base<=w.heap.size
 aS:∀k,K.aS e k->k<base
 EX:sb<base
 steps:Steps w
 pow:Pow w
 dQ:CE e sb base K 1
 jB:CE e sb base K 3
 qL:∀t∈g,nR w e (vw K.files) (CE e sb base K) t
 news:∀p∈f,p.Ok w base/\ET p.t
 apart:f.Pairwise NT.jQ
 r0:Row w 1 i a.length (a.map ar.ptr)
 r1:Row w 1 j b.length (b.map ar.ptr)
 r2:Row w 1 l c.length (c.map ar.ptr)
 r3:Row w 1 h d.length (d.map ar.ptr)
 b0:mS w e sb base K i
 b1:mS w e sb base K j
 b2:mS w e sb base K l
 b3:mS w e sb base K h
 x0:∀t∈a,XT g f t
 x1:∀t∈b,XT g f t
 x2:∀t∈c,XT g f t
 x3:∀t∈d,XT g f t
 nodup:((a++b++c++d).map ar.tb).Nodup
 s1:jp b
 s2:jp c
 s3:jp d
 mG:(bN a).length+(bN b).length+(bN c).length+(bN d).length<=C
 jU:C<=1000000
section
variable{w w':J}{e sb base C:Nat}{K:DK}{g:List ar}{f:List NT}{i j l h:M}{a b c d:List ar}
theorem XT.more{t:ar}(k:XT g f t)(p:List NT):XT g (f++p) t:=by
 rcases k with k|⟨r,o,q⟩
 ·exact .inl k
 ·exact .inr ⟨r,by simp[o],q⟩
theorem LS.ay(o:LS w e sb base K g f C i j l h a b c d)(y:I (K.aS e) w w')(z:(ku e K).D w'):LS w' e sb base K g f C i j l h a b c d where
 D:=z
 le:=aB o.le y.size
 aS:=o.aS
 EX:=o.EX
 steps:=λk r=>y.cell (o.steps k r) o.dQ.2.1 (ah o.dQ.1 o.le)
 pow:=o.pow.dh (y.block _ (ah o.jB.1 o.le) o.jB.2.1)
 dQ:=o.dQ
 jB:=o.jB
 qL:=λt z=>(o.qL t z).Jl (λk r=>y.block k (ah r.1 o.le) r.2.1)
 news:=λp z=>⟨(o.news p z).1.ay y (λk r c=>by have:=((o.news p z).1.lt k r).1;have:=o.aS k c;omega),(o.news p z).2⟩
 apart:=o.apart
 r0:=y.row o.r0 (λk r=>⟨(o.b0 k r).2.1,(o.b0 k r).1⟩)
 r1:=y.row o.r1 (λk r=>⟨(o.b1 k r).2.1,(o.b1 k r).1⟩)
 r2:=y.row o.r2 (λk r=>⟨(o.b2 k r).2.1,(o.b2 k r).1⟩)
 r3:=y.row o.r3 (λk r=>⟨(o.b3 k r).2.1,(o.b3 k r).1⟩)
 b0:=o.b0.ay y
 b1:=o.b1.ay y
 b2:=o.b2.ay y
 b3:=o.b3.ay y
 x0:=o.x0
 x1:=o.x1
 x2:=o.x2
 x3:=o.x3
 nodup:=o.nodup
 s1:=o.s1
 s2:=o.s2
 s3:=o.s3
 mG:=o.mG
 jU:=o.jU
theorem LS.OF(n:LS w e sb base K g f C i j l h a b c d){t:ar}(k:XT g f t):pF t.ks t.cs:=by
 rcases k with k|⟨p,m,rfl⟩
 ·exact(n.qL t k).pure
 ·exact(n.news p m).2.pure
theorem LS.Na(m:LS w e sb base K g f C i j l h a b c d){t:ar}(k:XT g f t):kA (ku e K) w.heap.size t.tb t.ks t.cs w:=by
 have B:=m.le;have q:1<w.heap.size/\¬(ku e K).F 1:=⟨by have:=m.dQ.1;omega,m.dQ.2.1⟩;rcases k with k|⟨r,D,rfl⟩
 ·obtain⟨v,n,bJ,y,p⟩:=(m.qL t k).mem;obtain⟨z,x,o⟩:=gJ (m.qL t k).file;refine kA.He e K.files K.cY (K.aS e) w.heap.size t.tb t.num (m.qL t k).num _ _ _ v n bJ (.slice none 0 0) t.ks t.cs z (dz (aW 0 t.cs)) w y (m.qL t k).pure x o ?_ ⟨by have:=(m.qL t k).loc.1;omega,(m.qL t k).loc.2.1⟩ ⟨by have:=p.1;omega,p.2.1⟩ m.steps q m.pow ⟨by have:=m.jB.1;omega,m.jB.2.1⟩;rw[o];have A:=iV (λu s=>((m.qL t k).idx.can u s).fits);have:=(m.qL t k).small;have:=(m.qL t k).idx.len;unfold jD dz;rw[ag,ag,bw];omega
 ·obtain⟨n,p⟩:=m.news r D;have x:=n.lt;have v:∀u,r.has u->u<w.heap.size/\¬(ku e K).F u:=λu s=>⟨(x u s).2,λc=>by have:=m.aS u c;have:=(x u s).1;omega⟩;have o:(cC r.t.cs).length<=r.eL:=by
   rcases n.data.2 with⟨c,_⟩|⟨E,y,z,c,_,_,A,_⟩
   ·cases c
   ·cases c;simpa using A
  exact kA.OL (ku e K) w.heap.size r.t.tb 0 0 0 0 r.bb 0 r.bJ r.x 0 r.eL r.t.ks r.t.cs w n.mem p.pure (dq.bytes n.data) o (by have:=p.small;omega) (v _ (.inl rfl)) (v _ (.inr (.inl rfl))) (v _ (.inr (.inr rfl))) m.steps q
theorem LS.count(o:LS w e sb base K g f C i j l h a b c d):a.length+b.length+c.length+d.length<=1000000:=by
 have:=o.mG;have:=o.jU;have:=jl (λt q=>o.OF (o.x0 t q));have:=jl o.s1.pure;have:=jl o.s2.pure;have:=jl o.s3.pure;omega
theorem LS.Py(k:LS w e sb base K g f C i j l h a b c d):nI (ku e K) w.heap.size j b w:=⟨k.r1,λo m=>⟨(k.b1 o m).1,(k.b1 o m).2.1⟩,λt n=>k.Na (k.x1 t n),k.s1,by have:=k.count;omega⟩
theorem LS.Px(k:LS w e sb base K g f C i j l h a b c d):nI (ku e K) w.heap.size l c w:=⟨k.r2,λo m=>⟨(k.b2 o m).1,(k.b2 o m).2.1⟩,λt n=>k.Na (k.x2 t n),k.s2,by have:=k.count;omega⟩
theorem LS.Qk(k:LS w e sb base K g f C i j l h a b c d):nI (ku e K) w.heap.size h d w:=⟨k.r3,λo m=>⟨(k.b3 o m).1,(k.b3 o m).2.1⟩,λt n=>k.Na (k.x3 t n),k.s3,by have:=k.count;omega⟩
theorem Hv{ts:List ar}(o:∀t∈ts,t.ks=aW 0 t.cs):nP ts=(bN ts).length:=by
 induction ts with
 |nil=>rfl
 |cons t r n=>
  have k:=n (λu m=>o u (by simp[m]));have m:=o t (by simp);unfold nP at k|-;rw[aY,fA,k,tN,ag,m,wz];rfl
theorem LS.ks(s:LS w e sb base K g f C i j l h a b c d){t:ar}(o:XT g f t):t.ks=aW 0 t.cs:=by
 rcases o with o|⟨p,r,rfl⟩
 ·exact(s.qL t o).ks
 ·exact(s.news p r).1.ks
theorem yI{n p:Nat}{v:M}{q:List M}(s:Row w n v p q)(u:0<p):∃b m k,v=.slice (some ⟨b,m,none⟩) p k/\p<=k:=by
 rcases s.2 with⟨_,t⟩|⟨b,m,k,r,o,_⟩
 ·omega
 ·exact⟨b,m,k,r,o⟩
theorem LS.rY{o:List ar}{L:List E}(v:LS w e sb base K g f C i j l h a b c d)(H:I (K.aS e) w w')(y:nH w' w.heap.size o)(B:o.map ar.all=jf L)(G:fG L)(A:∀U∈L,U.Good):∃n:List NT,n.map NT.t=o/\(∀p∈f++n,p.Ok w' base/\ET p.t)/\(f++n).Pairwise NT.jQ/\(∀z∈o,XT g (f++n) z)/\(∀z∈o,w.heap.size<=z.tb)/\(o.map ar.tb).Nodup:=by
 have F:=tI B y.each G A;obtain⟨n,q,r,x⟩:=y;have t:∀p∈f,∀u,p.has u->u<w.heap.size:=λp k u s=>((v.news p k).1.lt u s).2;refine⟨n,q,λp k=>?_,?_,λz m=>?_,λz m=>?_,?_⟩
 ·rcases aw.1 k with c|c
  ·exact⟨(v.news p c).1.ay H (λu s d=>by have:=((v.news p c).1.lt u s).1;have:=v.aS u d;omega),(v.news p c).2⟩
  ·obtain⟨N,O,Q,R⟩:=F p.t (by rw[<-q];exact gL c);refine⟨(r p c).base v.le,N,O,?_⟩;have S:=(r p c).pieces.data;have T:=(r p c).pieces.length;omega
 ·rw[bU];exact⟨v.apart,x,λp k P n u s m=>by have:=t p k u s;have:=((r P n).lt u m).1;omega⟩
 ·rw[<-q]at m;obtain⟨p,k,rfl⟩:=aZ.1 m;exact .inr ⟨p,by simp[k],rfl⟩
 ·rw[<-q]at m;obtain⟨p,k,rfl⟩:=aZ.1 m;exact(r p k).new
 ·rw[<-q,fY];unfold List.Nodup;rw[jW];refine x.imp (λ{p P}k m=>k p.t.tb (.inl rfl) (.inl m))
theorem XT.mP(m:LS w e sb base K g f C i j l h a b c d){t:ar}(k:XT g f t):t.tb<w.heap.size:=by
 rcases k with k|⟨p,n,rfl⟩
 ·have:=(m.qL t k).loc.1;have:=m.le;omega
 ·exact((m.news p n).1.lt _ (.inl rfl)).2
theorem BD{k:List ar}(m:∀t∈k,pF t.ks t.cs)(n:fG (bN k)):jp k:=⟨m,n⟩
theorem tG{k y:Nat}{v:M}{u:List M}(o:w'.ownsRow w.heap.size 199 k v y u)(s:∀p,K.aS e p->p<base)(t:sb<base)(x:base<=w.heap.size):mS w' e sb base K v:=λp n=>by
 have q:=o.lt p n;obtain⟨m,r⟩:=dS o n;exact⟨q.2,λc=>by have:=s p c;omega,by omega,.inr ⟨m,_,r⟩⟩
end
theorem LS.PF{w:J}{e sb base C ad:Nat}{K:DK}{g:List ar}{f:List NT}{i j l h:M}{a b c d:List ar}(m:LS w e sb base K g f C i j l h a b c d)(Q:PR ad (bZ a b c d))(V:0<a.length):Calls prog 106 #[.agg #[i,j,l,h],.int .i64 0] w λG w'=>∃F nm D,∃x:List ar,∃ps',G=.returned (.tuple #[.agg #[.slice none 0 0,.slice F nm D,l,h],.nilIface])/\LS w' e sb base K g ps' C (.slice none 0 0) (.slice F nm D) l h [] x c d/\PR ad (bZ [] x c d)/\(∀E,seen (bZ [] x c d) E=seen (bZ a b c d) E)/\I (K.aS e) w w':=by
 obtain⟨b0,o0,U,rfl,W⟩:=yI m.r0 V;obtain⟨x1,c1,rfl⟩:=bA m.r1;obtain⟨x2,c2,rfl⟩:=bA m.r2;obtain⟨x3,c3,rfl⟩:=bA m.r3;have s:∀S∈nC (c.isEmpty&&d.isEmpty) a b,S.Good:=by
  intro S A;have:=lq ((iE _ _).subset A);rw[aT,aw]at this;refine Q.gU S ?_;unfold bZ;rw[dl,aw];rcases this with G|G
  ·right;simp[G]
  ·left;obtain⟨X,P,A⟩:=bH.1 G;exact bH.2 ⟨X,gh.2 P,A⟩
 have y:(dt ⟨#[]⟩ (bN b::a.map ar.all)).length<=1000000:=by
  have H:=lu ⟨#[]⟩ (bN b::a.map ar.all);rw[aT,ag]at H;have O:(a.map ar.all).flatten=bN a:=rfl;rw[O]at H;have:=m.mG;have:=m.jU;omega
 refine(JO (ku e K) w.heap.size b0 o0 U x1 x2 x3 _ _ _ c1 c2 c3 a b c d w m.r0 ⟨(m.b0 _ rfl).1,(m.b0 _ rfl).2.1⟩ (λB z=>m.Na (m.x0 B z)) m.Py m.r2 m.r3 (λE t=>(m.b2 E t).1) (λE t=>(m.b3 E t).1) m.D (ai _) (λE t=>by have:=m.aS E t;have:=m.le;omega) m.steps ⟨by have:=m.dQ.1;have:=m.le;omega,m.dQ.2.1⟩ m.count _ rfl s y).mono ?_;rintro G w'⟨F,nm,D,x,rfl,r,n,o,L,z⟩;obtain⟨R,p2,p3⟩:=Gw Q n;have q:fG (nC (c.isEmpty&&d.isEmpty) a b):=by
  have:=R.li (bN x) (by simp[bZ]);rwa[ni n]at this
 obtain⟨N,q0,q1,q2,q3,q4,q5⟩:=m.rY z o n q s;have u:jp x:=BD (λB k=>(tI n o.each q s B k).1) (by rw[ni n];exact q);refine⟨F,nm,D,x,f++N,rfl,?_,R,p2,z⟩;have h':=m.ay z L;refine{h' with news:=q1,apart:=q2,r0:=⟨rfl,.inl ⟨rfl,rfl⟩⟩,r1:=cW r,b0:=?_,b1:=tG r m.aS m.EX m.le,x0:=?_,x1:=q3,x2:=λB k=>(h'.x2 B k).more N,x3:=λB k=>(h'.x3 B k).more N,nodup:=?_,s1:=u,mG:=?_}
 ·intro E t;cases t
 ·intro B k;cases k
 ·rw[cL,aV,aN,gE];have P:=m.nodup;rw[aV,aN,gE]at P;refine⟨q5,P.2.1,λS A al hy G=>?_⟩;obtain⟨B,k,rfl⟩:=aZ.1 A;obtain⟨ac,X,rfl⟩:=aZ.1 hy;have H:=q4 B k;have O:ac.tb<w.heap.size:=by
   rcases aw.1 X with c|c
   ·exact XT.mP m (m.x2 ac c)
   ·exact XT.mP m (m.x3 ac c)
  omega
 ·have:=m.mG;have P:(bN ([]:List ar)).length=0:=rfl;omega
theorem LS.PE{w:J}{e sb base C ax:Nat}{K:DK}{g:List ar}{f:List NT}{i j l h:M}{a b c d:List ar}(m:LS w e sb base K g f C i j l h a b c d)(hp:PR ax (bZ a b c d))(hb:0<b.length):Calls prog 106 #[.agg #[i,j,l,h],.int .i64 1] w λr w'=>∃xl X V xm nm W,∃b' c':List ar,∃ps',r=.returned (.tuple #[.agg #[i,.slice xl X V,.slice xm nm W,h],.nilIface])/\LS w' e sb base K g ps' C i (.slice xl X V) (.slice xm nm W) h a b' c' d/\b'.length+1=b.length/\PR ax (bZ a b' c' d)/\(∀ac,seen (bZ a b' c' d) ac=seen (bZ a b c d) ac)/\I (K.aS e) w w':=by
 obtain⟨b0,o0,c0,rfl,al⟩:=yI m.r1 hb;obtain⟨x1,c1,rfl⟩:=bA m.r0;obtain⟨x2,c2,rfl⟩:=bA m.r2;obtain⟨x3,c3,rfl⟩:=bA m.r3;have an:∀n(t:n<b.length)(x:List ar),x.Sublist c->∀F∈(bN x::[b[n]].map ar.all).flatten,F∈bN b\/F∈bN c:=by
  intro n t x R F A;simp only[aY,df,aT,dH,cN,aw]at A;rcases A with r|r
  ·exact .inr ((mz R).subset r)
  ·exact .inl (oY.2 ⟨_,au t,r⟩)
 have B:∀F,F∈bN b\/F∈bN c->F.Good:=λF A=>hp.gU F (by
  unfold bZ;rw[dl,aw];right;simp only[aT,dH,cN,aw];rcases A with r|r
  ·exact .inl r
  ·exact .inr (.inl r))
 have L:∀n(t:n<b.length)(x:List ar),x.Sublist c->(dt ⟨#[]⟩ (bN x::[b[n]].map ar.all)).length<=1000000:=by
  intro n t x R;have h1:=lu ⟨#[]⟩ (bN x::[b[n]].map ar.all);simp only[aY,df,aT,dH,cN,ag]at h1;have h2:=(mz R).length_le;have D:b[n].all.length<=(bN b).length:=by
   have:=(mz (us:=[b[n]]) (ts:=b) (rk.2 (au t))).length_le;simpa[bN]using this
  have:=m.mG;have:=m.jU;simp only[aY,df];omega
 refine(JN (ku e K) w.heap.size b0 o0 c0 x2 x1 x3 _ _ _ _ _ _ b c a d w m.Py al hb m.Px m.r0 m.r3 (λac H=>(m.b0 ac H).1) (λac H=>(m.b3 ac H).1) m.D (ai _) (λac H=>by have:=m.aS ac H;have:=m.le;omega) m.steps ⟨by have:=m.dQ.1;have:=m.le;omega,m.dQ.2.1⟩ (by have:=m.count;omega) (by rw[Hv (λu Q=>m.ks (m.x2 u Q))];have:=m.mG;have:=m.jU;omega) _ rfl (λn t x R F A=>B F (an n t x R F (lq ((iE _ _).subset A)))) L).mono ?_;rintro r w'⟨xl,X,V,xm,nm,W,y,n,t,p,U,rfl,hcut,N,O,q,s,ad,Q⟩;obtain⟨p1,p2,p3,p4,p5⟩:=Gv hp m.s1 m.s2 t hcut q;rw[ni q]at p3 p4;obtain⟨S,q0,q1,q2,q3,q4,q5⟩:=m.rY Q s q p3 p4;have P:=tI q s.each p3 p4;have o:(b.take n++b.drop (n+1)).Sublist b:=by
  conv=>rhs;rw[Mr b n t]
  rw[aV];exact(dJ _).append (eR _ _)
 have E:(c.take p++c.drop U).Sublist c:=by
  conv=>rhs;rw[OV c hcut.le]
  rw[aV];exact(dJ _).append (eR _ _)
 refine⟨xl,X,V,xm,nm,W,b.take n++b.drop (n+1),c.take p++y++c.drop U,f++S,rfl,?_,by simp;omega,p1,p2,Q⟩;have h':=m.ay Q ad;have z:∀u∈c.take p++y++c.drop U,u∈c\/u∈y:=by
  intro u k;simp only[aw]at k;rcases k with(r|r)|r
  ·exact .inl (dC r)
  ·exact .inr r
  ·exact .inl (cg r)
 refine{h' with news:=q1,apart:=q2,r1:=cW N,r2:=cW O,b1:=tG N m.aS m.EX m.le,b2:=tG O m.aS m.EX m.le,x0:=λu k=>(h'.x0 u k).more S,x1:=λu k=>(h'.x1 u (o.subset k)).more S,x2:=?_,x3:=λu k=>(h'.x3 u k).more S,nodup:=?_,s1:=m.s1.sub o,s2:=?_,mG:=?_}
 ·intro u k;rcases z u k with r|r
  ·exact(h'.x2 u r).more S
  ·exact q3 u r
 ·have hn:((a++(b.take n++b.drop (n+1))++(c.take p++c.drop U)++d).map ar.tb).Nodup:=by
   refine oK (List.Sublist.map _ ?_) m.nodup;exact((((dJ a).append o).append E).append (dJ d))
  have D:(a++(b.take n++b.drop (n+1))++(c.take p++y++c.drop U)++d).Perm (y++(a++(b.take n++b.drop (n+1))++(c.take p++c.drop U)++d)):=by
   have G:a++(b.take n++b.drop (n+1))++(c.take p++y++c.drop U)++d=(a++(b.take n++b.drop (n+1))++c.take p)++y++(c.drop U++d):=by simp only[aV]
   have e2:y++(a++(b.take n++b.drop (n+1))++(c.take p++c.drop U)++d)=y++(a++(b.take n++b.drop (n+1))++c.take p)++(c.drop U++d):=by simp only[aV]
   rw[G,e2];exact rl _ sa
  rw[(D.map ar.tb).nodup_iff,aN,gE];refine⟨q5,hn,λF A ba hy r=>?_⟩;obtain⟨u,k,rfl⟩:=aZ.1 A;obtain⟨ao,hu,rfl⟩:=aZ.1 hy;have h1:=q4 u k;have h2:ao.tb<w.heap.size:=by
   simp only[aw]at hu;rcases hu with((G|G|G)|G|G)|G
   ·exact XT.mP m (m.x0 ao G)
   ·exact XT.mP m (m.x1 ao (dC G))
   ·exact XT.mP m (m.x1 ao (cg G))
   ·exact XT.mP m (m.x2 ao (dC G))
   ·exact XT.mP m (m.x2 ao (cg G))
   ·exact XT.mP m (m.x3 ao G)
  omega
 ·refine BD (λu k=>?_) (p1.li _ (by simp[bZ]));rcases z u k with r|r
  ·exact m.s2.pure u r
  ·exact(P u r).1
 ·have:=m.mG;omega
theorem LS.PD{w:J}{e sb base C ax:Nat}{K:DK}{g:List ar}{f:List NT}{i j l h:M}{a b c d:List ar}(m:LS w e sb base K g f C i j l h a b c d)(hp:PR ax (bZ a b c d))(hc:0<c.length):Calls prog 106 #[.agg #[i,j,l,h],.int .i64 2] w λr w'=>∃xl X V xm nm W,∃c' d':List ar,∃ps',r=.returned (.tuple #[.agg #[i,j,.slice xl X V,.slice xm nm W],.nilIface])/\LS w' e sb base K g ps' C i j (.slice xl X V) (.slice xm nm W) a b c' d'/\c'.length+1=c.length/\PR ax (bZ a b c' d')/\(∀ac,seen (bZ a b c' d') ac=seen (bZ a b c d) ac)/\I (K.aS e) w w':=by
 obtain⟨b0,o0,c0,rfl,al⟩:=yI m.r2 hc;obtain⟨x1,c1,rfl⟩:=bA m.r0;obtain⟨x2,c2,rfl⟩:=bA m.r1;obtain⟨x3,c3,rfl⟩:=bA m.r3;have an:∀n(t:n<c.length)(x:List ar),x.Sublist d->∀F∈(bN x::[c[n]].map ar.all).flatten,F∈bN c\/F∈bN d:=by
  intro n t x R F A;simp only[aY,df,aT,dH,cN,aw]at A;rcases A with r|r
  ·exact .inr ((mz R).subset r)
  ·exact .inl (oY.2 ⟨_,au t,r⟩)
 have B:∀F,F∈bN c\/F∈bN d->F.Good:=λF A=>hp.gU F (by
  unfold bZ;rw[dl,aw];right;simp only[aT,dH,cN,aw];rcases A with r|r
  ·exact .inr (.inl r)
  ·exact .inr (.inr r))
 have L:∀n(t:n<c.length)(x:List ar),x.Sublist d->(dt ⟨#[]⟩ (bN x::[c[n]].map ar.all)).length<=1000000:=by
  intro n t x R;have h1:=lu ⟨#[]⟩ (bN x::[c[n]].map ar.all);simp only[aY,df,aT,dH,cN,ag]at h1;have h2:=(mz R).length_le;have D:c[n].all.length<=(bN c).length:=by
   have:=(mz (us:=[c[n]]) (ts:=c) (rk.2 (au t))).length_le;simpa[bN]using this
  have:=m.mG;have:=m.jU;simp only[aY,df];omega
 refine(JM (ku e K) w.heap.size b0 o0 c0 x3 x1 x2 _ _ _ _ _ _ c d a b w m.Px al hc m.Qk m.r0 m.r1 (λac H=>(m.b0 ac H).1) (λac H=>(m.b1 ac H).1) m.D (ai _) (λac H=>by have:=m.aS ac H;have:=m.le;omega) m.steps ⟨by have:=m.dQ.1;have:=m.le;omega,m.dQ.2.1⟩ (by have:=m.count;omega) (by rw[Hv (λu Q=>m.ks (m.x3 u Q))];have:=m.mG;have:=m.jU;omega) _ rfl (λn t x R F A=>B F (an n t x R F (lq ((iE _ _).subset A)))) L).mono ?_;rintro r w'⟨xl,X,V,xm,nm,W,y,n,t,p,U,rfl,hcut,N,O,q,s,ad,Q⟩;obtain⟨p1,p2,p3,p4,p5⟩:=Gu hp m.s2 m.s3 t hcut q;rw[ni q]at p3 p4;obtain⟨S,q0,q1,q2,q3,q4,q5⟩:=m.rY Q s q p3 p4;have P:=tI q s.each p3 p4;have o:(c.take n++c.drop (n+1)).Sublist c:=by
  conv=>rhs;rw[Mr c n t]
  rw[aV];exact(dJ _).append (eR _ _)
 have E:(d.take p++d.drop U).Sublist d:=by
  conv=>rhs;rw[OV d hcut.le]
  rw[aV];exact(dJ _).append (eR _ _)
 refine⟨xl,X,V,xm,nm,W,c.take n++c.drop (n+1),d.take p++y++d.drop U,f++S,rfl,?_,by simp;omega,p1,p2,Q⟩;have h':=m.ay Q ad;have z:∀u∈d.take p++y++d.drop U,u∈d\/u∈y:=by
  intro u k;simp only[aw]at k;rcases k with(r|r)|r
  ·exact .inl (dC r)
  ·exact .inr r
  ·exact .inl (cg r)
 refine{h' with news:=q1,apart:=q2,r2:=cW N,r3:=cW O,b2:=tG N m.aS m.EX m.le,b3:=tG O m.aS m.EX m.le,x0:=λu k=>(h'.x0 u k).more S,x1:=λu k=>(h'.x1 u k).more S,x2:=λu k=>(h'.x2 u (o.subset k)).more S,x3:=?_,nodup:=?_,s2:=m.s2.sub o,s3:=?_,mG:=?_}
 ·intro u k;rcases z u k with r|r
  ·exact(h'.x3 u r).more S
  ·exact q3 u r
 ·have hn:((a++b++(c.take n++c.drop (n+1))++(d.take p++d.drop U)).map ar.tb).Nodup:=by
   refine oK (List.Sublist.map _ ?_) m.nodup;exact(((dJ (a++b)).append o).append E)
  have D:(a++b++(c.take n++c.drop (n+1))++(d.take p++y++d.drop U)).Perm (y++(a++b++(c.take n++c.drop (n+1))++(d.take p++d.drop U))):=by
   have G:a++b++(c.take n++c.drop (n+1))++(d.take p++y++d.drop U)=(a++b++(c.take n++c.drop (n+1))++d.take p)++y++d.drop U:=by simp only[aV]
   have e2:y++(a++b++(c.take n++c.drop (n+1))++(d.take p++d.drop U))=y++(a++b++(c.take n++c.drop (n+1))++d.take p)++d.drop U:=by simp only[aV]
   rw[G,e2];exact rl _ sa
  rw[(D.map ar.tb).nodup_iff,aN,gE];refine⟨q5,hn,λF A ba hy r=>?_⟩;obtain⟨u,k,rfl⟩:=aZ.1 A;obtain⟨ao,hu,rfl⟩:=aZ.1 hy;have h1:=q4 u k;have h2:ao.tb<w.heap.size:=by
   simp only[aw]at hu;rcases hu with((G|G)|G|G)|G|G
   ·exact XT.mP m (m.x0 ao G)
   ·exact XT.mP m (m.x1 ao G)
   ·exact XT.mP m (m.x2 ao (dC G))
   ·exact XT.mP m (m.x2 ao (cg G))
   ·exact XT.mP m (m.x3 ao (dC G))
   ·exact XT.mP m (m.x3 ao (cg G))
  omega
 ·refine BD (λu k=>?_) (p1.li _ (by simp[bZ]));rcases z u k with r|r
  ·exact m.s3.pure u r
  ·exact(P u r).1
 ·have:=m.mG;omega
theorem NT.jQ.symm{p q:NT}(r:p.jQ q):q.jQ p:=λk o g=>r k g o
theorem MG{d:List NT}(m:d.Pairwise NT.jQ){q r:NT}(n:q∈d)(o:r∈d)(c:q≠r):q.jQ r:=by
 obtain⟨i,k,rfl⟩:=eO.1 n;obtain⟨p,l,rfl⟩:=eO.1 o;rw[bG]at m;rcases jj i p with g|g|g
 ·exact m i p k l g
 ·subst g;exact absurd rfl c
 ·exact(m p i l k g).symm
theorem AL{w n:J}{base u c y m x g:Nat}{o:List M}(v:w.ownsRow base u c (.slice (some ⟨m,0,none⟩) x g) y o)(t:n.heap[m]?=w.heap[m]?):n.ownsRow base u c (.slice (some ⟨m,0,none⟩) x g) y o:=by
 refine⟨v.1,.inr ?_⟩;rcases v.2 with⟨p,_⟩|⟨z,l,k,p,q,r,s⟩
 ·cases p
 ·cases p;exact⟨m,g,k,rfl,q,t.trans r,s⟩
theorem Et{c:List (List E)}(g:CK (aW 0 c))(l:(cC c).length<=100000):(jD c).length<=200000:=by
 have n:=iV (λo k=>(g.can o k).fits);have:=g.len;unfold jD dz;rw[ag,ag,bw];omega
structure CF(w:J)(b sb base:Nat)(K:DK)(f:List ar)(d:List NT)(T:List ar)(a h:Nat):Prop where
 le:base<=w.heap.size
 aS:∀k,K.aS b k->k<base
 EX:sb<base
 xt:∀t∈T,XT f d t
 nodup:(T.map ar.tb).Nodup
 apart:d.Pairwise NT.jQ
 news:∀p∈d,p.Ok w base/\ET p.t
 inj:∀t∈f,∀u∈f,t.num=u.num->t=u
 low:∀t∈f,t.num<a
 fresh:∀n,a<=n->cR (vw K.files) (eM n)=none
 dQ:CE b sb base K 1
 jB:CE b sb base K 3
 small:T.length<=1000000
 nx:a<=1000000000000000
 room:h<=800000000000
 mG:eW (vw K.files)<=h
 cY:K.cY.length<=10000000000
def Wr(b:Nat)(K:DK)(d:List NT)(k:Nat):Prop:=K.aS b k\/∃p∈d,k=p.t.tb\/k=p.x
structure CM(w:J)(b sb base:Nat)(K:DK)(f:List ar)(d:List NT)(T:List ar)(a h:Nat)(wr:J)(e:DK)(us:List ar)(i num:Nat):Prop where
 len:us.length=i
 le:i<=T.length
 same:us.map (λt=>(t.tb,t.ks,t.cs))=(T.take i).map (λt=>(t.tb,t.ks,t.cs))
 CN:∀t∈f,nR wr b (vw e.files) (CE b sb base K) t
 Hy:∀u∈us,u∈f\/∃p∈d,p.t.tb=u.tb/\nR wr b (vw e.files) p.has u/\a<=u.num/\u.num<num
 rest:∀p∈d,p.t∈T.drop i->p.Ok wr base
 files:∃gs:Fs,vw e.files=vw K.files++gs/\(∀g∈gs,∃u∈us,g=(eM u.num,jD u.cs)/\a<=u.num)
 mG:eW (vw e.files)<=h+i*200000
 uq:(us.map ar.num).Nodup
 mR:a<=num/\num<=a+i
 aH:bR wr b e
 cY:e.cY.length<=K.cY.length+i
 ay:I (Wr b K d) w wr
 aS:∀k,e.aS b k->K.aS b k\/w.heap.size<=k
 steps:Steps wr
 pow:Pow wr
section
variable{w wr w2:J}{b sb base:Nat}{K e j:DK}{f:List ar}{d:List NT}{T us:List ar}{a h i num:Nat}
theorem CM.start(g:CF w b sb base K f d T a h)(n:∀t∈f,nR w b (vw K.files) (CE b sb base K) t)(l:bR w b K)(o:Steps w)(c:Pow w):CM w b sb base K f d T a h w K [] 0 a where
 len:=rfl
 le:=aU _
 same:=by simp
 CN:=n
 Hy:=by simp
 rest:=λp c _=>(g.news p c).1
 files:=⟨[],by simp,by simp⟩
 mG:=by have:=g.mG;omega
 uq:=by simp
 mR:=⟨ai _,ai _⟩
 aH:=l
 cY:=ai _
 ay:=I.refl _ _
 aS:=λ_ g=>.inl g
 steps:=o
 pow:=c
theorem Lt(c:us.map (λt=>(t.tb,t.ks,t.cs))=(T.take i).map (λt=>(t.tb,t.ks,t.cs))):us.map ar.tb=(T.take i).map ar.tb:=by
 have:=bB (List.map Prod.fst) c;simpa[fY,jX]using this
theorem Kw(o:(T.map ar.tb).Nodup)(m:i<T.length)(v:us.map (λt=>(t.tb,t.ks,t.cs))=(T.take i).map (λt=>(t.tb,t.ks,t.cs))):∀u∈us,u.tb≠T[i].tb:=by
 intro u q s;have k:u.tb∈(T.take i).map ar.tb:=by rw[<-Lt v];exact gL q
 rw[s]at k;obtain⟨t,p,g⟩:=aZ.1 k;obtain⟨r,n,rfl⟩:=eO.1 p;have c:r<i/\r<T.length:=by rw[cU]at n;omega
 rw[fi]at g;have l:=bG.1 o r i (by simpa using c.2) (by simpa using m) c.1;simp only[gm]at l;exact l g
theorem AB(c:i<T.length)(k:us.map (λt=>(t.tb,t.ks,t.cs))=(T.take i).map (λt=>(t.tb,t.ks,t.cs)))(u:ar)(g:(u.tb,u.ks,u.cs)=(T[i].tb,T[i].ks,T[i].cs)):(us++[u]).map (λt=>(t.tb,t.ks,t.cs))=(T.take (i+1)).map (λt=>(t.tb,t.ks,t.cs)):=by
 rw[aq c,aN,aN,k];simp only[aY,df,g]
theorem yY{l:List Nat}{x:Nat}(n:l.Nodup)(k:x∉l):(l++[x]).Nodup:=by
 rw[gE];exact⟨n,by simp,λo c p g m=>by rw[bE]at g;rw[m,g]at c;exact k c⟩
theorem CM.skip(x:CF w b sb base K f d T a h)(hm:CM w b sb base K f d T a h wr e us i num)(l:i<T.length)(m:T[i]∈f):CM w b sb base K f d T a h wr e (us++[T[i]]) (i+1) num:=by
 have g:=Kw x.nodup l hm.same;obtain⟨t,n,o⟩:=hm.files;refine{hm with len:=by rw[ag,hm.len];rfl,le:=l,same:=AB l hm.same _ rfl,Hy:=?_,rest:=?_,files:=⟨t,n,λA y=>?_⟩,mG:=aB hm.mG (Nat.add_le_add_left (ke _ (Nat.le_succ i)) _),uq:=?_,mR:=⟨hm.mR.1,by have:=hm.mR.2;omega⟩,cY:=by have:=hm.cY;omega}
 ·intro u c;rcases aw.1 c with q|q
  ·exact hm.Hy u q
  ·rw[bE]at q;subst q;exact .inl m
 ·intro z r p;refine hm.rest z r ?_;rw[<-iJ l];exact aJ _ p
 ·obtain⟨u,c,s⟩:=o A y;exact⟨u,by simp[c],s⟩
 ·rw[aN];refine yY hm.uq (λq=>?_);obtain⟨u,c,s⟩:=aZ.1 q;rcases hm.Hy u c with p|⟨z,r,_,_,p,_⟩
  ·exact g u c (by rw[x.inj u p _ m s])
  ·have:=x.low _ m;omega
theorem CM.wrote(F:CF w b sb base K f d T a h)(g:CM w b sb base K f d T a h wr e us i num)(P:i<T.length){q:NT}(H:q∈d)(v:q.t=T[i])(hd:bR w2 b j)(ht:I (λk=>e.aS b k\/k=q.t.tb\/k=q.x) wr w2)(hf:∀k,j.aS b k->e.aS b k\/wr.heap.size<=k)(X:vw j.files=vw e.files++[(eM num,jD q.t.cs)])(ao:j.cY.length=e.cY.length+1)(hT:js w2 q.t.tb (.pointer (some ⟨b,0,none⟩)) num (cC q.t.cs).length (dz (aW 0 q.t.cs)).length (jv (dz (aW 0 q.t.cs))) q.bb 0 q.bJ (.slice none 0 0) (aW 0 q.t.cs))(U:num<18446744073709551616):CM w b sb base K f d T a h w2 j (us++[{T[i]with num:=num}]) (i+1) (num+1):=by
 have R:=Kw F.nodup P g.same;obtain⟨gs,N,O⟩:=g.files;have u:=(F.news q H).1;have ad:=u.lt;have ax:=g.ay.size;have an:=F.le;have r:∀k,k<w.heap.size->¬K.aS b k->¬q.has k->w2.heap[k]?=wr.heap[k]?:=λk m C o=>ht.block k (by omega) (λc=>by
  rcases c with c|c|c
  ·rcases g.aS k c with E|E
   ·exact C E
   ·omega
  ·exact o (.inl c)
  ·exact o (.inr (.inr c)))
 have t:∀k,CE b sb base K k->w2.heap[k]?=wr.heap[k]?:=λk m=>r k (by have:=m.1;omega) m.2.1 (λc=>by have:=(ad k c).1;have:=m.1;omega);have p:∀L∈d,L≠q->∀k,L.has k->w2.heap[k]?=wr.heap[k]?:=λL x A k m=>by
  have o:=(F.news L x).1.lt k m;exact r k o.2 (λc=>by have:=F.aS k c;omega) (λc=>MG F.apart x H A k m c)
 have z:∀n g,cR (vw e.files) n=some g->cR (vw j.files) n=some g:=λn g G=>by rw[X,gR,G];rfl
 have B:cR (vw e.files) (eM num)=none:=by
  rw[N,gR,F.fresh num g.mR.1,ik];cases c:cR gs (eM num)with
  |none=>rfl
  |some C=>
   obtain⟨W,D,y,o⟩:=O _ (tg c);simp only[eY]at y;have e2:=qF y.1;rcases g.Hy W D with E|⟨L,x,_,_,_,E⟩
   ·have:=F.low W E;omega
   ·omega
 have V:∀{A:Nat->Prop}{al:ar},nR wr b (vw e.files) A al->(∀k,A k->w2.heap[k]?=wr.heap[k]?)->nR w2 b (vw j.files) A al:=λho m=>by
  have o:=ho.Jl m;exact⟨o.mem,o.loc,o.ks,o.num,o.pure,o.idx,o.small,z _ _ o.file⟩
 have s:=(F.news q H).2;have Q:nR w2 b (vw j.files) q.has {T[i]with num:=num}:=by
  rw[<-v];refine⟨⟨q.bb,0,q.bJ,?_,.inr (.inl rfl)⟩,.inl rfl,u.ks,U,s.pure,s.idx,s.small,?_⟩
  ·show js w2 q.t.tb _ num _ _ _ q.bb 0 q.bJ _ q.t.ks;rw[u.ks];exact hT
  ·show cR (vw j.files) (eM num)=some (jD q.t.cs);rw[X,gR,B];simp[cR]
 refine{len:=by rw[ag,g.len];rfl,le:=P,same:=AB P g.same _ rfl,CN:=λal h0=>V (g.CN al h0) t,Hy:=?_,rest:=?_,files:=⟨gs++[(eM num,jD q.t.cs)],by rw[X,N,aV],λbb hg=>?_⟩,mG:=?_,uq:=?_,mR:=⟨by have:=g.mR.1;omega,by have:=g.mR.2;omega⟩,aH:=hd,cY:=by have:=g.cY;omega,ay:=?_,aS:=?_,steps:=?_,pow:=?_}
 ·intro W D;rcases aw.1 D with c|c
  ·rcases g.Hy W c with E|⟨L,x,y,ho,o,C⟩
   ·exact .inl E
   ·refine .inr ⟨L,x,y,V ho (p L x (λe2=>?_)),o,by omega⟩;rw[e2,v]at y;exact R W c y.symm
  ·rw[bE]at c;subst c;exact .inr ⟨q,H,by rw[v],Q,g.mR.1,by show num<num+1;omega⟩
 ·intro L x C;have A:L≠q:=λy=>by
   subst y;rw[v]at C;obtain⟨ba,hj,y⟩:=eO.1 C;rw[pH]at y;have ac:i+1+ba<T.length:=by rw[fE]at hj;omega
   have h2:=bG.1 F.nodup i (i+1+ba) (by simpa using P) (by simpa using ac) (by omega);simp only[gm]at h2;exact h2 (by rw[y])
  have o:=g.rest L x (by rw[<-iJ P];exact aJ _ C);have G:=p L x A;exact⟨o.ks,o.num,o.pieces,o.mem.dh (G _ (.inl rfl)) (G _ (.inr (.inl rfl))),AL o.data (G _ (.inr (.inr rfl))),AL o.xO (G _ (.inr (.inl rfl))),o.new⟩
 ·rcases aw.1 hg with c|c
  ·obtain⟨W,D,y⟩:=O bb c;exact⟨W,by simp[D],y⟩
  ·rw[bE]at c;refine⟨{T[i]with num:=num},by simp,?_,g.mR.1⟩;rw[c,v]
 ·rw[X,qn];have:=Et s.idx s.small;have:=g.mG;simp only[eW,aY,df,fA,List.sum_nil]at*;omega
 ·rw[aN];refine yY g.uq (λc=>?_);obtain⟨W,D,y⟩:=aZ.1 c;have o:W.num=num:=y;rcases g.Hy W D with E|⟨L,x,_,_,_,E⟩
  ·have:=F.low W E;have:=g.mR.1;omega
  ·omega
 ·refine g.ay.trans ht (λk m=>?_);rcases m with c|c|c
  ·rcases g.aS k c with E|E
   ·exact .inl (.inl E)
   ·exact .inr E
  ·exact .inl (.inr ⟨q,H,.inl c⟩)
  ·exact .inl (.inr ⟨q,H,.inr c⟩)
 ·intro k m;rcases hf k m with c|c
  ·exact g.aS k c
  ·exact .inr (by omega)
 ·exactλk m=>(bI (w:=wr) (t _ F.dQ)).trans (g.steps k m)
 ·exact g.pow.dh (t _ F.jB)
end
structure zP(t:ar):Prop where
 ks:t.ks=aW 0 t.cs
 pure:pF t.ks t.cs
 idx:CK (aW 0 t.cs)
 small:(cC t.cs).length<=100000
 num:t.num<18446744073709551616
structure Km(fs:Fs)(nx lg tb:Nat)(a b c d:List ar)(bQ:Bool)(ls:List (List E)):Prop where
 names:∀n bs,cR fs n=some bs->n=eS\/(n=fM lg/\bQ=true)\/∃t∈a++b++c++d,n=eM t.num
 state:cR fs eS=some (fJ nx lg tb [a,b,c,d])\/(cR fs eS=none/\a=[]/\b=[]/\c=[]/\d=[]/\nx=2/\lg=1/\tb=0)
 log:bQ=true->cR fs (fM lg)=some (jq ((tb:Int)+1) ls)
 AM:bQ=false->ls=[]
 uh:∀t∈a++b++c++d,cR fs (eM t.num)=some (jD t.cs)
 uq:((a++b++c++d).map ar.num).Nodup
 low:∀t∈a++b++c++d,t.num<nx/\t.num≠lg
 lt:lg<nx
 gU:∀t∈a++b++c++d,zP t
def tH:∀{l m:List aa},l.Nodup->(∀x∈l,x∈m)->l.length<=m.length
 |[],_,_,_=>aU _
 |x::l,m,a,d=>by
  rw[iA]at a;obtain⟨m1,m2,rfl⟩:=List.append_of_mem (d x (by simp));have e:∀y∈l,y∈m1++m2:=λy b=>by
   have:=d y (by simp[b]);simp only[aw,aD]at this|-;rcases this with c|c|c
   ·exact .inl c
   ·rw[c]at b;exact absurd b a.1
   ·exact .inr c
  have g:=tH a.2 e;simp only[aE,ag]at g|-;omega
def nG{a:Fs}{n:aa}(h:n∈a.map (·.1)):∃d,cR a n=some d:=by
 induction a with
 |nil=>simp at h
 |cons f r b=>
  unfold cR;by_cases e:f.1=n
  ·exact⟨f.2,by rw[dr e]⟩
  ·rw[dd e];refine b ?_;rw[aY,aD]at h;rcases h with c|c
   ·exact absurd c.symm e
   ·exact c
def DL{a:Fs}{n:aa}{b:List Int}(h:cR a n=some b):n∈a.map (·.1):=aZ.2 ⟨_,tg h,rfl⟩
def Cj{a:Fs}{n:aa}(h:n∉a.map (·.1)):cR a n=none:=by
 cases c:cR a n with
 |none=>rfl
 |some b=>exact absurd (DL c) h
def rO{a:Fs}(b:(a.map (·.1)).Nodup){f:aa×List Int}(h:f∈a):cR a f.1=some f.2:=by
 induction a with
 |nil=>cases h
 |cons g r d=>
  rw[aY,iA]at b;unfold cR;rcases aD.1 h with c|c
  ·subst c;rw[dr rfl]
  ·have:g.1≠f.1:=λe=>b.1 (by rw[e];exact gL c);rw[dd this];exact d b.2 c
def Gr(a:Fs)(n:aa):((qW a n).map (·.1)).Sublist (a.map (·.1)):=by
 induction a with
 |nil=>exact dJ _
 |cons f r b=>
  unfold qW;split
  ·exact List.sublist_cons_self _ _
  ·rw[aY,aY];exact b.cons_cons _
def JE{a:Fs}(b:(a.map (·.1)).Nodup)(n:aa):cR (qW a n) n=none:=by
 induction a with
 |nil=>rfl
 |cons f r c=>
  rw[aY,iA]at b;unfold qW;by_cases e:f.1=n
  ·rw[dr e];exact Cj (by rw[<-e];exact b.1)
  ·rw[dd e];unfold cR;rw[dd e];exact c b.2
def Gq{a:Fs}(c:(a.map (·.1)).Nodup){b:List aa}{n:aa}(h:n∈b):cR (qV a b) n=none:=by
 induction b generalizing a with
 |nil=>cases h
 |cons m r g=>
  have f:((qW a m).map (·.1)).Nodup:=c.sublist (Gr a m);show cR (qV (qW a m) r) n=none;by_cases d:n∈r
  ·exact g f d
  ·rw[pq d];rcases aD.1 h with e|e
   ·rw[e];exact JE c m
   ·exact absurd e d
def Gn{a:Fs}(d:(a.map (·.1)).Nodup){b:List aa}{n:aa}{e:List Int}(h:cR (qV a b) n=some e):n∉b/\cR a n=some e:=by
 by_cases c:n∈b
 ·rw[Gq d c]at h;cases h
 ·rw[pq c]at h;exact⟨c,h⟩
def AU(s:aa)(e S:Nat):∀{a:Fs},(a.map (·.1)).Nodup->(∀f∈a,f.1≠s->f.2.length<=e)->(∀f∈a,f.1=s->f.2.length<=S)->eW a<=a.length*e+S
 |[],_,_,_=>by simp[eW]
 |f::r,d,c,i=>by
  rw[aY,iA]at d;have h:eW (f::r)=f.2.length+eW r:=by simp[eW]
  rw[h,aE,Nat.add_mul,Nat.one_mul];by_cases l:f.1=s
  ·have n:eW r<=r.length*e:=by
    have:∀{a:Fs},(∀f∈a,f.2.length<=e)->eW a<=a.length*e:=by
     intro a;induction a with
     |nil=>intro _;simp[eW]
     |cons g q o=>
      intro k;have h:eW (g::q)=g.2.length+eW q:=by simp[eW]
      have j:=o (λf a=>k f (by simp[a]));have p:=k g (by simp);rw[h,aE,Nat.add_mul,Nat.one_mul];omega
    exact this (λg b=>c g (by simp[b]) (λh=>d.1 (by rw[l,<-h];exact gL b)))
   have j:=i f (by simp) l;omega
  ·have n:=AU s e S d.2 (λg b=>c g (by simp[b])) (λg b=>i g (by simp[b]));have j:=c f (by simp) l;omega
def Ii(b a c:Int)(d e f g:List ar):(fJ b a c [d,e,f,g]).length=44+20*(d++e++f++g).length:=by
 unfold fJ;rw[eF];simp only[aY,df,aT,dH,cN,ag,lL,bw];omega
def Km.total{b:Fs}{z n p:Nat}{q r s u:List ar}{bQ:Bool}{o:List (List E)}(h:Km b z n p q r s u bQ o)(d:(b.map (·.1)).Nodup)(y:(jq ((p:Int)+1) o).length<=200000)(D:(q++r++s++u).length<=1000000):eW b<=201000000000:=by
 have A:b.length<=(q++r++s++u).length+2:=by
  have:=tH (m:=eS::fM n::(q++r++s++u).map (λt=>eM t.num)) d (λx a=>by
   obtain⟨j,g⟩:=nG a;rcases h.names x j g with e|⟨e,_⟩|⟨t,c,e⟩
   ·rw[e];simp
   ·rw[e];simp
   ·rw[e];exact aJ _ (aJ _ (aZ.2 ⟨t,c,rfl⟩)))
  simp only[bW,aE]at this;omega
 have B:=AU eS 200000 21000000 d (λf g l=>by
  have a:=rO d g;rcases h.names _ _ a with e|⟨e,j⟩|⟨t,c,e⟩
  ·exact absurd e l
  ·have:=h.log j;rw[<-e,a]at this;rw[dm this];exact y
  ·have:=h.uh t c;rw[<-e,a]at this;rw[dm this];exact Et (h.gU t c).idx (h.gU t c).small) (λf g x=>by
  have a:=rO d g;rw[x]at a;rcases h.state with e|⟨e,_⟩
  ·rw[a]at e;rw[dm e,Ii];omega
  ·rw[a]at e;cases e)
 have C:b.length*200000<=1000002*200000:=ke _ (by omega);omega
def bR.nodup{w:J}{c:Nat}{K:DK}(n:bR w c K):((vw K.files).map (·.1)).Nodup:=by
 obtain⟨d,b,_,h,j⟩:=n.now;have e:d.toList.map (·.key)=(K.files.map bY.nm).map (λp=>Value.string p.1):=by
  have:=bB (List.map Prod.fst) h;simpa[fY,jX]using this
 have a:=j.2.2;rw[e]at a;have g:(vw K.files).map (·.1)=(K.files.map bY.nm).map (·.1):=by simp[vw,bY.nm,fY,jX]
 rw[g];rw[fY]at a|-;unfold List.Nodup at a|-;rw[jW]at a|-;exact a.imp (λb e=>b (by simp only[Function.comp]at*;rw[e]))
theorem Jr{b:List (List E)}(n:∀c∈b,∀x∈c,x.Good):iq (cC b):=by
 induction b with
 |nil=>intro x l;simp[cC]at l
 |cons c r m=>
  rw[nh];exact((Eh (n c (by simp))).append (iq.le 4 _)).append (m (λl b=>n l (by simp[b])))
theorem Nv(w:J)(m n o p:Option Addr)(l c1 c2 c3:Nat)(q r s t:List ar)(C:Row w 1 (.slice m q.length l) q.length (q.map ar.ptr))(D:Row w 1 (.slice n r.length c1) r.length (r.map ar.ptr))(E:Row w 1 (.slice o s.length c2) s.length (s.map ar.ptr))(F:Row w 1 (.slice p t.length c3) t.length (t.map ar.ptr))(y:∀k,Value.ownBlock (.slice m q.length l)=some k->k<w.heap.size)(z:∀k,Value.ownBlock (.slice n r.length c1)=some k->k<w.heap.size)(A:∀k,Value.ownBlock (.slice o s.length c2)=some k->k<w.heap.size)(B:∀k,Value.ownBlock (.slice p t.length c3)=some k->k<w.heap.size)(G:(q++r++s++t).length<=10000000):xQ (w.alloc (.cells #[.slice m q.length l,.slice n r.length c1,.slice o s.length c2,.slice p t.length c3] 107)) w.heap.size 0 [(.slice m q.length l,q),(.slice n r.length c1,r),(.slice o s.length c2,s),(.slice p t.length c3,t)]:=by
 have b:I (λ_=>False) w (w.alloc (.cells #[.slice m q.length l,.slice n r.length c1,.slice o s.length c2,.slice p t.length c3] 107)):=(I.refl _ _).alloc _;have x:(w.alloc (.cells #[.slice m q.length l,.slice n r.length c1,.slice o s.length c2,.slice p t.length c3] 107)).heap[w.heap.size]?=some (.cells #[.slice m q.length l,.slice n r.length c1,.slice o s.length c2,.slice p t.length c3] 107 (0,0)):=az _ rfl;refine⟨rfl,λi u=>?_,λi u=>?_,λi u=>?_,by rw[Ib];omega⟩
 ·have:i=0\/i=1\/i=2\/i=3:=by simp at u;omega
  rcases this with rfl|rfl|rfl|rfl<;>(rw[aj x];rfl)
 ·have:i=0\/i=1\/i=2\/i=3:=by simp at u;omega
  rcases this with rfl|rfl|rfl|rfl
  ·exact b.row C (λk c=>⟨id,y k c⟩)
  ·exact b.row D (λk c=>⟨id,z k c⟩)
  ·exact b.row E (λk c=>⟨id,A k c⟩)
  ·exact b.row F (λk c=>⟨id,B k c⟩)
 ·have:i=0\/i=1\/i=2\/i=3:=by simp at u;omega
  rcases this with rfl|rfl|rfl|rfl
  ·exactλk c=>ah (y k c) b.size
  ·exactλk c=>ah (z k c) b.size
  ·exactλk c=>ah (A k c) b.size
  ·exactλk c=>ah (B k c) b.size
section
variable{w wr w2:J}{d sb base:Nat}{K e j:DK}{g:List ar}{f:List NT}{T us:List ar}{a h i num:Nat}
theorem CM.free(B:CF w d sb base K g f T a h)(r:CM w d sb base K g f T a h wr e us i num):cR (vw e.files) (eM num)=none:=by
 obtain⟨s,o,q⟩:=r.files;rw[o,gR,B.fresh num r.mR.1,ik];cases c:cR s (eM num)with
 |none=>rfl
 |some b=>
  obtain⟨u,t,A,y⟩:=q _ (tg c);simp only[eY]at A;have C:=qF A.1;rcases r.Hy u t with z|⟨E,D,_,_,_,z⟩
  ·have:=B.low u z;omega
  ·omega
theorem CM.write(r:CF w d sb base K g f T a h)(c:CM w d sb base K g f T a h wr e us i num)(N:i<T.length){p:NT}(u:p∈f)(o:p.t=T[i]):Calls prog 158 #[.pointer (some ⟨T[i].tb,0,none⟩),.pointer (some ⟨d,0,none⟩),.int .u64 num] wr λR O=>R=.returned .nilIface/\∃x D,CM w d sb base K g f T a h O x D (i+1) (num+1):=by
 have b:=c.rest p u (by rw[o,<-iJ N];exact cK);have n:=(r.news p u).2;have s:num<18446744073709551616:=by have:=c.mR.2;have:=r.nx;have:=r.small;omega
 have q:eW (vw e.files)+200000<=1099511627776:=by
  have F:=c.mG;have G:=r.room;have H:=r.small;have L:i*200000<=1000000*200000:=ke _ (by omega);omega
 have t:=(r.news p u).1.lt;have m:∀k,p.has k->¬e.aS d k:=λk C U=>by
  rcases c.aS k U with E|E
  ·have:=r.aS k E;have:=(t k C).1;omega
  ·have:=(t k C).2;omega
 have z:p.bb≠p.t.tb:=by
  obtain⟨y,B⟩:=dS b.xO (k:=p.bb) rfl;exact fj B b.mem.box (by decide)
 have A:p.bb≠p.x:=by
  obtain⟨y,B⟩:=dS b.xO (k:=p.bb) rfl;obtain⟨E,C⟩:=dS b.data (k:=p.x) rfl;exact fj B C (by decide)
 have l:=b.mem;rw[b.ks]at l;rw[<-o];refine(By wr p.t.tb d num s e 0 0 0 0 p.bb 0 p.bJ base p.x p.eL p.t.cs l b.data (by have:=r.le;have:=c.ay.size;omega) n.idx (Jr n.pure.gU) c.steps c.pow n.small c.aH (c.free r) (by have:=c.cY;have:=r.cY;have:=r.small;omega) q (m _ (.inr (.inr rfl))) (m _ (.inl rfl)) (m _ (.inr (.inl rfl))) z A).mono ?_;rintro R O⟨rfl,x,F,G,H,L,P,Q⟩;exact⟨rfl,x,_,c.wrote r N u o F G H L P Q s⟩
end
end Go.Proofs.YtophdnlmpfmeiaaGreatDoor
