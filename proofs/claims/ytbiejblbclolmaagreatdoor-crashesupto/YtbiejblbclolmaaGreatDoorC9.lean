import Derived.Test.YtbiejblbclolmaaGreatDoorC8
open _root_ renaming List.length→y,Option.some→H,Array.size→z,Go.World.heap→G,Go.Value.ownBlock→cI,Go.World.cell?→aW,Go.World.setCell→cH,Go.World.alloc→dd,Bool.false→bw,Bool.true→cf,Nat→M,Int→U,List→ci,Go.Calls→cY,Go.undef→iM,Go.Proofs.Tryz.prog→bA,Go.Value.slice→I,Go.Value.string→am,Go.Value.bool→aM,Go.Value.tuple→dA,Go.Value.agg→dL
namespace Go.Proofs.YtbiejblbclolmaaGreatDoor
open ChangeShapes WideShapes RowKit Proofs.Tryz List
set_option maxHeartbeats 16000000
set_option linter.all false
set_option maxRecDepth 100000
variable{a f A:Y}{b c i l:M}{d t L:ab}{e K:cU}{g:DK}{j p u v:cP}{k:U}{m:dX}{n:eF}{W:SR}{w:E}{B:ix}{D:Fs}{S:Bool}{T:Prop}
structure PR(n:M)(rs:dX):Prop where
 pW:jX rs
 mJ:∀r∈rs,eh r
 jf:∀x∈rs.flatten,x.Good
 low:∀x∈rs.flatten,x.bQ<=n
def uZ(h:w.Good):w.key≠⟨#[]⟩:=λe=>by
 have:=h.WP;rw[e]at this;simp[ByteArray.size]at this
def PR.keys(h:PR b m):∀x∈m.flatten,x.key≠⟨#[]⟩:=λx a=>uZ<|h.jf x a
def PR.Q8{C a M' D:dX}(h:PR b (C++a++D))(g:jX M')(j:∀r∈M',eh r)(d:∀x∈M'.flatten,x∈a.flatten):PR b (C++M'++D):=by
 have f:∀x,x∈(C++M'++D).flatten->x∈(C++a++D).flatten:=by grind
 refine⟨TD h.pW g d,λr i=>?_,λx c=>h.jf x<|f x c,λx c=>h.low x<|f x c⟩;rcases aA.1 i with e|e;rcases aA.1 e with e|e;exact h.mJ r (by simp[e]);exact j r e;exact h.mJ r<|by simp[e]
def PR.cons(i:PR b m)(t:b<=c)(n:eh e)(l:∀x∈e,x.Good)(g:∀x∈e,(b:U)<x.bQ)(f:∀x∈e,x.bQ<=c):PR c (e::m):=by
 refine⟨?_,?_,?_,?_⟩;unfold jX;rw[bz];refine⟨λr h o j p k _=>?_,i.pW⟩;have q:=i.low p<|bC.2 ⟨r,h,k⟩;have s:=g o j;omega;intro r h;rcases bM.1 h with rfl|d;exact n;exact i.mJ r d;intro x a;rw[bW,aA]at a;rcases a with d|d;exact l x d;exact i.jf x d;intro x a;rw[bW,aA]at a;rcases a with d|d;exact f x d;have:=i.low x d;omega
theorem PR.MT(h:PR b m):PR b ([]::m):=h.cons (ag _) eh.nil (by simp) (by simp)<|by simp
def Hq(a:dX)(k:ae):seen ([]::a) k=seen a k:=by
 unfold seen;rw[qH,Uz,jv]
def bV(a b c d:cP):dX:=(a.map bB.all).reverse++[cA b,cA c,cA d]
def FC(a b c d:cP)(t:bB):bV (a++[t]) b c d=t.all::bV a b c d:=by simp[bV]
def lX(h:j.map bB.all=gJ e):cA j=e:=by
 unfold cA;rw[h];exact wY e
theorem NH(h:j.isEmpty=cf):cA j=[]:=by
 rw[List.isEmpty_iff]at h;rw[h];rfl
def PR.row(h:PR b m):∀r∈m,gV r:=λr a=>⟨h.mJ r a,λe c=>h.keys e<|bC.2 ⟨r,a,c⟩⟩
def eM(t:U)(a:dX)(k:ae):Option ae:=seen (a.map<|kq t) k
def zl{C Mqq M' D:dX}(h:Co (Mqq.map<|kq k) (M'.map<|kq k) (D.map<|kq k))(a:ae):eM k (C++M'++D) a=eM k (C++Mqq++D) a:=by
 unfold eM;grind[VN]
theorem lk(t:U)(a:dX)(k:ae):eM t ([]::a) k=eM t a k:=by
 unfold eM;rw[bR,show kq t []=[]from rfl];exact Hq _ k
def Sh(h:∀r∈m,r=[])(c:ae):sK (m.map<|kq k) c=none:=Up (λr a=>by obtain⟨s,b,rfl⟩:=bH.1 a;rw[h s b];rfl) c
def QM{c:cP}(h:PR b (bV j p u v))(f:c.map bB.all=gJ (sk n (u.isEmpty&&v.isEmpty) j p)):eh (de<|cA p::j.map bB.all)/\eh (sk n (u.isEmpty&&v.isEmpty) j p)/\PR b (bV [] c u v)/\(∀t,(t∈n\/(b:U)<=t)->∀k,eM t (bV [] c u v) k=eM t (bV j p u v) k)/\y (cA c)<=y (cA j)+y (cA p):=by
 have C:cA c=sk n (u.isEmpty&&v.isEmpty) j p:=lX f;have a:bV j p u v=[]++((j.map bB.all).reverse++[cA p])++[cA u,cA v]:=by simp[bV]
 have d:bV [] c u v=[]++[sk n (u.isEmpty&&v.isEmpty) j p]++[cA u,cA v]:=by simp[bV,C]
 rw[a]at h;have s:∀r∈j.map bB.all,gV r:=λr a=>h.row r (by grind);have m:gV (cA p):=h.row _ (by simp);have o:jX ((j.map bB.all).reverse++[cA p]):=(aZ.1 h.pW).1;obtain⟨A,l,B⟩:=Aj (ms:=n) (lowest:=u.isEmpty&&v.isEmpty) s m o;have e:∀x∈[sk n (u.isEmpty&&v.isEmpty) j p].flatten,x∈((j.map bB.all).reverse++[cA p]).flatten:=by intro x g;rw[bW,kY,dz]at g;have:=Az _ _ _ x g;rw[bW,aA]at this;rw[dW,aA,bW,kY,dz];grind[mem_flatten]
 refine⟨A,l,?_,λt w k=>?_,?_⟩;rw[d];exact h.Q8 (by unfold jX;simp) (by intro r a;simp only[bM,gR,nV]at a;subst a;exact l) e;rw[a,d];refine zl (B t [cA u,cA v] (w.imp_right<|λq x g=>wN (h.low x<|by grind) q)<|λi k=>?_) k;rw[my]at i;exact Sh (by intro r a;simp only[bM,gR,nV]at a;grind[NH]) k;rw[C];have D:=(uo n (u.isEmpty&&v.isEmpty)<|cA p::j.map bB.all).length_le;have E:=(jy n<|de<|cA p::j.map bB.all).length_le;have i:=(fi<|cA p::j.map bB.all).length_eq;rw[bW,af]at i;have:(j.map bB.all).flatten=cA j:=rfl;rw[this]at i;unfold sk;omega
theorem UP{α:Type}(l:ci α)(j:M)(h:j<y l):l=l.take j++[l[j]]++l.drop (j+1):=by
 rw[bj,jQ,kM,bO]
theorem ZC{α:Type}(l:ci α){p q:M}(h:p<=q):l=l.take p++(l.drop p).take (q-p)++l.drop q:=by
 have a:l.drop q=(l.drop p).drop (q-p):=by rw[List.drop_drop];congr 1;omega
 rw[bj,a,bO,bO]
def vi(h:((j++p).map bB.all).Pairwise ii):ii (cA j) (cA p):=by
 rw[aE,aZ]at h;intro x f c g;obtain⟨s,d,a⟩:=np.1 f;obtain⟨t,e,b⟩:=np.1 g;exact h.2.2 _ (oU d) _ (oU e) x a c b
def Nr{d c q:M}(hu:jn j)(o:jn p)(ho:Over (cA j) (cA p))(hg:∀x,x∈cA j\/x∈cA p->x.Good)(hj:d<y j)(hc:Ag p (jm j[d].ks) (jF j[d].ks) c q)(w:u.map bB.all=gJ (sk n S [j[d]]<|(p.drop c).take<|q-c)):eh (sk n S [j[d]]<|(p.drop c).take<|q-c)/\eh (cA<|p.take c++u++p.drop q)/\((p.take c++u++p.drop q).map bB.all).Pairwise ii/\(∀(g:U)(av:dX),(g∈n\/∀x,x∈cA j\/x∈cA p->x.bQ<=g)->(S=cf->∀ax,sK (av.map<|kq g) ax=none)->Co ([cA j,cA p].map<|kq g) ([cA<|j.take d++j.drop (d+1),cA<|p.take c++u++p.drop q].map<|kq g) (av.map<|kq g))/\Over (cA<|j.take d++j.drop (d+1)) (cA<|p.take c++u++p.drop q)/\(∀x,x∈cA (j.take d++j.drop (d+1))\/x∈cA (p.take c++u++p.drop q)->x∈cA j\/x∈cA p)/\(∀x∈cA u,x∈cA j\/x∈cA p)/\y (cA<|j.take d++j.drop (d+1))+y (cA<|p.take c++u++p.drop q)<=y (cA j)+y (cA p):=by
 have A:cA u=gX n S [cA<|(p.drop c).take<|q-c,j[d].all]:=lX w;have h:cA [j[d]]=j[d].all:=by simp[cA]
 have D:cA j=cA (j.take d)++j[d].all++cA (j.drop<|d+1):=by grind[UP,fW]
 have E:cA p=cA (p.take c)++cA ((p.drop c).take<|q-c)++cA (p.drop q):=by grind[ZC,Ag.le,fW]
 have hP:=hu.pure j[d]<|ar hj;have W:∀B∈cA (p.take c),∀g∈j[d].all,jj B.key g.key=cf:=by intro B l g i;obtain⟨au,m,k⟩:=np.1 l;obtain⟨an,hi,rfl⟩:=ia.1 m;(have e:an<c/\an<y p:=by rw[dp]at hi;omega);rw[kA]at k;have F:=(o.pure p[an]<|ar e.2).EO k;have K:=hc.A8.low an e.2 e.1;have s:=hP.yW i;exact Qq (yQ F K) s
 have aa:∀B∈j[d].all,∀g∈cA (p.drop q),jj B.key g.key=cf:=by intro B l g i;obtain⟨au,m,k⟩:=np.1 i;obtain⟨an,hi,rfl⟩:=ia.1 m;(have e:q+an<y p:=by rw[iP]at hi;omega);rw[ql]at k;(have L:q<y p:=by omega);have F:=hc.behind L;have K:=hP.EO l;obtain⟨x,b,al⟩:=(o.pure p[q]<|ar L).Jm;(have s:jj g.key (jm p[q].ks)=bw:=by rcases gH an with rfl|ap;exact(o.pure p[q]<|ar L).yW k;rw[<-al];exact lH<|o.pair L e (by omega) b k);exact Qq (yQ K F) s
 have N:((j.take d++([j[d]]++j.drop (d+1))).map bB.all).Pairwise ii:=by have:=hu.GW;rw[UP j d hj,bj]at this;exact this
 have P:((p.take c++((p.drop c).take (q-c)++p.drop q)).map bB.all).Pairwise ii:=by have:=o.GW;rw[ZC p hc.le,bj]at this;exact this
 have C:=vi N;have T:=vi P;rw[fW]at C T;rw[h]at C;have O:=(aZ.1 (by rw[aE]at N;exact N)).2.1;have Q:=(aZ.1 (by rw[aE]at P;exact P)).2.1;have r:=vi O;have V:=vi Q;rw[h]at r;have ac:gV (cA (j.take d)++j[d].all++cA (j.drop<|d+1)):=D▸⟨hu.mJ,λA he=>uZ<|hg A<|.inl he⟩;have ad:gV (cA (p.take c)++cA ((p.drop c).take<|q-c)++cA (p.drop q)):=E▸⟨o.mJ,λA he=>uZ<|hg A<|.inr he⟩;have t:=ho;rw[D,E]at t;obtain⟨r1,r2,r3,r4,r5,r6⟩:=TB (ms:=n) (lowest:=S) ac ad t (λx b a f=>C x b a<|by simp[f]) (λx b a f=>C x b a<|by simp[f]) r (λx b a f=>T x b a<|by simp[f]) (λx b a f=>T x b a<|by simp[f]) V W aa;have ao:∀x∈gX n S [cA<|(p.drop c).take<|q-c,j[d].all],x∈j[d].all\/x∈cA ((p.drop c).take<|q-c):=by intro x b;have:=Az n S _ x b;grind
 have v:eh (gX n S [cA<|(p.drop c).take<|q-c,j[d].all]):=r2.mJ.sub (by simp);refine⟨v,?_,?_,?_,?_,?_,?_,?_⟩;rw[fW,fW,A];exact r2.mJ;rw[aE,aE,aZ,aZ];refine⟨⟨(by grind),by rw[w];exact FN v,λx b a f=>?_⟩,(by grind),λx b a f=>?_⟩;obtain⟨L,k,rfl⟩:=bH.1 b;obtain⟨au,m,rfl⟩:=bH.1 f;exactλB l g i=>r3 B (np.2 ⟨L,k,l⟩) g (by rw[<-A];grind[np]);obtain⟨au,m,rfl⟩:=bH.1 f;rcases aA.1 b with b|b;(grind);obtain⟨L,k,rfl⟩:=bH.1 b;exactλB l g i=>r4 B (by rw[<-A];grind[np]) g<|np.2 ⟨au,m,i⟩;intro g av i k;simp only[bR,iz];rw[fW,fW,fW,A,D,E];grind
 rw[fW,fW,fW,A];exact r5;grind[fW]
 grind
 rw[fW,fW,fW,A,D,E];have F:=(uo n S [cA<|(p.drop c).take<|q-c,j[d].all]).length_le;have K:=(jy n<|de [cA<|(p.drop c).take<|q-c,j[d].all]).length_le;have s:=(fi [cA<|(p.drop c).take<|q-c,j[d].all]).length_eq;rw[bW,bW,kY,dz,af]at s;grind
def Qc(h:Over e K):jX [e,K]:=by
 unfold jX;grind
def EK{C D:dX}(h:jX (C++[e,K]++D)):Over e K:=by
 have a:=(aZ.1 (aZ.1 h).1).2.1;grind
def QL{c:cP}{d h q:M}(i:PR b (bV j p u v))(l:jn p)(o:jn u)(r:d<y p)(hcut:Ag u (jm p[d].ks) (jF p[d].ks) h q)(f:c.map bB.all=gJ (sk n v.isEmpty [p[d]]<|(u.drop h).take<|q-h)):PR b (bV j (p.take d++p.drop (d+1)) (u.take h++c++u.drop q) v)/\(∀t,(t∈n\/(b:U)<=t)->∀k,eM t (bV j (p.take d++p.drop (d+1)) (u.take h++c++u.drop q) v) k=eM t (bV j p u v) k)/\eh (cA c)/\((u.take h++c++u.drop q).map bB.all).Pairwise ii/\(∀x∈cA c,x.Good)/\y (cA<|p.take d++p.drop (d+1))+y (cA<|u.take h++c++u.drop q)<=y (cA p)+y (cA u):=by
 have a:∀x d:cP,bV j x d v=(j.map bB.all).reverse++[cA x,cA d]++[cA v]:=λx d=>by simp[bV]
 rw[a]at i;have m:∀x,x∈cA p\/x∈cA u->x.Good:=λx g=>i.jf x (by grind);obtain⟨A,B,w,C,D,K,E,F⟩:=Nr l o (EK i.pW) m r hcut f;refine⟨?_,λt s k=>?_,by rw[lX f];exact A,w,λx g=>m x<|E x g,F⟩;rw[a];refine i.Q8 (Qc D) (λL e=>?_)<|λx g=>?_;simp only[bM,gR,nV]at e;rcases e with rfl|rfl;rw[fW];have:=l.mJ.sub (sB (us:=p.take d++p.drop (d+1)) (ts:=p)<|by grind[UP,append_assoc,sublist_append_right]);rwa[fW]at this;exact B;grind
 rw[a,a];exact zl (C t [cA v] (s.imp_right<|λq x g=>wN (i.low x<|by grind) q)<|λd k=>Sh (by intro L a;simp only[bM,gR,nV]at a;subst a;exact NH d) k) k
def QK{a:cP}{c g q:M}(h:PR b (bV j p u v))(i:jn u)(m:jn v)(r:c<y u)(hcut:Ag v (jm u[c].ks) (jF u[c].ks) g q)(e:a.map bB.all=gJ (sk n cf [u[c]]<|(v.drop g).take<|q-g)):PR b (bV j p (u.take c++u.drop (c+1))<|v.take g++a++v.drop q)/\(∀t,(t∈n\/(b:U)<=t)->∀k,eM t (bV j p (u.take c++u.drop (c+1))<|v.take g++a++v.drop q) k=eM t (bV j p u v) k)/\eh (cA a)/\((v.take g++a++v.drop q).map bB.all).Pairwise ii/\(∀x∈cA a,x.Good)/\y (cA<|u.take c++u.drop (c+1))+y (cA<|v.take g++a++v.drop q)<=y (cA u)+y (cA v):=by
 have f:∀x c:cP,bV j p x c=((j.map bB.all).reverse++[cA p])++[cA x,cA c]++[]:=λx c=>by simp[bV]
 rw[f]at h;have o:∀x,x∈cA u\/x∈cA v->x.Good:=λx l=>h.jf x (by grind);obtain⟨A,B,w,C,D,F,K,E⟩:=Nr i m (EK h.pW) o r hcut e;refine⟨?_,λt s k=>?_,by rw[lX e];exact A,w,(by grind),E⟩;rw[f];refine h.Q8 (Qc D) (λL d=>?_)<|λx l=>?_;simp only[bM,gR,nV]at d;rcases d with rfl|rfl;rw[fW];have:=i.mJ.sub (sB (us:=u.take c++u.drop (c+1)) (ts:=u)<|by grind[UP,append_assoc,sublist_append_right]);rwa[fW]at this;exact B;grind
 rw[f,f];exact zl (C t [] (s.imp_right<|λq x l=>wN (h.low x<|by grind) q)<|λc k=>zA k) k
def zt(r:j.map bB.all=gJ e)(o:∀t∈j,Yn a b t)(m:eh e)(g:rH 5 e)(s:∀x∈e,x.Good):∀t∈j,uF t.ks t.cs/\OS (bX 0 t.cs)/\t.ks=bX 0 t.cs/\y t.all<=100:=by
 intro t p;obtain⟨q,h,x,i,k⟩:=o t p;have l:t.all∈gJ e:=by rw[<-r];grind
 have n:=Tt g _ l;have c:=Da l;have f:=FO e _ l;have d:∀x∈t.all,x.Good:=(by grind);refine⟨?_,k.pieces.idx f d (m.sub c) n,k.ks,n⟩;rw[k.ks];exact k.pieces.kK f d<|m.sub c
def Iz(h:j.map bB.all=gJ e)(g:∀t∈j,Yn a b t)(d:eh e)(c:rH 5 e)(f:∀x∈e,x.Good):jn j:=⟨λt i=>(zt h g d c f t i).1,by rw[lX h];exact d,by rw[h];exact FN d⟩
theorem sD.Dj{w w':Y}{db:M}{m:Fs}{A:fh}{t:bB}(l:sD w db m A t)(o:∀r,A r->w'.heap[r]?=w.heap[r]?):sD w' db m A t:=by
 obtain⟨p,k,j,q,n⟩:=l.mem;exact⟨⟨p,k,j,q.dG (o _ l.loc)<|o _ n,n⟩,l.loc,l.ks,l.num,l.pure,l.idx,l.small,l.file⟩
structure OP(t:bB):Prop where
 pure:uF t.ks t.cs
 idx:OS (bX 0 t.cs)
 small:y (dU t.cs)<=100000
def LB(db sbqq baseqq:M)(K:DK)(k:M):Prop:=k<baseqq/\¬K.aL db k/\k≠sbqq
def XT(e:cP)(ps:ci NT)(t:bB):Prop:=t∈e\/∃p∈ps,p.t=t
def qZ(w:Y)(db sbqq baseqq:M)(K:DK)(v:ab):Prop:=∀k,cI v=H k->k<z (G w)/\¬K.aL db k/\k≠sbqq/\(k<baseqq\/∃j l,w.heap[k]?=H (ay j 179 l))
theorem qZ.aj{w w':Y}{db sbqq baseqq:M}{K:DK}{v:ab}(n:qZ w db sbqq baseqq K v)(l:Z (K.aL db) w w'):qZ w' db sbqq baseqq K v:=λq m=>by
 obtain⟨j,k,o,p⟩:=n q m;exact⟨ai j l.size,k,o,p.imp id<|λ⟨m,n,r⟩=>⟨m,n,(l.block q j k).trans r⟩⟩
structure LS(w:Y)(db sb base:M)(K:DK)(e:cP)(ps:ci NT)(C:M)(g h i f:ab)(a b c d:cP):Prop where
 D:(nR db K).D w
 tu:K.fx.ok
 le:base<=z (G w)
 aL:∀k,K.aL db k->k<base
 Mj:sb<base
 steps:Steps w
 pow:Pow w
 fR:LB db sb base K 1
 mz:LB db sb base K 2
 qa:∀t∈e,sD w db (vw K.files) (LB db sb base K) t
 news:∀p∈ps,p.Ok w base/\OP p.t
 apart:ps.Pairwise NT.js
 r0:Row w 1 g (y a) (a.map bB.ptr)
 r1:Row w 1 h (y b) (b.map bB.ptr)
 r2:Row w 1 i (y c) (c.map bB.ptr)
 r3:Row w 1 f (y d) (d.map bB.ptr)
 b0:qZ w db sb base K g
 b1:qZ w db sb base K h
 b2:qZ w db sb base K i
 b3:qZ w db sb base K f
 x0:∀t∈a,XT e ps t
 x1:∀t∈b,XT e ps t
 x2:∀t∈c,XT e ps t
 x3:∀t∈d,XT e ps t
 nodup:((a++b++c++d).map bB.tb).Nodup
 s1:jn b
 s2:jn c
 s3:jn d
 sI:y (cA a)+y (cA b)+y (cA c)+y (cA d)<=C
 jV:C<=1000000
section
variable{w w':Y}{db sbqq baseqq C:M}{K:DK}{e:cP}{ps:ci NT}{g h i f:ab}{a b c d:cP}
theorem XT.more{t:bB}(j:XT e ps t)(l:ci NT):XT e (ps++l) t:=by
 rcases j with j|⟨p,k,n⟩;exact .inl j;exact .inr ⟨p,by simp[k],n⟩
theorem LS.aj(j:LS w db sbqq baseqq K e ps C g h i f a b c d)(l:Z (K.aL db) w w')(n:(nR db K).D w'):LS w' db sbqq baseqq K e ps C g h i f a b c d where
 D:=n
 tu:=j.tu
 le:=aB j.le l.size
 aL:=j.aL
 Mj:=j.Mj
 steps:=λm k=>l.cell (j.steps m k) j.fR.2.1<|ai j.fR.1 j.le
 pow:=j.pow.dG<|l.block _ (ai j.mz.1 j.le) j.mz.2.1
 fR:=j.fR
 mz:=j.mz
 qa:=λt n=>(j.qa t n).Dj<|λm k=>l.block m (ai k.1 j.le) k.2.1
 news:=λp n=>⟨(j.news p n).1.aj l (λm k c=>by have:=((j.news p n).1.lt m k).1;have:=j.aL m c;omega),(j.news p n).2⟩
 apart:=j.apart
 r0:=l.row j.r0<|λm k=>⟨(j.b0 m k).2.1,(j.b0 m k).1⟩
 r1:=l.row j.r1<|λm k=>⟨(j.b1 m k).2.1,(j.b1 m k).1⟩
 r2:=l.row j.r2<|λm k=>⟨(j.b2 m k).2.1,(j.b2 m k).1⟩
 r3:=l.row j.r3<|λm k=>⟨(j.b3 m k).2.1,(j.b3 m k).1⟩
 b0:=j.b0.aj l
 b1:=j.b1.aj l
 b2:=j.b2.aj l
 b3:=j.b3.aj l
 x0:=j.x0
 x1:=j.x1
 x2:=j.x2
 x3:=j.x3
 nodup:=j.nodup
 s1:=j.s1
 s2:=j.s2
 s3:=j.s3
 sI:=j.sI
 jV:=j.jV
theorem LS.D4(l:LS w db sbqq baseqq K e ps C g h i f a b c d){t:bB}(j:XT e ps t):uF t.ks t.cs:=by
 rcases j with j|⟨p,k,rfl⟩;exact(l.qa t j).pure;exact(l.news p k).2.pure
theorem LS.YG(k:LS w db sbqq baseqq K e ps C g h i f a b c d){t:bB}(l:XT e ps t):nT (nR db K) (z<|G w) t.tb t.ks t.cs w:=by
 have v:=k.le;have o:1<z (G w)/\¬(nR db K).F 1:=⟨by have:=k.fR.1;omega,k.fR.2.1⟩;rcases l with l|⟨p,x,rfl⟩;obtain⟨r,m,j,u,q⟩:=(k.qa t l).mem;obtain⟨A,s,n⟩:=ji (k.qa t l).file;exact nT.RO (0<K.fx.bd) db K (K.aL db) (z<|G w) t.tb t.num (k.qa t l).num _ _ _ r m j az t.ks t.cs A (fP<|bX 0 t.cs) w u (k.qa t l).pure s n k.tu id ⟨by have:=(k.qa t l).loc.1;omega,(k.qa t l).loc.2.1⟩ ⟨by have:=q.1;omega,q.2.1⟩ k.steps o k.pow ⟨by have:=k.mz.1;omega,k.mz.2.1⟩;obtain⟨j,n⟩:=k.news p x;have r:=j.lt;have q:∀j,p.has j->j<z (G w)/\¬(nR db K).F j:=λj l=>⟨(r j l).2,λc=>by have:=k.aL j c;have:=(r j l).1;omega⟩;(have m:y (dU p.t.cs)<=p.Ia:=by rcases j.data.2 with⟨c,_⟩|⟨B,s,u,c,_,_,A,_⟩;cases c;grind);exact nT.E1 (nR db K) (z<|G w) p.t.tb 0 0 0 0 p.bb 0 p.ya p.x 0 p.Ia p.t.ks p.t.cs w j.mem n.pure (fg.bytes j.data) m (by have:=n.small;omega) (q _<|.inl rfl) (q _<|.inr<|.inl rfl) (q _<|.inr<|.inr rfl) k.steps o
theorem LS.count(j:LS w db sbqq baseqq K e ps C g h i f a b c d):y a+y b+y c+y d<=1000000:=by
 have:=j.sI;have:=j.jV;have:=lB<|λt k=>j.D4<|j.x0 t k;have:=lB j.s1.pure;have:=lB j.s2.pure;have:=lB j.s3.pure;omega
theorem LS.M9(j:LS w db sbqq baseqq K e ps C g h i f a b c d):tw (nR db K) (z<|G w) h b w:=⟨j.r1,λm k=>⟨(j.b1 m k).1,(j.b1 m k).2.1⟩,λt l=>j.YG<|j.x1 t l,j.s1,by have:=j.count;omega⟩
theorem LS.M8(j:LS w db sbqq baseqq K e ps C g h i f a b c d):tw (nR db K) (z<|G w) i c w:=⟨j.r2,λm k=>⟨(j.b2 m k).1,(j.b2 m k).2.1⟩,λt l=>j.YG<|j.x2 t l,j.s2,by have:=j.count;omega⟩
theorem LS.U3(j:LS w db sbqq baseqq K e ps C g h i f a b c d):tw (nR db K) (z<|G w) f d w:=⟨j.r3,λm k=>⟨(j.b3 m k).1,(j.b3 m k).2.1⟩,λt l=>j.YG<|j.x3 t l,j.s3,by have:=j.count;omega⟩
theorem Cg{j:cP}(n:∀t∈j,t.ks=bX 0 t.cs):ku j=y (cA j):=by
 induction j with
 |nil=>rfl
 |cons t r m=>
  have k:=m (λu j=>n u<|by simp[j]);have l:=n t (by simp);unfold ku at k|-;rw[bR,vu,k,zH,af,l,Dx];rfl
theorem LS.ks(l:LS w db sbqq baseqq K e ps C g h i f a b c d){t:bB}(j:XT e ps t):t.ks=bX 0 t.cs:=by
 rcases j with j|⟨p,k,rfl⟩;exact(l.qa t j).ks;exact(l.news p k).1.ks
theorem FD{l n:M}{v:ab}{o:ix}(p:Row w l v n o)(r:0<n):∃b j k,v=bI b j n k/\n<=k:=by
 rcases p.2 with⟨_,q⟩|⟨b,j,k,s,m,_⟩;omega;grind
theorem LS.pW{m:cP}{D:cU}(v:LS w db sbqq baseqq K e ps C g h i f a b c d)(O:Z (K.aL db) w w')(A:qR w' (z<|G w) m)(F:m.map bB.all=gJ D)(N:eh D)(t:rH 5 D)(E:∀aa∈D,aa.Good):∃l:ci NT,l.map NT.t=m/\(∀p∈ps++l,p.Ok w' baseqq/\OP p.t)/\(ps++l).Pairwise NT.js/\(∀B∈m,XT e (ps++l) B)/\(∀B∈m,z (G w)<=B.tb)/\(m.map bB.tb).Nodup:=by
 have L:=zt F A.each N t E;obtain⟨l,n,o,x⟩:=A;have s:∀p∈ps,∀u,p.has u->u<z (G w):=λp j u r=>((v.news p j).1.lt u r).2;refine⟨l,n,λp j=>?_,?_,λB k=>?_,λB k=>?_,?_⟩;rcases aA.1 j with c|c;exact⟨(v.news p c).1.aj O (λu r d=>by have:=((v.news p c).1.lt u r).1;have:=v.aL u d;omega),(v.news p c).2⟩;obtain⟨P,Q,S,T⟩:=L p.t (by rw[<-n];grind);refine⟨(o p c).base v.le,P,Q,?_⟩;have V:=(o p c).pieces.data;have W:=(o p c).pieces.length;omega;rw[aZ];exact⟨v.apart,x,λp j q l u r k=>by have:=s p j u r;have:=((o q l).lt u k).1;omega⟩;rw[<-n]at k;obtain⟨p,j,rfl⟩:=bH.1 k;exact .inr ⟨p,by simp[j],rfl⟩;rw[<-n]at k;obtain⟨p,j,rfl⟩:=bH.1 k;exact(o p j).new;rw[<-n,ee];unfold List.Nodup;rw[gW];refine x.imp<|λ{p q}j k=>j p.t.tb (.inl rfl)<|.inl k
theorem XT.DM(k:LS w db sbqq baseqq K e ps C g h i f a b c d){t:bB}(j:XT e ps t):t.tb<z (G w):=by
 rcases j with j|⟨p,l,rfl⟩;have:=(k.qa t j).loc.1;have:=k.le;omega;exact((k.news p l).1.lt _<|.inl rfl).2
theorem LS.lt(j:LS w db sbqq baseqq K e ps C g h i f a b c d):∀t∈a++b++c++d,t.tb<z (G w):=λt q=>by
 simp only[aA]at q;rcases q with((q|q)|q)|q;exact XT.DM j<|j.x0 t q;exact XT.DM j<|j.x1 t q;exact XT.DM j<|j.x2 t q;exact XT.DM j<|j.x3 t q
theorem Rz{j:cP}(k:∀t∈j,uF t.ks t.cs)(l:eh (cA j))(m:(j.map bB.all).Pairwise ii):jn j:=⟨k,l,m⟩
theorem wZ{j s:M}{v:ab}{o:ix}(m:w'.ownsRow (z<|G w) 179 j v s o)(r:∀k,K.aL db k->k<baseqq)(n:sbqq<baseqq)(q:baseqq<=z (G w)):qZ w' db sbqq baseqq K v:=λk l=>by
 have p:=m.lt k l;grind[eT]
end
theorem UL{n:M}{a b c d:cP}(k:PR n (bV a b c d)):eh (de<|cA b::a.map bB.all):=by
 have j:bV a b c d=[]++((a.map bB.all).reverse++[cA b])++[cA c,cA d]:=by simp[bV]
 rw[j]at k;exact(Aj (ms:=[]) (lowest:=bw) (λr j=>k.row r<|by grind) (k.row _<|by simp) (aZ.1 k.pW).1).1
theorem Zm{u v j:cP}{o:M}(q:jn u)(r:jn v)(p:Over (cA u) (cA v))(l:o<y u)(n:j.Sublist v):eh (de<|cA j::[u[o]].map bB.all):=by
 have k:∀t∈[u[o].all,cA j],eh t:=by intro t s;simp only[bM,gR,nV]at s;rcases s with rfl|rfl;exact q.each<|ar l;exact r.mJ.sub<|sB n
 have m:jX [u[o].all,cA j]:=Qc<|λx q k r=>p x (np.2 ⟨_,ar l,q⟩) k<|(sB n).subset r;show eh (de [cA j,u[o].all]);rw[ur k m<|List.Perm.swap _ _ _];exact pH k m
theorem De{Xqq l j O:cP}{v:M}(x:(O.map bB.tb).Nodup)(n:∀t∈O,t.tb<v)(k:(Xqq++l).Sublist O)(p:(j.map bB.tb).Nodup)(m:∀t∈j,v<=t.tb):((Xqq++j++l).map bB.tb).Nodup:=by
 have o:(Xqq++j++l).Perm (j++(Xqq++l)):=by rw[<-bj];exact qo _ xQ
 rw[(o.map bB.tb).nodup_iff,aE,kw];refine⟨p,List.Nodup.sublist (k.map _) x,λE r u s D=>?_⟩;obtain⟨t,q,rfl⟩:=bH.1 r;obtain⟨B,A,rfl⟩:=bH.1 s;have:=m t q;have:=n B<|k.subset A;omega
theorem O9{u v:cP}(p:∀x,x∈cA u\/x∈cA v->x.Good)(r:jn u)(s:jn v)(q:Over (cA u) (cA v))(B:y (cA u)+y (cA v)<=1000000)(l:M)(m:l<y u)(j:cP)(n:j.Sublist v):eh (de<|cA j::[u[l]].map bB.all)/\(∀x∈de (cA j::[u[l]].map bB.all),x.Good)/\y (de<|cA j::[u[l]].map bB.all)<=1000000:=by
 refine⟨Zm r s q m n,λx k=>p x ?_,?_⟩;have k:=(fi _).mem_iff.1 k;simp only[bR,iz,bW,kY,dz,aA]at k;grind[sB,np,getElem_mem]
 have o:=(fi<|cA j::[u[l]].map bB.all).length_eq;simp only[bR,iz,bW,kY,dz,af]at o;have t:=(sB n).length_le;(have A:y u[l].all<=y (cA u):=by have:=(sB (us:=[u[l]]) (ts:=u)<|List.singleton_sublist.2<|ar m).length_le;simpa[cA]using this);grind
theorem LS.N8{w:Y}{db sbqq baseqq C al:M}{K:DK}{e:cP}{ps:ci NT}{g h i f:ab}{a b c d:cP}(j:LS w db sbqq baseqq K e ps C g h i f a b c d)(W:PR al (bV a b c d))(ha:0<y a)(n:eF)(Q:Option Addr)(P:M)(hm:Row w 1 (I Q (y n) P) (y n) (n.map<|Value.int .u64))(V:∀v,cI (I Q (y n) P)=H v->v<z (G w)/\¬K.aL db v)(E:y n<=4):cY bA 97 #[dL #[g,h,i,f],aq 0,I Q (y n) P] w λac w'=>(∃S k O,∃x:cP,∃aa,ac=aN (dA #[dL #[az,I S k O,i,f],.nilIface])/\LS w' db sbqq baseqq K e aa C az (I S k O) i f [] x c d/\PR al (bV [] x c d)/\(∀N,(N∈n\/(al:U)<=N)->∀v,eM N (bV [] x c d) v=eM N (bV a b c d) v)/\Z (K.aL db) w w')\/EA (nR db K) w w' (K.aL db) ac bL:=by
 obtain⟨b0,o0,c0,rfl,ad⟩:=FD j.r0 ha;obtain⟨x1,c1,rfl⟩:=bZ j.r1;obtain⟨x2,c2,rfl⟩:=bZ j.r2;obtain⟨x3,c3,rfl⟩:=bZ j.r3;have B:∀an∈de (cA b::a.map bB.all),an.Good:=by intro an hx;have:=(fi _).mem_iff.1 hx;rw[bW,aA]at this;refine W.jf an ?_;unfold bV;rw[dW,aA];grind[mem_flatten]
 have p:y (de<|cA b::a.map bB.all)<=1000000:=by have h1:=(fi<|cA b::a.map bB.all).length_eq;rw[bW,af]at h1;have h2:(a.map bB.all).flatten=cA a:=rfl;rw[h2]at h1;have:=j.sI;have:=j.jV;omega
 have F:=UL W;refine(UM b0 o0 c0 x1 x2 x3 _ _ _ c1 c2 c3 a c d j.r0 ⟨(j.b0 _ rfl).1,(j.b0 _ rfl).2.1⟩ (λN L=>j.YG<|j.x0 N L) j.M9 j.r2 j.r3 (λv o=>⟨(j.b2 v o).1,(j.b2 v o).2.1⟩) (λv o=>⟨(j.b3 v o).1,(j.b3 v o).2.1⟩) j.D (ag _) (λv o=>by have:=j.aL v o;have:=j.le;omega) j.steps ⟨by have:=j.fR.1;have:=j.le;omega,j.fR.2.1⟩ j.count n Q P hm V E _ rfl F B p).mono ?_;rintro ac w'(⟨S,k,O,x,rfl,q,l,m,T,L⟩|A);rotate_left;exact .inr A;obtain⟨_,r,p1,p2,p3⟩:=QM W l;obtain⟨_,s,D,_⟩:=uq (ms:=n) (lowest:=c.isEmpty&&d.isEmpty) F B p E;obtain⟨qs,q0,q1,q2,q3,q4,q5⟩:=j.pW L m l r s D;have t:jn x:=Iz l m.each r s D;refine .inl ⟨S,k,O,x,ps++qs,rfl,?_,p1,p2,L⟩;have h':=j.aj L T;refine{h' with news:=q1,apart:=q2,r0:=⟨rfl,.inl ⟨rfl,rfl⟩⟩,r1:=dR q,b0:=?_,b1:=wZ q j.aL j.Mj j.le,x0:=?_,x1:=q3,x2:=λN u=>(h'.x2 N u).more qs,x3:=λN u=>(h'.x3 N u).more qs,nodup:=?_,s1:=t,sI:=?_};intro v o;cases o;grind
 rw[bj];exact De (Xqq:=[]) j.nodup j.lt (by grind) q5 q4;have:=j.sI;have e0:y (cA ([]:cP))=0:=rfl;omega
theorem LS.N7{w:Y}{db sbqq baseqq C au:M}{K:DK}{e:cP}{ps:ci NT}{g h i f:ab}{a b c d:cP}(j:LS w db sbqq baseqq K e ps C g h i f a b c d)(hp:PR au (bV a b c d))(hb:0<y b)(r:eF)(mx:Option Addr)(mc:M)(hm:Row w 1 (I mx (y r) mc) (y r) (r.map<|Value.int .u64))(al:∀E,cI (I mx (y r) mc)=H E->E<z (G w)/\¬K.aL db E)(L:y r<=4):cY bA 97 #[dL #[g,h,i,f],aq 1,I mx (y r) mc] w λT w'=>(∃xl nl W xm n cm,∃V c':cP,∃ao,T=aN (dA #[dL #[g,I xl nl W,I xm n cm,f],.nilIface])/\LS w' db sbqq baseqq K e ao C g (I xl nl W) (I xm n cm) f a V c' d/\y V+1=y b/\PR au (bV a V c' d)/\(∀t,(t∈r\/(au:U)<=t)->∀E,eM t (bV a V c' d) E=eM t (bV a b c d) E)/\Z (K.aL db) w w')\/EA (nR db K) w w' (K.aL db) T bL:=by
 obtain⟨b0,o0,c0,rfl,ad⟩:=FD j.r1 hb;obtain⟨x1,c1,rfl⟩:=bZ j.r0;obtain⟨x2,c2,rfl⟩:=bZ j.r2;obtain⟨x3,c3,rfl⟩:=bZ j.r3;have o:=O9 (u:=b) (v:=c) (λx k=>hp.jf x (by unfold bV;rw[dW,aA];grind)) j.s1 j.s2 (EK (C:=(a.map bB.all).reverse) (D:=[cA d]) (by have:=hp.pW;simpa[bV]using this)) (by have:=j.sI;have:=j.jV;omega);refine(GI b0 o0 c0 x2 x1 x3 _ _ _ _ _ _ a d j.M9 ad hb j.M8 j.r0 j.r3 (λE A=>⟨(j.b0 E A).1,(j.b0 E A).2.1⟩) (λE A=>⟨(j.b3 E A).1,(j.b3 E A).2.1⟩) j.D (ag _) (λE A=>by have:=j.aL E A;have:=j.le;omega) j.steps ⟨by have:=j.fR.1;have:=j.le;omega,j.fR.2.1⟩ (by have:=j.count;omega) (by rw[Cg<|λt P=>j.ks<|j.x2 t P];have:=j.sI;have:=j.jV;omega) _ (.inl ⟨rfl,rfl,rfl,rfl,rfl,rfl,rfl⟩) o r mx mc hm al L).mono ?_;rintro T w'(⟨xl,nl,W,xm,n,cm,S,aa,hj,an,q,rfl,hcut,N,O,m,p,ac,P⟩|F);rotate_left;exact .inr F;obtain⟨p1,p2,p3,p0,p4,p5⟩:=QL hp j.s1 j.s2 hj hcut m;rw[lX m]at p3 p4;obtain⟨s1,s2,s3⟩:=o aa hj _ ((qj _ _).trans (lM _ _):(List.take (q-an)<|List.drop an _).Sublist _);obtain⟨_,x,_,_⟩:=uq (ms:=r) (lowest:=d.isEmpty) s1 s2 s3 L;obtain⟨Q,q0,q1,q2,q3,q4,q5⟩:=j.pW P p m p3 x p4;have ap:=zt m p.each p3 x p4;have l:(b.take aa++b.drop (aa+1)).Sublist b:=by grind[UP,append_assoc,sublist_append_right]
 have B:(c.take an++c.drop q).Sublist c:=by grind[ZC,Ag.le,append_assoc,sublist_append_right]
 refine .inl ⟨xl,nl,W,xm,n,cm,b.take aa++b.drop (aa+1),c.take an++S++c.drop q,ps++Q,rfl,?_,by simp;omega,p1,p2,P⟩;have h':=j.aj P ac;have s:∀t∈c.take an++S++c.drop q,t∈c\/t∈S:=by grind
 refine{h' with news:=q1,apart:=q2,r1:=dR N,r2:=dR O,b1:=wZ N j.aL j.Mj j.le,b2:=wZ O j.aL j.Mj j.le,x0:=λt k=>(h'.x0 t k).more Q,x1:=λt k=>(h'.x1 t<|l.subset k).more Q,x2:=?_,x3:=λt k=>(h'.x3 t k).more Q,nodup:=?_,s1:=j.s1.sub l,s2:=?_,sI:=?_};intro t k;rcases s t k with T|T;exact(h'.x2 t T).more Q;exact q3 t T;rw[show a++(b.take aa++b.drop (aa+1))++(c.take an++S++c.drop q)++d=(a++(b.take aa++b.drop (aa+1))++c.take an)++S++(c.drop q++d)by grind];exact De j.nodup j.lt (by simpa using(((kB a).append l).append B).append (kB d)) q5 q4;refine Rz (λt k=>?_) (p1.mJ _<|by simp[bV]) p0;rcases s t k with T|T;exact j.s2.pure t T;grind
 have:=j.sI;omega
theorem LS.N6{w:Y}{db sbqq baseqq C au:M}{K:DK}{e:cP}{ps:ci NT}{g h i f:ab}{a b c d:cP}(j:LS w db sbqq baseqq K e ps C g h i f a b c d)(hp:PR au (bV a b c d))(hc:0<y c)(r:eF)(mx:Option Addr)(mc:M)(hm:Row w 1 (I mx (y r) mc) (y r) (r.map<|Value.int .u64))(al:∀E,cI (I mx (y r) mc)=H E->E<z (G w)/\¬K.aL db E)(L:y r<=4):cY bA 97 #[dL #[g,h,i,f],aq 2,I mx (y r) mc] w λT w'=>(∃xl nl W xm n cm,∃V d':cP,∃ao,T=aN (dA #[dL #[g,h,I xl nl W,I xm n cm],.nilIface])/\LS w' db sbqq baseqq K e ao C g h (I xl nl W) (I xm n cm) a b V d'/\y V+1=y c/\PR au (bV a b V d')/\(∀t,(t∈r\/(au:U)<=t)->∀E,eM t (bV a b V d') E=eM t (bV a b c d) E)/\Z (K.aL db) w w')\/EA (nR db K) w w' (K.aL db) T bL:=by
 obtain⟨b0,o0,c0,rfl,ad⟩:=FD j.r2 hc;obtain⟨x1,c1,rfl⟩:=bZ j.r0;obtain⟨x2,c2,rfl⟩:=bZ j.r1;obtain⟨x3,c3,rfl⟩:=bZ j.r3;have o:=O9 (u:=c) (v:=d) (λx k=>hp.jf x (by unfold bV;rw[dW,aA];grind)) j.s2 j.s3 (EK (C:=(a.map bB.all).reverse++[cA b]) (D:=[]) (by have:=hp.pW;simpa[bV]using this)) (by have:=j.sI;have:=j.jV;omega);refine(GI b0 o0 c0 x3 x1 x2 _ _ _ _ _ _ a b j.M8 ad hc j.U3 j.r0 j.r1 (λE A=>⟨(j.b0 E A).1,(j.b0 E A).2.1⟩) (λE A=>⟨(j.b1 E A).1,(j.b1 E A).2.1⟩) j.D (ag _) (λE A=>by have:=j.aL E A;have:=j.le;omega) j.steps ⟨by have:=j.fR.1;have:=j.le;omega,j.fR.2.1⟩ (by have:=j.count;omega) (by rw[Cg<|λt P=>j.ks<|j.x3 t P];have:=j.sI;have:=j.jV;omega) _ (.inr ⟨rfl,rfl,rfl,rfl,rfl,rfl,rfl⟩) o r mx mc hm al L).mono ?_;rintro T w'(⟨xl,nl,W,xm,n,cm,S,aa,hj,an,q,rfl,hcut,N,O,m,p,ac,P⟩|F);rotate_left;exact .inr F;obtain⟨p1,p2,p3,p0,p4,p5⟩:=QK hp j.s2 j.s3 hj hcut m;rw[lX m]at p3 p4;obtain⟨s1,s2,s3⟩:=o aa hj _ ((qj _ _).trans (lM _ _):(List.take (q-an)<|List.drop an _).Sublist _);obtain⟨_,x,_,_⟩:=uq (ms:=r) (lowest:=cf) s1 s2 s3 L;obtain⟨Q,q0,q1,q2,q3,q4,q5⟩:=j.pW P p m p3 x p4;have ap:=zt m p.each p3 x p4;have l:(c.take aa++c.drop (aa+1)).Sublist c:=by grind[UP,append_assoc,sublist_append_right]
 have B:(d.take an++d.drop q).Sublist d:=by grind[ZC,Ag.le,append_assoc,sublist_append_right]
 refine .inl ⟨xl,nl,W,xm,n,cm,c.take aa++c.drop (aa+1),d.take an++S++d.drop q,ps++Q,rfl,?_,by simp;omega,p1,p2,P⟩;have h':=j.aj P ac;have s:∀t∈d.take an++S++d.drop q,t∈d\/t∈S:=by grind
 refine{h' with news:=q1,apart:=q2,r2:=dR N,r3:=dR O,b2:=wZ N j.aL j.Mj j.le,b3:=wZ O j.aL j.Mj j.le,x0:=λt k=>(h'.x0 t k).more Q,x1:=λt k=>(h'.x1 t k).more Q,x2:=λt k=>(h'.x2 t<|l.subset k).more Q,x3:=?_,nodup:=?_,s2:=j.s2.sub l,s3:=?_,sI:=?_};intro t k;rcases s t k with T|T;exact(h'.x3 t T).more Q;exact q3 t T;rw[show a++b++(c.take aa++c.drop (aa+1))++(d.take an++S++d.drop q)=(a++b++(c.take aa++c.drop (aa+1))++d.take an)++S++d.drop q by grind];exact De j.nodup j.lt (by simpa using((kB<|a++b).append l).append B) q5 q4;refine Rz (λt k=>?_) (p1.mJ _<|by simp[bV]) p0;rcases s t k with T|T;exact j.s3.pure t T;grind
 have:=j.sI;omega
theorem NT.js.symm{p q:NT}(h:p.js q):q.js p:=λk g e=>h k e g
theorem Yh{ps:ci NT}(l:ps.Pairwise NT.js){p q:NT}(j:p∈ps)(k:q∈ps)(h:p≠q):p.js q:=by
 obtain⟨i,f,rfl⟩:=ia.1 j;obtain⟨m,g,rfl⟩:=ia.1 k;rw[cV]at l;rcases nJ i m with e|e|e;grind
 grind
 exact(l m i g f e).symm
theorem IV{w k:Y}{baseqq r e u j t f:M}{l:ix}(s:w.ownsRow baseqq r e (bI j 0 t f) u l)(q:k.heap[j]?=w.heap[j]?):k.ownsRow baseqq r e (bI j 0 t f) u l:=by
 refine⟨s.1,.inr ?_⟩;rcases s.2 with⟨m,_⟩|⟨v,h,g,m,n,o,p⟩;cases m;cases m;exact⟨j,f,g,rfl,n,q.trans o,p⟩
structure CF(w:Y)(db sb base:M)(K:DK)(b:cP)(ps:ci NT)(T:cP)(nx0 c:M):Prop where
 le:base<=z (G w)
 aL:∀k,K.aL db k->k<base
 Mj:sb<base
 xt:∀t∈T,XT b ps t
 nodup:(T.map bB.tb).Nodup
 apart:ps.Pairwise NT.js
 news:∀p∈ps,p.Ok w base/\OP p.t
 inj:∀t∈b,∀u∈b,t.num=u.num->t=u
 low:∀t∈b,t.num<nx0
 fresh:∀n,nx0<=n->cX (vw K.files) (fG n)=none
 fR:LB db sb base K 1
 mz:LB db sb base K 2
 small:y T<=1000000
 nx:nx0<=1000000000000000
 room:EH K.fx
 tu:K.fx.ok
 eP:y K.eP<=10000000000
def Wr(db:M)(K:DK)(ps:ci NT)(k:M):Prop:=K.aL db k\/∃p∈ps,k=p.t.tb\/k=p.x
def zU(nx0:M)(us:cP):ci nU:=us.flatMap<|λu=>if nx0<=u.num then xK u.num u.cs else []
theorem RP(nx0:M)(us:cP)(u:bB):zU nx0 (us++[u])=zU nx0 us++(if nx0<=u.num then xK u.num u.cs else []):=by simp[zU]
structure CM(w:Y)(db sb base:M)(K:DK)(b:cP)(ps:ci NT)(T:cP)(nx0 c:M)(wr:Y)(a:DK)(us:cP)(i num:M):Prop where
 len:y us=i
 le:i<=y T
 same:us.map (λt=>(t.tb,t.ks,t.cs))=(T.take i).map (λt=>(t.tb,t.ks,t.cs))
 nh:∀t∈b,sD wr db (vw a.files) (LB db sb base K) t
 OV:∀u∈us,u∈b\/∃p∈ps,p.t.tb=u.tb/\sD wr db (vw a.files) p.has u/\nx0<=u.num/\u.num<num
 rest:∀p∈ps,p.t∈T.drop i->p.Ok wr base
 files:∃gs:Fs,vw a.files=vw K.files++gs/\(∀g∈gs,∃u∈us,g=(fG u.num,pu u.cs)/\nx0<=u.num)
 fx:Fx K.fx a.fx
 ops:jT (zU nx0 us) K a
 oY:(us.map bB.num).Nodup
 kU:nx0<=num/\num<=nx0+i
 aH:bY wr db a
 eP:y a.eP<=y K.eP+i
 aj:Z (Wr db K ps) w wr
 aL:∀k,a.aL db k->K.aL db k\/z (G w)<=k
 steps:Steps wr
 pow:Pow wr
section
variable{w wr w2:Y}{db sbqq baseqq:M}{K a d:DK}{b:cP}{ps:ci NT}{T us:cP}{nx0 c i num:M}
theorem CM.start(h:CF w db sbqq baseqq K b ps T nx0 c)(g:∀t∈b,sD w db (vw K.files) (LB db sbqq baseqq K) t)(f:bY w db K)(j:Steps w)(e:Pow w):CM w db sbqq baseqq K b ps T nx0 c w K [] 0 nx0 where
 len:=rfl
 le:=bK _
 same:=by simp
 nh:=g
 OV:=by simp
 rest:=λp e _=>(h.news p e).1
 files:=(by simp)
 fx:=Fx.refl _
 ops:=⟨rfl,rfl,rfl⟩
 oY:=by simp
 kU:=⟨ag _,ag _⟩
 aH:=f
 eP:=ag _
 aj:=Z.refl _ _
 aL:=λ_ h=>.inl h
 steps:=j
 pow:=e
theorem Wy(h:us.map (λt=>(t.tb,t.ks,t.cs))=(T.take i).map (λt=>(t.tb,t.ks,t.cs))):us.map bB.tb=(T.take i).map bB.tb:=by
 have:=bS (List.map Prod.fst) h;grind[map_map,Function.comp_def]
theorem VE(k:(T.map bB.tb).Nodup)(j:i<y T)(h:us.map (λt=>(t.tb,t.ks,t.cs))=(T.take i).map (λt=>(t.tb,t.ks,t.cs))):∀u∈us,u.tb≠T[i].tb:=by
 intro u m f;have e:u.tb∈(T.take i).map bB.tb:=by rw[<-Wy h];grind
 rw[f]at e;obtain⟨t,l,g⟩:=bH.1 e;grind[mem_iff_getElem,length_take,pairwise_iff_getElem]
theorem IF(e:i<y T)(h:us.map (λt=>(t.tb,t.ks,t.cs))=(T.take i).map (λt=>(t.tb,t.ks,t.cs)))(u:bB)(f:(u.tb,u.ks,u.cs)=(T[i].tb,T[i].ks,T[i].cs)):(us++[u]).map (λt=>(t.tb,t.ks,t.cs))=(T.take<|i+1).map (λt=>(t.tb,t.ks,t.cs)):=by
 rw[ah e,aE,aE,h];grind
theorem FZ{l:ci M}{x:M}(h:l.Nodup)(e:x∉l):(l++[x]).Nodup:=by
 rw[kw];grind
theorem CM.skip(m:CF w db sbqq baseqq K b ps T nx0 c)(hm:CM w db sbqq baseqq K b ps T nx0 c wr a us i num)(f:i<y T)(h:T[i]∈b):CM w db sbqq baseqq K b ps T nx0 c wr a (us++[T[i]]) (i+1) num:=by
 have e:=VE m.nodup f hm.same;obtain⟨n,j,o⟩:=hm.files;refine{hm with len:=by rw[af,hm.len];rfl,le:=f,same:=IF f hm.same _ rfl,OV:=?_,rest:=?_,files:=⟨n,j,λt s=>?_⟩,ops:=by rw[RP,dt (by have:=m.low _ h;omega),dz];exact hm.ops,oY:=?_,kU:=⟨hm.kU.1,by have:=hm.kU.2;omega⟩,eP:=by have:=hm.eP;omega};intro u g;rcases aA.1 g with l|l;exact hm.OV u l;grind
 intro q k p;refine hm.rest q k ?_;rw[<-kM f];grind
 grind
 rw[aE];refine FZ hm.oY<|λl=>?_;obtain⟨u,g,r⟩:=bH.1 l;rcases hm.OV u g with p|⟨q,k,_,_,p,_⟩;exact e u g (by rw[m.inj u p _ h r]);have:=m.low _ h;omega
theorem CM.wrote(A:CF w db sbqq baseqq K b ps T nx0 c)(e:CM w db sbqq baseqq K b ps T nx0 c wr a us i num)(E:i<y T){p:NT}(C:p∈ps)(o:p.t=T[i])(hd:bY w2 db d)(ht:Z (λk=>a.aL db k\/k=p.t.tb\/k=p.x) wr w2)(hf:∀k,d.aL db k->a.aL db k\/z (G wr)<=k)(N:jT (xK num p.t.cs) a d)(V:Fx a.fx d.fx)(hT:lZ w2 p.t.tb (aD db) num (y<|dU p.t.cs) (y<|fP<|bX 0 p.t.cs) (lJ<|fP<|bX 0 p.t.cs) p.bb 0 p.ya az (bX 0 p.t.cs))(L:num<18446744073709551616):CM w db sbqq baseqq K b ps T nx0 c w2 d (us++[{T[i]with num:=num}]) (i+1) (num+1):=by
 have al:=VE A.nodup E e.same;obtain⟨gs,D,W⟩:=e.files;have n:=(A.news p C).1;have ac:=n.lt;have au:=e.aj.size;have ao:=A.le
 have j:∀k,k<z (G w)->¬K.aL db k->¬p.has k->w2.heap[k]?=wr.heap[k]?:=λk g O h=>ht.block k (by omega) (λf=>by
  rcases f with f|f|f
  .rcases e.aL k f with x|x
   .exact O x
   .omega
  .exact h<|.inl f
  .exact h (.inr (.inr f)))
 have m:∀k,LB db sbqq baseqq K k->w2.heap[k]?=wr.heap[k]?:=λk g=>j k (by have:=g.1;omega) g.2.1 (λf=>by have:=(ac k f).1;have:=g.1;omega);have r:∀q∈ps,q≠p->∀k,q.has k->w2.heap[k]?=wr.heap[k]?:=λq s u k g=>by have h:=(A.news q s).1.lt k g;exact j k h.2 (λf=>by have:=A.aL k f;omega)<|λf=>Yh A.apart s C u k g f
 have l:cX (vw a.files) (fG num)=none:=by
  rw[D,gu,A.fresh num e.kU.1,jv];cases f:cX gs (fG num)with
  |none=>rfl
  |some aa=>
   obtain⟨S,P,Q,h⟩:=W _<|oD f;simp only[io]at Q;have O:=oh Q.1;rcases e.OV S P with x|⟨q,s,_,_,_,x⟩
   .have:=A.low S x;omega
   .omega
 obtain⟨hv,ap⟩:=EL N l;have t:∀n e,cX (vw a.files) n=H e->cX (vw d.files) n=H e:=λn e B=>by rw[hv,gu,B];rfl
 have ad:∀{A:fh}{an:bB},sD wr db (vw a.files) A an->(∀k,A k->w2.heap[k]?=wr.heap[k]?)->sD w2 db (vw d.files) A an:=λho g=>by have h:=ho.Dj g;exact⟨h.mem,h.loc,h.ks,h.num,h.pure,h.idx,h.small,t _ _ h.file⟩
 have v:=(A.news p C).2;have F:sD w2 db (vw d.files) p.has {T[i]with num:=num}:=by rw[<-o];refine⟨⟨p.bb,0,p.ya,?_,.inr<|.inl rfl⟩,.inl rfl,n.ks,L,v.pure,v.idx,v.small,?_⟩;show lZ w2 p.t.tb _ num _ _ _ p.bb 0 p.ya _ p.t.ks;rw[n.ks];exact hT;show cX (vw d.files) (fG num)=H (pu p.t.cs);rw[hv,gu,l];simp[cX]
 refine{len:=by rw[af,e.len];rfl,le:=E,same:=IF E e.same _ rfl,nh:=λan h0=>ad (e.nh an h0) m,OV:=?_,rest:=?_,files:=⟨gs++[(fG num,pu p.t.cs)],by rw[hv,D,bj],λax hg=>?_⟩,fx:=e.fx.trans V,ops:=?_,oY:=?_,kU:=⟨by have:=e.kU.1;omega,by have:=e.kU.2;omega⟩,aH:=hd,eP:=by have:=e.eP;omega,aj:=?_,aL:=?_,steps:=?_,pow:=?_};intro S P;rcases aA.1 P with f|f;(rcases e.OV S f with x|⟨q,s,Q,ho,h,O⟩;exact .inl x;grind);rw[cL]at f;subst f;exact .inr ⟨p,C,by rw[o],F,e.kU.1,by grind⟩;intro q s O;(have u:q≠p:=λQ=>by subst Q;rw[o]at O;obtain⟨av,hj,Q⟩:=ia.1 O;rw[ql]at Q;(have aa:i+1+av<y T:=by rw[iP]at hj;omega);have h2:=cV.1 A.nodup i (i+1+av) (by simpa using E) (by simpa using aa) (by omega);grind);have h:=e.rest q s (by rw[<-kM E];grind);have B:=r q s u;exact⟨h.ks,h.num,h.pieces,h.mem.dG (B _<|.inl rfl)<|B _<|.inr<|.inl rfl,IV h.data<|B _<|.inr<|.inr rfl,IV h.fF<|B _<|.inr<|.inl rfl,h.new⟩;rcases aA.1 hg with f|f;(grind);rw[cL]at f;refine⟨{T[i]with num:=num},by simp,?_,e.kU.1⟩;rw[f,o];rw[RP,di e.kU.1];(have h:({T[i]with num:=num}:bB).cs=p.t.cs:=by rw[o]);rw[h];exact jT.Hk e.ops N;rw[aE];refine FZ e.oY<|λf=>?_;obtain⟨S,P,Q⟩:=bH.1 f;have h:S.num=num:=Q;rcases e.OV S P with x|⟨q,s,_,_,_,x⟩;have:=A.low S x;have:=e.kU.1;omega;omega;refine e.aj.trans ht<|λk g=>?_;rcases g with f|f|f;rcases e.aL k f with x|x;exact .inl<|.inl x;exact .inr x;exact .inl<|.inr ⟨p,C,.inl f⟩;exact .inl<|.inr ⟨p,C,.inr f⟩;intro k g;rcases hf k g with f|f;exact e.aL k f;grind
 exactλk g=>(dy (w:=wr)<|m _ A.fR).trans<|e.steps k g;exact e.pow.dG<|m _ A.mz
end
section
open Conc.Locks
def Mi(b:U)(d c:ae)(a:U)(e:dX):jt:=Du c a []<|((Vc b d e).filter<|λf=>!f.del).map zK
def rp(s:SR)(m:cU)(a b c d:cP):(oQ s m a b c d).map (·.2)=m::bV a b c d:=by
 simp[oQ,bV,vT,kC]
def Yj(a:cP):y ((a.map bB.all).reverse).flatten=y (cA a):=by
 unfold cA;rw[sQ,sQ,vT,List.sum_reverse]
def zN.flat{d b f h:cP}(j:zN D a c W g e d b f h i):y (e::bV d b f h).flatten<=i:=by
 have k:=j.sI;have l:=Yj d;unfold bV;rw[bW,dW];grind
def zN.Xm(k:zN D a b W g e j p u v c):∀x∈(e::bV j p u v).flatten,x.Good:=by
 intro x f;rw[<-rp W]at f;obtain⟨l,h,d⟩:=bC.1 f;obtain⟨r,i,rfl⟩:=bH.1 h;exact k.Mm r i x d
def Vi(w a:Y)(v:ab)(l:jt):Prop:=a.ownsRow (z<|G w) 95 2 v (y l)<|jS l
def Wc(l h:ae)(d i:U)(s:Sl T g D)(o:cW a b W k)(f:zN D a b W g e j p u v c):cY bA 161 #[aD b,am l,am h,aq d,aG i] a λB m=>(∃r,B=aN (dA #[r,.nilIface])/\Vi a m r (Mi i l h d<|e::bV j p u v)/\(sL T W.aH g).D m/\Z (sL T W.aH g).F a m)\/∃x C u,EA (sL T W.aH g) a m (sL T W.aH g).F B (λF=>dA #[I x C u,F]):=by
 obtain⟨A,w,n⟩:=bZ f.mem
 have q:=Tw (z<|G a) (W.l0,j) (W.l1,p) (W.l2,u) (W.l3,v) (oQ W e j p u v) l h d i o A (y e) w n (f.Q9 o) (zm W e j p u v) (λK h=>f.KM s _<|ar h) f.TC (ag _) f.aH.lt (by
  rw[rp];intro x t;have:=f.Xm x (ZN _ _ _ x t);grind[E.Good.NG,E.Good.val])
  (by
   rw[rp];have:=ZO i l (e::bV j p u v);have:=f.flat;have:=f.jV;omega)
 rw[rp]at q;exact q
def YQ(r n:ae)(d m:U)(x:Sl T g D)(w:cW a b W k)(o:zN D a b W g e j p u v c):cY bA 99 #[aD b,am r,am n,aq d,aG m] a λt i=>(∃s,t=aN (dA #[s,.nilIface])/\Vi a i s (Mi m r n d<|e::bV j p u v)/\(sL T W.aH g).D i/\Z (sL T W.aH g).F a i)\/EA (sL T W.aH g) a i (sL T W.aH g).F t (λF=>dA #[az,F]):=by
 have A:=Wc r n d m x w o;go_in
 go_wp2_with fail
 apply A.mono;rintro t L(⟨K,rfl,f⟩|⟨O,N,u,B,q,rfl,f⟩);(.obtain⟨E,C,rfl⟩:=aC f.1;have l:=X f;go_wp2;(go_ret2);exact .inl ⟨_,rfl,l⟩);have l:=X f;go_wp2;(go_ret2);exact .inr ⟨B,q,rfl,l⟩
def Vi.unlock{l:jt}(h:Vi a f d l)(c:b<z (G a)):Vi a (cH f (R b 0) t) d l:=by
 unfold Vi at h|-;exact h.kept (dS f _ _ _) (by right;intro e;have:=(h.lt _ e).1;omega)
def Pv(lo V:ae)(d:U)(hX:Sl T g D)(h:cW a b W 0)(hs:zN D a b W g e j p u v c)(hc:W.closed=bw):cY bA 51 #[aD b,am lo,am V,aq d] a λF r=>((∃v',F=aN (dA #[v',.nilIface])/\Vi a r v' (Mi W.aP lo V d<|e::bV j p u v))\/T/\∃q,F=aN (dA #[az,fj q])/\AS r q)/\GZ D a r b W g e j p u v c:=by
 have B:=ak h;have c0:=cW.cellAt h 0 rfl;have f0:a.frozen? (R b 0)=bw:=h.free;have w:=zw hs.aH hs.xM 1;have S:=h.qx 1;have ad:z (G<|cH a (R b 0)<|nE 1)=z (G a):=im;generalize hW:cH a (R b 0) (nE 1)=m at w S ad;have C:=uU S;rw[hc]at C;have E:cY bA 32 #[aD b] m λF r=>F=aN .nilIface/\Below (z<|G m) m r:=C;have HX:=X<|λi(s:Below (z<|G m) m i)=>ME (Xqq:=T) (W2:=i) S hs B w s;have HG:=X (show∀i k ap ao,Below (z<|G m) m i->Vi i k ap ao->Vi a (cH k (R b 0)<|nE 0) ap ao fromλi k ap ao s O=>by have:Vi a k ap ao:=gl O (by have:=s.size;omega);exact this.unlock B);have HW:=X hW;have L:=X hX;go_enter_defers func51,ntmps51
 go_wp2_with fail
 apply(lock_free (R b 0) _ c0 f0).mono;rintro F r⟨rfl,al⟩;rw[J HW]at al;subst r;go_wp2_with fail
 apply E.mono;rintro F i⟨rfl,s⟩;obtain⟨t,ac,x⟩:=HX i s;have aa:=YQ lo V d W.aP L t ac;have c9:=cW.cellAt t 9 rfl;have l:=X x;have N:=X<|λk ap ao=>HG i k ap ao s;go_wp2_with fail
 apply aa.mono;rintro F k(⟨v2,rfl,A,n,o⟩|⟨hx,q,rfl,hq,n,o⟩);(.obtain⟨px,pc,rfl⟩:=aC A;obtain⟨P,Q,hF,_⟩:=l k n o;have K:=X hF;have O:=X<|N _ _ _ A;go_wp2;refine lL (f:=31) (args:=#[aD b]) (by simp) (by simp[go_sem]) ?_;apply(unlock_deferred (R b 0) .returning _ P Q).mono;rintro F u' an⟨rfl,rfl,rfl⟩;exact⟨_,AT rfl _ _ _,.inl ⟨I px _ pc,rfl,O⟩,K⟩);obtain⟨P,Q,hF,hC⟩:=l k n o;have K:=X hF;have O:=X<|hC q hq;go_wp2;refine lL (f:=31) (args:=#[aD b]) (by simp) (by simp[go_sem]) ?_;apply(unlock_deferred (R b 0) .returning _ P Q).mono;rintro F u' an⟨rfl,rfl,rfl⟩;exact⟨_,AT rfl _ _ _,.inr ⟨hx,q,rfl,O⟩,K⟩
def SU(h f:ae)(d:U)(o:cW a b W 0)(k:ST a b W g e j p u v c)(m:W.closed=bw):cY bA 51 #[aD b,am h,am f,aq d] a λn i=>((∃l,n=aN (dA #[l,.nilIface])/\Vi a i l (Mi W.aP h f d<|e::bV j p u v))\/0<g.fx.bd/\∃q,n=aN (dA #[az,fj q])/\AS i q)/\Sj a i b W g e j p u v c:=by
 refine(Pv h f d (Sl.refl k.aH) o k m).mono ?_;grind[GZ.k6]
end
def Li{a:cP}(i:PR b (e::bV j p u v))(h:a.map bB.all=gJ (ij<|dZ n<|de<|e::bV j p u v)):PR b (bV [] [] [] a)/\(∀t,(t∈n\/(b:U)<=t)->∀o,eM t (bV [] [] [] a) o=eM t (e::bV j p u v) o)/\y (cA a)<=y e+y (cA j)+y (cA p)+y (cA u)+y (cA v):=by
 obtain⟨A,K⟩:∃A,A=(e::((j.map bB.all).reverse++[cA p,cA u])).reverse:=⟨_,rfl⟩;have d:e::bV j p u v=A.reverse++[cA v]:=by rw[K,List.reverse_reverse];simp[bV]
 have L:(cA v::A).Perm (e::bV j p u v):=by rw[d];grind[perm_append_comm,reverse_perm]
 have w:de (cA v::A)=de (e::bV j p u v):=ur i.mJ i.pW L;have c:=i.row;rw[d]at c;have l:=i.pW;rw[d]at l;obtain⟨Q,O,r⟩:=Aj (A:=A) (b:=cA v) (ms:=n) (lowest:=cf) (by grind) (c _<|by simp) l;have B:gX n cf (cA v::A)=ij (dZ n<|de<|e::bV j p u v):=by unfold gX;rw[di rfl,w]
 rw[B]at O r;have s:cA a=ij (dZ n<|de<|e::bV j p u v):=lX h;have m:∀x∈cA a,x∈(e::bV j p u v).flatten:=λx g=>by rw[s]at g;exact(fi _).mem_iff.1<|(jy n _).subset<|(kF _).subset g
 have f:bV [] [] [] a=[[],[],cA a]:=by simp[bV,cA]
 refine⟨?_,λt N o=>?_,?_⟩;rw[f];(have k:PR b ([]++(e::bV j p u v)++[]):=by simpa using i);have E:=k.Q8 (M':=[cA a]) (by unfold jX;simp) (by grind) (by grind);grind[PR.MT]
 rw[f,lk,lk];have:=zl (C:=[]) (Mqq:=A.reverse++[cA v]) (M':=[ij<|dZ n<|de<|e::bV j p u v]) (D:=[]) (r t [] (N.imp_right<|λq x g=>wN (i.low x (by rw[d];exact g)) q)<|λ_ o=>rfl) o;rw[<-d,<-s]at this;grind
 rw[s];have k:=(kF<|dZ n<|de<|e::bV j p u v).length_le;have E:=(jy n<|de<|e::bV j p u v).length_le;have F:=(fi<|e::bV j p u v).length_eq;(have P:y ((j.map bB.all).reverse).flatten=y (cA j):=by have:=((List.reverse_perm<|j.map bB.all).flatten).length_eq;rw[this];rfl);rw[bW,af]at F;grind

def gY(n:U)(l:cU):eF:=le 8 n++((y l:U)::l.flatMap oK)
def pq(n:U)(l:cU):eF:=gS (le 4 (y<|gY n l)++le 4 (lJ<|gY n l))++gY n l
def DV(h:w.Good):y (oK w)<=35:=by
 have:=vf h;unfold Dq at this;rw[af]at this;omega
def oz{l:cU}(h:∀x∈l,x.Good):y (l.flatMap oK)<=35*y l:=by
 induction l with
 |nil=>simp
 |cons x r c=>
  have a:=DV (h x<|by simp);have d:=c (λa b=>h a<|by simp[b]);rw[dY,af,aO];omega
structure ZS(w0 w:Y)(hv bv:ab)(hs bs:eF):Prop where
 head:fg w (z<|G w0) hv hs
 body:fg w (z<|G w0) bv bs
 ne:∀k,cI hv=H k->cI bv≠H k
 aj:Z aw w0 w
def ZS.wrote{e c:eF}(h:ZS a f d t n e)(j:eJ f A d L)(m:fg A (z<|G a) L c):ZS a A L t c e:=by
 have i:=Z.fN j;refine⟨m,i.own h.body<|λk b p=>h.ne k p b,λk b g=>?_,h.aj.trans i<|λk b=>.inr (h.head.lt k b).1⟩;rcases j.vQ with l|⟨o,l,q⟩;exact h.ne k (l.symm.trans b) g;rw[l]at b;cases b;have:=(h.body.lt _ g).2;omega
def PI(l:cU)(ad a ba:M)(w:Y)(hT:Steps w)(hg:ad<z (G w))(hc:∀cm cl,(aI l)[cm]?=H cl->aW w (R ad<|a+cm)=H cl)(g:0<y l)(c:∀S∈l,S.Good)(hl:y l<=8):cY bA 118 #[bI ad a (y l) ba] w λac w'=>∃v',ac=aN v'/\fg w' (z<|G w) v' (pq (l[0]'g).bQ l)/\Z aw w w':=by
 obtain⟨i0,bh,bT,ca,cb⟩:=dl qG;have x:=c _<|ar g;have ck:=oz c;have bb:aW w (R ad<|a+3)=H (aG (l[0]'g).bQ):=by have:=hc _ _ (eQ l 0 g).2.2.2;grind
 obtain⟨q,hn⟩:∃q,(l[0]'g).bQ=q:=⟨_,rfl⟩;have B:=x.b0;have C:=x.b1;rw[hn]at B C bb|-;have bp:=pS (baseqq:=z<|G w) (v:=az) (bs:=[]) q (w:=w) (fg.nil _ _) (ag _) (by simp) B C;have e1:IntKind.u8.wrap (y l:U)=y l:=by rw[IntKind.wrap_u8];omega
 obtain⟨T,HG,HT⟩:=dF hc c hT;go_in
 go_wp2_with fail
 apply bp.mono;rintro ac w1⟨v1,rfl,D,bv⟩;have N:Z aw w w1:=(Z.fN bv).mono (λce f=>by simp[cI]at f);have bo:=uV (z<|G w) v1 ([]++le 8 q) (y l:U) w1 D N.size (by simp[cg]);have ao:=X D;have ax:=X N;go_wp2_with fail
 apply bo.mono;rintro ac w2⟨v2,rfl,bk,bx⟩;have aF:=X<|ax.trans (Z.fN bx)<|λce f=>.inr (ao.lt ce f).1;have ap:=X bk;go_wp2;go_loopw [3,19] (λo i wr=>∃m:M,m<=y l/\i=aq m/\fg wr (z<|G w) o (le 8 q++((y l:U)::(l.take m).flatMap oK))/\Z aw w wr) (λ_ i _=>y l-(intOf i).toNat)
 case atStart=>exact⟨0,bK _,rfl,by simpa using J ap,aF⟩
 case round=>
  obtain⟨m,hm,rfl,e,d⟩:=hrel;have bt:=d.size;by_cases o:m<y l
  .have j:=HG l[m]<|ar o;have b:=eQ l m o;have F:aW wr (R ad<|a+m*4)=H (am l[m].key):=d.cell (T _ _ b.1) id hg;have K:aW wr (R ad<|a+m*4+1)=H (am l[m].val):=d.cell (by rw[bD];exact T _ _ b.2.1) id hg;have L:aW wr (R ad<|a+m*4+2)=H (aM l[m].del):=d.cell (by rw[bD];exact T _ _ b.2.2.1) id hg;have O:aW wr (R ad<|a+m*4+3)=H (aG l[m].bQ):=d.cell (by rw[bD];exact T _ _ b.2.2.2) id hg;have s:y (le 8 q++((y l:U)::(l.take m).flatMap oK))<=1000:=by
    have P:=oz (l:=l.take m)<|λS hx=>HG S<|gC hx;grind[length_append,length_cons,cg]
   have u:=X (show(le 8 q++((y l:U)::(l.take m).flatMap oK))++oK l[m]=le 8 q++((y l:U)::(l.take<|m+1).flatMap oK)from by
    rw[ah o,fJ];simp)
   generalize l[m]=S at*;have i:=RI (z<|G w) u3 (le 8 q++((y l:U)::(l.take m).flatMap oK)) S (dd wr<|ay #[am S.key,am S.val,aM S.del,aG S.bQ] 171) (e.alloc _) (by simp;omega) (by omega) (by have:=j.NG;omega) (by have:=j.val;omega);generalize(le 8 q++((y l:U)::(l.take m).flatMap oK))=ch at*;have A:=e.lt;have n:=X d;obtain⟨V,W,xd,Q⟩:=S;simp only at F K L O i;unfold E.value at i;simp only at i;go_wp2_with fail
   apply i.mono;rintro ac w3⟨v3,rfl,t,p⟩;have k:=X t;have r:=X p;go_wp2;go_roundw;case rel=>
    refine⟨m+1,o,by go_num,by rw[<-J u];exact k,?_⟩;exact(n.alloc _).trans (Z.fN r)<|by grind
   case measure=>simp[intOf];omega
  .have bi:m=y l:=by omega
   subst bi;rw[aY]at e;have bc:y (gY q l)<=1000:=by unfold gY;rw[af,aO,cg];omega
   have r:0<y (gY q l):=by unfold gY;rw[af,cg];omega
   have i:fg wr (z<|G w) u3 (gY q l):=e;obtain⟨W,V,bu,_,_,_⟩:=uk i r;subst bu;obtain⟨b,n⟩:∃b,y (gY q l)=b:=⟨_,rfl⟩;have u:=X (show pq q l=gS (le 4 (b:M)++le 4 (lJ<|gY q l))++gY q l by rw[<-n];rfl);rw[n]at bc r;have bq:=jN (baseqq:=z<|G w) (v:=az) (bs:=[]) (b:M) (w:=wr) (fg.nil _ _) bt (by simp) (by omega) (by omega);have e2:IntKind.u32.wrap (b:U)=b:=uf (by omega) (by omega);have HO:=X i;have aU:=X d;rw[n];have k:=X n;generalize gY q l=aa at*;go_wp2_with fail
   apply bq.mono;rintro ac w3⟨v3,rfl,t,p⟩;have hA3:ZS w w3 v3 (bI W 0 b V) ([]++le 4 (b:M)) aa:=by
    have O:Z aw wr w3:=(Z.fN p).mono (λce f=>by simp[cI]at f);have F:fg wr (z<|G w) (bI W 0 b V) aa:=by have:=J HO;rw[J k]at this;exact this
    refine⟨t,O.own F<|λ_ _ cn=>cn,λce f hb=>?_,aU.cz O⟩;rcases p.vQ with cj|⟨cd,cj,hy⟩
    .rw[cj]at f;cases f
    .rw[cj]at f;cases f;have:=(F.lt _ hb).2;omega
   have L:∀W,Z aw w W->Steps W:=λW a=>HT.below (a.below (ag _) cJ) HT.lt;have bs:=tA (bI W 0 b V) aa w3 (L _ hA3.aj) (fg.bytes hA3.body) (by rw[J k];omega);have s:=X hA3;have av:=X L;go_wp2_with fail
   apply bs.mono;rintro ac w4⟨rfl,Q⟩;subst w4;have bf:=za aa;have bd:=AG aa;have K:=jN (lJ aa) s.head s.aj.size (by simp[cg]) bf bd;generalize lJ aa=cB at*;go_wp2_with fail
   apply K.mono;rintro ac w4⟨v4,rfl,bl,Q⟩;have hA4:=s.wrote Q bl;have br:=Fz (av _ hA4.aj) hA4.head hA4.aj.size (by simp[cg]);have al:=X hA4;go_wp2_with fail
   apply br.mono;rintro ac w5⟨v5,rfl,bm,bE⟩;have hA5:=al.wrote bE bm;have A:y ((([]++le 4 (b:M))++le 4 cB)++le 4 (lJ<|([]++le 4 (b:M))++le 4 cB))=12:=by simp[cg]
   obtain⟨hx,bg,P⟩:=aC hA5.head;rw[A]at P;subst P;have cc:=hA5.aj.size;have j:=X hA5;have an:=X A;go_wp2_with(first
    |(at_builtin;go_loud(refine cC _ rfl (.tmp 36) (.tmp 37) 86 rfl (z (G w)) 5 i0 (.int .u8 0) 1 1 underlying86 bh bT ca cb rfl (by decide) (.slice hx 12 bg) 12 (((([]++le 4 (b:M))++le 4 cB)++le 4 (lJ (([]++le 4 (b:M))++le 4 cB))).map (Value.int .u8)) rfl (by have h0:=j.head;unfold fg at h0;rw[J an]at h0;exact h0) (R W 0) b V (aa.map (Value.int .u8)) rfl (by rw[bU,J k,rZ]) (uy (fg.bytes j.body)) (by intro cl hu;simp only[bH]at hu;obtain⟨cd,_,rfl⟩:=hu;rfl) (by omega) (by omega) cc ?_;intro v6 w6 bn bL;have au:=X bn;have aV:=X bL)))
   go_ret;refine⟨_,rfl,?_,j.aj.trans (Z.fN aV)<|λce f=>.inr (j.head.lt ce f).1⟩;rw[J u];refine fg.of au ?_ ?_
   .rw[af,gO,J k,af,cg,cg]
   .unfold gS;simp
def Nq(N a b bh:M)(B rest:eF){w:Y}(hT:Steps w)(bl:0<y B)(hB:y B<=100000)(hR:y rest<=1000000000)(hL:bh=12+y B+y rest)(bm:bh<=b)(bx:b<=9223372036854775807)(hb:Bytes w (bI N a bh b) (gS (le 4 (y B)++le 4 (lJ B))++B++rest)):cY bA 86 #[bI N a bh b] w λac w'=>∃bg bp,ac=aN (dA #[bI N (a+12) (y B)<|b-12,bI N bg (y rest) bp,aM cf])/\y rest<=bp/\bp<=9223372036854775807/\Bytes w (bI N (a+12) (y B)<|b-12) B/\Bytes w (bI N bg (y rest) bp) rest/\Z aw w w':=by
 have x:N<z (G w):=hb.lt (by intro ac;have:=bS y ac;grind) N rfl;have A:y (gS<|le 4 (y B)++le 4 (lJ B))=12:=by simp[gS,cg]
 have i:y (gS (le 4 (y B)++le 4 (lJ B))++B++rest)=bh:=by rw[af,af,A,hL]
 rw[<-i]at hb;have f:=hb.take (n:=12) (by rw[i];omega);have d:=hb.Dr (n:=12) (by rw[i];omega);rw[bj,dK (by omega),dN<|by omega]at f;rw[i,bj,List.drop_append_of_le_length (by omega),wM (by omega),du]at d;obtain⟨c,hM⟩:∃c,bh-12=c:=⟨_,rfl⟩;obtain⟨F,hC⟩:∃F,b-12=F:=⟨_,rfl⟩;rw[hM,hC]at d;have u:y (B++rest)=c:=by rw[af];omega
 rw[<-u]at d;have m:=d.take (n:=y B) (by simp);rw[ld]at m;have v:=d.Dr (n:=y B) (by simp);rw[tT,u]at v;have bd:=uS N a b (le 4 (y B)++le 4 (lJ B)) hT (by simp[cg];omega) (by simp[cg]) (by grind[cg]);have aF:y (le 4 (y B)++le 4 (lJ B))=8:=by simp[cg]
 rw[aF]at bd;have q:Bytes w (bI N a 8 b) (le 4 (y B)++le 4 (lJ B)):=by rw[<-A]at f;have p:=f.take (n:=8) (by omega);(have e8:(gS<|le 4 (y B)++le 4 (lJ B)).take 8=le 4 (y B)++le 4 (lJ B):=by unfold gS;rw[dK (by omega),dN<|by omega]);rw[e8]at p;exact p
 have al:c-y B=y rest:=by omega
 obtain⟨e,g⟩:∃e,y B=e:=⟨_,rfl⟩;obtain⟨RL,k⟩:∃RL,y rest=RL:=⟨_,rfl⟩;obtain⟨cB,o⟩:∃cB,lJ B=cB:=⟨_,rfl⟩;have s:∀W,Z aw w W->cY bA 136 #[bI N (a+12) e F] W λac w'=>ac=aN (dI cB)/\w'=W:=by intro W hW;have p:=hW.below (ag _) cJ;rw[<-g,<-o];exact tA _ B W (hT.below p hT.lt) (m.below p (λbo K=>by cases K;exact x))<|by omega
 have an:=za B;have ao:=AG B;rw[o]at an ao;obtain⟨O,Q,aa,bq⟩:=gw q s m v;rw[g,k]at al hL;rw[g]at bl hB;rw[k]at hR;obtain⟨j,P,bk⟩:=dF g k o;have e1:(12:U)<=(bh:U):=by omega
 have e2:(bh:U)<=(b:U):=by omega
 have e3:¬(bh:U)<12:=by omega
 have e4:¬(b=12):=by omega
 have e5:¬(b-12=0):=by omega
 have e6:(12:U)<=(b:U):=by omega
 have e7:(e:U)<=(c:U):=by omega
 have e8:(e:U)<=(F:U):=by omega
 have e9:¬((c:U)<(e:U)):=by omega
 have br:IntKind.u64.wrap (e:U)=e:=by rw[eZ];omega
 have bs:IntKind.u64.wrap (c:U)=c:=by rw[eZ];omega
 have bt:(c:U)<=(F:U):=by omega
 have bn:∀(bL:Bool)(w:Y),(Op.unary .not<|aM bL).run bA w=.ok (aM<|!bL) w:=λ_ _=>rfl;have bv:RL+e<=F:=by omega
 have bu:F<=9223372036854775807:=by omega
 clear hb f d q s m v hT g k o hL i u A aF;rw[J j,J P,hC];go_in
 go_wp2_with fail
 apply bd.mono;rintro ac E⟨rfl,l⟩;have bb:Z aw w E:=Z.aQ l;have ax:=lV (O.below l (λbo K=>by cases K;exact x)) (by intro bo K;cases K;exact ai x l.size);have S:=X bb;clear l bb;go_wp2_with fail
 apply ax.mono;rintro ac w2⟨rfl,r,D⟩;have bc:Z aw E w2:=by rw[D];exact(cO _ E)
 have bE:z (G E)<z (G w2):=by rw[D];simp
 have bf:=qu (z<|G E) (e:M) (le 4<|lJ B) w2 (by rw[<-J j];exact r) (kr.le 4 _) (by simp[cg]) (by omega) (by omega);have bi:=X bc;clear r D bc ax;go_wp2_with fail
 apply bf.mono;rintro ac w3⟨rfl,aU,ap⟩;have t:=qu (z<|G E) cB [] w3 (by rw[<-J bk];grind) (by intro bL hx;cases hx) (by simp) an ao;have au:=X ap;clear aU ap bf;go_wp2_with fail
 apply t.mono;rintro ac L⟨rfl,aV,av⟩;have C:Z aw w L:=by have h3:Z (λbo=>bo=z (G E)) w2 L:=(fo au).trans (fo av)<|λ_ h=>.inl h;exact(S.cz bi).trans h3<|λbo K=>.inr (by have:=S.size;omega)
 have ba:∀W,W.heap=L.heap->W.os=L.os->W.tape=L.tape->W.output=L.output->cY bA 136 #[bI N (a+12) e F] W λac w'=>ac=aN (dI cB)/\w'=W:=λW b c h3 d=>Q W (C.of_heap<|by rw[b,c,h3,d]);have V:=X C;clear aV av t C;by_cases ad:F=e;(·(obtain rfl:RL=0:=by omega);(obtain rfl:c=F:=by omega);subst ad;clear al;(go_wp2_with fail);(go_quiet(first|(go_at_call 136;refine Calls.quiet_of_same (ba _ rfl rfl rfl rfl))));go_wp2;(go_ret3);refine⟨a+12,0,rfl,ag _,by omega,?_,?_,V.of_heap rfl⟩;have h:=J aa;rw[J j]at h;exact h;obtain rfl:=aS P;exact .inr<|by simp);(have p:¬(F-e=0):=by omega);have d2:¬(F=e):=ad;(go_wp2_with fail);(go_quiet(first|(go_at_call 136;refine Calls.quiet_of_same (ba _ rfl rfl rfl rfl))));go_wp2;(go_ret3);refine⟨a+12+e,F-e,rfl,by omega,by omega,?_,?_,V.of_heap rfl⟩;have h:=J aa;rw[J j]at h;exact h;grind[J]
structure p8(w0 w:Y)(rb:M)(l:cU)(o:ab)(m:M):Prop where
 own:w.ownsRow (z<|G w0) 171 4 o m (aI<|l.take m)
 rd:Rd w rb ((l.drop m).flatMap oK) bw
 aj:Z aw w0 w
 C6:z (G w0)<=rb
 xO:∀k,cI o=H k->rb<k
def Gv(h:∀x∈e,x.Good):kr (e.flatMap oK):=by
 intro x a;obtain⟨c,b,a⟩:=kW.1 a;exact BQ (h c b) x a
def Fg(cj j L:M)(l:cU)(aF:U)(w:Y)(hg:∀A∈l,A.Good)(hn:∀A∈l,A.bQ=aF)(bt:0<=aF)(bu:aF<18446744073709551616)(h1:1<=y l)(h8:y l<=8)(hb:Bytes w (bI cj j (y<|gY aF l) L) (gY aF l)):cY bA 87 #[bI cj j (y<|gY aF l) L,aG aF] w λbT w'=>
 ∃a,bT=aN (dA #[a,aM cf])/\w'.ownsRow (z<|G w) 171 4 a (y l) (aI l)/\Z aw w w':=by
 obtain⟨i0,W,au,av,ax⟩:=dl nz
 have bp:=oz hg
 have bn:cj<z (G w):=hb.lt (by unfold gY;simp_all) cj rfl
 have q:=lV hb (by intro x e;cases e;exact bn)
 obtain⟨N,hN⟩:∃N,y l=N:=⟨_,rfl⟩
 obtain⟨BL,bm⟩:∃BL,y (gY aF l)=BL:=⟨_,rfl⟩
 rw[bm]at q|-
 have cb:∀(A:Bool)(w:Y),(Op.unary .not<|aM A).run bA w=.ok (aM<|!A) w:=λ_ _=>rfl
 obtain⟨B,HG,aV⟩:=dF hN hg hn
 rw[hN]at h1 h8
 go_in
 go_wp2_with fail
 apply q.mono
 rintro bT w1⟨rfl,n,s⟩
 have ao:Z aw w w1:=by rw[s];exact(cO _ w)
 have cd:z (G w)<z (G w1):=by rw[s];simp
 have k:=Gv HG
 have ca:y (l.flatMap oK)<=280:=by rw[J B]at bp;omega
 have bs:=BF (z<|G w) aF ((N:U)::l.flatMap oK) w1 (by have h:=n;unfold gY at h;rw[J B]at h;exact h) (by intro A u;rcases bM.1 u with rfl|u;omega;exact k A u) (by rw[aO];omega) bt bu
 have bh:=X ao
 clear n s ao q
 go_wp2_with fail
 apply bs.mono
 rintro bT w2⟨rfl,al,P⟩
 have bo:=ZK (z<|G w) (N:U) w2 al k (by omega) (by omega)<|by omega
 have ce:=P.size
 have ba:=X P
 go_wp2_with fail
 apply bo.mono
 rintro bT w3⟨rfl,an,Q⟩
 have bg:=X an
 have ch:=Q.size
 have bb:=X Q
 have e1:¬((N:U)<1):=by omega
 have e2:¬((8:U)<(N:U)):=by omega
 go_wp2_with(first
  |(at_make;go_loud(refine kG _ rfl _ _ 72 rfl (z (G w)) 171 i0 xg 4 underlying72 W au av _ _ _ N rfl rfl (by omega) (by rw[ax];omega) (by unfold maxLen;omega) (by omega) ?_;intro w4 ad V;have bc:=X ad;have o:=X V)))
 have co:=o.size
 have hA0:p8 w w4 (z<|G w) l (bI (z<|G w3) 0 0 N) 0:=by
  have a:Z (λx=>x=z (G w)) w1 w3:=(fo ba).trans (fo bb)<|λ_ h=>.inl h;have b:Z aw w w3:=bh.trans a (by simp);refine⟨bc,bg.laid o,b.cz (Z.ep (S:=aw) o<|by simp),ag _,?_⟩;intro x e;simp[cI]at e;omega
 have aU:=X hA0
 go_loopw [8,28] (λo i wr=>∃m:M,m<=N/\i=td m/\p8 w wr (z<|G w) l o m) (λ_ i _=>N-(intOf i).toNat)
 case atStart=>exact⟨0,bK _,rfl,aU⟩
 case round=>
  obtain⟨m,hm,rfl,d⟩:=hrel;have f:=d.own;obtain⟨ox,oc,ho⟩:=aC f;have cn:=d.aj.size;have cc:=d.rd.lt;have HA:=X d;by_cases ac:m<N
  .have c:m<y l:=by rw[J B];exact ac
   have p:=HG l[m]<|ar c;have O:=aV l[m]<|ar c;have g:=d.rd;rw[bJ c,dY]at g;have aa:kr ((l.drop<|m+1).flatMap oK):=Gv<|λA u=>HG A<|gD u;have br:y ((l.drop<|m+1).flatMap oK)<=280:=by
    have t:=oz (l:=l.drop<|m+1)<|λA u=>HG A<|gD u;grind[J]
   have ck:=DV p;have a:=It (z<|G w) ((l.drop<|m+1).flatMap oK) wr g ((BQ p).append aa) (by grind) p;have bk:=X (show aI (l.take m)++aI [l[m]]=aI (l.take<|m+1)by rw[<-fY,ah c]);generalize l[m]=A at*;obtain⟨D,F,xd,C⟩:=A;simp only at a O;subst O;unfold E.value at a;simp only at a;subst ho;go_wp2_with fail
   apply a.mono;rintro bT v⟨rfl,bE,bq⟩;have i:Z (λx=>x=z (G w)) wr v:=fo bq;have r:=aT (aT (i.own HA.own (λx e c=>by have:=HA.xO x e;omega))<|ay #[am D,am F,aM xd,aG C] 171)<|ay #[am D,am F,aM xd,aG C] 171;have cm:=i.size;obtain⟨K,bi,bf⟩:=dF r i bE;go_wp2_with(first
    |(at_builtin;go_loud(refine cC _ rfl (.tmp 39) (.tmp 41) 72 rfl (z (G w)) 171 i0 xg 4 48 underlying72 W au av ax rfl (by decide) (.slice ox m oc) m (aI (l.take m)) rfl K (R (z (G v)+1) 0) 1 1 (aI [⟨D,F,xd,C⟩]) rfl rfl (zG ⟨D,F,xd,C⟩ _ (by simp)) (Dd _) (by omega) (by omega) (by simp;omega) ?_;intro o2 w6 b ap;have bd:=X b;have bl:=X ap)))
   go_roundw;case rel=>
    refine⟨m+1,ac,by go_num,?_⟩;have d:=J HA;have i:=J bi;have t:=J bl;have b:=J bd;have cl:=d.own.lt;have bL:Z (λx=>cI (I ox m oc)=H x) v w6:=(((Z.refl (λx=>cI (I ox m oc)=H x) v).alloc _).alloc _).trans (Z.fN t)<|λx e=>.inl e;refine⟨by rw[<-J bk];exact b,?_,(d.aj.trans i<|by simp).trans bL (by grind),d.C6,?_⟩
    .have hr:=J bf;have bv:=hr.laid<|dP v (ay #[am D,am F,aM xd,aG C] 171) none;have bx:=bv.laid<|dP _ (ay #[am D,am F,aM xd,aG C] 171) none;exact bx.wrote t d.xO
    .intro x e;rcases t.vQ with bv|⟨bx,bv,hy⟩
     .exact d.xO x<|bv.symm.trans e
     .rw[bv]at e;cases e;simp at hy;omega
   case measure=>simp[intOf];omega
  .have i:m=N:=by omega
   subst i;have p:l.take m=l:=by rw[<-J B,aY]
   have c:l.drop m=[]:=by rw[<-J B,gz]
   have g:=d.rd;rw[c]at g;have a:=yY g (by simp);simp only[vV,ri,nX,vA]at a;rw[ho,p]at f;have r:=X f;have b:=X d.aj;subst ho;go_wp2_with fail
   apply a.mono;rintro bT v⟨rfl,t⟩;subst v;go_wp2;go_ret2
   exact⟨_,rfl,by rw[J B];exact r,b⟩
def kO:U->dX->eF
 |_,[]=>[]
 |f,l::r=>pq f l++kO (f+1) r
def zJ(f:U)(a:dX)(b:eF):eF:=kO f a++b
def Ys(q:U)(a:eF):Prop:=a=[]\/∃l:cU,(∀x∈l,x.Good)/\y l<=8/\y a<y (pq q l)/\a<+:pq q l
def yr(a:eF):Bool:=!a.isEmpty
structure wE(f:U)(ls:dX):Prop where
 jf:∀l∈ls,∀x∈l,x.Good
 num:∀i(hi:i<y ls),∀x∈ls[i],x.bQ=f+i
 one:∀l∈ls,1<=y l/\y l<=8
 sum:(ls.map y).sum<32
 f0:0<=f
 f1:f+y ls<18446744073709551616
theorem sh{n:U}(h:∀x∈e,x.Good)(a:y e<=8):y (pq n e)<=400:=by
 have:=oz h;unfold pq gY;grind[length_append,gO,cg,length_cons]
def DU{f:U}{lsqq:dX}(h:∀l∈lsqq,(∀x∈l,x.Good)/\y l<=8):y (kO f lsqq)<=400*y lsqq:=by
 induction lsqq generalizing f with
 |nil=>simp[kO]
 |cons l r b=>
  have a:=sh (n:=f) (h l<|by simp).1 (h l<|by simp).2;have c:=b (f:=f+1) (λx a=>h x<|by simp[a]);rw[kO,af,aO];omega
def Ys.len{q:U}(h:Ys q n):y n<=400:=by
 rcases h with rfl|⟨l,a,c,d,_⟩;simp;grind[sh]
def Pg(h:∀l∈m,1<=y l):y m<=(m.map y).sum:=by
 induction m with
 |nil=>simp
 |cons l r b=>
  have a:=h l (by simp);have c:=b (λx a=>h x<|by simp[a]);grind
def Hj(w:Y)(b:M)(c:ix)(a:dX):Prop:=y c=y a/\∀i(d:i<y c)(e:i<y a),w.ownsRow b 171 4 c[i] (y a[i])<|aI a[i]
def Ui:(prog.info? 72).map (λi=>(i.zero,i.size,i.bytes))=H (H az,1,24):=by kernel_rfl
structure ON(w0 w:Y)(f:U)(ls:dX)(jk:eF)(b zqq c m:M)(o:ab)(vs:ix):Prop where
 box:w.heap[z (G w0)+1]?=H (ay #[o,aM bw] 123 (0,0))
 wG:w.heap[z<|G w0]?=H (ay #[az,aM bw] 123 (0,0))
 own:w.ownsRow (z (G w0)+2) 72 1 o m vs
 J6:Hj w (z (G w0)+2) vs (ls.take m)
 bytes:Bytes w0 (bI b zqq (y<|zJ (f+m) (ls.drop m) jk) c) (zJ (f+m) (ls.drop m) jk)
 cap:y (zJ (f+m) (ls.drop m) jk)<=c/\c<=9223372036854775807
 aj:Z aw w0 w
def Hp(h:b<y m):((m.take<|b+1).map y).sum=((m.take b).map y).sum+y m[b]:=by
 rw[ah h,aE,ga];simp
def yt(a:dX)(m:M):((a.take m).map y).sum<=(a.map y).sum:=by
 have h:=bS (λl=>(l.map y).sum)<|bO m a;grind
def ON.step{a K w1 w2:Y}{N D L z' c' f:M}{o o2 bv:ab}{g:Obj}(q:ON a K k m n N D L f o B)(hm:f<y m)(j:Z aw K w1)(O:w1.ownsRow (z<|G K) 171 4 bv (y m[f]) (aI m[f]))(F:w2.ownsRow (z (G a)+2) 72 1 o2 (f+1) (B++[bv]))(hw:eJ (dd w1 g) w2 o o2)(s:Bytes a (bI N z' (y<|zJ (k+(f+1:M)) (m.drop<|f+1) n) c') (zJ (k+(f+1:M)) (m.drop<|f+1) n))(t:y (zJ (k+(f+1:M)) (m.drop<|f+1) n)<=c'/\c'<=9223372036854775807):ON a (cH w2 (R (z (G a)+1) 0) o2) k m n N z' c' (f+1) o2 (B++[bv])/\aW w2 (R (z (G a)+1) 0)=H o/\w2.frozen? (R (z (G a)+1) 0)=bw:=by
 have hz:=ak q.box;have aa:=q.aj.size;have Q:=bN q.own;have l:Z (λb=>cI o=H b) w1 w2:=((Z.refl (λb=>cI o=H b) w1).alloc g).trans (Z.fN hw)<|λ_ c=>.inl c;have w:Z (λb=>cI o=H b) K w2:=(j.mono (T:=λb=>cI o=H b) cJ).trans l<|λ_ c=>.inl c;have p:∀b,cI o=H b->∃h,K.heap[b]?=H (ay h 72 (0,0)):=λb c=>eT q.own c;have e:w2.heap[z (G a)+1]?=H (ay #[o,aM bw] 123 (0,0)):=(w.block _ hz<|by grind).trans q.box;have d:Z (λb=>b=z (G a)+1) w2 (cH w2 (R (z (G a)+1) 0) o2):=(Z.refl _ w2).setCell _ 0 _<|.inl rfl;refine⟨⟨?_,?_,?_,?_,s,t,?_⟩,by rw[ct e];rfl,cQ e⟩;have:=aJ (i:=0) (u:=o2) e;grind
 exact(km _<|by omega).trans<|(w.block _ (ak q.wG)<|by grind).trans q.wG;exact d.own F (λb c L=>by have:=(bN F b c).1;omega);obtain⟨v1,v2⟩:=q.J6;(have x:y B=f:=by rw[v1];simp;omega);refine⟨by grind,λr h1 h2=>?_⟩;(have A:∀(V:Y)(ad:ab)(ac:M)(C:ix),V.ownsRow (z (G a)+2) 171 4 ad ac C->Z (λb=>cI o=H b) V w2->(∀b,cI o=H b->∃h,V.heap[b]?=H (ay h 72 (0,0)))->(cH w2 (R (z (G a)+1) 0) o2).ownsRow (z (G a)+2) 171 4 ad ac C:=by intro V ad ac C W v S;have i:=v.own W (λb c L=>by grind[eT,iQ]);exact d.own i (λb c L=>by have:=(bN i b c).1;omega));rcases iy r f with P|P;(have E:(B++[bv])[r]=B[r]'(by omega):=(by grind);grind);(have v:r=f:=by grind);subst v;(have E:(B++[bv])[r]=bv:=by rw[uB<|by omega];simp[x]);have C:(m.take<|r+1)[r]=m[r]:=kA;rw[E,C];refine A w1 _ _ _ (gl O<|by omega) l<|λb c=>?_;obtain⟨h,i⟩:=p b c;exact⟨h,(j.block b (ak i) id).trans i⟩;exact(q.aj.trans w<|by grind).trans d<|by simp
def Ks(x:Option Addr)(L c:M)(w:Y)(d:L<12):cY bA 86 #[I x L c] w λe a=>e=aN (dA #[az,az,aM cf])/\Z aw w a:=by
 have b:(L:U)<12:=by omega
 go_in
 go_wp2;go_ret3
 exact⟨rfl,Z.refl _ _⟩
def Np(ao c b T:M)(B V:eF)(hT:Steps a)(hB:y B<=100000)(h1:y V<y B)(hL:T=12+y V)(ap:T<=b)(aU:b<=9223372036854775807)(W:Bytes a (bI ao c T b) (gS (le 4 (y B)++le 4 (lJ B))++V)):cY bA 86 #[bI ao c T b] a λal w'=>al=aN (dA #[az,az,aM cf])/\Z aw a w':=by
 have v:ao<z (G a):=W.lt (by intro al;have:=bS y al;simp[gS,cg]at this) ao rfl;have o:y (gS<|le 4 (y B)++le 4 (lJ B))=12:=by simp[gS,cg]
 have l:y (gS (le 4 (y B)++le 4 (lJ B))++V)=T:=by rw[af,o,hL]
 rw[<-l]at W;have d:=W.take (n:=12) (by rw[l];omega);rw[dK (by omega),dN<|by omega]at d;obtain⟨e,hM⟩:∃e,T-12=e:=⟨_,rfl⟩;obtain⟨bb,hC⟩:∃bb,b-12=bb:=⟨_,rfl⟩;have Q:=uS ao c b (le 4 (y B)++le 4 (lJ B)) hT (by simp[cg];omega) (by simp[cg]) (by grind[cg]);have F:y (le 4 (y B)++le 4 (lJ B))=8:=by simp[cg]
 rw[F]at Q;have g:Bytes a (bI ao c 8 b) (le 4 (y B)++le 4 (lJ B)):=by rw[<-o]at d;have h8:=d.take (n:=8) (by omega);(have e8:(gS<|le 4 (y B)++le 4 (lJ B)).take 8=le 4 (y B)++le 4 (lJ B):=by unfold gS;rw[dK (by omega),dN<|by omega]);rw[e8]at h8;exact h8
 obtain⟨r,k⟩:∃r,y B=r:=⟨_,rfl⟩;obtain⟨cB,m⟩:∃cB,lJ B=cB:=⟨_,rfl⟩;have w:=za B;have x:=AG B;rw[m]at w x;have s:=X g;rw[k]at hB h1;have e9:(e:U)<(r:U):=by omega
 have aa:=X k;have ad:=X m;have e1:(12:U)<=(T:U):=by omega
 have e2:(T:U)<=(b:U):=by omega
 have e3:¬(T:U)<12:=by omega
 have e6:(12:U)<=(b:U):=by omega
 have ax:IntKind.u64.wrap (r:U)=r:=by rw[eZ];omega
 have aF:IntKind.u64.wrap (e:U)=e:=by rw[eZ];omega
 have au:∀(ba:Bool)(a:Y),(Op.unary .not<|aM ba).run bA a=.ok (aM<|!ba) a:=λ_ _=>rfl;clear W d g hT k m hL l o F;have an:b=12/\T=12\/¬(b=12)/\¬(b-12=0):=by omega
 go_in
 go_wp2_with fail
 apply Q.mono;rintro al q⟨rfl,f⟩;have N:Z aw a q:=Z.aQ f;have E:=lV (s.below f (λav hk=>by cases hk;exact v)) (by intro av hk;cases hk;exact ai v f.size);have t:=X N;clear f N;go_wp2_with fail
 apply E.mono;rintro al w2⟨rfl,i,p⟩;have O:Z aw q w2:=by rw[p];exact(cO _ q)
 have aV:z (G q)<z (G w2):=by rw[p];simp
 have S:=qu (z<|G q) (r:M) (le 4<|lJ B) w2 (by rw[<-J aa];exact i) (kr.le 4 _) (by simp[cg]) (by omega) (by omega);have ac:=X O;clear i p O E;go_wp2_with fail
 apply S.mono;rintro al w3⟨rfl,K,A⟩;have j:=qu (z<|G q) cB [] w3 (by rw[<-J ad];grind) (by intro ba hx;cases hx) (by simp) w x;have C:=X A;clear K A S;go_wp2_with fail
 apply j.mono;rintro al w4⟨rfl,L,D⟩;have P:Z aw a w4:=by have h3:Z (λav=>av=z (G q)) w2 w4:=(fo C).trans (fo D)<|λ_ h=>.inl h;exact(t.cz ac).trans h3<|λav hk=>.inr (by have:=t.size;omega)
 have u:=X P;clear L D j P;rcases an with⟨rfl,rfl⟩|⟨e4,e5⟩;(·(obtain rfl:e=0:=by omega);go_wp2;(go_ret3);exact⟨rfl,u.of_heap rfl⟩);go_wp2;(go_ret3);exact⟨rfl,u.of_heap rfl⟩
def yA{c:Func}{p u:Tmp}(j:c.results=#[.cell p 123,.tmp u])(a:Array ab)(w:Y)(g:M)(x:Option Addr)(n k:M)(e:Bool)(t:TypeId)(d:M×M)(i:a.getD p iM=aD g)(f:w.heap[g]?=H (ay #[I x n k,aM e] t d)):(results c a).run bA w=.ok (dA #[dL #[I x n k,aM e],a.getD u iM]) w:=by
 have b:a[p]?.getD iM=aD g:=by simpa using i
 have h:=kH (P:=bA) w g t 123 #[I x n k,aM e] d _ f underlying123 rfl (by kernel_rfl);simp[results,j,b,asAddr,h,Result.andThen]
def Bytes.back(o:Bytes f (bI b c i l) n)(j:Z aw a f)(g:b<z (G a)):Bytes a (bI b c i l) n:=by
 rcases o with⟨e,_⟩|⟨k,p,m,e,d,h⟩;cases e;cases e;exact .inr ⟨_,_,_,rfl,d,λk e=>(dy (w:=a)<|j.block _ g id).symm.trans<|h k e⟩
def VI:ab->M
 | .slice _ n _=>n
 |_=>0
def SN(x:Option Addr)(n c:M):VI (I x n c)=n:=rfl
def XG(g b d:M){q:U}(p:Ys q n)(j:Steps a)(o:y n<=d)(c:d<=9223372036854775807)(k:Bytes a (bI g b (y n) d) n):cY bA 86 #[bI g b (y n) d] a λu t=>u=aN (dA #[az,az,aM cf])/\Z aw a t:=by
 by_cases v:y n<12;exact Ks _ _ _ a v;rcases p with rfl|⟨l,i,w,e,x,f⟩;(grind);unfold pq at f e;(have s:y (gS<|le 4 (y<|gY q l)++le 4 (lJ<|gY q l))=12:=by simp[gS,cg]);(have h:n=gS (le 4 (y<|gY q l)++le 4 (lJ<|gY q l))++n.drop 12:=by have:=bS (List.take 12) f;rw[dK (by omega),dK (by omega),dN (by omega:y (gS<|le 4 (y<|gY q l)++le 4 (lJ<|gY q l))<=12)]at this;rw[<-this,bO]);(have r:y n=12+y (n.drop 12):=by rw[iP];omega);(have m:y (gY q l)<=1000:=by have:=oz i;unfold gY;rw[af,aO,cg];omega);rw[af,s]at e;exact Np g b d (y n) (gY q l) (n.drop 12) j (by omega) (by omega) r o c (by rw[<-h];exact k)
def Tl(f:U)(a:dX)(b:eF)(m:M)(h:m<y a):zJ (f+(m:M)) (a.drop m) b=gS (le 4 (y<|gY (f+(m:M)) a[m])++le 4 (lJ<|gY (f+(m:M)) a[m]))++gY (f+(m:M)) a[m]++zJ (f+((m+1:M):M)) (a.drop<|m+1) b:=by
 unfold zJ;rw[bJ h,kO];unfold pq;grind
def Kr(bb j v:M)(hT:Steps a)(hP:wE k m)(hj:Ys (k+y m) n)(bp:y (zJ k m n)<=v)(cj:v<=9223372036854775807)(A:bb<z (G a))(hb:Bytes a (bI bb j (y<|zJ k m n) v) (zJ k m n)):cY bA 43 #[bI bb j (y<|zJ k m n) v,aG k] a λbc w'=>
 ∃cN E F,bc=aN (dA #[dL #[I cN (y m) E,aM<|yr n],aM cf])/\w'.ownsRow (z (G a)+2) 72 1 (I cN (y m) E) (y m) F/\Hj w' (z (G a)+2) F m/\Z aw a w':=by
 obtain⟨i0,cl,cp,cq,cr⟩:=dl Ui
 have cE:∀(cN:Bool)(a:Y),(Op.unary .not<|aM cN).run bA a=.ok (aM<|!cN) a:=λ_ _=>rfl
 have cB:y m<32:=Nat.lt_of_le_of_lt (Pg<|λt hl=>(hP.one t hl).1) hP.sum
 have cT:=hP.f0
 have db:=hP.f1
 obtain⟨RL,av⟩:∃RL,y (zJ k m n)=RL:=⟨_,rfl⟩
 have hA0:ON a (dd (dd a<|ay #[az,aM bw] 123)<|ay #[az,aM bw] 123) k m n bb j v 0 az []:=by
  refine⟨aK _ (by simp),(gq _<|by simp).trans<|aK _ rfl,cK _ _ _ _,⟨rfl,(by simp)⟩,?_,?_,(cO _ a).alloc _⟩
  .simpa using hb
  grind
 obtain⟨bd,HT,HP,cd,HJ⟩:=iY hA0 hT hP av hj
 rw[av]
 clear hA0 hT hP hb bp cj av hj
 go_in
 go_wp2
 go_loopw [0,7] (λbv b wr=>∃o d au dn F,o<=y m/\bv=bI bb d (y<|zJ (k+(o:M)) (m.drop o) n) au/\b=aq (((m.take o).map y).sum:M)/\ON a wr k m n bb d au o dn F) (λbv _ _=>VI bv)
 case atStart=>exact⟨0,j,v,_,_,bK _,by rw[<-J cd];simp,rfl,bd⟩
 case round=>
  obtain⟨o,d,au,dn,F,hm,rfl,rfl,e⟩:=hrel;have V:∀ap,Z aw wr ap->Steps ap:=λap hW=>HT.below ((e.aj.cz hW).below (ag _) cJ) HT.lt;obtain⟨r,p,ho⟩:=aC e.own;have w:=cellAt e.box 0 rfl;have L:=cellAt e.box 1 rfl;have df:=e.aj.size;have bx:=ak e.box;by_cases x:o<y m
  .have ad:=ar x;have D:=HP.jf _ ad;have N:=HP.num o x;have P:=HP.one _ ad;have S:=Hp x;have br:=yt m<|o+1;have co:=HP.sum;have bq:=Tl k m n o x;have f:=e.bytes;have b:=e.cap;have Q:=DU (f:=k+((o+1:M):U)) (lsqq:=m.drop<|o+1)<|λt hl=>⟨HP.jf t<|gD hl,(HP.one t<|gD hl).2⟩;have Q:y (zJ (k+((o+1:M):U)) (m.drop<|o+1) n)<=400*y (m.drop<|o+1)+400:=by unfold zJ;rw[af];have:=HJ.len;omega
   have ck:y (m.drop<|o+1)<=32:=by simp;omega
   rw[bq]at f b|-;have HA:=X e;obtain⟨t,hl⟩:∃t,m[o]=t:=⟨_,rfl⟩;rw[hl]at D N P S f b|-;have bT:=X hl;obtain⟨q,hq⟩:∃q:U,k+(o:M)=q:=⟨_,rfl⟩;rw[hq]at N f b|-;have cm:0<=q:=by omega
   have cn:q<18446744073709551616:=by omega
   obtain⟨c,aF⟩:∃c,zJ (k+((o+1:M):U)) (m.drop<|o+1) n=c:=⟨_,rfl⟩;rw[aF]at f b Q|-;have ch:y (gY q t)<=1000:=by have:=oz D;unfold gY;rw[af,aO,cg];omega
   have aa:0<y (gY q t):=by unfold gY;rw[af,cg];omega
   have s:y (gS (le 4 (y<|gY q t)++le 4 (lJ<|gY q t))++gY q t++c)=12+y (gY q t)+y c:=by grind[length_append,gO,cg]
   have ac:Bytes wr (bI bb d (y<|gS (le 4 (y<|gY q t)++le 4 (lJ<|gY q t))++gY q t++c) au) (gS (le 4 (y<|gY q t)++le 4 (lJ<|gY q t))++gY q t++c):=f.below (e.aj.below (ag _) cJ) (λE O=>by cases O;exact A);have hcut:=Nq bb d au _ (gY q t) c (w:=wr) (V wr<|Z.refl _ _) aa (by omega) (by omega) s b.1 b.2 ac;have l:=e.own;rw[ho]at l w;have cc:=X l;obtain⟨LL,bl⟩:∃LL,y (gS (le 4 (y<|gY q t)++le 4 (lJ<|gY q t))++gY q t++c)=LL:=⟨_,rfl⟩;rw[bl]at hcut s|-;obtain⟨W,C⟩:∃W,y t=W:=⟨_,rfl⟩;obtain⟨BL,B⟩:∃BL,y (gY q t)=BL:=⟨_,rfl⟩;have bi:=X<|λ(ap:Y)(hW:Z aw wr ap)(aU:Bytes ap (bI bb (d+12) BL<|au-12) (gY q t))=>Fg bb (d+12) (au-12) t q ap D N cm cn P.1 P.2 (by rw[B];exact aU);have al:∀ap,Z aw wr ap->Bytes ap (bI bb (d+12) BL<|au-12) (gY q t)->cY bA 87 #[bI bb (d+12) BL<|au-12,aG q] ap λbc w'=>∃a,bc=aN (dA #[a,aM cf])/\w'.ownsRow (z<|G ap) 171 4 a W (aI t)/\Z aw ap w':=by
    intro ap hW aU;have h:=bi ap hW aU;rw[B,C]at h;exact h
   have bk:=X al;have ca:=X C;rw[B]at hcut s;obtain⟨RN,ax⟩:∃RN,y c=RN:=⟨_,rfl⟩;rw[ax]at hcut s Q;rw[C]at S P;obtain⟨S0,bm⟩:∃S0,((m.take o).map y).sum=S0:=⟨_,rfl⟩;rw[bm]at S|-;obtain⟨ce,ao,an,HQ⟩:=gw S aF ax hq;have cv:(0:U)<(LL:U):=by omega
   have a1:IntKind.u64.wrap (o:U)=o:=by rw[eZ];omega
   have a2:IntKind.u64.wrap q=q:=by rw[eZ];omega
   have a3:IntKind.i64.wrap ((S0:U)+(W:U))=(S0:U)+W:=by rw[bP];omega
   have a4:¬((32:U)<=(S0:U)+(W:U)):=by omega
   have a5:k+(o:U)=q:=hq;have he:∀(b:Addr)(n E:M)(a:Y),(binOp .eql 86 (I (H b) n E) az).run bA a=.ok (aM bw) a:=λ_ _ _ _=>rfl;have bf:=X (show RN<LL by omega);clear V e D N br co bq f b Q ck hl hq aF ch aa s ac bl C B al l ax bm bi;subst ho;go_wp2_with fail
   apply hcut.mono;rintro bc w1⟨z',c',rfl,g1,g2,bn,bo,g⟩;have cw:aW w1 (R (z (G a)+1) 0)=H (I r o p):=g.cell w id bx;have bt:=bk w1 g<|bn.below (g.below (ag _) cJ) (λE O=>by cases O;grind);have K:=X g;have bL:=X bo;clear bn bo g hcut;go_wp2_with fail
   apply bt.mono;rintro bc w2⟨bv,rfl,ba,bs⟩;obtain⟨cu,cs,rfl⟩:=aC ba;have i:Z aw wr w2:=K.cz bs;have cx:aW w2 (R (z (G a)+1) 0)=H (I r o p):=i.cell w id bx;have cM:=i.size;obtain⟨bg,cb,bh⟩:=dF (i.own cc<|λ_ _ au=>au) (gl ba K.size) i;clear ba bs i bt;go_wp2_with(first
    |(at_builtin;go_loud(refine cC _ rfl (.tmp 50) (.tmp 52) 121 rfl (z (G a)+2) 72 i0 az 1 24 underlying121 cl cp cq cr rfl (by decide) (.slice r o p) o F rfl (aT bg _) (R (z (G w2)) 0) 1 1 [.slice cu W cs] rfl rfl (qf _ _ _) (by simp[Value.oneCell']) (by omega) (by omega) (by simp;omega) ?_;intro o2 w3 aV bu;obtain⟨hA3,cS,dc⟩:=HA.step (z':=z') (c':=c') (w1:=w2) (w2:=w3) (o2:=o2) (bv:=.slice cu W cs) x bh (by rw[J bT];have h:=J cb;have bc:=J ca;rw[<-bc]at h;rw[bc];rw[bc]at h;exact h) aV bu (by rw[J ao];have hh:=bL.back HA.aj A;rw[<-J an]at hh;exact hh) (by rw[J ao,J an];simp_all);obtain⟨dm,dk,rfl⟩:=aC aV;have bE:=X hA3;clear aV bu hA3)))
   go_roundw;case rel=>exact⟨o+1,z',c',_,_,x,by rw[J ao,J an],by rw[J ce];go_num,bE⟩
   case measure=>
    simp only[SN];exact bf
  .have B:o=y m:=by omega
   have W:m.drop o=[]:=by rw[B,gz]
   have al:m.take o=m:=by rw[B,aY]
   have aU:z (G a)<z (G wr):=ak e.wG;have l:=e.own;have c:=e.J6;have an:=e.aj;have C:=e.wG;have s:=e.box;have f:=e.bytes;have b:=e.cap;have ac:zJ (k+(o:M)) (m.drop o) n=n:=by rw[W];rfl
   rw[ac]at f b|-;rw[ho]at l w s;rw[al]at c;rw[B]at l w s;show Code.wp _ _ _ _ _;have Q:=X (show∀ad(aa:Bool),Z (λE=>E=z (G a)+1) wr ad->((ad.setCell (R (z<|G a) 0)<|I r (y m) p).setCell (R (z<|G a) 1)<|aM aa).heap[z<|G a]?=H (ay #[I r (y m) p,aM aa] 123 (0,0))/\((ad.setCell (R (z<|G a) 0)<|I r (y m) p).setCell (R (z<|G a) 1)<|aM aa).ownsRow (z (G a)+2) 72 1 (I r (y m) p) (y m) F/\Hj ((ad.setCell (R (z<|G a) 0)<|I r (y m) p).setCell (R (z<|G a) 1)<|aM aa) (z (G a)+2) F m/\Z aw a ((ad.setCell (R (z<|G a) 0)<|I r (y m) p).setCell (R (z<|G a) 1)<|aM aa)fromλad aa hV=>by
    have D:Z (λE=>E=z (G a)\/E=z (G a)+1) wr ((ad.setCell (R (z (G a)) 0) (I r (y m) p)).setCell (R (z (G a)) 1) (aM aa)):=((hV.mono (T:=λE=>E=z (G a)\/E=z (G a)+1) (by simp)).setCell (z (G a)) 0 _ (.inl (.inl rfl))).setCell (z (G a)) 1 _ (.inl (.inl rfl));refine⟨?_,D.own l (λE O au=>by have:=(bN l E O).1;omega),⟨c.1,λao h1 S=>D.own (c.2 ao h1 S) (λE O au=>by have:=(bN (c.2 ao h1 S) E O).1;omega)⟩,an.trans D (by simp)⟩;have S:=aJ (i:=1) (u:=aM aa) (aJ (i:=0) (u:=I r (y m) p) ((hV.block _ aU (by omega)).trans C));simpa using S)
   have hcut:n≠[]->cY bA 86 #[bI bb d (y n) au] wr λbc w'=>bc=aN (dA #[az,az,aM cf])/\Z aw wr w':=λq=>XG bb d au (by rw[<-B]at HJ;exact J HJ) (V wr<|Z.refl _ _) b.1 b.2<|f.below (e.aj.below (ag _) cJ) (λE O=>by cases O;exact A);have aF:=HJ.len;subst B;have i:=X C;have P:=X s;clear e V l c an W al bd HP f b ac C s;subst ho;by_cases N:n=[]
   .subst N;clear hcut;have r0:=cellAt i 0 rfl;have r1:=cellAt i 1 rfl;have r2:=cQ (i:=0) i;have r3:=cQ (i:=1) i;show Code.wp _ _ _ _ _;rw[dB];go_wp2;obtain⟨q1,q2,q3,q4⟩:=Q _ bw<|Z.refl _ _;refine cy (yA rfl _ _ (z<|G a) r (y m) p bw _ _ rfl q1) rfl ?_;exact⟨r,p,F,rfl,q2,q3,q4⟩
   .have L:=hcut N;have aa:0<y n:=gN.2 N;have ad:yr n=cf:=by cases n with|nil=>grind|cons _ _=>rfl
    have ax:=X ad;obtain⟨JL,S⟩:∃JL,y n=JL:=⟨_,rfl⟩;rw[S]at L aa aF|-;have e0:(0:U)<(JL:U):=by omega
    have he:(binOp .eql 86 az az).run bA=λa=>.ok (aM cf) a:=rfl;clear hcut N ad S;go_wp2_with fail
    apply L.mono;rintro bc w1⟨rfl,g⟩;have D:=(g.block _ (ak P) id).trans<|J P;have s1:=(g.block _ (ak i) id).trans<|J i;have r0:=cellAt s1 0 rfl;have r1:=cellAt s1 1 rfl;have r2:=cQ (i:=0) s1;have r3:=cQ (i:=1) s1;have t0:=cellAt D 0 rfl;have t1:=cellAt D 1 rfl;have t2:=cQ (i:=1) D;have K:=X g;have aV:=ak D;clear g D s1 L w;go_wp2;obtain⟨q1,q2,q3,q4⟩:=Q _ cf<|((J K).mono (T:=λE=>E=z (G a)+1) cJ).setCell (z (G a)+1) 1 (aM cf)<|.inl rfl;refine cy (yA rfl _ _ (z<|G a) r (y m) p cf _ _ rfl q1) rfl ?_;exact⟨r,p,F,by rw[J ax];rfl,q2,q3,q4⟩
def IL:∀(a:dX)(f:U)(k:M),∃j c,(kO f a).take k=kO f (a.take j)++c/\j<=y a/\(c=[]\/∃l,a[j]?=H l/\y c<y (pq (f+j) l)/\c<+:pq (f+j) l)/\∀i,i<=y a->y (kO f<|a.take i)<=k->i<=j
 |[],f,k=>⟨0,[],by simp[kO],by simp,.inl rfl,λi d _=>by simpa using d⟩
 |l::a,f,k=>by
  by_cases p:k<y (pq f l)
  .refine⟨0,(pq f l).take k,?_,by simp,.inr ⟨l,by simp,?_,?_⟩,λi d e=>?_⟩
   .show(pq f l++kO (f+1) a).take k=_;rw[dK<|by omega];simp[kO]
   .grind
   .grind
   .cases i with
    |zero=>grind
    |succ i=>
     have b:y (pq f l++kO (f+1) (a.take i))<=k:=e;rw[af]at b;omega
  .obtain⟨j,c,h,m,g,n⟩:=IL a (f+1)<|k-y (pq f l);have o:f+1+(j:U)=f+((j+1:M):U):=by omega
   refine⟨j+1,c,?_,by simpa using m,?_,λi d e=>?_⟩
   .show(pq f l++kO (f+1) a).take k=(pq f l++kO (f+1) (a.take j))++c;rw[List.take_append,dN (by omega),h,bj]
   .rw[o]at g;simpa using g
   .cases i with
    |zero=>omega
    |succ i=>
     have b:y (pq f l++kO (f+1) (a.take i))<=k:=e;rw[af]at b;have:=n i (by simpa using d) (by omega);omega
def No(q:U)(w:Y):cY bA 43 #[az,aG q] w λp g=>
 ∃x k a,p=aN (dA #[dL #[I x (y ([]:dX)) k,aM bw],aM cf])/\g.ownsRow (z (G w)+2) 72 1 (I x (y ([]:dX)) k) (y ([]:dX)) a/\Hj g (z (G w)+2) a []/\Z aw w g:=by
 obtain⟨d,a⟩:∃d,dd (dd w<|ay #[az,aM bw] 123) (ay #[az,aM bw] 123)=d:=⟨_,rfl⟩
 have b:d.heap[z<|G w]?=H (ay #[az,aM bw] 123 (0,0)):=by rw[<-a];grind[gq,aK]
 have c:d.heap[z (G w)+1]?=H (ay #[az,aM bw] 123 (0,0)):=by rw[<-a];exact aK _<|by simp
 have i:Z aw w d:=by rw[<-a];exact(cO _ w).alloc _
 have m:=cellAt b 0 rfl
 have n:=cellAt b 1 rfl
 have o:=cellAt c 0 rfl
 have c1:=cellAt c 1 rfl
 have r:∀j,d.frozen? (R (z<|G w) j)=bw:=λj=>cQ b
 have f:=X b
 have k:=X i
 have l:=X a
 clear b c i a
 go_in
 go_wp2
 rw[J l]
 refine jd 1 ?_
 rw[gZ]
 go_wp2
 have e:=aJ (i:=1) (u:=aM bw)<|aJ (i:=0) (u:=az) f
 refine cy (yA rfl _ _ (z<|G w) none 0 0 bw _ _ rfl e) rfl ?_
 exact⟨none,0,[],rfl,cK _ _ _ _,⟨rfl,(by simp)⟩,((J k).setCell (z<|G w) 0 _<|.inr<|ag _).setCell (z<|G w) 1 _<|.inr<|ag _⟩
