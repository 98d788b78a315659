import Derived.Test.YtojeeoclojldpaaGreatDoorC22
import Derived.Test.YtojeeoclojldpaaGreatDoorC30
import Derived.Test.YtojeeoclojldpaaGreatDoorC31
open _root_ renaming List.length→y,Option.some→H,Array.size→z,Go.World.heap→G,Go.Value.ownBlock→bV,Bool.false→bF,Bool.true→bW,Nat→M,Int→Z,List→cr,Go.Calls→cy,Go.Proofs.Tryz.prog→bG,Go.Value.slice→J,Go.Value.string→ai,Go.Value.tuple→dB,Go.Value.agg→eC
namespace Go.Proofs.YtojeeoclojldpaaGreatDoor
open ChangeShapes WideShapes RowKit Proofs.Tryz
set_option maxHeartbeats 16000000
set_option linter.all false
set_option maxRecDepth 100000
variable{a f C:I}{b c g l B P:M}{d:aa}{e L:cA}{i p t u:cP}{j O:DK}{k:dW}{m F Q:Z}{n:SR}{X:fJ}{x:iU}{D:Bool}{S:bJ}
structure WF(W:I)(db sb:M)(K K2:DK)(u0 u1 u2 u3:aa)(a b c d a' b' c' d':cP):Prop where
 aN:cK W db K2
 same:K2.files=K.files/\K2.eM=K.eM/\∀k,K2.bj db k->K.bj db k
 l0:Hz W K2 db sb u0 a'
 l1:Hz W K2 db sb u1 b'
 l2:Hz W K2 db sb u2 c'
 l3:Hz W K2 db sb u3 d'
 k0:kY a a'
 k1:kY b b'
 k2:kY c c'
 k3:kY d d'
 GK:((a'++b'++c'++d').map bJ.tb).Nodup
def WF.aw{u0 u1 u2 u3:aa}{p r e s g b' k l:cP}(h:WF a b c j O u0 u1 u2 u3 p r e s g b' k l)(n:Y (λq=>q=c) a C)(o:¬j.bj b c):WF C b c j O u0 u1 u2 u3 p r e s g b' k l:=by
 have m:=h.aN.aw n<|λb e a=>o<|h.same.2.2 _<|a▸e;have d:gw a C b c O O:=⟨m,n.mono<|λ_ e=>.inl<|.inr e,λ_ e=>.inl e⟩;exact⟨m,h.same,h.l0.fq d<|λ_ _=>rfl,h.l1.fq d<|λ_ _=>rfl,h.l2.fq d<|λ_ _=>rfl,h.l3.fq d<|λ_ _=>rfl,h.k0,h.k1,h.k2,h.k3,h.GK⟩
def oa.of(h:Fj S):S.oa:=by
 refine⟨h.num,by have:=h.small;omega,?_⟩;rw[h.ks];have b:=lq (ks:=bO 0 S.cs)<|λk a=>(h.idx.can k a).fits;have a:=h.idx.len;unfold fa;rw[af,bY];omega
def TW:iM 1=⟨#[108,111,103,45,49]⟩:=by unfold iM;rw[Pz];decide
def oY(j:Row a b d c x):∃l i,d=J l c i:=by
 obtain⟨k,⟨e,h⟩|⟨m,g,f,e,_⟩⟩:=j;exact⟨none,0,by rw[e,h]⟩;exact⟨_,_,e⟩
def CI.Xs{q sbqq:M}{K C w:DK}{u0 u1 u2 u3:aa}{D:cr cP}(s:CI a f q C w b c x [u0,u1,u2,u3] D)(P:oX D=oX [i,p,t,u])(d:C.files=K.files/\C.eM=K.eM/\∀v,C.bj q v->K.bj q v)(ac:sbqq<z (G a))(F:∀o∈i++p++t++u,Fj o)(hf:∀o∈i++p++t++u,dX (vw K.files) (gI o.num)=H (mu o.cs)):∃h j k l,WF f q sbqq K w u0 u1 u2 u3 i p t u h j k l:=by
 have L:=s.Dm;obtain⟨h,j,k,l,rfl⟩:∃h j k l,D=[h,j,k,l]:=by rcases D with _|⟨m,_|⟨N,_|⟨T,_|⟨X,_|⟨v4,ad⟩⟩⟩⟩⟩<;>simp at L;exact⟨_,_,_,_,rfl⟩
 simp only[oX,aY,eW,mM,sC]at P;obtain⟨s0,s1,s2,s3⟩:=P;have Q:kY i h:=s0;have S:kY p j:=s1;have V:kY t k:=s2;have W:kY u l:=s3;have O:=s.ord;have r:kY (i++p++t++u) (h++j++k++l):=((Q.append S).append V).append W;have A:=r.WK F;have g:∀v,c<v->v<z (G f)->Aside f w q sbqq v:=λv e d=>⟨d,λt=>by have:=s.low v<|s.same.2.2 v t;omega,by omega⟩;have B:∀o∈h++j++k++l,rO f q (vw w.files) (Aside f w q sbqq) o:=λo e=>by obtain⟨N,m,E,T,X,g3,g4,_⟩:=s.zc o (by simpa using e);obtain⟨q1,q2,q3,q4,q5⟩:=A o e;refine⟨⟨N,0,m,E,g N g3 g4⟩,g o.tb T X,q1,q5,q2,q3,q4,?_⟩;obtain⟨al,hu,ad⟩:=r.mem e;rw[s.same.1,d.1,<-xg ad,<-zS ad];exact hf al hu
 have n:∀(N:M)(X:aa)(T:cP),[u0,u1,u2,u3][N]?=H X->[h,j,k,l][N]?=H T->(∀o∈T,o∈h++j++k++l)->Hz f w q sbqq X T:=λN X T m hT E=>
  ⟨dH<|s.rows N X T m hT,λv c=>g v (s.own m c).1 (s.own m c).2,λo e=>B o<|E o e⟩
 refine⟨h,j,k,l,s.aN,⟨s.same.1.trans d.1,s.same.2.1.trans d.2.1,λv t=>d.2.2 v<|s.same.2.2 v t⟩,n 0 _ _ rfl rfl (λo e=>by simp[e]),n 1 _ _ rfl rfl (λo e=>by simp[e]),n 2 _ _ rfl rfl (λo e=>by simp[e]),n 3 _ _ rfl rfl (λo e=>by simp[e]),Q,S,V,W,?_⟩;have:=s.GK;simpa using this
def Ro{nx lg:M}(bg:bL a c n m)(hs:n.aN=b)(ao:¬j.bj b c)(e:wN a b j i p t u g B P nx lg D k):cy bG 55 #[aA c] a λx o=>x=aO .nilIface/\∃u0 u1 u2 u3,bL o c (n.sW u0 u1 u2 u3 nx lg B<|decide<|0<y j.files) m/\(∃L N O Q S,WF o b c j L u0 u1 u2 u3 i p t u N O Q S)/\Y (λq=>j.bj b q\/q=c) a o:=by
 subst hs;have r:=e.aN;have W:=ak bg;have K:=e.count;have av:nx<18446744073709551616:=by have:=e.nx;have:=e.JW;omega
 have bb:B<18446744073709551616:=by have:=e.bn;have:=e.JW;omega
 have an:y j.files<=100000000:=by
  have C:=r.nodup;have f:=yj (l:=(vw j.files).map (·.1)) (m:=gP::iM lg::(i++p++t++u).map (λal=>gI al.num)) C (λbd V=>by
   obtain⟨bs,w⟩:=rF V;rcases e.qX.names bd bs w with x|⟨x,_⟩|⟨al,h,x⟩
   .simp[x]
   .simp[x]
   .exact aJ _ (aJ _ (aZ.2 ⟨al,h,x.symm⟩)))
  have e1:y ((vw j.files).map (·.1))=y j.files:=by simp[vw]
  rw[e1]at f;simp only[ay,cU]at f;omega
 refine VX a c n m nx lg B (y j.files) (λo v0 v1 v2 v3=>∃F,cK o n.aN F/\(F.files=j.files/\F.eM=j.eM/\∀q,F.bj n.aN q->j.bj n.aN q)/\Y (j.bj n.aN) a o/\∀(E:M)(ac:aa)(ad:cP),[v0,v1,v2,v3][E]?=H ac->[i,p,t,u][E]?=H ad->Row o 4 ac (y ad) (dh ad)/\∀q,bV ac=H q->z (G a)<=q/\q<z (G o)) (λo u0 u1 u2 u3=>∃L N O Q S,WF o n.aN c j L u0 u1 u2 u3 i p t u N O Q S) (j.bj n.aN) bg r.lt ao ?_ ?_ ?_;rcases e.qX.state with f|⟨f,rfl,rfl,rfl,rfl,rfl,rfl,rfl⟩;apply(Rm nx lg B [i,p,t,u] r e.steps e.fC rfl av e.qX.lt bb (by simpa using K) (λal h=>oa.of<|e.qX.jc al<|by simpa using h) (by simpa using e.qX.zn) (λal h=>e.qX.low al<|by simpa using h) f).mono;rintro x o⟨x0,V,c0,x1,X,c1,x2,n2,c2,x3,n3,c3,rfl,d,F,C,e1,e2,e3⟩;exact⟨x0,V,c0,x1,X,c1,x2,n2,c2,x3,n3,c3,rfl,⟨F,C.ok,⟨e1,e2,e3⟩,C.aw,λE ac ad v T=>⟨dH<|d E ac ad v T,λq s=>(d E ac ad v T).lt q s⟩⟩,C.aw⟩;refine(Rn r an e.pow (λX V=>?_) f).mono ?_;(have C:X∈(vw j.files).map (·.1):=by simpa[vw]using V);obtain⟨bs,w⟩:=rF C;rcases e.qX.names X bs w with x|⟨x,_⟩|⟨al,h,x⟩;rw[x,f]at w;cases w;rw[x,TW];simp at h;rintro x o⟨rfl,h⟩;have A:Y (j.bj n.aN) a o:=h.mono cG;refine⟨none,0,0,none,0,0,none,0,0,none,0,0,rfl,⟨j,r.aw h<|λ_ _=>id,⟨rfl,rfl,λ_ t=>t⟩,A,λE ac ad v T=>?_⟩,A⟩;(have x:ac=aK/\ad=[]:=by rcases E with _|_|_|_|E<;>simp at v T<;>exact⟨v.symm,T⟩);rw[x.1,x.2];exact⟨⟨rfl,.inl ⟨rfl,rfl⟩⟩,λq s=>by cases s⟩;rintro W1 bf v0 v1 v2 v3⟨F,au,f,ba,d⟩C;obtain⟨x0,c0,e0⟩:=oY (d 0 _ _ rfl rfl).1;obtain⟨x1,c1,e1⟩:=oY (d 1 _ _ rfl rfl).1;obtain⟨x2,c2,e2⟩:=oY (d 2 _ _ rfl rfl).1;obtain⟨x3,c3,e3⟩:=oY (d 3 _ _ rfl rfl).1;subst e0 e1 e2 e3;have X:Y (j.bj n.aN) a bf:=ba.ci C;refine(Ed (db:=n.aN) (K:=F) [i,p,t,u] x0 x1 x2 x3 _ c0 _ c1 _ c2 _ c3 (au.aw C<|λ_ _=>id) (Steps.aw e.steps X e.fC) (e.pow.aw X e.me) (λq=>e.fC<|f.2.2 _ q) (λq=>e.me<|f.2.2 _ q) rfl (λE ac bc v V=>C.row (d E ac bc v V).1<|λq s=>⟨id,((d E ac bc v V).2 q s).2⟩) (λE ac v q s=>?_) (λal h=>e.qX.jc al<|by simpa using h) (λal h=>by rw[f.1];exact e.qX.zc al<|by simpa using h) (λE bc hj V=>?_)<|by simpa using K).mono ?_;(have hj:∃ad,[i,p,t,u][E]?=H ad:=by rcases E with _|_|_|_|E;exact⟨_,rfl⟩;exact⟨_,rfl⟩;exact⟨_,rfl⟩;exact⟨_,rfl⟩;simp at v);obtain⟨ad,T⟩:=hj;have hh:=(d E ac ad v T).2 q s;exact⟨ag hh.2 C.size,λa=>by have:=r.lt q<|f.2.2 q a;omega⟩;rcases E with _|_|_|_|E;omega;cases V;exact e.s1;cases V;exact e.s2;cases V;exact e.s3;simp at V;rintro x o⟨y0,m0,d0,y1,m1,d1,y2,m2,d2,y3,m3,d3,rfl,L,Ts,hI,ax⟩;refine⟨y0,m0,d0,y1,m1,d1,y2,m2,d2,y3,m3,d3,rfl,?_,hI.aw.mono<|λq t=>.inl<|f.2.2 q t⟩;obtain⟨N,O,Q,S,s⟩:=hI.Xs (sbqq:=c) (K:=j) ax f (ag W X.size) e.qX.jc e.qX.zc;exact⟨L,N,O,Q,S,s⟩;rintro bf u0 u1 u2 u3⟨L,N,O,Q,S,s⟩W' h;have f:=s.aw h ao;refine⟨⟨L,N,O,Q,S,f⟩,?_⟩;refine(EA f.aN (by rw[s.same.1];exact an)).mono ?_;rintro x o⟨v',ns,rfl,hp,X,A⟩;obtain⟨bd,C,v⟩:=aC X;(have V:y ns=y j.files:=by have:=hp.length_eq;rw[s.same.1]at this;simpa using this);rw[v,V];exact⟨bd,C,rfl,A⟩
def Ea(h:Fp ((b:Z)+1) k):lj k=gJ [] k.flatten/\dQ (gJ [] k.flatten)/\ke (b+y k:M) (gJ [] k.flatten)=gJ [] k.flatten/\rN 5 (gJ [] k.flatten)/\y (gJ [] k.flatten)<=(k.map y).sum:=by
 obtain⟨c,d,e,a⟩:=VJ h (y k)<|ah _;rw[bP]at c d e a;have g:(b:Z)+1+y k-1=((b+y k:M):Z):=by push_cast;omega
 rw[g]at a;have f:=GF k;rw[<-c];refine⟨rfl,d.mq,a,?_,f⟩;rcases wD k with q|⟨r,l,q⟩;rw[q];exact rN.nil _;rw[q,wE,zk];exact xY (GD r) (by simp) l
def Cp{s:SR}{B C E F:cP}{al g an nx K:M}(e:wN a b j i p t u al g an nx K D k)(d:WF f b c j O s.l0 s.l1 s.l2 s.l3 i p t u B C E F)(n:Y (λq=>j.bj b q\/q=c) a f)(ac:z (G a)<=c)(L:s.aN=b)(N:s.next=nx)(P:s.log=K)(Q:s.gB=D)(m:s.bC=g+y k)(S:s.iS=(k.map y).sum)(T:s.vG=bF)(X:kw f s.memory (gJ [] k.flatten))(r:∀ao,bV s.memory=H ao->Aside f O b c ao)(h:1<=s.mem/\s.mem<=32/\2<=s.wH/\s.wH<=6)(o:s.km=bW->s.gB=bW)(x:Ga f O c s []):Inv f c s O (gJ [] k.flatten) B C E F al g an k []:=by
 obtain⟨_,p1,p2,p3,p4⟩:=Ea e.lp;subst L N P Q;have A:vw O.files=vw j.files:=by rw[d.same.1]
 have w:=e.steps.lt;have v:=e.pow.lt;refine{st:=?_,qX:=?_,pr:=?_,lp:=e.lp,mem:=by rw[m];exact p2,MF:=λad l=>?_,VT:=p4,WT:=p3,pV:=x,Vr:=λ_ q=>(by cases q),BH:=m,UX:=S,vG:=T,GK:=d.GK,nx:=e.nx,bn:=by rw[m];exact e.bn,eM:=by rw[d.same.2.1];exact e.eM,TE:=h,loose:=o,TX:=e.TX,mJ:=e.JW};refine⟨X,r,d.l0,d.l1,d.l2,d.l3,d.aN,λt=>?_,⟨Steps.aw e.steps n (λt=>t.elim e.fC<|λt=>by omega),e.pow.aw n (λt=>t.elim e.me<|λt=>by omega),⟨ag w n.size,λt=>e.fC<|d.same.2.2 _ t,by omega⟩,⟨ag v n.size,λt=>e.me<|d.same.2.2 _ t,by omega⟩⟩,?_,e.mJ,p1,?_,d.k1.side e.s1,d.k2.side e.s2,d.k3.side e.s3⟩;have:=e.aN.lt _<|d.same.2.2 _ t;omega;rw[d.k0.cg,d.k1.cg,d.k2.cg,d.k3.cg];exact e.qI;intro ad l;rcases Et l with V|V;simp at V;obtain⟨au,W,l⟩:=bz.1 V;exact e.lp.jc au W ad l;rw[A];exact e.qX.YE d.k0 d.k1 d.k2 d.k3;rw[kY.cF d.k0 d.k1 d.k2 d.k3];exact e.pr;rw[m];rcases Et l with q|q;cases q;exact e.lp.wy ad q
def wN.aw{w w':I}{d:cP}(h:wN w b j p t u d c g l B P D k)(a:Y aB w w'):wN w' b j p t u d c g l B P D k:={h with aN:=h.aN.aw a<|λ_ _=>id,steps:=Steps.aw h.steps a id,pow:=h.pow.aw a id}
def Tu(h:k≠[]):0<y (lO m k):=by
 rcases k with _|⟨l,r⟩;exact absurd rfl h;unfold lO CL;simp only[af,gu,bY];omega
structure xQ(w w':I)(db sb:M)(mem wH:Z)(K:DK)(C N:M)(R0:ab->Option ab)(s:SR)(K':DK)(m:cA)(a b c d:cP)(tb:M)(ls:dW):Prop where
 box:bL w' sb s 0
 inv:Inv w' sb s K' m a b c d C tb N ls []
 wI:∀q,fV s.bC (m::cF a b c d) q=R0 q
 same:s.aN=db/\s.closed=bF/\s.mem=mem/\s.wH=wH/\s.gZ=0/\s.lT=H (z (G w)+1)
 fq:gw w w' db sb K K'
 size:z (G w)+4<=z (G w')
 bj:∀k,K'.bj db k->K.bj db k\/z (G w)+4<=k
def Fl(w i:I)(h c:M)(e a:Z)(K:DK)(C N:M)(g:ab->Option ab):Prop:=∃s f n j k l m d b,xQ w i h c e a K C N g s f n j k l m d b
def xQ.step{x v:ab->Option ab}{d:SR}{p:DK}{S T A V r s c' t:cP}{o i:M}{h:dW}(w:xQ a f b c m F j g l x n O e S T A V o k)(E:bL C c d 0)(D:Inv C c d p L r s c' t B i P h [])(N:∀q,fV d.bC (L::cF r s c' t) q=v q)(K:d.aN=b/\d.closed=bF/\d.mem=m/\d.wH=F/\d.gZ=0/\d.lT=H (z (G a)+1))(u:gw f C b c O p):xQ a C b c m F j B P v d p L r s c' t i h:=⟨E,D,N,K,w.fq.trans u,aE w.size u.aw.size,λQ A=>(u.bj Q A).elim (λq=>w.bj Q q)<|λq=>.inr<|aE w.size q⟩
def xQ.kept{h:I}{r:ab->Option ab}{o:DK}(v:xQ a C b (z (G a)+2) m Q j c g r n O e i p t u l k)(s:gw C h b (z (G a)+2) O o)(d:∀w,j.bj b w->w<z (G a)):h.heap[z (G a)+3]?=C.heap[z (G a)+3]?:=s.aw.block _ (by have:=v.size;omega) (λt=>t.elim (λt=>by
 rcases v.bj _ t with q|q
 .have:=d _ q;omega
 .omega) (λt=>by omega))
def Ab{e:Fs}(h:rO a b e X S):Sy a S:=by
 obtain⟨g,d,c,f,_⟩:=h.mem;exact⟨h.num,_,_,_,_,_,_,_,_,f⟩
def QX(h d:Z)(o:wN a b j i p t u c g l B P D k)(ho:1<=h/\h<=32/\2<=d/\d<=6)(hN:l+1<=100000000):cy bG 26 #[aA b,eC #[ap h,ap d]] a λQ v=>Q=aO (dB #[aA<|z (G a)+2,.nilIface])/\Fl a v b (z (G a)+2) h d j c (l+1) (fV (g+y k:M)<|gJ [] k.flatten::cF i p t u):=by
 have w:=o.aN.lt;have V:¬j.bj b (z (G a)+2):=λq=>by have:=w _ q;omega
 have bp:B<18446744073709551616:=by have:=o.nx;have:=o.JW;omega
 have bd:P<18446744073709551616:=by have:=o.qX.lt;omega
 have bo:=o.bn;have bm:=o.count;refine VO b h d a ho (λW=>Y aB a W/\bL W (z (G a)+2) (SR.fresh b h d<|z (G a)+1) 0/\ju W (z (G a)+1) []/\z (G W)=z (G a)+4) (λW=>∃u0 u1 u2 u3 L C E F K,bL W (z (G a)+2) ((SR.fresh b h d<|z (G a)+1).sW u0 u1 u2 u3 B P g<|decide<|0<y j.files) 0/\WF W b (z (G a)+2) j L u0 u1 u2 u3 i p t u C E F K/\Y (λq=>j.bj b q\/q=z (G a)+2) a W/\ju W (z (G a)+1) []/\z (G a)+4<=z (G W)) (λW=>∃bh x C E F K,xQ a W b (z (G a)+2) h d j c l (fV (g+y k:M)<|gJ [] k.flatten::cF i p t u) bh x (gJ [] k.flatten) C E F K g k) (λW=>∃bh x C E F K,xQ a W b (z (G a)+2) h d j c l (fV (g+y k:M)<|gJ [] k.flatten::cF i p t u) bh x (gJ [] k.flatten) C E F K g k) (λW=>Fl a W b (z (G a)+2) h d j c (l+1)<|fV (g+y k:M)<|gJ [] k.flatten::cF i p t u) (λW h1 h2 h3 h4=>⟨h1,h2,h3,h4⟩) ?_ ?_ ?_ ?_;rintro W⟨r,hb,ba,bc⟩;apply(Ro hb rfl V<|o.aw r).mono;rintro Q v⟨rfl,u0,u1,u2,u3,S,⟨L,C,E,F,K,e⟩,s⟩;have N:=s.size;refine⟨rfl,⟨u0,u1,u2,u3,L,C,E,F,K,S,e,(r.mono (T:=λq=>j.bj b q\/q=z (G a)+2) cG).trans s<|λ_ q=>.inl q,ba.de (s.block _ (by omega)<|λq=>q.elim (λq=>by have:=w _ q;omega)<|λq=>by omega),by omega⟩,?_⟩;exact s.block _ (by omega)<|λq=>q.elim (λq=>by have:=w _ q;omega)<|λq=>by omega
 .rintro W⟨u0,u1,u2,u3,L,C,E,F,K,hb,e,r,ba,bc⟩;have bg:vw L.files=vw j.files:=by rw[e.same.1]
  have N:=kY.cF e.k0 e.k1 e.k2 e.k3;have bb:¬L.bj b (z (G a)+2):=λq=>V<|e.same.2.2 _ q;have av:Pow W:=o.pow.aw r<|λq=>q.elim o.me (λq=>by have:=o.pow.lt;omega);have bl:Steps W:=Steps.aw o.steps r<|λq=>q.elim o.fC (λq=>by have:=o.steps.lt;omega);have ao:∀v,Y (λq=>L.bj b q\/q=z (G a)+2) W v->v.heap[z (G a)+3]?=W.heap[z (G a)+3]?:=λv c=>c.block _ (by omega) (λq=>q.elim (λq=>by have:=w _<|e.same.2.2 _ q;omega)<|λq=>by omega);have ax:∀v x,Y (λq=>L.bj b q\/q=z (G a)+2) W v->(∀an,x.bj b an->L.bj b an)->ju v (z (G a)+1) []/\Aside v x b (z (G a)+2) (z (G a)+1):=λv x c hf=>⟨ba.de (c.block _ (by omega)<|λq=>q.elim (λq=>by have:=w _<|e.same.2.2 _ q;omega)<|λq=>by omega),by have:=c.size;omega,λq=>by have:=w _<|e.same.2.2 _<|hf _ q;omega,by omega⟩;have bf:Ga W L (z (G a)+2) ((SR.fresh b h d<|z (G a)+1).sW u0 u1 u2 u3 B P g<|decide<|0<y j.files) []:=⟨⟨z (G a)+1,rfl,ax W L (Y.refl _ W)<|λ_ q=>q⟩,by simp⟩;cases hlgd:D with
  |false=>
   have ad:=o.qX.GJ hlgd;have au:dX (vw L.files) (iM P)=none:=by
    rw[bg];rcases hf:dX (vw j.files) (iM P)with _|bs
    .rfl
    .rcases o.qX.names _ _ hf with Q|⟨_,Q⟩|⟨ac,r,Q⟩
     .exact absurd Q<|sd P
     .rw[hlgd]at Q;cases Q
     .exact absurd Q.symm<|mF _ _
   apply(KD hb e.aN av bd au).mono;rintro Q v⟨rfl,s⟩;have al:=e.aw (s.mono (T:=λq=>q=z (G a)+2) cG) V;have X:=r.ci s;refine⟨rfl,⟨(SR.fresh b h d<|z (G a)+1).sW u0 u1 u2 u3 B P g<|decide<|0<y j.files,L,C,E,F,K,?_⟩,ao v<|s.mono cG⟩;have n:=Cp (s:=(SR.fresh b h d<|z (G a)+1).sW u0 u1 u2 u3 B P g<|decide<|0<y j.files) o al X (by omega) rfl rfl rfl hlgd.symm (by rw[ad];rfl) (by rw[ad];rfl) rfl (by rw[ad];exact⟨rfl,.inl ⟨rfl,rfl⟩⟩) (λan q=>by cases q) ho (λq=>by cases q) ⟨⟨z (G a)+1,rfl,ax v L (s.mono cG)<|λ_ q=>q⟩,by simp⟩;exact⟨(s.block _ (ak hb) id).trans hb,n,λq=>by rw[N,n.BH],⟨rfl,rfl,rfl,rfl,rfl,rfl⟩,⟨al.aN,X.mono<|λ_ q=>.inl q,λan q=>.inl<|e.same.2.2 an q⟩,aE bc s.size,λan q=>.inl<|e.same.2.2 an q⟩
  |true=>
   have bi:=o.TX hlgd;have bk:y (lO ((g:Z)+1) k)<=200000:=by
    have h1:=tT (f:=(g:Z)+1)<|λbn a=>⟨o.lp.jc bn a,(o.lp.one bn a).2⟩;have h2:=Dw<|λbn a=>(o.lp.one bn a).1;have h3:=o.lp.sum;omega
   refine(No k hb e.aN bb av bl ⟨by have:=o.steps.lt;omega,λq=>o.fC<|e.same.2.2 _ q⟩ bd o.lp (by rw[bg];exact o.qX.log hlgd) (Tu bi) bk rfl rfl (by show g<=1000000000;have:=o.JW;omega) bf).mono ?_;rintro Q v⟨rfl,mv,x,S,au,O,e1,e2,e3⟩;have ad:∀ac:bJ,dX (vw x.files) (gI ac.num)=dX (vw L.files) (gI ac.num):=λac=>by rw[e1]
   have al:WF v b (z (G a)+2) j x u0 u1 u2 u3 i p t u C E F K:=⟨O.ok,⟨e1.trans e.same.1,e2.trans e.same.2.1,λan q=>e.same.2.2 an<|e3 an q⟩,e.l0.fq O<|λac _=>ad ac,e.l1.fq O<|λac _=>ad ac,e.l2.fq O<|λac _=>ad ac,e.l3.fq O<|λac _=>ad ac,e.k0,e.k1,e.k2,e.k3,e.GK⟩;have X:Y (λq=>j.bj b q\/q=z (G a)+2) a v:=r.trans O.aw<|λ_ q=>.inl<|q.imp (e.same.2.2 _) id;refine⟨rfl,⟨{((SR.fresh b h d<|z (G a)+1).sW u0 u1 u2 u3 B P g<|decide<|0<y j.files).ul mv (y k) (k.map y).sum with gB:=bW,vG:=bF,km:=bW},x,C,E,F,K,?_⟩,ao v O.aw⟩;have n:=Cp (s:={((SR.fresh b h d<|z (G a)+1).sW u0 u1 u2 u3 B P g<|decide<|0<y j.files).ul mv (y k) (k.map y).sum with gB:=bW,vG:=bF,km:=bW}) o al X (by omega) rfl rfl rfl hlgd.symm rfl rfl rfl (by rw[<-(Ea o.lp).1];exact dH au) (λan q=>by
    have h1:=au.lt an q;exact⟨h1.2,λg=>by have:=w _ (e.same.2.2 _ (e3 an g));omega,by omega⟩) ho (λ_=>rfl) ⟨⟨z (G a)+1,rfl,ax v x O.aw e3⟩,by simp⟩
   exact⟨S,n,λq=>by rw[N,n.BH],⟨rfl,rfl,rfl,rfl,rfl,rfl⟩,⟨O.ok,X.mono<|λ_ q=>.inl q,λan q=>.inl<|e.same.2.2 an<|e3 an q⟩,aE bc O.aw.size,λan q=>.inl<|e.same.2.2 an<|e3 an q⟩
 .rintro W⟨bh,K1,C,E,F,K,A⟩;have n:=A.inv;obtain⟨es,ec,em,et,eg⟩:=A.same;subst es;have ad:y K1.files<=100000000:=by
   have al:=n.st.aN.nodup;have N:=yj (l:=(vw K1.files).map (·.1)) (m:=gP::iM bh.log::(C++E++F++K).map (λac=>gI ac.num)) al (λan hx=>by
    obtain⟨bs,X⟩:=rF hx;rcases n.qX.names an bs X with Q|⟨Q,_⟩|⟨ac,r,Q⟩
    .simp[Q]
    .simp[Q]
    .exact aJ _ (aJ _ (aZ.2 ⟨ac,r,Q.symm⟩)))
   have e1:y ((vw K1.files).map (·.1))=y K1.files:=by simp[vw]
   rw[e1]at N;have:=n.Dm;simp only[ay,cU]at N;omega
  refine(OJ C E F K A.box (n.st.Yo A.box) (λac r=>?_) n.st.lu.pow (by have:=n.qX.lt;have:=n.nx;have:=n.mJ;omega) (by have:=n.Dm;omega) n.st.aN n.st.rV (by have:=n.eM;have:=n.mJ;omega) ad<|λan hx=>?_).mono ?_
  .rcases am.1 r with r|r
   .rcases am.1 r with r|r
    .rcases am.1 r with r|r
     .exact Ab<|n.st.l0.each ac r
     .exact Ab<|n.st.l1.each ac r
    .exact Ab<|n.st.l2.each ac r
   .exact Ab<|n.st.l3.each ac r
  .have N:an∈(vw K1.files).map (·.1):=by simpa[vw]using hx
   obtain⟨bs,X⟩:=rF N;rcases n.qX.names an bs X with Q|⟨Q,_⟩|al
   .exact .inl Q
   .exact .inr<|.inl Q
   .exact .inr<|.inr al
  .rintro Q v⟨rfl,x,O,ef,al⟩;have N:gw W v bh.aN (z (G a)+2) K1 x:=gw.of O;have S:bL v (z (G a)+2) bh 0:=(O.aw.block _ (ak A.box) n.st.rV).trans A.box;exact⟨rfl,⟨bh,x,C,E,F,K,A.step S (n.fq (ak A.box) N ef (by omega) rfl n.loose) A.wI ⟨rfl,ec,em,et,eg⟩ N⟩,A.kept N w⟩
 rintro W⟨bh,K1,C,E,F,K,A⟩;have n:=A.inv;obtain⟨es,ec,em,et,eg⟩:=A.same;subst es;apply(Nb [] A.box n hN).mono;rintro Q v⟨rfl,s',x,m',a2,b2,c2,d2,al,ad,N⟩;obtain⟨g1,g2,g3,g4,g5,g6⟩:=N.same;have X:=N.BH;exact⟨rfl,⟨s',x,m',a2,b2,c2,d2,al,ad,A.step N.box N.inv (λq=>by rw[X];exact(N.wI _ (.inr rfl) q).trans<|A.wI q) ⟨g1,g2.trans ec,g3.trans em,g4.trans et,g5.trans eg.1,g6.trans eg.2⟩ N.fq⟩,A.kept N.fq w⟩
abbrev LC:=iH×WD
abbrev PB:=Option M×aa
theorem mj.aw{S:fJ}{al w':I}{o:M}{n:Option M}{l:iH}{e:Bool}{sv:aa}(X:mj al o n l e sv)(p:Y S al w')(h1:¬S o)(h2:∀ac,n=H ac->¬S ac):mj w' o n l e sv:=by
 obtain⟨⟨v,E,hp,q⟩,k,h⟩:=X;exact⟨⟨v,(p.block o (ak E) h1).trans E,p.row hp<|λad X=>⟨h2 ad<|q▸X,h ad<|q▸X⟩,q⟩,k,λac hg=>ag (h ac hg) p.size⟩
def JH(n:PB)(r:cr oP)(k:M):Prop:=n.1=H k\/bV n.2=H k\/∃x∈r,x.live=bW/\bV x.v=H k
structure BM(n0:M)(W:I)(o:M)(n:PB)(l:LC)(i:Bool)(r:cr oP):Prop where
 ref:mj W o n.1 l.1 i n.2
 Fy:Mw W n.2 r
 own:W.ownsRow n0 118 2 n.2 (y r) (FB r)
 kind:zD W n.2
 abs:r.map oP.abs=l.2
 len:∀x∈r,y x.l<=1000000
 sep:∀k,bV n.2=H k->k≠o/\n.1≠H k/\∀x∈r,x.live=bW->bV x.v≠H k
section
variable{n0 o:M}{W W':I}{n:PB}{l:LC}{i B:Bool}{r:cr oP}{S:fJ}
theorem BM.re{p':Option M}{l':iH}(p:BM n0 W o n l i r)(E:Y S W W')(hr:mj W' o p' l' B n.2)(X:∀k,(bV n.2=H k\/∃x∈r,x.live=bW/\bV x.v=H k)->¬S k)(hp:p'=n.1\/∀ac,p'=H ac->z (G W)<=ac):BM n0 W' o (p',n.2) (l',l.2) B r where
 ref:=hr
 Fy:=⟨E.row p.Fy.row<|λk h=>⟨X k<|.inl h,(p.own.lt k h).2⟩,λx hx hl=>⟨E.row (p.Fy.each x hx hl).1<|λk h=>⟨X k<|.inr ⟨x,hx,hl,h⟩,(p.Fy.each x hx hl).2 k h⟩,λac hg=>ag ((p.Fy.each x hx hl).2 ac hg) E.size⟩,p.Fy.shape,p.Fy.small⟩
 own:=E.own p.own<|λk h=>X k<|.inl h
 kind:=p.kind.aw E (λk h=>X k<|.inl h)<|λk h=>(p.own.lt k h).2
 abs:=p.abs
 len:=p.len
 sep:=λk h=>⟨(p.sep k h).1,λE=>hp.elim (λq=>(p.sep k h).2.1<|q▸E) (λq=>by have:=q k E;have:=(p.own.lt k h).2;omega),(p.sep k h).2.2⟩
theorem BM.aw(ac:BM n0 W o n l i r)(k:Y S W W')(E:¬S o)(h:∀p,JH n r p->¬S p):BM n0 W' o n l i r:=ac.re k (ac.ref.aw k E<|λad X=>h ad<|.inl X) (λp q=>h p<|.inr q)<|.inl rfl
theorem BM.lt(h:BM n0 W o n l i r)(k:M)(p:JH n r k):k<z (G W):=by
 rcases p with q|q|⟨x,X,E,q⟩;exact h.ref.lt k q;exact(h.own.lt k q).2;exact(h.Fy.each x X E).2 k q
end
def Stood(W:I)(db sbqq:M)(s:SR)(K:DK)(m:cA)(a b c d:cP)(C tbqq N:M)(lsqq:dW)(sn:fS):Bool->Prop
 |true=>s.closed=bW/\∃p k h,wN W db K a b c d C tbqq N p k h lsqq
 |false=>s.closed=bF/\s.aN=db/\Inv W sbqq s K m a b c d C tbqq N lsqq sn
theorem Inv.laid{p:I}{sbqq:M}{s:SR}{K:DK}{m:cA}{a b c d:cP}{C tbqq N:M}{lsqq:dW}{sn:fS}(h:Inv p sbqq s K m a b c d C tbqq N lsqq sn):wN p s.aN K a b c d C tbqq N s.next s.log s.gB lsqq where
 aN:=h.st.aN
 qX:=h.qX
 pr:=h.pr
 lp:=h.lp
 qI:=by
  have k:y (ke s.bC m)<=y m:=aE (zw _ _).length_le<|fh _ _;rw[h.mem]at k;have:=h.st.qI;omega
 mJ:=h.st.mJ
 s1:=h.st.s1
 s2:=h.st.s2
 s3:=h.st.s3
 TX:=h.TX
 nx:=h.nx
 bn:=by rw[<-h.BH];exact h.bn
 eM:=h.eM
 JW:=h.mJ
 steps:=h.st.lu.steps
 pow:=h.st.lu.pow
 fC:=h.st.lu.fC.bj
 me:=h.st.lu.me.bj
theorem Stood.aN{W:I}{db sbqq:M}{s:SR}{K:DK}{m:cA}{a b c d:cP}{C tbqq N:M}{lsqq:dW}{sn:fS}{e:Bool}(h:Stood W db sbqq s K m a b c d C tbqq N lsqq sn e):cK W db K:=by
 cases e with
 |true=>obtain⟨_,_,_,_,h⟩:=h;exact h.aN
 |false=>obtain⟨_,rfl,h⟩:=h;exact h.st.aN
theorem wN.again{al w':I}{db p:M}{K P:DK}{a b c d:cP}{C tbqq N nx lg:M}{k:Bool}{lsqq:dW}(h:wN al db K a b c d C tbqq N nx lg k lsqq)(hd:cK w' p P)(X:∀ac,dX (vw P.files) ac=dX (vw K.files) ac)(hm:y P.eM<=y K.eM)(hs:Steps w')(hp:Pow w')(h1:¬P.bj p 1)(h2:¬P.bj p 2):wN w' p P a b c d C tbqq N nx lg k lsqq:={h with
 aN:=hd
 qX:=by
  have E:=h.qX;exact⟨λac bs q=>E.names ac bs (by rw[<-X];exact q),by rw[X];exact E.state,λq=>by rw[X];exact E.log q,E.GJ,λad ht=>by rw[X];exact E.zc ad ht,E.zn,E.low,E.lt,E.jc⟩
 eM:=aE hm h.eM
 steps:=hs
 pow:=hp
 fC:=h1
 me:=h2}
structure Ft(W:I)(K:DK)(db sb:M)(s:SR)(k:M):Prop extends Aside W K db sb k where
 pV:s.lT≠H k
structure WH(W W':I)(db sb:M)(s:SR)(K P:DK):Prop where
 ok:cK W' db P
 aw:Y (λk=>(K.bj db k\/k=sb)\/s.lT=H k) W W'
 bj:∀k,P.bj db k->K.bj db k\/z (G W)<=k
def Yk(W:I)(x:M):Prop:=∃h ac X,W.heap[x]?=H (ar h ac X)/\ac≠293/\((∀an,Value.string an∉h.toList)\/∀ad al,Value.int ad al∉h.toList)/\∀q,Value.pointer (H<|R q 0)∈h.toList->∃k E p,W.heap[q]?=H (ar k E p)/\E≠293
def PM(s:SR)(m:cA)(a b c d:cP)(w:Zs)(h:WD):Prop:=tQ w=h/\s.gZ=y w/\∀x,H x∈w->vt ((m::cF a b c d).map<|ke (x.1:Z)) x.2
structure LW(u W:I)(t db sb o:M)(n:PB)(mem wH:Z)(j g:aa)(lo:iH)(O:cr (M×Obj))(s:SR)(K:DK)(m:cA)(a b c d:cP)(C tb N:M)(ls:dW)(w:Zs)(r:cr oP)(A:LC)(closed:Bool)(l:LC)(i:Bool):Prop where
 box:W.heap[t]?=H (ar #[aA db,aA sb,aA o,ap mem,ap wH,j,g] 40 (0,0))
 ref:BM (z<|G u) W o n l i r
 tN:bL W sb s 0
 vu:Stood W db sb s K m a b c d C tb N ls (iN 1 w) closed
 yG:vt (gJ [] ls.flatten::(cF a b c d).map (ke ((tb+y ls:M):Z))) A.1
 pV:closed=bF->PM s m a b c d w A.2
 num:y w<=N/\y l.2<=N
 len:y A.1<=C
 mJ:C<=1000000
 Bi:jQ W j lo
 uN:jQ W g lo
 VW:y lo<=1000000
 aw:Y aB u W
 low:(∀k,K.bj db k->z (G u)<=k)/\z (G u)<=sb/\z (G u)<=o/\z (G u)<=t
 zu:∀k,s.lT=H k->z (G u)<=k/\k<z (G W)
 rV:¬K.bj db sb
 CU:Ft W K db sb s t
 GA:Ft W K db sb s o
 yD:∀k,JH n r k->Ft W K db sb s k/\k≠t/\k≠o
 nY:∀k,bV j=H k->Ft W K db sb s k/\k≠t/\k≠o/\bV n.2≠H k
 kM:∀k,bV g=H k->Ft W K db sb s k/\k≠t/\k≠o/\bV n.2≠H k
 obj:∀p∈O,W.heap[p.1]?=H p.2/\Ft W K db sb s p.1/\p.1≠t/\p.1≠o/\¬JH n r p.1
 ne:t≠o
 g0:Steps u/\Pow u/\pD u
section
variable{u W W':I}{t db sbqq o x:M}{n Q:PB}{mem f T V:Z}{j g L F:aa}{lo lo':iH}{O:cr (M×Obj)}{s s':SR}{K P:DK}{m m':cA}{a b c d a' b' c' d':cP}{C C' tbqq tb' N N':M}{lsqq ls':dW}{w zs':Zs}{r ss':cr oP}{l l' A lc':LC}{i B e D:Bool}
theorem gw.dm(h:gw W W' db sbqq K P):WH W W' db sbqq s K P:=⟨h.ok,h.aw.mono<|λ_ q=>.inl<|.inl q,h.bj⟩
theorem Aside.grow{p:M}(h:Aside W K db sbqq p)(k:z (G W)<=z (G W')):Aside W' K db sbqq p:=⟨ag h.lt k,h.bj,h.ne⟩
theorem Ft.grow{p:M}(k:Ft W K db sbqq s p)(h:z (G W)<=z (G W')):Ft W' K db sbqq s p:=⟨k.toAside.grow h,k.pV⟩
theorem Ft.Ow{k:M}(h:Ft W K db sbqq s k)(p:WH W W' db sbqq s K P)(q:∀k,s'.lT=H k->s.lT=H k):Ft W' P db sbqq s' k:=⟨⟨ag h.lt p.aw.size,λc=>(p.bj k c).elim h.bj (λd=>by have:=h.lt;omega),h.ne⟩,λE=>h.pV<|q k E⟩
theorem Ft.off{k:M}(h:Ft W K db sbqq s k)(c:(K.bj db k\/k=sbqq)\/s.lT=H k):False:=c.elim (λc=>c.elim h.bj h.ne) h.pV
theorem Ft.block{k:M}(q:Ft W K db sbqq s k)(h:WH W W' db sbqq s K P):W'.heap[k]?=W.heap[k]?:=h.aw.block k q.lt q.off
theorem LW.CQ(h:LW u W t db sbqq o n mem f j g lo O s K m a b c d C tbqq N lsqq w r A e l i):pD W:=h.g0.2.2.aw h.aw id
theorem LW.YK(h:LW u W t db sbqq o n mem f j g lo O s K m a b c d C tbqq N lsqq w r A e l i):0≠sbqq/\¬K.bj db 0:=by
 have k:0<z (G u):=cY _ _ h.g0.2.2;exact⟨by have:=h.low.2.1;omega,λc=>by have:=h.low.1 _ c;omega⟩
theorem LW.Ow(h:LW u W t db sbqq o n mem f j g lo O s K m a b c d C tbqq N lsqq w r A e l i)(E:WH W W' db sbqq s K P)(k:∀X,s'.lT=H X->s.lT=H X)(hb:bL W' sbqq s' 0)(hs:Stood W' db sbqq s' P m' a' b' c' d' C' tb' N' ls' (iN 1 zs') D)(hc:vt (gJ [] ls'.flatten::(cF a' b' c' d').map (ke ((tb'+y ls':M):Z))) lc'.1)(ad:D=bF->PM s' m' a' b' c' d' zs' lc'.2)(hN:y zs'<=N'/\N<=N')(hC:y lc'.1<=C')(ac:C'<=1000000):LW u W' t db sbqq o n mem f j g lo O s' P m' a' b' c' d' C' tb' N' ls' zs' r lc' D l i where
 box:=(h.CU.block E).trans h.box
 ref:=h.ref.aw E.aw h.GA.off<|λX p=>(h.yD X p).1.off
 tN:=hb
 vu:=hs
 yG:=hc
 pV:=ad
 num:=⟨hN.1,aE h.num.2 hN.2⟩
 len:=hC
 mJ:=ac
 Bi:=E.aw.row h.Bi<|λX p=>⟨(h.nY X p).1.off,(h.nY X p).1.lt⟩
 uN:=E.aw.row h.uN<|λX p=>⟨(h.kM X p).1.off,(h.kM X p).1.lt⟩
 VW:=h.VW
 aw:=h.aw.trans E.aw<|λX q=>.inr<|q.elim (λq=>q.elim (h.low.1 X) (λk=>by have:=h.low.2.1;omega))<|λk=>(h.zu X k).1
 low:=⟨λX q=>(E.bj X q).elim (h.low.1 X)<|λal=>aE h.aw.size al,h.low.2⟩
 zu:=λX q=>⟨(h.zu X<|k X q).1,ag (h.zu X<|k X q).2 E.aw.size⟩
 rV:=λq=>(E.bj sbqq q).elim h.rV (λal=>by have:=ak h.tN;omega)
 CU:=h.CU.Ow E k
 GA:=h.GA.Ow E k
 yD:=λX p=>⟨(h.yD X p).1.Ow E k,(h.yD X p).2⟩
 nY:=λX p=>⟨(h.nY X p).1.Ow E k,(h.nY X p).2⟩
 kM:=λX p=>⟨(h.kM X p).1.Ow E k,(h.kM X p).2⟩
 obj:=λac X=>⟨((h.obj ac X).2.1.block E).trans (h.obj ac X).1,(h.obj ac X).2.1.Ow E k,(h.obj ac X).2.2⟩
 ne:=h.ne
 g0:=h.g0
end
theorem Gw{S:fJ}{ao w':I}{h bb:M}{v:aa}{p:iU}(ht:Y S ao w')(hr:Row ao h v bb p)(hl:∀ba,bV v=H ba->ba<z (G ao))(ad:0<y p->∀x,S x->∃X bc fr,ao.heap[x]?=H (ar X bc fr)/\∃(av:M)(an:aa),p[av]?=H an/\an∉X.toList):Row w' h v bb p:=by
 obtain⟨q1,⟨q,q0⟩|⟨al,k,E,q,ac,hc⟩⟩:=hr;exact⟨q1,.inl ⟨q,q0⟩⟩;refine⟨q1,.inr ⟨al,k,E,q,ac,λax an hj=>?_⟩⟩;(have hg:¬S al:=by intro hs;(have au:ax<y p:=by rcases dF ax (y p)with c|c;exact c;rw[dl c]at hj;cases hj);obtain⟨X,bc,fr,hx,av,u',hi,hu⟩:=ad (by omega) al hs;have:=hc av u' hi;rw[bN hx]at this;exact hu<|by simpa using mT this);exact ht.cell (hc ax an hj) hg<|hl al (by rw[q];rfl)
theorem Sd{m:cA}{k:Array aa}(h:(∀p,Value.string p∉k.toList)\/∀ad al,Value.int ad al∉k.toList)(q:0<y (aF m)):∃(ac:M)(p:aa),(aF m)[ac]?=H p/\p∉k.toList:=by
 rcases m with _|⟨X,m⟩;simp[aF]at q;rcases h with h|h;exact⟨0,ai X.key,by simp[aF,E.cells],h _⟩;exact⟨3,aH X.bI,by simp[aF,E.cells],h _ _⟩
theorem QL{ts:cP}{h:Array aa}(q:∀k∈ts,k.ptr∉h.toList)(p:0<y (ts.map bJ.ptr)):∃(X:M)(E:aa),(ts.map bJ.ptr)[X]?=H E/\E∉h.toList:=by
 rcases ts with _|⟨k,ts⟩;simp at p;exact⟨0,k.ptr,by simp,q k<|by simp⟩
theorem MR{S:fJ}{au w':I}{tbqq:M}{dv:aa}{k cut p an:Z}{bb X h:M}{ac:aa}{q:mw}(ao:lR au tbqq dv k cut p an bb X h ac q)(ht:Y S au w')(hS:∀x,S x->Yk au x):lR w' tbqq dv k cut p an bb X h ac q:=by
 have ad:¬S tbqq:=λE=>by obtain⟨cs,ax,fr,hx,h1,_⟩:=hS tbqq E;exact io ao.box hx (λq=>h1 q.symm) rfl
 have hk:=ao.ne;have h3:(ep q)[3]?=H (ai (q[0]'hk).first):=by rcases q with _|⟨av,q⟩;simp at hk;simp[ep,qR.cells]
 have al:¬S bb:=λE=>by obtain⟨cs,ax,fr,hx,_,E,_⟩:=hS bb E;(have h0:(ep q)[0]?=H (ap (q[0]'hk).pos):=by rcases q with _|⟨av,q⟩;simp at hk;simp[ep,qR.cells]);rcases E with E|E;have:=ao.cells 3 _ h3;rw[bN hx]at this;exact E _ (by simpa using mT this);have:=ao.cells 0 _ h0;rw[bN hx]at this;exact E _ _<|by simpa using mT this
 exact ao.de (ht.block tbqq (ak ao.box) ad)<|ht.block bb (cY _ _<|ao.cells 3 _ h3) al
section
variable{u W W':I}{t db sbqq o x:M}{n Q:PB}{mem f T V:Z}{j g L F:aa}{lo lo':iH}{O:cr (M×Obj)}{s s':SR}{K P:DK}{m m':cA}{a b c d a' b' c' d':cP}{C C' tbqq tb' N N':M}{lsqq ls':dW}{w zs':Zs}{r ss':cr oP}{l l' A lc':LC}{i B e D:Bool}{S:fJ}{v:aa}{ts:cP}{sn:fS}
theorem Hz.rJ(ad:Hz W K db sbqq v ts)(q:Y S W W')(hS:∀x,S x->Yk W x):Hz W' K db sbqq v ts where
 row:=Gw q ad.row (λao E=>(ad.loc ao E).lt) (λhj x hs=>by
  obtain⟨cs,au,fr,hx,_,_,hp⟩:=hS x hs;exact⟨cs,au,fr,hx,QL (λt0 p c=>by
   obtain⟨bb,k,h,X,_⟩:=(ad.each t0 p).mem;obtain⟨al,t',an,hq,ac⟩:=hp _ c;exact io X.box hq (λh=>ac h.symm) rfl) hj⟩)
 loc:=λao E=>(ad.loc ao E).grow q.size
 each:=λt0 p=>by
  obtain⟨⟨bb,k,h,X,hA⟩,q2,q3,q4,q5,q6,q7,q8⟩:=ad.each t0 p;exact⟨⟨bb,k,h,MR X q hS,hA.grow q.size⟩,q2.grow q.size,q3,q4,q5,q6,q7,q8⟩
theorem Inv.rJ(h:Inv W sbqq s K m a b c d C tbqq N lsqq sn)(k:Y S W W')(hA:∀x,S x->Aside W K s.aN sbqq x)(p:∀x,S x->Yk W x)(hg:¬S 1/\¬S 2):Inv W' sbqq s K m a b c d C tbqq N lsqq sn:={h with
 st:={h.st with
  mem:=Gw k h.st.mem (λX q=>(h.st.sV X q).lt) (λhj x hs=>by
   obtain⟨cs,ad,fr,E,_,q,_⟩:=p x hs;exact⟨cs,ad,fr,E,Sd q hj⟩)
  sV:=λX q=>(h.st.sV X q).grow k.size
  l0:=h.st.l0.rJ k p
  l1:=h.st.l1.rJ k p
  l2:=h.st.l2.rJ k p
  l3:=h.st.l3.rJ k p
  aN:=h.st.aN.aw k<|λX c ac=>(hA X ac).bj c
  lu:=⟨Steps.aw h.st.lu.steps k hg.1,h.st.lu.pow.aw k hg.2,h.st.lu.fC.grow k.size,h.st.lu.me.grow k.size⟩}
 pV:=by
  obtain⟨b,h1,X,h3⟩:=h.pV.ex;refine⟨⟨b,h1,X.de (k.block b X.lt (λac=>?_)),h3.grow k.size⟩,h.pV.len⟩;obtain⟨cs,ad,fr,E,_⟩:=p b ac;obtain⟨es,q,hh,_⟩:=X;rw[hh]at E;cases E}
theorem Stood.rJ(ac:Stood W db sbqq s K m a b c d C tbqq N lsqq sn e)(k:Y S W W')(E:∀x,S x->Aside W K db sbqq x)(X:∀x,S x->Yk W x)(p:¬S 1/\¬S 2):Stood W' db sbqq s K m a b c d C tbqq N lsqq sn e:=by
 cases e with
 |true=>
  obtain⟨q,nx,lg,h,hL⟩:=ac;exact⟨q,nx,lg,h,{hL with aN:=hL.aN.aw k<|λX c q=>(E X q).bj c,steps:=Steps.aw hL.steps k p.1,pow:=hL.pow.aw k p.2}⟩
 |false=>
  obtain⟨q,rfl,h⟩:=ac;exact⟨q,rfl,h.rJ k E X p⟩
theorem LW.still(h:LW u W t db sbqq o n mem f j g lo O s K m a b c d C tbqq N lsqq w r A e l i)(k:Y aB W W'):LW u W' t db sbqq o n mem f j g lo O s K m a b c d C tbqq N lsqq w r A e l i:=by
 have X:=h.vu.aN;have p:gw W W' db sbqq K K:=qN X k;have E:bL W' sbqq s 0:=(k.block sbqq (ak h.tN) id).trans h.tN;exact h.Ow p.dm (λ_ q=>q) E (h.vu.rJ k cG cG ⟨id,id⟩) h.yG h.pV ⟨h.num.1,ah _⟩ h.len h.mJ
theorem LW.lu(k:LW u W t db sbqq o n mem f j g lo O s K m a b c d C tbqq N lsqq w r A e l i)(h:∀x,S x->z (G u)<=x):¬S 1/\¬S 2:=by
 have p:=k.g0.1.lt;have E:=k.g0.2.1.lt;exact⟨λq=>by have:=h _ q;omega,λq=>by have:=h _ q;omega⟩
theorem BM.YU{n0:M}(ad:BM n0 W o n l i r)(p:x=o\/bV n.2=H x):Yk W x:=by
 rcases p with rfl|p;obtain⟨⟨v,hh,hp,hv⟩,_,_⟩:=ad.ref;have k:=hp.shape;obtain⟨sx,sc,ac⟩:=aC ad.own;rw[ac]at hh;refine⟨_,_,_,hh,by decide,.inl λal q=>?_,λq X=>?_⟩;rcases k with rfl|⟨h,o0,E,rfl⟩<;>simp at q;rcases k with rfl|⟨h,o0,E,rfl⟩<;>simp at X;obtain⟨ac,hc⟩:=fD ad.own p;have hk:=ad.kind _ _ _ _ p hc;refine⟨_,_,_,hc,by decide,.inl λal q=>?_,λq X=>?_⟩;rcases hk _ q with⟨h,k⟩|⟨a0,h,E,k⟩<;>cases k;rcases hk _ X with⟨h,k⟩|⟨a0,h,E,k⟩<;>cases k
theorem LW.refs(h:LW u W t db sbqq o n mem f j g lo O s K m a b c d C tbqq N lsqq w r A e l i)(E:Y (λk=>k=o\/bV n.2=H k) W W')(hr:BM (z<|G u) W' o Q l' B ss')(hB:∀k,JH Q ss' k->JH n r k\/z (G W)<=k)(hV:∀k,bV Q.2=H k->bV n.2=H k\/z (G W)<=k)(hN:y l'.2<=N):LW u W' t db sbqq o Q mem f j g lo O s K m a b c d C tbqq N lsqq w ss' A e l' B:=by
 have an:=h.CU.lt;have av:=h.GA.lt;have al:=ak h.tN;have ac:∀k,bV n.2=H k->JH n r k:=λk q=>.inr<|.inl q;have X:∀k,(k=o\/bV n.2=H k)->Ft W K db sbqq s k/\k≠t/\z (G u)<=k:=λk q=>by rcases q with rfl|q;exact⟨h.GA,λau=>h.ne au.symm,h.low.2.2.1⟩;exact⟨(h.yD k<|ac k q).1,(h.yD k<|ac k q).2.1,(h.ref.own.lt k q).1⟩
 have ad:∀k,k<z (G W)->bV n.2≠H k->bV Q.2≠H k:=λk p h au=>(hV k au).elim h (λq=>by omega);refine⟨(E.block t an<|λq=>(X t q).2.1 rfl).trans h.box,hr,(E.block sbqq al<|λq=>(X sbqq q).1.ne rfl).trans h.tN,h.vu.rJ E (λk q=>(X k q).1.toAside) (λk q=>h.ref.YU q)<|h.lu<|λk q=>(X k q).2.2,h.yG,h.pV,⟨h.num.1,hN⟩,h.len,h.mJ,E.row h.Bi<|λk p=>⟨λq=>q.elim (h.nY k p).2.2.1 (h.nY k p).2.2.2,(h.nY k p).1.lt⟩,E.row h.uN<|λk p=>⟨λq=>q.elim (h.kM k p).2.2.1 (h.kM k p).2.2.2,(h.kM k p).1.lt⟩,h.VW,h.aw.trans E<|λk q=>.inr (X k q).2.2,h.low,λk q=>⟨(h.zu k q).1,ag (h.zu k q).2 E.size⟩,h.rV,h.CU.grow E.size,h.GA.grow E.size,λk p=>?_,λk p=>⟨(h.nY k p).1.grow E.size,(h.nY k p).2.1,(h.nY k p).2.2.1,ad k (h.nY k p).1.lt (h.nY k p).2.2.2⟩,λk p=>⟨(h.kM k p).1.grow E.size,(h.kM k p).2.1,(h.kM k p).2.2.1,ad k (h.kM k p).1.lt (h.kM k p).2.2.2⟩,λax hp=>?_,h.ne,h.g0⟩;rcases hB k p with q|q;exact⟨(h.yD k q).1.grow E.size,(h.yD k q).2⟩;exact⟨⟨⟨hr.lt k p,λc=>by have:=h.vu.aN.lt k c;omega,by omega⟩,λau=>by have:=(h.zu k au).2;omega⟩,by omega,by omega⟩;obtain⟨q1,q2,q3,q4,q5⟩:=h.obj ax hp;have ao:=q2.lt;exact⟨(E.block _ ao<|λq=>q.elim q4<|λq=>q5<|ac _ q).trans q1,q2.grow E.size,q3,q4,λq=>(hB _ q).elim q5<|λq=>by omega⟩
theorem LW.KE{k:Option M}{X:iH}(ac:LW u W t db sbqq o n mem f j g lo O s K m a b c d C tbqq N lsqq w r A e l i)(hg:W.grownBy W' (H o))(hr:mj W' o k X B n.2)(h:k=n.1\/∀al,k=H al->z (G W)<=al):LW u W' t db sbqq o (k,n.2) mem f j g lo O s K m a b c d C tbqq N lsqq w r A e (X,l.2) B:=by
 have E:Y (λp=>p=o) W W':=fg hg;refine ac.refs (E.mono<|λ_ q=>.inl<|.inl q) (ac.ref.re E hr (λp q=>(ac.yD p<|.inr q).2.2) h) (λp q=>?_) (λp q=>.inl q) ac.num.2;rcases q with q|q;rcases h with ad|ad;exact .inl<|.inl<|ad▸q;exact .inr<|ad p q;exact .inl<|.inr q
theorem LW.YN(h:LW u W t db sbqq o n mem f j g lo O s K m a b c d C tbqq N lsqq w r A e l i)(p:Y (λk=>k=t) W W')(hb:W'.heap[t]?=H (ar #[aA db,aA sbqq,aA o,ap T,ap V,L,F] 40 (0,0)))(ho:jQ W' L lo')(hw:jQ W' F lo')(al:y lo'<=1000000)(an:∀k,bV L=H k->Ft W' K db sbqq s k/\k≠t/\k≠o/\bV n.2≠H k)(ax:∀k,bV F=H k->Ft W' K db sbqq s k/\k≠t/\k≠o/\bV n.2≠H k):LW u W' t db sbqq o n T V L F lo' O s K m a b c d C tbqq N lsqq w r A e l i:=by
 have ac:=ak h.tN;refine⟨hb,h.ref.aw p (λE=>h.ne E.symm)<|λbb hg E=>(h.yD bb hg).2.1 E,(p.block sbqq ac<|λE=>h.CU.ne E.symm).trans h.tN,?_,h.yG,h.pV,h.num,h.len,h.mJ,ho,hw,al,h.aw.trans p<|λk E=>.inr (by have:=h.low.2.2.2;have:k=t:=E;omega),h.low,λk q=>⟨(h.zu k q).1,ag (h.zu k q).2 p.size⟩,h.rV,h.CU.grow p.size,h.GA.grow p.size,λk hk=>⟨(h.yD k hk).1.grow p.size,(h.yD k hk).2⟩,an,ax,λba X=>⟨(p.block _ (h.obj ba X).2.1.lt (h.obj ba X).2.2.1).trans (h.obj ba X).1,(h.obj ba X).2.1.grow p.size,(h.obj ba X).2.2⟩,h.ne,h.g0⟩;have s1:=h.Bi.shape;have s2:=h.uN.shape;have au:=h.ref.ref;obtain⟨⟨v,hh,_,_⟩,_,_⟩:=au;have ad:=h.vu.aN.iG;have av:=h.tN;refine h.vu.rJ p (λk E=>by have e':k=t:=E;rw[e'];exact h.CU.toAside) (λk E=>?_)<|h.lu (λk E=>by have:=h.low.2.2.2;have:k=t:=E;omega);have e':k=t:=E;subst e';refine⟨_,_,_,h.box,by decide,.inl λbc q=>?_,λq hq=>?_⟩;rcases s1 with rfl|⟨b0,o0,c0,rfl⟩<;>rcases s2 with rfl|⟨b1,o1,c1,rfl⟩<;>simp at q;(have ao:q=db\/q=sbqq\/q=o:=by rcases s1 with rfl|⟨b0,o0,c0,rfl⟩<;>rcases s2 with rfl|⟨b1,o1,c1,rfl⟩<;>simpa using hq);rcases ao with rfl|rfl|rfl;exact⟨_,_,_,ad,by decide⟩;exact⟨_,_,_,av,by decide⟩;exact⟨_,_,_,hh,by decide⟩
end
def jR(u W:I)(t db sbqq o:M)(n:PB)(mem f:Z)(j g:aa)(lo:iH)(O:cr (M×Obj))(C N:M)(A:LC)(e:Bool)(l:LC)(i:Bool):Prop:=∃s K m a b c d tbqq lsqq w r,LW u W t db sbqq o n mem f j g lo O s K m a b c d C tbqq N lsqq w r A e l i
section
variable{u W W':I}{t db sbqq o x:M}{n Q:PB}{mem f T V:Z}{j g L F:aa}{lo lo':iH}{O:cr (M×Obj)}{C C' N N':M}{l l' A lc':LC}{i B e:Bool}
theorem jR.still(h:jR u W t db sbqq o n mem f j g lo O C N A e l i)(k:Y aB W W'):jR u W' t db sbqq o n mem f j g lo O C N A e l i:=by
 obtain⟨s,K,m,a,b,c,d,tbqq,lsqq,w,r,h⟩:=h;exact⟨s,K,m,a,b,c,d,tbqq,lsqq,w,r,h.still k⟩
theorem jR.KE{h:Option M}{p:iH}(q:jR u W t db sbqq o n mem f j g lo O C N A e l i)(E:W.grownBy W' (H o))(X:mj W' o h p B n.2)(k:h=n.1\/∀ac,h=H ac->z (G W)<=ac):jR u W' t db sbqq o (h,n.2) mem f j g lo O C N A e (p,l.2) B:=by
 obtain⟨s,K,m,a,b,c,d,tbqq,lsqq,w,r,q⟩:=q;exact⟨s,K,m,a,b,c,d,tbqq,lsqq,w,r,q.KE E X k⟩
theorem jR.box(h:jR u W t db sbqq o n mem f j g lo O C N A e l i):W.heap[t]?=H (ar #[aA db,aA sbqq,aA o,ap mem,ap f,j,g] 40 (0,0)):=by
 obtain⟨s,K,m,a,b,c,d,tbqq,lsqq,w,r,h⟩:=h;exact h.box
theorem jR.obj(h:jR u W t db sbqq o n mem f j g lo O C N A e l i){p:M×Obj}(k:p∈O):W.heap[p.1]?=H p.2:=by
 obtain⟨s,K,m,a,b,c,d,tbqq,lsqq,w,r,h⟩:=h;exact(h.obj p k).1
theorem jR.add(h:jR u W t db sbqq o n mem f j g lo O C N A e l i)(X:Y aB W W'){k:M}{ac:Obj}(hk:z (G W)<=k)(E:W'.heap[k]?=H ac):jR u W' t db sbqq o n mem f j g lo ((k,ac)::O) C N A e l i:=by
 obtain⟨s,K,m,a,b,c,d,tbqq,lsqq,w,r,h⟩:=h;have h':=h.still X;refine⟨s,K,m,a,b,c,d,tbqq,lsqq,w,r,{h' with obj:=λad p=>?_}⟩;rcases az.1 p with rfl|p;have h1:=h.CU.lt;have h2:=h.GA.lt;have h3:=ak h.tN;exact⟨E,⟨⟨ak E,λq=>by have:=h.vu.aN.lt k q;omega,by show k≠sbqq;omega⟩,λq=>by have:=(h.zu k q).2;omega⟩,by show k≠t;omega,by show k≠o;omega,λq=>by have:=h.ref.lt k q;omega⟩;exact h'.obj ad p
theorem jR.drop{O':cr (M×Obj)}(h:jR u W t db sbqq o n mem f j g lo O C N A e l i)(q:∀p∈O',p∈O):jR u W t db sbqq o n mem f j g lo O' C N A e l i:=by
 obtain⟨s,K,m,a,b,c,d,tbqq,lsqq,w,r,h⟩:=h;exact⟨s,K,m,a,b,c,d,tbqq,lsqq,w,r,{h with obj:=λp k=>h.obj p (q p k)}⟩
theorem jR.ref(h:jR u W t db sbqq o n mem f j g lo O C N A e l i):mj W o n.1 l.1 i n.2:=by
 obtain⟨s,K,m,a,b,c,d,tbqq,lsqq,w,r,h⟩:=h;exact h.ref.ref
theorem jR.CQ(h:jR u W t db sbqq o n mem f j g lo O C N A e l i):pD W:=by
 obtain⟨s,K,m,a,b,c,d,tbqq,lsqq,w,r,h⟩:=h;exact h.CQ
theorem jR.aw(h:jR u W t db sbqq o n mem f j g lo O C N A e l i):Y aB u W:=by
 obtain⟨s,K,m,a,b,c,d,tbqq,lsqq,w,r,h⟩:=h;exact h.aw
theorem jR.Vw(h:jR u W t db sbqq o n mem f j g lo O C N A e l i){ac:M}{cs:Array aa}{fr:M×M}(hk:z (G u)<=ac)(hm:∃ao,(ac,ao)∈O)(hx:W.heap[ac]?=H (ar cs 42 fr))(hi:∀q av,Value.int q av∉cs.toList)(hq:∀q,Value.pointer q∉cs.toList)(h2:bV j≠H ac)(h3:bV g≠H ac)(k:Y (λE=>E=ac) W W'){O':cr (M×Obj)}(hO:∀an∈O',an∈O/\an.1≠ac):jR u W' t db sbqq o n mem f j g lo O' C N A e l i:=by
 obtain⟨s,K,m,a,b,c,d,tbqq,lsqq,w,r,h⟩:=h;obtain⟨ao,hm⟩:=hm;obtain⟨_,hA,n1,n2,n3⟩:=h.obj (ac,ao) hm;have al:=ak h.tN;refine⟨s,K,m,a,b,c,d,tbqq,lsqq,w,r,(k.block t h.CU.lt<|λX=>n1 X.symm).trans h.box,h.ref.aw k (λX=>n2 X.symm)<|λau hg X=>n3 (by have e':au=ac:=X;rw[<-e'];exact hg),(k.block sbqq al<|λX=>hA.ne X.symm).trans h.tN,h.vu.rJ k (λE X=>by have e':E=ac:=X;rw[e'];exact hA.toAside) (λE X=>by have e':E=ac:=X;rw[e'];exact⟨_,_,_,hx,by decide,.inr hi,λq ad=>absurd ad<|hq _⟩)<|h.lu (λE X=>by have e':E=ac:=X;rw[e'];exact hk),h.yG,h.pV,h.num,h.len,h.mJ,k.row h.Bi<|λE p=>⟨λX=>h2<|X▸p,(h.nY E p).1.lt⟩,k.row h.uN<|λE p=>⟨λX=>h3<|X▸p,(h.kM E p).1.lt⟩,h.VW,h.aw.trans k<|λE X=>.inr (by have:E=ac:=X;omega),h.low,λac q=>⟨(h.zu ac q).1,ag (h.zu ac q).2 k.size⟩,h.rV,h.CU.grow k.size,h.GA.grow k.size,λE p=>⟨(h.yD E p).1.grow k.size,(h.yD E p).2⟩,λE p=>⟨(h.nY E p).1.grow k.size,(h.nY E p).2⟩,λE p=>⟨(h.kM E p).1.grow k.size,(h.kM E p).2⟩,λan hp=>?_,h.ne,h.g0⟩;obtain⟨q1,q2,q3⟩:=h.obj an (hO an hp).1;exact⟨(k.block _ q2.lt (hO an hp).2).trans q1,q2.grow k.size,q3⟩
theorem jR.mono(h:jR u W t db sbqq o n mem f j g lo O C N A e l i)(hC:C<=C')(q:C'<=1000000)(X:N<=N')(E:N'<=100000000):jR u W t db sbqq o n mem f j g lo O C' N' A e l i:=by
 obtain⟨s,K,m,a,b,c,d,tbqq,lsqq,w,r,h⟩:=h;have hs:=h.vu;have hm:1000001*N<=1000001*N':=Nat.mul_le_mul_left _ X;refine⟨s,K,m,a,b,c,d,tbqq,lsqq,w,r,{h with vu:=?_,num:=⟨aE h.num.1 X,aE h.num.2 X⟩,len:=aE h.len hC,mJ:=q}⟩;cases e with
 |true=>
  obtain⟨ac,nx,lg,k,hL⟩:=hs;exact⟨ac,nx,lg,k,{hL with qI:=by have:=hL.qI;omega,mJ:=q,nx:=by have:=hL.nx;omega,bn:=by have:=hL.bn;omega,eM:=by have:=hL.eM;omega,JW:=E}⟩
 |false=>
  obtain⟨ac,k,hI⟩:=hs;exact⟨ac,k,hI.mono hC q X E⟩
theorem jR.FN(h:jR u W t db sbqq o n mem f j g lo O C N A e l i):(∀k,n.1=H k->k<z (G W))/\(∀k,bV j=H k->k<z (G W))/\(∀k,bV g=H k->k<z (G W))/\o<z (G W)/\sbqq<z (G W)/\jQ W j lo/\jQ W g lo/\y lo<=1000000:=by
 obtain⟨s,K,m,a,b,c,d,tbqq,lsqq,w,r,h⟩:=h;exact⟨λk q=>(h.yD k<|.inl q).1.lt,λk q=>(h.nY k q).1.lt,λk q=>(h.kM k q).1.lt,h.GA.lt,ak h.tN,h.Bi,h.uN,h.VW⟩
end
