import Derived.Test.YtbgjhlkoccmfaaaGreatDoorC6
open _root_ renaming List.length→y,Option.some→M,Array.size→G,Go.World.heap→H,Go.Value.ownBlock→cN,Go.World.cell?→bA,Go.World.setCell→cP,Go.World.alloc→dw,Bool.false→bD,Bool.true→cz,Nat→R,Int→Y,List→cy,Go.Calls→cR,Go.undef→jn,Go.Proofs.Tryz.prog→bN,Go.Value.slice→am,Go.Value.string→aw,Go.Value.bool→aO,Go.Value.pointer→ee,Go.Value.tuple→de,Go.Value.agg→ef,Go.World.frozen?→iI,Go.World.ownsRow→fE,Go.Value.nilIface→ic,Go.Act.put→ii,Nat.reduceAdd→ke,Go.RowKit.Below→gD,Bool→eN,Option.none→dE,rfl→z,Or.inl→J,Or.inr→bu
namespace Go.Proofs.YtbgjhlkoccmfaaaGreatDoor
open ChangeShapes WideShapes RowKit Proofs.Tryz List
set_option maxHeartbeats 16000000
set_option linter.all false
set_option maxRecDepth 100000
variable{a e P:Z}{b c k n T:R}{d w:ae}{f x:DK}{i:dB}{l v C F:dI}{m:eD}{o:SR}{W:fC}{r:Y}{s:jv}{B:af}{K:Prop}{L:ld}{N:Fs}{O:iG}{Q:iF}{V:eN}
def Yb(h:∀t∈l,vQ t.ks t.cs)(a:(l.map cH.dq).Pairwise lJ):ma l:=by
 refine⟨h,?_,a⟩;refine sH.2 ⟨λg c=>?_,a.imp λq x e b f=>iT.2<|J<|q x e b f⟩;obtain⟨t,d,rfl⟩:=cC.1 c;exact(h t d).o
def OV{O p q:R}(hu:ma l)(i:ma v)(hj:O<y l)(E:Iu v (iq l[O].ks) (iR l[O].ks) p q)(m:ma C)(Q:∀V∈gz C,V∈l[O].dq\/V∈gz ((v.drop p).take<|q-p)):ma (v.take p++C++v.drop q):=by
 have S:=hu.p l[O]<|aB hj;have B:∀j∈gz (v.take p),∀g∈l[O].dq,kH j.D g.D=cz:=by intro j c g d;let⟨t,a,h⟩:=lZ.1 c;obtain⟨N,F,rfl⟩:=lH.1 a;(have b:N<p/\N<y v:=by rw[dX]at F;omega);rw[oY]at h;have w:=(i.p v[N]<|aB b.2).D h;have x:=E.f.da N b.2 b.1;have A:=S.xU d;exact BT (DX w x) A
 have D:∀j∈l[O].dq,∀g∈gz (v.drop q),kH j.D g.D=cz:=by intro j c g d;let⟨t,a,h⟩:=lZ.1 d;obtain⟨N,F,rfl⟩:=lH.1 a;(have b:q+N<y v:=by rw[iZ]at F;omega);rw[rP]at h;have o:q<y v:=U;have w:=E.l o;have x:=S.D c;let⟨V,e,K⟩:=(i.p v[q]<|aB o).p;(have A:kH g.D (iq v[q].ks)=bD:=by obtain rfl|T:=fO N;exact(i.p v[q]<|aB o).xU h;rw[<-K];exact td<|i.D o b U e h);exact BT (DX x w) A
 have n:((v.take p++((v.drop p).take (q-p)++v.drop q)).map cH.dq).Pairwise lJ:=by have:=i.L;rwa[o6 v E.le,cw]at this
 have r:=EZ n;rw[Fb]at r;have f:=(eH.1<|by rwa[bz]at n).2.1;have s:=EZ f;refine Yb (λt a=>?_) ?_;obtain a|a:=aP.1 a;obtain a|a:=aP.1 a;exact i.p t<|iy a;exact m.p t a;exact i.p t<|mV a;rw[bz,bz,eH,eH];refine⟨⟨?_,m.L,λV e W L=>?_⟩,?_,λV e W L=>?_⟩;rw[bz,eH]at n;exact n.1;obtain⟨P,k,rfl⟩:=cC.1 e;obtain⟨t,a,rfl⟩:=cC.1 L;intro j c g d;obtain u|u:=Q g<|lZ.2 ⟨t,a,d⟩;exact B j (lZ.2 ⟨P,k,c⟩) g u;exact r j (lZ.2 ⟨P,k,c⟩) g<|gY _ u;rw[bz,eH]at f;exact f.2.1;obtain⟨t,a,rfl⟩:=cC.1 L;obtain e|e:=aP.1 e;obtain⟨P,k,rfl⟩:=cC.1 e;exactλj c g d=>r j (lZ.2 ⟨P,k,c⟩) g<|oQ _<|lZ.2 ⟨t,a,d⟩;obtain⟨P,k,rfl⟩:=cC.1 e;intro j c g d;obtain u|u:=Q j<|lZ.2 ⟨P,k,c⟩;exact D j u g<|lZ.2 ⟨t,a,d⟩;exact s j u g<|lZ.2 ⟨t,a,d⟩
def GJ(k:pw):R:=if k.A=1/\k.eJ≠k.eP then 2 else k.A
def qD(a:ld):R:=(a.map GJ).sum
def im(a:dI):R:=(a.map<|λt=>qD t.ks).sum
def iK(a b:dI):im (a++b)=im a+im b:=by simp[im]
def N4{k:pw}(b:k.Can)(a:eD):y (eX.choose a k)<=GJ k:=by
 by_cases h:∃c,Fz a k c;let⟨c,h⟩:=h;rw[Mu h];have:=h.of.A;unfold GJ;split<;>omega;rw[(eX.choose_spec a k).2 h];have:=b.c1;unfold M7 GJ;split<;>split<;>simp_all<;>omega
def o9(h:∀k∈L,k.Can)(B:R->eD):y (Eg eX.choose B L).flatten<=qD L:=by
 have a:∀(L:ld)(B:R->eD),(∀k∈L,k.Can)->y (L.mapIdx<|λi k=>eX.choose (B i) k).flatten<=qD L:=by
  intro L;induction L with
  |nil=>intro B _;simp[qD]
  |cons k L c=>
   intro B b;rw[List.mapIdx_cons,di,ai];have:=N4 (b k ar)<|B 0;have:=c (λi=>B<|i+1) (λq a=>b q<|by simp[a]);simp only[qD,bO,ft]at*;omega
 exact a L B h
def G8(h:nz L):qD L<=200:=by
 have a:∀L:ld,(∀k∈L,k.Can)->qD L<=2*nD L:=by
  intro L;induction L with
  |nil=>intro _;simp[qD]
  |cons k L c=>
   intro b;have:=c (λq a=>b q<|by simp[a]);have:GJ k<=2*k.A:=by unfold GJ;have:=(b k ar).c1;split<;>omega
   simp only[qD,nD,bO,ft]at*;omega
 have:=a L h.l;have:=h.MX;omega
def N5(a:ld):nD a<=qD a:=by
 induction a with
 |nil=>simp[nD]
 |cons k a b=>
  have:k.A<=GJ k:=by unfold GJ;split<;>omega
  simp only[qD,nD,bO,ft]at*;omega
def vO(a:dI):lU a<=im a:=by
 induction a with
 |nil=>simp[lU,im]
 |cons t r c=>
  have:=N5 t.ks;simp only[lU,im,bO,ft]at*;omega
def Lo{cs:iG}(d:y L=y cs)(e:∀i(c:i<y L)(a:i<y cs),L[i].Of cs[i]):qD L=y cs.flatten:=by
 induction L generalizing cs with
 |nil=>cases cs<;>simp_all[qD]
 |cons k L g=>
  obtain _|⟨f,cs⟩:=cs
  .simp at d
  .have h:=g (cs:=cs) (dV d)<|λi c a=>e (i+1) (dV c)<|dV a;have b:k.Of f:=e 0 ar ar;have j:GJ k=y f:=by
    have a:=b.A;unfold GJ;split
    .rename_i q;exfalso;apply q.2;rw[b.eJ,b.eP];have:y f=1:=U;simp[this]
    .exact a
   simp only[qD,bO,ft,di,ai]at*;omega
structure Aside(w:Z)(K:DK)(db sb k:R):Prop where
 lt:k<G (H w)
 j:¬K.j db k
 ne:k≠sb
def Aside.eQ{w e:Z}{db a k:R}{K c:DK}(h:Aside w K db a k)(d:gl w e db a K c):Aside e c db a k:=⟨au h.lt d.aA.D,λf=>(d.j k f).elim h.j<|λg=>bP h.lt,h.ne⟩
def Aside.A{w w':Z}{db a k:R}{K c:DK}(h:Aside w K db a k)(d:gl w w' db a K c):w'.heap[k]?=w.heap[k]?:=d.aA.A k h.lt<|λe=>e.elim h.j h.ne
def Aside.u{w w':Z}{db a k i:R}{K c:DK}(h:Aside w K db a k)(g:gl w w' db a K c)(e:bA w (X k i)=M d):bA w' (X k i)=M d:=(dZ (w:=w)<|h.A g).trans e
def Gv(h:Row a k d n Q)(l:gl a e b c f x)(g:∀j,cN d=M j->Aside a f b c j):Row e k d n Q:=l.aA.bV h<|λj i=>⟨λm=>m.elim (g j i).j (g j i).ne,(g j i).lt⟩
def PI(a:Fs)(u:R)(b:ld)(i:R):eD:=match fp a (jg u),b[i]? with
 |some f,M k=>(f.drop k.p).take k.D
 |_,_=>[]
def PH(K:DK)(u:R)(a:ld):PI (vw K.ah) u a=JV K u a:=by
 funext i;unfold PI JV;rw[nI];cases ij K.ah (jg u)<;>cases a[i]?<;>rfl
structure qF(w:Z)(db:R)(fs:Fs)(A:fC)(t:cH):Prop where
 D:∃bb boff vW,mR w t.tb (aJ db) t.cK (jN t.ks) (y<|iE t.ks) (pu<|iE t.ks) bb boff vW aF t.ks/\A bb
 l:A t.tb
 cK:t.cK<18446744073709551616
 jW:nz t.ks
 f:t.cs=Eg eX.choose (PI fs t.cK t.ks) t.ks
def qF.p{t:cH}(h:qF a b N W t):vQ t.ks t.cs:=by
 rw[h.f];exact KH h.jW _
def qF.zb{t:cH}(h:qF a c N W t):y t.dq<=qD t.ks:=by
 have:=o9 h.jW.l<|PI N t.cK t.ks;rwa[<-h.f]at this
def jb(P:eD->pw->dB)(a:Fs)(t:cH):cH:={t with cs:=Eg P (PI a t.cK t.ks) t.ks}
def qF.eQ{w f:Z}{db e:R}{K g:DK}{t:cH}(h:qF w db N (Aside w K db e) t)(d:gl w f db e K g):qF f db N (Aside f g db e) t:=by
 let⟨j,c,a,k,i⟩:=h.D;exact⟨⟨j,c,a,k.dU (h.l.A d)<|i.A d,i.eQ d⟩,h.l.eQ d,h.cK,h.jW,h.f⟩
def qF.Ap{t:cH}(h:qF a b N W t)(c:Fs):qF a b c W (jb eX.choose c t):=⟨h.D,h.l,h.cK,h.jW,rfl⟩
structure MV(w:Z)(K:DK)(db sb:R):Prop where
 o:Steps w
 x:Pow w
 i:Aside w K db sb 1
 n:Aside w K db sb 2
def MV.eQ{w e:Z}{db c:R}{K d:DK}(h:MV w K db c)(a:gl w e db c K d):MV e d db c:=⟨λk f=>h.i.u a<|h.o k f,h.x.dU<|h.n.A a,h.i.eQ a,h.n.eQ a⟩
structure Er(fs:Fs)(w:Z)(K:DK)(db sb:R)(v:ae)(ts:dI):Prop where
 bV:Row w 1 v (y ts) (ts.map cH.D)
 l:∀k,cN v=M k->Aside w K db sb k
 bZ:∀t∈ts,qF w db fs (Aside w K db sb) t
abbrev LvO(w:Z)(K:DK):=Er (vw K.ah) w K
def Er.eQ{w f:Z}{db c:R}{K e:DK}(h:Er N w K db c d l)(a:gl w f db c K e):Er N f e db c d l:=⟨Gv h.bV a h.l,λk g=>(h.l k g).eQ a,λt i=>(h.bZ t i).eQ a⟩
def GB(b:Fs)(a:dI):(a.map<|jb eX.choose b).map cH.D=a.map cH.D:=by simp[jb,cH.D]
def pX(h:∀t∈l,nz t.ks)(a:wW l):ma (l.map<|jb eX.choose N):=by
 refine Rk (λt c=>?_)<|λi b=>?_;obtain⟨u,d,rfl⟩:=cC.1 c;exact KH (h u d) _;have:=a i<|dV b;simpa[jb]using this
def tO(b:Fs)(a:dI):im (a.map<|jb eX.choose b)=im a:=by simp[im,jb,kL]
def Er.Ap(h:Er N a f b c d l)(e:Fs):Er e a f b c d (l.map<|jb eX.choose e):=by
 refine⟨?_,h.l,λt g=>?_⟩;rw[GB,cS];exact h.bV;obtain⟨u,i,rfl⟩:=cC.1 g;exact(h.bZ u i).Ap e
def Er.zb(h:Er N a f c k d l):y (gz l)<=im l:=by
 have e:∀l:dI,(∀t∈l,qF a c N (Aside a f c k) t)->y (gz l)<=im l:=by
  intro l;induction l with
  |nil=>intro _;simp[gz]
  |cons t r g=>
   intro q;have:=g (λu a=>q u<|by simp[a]);have:=(q t ar).zb;rw[uP,ai];simp only[im,bO,ft]at*;omega
 exact e l h.bZ
def jf(h:∀t∈l,vQ t.ks t.cs):y l<=y (gz l):=by
 induction l with
 |nil=>simp
 |cons t r b=>
  let⟨x,a,_⟩:=(h t ar).A;have:1<=y t.dq:=List.length_pos_of_mem a;have:=b (λu a=>h u<|by simp[a]);have:y (gz<|t::r)=y t.dq+y (gz r):=by simp[gz]
  grind
structure sE(fs:Fs)(w:Z)(sb:R)(s:SR)(K:DK)(m:dB)(a b c d:dI)(C:R):Prop where
 D:lG w s.L m
 L:∀k,cN s.L=M k->Aside w K s.f sb k
 l0:Er fs w K s.f sb s.l0 a
 l1:Er fs w K s.f sb s.l1 b
 l2:Er fs w K s.f sb s.l2 c
 l3:Er fs w K s.f sb s.l3 d
 f:cJ w s.f K
 l:¬K.j s.f sb
 t:MV w K s.f sb
 zb:y m+im a+im b+im c+im d<=C
 v:C<=3000000000
 o:gG m
 S:∀x∈m,x.Good
 s1:ma b
 s2:ma c
 s3:ma d
abbrev ST(w:Z)(a:R)(s:SR)(K:DK):=sE (vw K.ah) w a s K
def sE.FX(h:sE N a b o f i l v C F c):y i+y (gz l)+y (gz v)+y (gz C)+y (gz F)<=c:=by
 have:=h.zb;have:=h.l0.zb;have:=h.l1.zb;have:=h.l2.zb;have:=h.l3.zb;omega
def sE.dL{w:Z}{K:DK}{a b d e:dI}(h:sE N w c o K i a b d e k):y i<=3000000000:=gW h.FX h.v
def sE.A{e b g j:dI}(h:sE N a c o f i e b g j k):y e+y b+y g+y j<=3000000000:=by
 have:=h.FX;have:=h.v;have:=jf<|λt d=>(h.l0.bZ t d).p;have:=jf h.s1.p;have:=jf h.s2.p;have:=jf h.s3.p;omega
def sE.eQ{w e:Z}{s:SR}{K d:DK}{m b g n:dI}(h:sE N w c s K i m b g n k)(j:c<G (H w))(a:gl w e s.f c K d):sE N e c s d i m b g n k where
 D:=Gv h.D a h.L
 L:=λg c=>(h.L g c).eQ a
 l0:=h.l0.eQ a
 l1:=h.l1.eQ a
 l2:=h.l2.eQ a
 l3:=h.l3.eQ a
 f:=a.ok
 l:=λg=>(a.j c g).elim h.l<|λp=>U
 t:=h.t.eQ a
 zb:=h.zb
 v:=h.v
 o:=h.o
 S:=h.S
 s1:=h.s1
 s2:=h.s2
 s3:=h.s3
def ST.eQ{w e:Z}{K a:DK}{j b l m:dI}(h:ST w c o K i j b l m k)(d:c<G (H w))(f:gl w e o.f c K a)(g:vw a.ah=vw K.ah):ST e c o a i j b l m k:=by
 rw[ST,g];exact sE.eQ h d f
def pI(s:SR)(m:dB)(a b c d:dI):cy (ae×dB):=(.iface 103 s.L,m)::(((a.map<|λt=>(Rx t,t.dq)).reverse)++[(IJ (s.l1,b),gz b)]++[(IJ (s.l2,c),gz c)]++[(IJ (s.l3,d),gz d)])
def AI(s:SR)(m:dB)(a b c d:dI):(pI s m a b c d).map (·.1)=zF s.L (s.l0,a) (s.l1,b) (s.l2,c) (s.l3,d):=by
 simp[pI,zF,qB,xq]
def sE.lvm{j b l m:dI}(h:sE N a c o f i j b l m k)(g:cU a c o r):Fw a c 10 [(o.l0,j),(o.l1,b),(o.l2,l),(o.l3,m)]:=by
 refine⟨z,λe d=>?_,λe d=>?_,λe d=>?_,?_⟩;have:e=0\/e=1\/e=2\/e=3:=aI;obtain rfl|rfl|rfl|rfl:=this<;>exact g.u z;have:e=0\/e=1\/e=2\/e=3:=aI;obtain rfl|rfl|rfl|rfl:=this;exact h.l0.bV;exact h.l1.bV;exact h.l2.bV;exact h.l3.bV;have:e=0\/e=1\/e=2\/e=3:=aI;obtain rfl|rfl|rfl|rfl:=this;exactλr d=>(h.l0.l r d).lt;exactλr d=>(h.l1.l r d).lt;exactλr d=>(h.l2.l r d).lt;exactλr d=>(h.l3.l r d).lt;have:=h.A;simp[nC];omega
structure Qy(j4:Prop)(K:DK)(fs:Fs):Prop where
 eq:fs=vw K.ah
 ok:K.fx.ok
def Qy.bI{j4:Prop}{w:Z}{db:R}{K:DK}(h:cJ w db K):Qy j4 K (vw K.ah):=⟨rfl,h.L⟩
abbrev ug(b:Prop)(a:R)(K:DK):jv:=Mj b a K<|K.j a
def nX(a:R)(K:DK):jv:=ug True a K
def Ga{t:cH}(l:Qy K f N)(o:K)(m:cJ a b f)(h:qF a b N (Aside a f b c) t)(e:MV a f b c):nY (ug K b f) (G<|H a) t.tb t.ks t.cs a:=by
 let⟨k,g,d,n,i⟩:=h.D;have j:=h.f;rw[l.eq,PH]at j;rw[j];exact nY.TU K b f (f.j b) (G<|H a) t.tb t.cK h.cK _ _ _ k g d aF t.ks a n h.jW o (aq _) m.lt ⟨h.l.lt,h.l.j⟩ ⟨i.lt,i.j⟩ e.o ⟨e.i.lt,e.i.j⟩ e.x ⟨e.n.lt,e.n.j⟩
def xM(i:Qy K f N)(o:l≠[]->K)(j:cJ a b f)(h:Er N a f b c d l)(k:MV a f b c)(n:ma l)(m:y l<=20000000000):uE (ug K b f) (G<|H a) d l a:=⟨h.bV,λp e=>⟨(h.l p e).lt,(h.l p e).j⟩,λt g=>Ga i (o<|uX g) j (h.bZ t g) k,n,m⟩
def Mg(c:cJ a b f)(d:∀k,f.j b k->k<G (H a)):(ug K b f).D a:=⟨d,f,c,⟨rfl,rfl,rfl⟩,λ_ h=>h,Fx.bI _⟩
theorem sE.GR(h:sE N a b o f i l v C F c):(ug K o.f f).D a:=Mg h.f h.f.lt
def ST.GR(h:ST a b o f i l v C F c):(nX o.f f).D a:=Mg h.f h.f.lt
def sE.Z6(e:Qy K f N)(d:l++v++C++F≠[]->K)(h:sE N a b o f i l v C F c):∀r∈pI o i l v C F,tf (ug K o.f f) (G<|H a) r.1 r.2 a:=by
 have hF:∀k,(ug K o.f f).F k->k<G (H a):=h.f.lt;have:=h.A;intro r g;simp only[pI,dy,aP,pU,cC,lh,uS]at g;obtain rfl|((⟨t,j,rfl⟩|rfl)|rfl)|rfl:=g;exact tf.St h.D h.o (show y i<=1000000000000 from bP h.dL) (λk a=>⟨(h.L k a).lt,(h.L k a).j⟩)<|aq _;exact tf.FB (Ga e (d<|uX (by simp[j]:t∈l++v++C++F)) h.f (h.l0.bZ t j) h.t) (aq _) hF;exact tf.xL (xM e (λq=>d<|by simp[q]) h.f h.l1 h.t h.s1 U) (aq _) hF;exact tf.xL (xM e (λq=>d<|by simp[q]) h.f h.l2 h.t h.s2 U) (aq _) hF;exact tf.xL (xM e (λq=>d<|by simp[q]) h.f h.l3 h.t h.s3 U) (aq _) hF
def uJ(h:ma l):∀x∈gz l,x.Good:=by
 intro x a;unfold gz at a;let⟨f,c,a⟩:=dO.1 a;obtain⟨t,d,rfl⟩:=cC.1 c;let⟨e,b,a⟩:=dO.1 a;exact(h.p t d).S e b x a
def Nl{t:cH}(h:vQ t.ks t.cs):∀x∈t.dq,x.Good:=by
 intro x a;let⟨c,b,a⟩:=dO.1 a;exact h.S c b x a
def sE.NK(h:sE N a b o f i l v C F c):∀r∈pI o i l v C F,∀x∈r.2,x.Good:=by
 intro r d;simp only[pI,dy,aP,pU,cC,lh,uS]at d;obtain rfl|((⟨t,e,rfl⟩|rfl)|rfl)|rfl:=d;exact h.S;exact Nl (h.l0.bZ t e).p;exact uJ h.s1;exact uJ h.s2;exact uJ h.s3
def lQ(c:cJ a o.f f)(d:¬f.j o.f b)(j:Y):gl a (cP a (X b 0)<|iD j) o.f b f f:=(gl.bI c).gu d 0 _
def gl.sb{d:DK}(h:gl a e b c x d)(g:¬x.j b c)(j:c<G (H a)):¬d.j b c:=λi=>(h.j c i).elim g<|λk=>U
def qV{b j3:R}(d:cJ a b f)(c:gD (G<|H a) a e):gl a e b j3 f f:=⟨d.aA (I.p (S:=aC) c)<|λ_ _=>id,(I.p (S:=aC) c).aT cY,λ_ g=>J g,Fx.bI _⟩
structure MO(w:Z)(K:DK)(sb:R)(s:SR)(sn:gJ):Prop where
 ex:∃b,s.n=M b/\kP w b (Dn sn)/\Aside w K s.f sb b
 dL:y sn<=4
def MO.eQ{w g:Z}{K a:DK}{f:gJ}(h:MO w K c o f)(e:gl w g o.f c K a):MO g a c o f:=by
 let⟨b,i,j,d⟩:=h.ex;exact⟨⟨b,i,j.dU<|d.A e,d.eQ e⟩,h.dL⟩
def MO.vI{s s':SR}{c:gJ}(h:MO a f b s c)(j:s'.f=s.f/\s'.n=s.n):MO a f b s' c:=by
 let⟨i,d,e,g⟩:=h.ex;exact⟨aI,h.dL⟩
def qF.A{w w':Z}{db:R}{i:Fs}{A:fC}{t:cH}(h:qF w db i A t)(k:∀p,A p->w'.heap[p]?=w.heap[p]?):qF w' db i A t:=by
 let⟨n,g,f,o,j⟩:=h.D;exact⟨⟨n,g,f,o.dU (k _ h.l)<|k _ j,j⟩,h.l,h.cK,h.jW,h.f⟩
structure Ks(t:cH):Prop where
 p:To t.ks t.cs
 jW:nz (dK 0 t.cs)
 f:y (gF t.cs)<=100000
def MT(db j3 n6:R)(K:DK)(k:R):Prop:=k<n6/\¬K.j db k/\k≠j3
def XT(e:dI)(ps:cy NT)(t:cH):Prop:=t∈e\/∃p∈ps,p.t=t
def sQ(w:Z)(db j3 n6:R)(K:DK)(v:ae):Prop:=∀k,cN v=M k->k<G (H w)/\¬K.j db k/\k≠j3/\(k<n6\/∃f g,w.heap[k]?=M (aK f 235 g))
def sQ.aA{w w':Z}{db j3 n6:R}{K:DK}{v:ae}(h:sQ w db j3 n6 K v)(k:I (K.j db) w w'):sQ w' db j3 n6 K v:=λt n=>by
 let⟨g,j,p,q⟩:=h t n;exact⟨au g k.D,j,p,q.imp id<|λ⟨n,o,u⟩=>⟨n,o,(k.A t g j).trans u⟩⟩
structure LS(w:Z)(db sb base:R)(K:DK)(e:dI)(ps:cy NT)(C:R)(m r s l:ae)(a b c d:dI):Prop where
 D:(nX db K).D w
 L:K.fx.ok
 le:base<=G (H w)
 j:∀k,K.j db k->k<base
 B:sb<base
 o:Steps w
 x:Pow w
 i:MT db sb base K 1
 n:MT db sb base K 2
 sD:∀t∈e,qF w db (vw K.ah) (MT db sb base K) t
 S:∀p∈ps,p.Ok w base/\Ks p.t
 fq:ps.Pairwise NT.mG
 r0:Row w 1 m (y a) (a.map cH.D)
 r1:Row w 1 r (y b) (b.map cH.D)
 r2:Row w 1 s (y c) (c.map cH.D)
 r3:Row w 1 l (y d) (d.map cH.D)
 b0:sQ w db sb base K m
 b1:sQ w db sb base K r
 b2:sQ w db sb base K s
 b3:sQ w db sb base K l
 x0:∀t∈a,XT e ps t
 x1:∀t∈b,XT e ps t
 x2:∀t∈c,XT e ps t
 x3:∀t∈d,XT e ps t
 kh:((a++b++c++d).map cH.tb).Nodup
 s1:ma b
 s2:ma c
 s3:ma d
 FX:im a+im b+im c+im d<=C
 v:C<=3000000000
section
variable{w w':Z}{db j3 n6 C:R}{K:DK}{e:dI}{ps:cy NT}{m r s l:ae}{a b c d:dI}
def XT.jl{t:cH}(h:XT e ps t)(g:cy NT):XT e (ps++g) t:=by
 obtain h|⟨p,f,j⟩:=h;exact J h;exact bu ⟨p,by simp[f],j⟩
def LS.aA(h:LS w db j3 n6 K e ps C m r s l a b c d)(k:I (K.j db) w w')(q:(nX db K).D w'):LS w' db j3 n6 K e ps C m r s l a b c d where
 D:=q
 L:=h.L
 le:=aR h.le k.D
 j:=h.j
 B:=h.B
 o:=λp g=>k.u (h.o p g) h.i.2.1<|au h.i.1 h.le
 x:=h.x.dU<|k.A _ (au h.n.1 h.le) h.n.2.1
 i:=h.i
 n:=h.n
 sD:=λt q=>(h.sD t q).A<|λp g=>k.A p (au g.1 h.le) g.2.1
 S:=λt q=>⟨(h.S t q).1.aA k<|λp g c=>gW (((h.S t q).1.lt p g).1)<|h.j p c,(h.S t q).2⟩
 fq:=h.fq
 r0:=k.bV h.r0<|λp g=>⟨(h.b0 p g).2.1,(h.b0 p g).1⟩
 r1:=k.bV h.r1<|λp g=>⟨(h.b1 p g).2.1,(h.b1 p g).1⟩
 r2:=k.bV h.r2<|λp g=>⟨(h.b2 p g).2.1,(h.b2 p g).1⟩
 r3:=k.bV h.r3<|λp g=>⟨(h.b3 p g).2.1,(h.b3 p g).1⟩
 b0:=h.b0.aA k
 b1:=h.b1.aA k
 b2:=h.b2.aA k
 b3:=h.b3.aA k
 x0:=h.x0
 x1:=h.x1
 x2:=h.x2
 x3:=h.x3
 kh:=h.kh
 s1:=h.s1
 s2:=h.s2
 s3:=h.s3
 FX:=h.FX
 v:=h.v
def LS.p(h:LS w db j3 n6 K e ps C m r s l a b c d){t:cH}(f:XT e ps t):vQ t.ks t.cs:=by
 obtain f|⟨p,g,rfl⟩:=f;exact(h.sD t f).p;exact(h.S p g).2.p.zy
def LS.jW(h:LS w db j3 n6 K e ps C m r s l a b c d){t:cH}(f:XT e ps t):nz t.ks:=by
 obtain f|⟨p,g,rfl⟩:=f;exact(h.sD t f).jW;rw[(h.S p g).1.ks];exact(h.S p g).2.jW
def LS.zb(h:LS w db j3 n6 K e ps C m r s l a b c d){t:cH}(f:XT e ps t):y t.dq<=qD t.ks:=by
 obtain f|⟨p,g,rfl⟩:=f;exact(h.sD t f).zb;exact Nat.le_of_eq (Lo (h.S p g).2.p.dL (h.S p g).2.p.l).symm
def AX{f:dI}(h:∀t∈f,y t.dq<=qD t.ks):y (gz f)<=im f:=by
 induction f with
 |nil=>simp[gz]
 |cons t i g=>
  have:=g (λu f=>h u<|by simp[f]);have:=h t ar;rw[uP,ai];simp only[im,bO,ft]at*;omega
def FG{f:dI}(h:∀t∈f,To t.ks t.cs):im f=y (gz f):=by
 induction f with
 |nil=>simp[gz,im]
 |cons t i g=>
  have:=g (λu f=>h u<|by simp[f]);have:qD t.ks=y t.dq:=Lo (h t ar).dL (h t ar).l;rw[uP,ai];simp only[im,bO,ft]at*;omega
def LS.t(h:LS w db j3 n6 K e ps C m r s l a b c d):y (gz a)<=im a/\y (gz b)<=im b/\y (gz c)<=im c/\y (gz d)<=im d:=⟨AX λt q=>h.zb<|h.x0 t q,AX λt q=>h.zb<|h.x1 t q,AX λt q=>h.zb<|h.x2 t q,AX λt q=>h.zb<|h.x3 t q⟩
def LS.D5(h:LS w db j3 n6 K e ps C m r s l a b c d){t:cH}(g:XT e ps t):nY (nX db K) (G<|H w) t.tb t.ks t.cs w:=by
 have u:=h.le;have q:1<G (H w)/\¬(nX db K).F 1:=⟨bP h.i.1,h.i.2.1⟩;have o:2<G (H w)/\¬(nX db K).F 2:=⟨bP h.n.1,h.n.2.1⟩;have hF:∀k,(nX db K).F k->k<G (H w):=λk i=>au (h.j k i) u;obtain g|⟨p,A,rfl⟩:=g;let⟨x,j,f,B,n⟩:=(h.sD t g).D;have v:=(h.sD t g).f;rw[PH]at v;rw[v];exact nY.TU True db K (K.j db) (G<|H w) t.tb t.cK (h.sD t g).cK _ _ _ x j f aF t.ks w B (h.sD t g).jW trivial (aq _) hF ⟨bP<|(h.sD t g).l.1,(h.sD t g).l.2.1⟩ ⟨bP n.1,n.2.1⟩ h.o q h.x o;let⟨f,n⟩:=h.S p A;have x:=f.lt;have v:∀k,p.D k->k<G (H w)/\¬(nX db K).F k:=λk i=>⟨(x k i).2,λc=>gW (h.j k c)<|(x k i).1⟩;(have j:y (gF p.t.cs)<=p.IX:=by obtain⟨c,_⟩|⟨F,B,D,c,_,_,E,_⟩:=f.A.2;cases c;grind);exact nY.Y1 (nX db K) (G<|H w) p.t.tb 0 0 0 p.bb 0 p.vW p.x 0 p.IX p.t.ks p.t.cs w f.D n.p (λk i=>(h.jW<|bu ⟨p,A,z⟩).l k i) (fA.bB f.A) j (bP n.f) (v _<|J z) (v _<|bu<|J z) (v _<|bu<|bu z) h.o q h.x o trivial (aq _) hF
def LS.A(h:LS w db j3 n6 K e ps C m r s l a b c d):y a+y b+y c+y d<=3000000000:=by
 have:=h.FX;have:=h.v;have:=h.t;have:=jf<|λt f=>h.p<|h.x0 t f;have:=jf h.s1.p;have:=jf h.s2.p;have:=jf h.s3.p;omega
def LS.zcd(h:LS w db j3 n6 K e ps C m r s l a b c d):uE (nX db K) (G<|H w) r b w:=⟨h.r1,λk f=>⟨(h.b1 k f).1,(h.b1 k f).2.1⟩,λt g=>h.D5<|h.x1 t g,h.s1,bP h.A⟩
def LS.zcc(h:LS w db j3 n6 K e ps C m r s l a b c d):uE (nX db K) (G<|H w) s c w:=⟨h.r2,λk f=>⟨(h.b2 k f).1,(h.b2 k f).2.1⟩,λt g=>h.D5<|h.x2 t g,h.s2,bP h.A⟩
def LS.zeb(h:LS w db j3 n6 K e ps C m r s l a b c d):uE (nX db K) (G<|H w) l d w:=⟨h.r3,λk f=>⟨(h.b3 k f).1,(h.b3 k f).2.1⟩,λt g=>h.D5<|h.x3 t g,h.s3,bP h.A⟩
def Gu{i n:R}{v:ae}{k:iF}(h:Row w i v n k)(p:0<n):∃b f g,v=bX b f n g/\n<=g:=by
 obtain⟨_,o⟩|⟨b,f,g,q,j,_⟩:=h.2;omega;grind
def LS.JF{j:dI}{B:dB}(h:LS w db j3 n6 K e ps C m r s l a b c d)(L:I (K.j db) w w')(x:sF w' (G<|H w) j)(E:j.map cH.dq=jq B)(F:gG B)(t:sq 5 B)(D:∀S∈B,S.Good):∃i:cy NT,i.map NT.t=j/\(∀p∈ps++i,p.Ok w' n6/\Ks p.t)/\(ps++i).Pairwise NT.mG/\(∀A∈j,XT e (ps++i) A)/\(∀A∈j,G (H w)<=A.tb)/\(j.map cH.tb).Nodup:=by
 let⟨i,k,n,v⟩:=x;refine⟨i,k,λp f=>?_,?_,λA g=>?_,λA g=>?_,?_⟩;obtain c|c:=aP.1 f;exact⟨(h.S p c).1.aA L<|λu o d=>gW (((h.S p c).1.lt u o).1)<|h.j u d,(h.S p c).2⟩;let⟨N,O,P,Q⟩:=(uL E x.bZ F t D) p.t (by rw[<-k];grind);refine⟨(n p c).pQ h.le,N,O,?_⟩;have:=(n p c).f.A;have:=(n p c).f.xN;omega;rw[eH];exact⟨h.fq,v,λp f q i u o g=>gW ((λp f u o=>((h.S p f).1.lt u o).2:∀p∈ps,∀u,p.D u->u<G (H w)) p f u o)<|((n q i).lt u g).1⟩;rw[<-k]at g;obtain⟨p,f,rfl⟩:=cC.1 g;exact bu ⟨p,by simp[f],rfl⟩;rw[<-k]at g;obtain⟨p,f,rfl⟩:=cC.1 g;exact(n p f).lY;rw[<-k,iW];unfold List.Nodup;rw[List.pairwise_map];refine v.imp<|λ{p q}f g=>f p.t.tb (J z)<|J g
def XT.EB(h:LS w db j3 n6 K e ps C m r s l a b c d){t:cH}(f:XT e ps t):t.tb<G (H w):=by
 obtain f|⟨p,g,rfl⟩:=f;have:=(h.sD t f).l.1;have:=h.le;omega;exact((h.S p g).1.lt _<|J z).2
def LS.lt(h:LS w db j3 n6 K e ps C m r s l a b c d):∀t∈a++b++c++d,t.tb<G (H w):=λt q=>by
 simp only[aP]at q;obtain((q|q)|q)|q:=q;exact XT.EB h<|h.x0 t q;exact XT.EB h<|h.x1 t q;exact XT.EB h<|h.x2 t q;exact XT.EB h<|h.x3 t q
def yt{f p:R}{v:ae}{j:iF}(h:fE w' (G<|H w) 235 f v p j)(o:∀k,K.j db k->k<n6)(i:j3<n6)(n:n6<=G (H w)):sQ w' db j3 n6 K v:=λk g=>by
 have:=h.lt k g;grind[gh]
end
def DU{j4 i f O:dI}{v:R}(h:(O.map cH.tb).Nodup)(k:∀t∈O,t.tb<v)(g:(j4++i).Sublist O)(o:(f.map cH.tb).Nodup)(j:∀t∈f,v<=t.tb):((j4++f++i).map cH.tb).Nodup:=by
 have n:(j4++f++i).Perm (f++(j4++i)):=by rw[<-cw];exact List.Perm.append_right _ List.perm_append_comm
 rw[(n.map cH.tb).nodup_iff,bz,rO];refine⟨o,List.Nodup.sublist (g.map _) h,λE p x u D=>?_⟩;obtain⟨t,q,rfl⟩:=cC.1 p;obtain⟨B,A,rfl⟩:=cC.1 u;have:=j t q;have:=k B<|g.subset A;omega
def GW{i:eD}{f:eN}{g:iG}{x:E}(h:x∈uz i f g):x∈g.flatten:=(kw _).mem_iff.1<|(oF i<|eL g).subset<|(vB i f g).subset h
def BM(h:eD)(f:eN)(g:iG):y (uz h f g)<=y g.flatten:=by
 have:=(vB h f g).length_le;have:=(oF h<|eL g).length_le;have:=(kw g).length_eq;omega
def zco{u v:dI}(n:ma u)(o:ma v)(B:y (gz u)+y (gz v)<=3000000000)(j:R)(i:j<y u)(f:dI)(k:f.Sublist v):yP (eL<|gz f::[u[j]].map cH.dq)/\(∀x∈eL (gz f::[u[j]].map cH.dq),x.Good)/\y (eL<|gz f::[u[j]].map cH.dq)<=3000000000:=by
 refine⟨wA _<|λD h=>?_,λx g=>?_,?_⟩;simp only[bO,gB,dy,lh,uS]at h;obtain rfl|rfl:=h;exact o.o.kE<|Aq k;exact n.bZ<|aB i;have g:=(kw _).mem_iff.1 g;simp only[bO,gB,di,jF,eu,aP]at g;obtain q|q:=g;exact uJ o x<|(Aq k).subset q;exact uJ n x<|lZ.2 ⟨_,aB i,q⟩;(have p:y (eL<|gz f::[u[j]].map cH.dq)=y (gz f)+y u[j].dq:=by rw[(kw _).length_eq];simp);have t:=(Aq k).length_le;(have A:y u[j].dq<=y (gz u):=by have:=(Aq (us:=[u[j]]) (ts:=u)<|List.singleton_sublist.2<|aB i).length_le;simpa[gz]using this);omega
def Ht(u v:dI):(gz v::u.map cH.dq).flatten=gz v++gz u:=by simp[gz]
def LS.zck{w:Z}{db j3 n6 C:R}{K:DK}{e:dI}{ps:cy NT}{m r s l:ae}{a b c d:dI}(h:LS w db j3 n6 K e ps C m r s l a b c d)(ha:0<y a)(o:eD)(P:Option Addr)(O:R)(hm:Row w 1 (am P (y o) O) (y o) (o.map<|Value.int .u64))(W:∀A,cN (am P (y o) O)=M A->A<G (H w)/\¬K.j db A)(E:y o<=4):cR bN 132 #[ef #[m,r,s,l],ay 0,am P (y o) O] w λan w'=>(∃T i N,∃Q:dI,∃ab,an=aN (de #[ef #[aF,am T i N,s,l],ic])/\LS w' db j3 n6 K e ab C aF (am T i N) s l [] Q c d/\I (K.j db) w w')\/Et (nX db K) w w' (K.j db) an bL:=by
 obtain⟨b0,o0,c0,rfl,ao⟩:=Gu h.r0 ha;obtain⟨x1,c1,rfl⟩:=cG h.r1;obtain⟨x2,c2,rfl⟩:=cG h.r2;obtain⟨x3,c3,rfl⟩:=cG h.r3;let⟨l0,l1,l2,l3⟩:=h.t;have ad:=h.FX;have ac:=h.v;have D:∀al∈eL (gz b::a.map cH.dq),al.Good:=by intro al hx;have:=(kw _).mem_iff.1 hx;rw[Ht,aP]at this;obtain q|q:=this;exact uJ h.s1 al q;let⟨L,t,aa⟩:=lZ.1 q;exact Nl (h.p<|h.x0 L t) al aa
 have u:y (eL<|gz b::a.map cH.dq)<=3000000000:=by have h1:=(kw<|gz b::a.map cH.dq).length_eq;rw[Ht,ai]at h1;omega
 have F:yP (eL<|gz b::a.map cH.dq):=wA _ (λf hr=>by
  obtain rfl|hr:=dy.1 hr
  .exact h.s1.o
  .obtain⟨L,t,rfl⟩:=cC.1 hr;exact(h.p (h.x0 L t)).o)
 refine(WC b0 o0 c0 x1 x2 x3 _ _ _ c1 c2 c3 a c d h.r0 ⟨(h.b0 _ z).1,(h.b0 _ z).2.1⟩ (λL t=>h.D5<|h.x0 L t) h.zcd h.r2 h.r3 (λA p=>⟨(h.b2 A p).1,(h.b2 A p).2.1⟩) (λA p=>⟨(h.b3 A p).1,(h.b3 A p).2.1⟩) h.D (aq _) (λA p=>gW (h.j A p) h.le) h.o ⟨gW h.i.1 h.le,h.i.2.1⟩ h.A o P O hm W E _ z F D u).mono ?_;rintro an w'(⟨T,i,N,Q,rfl,v,g,f,V,t⟩|B);rotate_left;exact bu B;let⟨j,n,x,_⟩:=vC (ms:=o) (lowest:=c.isEmpty&&d.isEmpty) F D u E;let⟨qs,q0,q1,q2,q3,q4,q5⟩:=h.JF t f g j n x;refine J ⟨T,i,N,Q,ps++qs,z,?_,t⟩;have h':=h.aA t V;refine{h' with S:=q1,fq:=q2,r0:=⟨rfl,J ⟨rfl,rfl⟩⟩,r1:=dQ v,b0:=?_,b1:=yt v h.j h.B h.le,x0:=?_,x1:=q3,x2:=λL k=>(h'.x2 L k).jl qs,x3:=λL k=>(h'.x3 L k).jl qs,kh:=?_,s1:=(AH g f.bZ j n x:ma Q),FX:=?_};intro A p;cases p;grind
 rw[cw];exact DU (j4:=[]) h.kh h.lt aI q5 q4;have:im ([]:dI)=0:=rfl;have e1:=FG<|λL k=>(uL g f.bZ j n x L k).1;rw[pR g]at e1;have e2:=BM o (c.isEmpty&&d.isEmpty)<|gz b::a.map cH.dq;rw[Ht,ai]at e2;unfold yA at e1;omega
def LS.zcj{w:Z}{db j3 n6 C:R}{K:DK}{e:dI}{ps:cy NT}{m r s l:ae}{a b c d:dI}(h:LS w db j3 n6 K e ps C m r s l a b c d)(hb:0<y b)(t:eD)(mx:Option Addr)(mc:R)(hm:Row w 1 (am mx (y t) mc) (y t) (t.map<|Value.int .u64))(ad:∀V,cN (am mx (y t) mc)=M V->V<G (H w)/\¬K.j db V)(O:y t<=4):cR bN 132 #[ef #[m,r,s,l],ay 1,am mx (y t) mc] w λaa w'=>(∃xl nl cl xm k cm,∃b' c':dI,∃an,aa=aN (de #[ef #[m,am xl nl cl,am xm k cm,l],ic])/\LS w' db j3 n6 K e an C m (am xl nl cl) (am xm k cm) l a b' c' d/\y b'+1=y b/\I (K.j db) w w')\/Et (nX db K) w w' (K.j db) aa bL:=by
 obtain⟨b0,o0,c0,rfl,ac⟩:=Gu h.r1 hb;obtain⟨x1,c1,rfl⟩:=cG h.r0;obtain⟨x2,c2,rfl⟩:=cG h.r2;obtain⟨x3,c3,rfl⟩:=cG h.r3;let⟨l0,l1,l2,l3⟩:=h.t;have ap:=h.FX;have ao:=h.v;have n:=zco (u:=b) (v:=c) h.s1 h.s2 U;refine(Ie b0 o0 c0 x2 x1 x3 _ _ _ _ _ _ a d h.zcd ac hb h.zcc h.r0 h.r3 (λV D=>⟨(h.b0 V D).1,(h.b0 V D).2.1⟩) (λV D=>⟨(h.b3 V D).1,(h.b3 V D).2.1⟩) h.D (aq _) (λV D=>gW (h.j V D) h.le) h.o ⟨gW h.i.1 h.le,h.i.2.1⟩ (bP h.A) (bP<|vO c) _ (J ⟨z,z,z,z,z,z,z⟩) n t mx mc hm ad O).mono ?_;rintro aa w'(⟨xl,nl,cl,xm,k,cm,L,A,hj,x,q,rfl,hcut,Q,T,g,i,ab,ht⟩|N);rotate_left;exact bu N;let⟨s1,s2,s3⟩:=n A hj _ ((rM _ _).trans (mW _ _):(List.take (q-x)<|List.drop x c).Sublist _);let⟨o,p,B,_⟩:=vC (ms:=t) (lowest:=d.isEmpty) s1 s2 s3 O;let⟨W,q0,q1,q2,q3,q4,q5⟩:=h.JF ht i g o p B;have al:ma (c.take x++L++c.drop q):=OV h.s1 h.s2 hj hcut (AH g i.bZ o p B:ma L) (λf hx=>by rw[pR g]at hx;have:=GW hx;simp only[bO,gB,di,jF,eu,aP]at this;exact this.symm);have j:(b.take A++b.drop (A+1)).Sublist b:=by grind[M9,append_assoc,sublist_append_right]
 have E:(c.take x++c.drop q).Sublist c:=by grind[o6,Iu.le,append_assoc,sublist_append_right]
 refine J ⟨xl,nl,cl,xm,k,cm,b.take A++b.drop (A+1),c.take x++L++c.drop q,ps++W,z,?_,by simp;omega,ht⟩;have h':=h.aA ht ab;have P:∀F∈c.take x++L++c.drop q,F∈c\/F∈L:=by grind
 refine{h' with S:=q1,fq:=q2,r1:=dQ Q,r2:=dQ T,b1:=yt Q h.j h.B h.le,b2:=yt T h.j h.B h.le,x0:=λF f=>(h'.x0 F f).jl W,x1:=λF f=>(h'.x1 F<|j.subset f).jl W,x2:=?_,x3:=λF f=>(h'.x3 F f).jl W,kh:=?_,s1:=h.s1.kE j,s2:=al,FX:=?_};intro F f;obtain aa|aa:=P F f;exact(h'.x2 F aa).jl W;exact q3 F aa;rw[show a++(b.take A++b.drop (A+1))++(c.take x++L++c.drop q)++d=(a++(b.take A++b.drop (A+1))++c.take x)++L++(c.drop q++d)by grind];exact DU h.kh h.lt (dV<|((kK a).append j).append<|E.append<|kK d) q5 q4;have e1:=FG<|λF f=>(uL g i.bZ o p B F f).1;rw[pR g]at e1;have e2:=BM t d.isEmpty<|gz ((c.drop x).take<|q-x)::[b[A]].map cH.dq;simp only[bO,gB,di,jF,eu,ai]at e2;unfold yA at e1;simp only[bO,gB]at e1;(have:im b=im (b.take A)+qD b[A].ks+im (b.drop<|A+1):=by(conv=>lhs;rw[M9 b A hj,iK,iK]);simp[im]);(have:im c=im (c.take x)+im ((c.drop x).take<|q-x)+im (c.drop q):=by conv=>lhs;rw[o6 c hcut.le,iK,iK]);have:y b[A].dq<=qD b[A].ks:=h.zb<|h.x1 _<|aB hj;have:y (gz<|(c.drop x).take<|q-x)<=im ((c.drop x).take<|q-x):=AX<|λF q=>h.zb<|h.x2 _<|mV<|iy q;rw[iK,iK,iK];omega
def LS.zci{w:Z}{db j3 n6 C:R}{K:DK}{e:dI}{ps:cy NT}{m r s l:ae}{a b c d:dI}(h:LS w db j3 n6 K e ps C m r s l a b c d)(hb:0<y c)(t:eD)(mx:Option Addr)(mc:R)(hm:Row w 1 (am mx (y t) mc) (y t) (t.map<|Value.int .u64))(ad:∀V,cN (am mx (y t) mc)=M V->V<G (H w)/\¬K.j db V)(O:y t<=4):cR bN 132 #[ef #[m,r,s,l],ay 2,am mx (y t) mc] w λaa w'=>(∃xl nl cl xm k cm,∃c' d':dI,∃an,aa=aN (de #[ef #[m,r,am xl nl cl,am xm k cm],ic])/\LS w' db j3 n6 K e an C m r (am xl nl cl) (am xm k cm) a b c' d'/\y c'+1=y c/\I (K.j db) w w')\/Et (nX db K) w w' (K.j db) aa bL:=by
 obtain⟨b0,o0,c0,rfl,ac⟩:=Gu h.r2 hb;obtain⟨x1,c1,rfl⟩:=cG h.r0;obtain⟨x2,c2,rfl⟩:=cG h.r1;obtain⟨x3,c3,rfl⟩:=cG h.r3;let⟨l0,l1,l2,l3⟩:=h.t;have ap:=h.FX;have ao:=h.v;have n:=zco (u:=c) (v:=d) h.s2 h.s3 U;refine(Ie b0 o0 c0 x3 x1 x2 _ _ _ _ _ _ a b h.zcc ac hb h.zeb h.r0 h.r1 (λV D=>⟨(h.b0 V D).1,(h.b0 V D).2.1⟩) (λV D=>⟨(h.b1 V D).1,(h.b1 V D).2.1⟩) h.D (aq _) (λV D=>gW (h.j V D) h.le) h.o ⟨gW h.i.1 h.le,h.i.2.1⟩ (bP h.A) (bP<|vO d) _ (bu ⟨z,z,z,z,z,z,z⟩) n t mx mc hm ad O).mono ?_;rintro aa w'(⟨xl,nl,cl,xm,k,cm,L,A,hj,x,q,rfl,hcut,Q,T,g,i,ab,ht⟩|N);rotate_left;exact bu N;let⟨s1,s2,s3⟩:=n A hj _ ((rM _ _).trans (mW _ _):(List.take (q-x)<|List.drop x d).Sublist _);let⟨o,p,B,_⟩:=vC (ms:=t) (lowest:=cz) s1 s2 s3 O;let⟨W,q0,q1,q2,q3,q4,q5⟩:=h.JF ht i g o p B;have al:ma (d.take x++L++d.drop q):=OV h.s2 h.s3 hj hcut (AH g i.bZ o p B:ma L) (λf hx=>by rw[pR g]at hx;have:=GW hx;simp only[bO,gB,di,jF,eu,aP]at this;exact this.symm);have j:(c.take A++c.drop (A+1)).Sublist c:=by grind[M9,append_assoc,sublist_append_right]
 have E:(d.take x++d.drop q).Sublist d:=by grind[o6,Iu.le,append_assoc,sublist_append_right]
 refine J ⟨xl,nl,cl,xm,k,cm,c.take A++c.drop (A+1),d.take x++L++d.drop q,ps++W,z,?_,by simp;omega,ht⟩;have h':=h.aA ht ab;have P:∀F∈d.take x++L++d.drop q,F∈d\/F∈L:=by grind
 refine{h' with S:=q1,fq:=q2,r2:=dQ Q,r3:=dQ T,b2:=yt Q h.j h.B h.le,b3:=yt T h.j h.B h.le,x0:=λF f=>(h'.x0 F f).jl W,x1:=λF f=>(h'.x1 F f).jl W,x2:=λF f=>(h'.x2 F<|j.subset f).jl W,x3:=?_,kh:=?_,s2:=h.s2.kE j,s3:=al,FX:=?_};intro F f;obtain aa|aa:=P F f;exact(h'.x3 F aa).jl W;exact q3 F aa;rw[show a++b++(c.take A++c.drop (A+1))++(d.take x++L++d.drop q)=(a++b++(c.take A++c.drop (A+1))++d.take x)++L++d.drop q by grind];exact DU h.kh h.lt (dV<|((kK<|a++b).append j).append E) q5 q4;have e1:=FG<|λF f=>(uL g i.bZ o p B F f).1;rw[pR g]at e1;have e2:=BM t cz<|gz ((d.drop x).take<|q-x)::[c[A]].map cH.dq;simp only[bO,gB,di,jF,eu,ai]at e2;unfold yA at e1;simp only[bO,gB]at e1;(have:im c=im (c.take A)+qD c[A].ks+im (c.drop<|A+1):=by(conv=>lhs;rw[M9 c A hj,iK,iK]);simp[im]);(have:im d=im (d.take x)+im ((d.drop x).take<|q-x)+im (d.drop q):=by conv=>lhs;rw[o6 d hcut.le,iK,iK]);have:y c[A].dq<=qD c[A].ks:=h.zb<|h.x2 _<|aB hj;have:y (gz<|(d.drop x).take<|q-x)<=im ((d.drop x).take<|q-x):=AX<|λF q=>h.zb<|h.x3 _<|mV<|iy q;rw[iK,iK,iK];omega
def MY(w:Z)(t:cH):Prop:=t.cK<18446744073709551616/\∃h d b f g c a e,mR w t.tb h t.cK d b f g c a e t.ks
def MY.aA{w w':Z}{t:cH}(h:MY w t)(m:I aC w w'):MY w' t:=by
 let⟨p,o,e,c,k,n,d,a,g,j⟩:=h;exact⟨p,o,e,c,k,n,d,a,g,j.dU (m.A _ (az j.g) id)<|m.A _ j.lt.2 id⟩
def MY.dA{t:cH}(h:MY a t)(o:Pow a):cR bN 128 #[aJ t.tb] a λl w'=>l=aN (aw<|jg t.cK)/\gD (G<|H a) a w':=by
 let⟨m,k,e,c,i,j,d,b,g,n⟩:=h;grind[zB]
def Hn:(prog.info? 95).map (λi=>(i.zero,i.size,i.bytes))=M (M<|ef #[],0,0):=aH
def TQ(a b c d:ae)(e f g h:dI):rY [(a,e),(b,f),(c,g),(d,h)]=(e++f++g++h).map cH.D:=by simp[rY]
def UC(a b c d:ae)(e f g h:dI):nC [(a,e),(b,f),(c,g),(d,h)]=y (e++f++g++h):=by simp[nC]
def rA(T a:dI):dI:=T.filter<|λt=>!(a.any<|λu=>u.cK==t.cK)
def SG{T T':dI}(h:b<y T):rA (T.take<|b+1) T'=rA (T.take b) T'++(if T'.any (λu=>u.cK==T[b].cK)then []else [T[b]]):=by
 unfold rA;rw[aG h,mB];cases hc:T'.any (λu=>u.cK==T[b].cK)<;>simp[hc]
def A7{T':dI}(t:cH):T'.any (λu=>u.cK==t.cK)=cz↔∃u∈T',aw (jg t.cK)=aw (jg u.cK):=by
 rw[nM];constructor;grind
 rintro⟨u,a,e⟩;refine⟨u,a,?_⟩;have:jg t.cK=jg u.cK:=dV e;rw[No this];grind
def oe(s:SR)(T a:dI):cy af:=(if s.i then [gX s.l]else [])++(rA T a).map (λt=>jg t.cK)
def Lr(gd cm F ge n p q s:dI){v2 v3:ae}(h:cU a b o r)(hl:Fw a b 10 [(o.l0,gd),(o.l1,cm),(o.l2,F),(o.l3,ge)])(r0:Row a 1 d (y n) (n.map cH.D))(r1:Row a 1 w (y p) (p.map cH.D))(r2:Row a 1 v2 (y q) (q.map cH.D))(r3:Row a 1 v3 (y s) (s.map cH.D))(k0:∀r,cN d=M r->r<G (H a))(k1:∀r,cN w=M r->r<G (H a))(k2:∀r,cN v2=M r->r<G (H a))(k3:∀r,cN v3=M r->r<G (H a))(hT:∀D∈gd++cm++F++ge,MY a D)(cp:∀D∈n++p++q++s,MY a D)(hp:Pow a)(fk:o.l<18446744073709551616)(fs:y (gd++cm++F++ge)<=20000000000)(fu:y (n++p++q++s)<=20000000000):cR bN 204 #[aJ b,ef #[d,w,v2,v3]] a λcn w'=>∃v',cn=aN v'/\fE w' (G<|H a) 9 1 v' (y<|oe o (gd++cm++F++ge)<|n++p++q++s) (strs<|oe o (gd++cm++F++ge)<|n++p++q++s)/\I aC a w':=by
 have gx:=@tE bN;have gg:∀(ej:eN)(a:Z),(Op.unary .not<|aO ej).run bN a=.ok (aO<|!ej) a:=λ_ _=>rfl;let⟨i0,cx,eb,ec,ed⟩:=cZ BU;let⟨i1,fi,gc,hc,hd⟩:=cZ Hn;obtain⟨x0,c0,rfl⟩:=cG r0;obtain⟨x1,c1,rfl⟩:=cG r1;obtain⟨x2,c2,rfl⟩:=cG r2;obtain⟨x3,c3,rfl⟩:=cG r3;have fl:Fw (dw a<|aK #[am x0 (y n) c0,am x1 (y p) c1,am x2 (y q) c2,am x3 (y s) c3] 108) (G<|H a) 0 [(am x0 (y n) c0,n),(am x1 (y p) c1,p),(am x2 (y q) c2,q),(am x3 (y s) c3,s)]:=by have ac:I aC a (dw a<|aK #[am x0 (y n) c0,am x1 (y p) c1,am x2 (y q) c2,am x3 (y s) c3] 108):=(cI _ _);have dk:(dw a<|aK #[am x0 (y n) c0,am x1 (y p) c1,am x2 (y q) c2,am x3 (y s) c3] 108).heap[G<|H a]?=M (aK #[am x0 (y n) c0,am x1 (y p) c1,am x2 (y q) c2,am x3 (y s) c3] 108 (0,0)):=aQ _ z;refine⟨z,λaa hi=>?_,λaa hi=>?_,λaa hi=>?_,by rw[UC];omega⟩;have:aa=0\/aa=1\/aa=2\/aa=3:=aI;obtain rfl|rfl|rfl|rfl:=this<;>(rw[cE dk];rfl);have:aa=0\/aa=1\/aa=2\/aa=3:=aI;obtain rfl|rfl|rfl|rfl:=this;exact ac.bV r0 aI;exact ac.bV r1 aI;exact ac.bV r2 aI;exact ac.bV r3 aI;grind
 let⟨T,cr⟩:∃T,gd++cm++F++ge=T:=⟨_,rfl⟩;let⟨e,aU⟩:∃e,n++p++q++s=e:=⟨_,rfl⟩;have cM:∀bi,I aC a bi->cR bN 127 #[ee<|M<|X b 10] bi λcn w'=>∃v',cn=aN v'/\fE w' (G<|H bi) 235 1 v' (y T) (T.map cH.D)/\I aC bi w':=λbi g=>by have:=uA (w:=bi) (lb:=b) (lo:=10) _<|hl.aA g id<|λ_ _ _ _ F=>F;rw[TQ,UC,cr]at this;exact this
 have bl:∀bi,I aC (dw a<|aK #[am x0 (y n) c0,am x1 (y p) c1,am x2 (y q) c2,am x3 (y s) c3] 108) bi->cR bN 127 #[aJ<|G<|H a] bi λcn w'=>∃v',cn=aN v'/\fE w' (G<|H bi) 235 1 v' (y e) (e.map cH.D)/\I aC bi w':=λbi g=>by have:=uA (w:=bi) (lb:=G<|H a) (lo:=0) _<|fl.aA g id<|λ_ _ _ _ F=>F;rw[TQ,UC,aU]at this;exact this
 rw[cr]at hT fs|-;rw[aU]at cp fu|-;have bd:=ak cp;let⟨HB,HP,em⟩:=eU h hp cM;have ax:=ak bl;let⟨WB,cs⟩:∃WB,dw a (aK #[am x0 (y n) c0,am x1 (y p) c1,am x2 (y q) c2,am x3 (y s) c3] 108)=WB:=⟨_,rfl⟩;have bo:I aC a WB:=by rw[<-cs];exact(cI _ _)
 have co:=bo.A b (az h) id|>.trans HB;have eB:=cU.bW co 18 z;have gn:=cU.bW co 17 z;have fn:Pow WB:=HP.aA bo id;have cB:=AN o.l fk fn;have bh:=ak bo;rw[cs]at ax;let⟨lg,aV⟩:∃lg,o.i=lg:=⟨_,rfl⟩;have bv:=ak (show oe o T e=(if lg then [gX o.l]else [])++(rA T e).map (λD=>jg D.cK)by rw[<-aV];rfl);rw[aV]at eB;generalize o.l=eg at*;go_in
 cases lg;(case' false=>go_wp21;generalize ac:WB=W5;have ab:=ak (show I aC WB W5 by rw[<-ac];exact I.bI _ _);let⟨v5,u⟩:∃v5,v5=am dE 0 0:=⟨_,rfl⟩;let⟨c,f⟩:∃c:cy af,c=[]:=⟨_,rfl⟩;have m:=ak (show fE W5 (G<|H a) 9 1 v5 (y c) (strs c)by rw[u,f];exact ct _ _ _ _);have av:=ak (show oe o T e=c++(rA T e).map (λD=>jg D.cK)by rw[f];exact bv);(have fr:y c<=1:=by rw[f];simp);have cj:=ak u);(case' true=>go_wp21;go_call(ak cB)as cn w2⟨rfl,ff⟩;have ac:=ak<|I.p (S:=aC) ff;(go_wp2_with(at_builtin;refine cq _ z (.tmp 17) (.tmp 23) 81 z (G<|H a) 9 i0 (aw ⟨#[]⟩) 1 16 underlying81 cx eb ec ed z cg aF 0 [] z (ct _ _ _ _) (X (G<|H w2) 0) 1 1 [aw<|gX eg] z z (pP _ _ _) (by simp[Value.oneCell']) U U (by have:=bh.D;have:=ac.D;simp;omega) ?_;intro v3 W5 dk fL;let⟨x5,c5,u⟩:=aM dk;subst u;have m:=ak dk;have eA:=ak fL));have ab:=ak<|show I aC WB W5 from((ac.aE _).t<|I.eF (S:=aC) eA.dF<|λr l=>by cases l);let⟨v5,u⟩:∃v5,v5=am x5 1 c5:=⟨_,rfl⟩;let⟨c,f⟩:∃c:cy af,c=[gX eg]:=⟨_,rfl⟩;have m:=ak (show fE W5 (G<|H a) 9 1 v5 (y c) (strs c)by rw[u,f];exact ag m);have av:=ak (show oe o T e=c++(rA T e).map (λD=>jg D.cK)by rw[f];exact bv);(have fr:y c<=1:=by rw[f];simp);have cj:=ak u)
 all_goals
  have gE:=ab.D;have ha:=bh.D;go_call ax (dw W5<|.map #[] 0) (ab.aE _)as cn w6⟨v6,rfl,dn,bn⟩;let⟨x6,c6,fx⟩:=aM dn;subst fx;let⟨cd,et,bT,cb⟩:=js ((mL.lY W5 .string).dU<|bn.A _ ar id) (bh.t<|(ab.aE<|.map #[] 0).aj bn cY) ((((I.bI aC W5).aE<|.map #[] 0).t bn).aZ m<|λ_ _ F=>F) dn;let⟨v,cT⟩:∃v,G (H W5)=v:=⟨_,rfl⟩;rw[cT]at cd;have gf:G (H a)<=v:=U;have en:=ak (show v<G (H<|dw W5<|.map #[] 0)by rw[<-cT];simp);go_wp21;go_loopw [28] (λaa wr=>∃ap:R,ap<=y e/\aa=ay ap/\mL wr v .string (λej=>∃D∈e.take ap,ej=aw (jg D.cK))/\I (λr=>r=v) w6 wr) (λaa _=>y e-(intOf aa).toNat)
  .exact⟨0,bQ _,z,cd.yM ar,I.bI _ _⟩
  .obtain⟨ap,hn,rfl,j,ao⟩:=hrel;have bp:I aC a wr:=et.aj ao aI;by_cases x:ap<y e
   .have Q:=ao.aZ cb<|λr l F=>gW ((cb.lt r l).1)<|ag en;let⟨b6,ga,bk⟩:∃b6,x6=M (X b6 0)/\bA wr (X b6 ap)=M e[ap].D:=by
     obtain⟨h2,h0⟩|⟨gr,fb,fd,h2,_⟩:=Q.2
     .omega
     .cases h2;refine⟨gr,z,?_⟩;have:=rk Q ap e[ap].D (by rw[fP,bF x];rfl);rwa[dS,ez]at this
    subst ga;have ad:=(bd e[ap]<|aB x).aA bp|>.dA (HP.aA bp id);have bg:=ak (show∀ej,(∃D∈e.take (ap+1),ej=aw (jg D.cK))↔(∃D∈e.take ap,ej=aw (jg D.cK))\/ej=aw (jg e[ap].cK)fromλej=>by
     rw[aG x];grind)
    have A:=j.lt;have K:=ak j;have ey:=ak ao;have e1:(ap:Y)<(y e:Y):=U;unfold cH.D at bk;generalize jg e[ap].cK=k at*;generalize e[ap].tb=j8 at*;go_wp21;go_call ad as cn w7⟨rfl,cv⟩;have eq:=ak<|K.dU<|cv.block v A;have ev:=ak<|ey.t<|I.p (S:=aC) cv;go_wp2_with(at_mapUpdate;refine wH _ z _ _ _ 247 z 9 95 underlying247 .string underlying9 v _ z eq (aw k) trivial z z ?_;intro w8 fv fg;have er:=ak fv;have ek:=ak fg)
    go_roundw
    .exact⟨ap+1,x,dM,er.yM bg,ev.aj (gI ek)<|λ_ F=>J F⟩
    .simp[intOf];omega
   .have al:ap=y e:=U;rw[al,cQ]at j;have e1:¬(ap:Y)<(y e:Y):=U;have A:=j.lt;let⟨K,ce,aD⟩:=eU j bp<|ao.aZ bT<|λr l F=>bP<|(m.lt r l).2;go_wp21;go_call em wr ce as cn w9⟨v9,rfl,dr,an⟩;obtain⟨x9,c9,fz⟩:=aM dr;subst fz;let⟨es,cc,ca,ex,bc,eo⟩:=nU (K.dU<|an.A v A id) dr (an.aZ aD<|λ_ _ F=>F) (ce.t an) (show∀r,cN v5=M r->G (H a)<=r/\r<G (H wr)/\r≠v fromλr l=>⟨(m.lt r l).1,(aD.lt r l).2,bP<|(m.lt r l).2⟩)<|show v<G (H wr)/\G (H wr)<=G (H w9)from⟨A,an.D⟩;go_wp21;go_loopw [5,42] (λo aa b=>∃E:R,E<=y T/\aa=ay E/\fE b (G<|H a) 9 1 o (y<|c++(rA (T.take E) e).map (λD=>jg D.cK)) (strs<|c++(rA (T.take E) e).map (λD=>jg D.cK))/\fo w9 b v5 o) (λ_ aa _=>y T-(intOf aa).toNat)
    .refine⟨0,bQ _,z,?_,?_⟩
     .rw[<-ag cj];have:c++(rA (T.take 0) e).map (λD=>jg D.cK)=c:=by simp[rA]
      rw[this];exact ca
     grind[ag,fo.bI]
    .obtain⟨E,hm,rfl,ho,bq⟩:=hrel;let⟨ox,oc,dv⟩:=aM ho;have B:I (λr=>cN v5=M r) w9 wr:=I.eF bq.dF<|λr l=>J l;have C:I aC a wr:=ex.aj B<|λr l=>bu (bc r l).1;have t:=es.dU<|B.A v (bP<|ag eo)<|λF=>(bc v F).2.2 z;have ds:∀r,cN u5=M r->r≠v:=λr l F=>by
      grind[fo.f,ag]
     by_cases i:E<y T
     .have Q:=B.aZ cc<|λr l F=>gW ((cc.lt r l).1)<|(bc r F).2.1;let⟨b9,gb,bk⟩:∃b9,x9=M (X b9 0)/\bA wr (X b9 E)=M T[E].D:=by
       obtain⟨h2,h0⟩|⟨gr,fb,fd,h2,_⟩:=Q.2
       .omega
       .cases h2;refine⟨gr,z,?_⟩;have:=rk Q E T[E].D (by rw[fP,bF i];rfl);rwa[dS,ez]at this
      subst gb;have ba:=HP.aA C id;have P:=((ak hT) T[E]<|aB i).aA C;have ad:=P.dA ba;have db:=λbi(g:I aC wr bi)=>(P.aA g).dA<|ba.aA g id;have bg:=ak<|SG (T':=e) i;have N:=A7 (T':=e) T[E];have e1:(E:Y)<(y T:Y):=U;have bm:=t.lt;have gt:y (c++(rA (T.take E) e).map (λD=>jg D.cK))<=30000000000:=by
       have:y (rA (T.take E) e)<=y (T.take E):=gN _ _;rw[dX]at this;rw[ai,cS];omega
      let⟨bf,HO,cl,ch,gj,bx⟩:=nU t ho bq C ds db;unfold cH.D at bk;have el:=ak (show∀cm,e.any (λu=>u.cK==T[E].cK)=cm->(c++(rA (T.take<|E+1) e).map (λD=>jg D.cK))=(c++(rA (T.take E) e).map (λD=>jg D.cK))++(if cm then []else [jg T[E].cK])fromλcm hb=>by
       rw[ag bg,hb,bz,cw];cases cm<;>rfl)
      let⟨gi,hr⟩:∃gi,e.any (λu=>u.cK==T[E].cK)=gi:=⟨_,rfl⟩;have fe:=el gi hr;rw[hr]at N;have bt:=ak fe;generalize gs:c++(rA (T.take E) e).map (λD=>jg D.cK)=Lm at*;have bs:=ak N;clear N;generalize dc:jg T[E].cK=k at*;clear dc;generalize T[E].tb=j8 at*;subst dv;go_wp21;go_call ad as cn ei⟨rfl,O⟩;have V:I aC wr ei:=I.p O;have bb:=bf.dU<|O.block v bm;have gv:=DH underlying247 underlying9 fi gc bb (aw k) trivial gi bs;have bE:=ak<|V.aZ HO<|λ_ _ F=>F;have L:=ak V;clear bb V O ad;cases gi with
      |true=>
       go_wp2;go_roundw
       .refine⟨E+1,i,dM,?_,?_⟩
        .rw[ag bt];simp only[mT,eu];exact bC bE _
        .have g:=(L.aE<|aK #[] 95);refine cl.aj ⟨⟨g.os,g.l,g.f,g.D,λaa hi _=>g.A aa hi id⟩,J z⟩
       .simp[intOf];omega
      |false=>
       go_wp21;go_call bx (dw ei<|aK #[] 95) (L.aE _)as cn br⟨rfl,cu⟩;have W:I aC wr br:=(L.aE<|aK #[] 95).t<|I.p (S:=aC) cu;have bL:=ak<|W.aZ HO<|λ_ _ F=>F;go_wp2_with(at_builtin;refine cq _ z (.tmp 55) (.tmp 58) 81 z (G<|H a) 9 i0 (aw ⟨#[]⟩) 1 16 underlying81 cx eb ec ed z cg (am ox (y Lm) oc) (y Lm) (strs Lm) z (bC bL<|aK #[aw k] 9) (X (G<|H br) 0) 1 1 [aw k] z z (pP _ _ _) (by simp[Value.oneCell']) U U (by have:=ch.D;have:=W.D;simp;omega) ?_;intro he hf dd ea;let⟨hg,gk,dT⟩:=aM dd;subst dT;have ck:=ak ea)
       go_roundw;case rel=>
        refine⟨E+1,i,dM,?_,?_⟩
        .rw[ag bt];simp only[lj,mA];rwa[DA,ai]
        .have g:=W;have h1:fo wr br (am ox (y Lm) oc) (am ox (y Lm) oc):=⟨⟨g.os,g.l,g.f,g.D,λaa hi _=>g.A aa hi id⟩,J z⟩;exact cl.aj<|h1.aj<|fo.aE _ ck
       case measure=>simp[intOf];omega
     .have al:E=y T:=U;rw[al,cQ,<-ag av]at ho;have:¬(E:Y)<(y T:Y):=U;obtain⟨oy,od,dx⟩:=aM ho;clear bq B t ds al dv;subst dx;go_wp2;go_ret;exact⟨_,z,ho,C⟩
def NT.mG.zC{p q:NT}(h:p.mG q):q.mG p:=λk d c=>h k c d
def A6{ps:cy NT}(h:ps.Pairwise NT.mG){p q:NT}(j:p∈ps)(k:q∈ps)(g:p≠q):p.mG q:=by
 obtain⟨i,d,rfl⟩:=lH.1 j;obtain⟨l,f,rfl⟩:=lH.1 k;rw[cW]at h;obtain c|c|c:=mU i l;grind
 grind
 exact(h l i f d c).zC
def JC{w k:Z}{n6 s c u j t d:R}{l:iF}(h:fE w n6 s c (bX j 0 t d) u l)(r:k.heap[j]?=w.heap[j]?):fE k n6 s c (bX j 0 t d) u l:=by
 refine⟨h.1,bu ?_⟩;obtain⟨n,_⟩|⟨v,g,f,n,o,p,q⟩:=h.2;cases n;cases n;exact⟨j,d,f,z,o,r.trans p,q⟩
structure Dm(w:Z)(db:R)(A:fC)(t:cH):Prop where
 D:∃bb boff vW,mR w t.tb (aJ db) t.cK (jN t.ks) (y<|iE t.ks) (pu<|iE t.ks) bb boff vW aF t.ks/\A bb
 l:A t.tb
 cK:t.cK<18446744073709551616
 jW:nz t.ks
def qF.h{w:Z}{db:R}{c:Fs}{A:fC}{t:cH}(h:qF w db c A t):Dm w db A t:=⟨h.D,h.l,h.cK,h.jW⟩
def Dm.A{w w':Z}{db:R}{A:fC}{t:cH}(h:Dm w db A t)(g:∀l,A l->w'.heap[l]?=w.heap[l]?):Dm w' db A t:=by
 let⟨j,d,c,k,f⟩:=h.D;exact⟨⟨j,d,c,k.dU (g _ h.l)<|g _ f,f⟩,h.l,h.cK,h.jW⟩
def Dm.Ap{w:Z}{db:R}{A B:fC}{t:cH}(h:Dm w db A t)(g:Fs)(f:∀n,A n->B n):qF w db g B (jb eX.choose g t):=by
 let⟨j,d,c,l,k⟩:=h.D;exact⟨⟨j,d,c,l,f _ k⟩,f _ h.l,h.cK,h.jW,z⟩
structure CF(w:Z)(db sb base:R)(K:DK)(a:dI)(ps:cy NT)(T:dI):Prop where
 le:base<=G (H w)
 j:∀k,K.j db k->k<base
 B:sb<base
 xt:∀t∈T,XT a ps t
 kh:(T.map cH.tb).Nodup
 fq:ps.Pairwise NT.mG
 S:∀p∈ps,p.Ok w base/\Ks p.t
 i:MT db sb base K 1
 n:MT db sb base K 2
 f:y T<=3000000000
 d:qu K.fx
 L:K.fx.ok
 l:y K.l<=100000000000
def Wr(db:R)(K:DK)(ps:cy NT)(k:R):Prop:=K.j db k\/∃p∈ps,k=p.t.tb\/k=p.x
def ly(us:dI):cy qG:=us.flatMap<|λu=>tM u.cK u.cs
def TV(us:dI)(u:cH):ly (us++[u])=ly us++tM u.cK u.cs:=by simp[ly]
def Y3(us:dI):y (ly us)=3*y us:=by
 induction us with
 |nil=>rfl
 |cons u r c=>
  have:ly (u::r)=tM u.cK u.cs++ly r:=by simp[ly]
  rw[this,ai,c,bK];simp[tM];omega
structure NwT(u:cH):Prop where
 ks:u.ks=dK 0 u.cs
 ok:Ks u
 cK:u.cK<18446744073709551616
structure CM(w:Z)(db sb base:R)(K:DK)(a:dI)(ps:cy NT)(T:dI)(wr:Z)(b:DK)(us e:dI)(i dz:R):Prop where
 dL:y us=i
 le:i<=y T
 bM:us.map (λt=>(t.tb,t.ks))=(T.take i).map (λt=>(t.tb,t.ks))
 qP:∀t∈a,qF wr db (vw K.ah) (MT db sb base K) t
 S:∀u∈us,u∈a\/u∈e/\∃p∈ps,p.t.tb=u.tb/\Dm wr db p.D u
 D:∀p∈ps,p.t∈T.drop i->p.Ok wr base
 fx:Fx K.fx b.fx
 lN:mu (ly e) K b
 YD:y e<=i
 L:∀u∈e,u∈us/\NwT u
 nl:dz<18446744073709551616
 f:cJ wr db b
 l:y b.l<=y K.l+i
 aA:I (Wr db K ps) w wr
 j:∀k,b.j db k->K.j db k\/G (H w)<=k
 o:Steps wr
 x:Pow wr
section
variable{w wr w2:Z}{db j3 n6:R}{K b m:DK}{a:dI}{ps:cy NT}{T us e:dI}{i dz:R}
def CM.A(h:CF w db j3 n6 K a ps T)(k:∀t∈a,qF w db (vw K.ah) (MT db j3 n6 K) t)(d:cJ w db K)(n:Steps w)(c:Pow w)(g:dz<18446744073709551616):CM w db j3 n6 K a ps T w K [] [] 0 dz where
 dL:=rfl
 le:=bQ _
 bM:=ar
 qP:=k
 S:=ar
 D:=λp c _=>(h.S p c).1
 fx:=Fx.bI _
 lN:=⟨z,z,z⟩
 YD:=aq _
 L:=ar
 nl:=g
 f:=d
 l:=aq _
 aA:=I.bI _ _
 j:=λ_ h=>J h
 o:=n
 x:=c
def YM(h:us.map (λt=>(t.tb,t.ks))=(T.take i).map (λt=>(t.tb,t.ks))):us.map cH.tb=(T.take i).map cH.tb:=by
 have:=cD (List.map Prod.fst) h;grind[map_map,Function.comp_def]
def U3(j:(T.map cH.tb).Nodup)(g:i<y T)(h:us.map (λt=>(t.tb,t.ks))=(T.take i).map (λt=>(t.tb,t.ks))):∀u∈us,u.tb≠T[i].tb:=by
 intro u l d;have c:u.tb∈(T.take i).map cH.tb:=by rw[<-YM h];grind
 rw[d]at c;let⟨t,k,f⟩:=cC.1 c;grind[mem_iff_getElem,length_take,pairwise_iff_getElem]
def Jo(c:i<y T)(h:us.map (λt=>(t.tb,t.ks))=(T.take i).map (λt=>(t.tb,t.ks)))(u:cH)(d:(u.tb,u.ks)=(T[i].tb,T[i].ks)):(us++[u]).map (λt=>(t.tb,t.ks))=(T.take<|i+1).map (λt=>(t.tb,t.ks)):=by
 rw[aG c,bz,bz,h];grind
def CM.t(_:CF w db j3 n6 K a ps T)(hm:CM w db j3 n6 K a ps T wr b us e i dz)(d:i<y T)(g:T[i]∈a):CM w db j3 n6 K a ps T wr b (us++[T[i]]) e (i+1) dz:=by
 refine{hm with dL:=by rw[ai,hm.dL];rfl,le:=d,bM:=Jo d hm.bM _ z,S:=?_,D:=?_,YD:=bP hm.YD,L:=λu c=>⟨gY _ (hm.L u c).1,(hm.L u c).2⟩,l:=bP hm.l};intro u c;obtain f|f:=aP.1 c;exact hm.S u f;rw[bY.1 f];exact J g;intro p f h;apply hm.D p f;rw[<-mh d];grind
def CM.lB(h:CF w db j3 n6 K a ps T)(c:CM w db j3 n6 K a ps T wr b us e i dz)(F:i<y T){p:NT}(E:p∈ps)(t:p.t=T[i])(hd:cJ w2 db m)(ht:I (λk=>b.j db k\/k=p.t.tb\/k=p.x) wr w2)(hf:∀k,m.j db k->b.j db k\/G (H wr)<=k)(O:mu (tM dz p.t.cs) b m)(W:Fx b.fx m.fx)(hT:mR w2 p.t.tb (aJ db) dz (y<|gF p.t.cs) (y<|iE<|dK 0 p.t.cs) (pu<|iE<|dK 0 p.t.cs) p.bb 0 p.vW aF (dK 0 p.t.cs)):CM w db j3 n6 K a ps T w2 m (us++[{T[i]with cK:=dz}]) (e++[{T[i]with cK:=dz}]) (i+1) ((dz+1) %18446744073709551616):=by
 have r:=(h.S p E).1;have:=c.aA.D;have:=h.le
 have u:∀k,k<G (H w)->¬K.j db k->¬p.D k->w2.heap[k]?=wr.heap[k]?:=λk s P g=>ht.A k U (λd=>by
  obtain d|d|d:=d
  .obtain V|V:=c.j k d
   .exact P V
   .omega
  .exact g<|J d
  .exact g (bu (bu d)))
 have v:∀k,MT db j3 n6 K k->w2.heap[k]?=wr.heap[k]?:=λk s=>u k (bP s.1) s.2.1<|λd=>gW ((r.lt k d).1) s.1;have n:∀q∈ps,q≠p->∀k,q.D k->w2.heap[k]?=wr.heap[k]?:=λq B C k s=>by have g:=(h.S q B).1.lt k s;exact u k g.2 (λd=>bP<|h.j k d)<|A6 h.fq B E C k s
 have A:=(h.S p E).2;have N:Dm w2 db p.D {T[i]with cK:=dz}:=by rw[<-t];refine⟨⟨p.bb,0,p.vW,?_,bu<|J z⟩,J z,c.nl,?_⟩;show mR w2 p.t.tb _ dz (jN p.t.ks) (y<|iE p.t.ks) (pu<|iE p.t.ks) p.bb 0 p.vW _ p.t.ks;rwa[r.ks,yj];show nz p.t.ks;rw[r.ks];exact A.jW
 refine{dL:=by rw[ai,c.dL];rfl,le:=F,bM:=Jo F c.bM _ z,qP:=λad h0=>(c.qP ad h0).A v,S:=?_,D:=?_,fx:=c.fx.aj W,lN:=?_,YD:=by rw[ai];have:=c.YD;simp;omega,L:=?_,nl:=ol _ cg,f:=hd,l:=gW c.l<|Ov O,aA:=?_,j:=?_,o:=?_,x:=?_};intro ab hu;obtain d|d:=aP.1 hu;obtain V|⟨P,q,B,aa,Q⟩:=c.S ab d;exact J V;refine bu ⟨gY _ P,q,B,aa,?_⟩;by_cases g:q=p;subst g;exfalso;exact U3 h.kh F c.bM ab d (by rw[<-aa,t]);exact Q.A<|n q B g;rw[bY]at d;subst d;exact bu ⟨ar,p,E,by rw[t],N⟩;intro q B P;(have C:q≠p:=λaa=>by subst aa;rw[t]at P;let⟨ac,hj,aa⟩:=lH.1 P;rw[rP]at aa;have:=cW.1 h.kh i (i+1+ac) (dV F) (by simpa using(by rw[iZ]at hj;omega:i+1+ac<y T)) U;grind);have g:=c.D q B (by rw[<-mh F];grind);have Q:=n q B C;exact⟨g.ks,g.cK,g.f,g.D.dU (Q _<|J z)<|Q _<|bu<|J z,JC g.A<|Q _<|bu<|bu z,JC g.L<|Q _<|bu<|J z,g.lY⟩;rw[TV];rw[(by rw[t]:({T[i]with cK:=dz}:cH).cs=p.t.cs)];exact mu.Fa c.lN O;intro ab hu;obtain d|d:=aP.1 hu;exact⟨gY _ (c.L ab d).1,(c.L ab d).2⟩;rw[bY]at d;subst d;refine⟨ar,?_⟩;rw[<-t];exact⟨r.ks,⟨A.p,A.jW,A.f⟩,c.nl⟩;refine c.aA.aj ht<|λk s=>?_;obtain d|d|d:=s;obtain V|V:=c.j k d;exact J<|J V;exact bu V;exact J<|bu ⟨p,E,J d⟩;exact J<|bu ⟨p,E,bu d⟩;intro k s;obtain d|d:=hf k s;exact c.j k d;exact bu U;exactλk s=>(dZ (w:=wr)<|v _ h.i).trans<|c.o k s;exact c.x.dU<|v _ h.n
def Wc{c:iG}(h:∀d∈c,∀x∈d,x.Good):kj (gF c):=by
 induction c with
 |nil=>intro x f;simp[gF]at f
 |cons d r g=>
  rw[qU];exact((Po<|h d ar).jO<|kj.le 4 _).jO aI
structure CmB(w w':Z)(db:R)(K K':DK)(ps:cy NT)(q:R):Prop where
 ok:cJ w' db K'
 aA:I (Wr db K ps) w w'
 j:∀k,K'.j db k->K.j db k\/G (H w)<=k
 fx:Fx K.fx K'.fx
 lN:∃l e,l<+:ly e/\mu l K K'/\y e<=3000000000/\∀u∈e,NwT u
 f:∃c,rE w' q c/\Xn K.fx c
def CM.p(h:CF w db j3 n6 K a ps T)(c:CM w db j3 n6 K a ps T wr b us e i dz)(Q:i<y T){p:NT}(l:p∈ps)(n:p.t=T[i]):cR bN 201 #[aJ<|T[i].tb,aJ db,bw dz] wr λab C=>∃S s,ab=aN S/\((S=ic/\∃B A,CM w db j3 n6 K a ps T C s B A (i+1)<|(dz+1) %18446744073709551616)\/∃q,S=eW q/\CmB w C db K s ps q):=by
 have d:=c.D p l (by rw[n,<-mh Q];grind);have f:=(h.S p l).2;have t:=(h.S p l).1.lt;have k:∀o,p.D o->¬b.j db o:=λo r g=>by obtain D|D:=c.j o g;have:=h.j o D;have:=(t o r).1;omega;have:=(t o r).2;omega
 have v:p.bb≠p.t.tb:=by let⟨u,P⟩:=gh d.L (k:=p.bb) rfl;exact lk P d.D.g cg
 have x:p.bb≠p.x:=by let⟨u,P⟩:=gh d.L (k:=p.bb) rfl;let⟨E,aa⟩:=gh d.A (k:=p.x) rfl;grind
 have j:=d.D;rw[d.ks]at j;rw[<-n];refine(KF dz c.nl p.x p.IX p.t.cs j d.A (gW h.le c.aA.D) f.jW (Wc f.p.S) c.o c.x f.f c.f (Lu c.l h.l h.f) (c.fx.D h.d:qu b.fx) (k _<|bu<|bu z) (k _<|J z) (k _<|bu<|J z) v x).mono ?_;rintro ab C⟨S,s,rfl,F,L,N,O,⟨rfl,V,W⟩|⟨ac,q,g,r1,r2,rfl,r3,r4⟩⟩;exact⟨_,s,z,J ⟨z,_,_,c.lB h Q l n F L N V O W⟩⟩;refine⟨_,s,z,bu ⟨q,z,F,?_,?_,c.fx.aj O,⟨ly e++ac,e++[{p.t with cK:=dz}],?_,mu.Fa c.lN r2,?_,?_⟩,g,r3,c.fx.A h.L r4⟩⟩;refine c.aA.aj L<|λo r=>?_;obtain g|g|g:=r;obtain D|D:=c.j o g;exact J<|J D;exact bu D;exact J<|bu ⟨p,l,J g⟩;exact J<|bu ⟨p,l,bu g⟩;intro o r;obtain g|g:=N o r;exact c.j o g;exact bu<|aR c.aA.D g;rw[TV];exact(iw _).2 r1;rw[ai];have:=c.YD;have:=h.f;simp;omega;intro aa E;obtain g|g:=aP.1 E;exact(c.L aa g).2;rw[bY.1 g];exact⟨(h.S p l).1.ks,⟨f.p,f.jW,f.f⟩,c.nl⟩
end
def J3{w:Z}(f g h j:Option Addr)(d c1 c2 c3:R)(k l n o:dI)(s:Row w 1 (.slice f (y k) d) (y k) (k.map cH.D))(t:Row w 1 (.slice g (y l) c1) (y l) (l.map cH.D))(u:Row w 1 (.slice h (y n) c2) (y n) (n.map cH.D))(v:Row w 1 (.slice j (y o) c3) (y o) (o.map cH.D))(A:∀p,cN (.slice f (y k) d)=M p->p<G (H w))(B:∀p,cN (.slice g (y l) c1)=M p->p<G (H w))(C:∀p,cN (.slice h (y n) c2)=M p->p<G (H w))(D:∀p,cN (.slice j (y o) c3)=M p->p<G (H w))(x:y (k++l++n++o)<=20000000000):Fw (dw w<|aK #[.slice f (y k) d,.slice g (y l) c1,.slice h (y n) c2,.slice j (y o) c3] 108) (G<|H w) 0 [(.slice f (y k) d,k),(.slice g (y l) c1,l),(.slice h (y n) c2,n),(.slice j (y o) c3,o)]:=by
 have c:I aC w (dw w<|aK #[.slice f (y k) d,.slice g (y l) c1,.slice h (y n) c2,.slice j (y o) c3] 108):=(cI _ _);have q:(dw w<|aK #[.slice f (y k) d,.slice g (y l) c1,.slice h (y n) c2,.slice j (y o) c3] 108).heap[G<|H w]?=M (aK #[.slice f (y k) d,.slice g (y l) c1,.slice h (y n) c2,.slice j (y o) c3] 108 (0,0)):=aQ _ z;refine⟨z,λi r=>?_,λi r=>?_,λi r=>?_,by rw[UC];omega⟩;have:i=0\/i=1\/i=2\/i=3:=aI;obtain rfl|rfl|rfl|rfl:=this<;>(rw[cE q];rfl);have:i=0\/i=1\/i=2\/i=3:=aI;obtain rfl|rfl|rfl|rfl:=this;exact c.bV s aI;exact c.bV t aI;exact c.bV u aI;exact c.bV v aI;grind
def SR.pW(s:SR)(a b c d:ae)(n dz:R):SR:={s with L:=aF,o:=0,S:=n,l0:=a,l1:=b,l2:=c,l3:=d,t:=(dz+1) %18446744073709551616,l:=dz,i:=bD,my:=bD,k:=bD,x:=bD}
def U7{g:dI}(h:l.map (λt=>(t.tb,t.ks))=(v++C++F++g).map (λt=>(t.tb,t.ks))):∃a b c d,l=a++b++c++d/\a.map (λt=>(t.tb,t.ks))=v.map (λt=>(t.tb,t.ks))/\b.map (λt=>(t.tb,t.ks))=C.map (λt=>(t.tb,t.ks))/\c.map (λt=>(t.tb,t.ks))=F.map (λt=>(t.tb,t.ks))/\d.map (λt=>(t.tb,t.ks))=g.map (λt=>(t.tb,t.ks)):=by
 rw[bz,bz,bz]at h;obtain⟨x,d,rfl,e,j⟩:=jz.1 h;obtain⟨i,c,rfl,f,k⟩:=jz.1 e;obtain⟨a,b,rfl,m,n⟩:=jz.1 f;grind
def qA(h:l.map (λt=>(t.tb,t.ks))=v.map (λt=>(t.tb,t.ks))):l.map cH.D=v.map cH.D/\y l=y v/\im l=im v:=by
 have a:=cD (List.map (λp:R×ld=>ee<|M<|X p.1 0)) h;have b:=cD (λa=>(a.map (λp:R×ld=>qD p.2)).sum) h;simp only[iW,kL]at a b;exact⟨a,dV<|cD y h,b⟩
def Ra(dz n:R)(a:cy dI):eD:=mj (((dz+1) %18446744073709551616:R):Y) dz n a
def Ur(w c:Z)(b:R)(s:SR)(k:Y)(r C:R)(K:DK)(l:cy NT)(v x A B:ae)(n o p q j:dI):Prop:=∃(m wr:Z)(i a:DK)(h u d e f g:dI)(dz:R),I aC w m/\CM m s.f b r K j l (n++o++p++q) wr i h u (y<|n++o++p++q) dz/\h=d++e++f++g/\d.map (λt=>(t.tb,t.ks))=n.map (λt=>(t.tb,t.ks))/\e.map (λt=>(t.tb,t.ks))=o.map (λt=>(t.tb,t.ks))/\f.map (λt=>(t.tb,t.ks))=p.map (λt=>(t.tb,t.ks))/\g.map (λt=>(t.tb,t.ks))=q.map (λt=>(t.tb,t.ks))/\cU c b (s.pW v x A B C dz) k/\cJ c s.f a/\(∀k,k<G (H w)->¬K.j s.f k->k≠b->c.heap[k]?=wr.heap[k]?)/\I (λk=>Wr s.f K l k\/k=b) w c/\(∀k,a.j s.f k->K.j s.f k\/G (H w)<=k)/\Fx K.fx a.fx/\mu (vt (Ra dz C [d,e,f,g])++(oe s j h).map .rm) i a
def Q2(s:SR)(K d:DK)(N:R):Prop:=∃(l:cy qG)(b:dI)(c:eD)(a:cy af),l<+:ly b++(vt c++a.map .rm)/\mu l K d/\y b<=3000000000/\(∀u∈b,NwT u)/\y c<=20*N+44/\y a<=3000000001/\∀n∈a,Nm n
structure CmE(w w':Z)(sb:R)(s:SR)(k:Y)(K K':DK)(ps:cy NT)(N:R)(v:ae):Prop where
 ok:cJ w' s.f K'
 aA:I (λk=>Wr s.f K ps k\/k=sb) w w'
 j:∀k,K'.j s.f k->K.j s.f k\/G (H w)<=k
 fx:Fx K.fx K'.fx
 g:∃s',cU w' sb s' k/\s'.d=s.d/\s'.f=s.f
 f:∃q c,v=eW q/\rE w' q c/\Xn K.fx c
 lN:Q2 s K K' N
def CmW(w c:Z)(a:R)(s:SR)(p:Y)(f q:R)(K:DK)(b:cy NT)(g h i j:ae)(k l m n e:dI)(o:Ending):Prop:=(o=aN ic/\Ur w c a s p f q K b g h i j k l m n e)\/∃v d,o=aN v/\CmE w c a s p K d b (y<|k++l++m++n) v
def TA(dz n:R)(a b c d:dI):y (Ra dz n [a,b,c,d])=20*y (a++b++c++d)+44:=by
 unfold Ra mj;rw[iB];simp only[ai,dh,bO,gB,di,jF,eE,tW];omega
def Pr(s:SR)(a b:dI)(h:y a<=3000000000):y (oe s a b)<=3000000001:=by
 unfold oe;rw[ai,cS];have:y (rA a b)<=y a:=gN _ _;split<;>simp<;>omega
def M1(b:o.l<18446744073709551616)(h:∀t∈l,t.cK<18446744073709551616):∀n∈oe o l v,Nm n:=by
 intro n a;unfold oe at a;obtain q|q:=aP.1 a;split at q;rw[bY.1 q];exact wL b;simp at q;obtain⟨t,c,rfl⟩:=cC.1 q;exact zN<|h t (lR.1 c).1
def CH{g i n:R}{c:Array ae}{T:TypeId}(h:a.heap[g]?=M (aK c T (0,0)))(j:fE e (G<|H a) 234 4 d n Q)(l:gD (G<|H a) a e):∃b,cP e (X g i) d=b/\e.heap[g]?=M (aK c T (0,0))/\b.heap[g]?=M (aK (c.setIfInBounds i d) T (0,0))/\I (λm=>m=g) a b/\fE b (G<|H a) 234 4 d n Q:=by
 have k:I aC a e:=I.p l;have f:=(k.A g (az h) id).trans h;exact⟨_,z,f,aY f,(k.aT (T:=λm=>m=g) cY).aL _ _ _<|J z,j.kept (eG _ _ _ _)<|bu<|λq=>gW ((j.lt _ q).1)<|az h⟩
def PY{s:SR}(n6 pc bq:R)(ps:cy NT)(v0 v1 v2 v3:ae)(ba bb N bc a0 b0 c0 d0:dI)(h:cU a b s r)(hL:LS a s.f b n6 f (a0++b0++c0++d0) ps pc v0 v1 v2 v3 ba bb N bc)(hF:∀bn,I aC a bn->CF bn s.f b n6 f (a0++b0++c0++d0) ps (ba++bb++N++bc))(hY:Fw a b 10 [(s.l0,a0),(s.l1,b0),(s.l2,c0),(s.l3,d0)])(mb:cJ a s.f f)(gv:¬f.j s.f b)(pe:bq<18446744073709551616)(ln:s.t<18446744073709551616)(hW:s.l<18446744073709551616)(ls:y (a0++b0++c0++d0)<=3000000000)(bi:∃ea bq N,s.L=am ea bq N)(hX:∀bm,bm=s.l0\/bm=s.l1\/bm=s.l2\/bm=s.l3->∀r,cN bm=M r->MT s.f b n6 f r):cR bN 133 #[aJ b,ef #[v0,v1,v2,v3],bw bq] a λdT w'=>CmW a w' b s r n6 bq f ps v0 v1 v2 v3 ba bb N bc (a0++b0++c0++d0) dT:=by
 obtain⟨x0,i,rfl⟩:=cG hL.r0;obtain⟨x1,j,rfl⟩:=cG hL.r1;obtain⟨x2,k,rfl⟩:=cG hL.r2;obtain⟨x3,l,rfl⟩:=cG hL.r3;have lE:=hL.A;have hT:y (ba++bb++N++bc)<=3000000000:=aI;have gc:=J3 x0 x1 x2 x3 i j k l ba bb N bc hL.r0 hL.r1 hL.r2 hL.r3 (λr c=>(hL.b0 r c).1) (λr c=>(hL.b1 r c).1) (λr c=>(hL.b2 r c).1) (λr c=>(hL.b3 r c).1) U;obtain⟨WB,dk⟩:=oh<|dw a<|aK #[am x0 (y ba) i,am x1 (y bb) j,am x2 (y N) k,am x3 (y bc) l] 108;rw[dk]at gc;obtain⟨cT,jH⟩:=oh<|ba++bb++N++bc;have cs:=uA _ gc;rw[TQ,UC,jH]at cs;have hb:I aC a WB:=by rw[<-dk];exact(cI _ _)
 have hy:WB.heap[G<|H a]?=M (aK #[am x0 (y ba) i,am x1 (y bb) j,am x2 (y N) k,am x3 (y bc) l] 108 (0,0)):=by rw[<-dk];exact aQ _ z
 have hS:=(hb.A b (az h) id).trans h;have na:=cU.bW hS 14 z;rw[jH]at hF hT;obtain⟨HH,e,HF,kc,he,dd,bx,db⟩:=Zt h hL hF hb hy jH hY hX;have ka:=ak (show∀us,∀bq∈oe s (a0++b0++c0++d0) us,Nm bq fromλus=>M1 hW<|λbr ht=>(hL.sD br ht).cK);obtain⟨oS,oL,oB,bi⟩:=bi;have jK:=ak bi;clear h hL hF gc hb hy hS jH hY hX bi;go_in
 go_wp2_with fail
 apply cs.mono;rintro dT w1⟨oT,rfl,gk,gE⟩;obtain⟨xT,pd,lD⟩:=aM gk;subst lD;have F:I aC a w1:=kc.t gE;have fi:=HF w1 F;have hB:=mb.aA F<|λ_ _=>id;have hA:=CM.A fi (λbr h0=>(e.sD br h0).A<|λr c=>F.A r (gW c.1 e.le) id) hB (λr c=>F.u (e.o r c) id<|gW e.i.1 e.le) (e.x.aA F id) ln;obtain⟨hk,ao,aa,jI,an,bv,kd⟩:=zY gk F fi hA ((F.A b (az HH) id).trans HH) ((gE.A (G<|H a) (az he) id).trans he) (show G (H a)+1=G (H WB)by rw[<-dk];simp);clear gk gE F fi hA cs hB mb;go_wp2_with fail
 go_loopw [7,22] (λa dx wr=>∃(cM dz:R)(KR:DK)(us nw:dI),dx=ay cM/\a=bw dz/\CM w1 s.f b n6 f (a0++b0++c0++d0) ps cT wr KR us nw cM dz) (λ_ dx _=>y cT-(intOf dx).toNat)
 case atStart=>exact⟨0,s.t,f,[],[],rfl,rfl,jI⟩
 case round=>
  obtain⟨cM,dz,KR,us,nw,rfl,rfl,p⟩:=hrel;obtain⟨nx,er⟩:=oh<|(dz+1) %18446744073709551616;have oc:=p.nl;have hc:IntKind.u64.wrap ((dz:Y)+1)=(nx:Y):=by rw[dY];omega
  have mn:nx<18446744073709551616:=U;have dc:=ak er;clear er;have ob:=e.le;have mo:=e.B;have bo:∀r,G (H a)<=r->¬Wr s.f f ps r:=by
   rintro r c(N|⟨bs,hp,N|N⟩)
   .have:=e.j r N;omega
   .have:=((e.S bs hp).1.lt r<|J N).2;omega
   .have:=((e.S bs hp).1.lt r<|bu<|bu N).2;omega
  have gt:¬Wr s.f f ps b:=by
   rintro(N|⟨bs,hp,N|N⟩)
   .exact gv N
   .have:=((e.S bs hp).1.lt b<|J N).1;omega
   .have:=((e.S bs hp).1.lt b<|bu<|bu N).1;omega
  have od:=ag kd;have ap:=(p.aA.A b (az an) gt).trans an;by_cases cu:cM<y cT
  .have g:=p.aA.aZ hk<|λr c=>bo r<|bP<|(hk.lt r c).1;obtain⟨A,O,E⟩:∃A,xT=M (X A 0)/\bA wr (X A cM)=M cT[cM].D:=by
    obtain⟨h2,h0⟩|⟨B,d,kk,h2,_⟩:=g.2
    .omega
    .cases h2;refine⟨B,z,?_⟩;have:=rk g cM cT[cM].D (by rw[fP,bF cu];rfl);rwa[dS,ez]at this
   subst O;unfold cH.D at E;have e1:(cM:Y)<(y cT:Y):=U;obtain h0|⟨bs,hp,m⟩:=aa.xt cT[cM]<|aB cu
   .obtain⟨hd,ab,n,hm,_⟩:=(p.qP cT[cM] h0).D;have d:=Eu _ hm;have D:=ak<|p.t aa cu h0;clear p g ap hm h0 bo;generalize cT[cM].tb=W at*;go_wp2_with fail
    apply d.mono;rintro dT w2⟨rfl,K⟩;subst w2;clear d;go_wp2;go_roundw;case rel=>exact⟨cM+1,dz,KR,_,_,dM,rfl,D⟩
    case measure=>simp[intOf];omega
   .have C:=p.D bs hp (by rw[m,<-mh cu];grind);have v:=FP C.D;rw[m]at v;have w:=p.p aa cu hp m;have c2:=cU.bW ap 2 z;clear p g ap C bo m hp;generalize cT[cM].tb=W at*;go_wp2_with fail
    apply v.mono;rintro dT w2⟨rfl,K⟩;subst w2;clear v;go_wp2_with fail
    apply w.mono;rintro dT w2⟨v2,K2,rfl,⟨rfl,Q,P,u⟩|⟨q,rfl,d⟩⟩;rotate_left
    .have HR:=ak<|show CmW a w2 b s r n6 bq f ps (am x0 (y ba) i) (am x1 (y bb) j) (am x2 (y N) k) (am x3 (y bc) l) ba bb N bc (a0++b0++c0++d0) (aN<|eW q)from bu ⟨_,K2,z,d.ok,(ao.aT (T:=λr=>Wr s.f f ps r\/r=b) cY).aj d.aA<|λ_ q=>J<|J q,λr c=>(d.j r c).imp id<|λN=>aR ao.D N,d.fx,⟨s,(d.aA.A b (az an) gt).trans an,z,z⟩,(by obtain⟨N,e1,e2⟩:=d.f;exact⟨q,N,z,e1,e2⟩),(by obtain⟨pb,YD,e1,e2,T,V⟩:=d.lN;exact⟨pb,YD,[],[],e1.trans<|qK _ _,e2,T,V,ar,ar,ar⟩)⟩;clear d w;go_wp2;go_ret;exact HR
    rw[ag dc]at u;have x:=ak u;clear u w;go_wp2;go_roundw;case rel=>exact⟨cM+1,nx,K2,Q,P,dM,by simp[hc],x⟩
    case measure=>simp[intOf];omega
  .have lg:cM=y cT:=bP p.le;rw[lg]at p;have hO:us.map (λbr=>(br.tb,br.ks))=(ba++bb++N++bc).map (λbr=>(br.tb,br.ks)):=by rw[p.bM,cQ,ag dd]
   obtain⟨a',b',c',d',aD,kl,ko,ks,kv⟩:=U7 hO;obtain⟨ey,eA,kn⟩:=qA kl;obtain⟨eB,fb,kq⟩:=qA ko;obtain⟨fd,fe,kt⟩:=qA ks;obtain⟨ff,fg,kx⟩:=qA kv;have gi:∀bm,sQ a s.f b n6 f bm->∀r,cN bm=M r->¬Wr s.f f ps r:=by
    rintro bm hv r c(q|⟨bs,hp,q|q⟩)
    .exact(hv r c).2.1 q
    .have C:=(e.S bs hp).1;obtain B|⟨el,ip,B⟩:=(hv r c).2.2.2
     .have:=(C.lt r<|J q).1;omega
     .exact lk B C.D.g cg q
    .have C:=(e.S bs hp).1;obtain B|⟨el,ip,B⟩:=(hv r c).2.2.2
     .have:=(C.lt r<|bu<|bu q).1;omega
     .obtain⟨kk,ll⟩:=gh C.A (k:=bs.x) rfl;grind
   have bk:I (Wr s.f f ps) a wr:=(ao.aT (T:=Wr s.f f ps) cY).aj p.aA<|λ_ q=>J q;have x:∀bm(ts d:dI),sQ a s.f b n6 f bm->Row a 1 bm (y ts) (ts.map cH.D)->d.map cH.D=ts.map cH.D->y d=y ts->Row wr 1 bm (y d) (d.map cH.D):=λbm ts d hv hZ e1 e2=>by
    rw[e1,e2];exact bk.bV hZ<|λr c=>⟨gi bm hv r c,(hv r c).1⟩
   have hN:∀bl∈us,MJ wr s.f bl:=λbl hu=>by
    have el:∀{F:fC},Dm wr s.f F bl->MJ wr s.f bl:=λho=>by
     obtain⟨hd,ab,n,hm,_⟩:=ho.D;exact⟨hd,ab,n,hm⟩
    obtain q|⟨_,bs,_,_,q⟩:=p.S bl hu
    .exact el (p.qP bl q).h
    .exact el q
   have fr:∀bn,I aC wr bn->∀bl∈us,MJ bn s.f bl:=λbn ht bl hu=>by
    obtain⟨hd,ab,n,hm⟩:=hN bl hu;exact⟨hd,ab,n,hm.dU (ht.A _ (az hm.g) id)<|ht.A _ hm.lt.2 id⟩
   have cv:∀bm(ts:dI),(∀br∈ts,br∈us)->y ts<=3000000000->(∀r,cN bm=M r->r<G (H wr))->Row wr 1 bm (y ts) (ts.map cH.D)->∀bn,I aC wr bn->cR bN 202 #[bm] bn λdT w'=>∃a,dT=aN a/\fE w' (G<|H bn) 234 4 a (y ts) (fY ts)/\gD (G<|H bn) bn w':=λbm ts el b c hZ bn ht=>by
    refine Sw bn s.f bm ts ⟨ht.bV hZ aI,λr dT=>au (c r dT) ht.D,λbr h=>(fr bn ht br<|el br h).XE,U⟩ aI U
   have pf:=bk.D;have em:=cv _ a' aI U (λr c=>bP<|(e.b0 r c).1)<|x _ ba a' e.b0 e.r0 ey eA;have en:=cv _ b' aI U (λr c=>bP<|(e.b1 r c).1)<|x _ bb b' e.b1 e.r1 eB fb;have eo:=cv _ c' aI U (λr c=>bP<|(e.b2 r c).1)<|x _ N c' e.b2 e.r2 fd fe;have eq:=cv _ d' aI U (λr c=>bP<|(e.b3 r c).1)<|x _ bc d' e.b3 e.r3 ff fg;obtain⟨hl,hn,hq,hr⟩:=js (x _ ba a' e.b0 e.r0 ey eA) (x _ bb b' e.b1 e.r1 eB fb) (x _ N c' e.b2 e.r2 fd fe)<|x _ bc d' e.b3 e.r3 ff fg;have V:=(p.aA.A (G<|H a) (az bv)<|bo _<|aq _).trans bv;have cn:=aX V 0;have co:=aX V 1;have cp:=aX V 2;have cr:=aX V 3;have mm:=az V;have e1:¬(cM:Y)<(y cT:Y):=U;obtain⟨D,hg,hh,hi,hj,eb,bf⟩:=zY p em en eo eq ap bk;obtain⟨aV,hf,HEq,mx,ms,mv⟩:=nU aD V (And.intro kl (And.intro ko (And.intro ks kv))) bo fr gi;clear p cv em en eo eq ap bk aD V kl ko ks kv ey eA kn eB fb kq fd fe kt ff fg kx x hN fr gi bo hO gt;go_wp2_with fail
   obtain⟨d,il⟩:=oh<|G<|H wr;obtain⟨W0,hQ⟩:=oh<|dw wr<|aK #[bw nx,bw dz,bw bq,aF,aF,aF,aF] 161;have et:W0.heap[d]?=M (aK #[bw nx,bw dz,bw bq,aF,aF,aF,aF] 161 (0,0)):=by rw[<-hQ];exact aQ _ il.symm
   have ex:I aC wr W0:=by rw[<-hQ];exact(cI _ _)
   have bd:=ak et;have eg:=ak ex;clear et ex;have mc:∀bn,(Instr.index 108 (ef #[am x0 (y ba) i,am x1 (y bb) j,am x2 (y N) k,am x3 (y bc) l])<|ay 0).run bN bn=.ok (am x0 (y ba) i) bn:=λ_=>aH;have md:∀bn,(Instr.index 108 (ef #[am x0 (y ba) i,am x1 (y bb) j,am x2 (y N) k,am x3 (y bc) l])<|ay 1).run bN bn=.ok (am x1 (y bb) j) bn:=λ_=>aH;have me:∀bn,(Instr.index 108 (ef #[am x0 (y ba) i,am x1 (y bb) j,am x2 (y N) k,am x3 (y bc) l])<|ay 2).run bN bn=.ok (am x2 (y N) k) bn:=λ_=>aH;have mg:∀bn,(Instr.index 108 (ef #[am x0 (y ba) i,am x1 (y bb) j,am x2 (y N) k,am x3 (y bc) l])<|ay 3).run bN bn=.ok (am x3 (y bc) l) bn:=λ_=>aH;refine iX 5 ?_;rw[io];go_wp2_with fail
   apply(hg W0 eg).mono;rintro dT w2⟨m0,rfl,gd,P⟩;obtain⟨y0,z0,rfl⟩:=aM gd;obtain⟨W1,nv,v,W,m,ho⟩:=CH (i:=3) bd gd P;have g0:=aX v 3;have f0:=cV (i:=3) v;obtain⟨ck,ei,bE⟩:=eU W (eg.aj m<|λr c=>bu U) ho;clear W m v P gd ho;go_wp2_with fail
   rw[io];go_wp2_with fail
   apply(hh W1 ei).mono;rintro dT w2⟨m1,rfl,ge,P⟩;obtain⟨y1,z1,rfl⟩:=aM ge;obtain⟨W2,nK,v,W,m,ho⟩:=CH (i:=4) ck ge P;have g1:=aX v 4;have f1:=cV (i:=4) v;obtain⟨ec,ej,cb,bL⟩:=js W (ei.aj m<|λr c=>bu U) ho<|m.aZ bE<|λr c q=>gW ((bE.lt r c).1)<|az bd;clear W m v P ge ho;go_wp2_with fail
   rw[io];go_wp2_with fail
   apply(hi W2 ej).mono;rintro dT w2⟨m2,rfl,gf,P⟩;obtain⟨y2,z2,rfl⟩:=aM gf;obtain⟨W3,nO,v,W,m,ho⟩:=CH (i:=5) ec gf P;have g2:=aX v 5;have f2:=cV (i:=5) v;obtain⟨hw,ek,ce,bT,cc⟩:=oa W (ej.aj m<|λr c=>bu U) ho (m.aZ bL<|λr c q=>gW ((bL.lt r c).1)<|az bd)<|m.aZ cb<|λr c q=>gW ((cb.lt r c).1)<|az ck;clear W m v P gf ho;go_wp2_with fail
   rw[io];go_wp2_with fail
   apply(hj W3 ek).mono;rintro dT w2⟨m3,rfl,gg,P⟩;obtain⟨y3,z3,rfl⟩:=aM gg;obtain⟨W4,nS,v,W,m,ho⟩:=CH (i:=6) hw gg P;have g3:=aX v 6;have f3:=cV (i:=6) v;obtain⟨cl,E,cj,ca,cd,ch⟩:=nU W (ek.aj m<|λr c=>bu U) ho (m.aZ bT<|λr c q=>gW ((bT.lt r c).1)<|az bd) (m.aZ cc<|λr c q=>gW ((cc.lt r c).1)<|az ck)<|m.aZ ce<|λr c q=>gW ((ce.lt r c).1)<|az ec;clear W m v P gg ho;go_wp2_with fail
   rw[io];go_wp2_with fail
   have bh:cU W4 b s r:=(E.A b (az eb) id).trans eb;have lc:∀K:Z,K.heap=W4.heap->(λ(K:Z)=>bA K (X b 2)=M (aJ s.f)/\bA K (X d 0)=M (bw nx)/\bA K (X d 1)=M (bw dz)/\bA K (X d 2)=M (bw bq)/\bA K (X d 3)=M (am y0 (y a') z0)/\bA K (X d 4)=M (am y1 (y b') z1)/\bA K (X d 5)=M (am y2 (y c') z2)/\bA K (X d 6)=M (am y3 (y d') z3)) K:=by
    intro K el;have h1:K.heap[b]?=W4.heap[b]?:=by rw[el]
    have h2:K.heap[d]?=W4.heap[d]?:=by rw[el]
    have ip:cU K b s r:=h1.trans bh;have ll:=h2.trans cl;refine⟨ip.u z,?_,?_,?_,?_,?_,?_,?_⟩<;>(rw[cE ll];rfl)
   have lt:cR bN 203 #[aJ s.f,ef #[bw nx,bw dz,bw bq,am y0 (y a') z0,am y1 (y b') z1,am y2 (y c') z2,am y3 (y d') z3]] W4.drew λdT w'=>wU W4.drew w' s.f KR (vt<|Ra dz bq [a',b',c',d']) dT:=by
    have p:=ag D;have aD:=ag aV;have ip:I aC wr W4.drew:=E.df z;have C:∀bl∈us,bl.A:=λbl hu=>by
     have hx:∀{F:fC},Dm wr s.f F bl->bl.A:=λho=>by
      have h0:=Nx ho.jW.l;have h2:=ho.jW.dL;refine⟨ho.cK,U,?_⟩;have h1:=BV<|λr c=>(ho.jW.l r c).A;unfold iE;rw[ai,dh];omega
     obtain q|⟨_,bs,_,_,q⟩:=p.S bl hu
     .exact hx (p.qP bl q).h
     .exact hx q
    have ll:y a'+y b'+y c'+y d'<=3000000000:=by
     have:=p.dL;rw[aD]at this;grind
    have el:=Yh s.f KR (nx:Y) dz bq y0 y1 y2 y3 z0 z1 z2 z3 a' b' c' d' (λr c=>ip.u (p.o r c) id p.o.lt) (dQ ca) (dQ cd) (dQ ch) (dQ cj) (λr c=>(ca.lt r c).2) (λr c=>(cd.lt r c).2) (λr c=>(ch.lt r c).2) (λr c=>(cj.lt r c).2) (λbr h=>C br (by rw[aD];simp[h])) (λbr h=>C br (by rw[aD];simp[h])) (λbr h=>C br (by rw[aD];simp[h])) (λbr h=>C br (by rw[aD];simp[h])) U U U ll (p.f.aA ip<|λ_ _=>id) (gW p.l aa.l) (p.fx.D aa.d:qu KR.fx);rw[<-ag dc]at el;unfold Ra;rwa[<-ag dc]
   rename_i QQ KK hH;refine cX (λ(K:Z)=>bA K (X b 2)=M (aJ s.f)/\bA K (X d 0)=M (bw nx)/\bA K (X d 1)=M (bw dz)/\bA K (X d 2)=M (bw bq)/\bA K (X d 3)=M (am y0 (y a') z0)/\bA K (X d 4)=M (am y1 (y b') z1)/\bA K (X d 5)=M (am y2 (y c') z2)/\bA K (X d 6)=M (am y3 (y d') z3)) 6 aH ?_;apply dH 0;iterate 5 (refine vg (v:=?_) (lc W4.drew z) z aH wP z ?_ ?_;rotate_left;(focus(rintro K⟨s2,q0,q1,q2,q3,q4,q5,q6⟩;go_simp;try rfl));simp only[ii,eh,ke])
   apply eS;refine aW 5 ?_;intro K5 hE;go_simp;apply lt.mono;rintro dT w5⟨v5,cm,rfl,gr⟩;have dn:=gr.D;have hV:∀r,KR.j s.f r->r<d:=λr c=>bP<|D.f.lt r c;have gx:¬KR.j s.f b:=λq=>by
    obtain B|B:=D.j b q
    .exact gv B
    .have:=az an;omega
   have fs:cU w5 b s r:=(dn.aA.A b (az bh) gx).trans bh;have A:w5.heap[d]?=_:=(dn.aA.A d (az cl)<|λq=>bP<|hV _ q).trans cl;obtain⟨bt,ed,w,kb,hs⟩:=oa fs A dn gr.d gx;refine hE _ _ (λ_=>⟨fs.u z,(by rw[cE A];rfl),(by rw[cE A];rfl),(by rw[cE A];rfl),(by rw[cE A];rfl),(by rw[cE A];rfl),(by rw[cE A];rfl),(by rw[cE A];rfl)⟩) ?_;clear hE dn gr fs A hV gx;try simp only[ii,eh]
   refine aW 6 ?_;intro K6 hG;go_simp;refine hG _ _ (λq=>(q z).elim) ?_;refine dG aH ?_ _;show KK _ _;apply hH;clear hH hG;obtain⟨rfl,o5⟩|⟨l5,q5,c5,r1,r2,rfl,r3,r4⟩:=ag kb;rotate_left
   .have ip:=ao.D;have g:I (KR.j s.f) wr w5:=(E.aT (T:=KR.j s.f) cY).aj ((cf (KR.j s.f) W4).aj w.aA<|λ_ q=>J q)<|λ_ q=>J q;have hR:∀ea,KR.j s.f ea->(Wr s.f f ps ea\/ea=b)\/G (H a)<=ea:=λea hx=>by
     obtain B|B:=D.j ea hx
     .exact J<|J<|J B
     grind
    have el:CmE a w5 b s r f cm ps (y<|ba++bb++N++bc) (eW q5):=⟨w.ok,(bf.aT (T:=λr=>Wr s.f f ps r\/r=b)<|λ_ q=>J<|J q).aj g hR,λO av=>by
     obtain B|B:=w.j O av
     .exact(D.j O B).imp id<|λN=>U
     .have:=E.D;have:=bf.D;simp at B;grind,D.fx.aj w.fx,⟨s,bt,z,z⟩,⟨q5,c5,z,r3,D.fx.A aa.L r4⟩,ly nw++l5,nw,Ra dz bq [a',b',c',d'],[],(iw _).2 (r1.trans (qK _ _)),mu.Fa D.lN r2,Lu D.YD D.le aa.f,λbl hu=>(D.L bl hu).2,by rw[TA,<-ag aV,D.dL,<-ag dd];omega,ar,ar⟩
    have HR:=ak<|show CmW a w5 b s r n6 bq f ps (am x0 (y ba) i) (am x1 (y bb) j) (am x2 (y N) k) (am x3 (y bc) l) ba bb N bc (a0++b0++c0++d0) (aN<|eW q5)from bu ⟨_,cm,z,el⟩;clear el g hR r1 r2 r3 r4;go_wp2;go_ret;have hR:=ag HR;simp_all
   have lv:cm.l=[]:=by
    obtain⟨K1,h1,K2,⟨a1,_,a3⟩,b1,_,b3⟩:=nR (l:=[.cr kF,.ap kF<|Ra dz bq [a',b',c',d'],.sy kF]++[.rn kF fm]) o5;exact b3.trans a3
   have p:=ag D;have it:G (H a)<G (H w1):=az bv;have mp:=p.aA.D;have g:I (KR.j s.f) wr w5:=(E.aT (T:=KR.j s.f) cY).aj ((cf (KR.j s.f) W4).aj w.aA<|λ_ q=>J q)<|λ_ q=>J q;have gj:∀r,r<G (H w1)->¬f.j s.f r->¬KR.j s.f r:=λr h1 h2 q=>(p.j r q).elim h2<|λB=>U;have dr:∀r,r<G (H w1)->¬f.j s.f r->w5.heap[r]?=wr.heap[r]?:=λr h1 h2=>g.A r U<|gj r h1 h2;have le:=e.le;have lp:∀bs∈ps,∀r,bs.D r->r<G (H w1)/\¬f.j s.f r:=λbs hp r c=>by
    have h1:=(e.S bs hp).1.lt r c;exact⟨U,λq=>bP<|e.j r q⟩
   have lo:∀r,MT s.f b n6 f r->r<G (H w1)/\¬f.j s.f r:=λr c=>⟨bP c.1,c.2.1⟩;have hM:∀{F:fC}{bl:cH},Dm wr s.f F bl->(∀r,F r->r<G (H w1)/\¬f.j s.f r)->MY w5 bl:=λho el=>by
    obtain⟨hd,ab,n,hm,ip⟩:=(ho.A<|λr c=>dr r (el r c).1 (el r c).2).D;exact⟨ho.cK,_,_,_,_,hd,ab,n,_,hm⟩
   have hK:∀br∈a0++b0++c0++d0,MY w5 br:=λbr h0=>hM (p.qP br h0).h lo;have lb:∀bl∈a'++b'++c'++d',MY w5 bl:=λbl hu=>by
    rw[<-ag aV]at hu;obtain q|⟨_,bs,hp,_,q⟩:=p.S bl hu
    .exact hK bl q
    .exact hM q<|lp bs hp
   have hJ:Fw w5 b 10 [(s.l0,a0),(s.l1,b0),(s.l2,c0),(s.l3,d0)]:=by
    refine bx.aA (S:=λr=>Wr s.f f ps r\/KR.j s.f r) ((bf.aT (T:=λr=>Wr s.f f ps r\/KR.j s.f r)<|λ_ q=>J<|J q).aj g<|λ_ q=>J<|bu q) ?_ ?_
    .rintro(q|q)
     .obtain B|⟨bs,hp,B|B⟩:=q
      .exact gv B
      .have:=((e.S bs hp).1.lt b<|J B).1;omega
      .have:=((e.S bs hp).1.lt b<|bu<|bu B).1;omega
     .exact hs q
    .intro dx ip O av q;have el:MT s.f b n6 f O:=by
      have:dx=0\/dx=1\/dx=2\/dx=3:=aI;obtain rfl|rfl|rfl|rfl:=this
      .exact db _ (J z) O av
      .exact db _ (bu<|J z) O av
      .exact db _ (bu<|bu<|J z) O av
      .exact db _ (bu<|bu<|bu z) O av
     obtain B|B:=q
     .obtain B|⟨bs,hp,B|B⟩:=B
      .simp_all
      .have:=((e.S bs hp).1.lt O<|J B).1;have:=el.1;omega
      .have:=((e.S bs hp).1.lt O<|bu<|bu B).1;have:=el.1;omega
     simp_all
   have ad:∀bm(ts:dI),sQ a s.f b n6 f bm->Row wr 1 bm (y ts) (ts.map cH.D)->Row w5 1 bm (y ts) (ts.map cH.D)/\∀r,cN bm=M r->r<G (H w5):=λbm ts hv hZ=>
    ⟨g.bV hZ<|λr c=>⟨gj r (bP<|(hv r c).1) (hv r c).2.1,bP<|(hv r c).1⟩,λr c=>gW ((hv r c).1) g.D⟩
   have q0:=ad _ a' e.b0 hl;have q1:=ad _ b' e.b1 hn;have q2:=ad _ c' e.b2 hq;have q3:=ad _ d' e.b3 hr;have:y (a'++b'++c'++d')<=3000000000:=ag aV▸p.dL▸hT;have gn:Pow w5:=p.x.dU<|dr _ (bP e.n.1) e.n.2.1;have es:=Lr a0 b0 c0 d0 a' b' c' d' bt hJ q0.1 q1.1 q2.1 q3.1 q0.2 q1.2 q2.2 q3.2 hK lb gn hW U U;have ac:=(dr (G<|H a) it<|λq=>bP<|e.j _ q).trans hf;have cn:=aX ac 0;have co:=aX ac 1;have cp:=aX ac 2;have cr:=aX ac 3;rw[<-ag aV]at es;go_wp2_with fail
   apply es.mono;rintro dT w6⟨v6,rfl,bp,ds⟩;obtain⟨ns,cx⟩:=oh<|oe s (a0++b0++c0++d0) us;rw[cx]at bp;obtain⟨x6,c6,lx⟩:=aM bp;subst lx;have u:cU w6 b s r:=(ds.A b (az bt) id).trans bt;have ev:w6.heap[d]?=_:=(ds.A d (az ed) id).trans ed;have bg:w6.heap[G<|H a]?=_:=(ds.A (G<|H a) (az ac) id).trans ac;let⟨jk,iv,fx⟩:=cG<|bx.bV 0 ar;let⟨jB,jA,fL⟩:=cG<|bx.bV 1 ar;let⟨jD,jC,ga⟩:=cG<|bx.bV 2 ar;let⟨jG,jE,gb⟩:=cG<|bx.bV 3 ar;simp only[cO,cF]at fx fL ga gb;have:bA w6 (X b 7)=M (am oS oL oB):=by rw[<-ag jK];exact u.u z
   have:=cU.bW u 8 z;have:=cU.bW u 9 z;have oi:bA w6 (X b 10)=M (am jk (y a0) iv):=fx▸u.u z;have oj:bA w6 (X b 11)=M (am jB (y b0) jA):=fL▸u.u z;have om:bA w6 (X b 12)=M (am jD (y c0) jC):=ga▸u.u z;have on:bA w6 (X b 13)=M (am jG (y d0) jE):=gb▸u.u z;have op:=cU.bW u 14 z;have os:=cU.bW u 17 z;have ov:=cU.bW u 18 z;have ox:=cU.bW u 19 z;have oy:=cU.bW u 20 z;have oA:=cU.bW u 21 z;have fz:∀dx,iI w6 (X b dx)=bD:=λdx=>u.bS;have:=fz 7;have:=fz 8;have:=fz 9;have nb:=fz 10;have nc:=fz 11;have nd:=fz 12;have ne:=fz 13;have nf:=fz 14;have nl:=fz 15;have nm:=fz 16;have nn:=fz 17;have no:=fz 18;have nq:=fz 19;have cn:=aX bg 0;have co:=aX bg 1;have cp:=aX bg 2;have cr:=aX bg 3;have t0:=aX ev 0;have t1:=aX ev 1;have n1:G (H a)≠b:=U;have n2:d≠b:=U;have:b≠G (H a):=U;have:b≠d:=U;go_wp21;rename_i mN kf hI;let⟨W7,fk⟩:∃W7,cP (cP (cP w6 (X b 7) aF) (X b 8)<|ay 0) (X b 9) (bw bq)=W7:=⟨_,rfl⟩;have Q:cU W7 b {s with L:=aF,o:=0,S:=bq} r:=fk▸(aY<|aY<|aY u).trans rfl;have al:I (λr=>r=b) w6 W7:=fk▸((iQ b w6).aL _ _ _<|J z).aL _ _ _ (J z);have cn:bA W7 (X (G<|H a) 0)=M (am x0 (y ba) i):=al.u cn n1<|so cn;have co:bA W7 (X (G<|H a) 1)=M (am x1 (y bb) j):=al.u co n1<|so co;have cp:bA W7 (X (G<|H a) 2)=M (am x2 (y N) k):=al.u cp n1<|so cp;have cr:bA W7 (X (G<|H a) 3)=M (am x3 (y bc) l):=al.u cr n1<|so cr;have t0:bA W7 (X d 0)=M (bw nx):=al.u t0 n2<|so t0;have t1:bA W7 (X d 1)=M (bw dz):=al.u t1 n2<|so t1;have:bA W7 (X b 10)=M (am jk (y a0) iv):=by rw[<-fx];exact Q.u z
   have:bA W7 (X b 11)=M (am jB (y b0) jA):=by rw[<-fL];exact Q.u z
   have:bA W7 (X b 12)=M (am jD (y c0) jC):=by rw[<-ga];exact Q.u z
   have:bA W7 (X b 13)=M (am jG (y d0) jE):=by rw[<-gb];exact Q.u z
   have:=cU.bW Q 14 z;have:iI W7 (X b 10)=bD:=Q.bS;have:iI W7 (X b 11)=bD:=Q.bS;have:iI W7 (X b 12)=bD:=Q.bS;have:iI W7 (X b 13)=bD:=Q.bS;have:iI W7 (X b 14)=bD:=Q.bS;rw[fk];apply PT kf
   .intro el;go_region
    all_goals exact el
   refine hI _ _ ?_;let⟨W8,fl⟩:∃W8,(cP (cP (cP (cP (cP W7 (X b 10)<|am x0 (y ba) i) (X b 11)<|am x1 (y bb) j) (X b 12)<|am x2 (y N) k) (X b 13)<|am x3 (y bc) l) (X b 14)<|bw nx).drew=W8:=⟨_,rfl⟩;have T:cU W8 b {s with L:=aF,o:=0,S:=bq,l0:=am x0 (y ba) i,l1:=am x1 (y bb) j,l2:=am x2 (y N) k,l3:=am x3 (y bc) l,t:=nx} r:=by
    rw[<-fl];exact(aY<|aY<|aY<|aY<|aY Q).trans z
   have dv:I (λr=>r=b) W7 W8:=by
    rw[<-fl];exact(((((iQ b W7).aL _ _ _<|J z).aL _ _ _<|J z).aL _ _ _<|J z).aL _ _ _<|J z).t<|cf aC _
   have t1:bA W8 (X d 1)=M (bw dz):=dv.u t1 n2<|so t1;have:=cU.bW T 17 z;have:=cU.bW T 18 z;have:=cU.bW T 19 z;have:=cU.bW T 20 z;have:=cU.bW T 21 z;have:iI W8 (X b 17)=bD:=T.bS;have:iI W8 (X b 18)=bD:=T.bS;have:iI W8 (X b 19)=bD:=T.bS;have:iI W8 (X b 20)=bD:=T.bS;have:iI W8 (X b 21)=bD:=T.bS;rw[fl];go_wp21;let⟨W9,fn⟩:∃W9,cP (cP (cP (cP (cP W8 (X b 17)<|bw dz) (X b 18)<|aO bD) (X b 19)<|aO bD) (X b 20)<|aO bD) (X b 21) (aO bD)=W9:=⟨_,rfl⟩;have fu:cU W9 b (s.pW (am x0 (y ba) i) (am x1 (y bb) j) (am x2 (y N) k) (am x3 (y bc) l) bq dz) r:=by
    rw[<-fn];unfold SR.pW;rw[ag dc];exact(aY<|aY<|aY<|aY<|aY T).trans z
   have ha:I (λr=>r=b) W8 W9:=by
    rw[<-fn];exact((((iQ b W8).aL _ _ _<|J z).aL _ _ _<|J z).aL _ _ _<|J z).aL _ _ _<|J z
   have ax:I (λr=>r=b) w5 W9:=((ds.aT (T:=λr=>r=b) cY).aj (al.aj (dv.aj ha<|λ_ q=>J q)<|λ_ q=>J q)<|λ_ q=>J q);rw[fn];have lm:=cx;have fv:=ka us;have hU:=Pr s (a0++b0++c0++d0) us ls;rw[lm]at fv hU;have cB:¬cm.j s.f b:=λq=>by
    obtain B|B:=w.j b q
    .exact hs B
    .have:=az bh;simp at B;omega
   have ky:cJ W9 s.f cm:=w.ok.aA ax (λr c q=>by rw[q]at c;exact cB c);have lr:=Gy (am x6 (y ns) c6) ns fu ky cB (dQ<|((al.aj (dv.aj ha<|λ_ q=>J q)<|λ_ q=>J q)).aZ bp<|λr c q=>gW ((bp.lt r c).1)<|az bt) (λcM a=>⟨au (bp.lt cM a).2<|((al.aj (dv.aj ha<|λ_ q=>J q)<|λ_ q=>J q)).D,λq=>by have h1:=(bp.lt cM a).1;have h2:=w.ok.lt cM q;omega⟩) (λ_=>(D.fx.aj w.fx).D aa.d) (by rw[lv];simp;omega) fv;go_call lr as dT w'⟨v8,K8,rfl,ih⟩;have aU:=ak ih.D;have gs:=ih.d;have kz:∀r,r<G (H a)->¬f.j s.f r->r≠b->w'.heap[r]?=wr.heap[r]?:=by
    intro O h1 h2 h3;have g1:w5.heap[O]?=wr.heap[O]?:=dr O U h2;have g2:W9.heap[O]?=w5.heap[O]?:=ax.A O (bP g.D) h3;refine(aU.aA.A O (gW g.D ax.D)<|λq=>?_).trans<|g2.trans g1;obtain B|B:=w.j O q
    .exact gj O U h2 B
    .have:=E.D;simp at B;omega
   have hP:I (λr=>Wr s.f f ps r\/r=b) a w':=by
    have ip:=g.D;have el:=E.D;have hR:∀ea,KR.j s.f ea->(Wr s.f f ps ea\/ea=b)\/G (H a)<=ea:=λea hx=>by
     obtain B|B:=D.j ea hx
     .exact J<|J<|J B
     grind
    refine(((bf.aT (T:=λr=>Wr s.f f ps r\/r=b)<|λ_ q=>J<|J q).aj g hR).aj ax ar).aj aU.aA<|λea hx=>?_;obtain B|B:=w.j ea hx
    .exact hR ea B
    .simp at B;grind
   have hC:∀r,K8.j s.f r->f.j s.f r\/G (H a)<=r:=by
    intro O av;have:=g.D;have:=E.D;have:=ax.D;obtain B|B:=aU.j O av
    .obtain B|B:=w.j O B
     .obtain B|B:=D.j O B
      .exact J B
      grind
     .simp at B;grind
    grind
   have hz:cU w' b (s.pW (am x0 (y ba) i) (am x1 (y bb) j) (am x2 (y N) k) (am x3 (y bc) l) bq dz) r:=(aU.aA.A b (az fu) cB).trans fu;have hD:Fx f.fx K8.fx:=(D.fx.aj w.fx).aj aU.fx;obtain⟨rfl,o8⟩|⟨l8,q8,c8,r1,r2,rfl,r3,r4⟩:=gs
   .have el:=ak<|show Ur a w' b s r n6 bq f ps (am x0 (y ba) i) (am x1 (y bb) j) (am x2 (y N) k) (am x3 (y bc) l) ba bb N bc (a0++b0++c0++d0)from⟨w1,wr,KR,K8,us,nw,a',b',c',d',dz,ao,ag dd▸D,aV,HEq.1,HEq.2.1,HEq.2.2.1,HEq.2.2.2,hz,aU.ok,kz,hP,hC,hD,by rw[cx];exact mu.Fa o5 o8⟩;go_wp2;go_ret;exact J ⟨z,el⟩
   .have HR:=ak<|show CmW a w' b s r n6 bq f ps (am x0 (y ba) i) (am x1 (y bb) j) (am x2 (y N) k) (am x3 (y bc) l) ba bb N bc (a0++b0++c0++d0) (aN<|eW q8)from bu ⟨_,K8,z,aU.ok,hP,hC,hD,⟨_,hz,z,z⟩,⟨q8,c8,z,r3,(D.fx.aj w.fx).A aa.L r4⟩,ly nw++(vt (Ra dz bq [a',b',c',d'])++l8),nw,Ra dz bq [a',b',c',d'],ns,(iw _).2<|(iw _).2 r1,mu.Fa D.lN<|mu.Fa o5 r2,Lu D.YD D.le aa.f,λbl hu=>(D.L bl hu).2,by rw[TA,<-ag aV,D.dL,<-ag dd];omega,hU,fv⟩;go_wp2;go_ret;exact HR
section
open Conc.Locks
def Ir(d:Fs)(w c:Z)(b:R)(s:SR)(K:DK)(m:dB)(e f g h:dI)(C:R):Prop:=∃a,gl w c s.f b K a/\a.ah=K.ah/\(a.l=K.l/\wS K a)/\(∀k,a.j s.f k->K.j s.f k)/\cU c b s 0/\sE d c b s a m e f g h C
def Au(w c:Z)(b:R)(s:SR)(K:DK)(m:dB)(d e f g:dI)(C:R):Prop:=∃a,gl w c s.f b K a/\a.ah=K.ah/\(a.l=K.l/\wS K a)/\(∀k,a.j s.f k->K.j s.f k)/\cU c b s 0/\ST c b s a m d e f g C
theorem Ir.xD(h:Ir (vw f.ah) a e b o f i l v C F c):Au a e b o f i l v C F c:=by
 let⟨g,j,d,k,m,n,p⟩:=h;refine⟨g,j,d,k,m,n,?_⟩;rwa[ST,d]
def RM{j3:R}(i:gl a e o.f j3 f f)(j:(ug K o.f f).D P)(m:I (ug K o.f f).F e P):∃c,gl a P o.f j3 f c/\c.ah=f.ah/\(c.l=f.l/\wS f c)/\(∀n,c.j o.f n->f.j o.f n):=by
 let⟨l,c,k,d,g,h⟩:=j;exact⟨c,i.aj ⟨k,m.aT<|λn j=>J<|J j,aI,h⟩,d.1,⟨d.2.2,d⟩,g⟩
def SE(a:af)(b:Y)(m8:cy (ae×dB)):ae:=if 1<=a.size/\a.size<=8 then zcf (zD b a m8)else .tuple #[aw ⟨#[]⟩,aO bD,uf 3]
def JT(d:af)(g:Y)(q:Qy K f N)(p:l++v++C++F≠[]->K)(m:cU a b o r)(e:sE N a b o f i l v C F c)(w:d.size<=140737488351232):cR bN 54 #[aJ b,aw d,bw g] a (λD k=>(D=aN (SE d g<|pI o i l v C F)/\(ug K o.f f).D k/\I (ug K o.f f).F a k)\/Et (ug K o.f f) a k (ug K o.f f).F D gE)/\∃x n m9,SE d g (pI o i l v C F)=de #[x,n,m9]:=by
 let⟨B,A,j⟩:=cG e.D;unfold SE;by_cases h:1<=d.size/\d.size<=8
 .rw[fW h];refine⟨ZN (G<|H a) (o.l0,l) (o.l1,v) (o.l2,C) (o.l3,F) (pI o i l v C F) d g m B (y i) A j (e.lvm m) (AI o i l v C F) (λL s=>e.Z6 q p _<|aB s) e.GR (aq _) e.f.lt h<|λE t x u=>bP<|(e.NK E t x u).l,?_⟩;cases zD g d (pI o i l v C F)with
  |none=>exact⟨_,_,_,z⟩
  |some x=>exact⟨_,_,_,z⟩
 rw[fN h];refine⟨(ZM a b d g h w).mono ?_,_,_,_,z⟩;grind[sE.GR,I.bI]
def cU.nZ{b q:R}(h:cU a b o r):∀j,j=b->j=q->∃d t e,a.heap[j]?=M (aK d t e)/\t≠157:=λj c _=>c▸⟨_,_,_,h,cg⟩
def tP{j4:Prop}{A t W2:Z}(L:cU t b o 1)(w:sE N A b o f i l v C F c)(j:b<G (H A))(k:gl A t o.f b f f)(x:gD (G<|H t) t W2):cU W2 b o 1/\sE N W2 b o f i l v C F c/\∀a,(ug j4 o.f f).D a->I (ug j4 o.f f).F W2 a->bA a (X b 0)=M (iD 1)/\iI a (X b 0)=bD/\Ir N A (cP a (X b 0)<|iD 0) b o f i l v C F c/\∀q,tD a q->tD (cP a (X b 0)<|iD 0) q:=by
 have e:=k.aj<|qV (j3:=b) k.ok x;have p:=w.eQ j e;have g:cU W2 b o 1:=L.aA (I.p (S:=aC) x) id;refine⟨g,p,λa u s=>?_⟩;have d:cU a b o 1:=(s.A b (az g) p.l).trans g;let⟨B,m,D,E,K⟩:=RM e u s;have r:=m.sb w.l j;have n:=m.gu r 0<|iD 0;exact⟨d.u z,d.bS,⟨B,n,D,E,K,d.jh 0,w.eQ j n⟩,λq h=>h.aA (iQ b a) d.nZ⟩
def SO:uf 5=.iface 47 (ay 5):=rfl
def Wg(d:af)(hX:Qy K f N)(hN:l++v++C++F≠[]->K)(h:cU a b o 0)(O:sE N a b o f i l v C F c)(hc:o.d=bD)(hz:d.size<=140737488351232):cR bN 17 #[aJ b,aw d] a λB e=>(B=aN (SE d o.S<|pI o i l v C F)\/K/\∃q,B=aN (gE<|eW q)/\tD e q)/\Ir N a e b o f i l v C F c:=by
 have L:=az h;have c0:=cU.bW h 0 z;have f0:iI a (X b 0)=bD:=h.bS;have p:=lQ O.f O.l 1;have D:=h.jh 1;generalize hW:cP a (X b 0) (iD 1)=g at p D;have t:=mY D;rw[hc]at t;have u:cR bN 49 #[aJ b] g λB e=>B=aN ic/\gD (G<|H g) g e:=t;have W:=ak<|λj(E:gD (G<|H g) g j)=>tP (j4:=K) (W2:=j) D O L p E;go_enter_defers func17,ntmps17
 go_wp21;go_call ng (X b 0) _ c0 f0 as B e⟨rfl,Q⟩;rw[hW]at Q;subst e;go_wp21;go_call u as B j⟨rfl,E⟩;let⟨n,P,s⟩:=W j E;let⟨r,rx,ry,rz,w⟩:=JT d o.S hX hN n P hz;have:=cU.bW n 9 z;rw[w]at r;go_wp21;go_call r as B w2(⟨rfl,m,x⟩|⟨hx,q,rfl,hq,m,x⟩);(all_goals obtain⟨S,T,hF,k⟩:=s w2 m x);(.have A:=ak hF;go_wp2;exact fD S T ⟨_,lA z _ _ _,J (by rw[w];rfl),A⟩);have A:=ak hF;have V:=ak<|k q hq;go_wp2;exact fD S T ⟨_,lA z _ _ _,bu ⟨hx,q,z,V⟩,A⟩
def Pt(d:af)(h:cU a b o 0)(e:ST a b o f i l v C F c)(j:o.d=bD)(k:d.size<=140737488351232):cR bN 17 #[aJ b,aw d] a λm g=>(m=aN (SE d o.S<|pI o i l v C F)\/l++v++C++F≠[]/\∃q,m=aN (gE<|eW q)/\tD g q)/\Au a g b o f i l v C F c:=by
 refine(Wg d (Qy.bI e.f) id h e j k).mono ?_;grind[Ir.xD]
end
def QH(a:Y)(b:af)(c:iG):dB:=sj ⟨#[]⟩<|(eL<|c.map<|iY b).filter<|λe=>decide<|e.f<=a
def O5(c:Y)(i:af)(b:iG):∀x∈QH c i b,x∈b.flatten:=by
 intro x h;have d:=(Hv _ _).subset h;have e:=(kw _).mem_iff.1 (lR.1 d).1;let⟨l,f,a⟩:=dO.1 e;obtain⟨r,g,rfl⟩:=cC.1 f;exact dO.2 ⟨r,g,(lR.1 a).1⟩
def Uk(c:Y)(b:af)(a:iG):y (QH c b a)<=y a.flatten:=by
 have:=(Hv ((eL<|a.map<|iY b).filter<|λe=>decide<|e.f<=c) ⟨#[]⟩).length_le;have:=gN (λe:E=>decide<|e.f<=c)<|eL<|a.map<|iY b;have:=(kw<|a.map<|iY b).length_eq;have:=ZE b a;unfold QH;omega
def ZF(v:ae)(w:Z):(Go.method 577 103 v "From").run bN w=.ok (332,v) w:=aH
def nA.St(h:lG a d i)(o:gG i)(f:∀x∈i,x.f<18446744073709551616)(n:y i<=1000000000000)(k:∀j,cN d=M j->j<b/\¬s.F j)(g:b<=G (H a))(hF:∀p,s.F p->p<b):nA s b (.iface 103 d) i a:=by
 refine⟨_,d,_,d,z,ZF d,enters_of func332 aH z,λq v c l=>?_⟩;go_call Hq s b q (h.bM c k) o f n (λj e=>⟨(k j e).2,au aI c.1⟩) (aR g c.1) hF as A w⟨r,S,rfl,m,e,t⟩;refine⟨r,S,z,m,s.l l (I.p (S:=aC) e) cY,I.p e,λp u=>?_⟩;grind
def sE.Ma(e:Qy K f N)(d:l++v++C++F≠[]->K)(h:sE N a b o f i l v C F c):∀r∈pI o i l v C F,nA (ug K o.f f) (G<|H a) r.1 r.2 a:=by
 have hF:∀k,(ug K o.f f).F k->k<G (H a):=h.f.lt;have:=h.A;intro r g;simp only[pI,dy,aP,pU,cC,lh,uS]at g;obtain rfl|((⟨t,j,rfl⟩|rfl)|rfl)|rfl:=g;exact nA.St h.D h.o (λx d=>(h.S x d).b1) (show y i<=1000000000000 from bP h.dL) (λk a=>⟨(h.L k a).lt,(h.L k a).j⟩) (aq _) hF;exact nA.FB (Ga e (d<|uX (by simp[j]:t∈l++v++C++F)) h.f (h.l0.bZ t j) h.t) (aq _) hF;exact nA.xL (xM e (λq=>d<|by simp[q]) h.f h.l1 h.t h.s1 U) (aq _) hF;exact nA.xL (xM e (λq=>d<|by simp[q]) h.f h.l2 h.t h.s2 U) (aq _) hF;exact nA.xL (xM e (λq=>d<|by simp[q]) h.f h.l3 h.t h.s3 U) (aq _) hF
def ST.Ma(h:ST a b o f i l v C F c):∀r∈pI o i l v C F,nA (nX o.f f) (G<|H a) r.1 r.2 a:=sE.Ma (Qy.bI h.f) (λ_=>trivial) h
section
open Shelf
attribute [local go_sem] Oper.semAt_some
def zX:(prog.info? 142).map (λi=>(i.zero,i.size,i.bytes))=M (M<|ef #[aw ⟨#[]⟩,aw ⟨#[]⟩],2,32):=aH
def X9(p:KV):∀u∈sg p,u.oneCell'=cz:=by
 intro u a;simp[sg]at a;obtain rfl|rfl:=a<;>rfl
def Sx(w:Z)(p:KV)(t:TypeId):∀j u,(sg p)[j]?=M u->bA (dw w<|aK #[aw p.1,aw p.2] t) (((X (G<|H w) 0):Addr).add j)=M u:=by
 intro j u a;rw[dS];rw[cE (aQ _ rfl:(dw w<|aK #[aw p.1,aw p.2] t).heap[G<|H w]?=M (aK #[aw p.1,aw p.2] t (0,0))),ez];simpa[sg]using a
def Hl(l:kW)(p:KV):iS (l++[p])=iS l++sg p:=by simp[iS]
def PA(V:jv)(b:Z)(c:af)(a:Y)(n:R)(d:kW)(B:fC)(W:Z):Prop:=Acc V.F b [(G<|H b,aw c,9),(G (H b)+1,ay a,3),(G (H b)+2,aF,55),(G (H b)+3,ic,44)] (G (H b)+4) 55 142 2 (G (H b)+5) n (iS d) B W
def PZ(V:jv)(b:Z)(B:fC)(W:Z):Prop:=∃x c q,∃a:kW,V.Xp/\tD W q/\fF W (G (H b)+2) (am x (y a) c) 55/\fF W (G (H b)+3) (eW q) 44/\V.D W/\I V.F b W/\B (G (H b)+2)/\B (G (H b)+3)/\fE W (G (H b)+5) 142 2 (am x (y a) c) (y a) (iS a)/\(∀k,cN (am x (y a) c)=M k->B k)/\y a<=40000000000
def PZ.gR{B T:fC}(h:PZ s a B e)(c:I T e P)(i:∀k,T k->¬B k/\b<=k/\∃L,e.heap[k]?=M (.loop L))(x:∀k,T k->¬B k/\G (H a)<=k)(hF:∀k,T k->¬s.F k):PZ s a B P:=by
 let⟨F,g,q,E,A,⟨u,⟨f,t,l⟩,j⟩,p,r,w,v,n,o,D,d,m⟩:=h;refine⟨F,g,q,E,A,⟨u,⟨f,(c.A _ (az t)<|λg=>?_).trans t,l⟩,j⟩,(c.A _ (az p)<|λg=>(i _ g).1 n).trans p,(c.A _ (az r)<|λg=>(i _ g).1 o).trans r,s.l w c hF,v.aj c aI,n,o,c.aZ D<|λk C g=>(i k g).1<|d k C,d,m⟩;grind
def Vw(n0:R)(p0 p1 p2 p3:ae×dI)(m8:cy (ae×dB))(lo k:af)(c bt:Y)(h:cU a b o r)(mx:Option Addr)(mn mc:R)(ei:o.L=am mx mn mc)(hn:Fw a b 10 [p0,p1,p2,p3])(bp:m8.map (·.1)=zF o.L p0 p1 p2 p3)(hR:∀hV(k:hV<y m8),nA s n0 m8[hV].1 m8[hV].2 a)(hI:s.D a)(em:n0<=G (H a))(hF:∀r,s.F r->r<n0)(hz:∀bh∈QH bt lo (m8.map (·.2)),bh.D.size<=281474976710656/\bh.l.size<=281474976710656)(ac:y (QH bt lo<|m8.map (·.2))<=40000000000):cR bN 162 #[aJ b,aw lo,aw k,ay c,bw bt] a λba w'=>(∃v',ba=aN (de #[v',ic])/\fE w' (G<|H a) 142 2 v' (y<|Ef k c []<|((QH bt lo<|m8.map (·.2)).filter<|λba=>!ba.dP).map BR) (iS<|Ef k c []<|((QH bt lo<|m8.map (·.2)).filter<|λba=>!ba.dP).map BR)/\s.D w'/\I s.F a w')\/∃bh B,∃ps:kW,Et s a w' s.F ba (λeB=>de #[am bh (y ps) B,eB])/\fE w' (G<|H a) 142 2 (am bh (y ps) B) (y ps) (iS ps)/\y ps<=40000000000:=by
 let⟨cx,hL⟩:∃cx,(QH bt lo<|m8.map (·.2)).filter (λba=>!ba.dP)=cx:=⟨_,z⟩;rw[hL];let⟨bi,hP⟩:∃bi,Ef k c [] (cx.map BR)=bi:=⟨_,rfl⟩;rw[hP];have dk:y m8<=40000000000:=by(have ac:y (qB p0 p1 p2 p3)+1=y m8:=by have:=cD y bp;simp[zF]at this;omega);have:=hn.f;rw[<-ac];simp[qB,nC]at this|-;omega
 let⟨i0,hm,hA,hB,hD⟩:=cZ zX;have N:I aC a (dw (dw (dw (dw (dw a<|aK #[aw k] 9)<|aK #[ay c] 3)<|aK #[aF] 55)<|aK #[ic] 44)<|aK #[aF] 55):=((((cI aC a).aE _).aE _).aE _).aE _;have br:G (H<|dw (dw (dw (dw (dw a<|aK #[aw k] 9)<|aK #[ay c] 3)<|aK #[aF] 55)<|aK #[ic] 44)<|aK #[aF] 55)=G (H a)+5:=ar;have ex:fF (dw (dw (dw (dw (dw a<|aK #[aw k] 9)<|aK #[ay c] 3)<|aK #[aF] 55)<|aK #[ic] 44)<|aK #[aF] 55) (G<|H a) (aw k) 9:=fF.aE (fF.aE (fF.aE (fF.aE (aQ _ z) _) _) _) _;have ey:fF (dw (dw (dw (dw (dw a<|aK #[aw k] 9)<|aK #[ay c] 3)<|aK #[aF] 55)<|aK #[ic] 44)<|aK #[aF] 55) (G (H a)+1) (ay c) 3:=fF.aE (fF.aE (fF.aE (aQ _ ar) _) _) _;have K:fF (dw (dw (dw (dw (dw a<|aK #[aw k] 9)<|aK #[ay c] 3)<|aK #[aF] 55)<|aK #[ic] 44)<|aK #[aF] 55) (G (H a)+2) aF 55:=fF.aE (fF.aE (aQ _ ar) _) _;have L:fF (dw (dw (dw (dw (dw a<|aK #[aw k] 9)<|aK #[ay c] 3)<|aK #[aF] 55)<|aK #[ic] 44)<|aK #[aF] 55) (G (H a)+3) ic 44:=fF.aE (aQ _ ar) _;have eA:fF (dw (dw (dw (dw (dw a<|aK #[aw k] 9)<|aK #[ay c] 3)<|aK #[aF] 55)<|aK #[ic] 44)<|aK #[aF] 55) (G (H a)+4) aF 55:=aQ _ ar;let⟨W5,ha⟩:∃W5,(dw (dw (dw (dw (dw a<|aK #[aw k] 9)<|aK #[ay c] 3)<|aK #[aF] 55)<|aK #[ic] 44)<|aK #[aF] 55)=W5:=⟨_,rfl⟩;rw[ha]at N br ex ey K L eA;have el:=Gt p0 p1 p2 p3 ((N.A b (az h) id).trans h) mx mn mc ei<|hn.aA N id<|λ_ _ _ _ B=>B;have eg:y (qB p0 p1 p2 p3)+1=y m8:=by have:=cD y bp;simp[zF]at this;omega
 rw[eg,<-bp]at el;have ho:∀w6 v6,fE w6 (G<|H W5) 221 1 v6 (y m8) (m8.map (·.1))->I aC W5 w6->cR bN 231 #[v6,aw lo,bw bt] w6 λba w'=>∃v' b,ba=aN v'/\kA s n0 v' (QH bt lo<|m8.map (·.2)) b w'/\s.D w'/\I s.F a w'/\(∀r,b r->G (H a)+5<=r)/\I s.F W5 w':=by intro w6 v6 ao O;have e:I aC a w6:=N.t O;refine(zag n0 m8 lo bt (dQ ao) (λr i=>⟨(ao.lt r i).2,λhk=>gW (hF r hk)<|(ao.lt r i).1⟩) dk (λhV k=>(hR hV k).bM<|e.bM em cY cY) (s.l hI e cY) (aR em e.D) hF).mono ?_;rintro ba w7⟨v7,S7,rfl,cn,ch,bv,ck⟩;refine⟨v7,S7,z,cn,ch,(e.aT (T:=s.F) cY).aj bv<|λ_ B=>.inl B,λr i=>?_,(O.aT (T:=s.F) cY).aj bv<|λ_ B=>.inl B⟩;have:=ck r i;have:=O.D;omega
 have ce:=ak<|And.intro ex (And.intro ey (And.intro K (And.intro L (And.intro eA br))));let⟨fz,HF,bx,HH,HL,hY,HR,HD,hW⟩:=Hp hz hF ac h hn bp hR hI ei;apply(ew (n:=3)).1;refine callsIn_of_wp_marks func162 z trivial ?_ z;simp only[ntmps162,gp,bK,eE,ke,Nat.reduceSub,fh,fc,gq,fH,ep,dt];gi_wp2_with(refine⟨trivial,?_⟩;gi_at_call 108;apply(ew.2<|el).mono;rintro ba w6⟨v6,rfl,ao,O⟩;let⟨x6,c6,hx⟩:=aM ao;subst hx;have fl:=ak ao;have fv:=ak O)
 gi_wp2_with(refine⟨trivial,?_⟩;gi_at_call 231;apply(ew.2<|ho _ _ fl fv).mono;rintro ba w7⟨v7,S7,rfl,cn,ch,bv,ck,eq⟩;obtain⟨f7,dc,rfl,hi,hs⟩:=cn;have fk:=ak<|show kA s n0 (.func (.func f7) #[] dc) (QH bt lo<|m8.map (·.2)) S7 w7 from⟨f7,dc,z,hi,hs⟩;have fe:=ak ch;have fx:=ak bv;have fs:=ak ck;have aD:=ak eq)
 gi_wp2_with(refine⟨trivial,?_⟩;gi_at_call 230;refine(ew.2<|On fk).mono ?_;rintro ba w8⟨v8,S8,rfl,hl,an,gE⟩;obtain⟨f8,aV,rfl,hj,V⟩:=hl;have fi:=ak hj;have fr:=ak V;have fd:=ak an;have fu:=ak gE)
 gi_wp2_with(refine⟨trivial,?_⟩;gi_at_call 214;refine(ew.2<|PQ f8 aV w8).mono ?_;rintro ba w9⟨rfl,ka⟩;subst w9)
 have V:=ag fr;rw[hL]at V;have an:=ag fd;have jI:=V.aZ.D;have hF:∀r,s.F r->r<G (H a):=λr i=>bP<|HF r i;have hu:I s.F a w8:=fx.t<|I.p (S:=aC) an;have hJ:∀r,S8 r->G (H a)+5<=r:=λr i=>by obtain B|B:=fu r i;exact fs r B;have:=aD.D;have:=ce.2.2.2.2.2;omega
 let⟨W9,bq⟩:∃W9,dw w8 (aK #[.func (.func f8) #[] aV] 288)=W9:=⟨_,rfl⟩;have al:I aC w8 W9:=bq▸(cI aC w8);have hh:fF W9 (G<|H w8) (.func (.func f8) #[] aV) 288:=bq▸aQ _ z;have jK:G (H W9)=G (H w8)+1:=by rw[<-bq];simp
 have bf:I s.F a W9:=hu.t al;have er:I s.F W5 W9:=(aD.t<|I.p (S:=aC) an).t al;have ek:Dq s n0 f8 aV cx S8 W9:=V.bM<|al.bM V.aZ.D (λr i=>⟨(V.aZ.bZ r i).2,λB=>B⟩) cY;have gg:s.D W9:=s.l (s.l fe (I.p (S:=aC) an) cY) al cY;have hQ:G (H a)+5<=G (H w8):=Lu aD.D ce.2.2.2.2.2 an.size;have ge:PA s a k c 0 [] (λr=>r=G (H a)\/r=G (H a)+1\/r=G (H a)+2\/r=G (H a)+3\/r=G (H a)+4) W9:=by let⟨f,g,j,x3,e,br⟩:=ag ce;have i:∀{b:R}{eB:ae}{t:TypeId},fF W5 b eB t->G (H a)<=b->fF W9 b eB t:=λhd ec=>(er.A _ (az hd) aI).trans hd;refine⟨?_,⟨aF,i e U,ct _ _ _ _,λr=>by simp[cN];omega⟩,?_,U,bf⟩;(grind);grind
 rw[bq];have hP:=ag<|ak hP;refine tK (arg:=MH) (m:=3) (V:=s) (n0:=n0) (gf:=264) (lb:=#[aJ<|G<|H w8]) (pp:=upX s cx) (ff:=zam cx) (S:=λr=>S8 r\/r=G (H w8)) aI ?geval (enters_of func264 aH z) aI (Ke 2 aV hh fi ek U<|λB=>bP<|(V.aZ.bZ _ B).2) gg U ?slt (λl' ap W=>∃d,l'=d.map Sum.inl/\PA s a k c (y d) (d.map BR) ap W/\(∀A,cx=d++A->bi=Ef k c (d.map BR) (A.map BR))/\y d<=y cx) (λB _ ap W=>(B=.exit 0/\PA s a k c (y bi) bi ap W/\s.D W)\/(B=.ret/\PZ s a ap W)) (λr=>r=G (H a)\/r=G (H a)+1\/r=G (H a)+2\/r=G (H a)+3\/r=G (H a)+4) ⟨[],z,ge,aI,bQ _⟩ ?sb ?lt ?st ?xst ?body ?done ?stop;rfl;rintro r(B|B);have:=(ek.aZ.bZ r B).2;exact this;omega;grind
 rintro _ ap W⟨d,rfl,h,_⟩r i;have:=h.lt r i;grind
 rintro _ ap W W' T⟨d,rfl,h,e⟩ht hT;refine⟨d,z,h.gR ht<|λr i=>⟨(hT r i).1,?_⟩,e⟩;have:=bf.D;grind
 rintro B d ap W W' T h ht hT;have:=bf.D;have e:∀r,T r->¬ap r/\G (H a)<=r:=aI;have bd:∀r,T r->¬s.F r:=aI;obtain⟨h1,h2,h3⟩|⟨h1,h2⟩:=h;exact .inl ⟨h1,h2.gR ht aI,s.l h3 ht bd⟩;exact .inr ⟨h1,h2.gR ht hT e bd⟩
 .rintro lr _ bh ap W eg gd⟨hN,LL,gx⟩cb⟨d,rfl,hC,hcut,hp⟩Q;cases bh with
  |inr q=>
   let⟨hX,hq⟩:s.Xp/\tD W q:=by
    obtain⟨aa,h,_⟩|⟨aa,q',h,hX,hq⟩:=cb
    .have:Sum.inr q∈aa.map (Sum.inl (β:=R)):=by rw[<-h];simp
     simp at this
    simp_all
   have cr:y d<=40000000000:=by
    have h1:=hp;have h2:y cx<=y (QH bt lo<|m8.map (·.2)):=by rw[<-hL];exact gN _ _
    have:=ag bx;omega
   let⟨HC,av,HQ,bc⟩:=js hC Q hq gx;unfold MH yu;simp only;gi_wp2;refine⟨(cI _ _),λj C=>?_⟩;have ad:I aC W (dw W<|aK #[aw ⟨#[]⟩,aw ⟨#[]⟩,aO bD,bw 0] 223):=cI _ _;have D:PA s a k c (y d) (d.map BR) ap j:=(HC.gR ad cY).gR C<|λr i=>aI;have dd:tD j q:=by
    let⟨gb,⟨bg,h,cp⟩,cm⟩:=ag HQ;have h1:=(ad.A q (az h) id).trans h;refine⟨gb,⟨bg,(C.A q (az h1)<|λB=>?_).trans h1,cp⟩,cm⟩;rw[B,ag bc]at h;cases h
   have bb:s.D j:=s.l (s.l av ad cY) C aI;let⟨eB,hv,t,P⟩:=D.bV;have K:=D.l (G (H a)+2,aF,55) ar;have L:=D.l (G (H a)+3,ic,44) ar;have dv:bA j (X (G (H a)+1+1+1+1) 0)=M eB:=hv.u;have ds:bA j (X (G (H a)+1+1) 0)=M aF:=K.u;have ed:iI j (X (G (H a)+1+1) 0)=bD:=K.bS;have eb:bA j (X (G (H a)+1+1+1) 0)=M ic:=L.u;have ej:iI j (X (G (H a)+1+1+1) 0)=bD:=L.bS;let⟨v,u,ab⟩:=aM t;have b2:ap (G (H a)+2):=(P _).2 ar;have b3:ap (G (H a)+3):=(P _).2 ar;have x:I (λr=>r=G (H a)+2\/r=G (H a)+3) j (cP (cP j (X (G (H a)+2) 0)<|am v (y d) u) (X (G (H a)+3) 0)<|eW q):=((I.bI (λr=>r=G (H a)+2\/r=G (H a)+3) j).aL _ 0 _<|.inl<|.inl z).aL _ 0 _<|.inl<|.inr z;have co:tD (cP (cP j (X (G (H a)+2) 0)<|am v (y d) u) (X (G (H a)+3) 0)<|eW q) q:=dd.aA x (by
    grind)
   have bs:=s.l bb x (by rintro r(rfl|rfl)hk<;>have:=hF _ hk<;>omega);have ec:∀r,(r=G (H a)+2\/r=G (H a)+3)->G (H a)<=r:=by rintro r(B|B)<;>omega
   have ca:I s.F a (cP (cP j (X (G (H a)+2) 0)<|am v (y d) u) (X (G (H a)+3) 0)<|eW q):=D.aA.aj x ar;have dn:G (H W)+1<=G (H j):=by have:=C.D;simp_all
   have bT:I (λr=>ap r\/r=lr) W (cP (cP j (X (G (H a)+2) 0)<|am v (y d) u) (X (G (H a)+3) 0)<|eW q):=((ad.aT (T:=λr=>ap r\/r=lr) cY).aj C ar).aj x (by
    grind)
   have ax:(cP (cP j (X (G (H a)+2) 0)<|am v (y d) u) (X (G (H a)+3) 0)<|eW q).heap[lr]?=j.heap[lr]?:=x.A lr U (by
    grind)
   have hZ:PZ s a ap (cP (cP j (X (G (H a)+2) 0)<|am v (y d) u) (X (G (H a)+3) 0)<|eW q):=⟨v,u,q,d.map BR,hX,co,by rw[cS];exact(K.gu _).dN _ U,(L.dN _ U).gu _,bs,ca,b2,b3,by
    rw[cS];exact ab▸x.aZ t (λr i B=>bP ((t.lt r i).1)),λr i=>(P _).2 (by rw[cS,<-ab]at i;exact .inr (.inr i)),by rw[cS];exact cr⟩
   let⟨HZ,bl,bk⟩:=eU hZ bT ax;subst ab;gi_wp2;exact⟨ap,.inr ⟨z,HZ⟩,bl,bk,λr i=>.inl i⟩
  |inl bh=>
  let⟨A,p⟩:∃A,(d++[bh])++A=cx:=by
   obtain⟨aa,h,x,hO⟩|⟨aa,q',h,hX,hq⟩:=cb
   .refine⟨x,?_⟩;have:(d++[bh]).map Sum.inl=aa.map (Sum.inl (β:=R)):=dV h;rw[uY<|λ_ _=>Sum.inl.inj]at this;rw[this,hO]
   simp_all
  have dx:=hcut (bh::A) (by rw[<-p];simp);have ac:y d+1<=40000000000:=by
   have h1:=cD y p;have h2:=cD y hL;have h3:=gN (λba=>!ba.dP)<|QH bt lo<|m8.map (·.2);have x:=ag bx;grind
  have cv:bh.D.size<=281474976710656/\bh.l.size<=281474976710656:=fz bh (by
   have:bh∈(QH bt lo<|m8.map (·.2)).filter (λba=>!ba.dP):=by rw[hL,<-p];simp
   grind)
  have hr:d.map BR++[BR bh]=(d++[bh]).map BR:=ar;let⟨HC,av,cM,hH,cd⟩:=oa hC Q dx hcut p;clear hC Q dx hcut p;let⟨e,g,l,f⟩:=bh;unfold MH E.t;simp only at cv;simp only;gi_wp2;refine⟨(cI _ _),λj C=>?_⟩;have D:PA s a k c (y d) (d.map BR) ap j:=(HC.gR ((I.bI aC W).aE<|aK #[aw e,aw g,aO l,bw f] 223) cY).gR C<|λr i=>aI;have cj:jQ j (G<|H W) ⟨e,g,l,f⟩:=jQ.aA (aQ _ z) C U;let⟨eB,hv,t,P⟩:=D.bV;have it:bA j (X (G<|H a) 0)=M (aw k):=(D.l (G<|H a,aw k,9) ar).u;have iv:bA j (X (G (H a)+1) 0)=M (ay c):=(D.l (G (H a)+1,ay c,3) ar).u;have dv:bA j (X (G (H a)+4) 0)=M eB:=hv.u;let⟨v,u,ab⟩:=aM t;let⟨dT,ea,jC,jD⟩:=cj.bU;let⟨cB,HV,aU,bm,db,fg⟩:=nU D hv t P C cj;have en:G (H W)+1<=G (H j):=by have:=C.D;simp_all
  clear D cj hv t P C;subst ab;have hU:=en;have cs:I (λr=>ap r\/r=lr) W j:=((I.bI (λr=>ap r\/r=lr) W).aE<|aK #[aw e,aw g,aO l,bw f] 223).aj db ar;have bd:∀r,G (H a)<=r->¬s.F r:=aI;have bb:s.D j:=s.l (s.l av (cI aC W) cY) db<|λr i=>aI;by_cases w:(!(k.toList==[])&&!kH e k)=cz
  .have bo:bi=d.map BR:=by
    rw[ag cM,bO,Ef];exact fW w
   have dr:(k.toList==[])=bD:=by cases h1:(k.toList==[])<;>simp[h1]at w|-
   have cl:kH e k=bD:=by cases h2:kH e k<;>simp[h2]at w|-
   unfold kH at cl;let⟨x,cc,cT⟩:=eU cs bb bo;clear cs bb bo w;gi_wp2;refine⟨ap,.inl ⟨z,?_,cc⟩,x,z,λr i=>.inl i⟩;rw[ag cT,cS];exact cB
  .have co:(k.toList==[])=cz\/((k.toList==[])=bD/\kH e k=cz):=by
    cases h1:(k.toList==[])<;>cases h2:kH e k<;>simp[h1,h2]at w|-
   have bT:bi=if((y d:Y)+1==c)=cz then d.map BR++[BR ⟨e,g,l,f⟩]else Ef k c (d.map BR++[BR ⟨e,g,l,f⟩]) (A.map BR):=by
    rw[ag cM,bO,Ef,cS];exact fN w
   have ad:=az fg;have ca:=az HV;have bc:bA j.drew (X (G (H a)+1+1+1+1) 0)=M (am v (y d) u)/\bA j.drew (X (G<|H W) 0)=M (aw e)/\bA j.drew (X (G<|H W) 1)=M (aw g):=⟨dv,dT,ea⟩;have bl:=ak (show∀j4,I aC j j4->bA j4 (X (G (H a)+1+1+1+1) 0)=M (am v (y d) u)/\bA j4 (X (G<|H W) 0)=M (aw e)/\bA j4 (X (G<|H W) 1)=M (aw g)fromλj4 hX=>⟨hX.u bc.1 id ca,hX.u bc.2.1 id ad,hX.u bc.2.2 id ad⟩);have hg:G (H a)+5<=G (H j):=U;have cc:=ak bb;obtain dr|⟨dr,cl⟩:=co;case' inl=>gi_wp2_with fail
   case' inr=>unfold kH at cl;gi_wp2_with fail
   all_goals
    rename_i QQ KK gv;refine wl (λj4=>bA j4 (X (G (H a)+1+1+1+1) 0)=M (am v (y d) u)/\bA j4 (X (G<|H W) 0)=M (aw e)/\bA j4 (X (G<|H W) 1)=M (aw g)) 10 aH aH (λkc a h=>h) ?_;apply dH 0;iterate 3 (refine fX bc ?_;simp only[ii,eh,ke])
    apply eS;apply dH 4;iterate 2 (refine fX bc ?_;simp only[ii,eh,ke])
    apply eS;refine aW 3 ?_;intro K3 gk;go_simp;go_call(λW=>rC e W cv.1) _ as ba w4⟨rfl,he⟩;have eo:I aC j w4:=(cf aC j).t<|I.p (S:=aC) he;apply gk _ _<|λ_=>bl w4 eo;refine aW 6 ?_;intro K6 gn;go_simp;go_call(λW=>rC g W cv.2) _ as ba w5⟨rfl,hf⟩;have N:I aC j w5:=eo.t<|I.p (S:=aC) hf;apply gn _ _<|λ_=>bl w5 N;refine aW 7 ?_;intro K7 gr;go_simp;apply gr _ _<|λ_=>bl w5 N;refine aW 8 ?_;intro K8 gs;go_simp;have O:=N.aE<|aK #[aw e,aw g] 142;apply gs _ _<|λ_=>bl _ O;have br:=N.D;refine aW 9 ?_;intro K9 gt;simp only[dl,cF,cO];refine lO (.tmp 36) (.tmp 44) 55 z (G (H a)+5) 142 i0 (ef #[aw ⟨#[]⟩,aw ⟨#[]⟩]) 2 32 underlying55 hm hA hB hD z cg (am v (y d) u) (y d) (iS<|d.map BR) z (O.aZ aU<|λ_ _ B=>B) (X (G<|H w5) 0) 1 1 (sg<|BR ⟨e,g,l,f⟩) z z (Sx _ (BR ⟨e,g,l,f⟩) _) (X9 _) U U dW ?_;intro v3 w3 ej ev;let⟨x3,c3,hw⟩:=aM ej;subst hw;have bs:I (λr=>cN (am v (y d) u)=M r) j w3:=(O.aT (T:=λr=>cN (am v (y d) u)=M r) cY).aj (I.eF (S:=λr=>cN (am v (y d) u)=M r) ev.dF<|λr i=>.inl i)<|λr i=>.inl i;have ds:fF w3 (G (H a)+4) (am v (y d) u) 55:=(bs.A _ ca<|λB=>bP<|(aU.lt _ B).1).trans HV;have eb:¬cN (am v (y d) u)=M (G<|H W):=λB=>bP<|(HC.lt _<|(bm _).2<|.inr<|.inr B).2;have dn:bA w3 (X (G (H a)+1+1+1+1) 0)=M (am v (y d) u)/\bA w3 (X (G<|H W) 0)=M (aw e)/\bA w3 (X (G<|H W) 1)=M (aw g):=⟨ds.u,bs.u dT eb ad,bs.u ea eb ad⟩;apply gt _ _<|λ_=>dn;simp only[ii,eh];refine aW 10 ?_;intro ih dd;have jB:=dn.1;have jE:iI w3 (X (G (H a)+1+1+1+1) 0)=bD:=ds.bS;go_simp;apply dd _ _ wX;refine dG aH ?_ _;show KK _ _;apply gv;have hc:cN (am x3 (y d+1) c3)=cN (am v (y d) u)\/∃hG,cN (am x3 (y d+1) c3)=M hG/\G (H j)<=hG:=by
     obtain ip|⟨hG,ip,jG⟩:=ev.f
     .exact .inl ip
     .exact .inr ⟨hG,ip,by simp at jG;omega⟩
    let⟨B',q1,q2,q3⟩:=cB.jl HV bm aU bs hc ej;have ax:Hid (PA s a k c (y d+1) (d.map BR++[BR ⟨e,g,l,f⟩]) B'<|cP w3 (X (G (H a)+1+1+1+1) 0)<|am x3 (y d+1) c3):=ak (by unfold PA;rw[Hl];exact q1);have bk:Hid (I ap j<|cP w3 (X (G (H a)+1+1+1+1) 0)<|am x3 (y d+1) c3):=ak q2;have fn:=ak q3;let⟨W7,hb⟩:∃W7,cP w3 (X (G (H a)+1+1+1+1) 0) (am x3 (y d+1) c3)=W7:=⟨_,rfl⟩;rw[hb]at ax bk|-;let⟨v7,hy,es,hS⟩:=ax.bV;obtain⟨x7,c7,et⟩:=aM es;subst et;have jk:bA W7 (X (G (H a)+1+1+1+1) 0)=M (am x7 (y d+1) c7):=hy.u;have jA:bA W7 (X (G (H a)+1) 0)=M (ay c):=(ax.l (G (H a)+1,ay c,3) ar).u;have x:=ak<|And.intro (s.l cc bk (λr i=>bd r (HC.lt r i).1):s.D W7) (And.intro (cs.aj bk aI:I (λr=>ap r\/r=lr) W W7) (And.intro (bk.A lr U gd:W7.heap[lr]?=j.heap[lr]?) (λr i=>(fn r i).imp_right (λB=>U):∀r,B' r->ap r\/G (H W)<=r)));by_cases hM:(y d:Y)+1=c
    .have ed:((y d:Y)+1==c)=cz:=aI;have bo:bi=d.map BR++[BR ⟨e,g,l,f⟩]:=by rw[bT];grind
     gi_wp2;refine⟨B',.inl ⟨z,?_,x.1⟩,x.2.1,x.2.2.1,x.2.2.2⟩;rw[ag<|ak bo,ai,cS];exact ax
    .have ed:¬((y d:Y)+1==c)=cz:=aI;have cT:=ak (by rw[bT];grind:bi=Ef k c (d.map BR++[BR ⟨e,g,l,f⟩]) (A.map BR));have jH:((y d:Y)+1==c)=bD:=aI;clear ed;gi_wp2;refine⟨x.1,B',⟨d++[⟨e,g,l,f⟩],ar,?_,λhE hO=>?_,by have:=cD y<|ag cd;simp only[ai]at this|-;omega⟩,x.2.1,x.2.2.1,x.2.2.2⟩
     .rw[ai,<-hr];exact ax
     grind[ag,append_cancel_left]
 (case' stop=>rintro fb B d ap W gi(⟨rfl,hC,Q⟩|⟨rfl,hZ⟩)bn hK;rotate_left;(.let⟨bh,B,q,ps,hX,hq,h2,h3,Q,g,b2,b3,f,e,cr⟩:=hZ;have F:=iC W fb<|.deferred dE;have bd:∀r,G (H a)<=r->¬s.F r:=aI;have ec:G (H a)<=fb:=bP bf.D;gi_wp2;refine⟨ar,.inl ⟨_,_,z,run_takeDeferred hK,?_⟩⟩;refine⟨_,yn z underlying55 _ _ (G (H a)+2) (G (H a)+3) (am bh (y ps) B) (eW q) z z ?_ ?_,?_⟩;exact(fF.u<|(F.A _ (az h2)<|λB=>bn<|B▸b2).trans h2);exact(fF.u<|(F.A _ (az h3)<|λB=>bn<|B▸b3).trans h3);refine .inr ⟨bh,B,ps,⟨hX,q,z,?_,s.l Q F aI,g.aj F aI⟩,fj (F.aZ f<|λr i ba=>bn<|ba▸e r i) U,cr⟩;let⟨gb,⟨bg,hq,cp⟩,cm⟩:=hq;exact⟨gb,⟨bg,(F.A _ (az hq) aI).trans hq,cp⟩,cm⟩);obtain⟨eB,hv,t,P⟩:=hC.bV);(case' done=>rintro l' fb ap W e gi⟨d,rfl,hC,hcut,_⟩bn Q hK;(obtain rfl:cx=d:=by obtain h|⟨f,q,h⟩:=e;(grind[List.map_inj_right,Sum.inl.inj]);(have:Sum.inr q∈d.map (Sum.inl (β:=R)):=by rw[h];simp);simp at this);(have hC:PA s a k c (y bi) bi ap W:=by rw[(by rw[hcut [] ar];rfl:bi=cx.map BR),cS];exact hC);clear hcut;obtain⟨eB,hv,t,P⟩:=hC.bV);(all_goals have:bA W (X (G (H a)+1+1+1+1) 0)=M eB:=hv.u;have K:=hC.l (G (H a)+2,aF,55) ar;have L:=hC.l (G (H a)+3,ic,44) ar;have:bA W (X (G (H a)+1+1) 0)=M aF:=K.u;have:iI W (X (G (H a)+1+1) 0)=bD:=K.bS;have:bA W (X (G (H a)+1+1+1) 0)=M ic:=L.u;have:iI W (X (G (H a)+1+1+1) 0)=bD:=L.bS;obtain⟨v,u,ab⟩:=aM t;let⟨fL,ga,HC,HV,aU,bm,av,HK⟩:=Zt K L hC hv t P Q hK;subst ab;gi_wp2;have:=ag bm;have n1:fb≠G (H a)+2:=U;have n2:fb≠G (H a)+3:=U;have:¬cN (am v (y bi) u)=M fb:=aI;(have gj:(cP (cP W (X (G (H a)+2) 0)<|am v (y bi) u) (X (G (H a)+3) 0) ic).heap[fb]?=M (.deferred<|M []):=by rwa[kV _ n2,kV _ n1]);have bE:fF (cP (cP W (X (G (H a)+2) 0)<|am v (y bi) u) (X (G (H a)+3) 0) ic) (G (H a)+2) (am v (y bi) u) 55:=(fL.gu _).dN _ U;have bL:fF (cP (cP W (X (G (H a)+2) 0)<|am v (y bi) u) (X (G (H a)+3) 0) ic) (G (H a)+3) ic 44:=(ga.dN _ U).gu _;have F:=iC (cP (cP W (X (G (H a)+2) 0)<|am v (y bi) u) (X (G (H a)+3) 0) ic) fb<|.deferred dE;have cu:=((((I.bI (λr=>r=G (H a)+2\/r=G (H a)+3) W).aL _ 0 _<|.inl<|.inl z).aL _ 0 _ (.inl<|.inr z):I (λr=>r=G (H a)+2\/r=G (H a)+3) W (cP (cP W (X (G (H a)+2) 0)<|am v (y bi) u) (X (G (H a)+3) 0) ic)).aT (T:=λr=>r=G (H a)+2\/r=G (H a)+3\/r=fb) ar).aj F ar;have:∀r,G (H a)<=r->¬s.F r:=aI;(have:∀r,(r=G (H a)+2\/r=G (H a)+3\/r=fb)->G (H a)<=r:=by have:=bf.D;rintro r(B|B|B)<;>omega);refine⟨ar,.inl ⟨_,_,z,run_takeDeferred gj,?_⟩⟩;refine⟨_,yn z underlying55 _ _ (G (H a)+2) (G (H a)+3) (am v (y bi) u) ic z z ?_ ?_,?_⟩;exact(fF.u<|(F.A _ (az bE)<|λB=>n1 B.symm).trans bE);exact(fF.u<|(F.A _ (az bL)<|λB=>n2 B.symm).trans bL);refine .inl ⟨_,z,?_,s.l av cu aI,(ag HC).aA.aj cu aI⟩;have t:=ag aU;have kb:=cu.aZ t (λr i B=>by have:=(t.lt r i).1;grind);obtain⟨h1,⟨h2,h0⟩|⟨hG,il,gc,h2,hd,p⟩⟩:=kb;exact⟨h1,.inl ⟨h2,h0⟩⟩;exact⟨h1,.inr ⟨hG,il,gc,h2,U,p⟩⟩)
end
section
open Conc.Locks
def Gs(b:Y)(d c:af)(a:Y)(e:iG):kW:=Ef c a []<|((QH b d e).filter<|λf=>!f.dP).map BR
def xE(s:SR)(m:dB)(a b c d:dI):(pI s m a b c d).map (·.2)=m::lM a b c d:=by
 simp[pI,lM,xq,kL]
def A9(a:dI):y ((a.map cH.dq).reverse).flatten=y (gz a):=by
 unfold gz;rw[ul,ul,xq,List.sum_reverse]
def sE.p{d b e g:dI}(h:sE N a c o f i d b e g k):y (i::lM d b e g).flatten<=k:=by
 have:=h.FX;have:=A9 d;unfold lM;rw[di,lW];grind
def sE.Hu{l b m n:dI}(h:sE N a c o f i l b m n k):∀x∈(i::lM l b m n).flatten,x.Good:=by
 intro x e;rw[<-xE o]at e;let⟨p,g,d⟩:=dO.1 e;obtain⟨r,j,rfl⟩:=cC.1 g;exact h.NK r j x d
def uQ(w a:Z)(v:ae)(l:kW):Prop:=fE a (G<|H w) 142 2 v (y l)<|iS l
def Ot(k g:af)(d j:Y)(t:Qy K f N)(s:l++v++C++F≠[]->K)(p:cU a b o r)(e:sE N a b o f i l v C F c):cR bN 162 #[aJ b,aw k,aw g,ay d,bw j] a λD h=>(∃q,D=aN (de #[q,ic])/\uQ a h q (Gs j k g d<|i::lM l v C F)/\(ug K o.f f).D h/\I (ug K o.f f).F a h)\/∃x C,∃m:kW,Et (ug K o.f f) a h (ug K o.f f).F D (λL=>de #[am x (y m) C,L])/\uQ a h (am x (y m) C) m/\y m<=40000000000:=by
 let⟨B,A,n⟩:=cG e.D
 have u:=Vw (G<|H a) (o.l0,l) (o.l1,v) (o.l2,C) (o.l3,F) (pI o i l v C F) k g d j p B (y i) A n (e.lvm p) (AI o i l v C F) (λO g=>e.Ma t s _<|aB g) e.GR (aq _) e.f.lt (by
  rw[xE];intro x w;have:=e.Hu x (O5 _ _ _ x w);grind[E.Good.f,E.Good.l])
  (by
   rw[xE];have:=Uk j k (i::lM l v C F);have:=e.p;have:=e.v;omega)
 rwa[xE]at u
def TG(n k:af)(d j:Y)(x:Qy K f N)(w:l++v++C++F≠[]->K)(u:cU a b o r)(m:sE N a b o f i l v C F c):cR bN 110 #[aJ b,aw n,aw k,ay d,bw j] a λt g=>(∃p,t=aN (de #[p,ic])/\uQ a g p (Gs j n k d<|i::lM l v C F)/\(ug K o.f f).D g/\I (ug K o.f f).F a g)\/Et (ug K o.f f) a g (ug K o.f f).F t (λL=>de #[aF,L]):=by
 have A:=Ot n k d j x w u m;go_in
 go_wp21;go_call A as t P(⟨O,rfl,e⟩|⟨Q,C,D,⟨B,q,rfl,e⟩,_⟩);(.obtain⟨E,s,rfl⟩:=aM e.1;go_wp2;(go_ret2);exact J ⟨_,z,e⟩);have s:=ak e;go_wp2;(go_ret2);exact bu ⟨B,q,z,s⟩
def uQ.xA{l:kW}(h:uQ a e d l)(c:b<G (H a)):uQ a (cP e (X b 0) w) d l:=by
 unfold uQ at h|-;exact h.kept (eG e _ _ _) (by right;intro f;have:=(h.lt _ f).1;omega)
def Rs(lo Q:af)(d:Y)(hX:Qy K f N)(hN:l++v++C++F≠[]->K)(h:cU a b o 0)(T:sE N a b o f i l v C F c)(hc:o.d=bD):cR bN 59 #[aJ b,aw lo,aw Q,ay d] a λL p=>((∃v',L=aN (de #[v',ic])/\uQ a p v' (Gs o.S lo Q d<|i::lM l v C F))\/K/\∃q,L=aN (de #[aF,eW q])/\tD p q)/\Ir N a p b o f i l v C F c:=by
 have w:=az h;have c0:=cU.bW h 0 z;have f0:iI a (X b 0)=bD:=h.bS;have t:=lQ T.f T.l 1;have P:=h.jh 1;have W:G (H<|cP a (X b 0)<|iD 1)=G (H a):=gK;generalize hW:cP a (X b 0) (iD 1)=k at t P W;have x:=mY P;rw[hc]at x;have A:cR bN 49 #[aJ b] k λL p=>L=aN ic/\gD (G<|H k) k p:=x;have HX:=ak<|λe(r:gD (G<|H k) k e)=>tP (j4:=K) (W2:=e) P T w t r;have HG:=ak (show∀e g ac ab,gD (G<|H k) k e->uQ e g ac ab->uQ a (cP g (X b 0)<|iD 0) ac ab fromλe g ac ab r D=>by have:uQ a g ac ab:=fj D<|bP r.size;exact this.xA w);go_enter_defers func59,ntmps59
 go_wp21;go_call ng (X b 0) _ c0 f0 as L p⟨rfl,aa⟩;rw[hW]at aa;subst p;go_wp21;go_call A as L e⟨rfl,r⟩;let⟨s,V,j⟩:=HX e r;have S:=TG lo Q d o.S hX hN s V;have:=cU.bW s 9 z;have B:=ak<|λg ac ab=>HG e g ac ab r;go_wp21;go_call S as L g(⟨v2,rfl,u,m,n⟩|⟨hx,q,rfl,hq,m,n⟩);(.obtain⟨px,pc,rfl⟩:=aM u;let⟨E,O,hF,_⟩:=j g m n;have D:=ak<|B _ _ _ u;go_wp2;exact fD E O ⟨_,jx z _ _ _,J ⟨am px _ pc,z,D⟩,hF⟩);obtain⟨E,O,hF,hC⟩:=j g m n;have D:=ak<|hC q hq;go_wp2;exact fD E O ⟨_,jx z _ _ _,bu ⟨hx,q,z,D⟩,hF⟩
def UY(g e:af)(d:Y)(h:cU a b o 0)(k:ST a b o f i l v C F c)(n:o.d=bD):cR bN 59 #[aJ b,aw g,aw e,ay d] a λp j=>((∃m,p=aN (de #[m,ic])/\uQ a j m (Gs o.S g e d<|i::lM l v C F))\/l++v++C++F≠[]/\∃q,p=aN (de #[aF,eW q])/\tD j q)/\Au a j b o f i l v C F c:=by
 refine(Rs g e d (Qy.bI k.f) id h k n).mono ?_;grind[Ir.xD]
end
def jP.aA{S:fC}{w w':Z}(h:jP w)(c:I S w w')(a:¬S 0):jP w':=by
 unfold jP at*;exact c.u h a<|cA _ _ h
def nk{w b:Z}{db j3:R}{K:DK}(c:cJ w db K)(a:I aC w b):gl w b db j3 K K:=⟨c.aA a<|λ_ _=>id,a.aT cY,λ_ q=>J q,Fx.bI _⟩
def Kf{w c:Z}{db a:R}{K:DK}(d:cJ w db K)(e:¬K.j db a)(b:I (λk=>k=a) w c):gl w c db a K K:=⟨d.aA b aI,b.aT ar,λ_ q=>J q,Fx.bI _⟩
def Steps.aA{S:fC}{w w':Z}(h:Steps w)(d:I S w w')(a:¬S 1):Steps w':=λk c=>d.u (h k c) a h.lt
def NY{p:Func}{v:Tmp}(h:p.results=#[.cell v 108])(a:Array ae)(w:Z)(r:R)(l m n o:Option Addr)(g i j k c d e f:R)(x:TypeId)(q:R×R)(u:a.getD v jn=aJ r)(s:w.heap[r]?=M (aK #[am l g c,am m i d,am n j e,am o k f] x q)):(results p a).run bN w=.ok (ef #[am l g c,am m i d,am n j e,am o k f]) w:=by
 have b:a[v]?.getD jn=aJ r:=dV u;have t:=kQ (P:=bN) w r x 108 #[am l g c,am m i d,am n j e,am o k f] q _ s underlying108 z aH;simp[results,h,b,asAddr,t]
def VM{m:dB}(l:eD)(h:lG a d m)(hm:Row a 1 w (y l) (l.map<|Value.int .u64))(N:yP m)(hg:∀aD∈m,aD.Good)(hl:y m<=3000000000)(h4:y l<=4)(hv:∀k,cN d=M k->k<G (H a))(A:∀k,cN w=M k->k<G (H a))(hT:Steps a)(T:1<G (H a)):cR bN 149 #[d,w] a λP w'=>∃v3,∃f:dI,P=aN (ef #[aF,aF,aF,v3])/\fE w' (G<|H a) 235 1 v3 (y f) (f.map cH.D)/\f.map cH.dq=jq (kN<|gw l m)/\sF w' (G<|H a) f/\I aC a w':=by
 have g:I aC a (dw a<|aK #[aF,aF,aF,aF] 108):=(cI aC a);have V:(dw a<|aK #[aF,aF,aF,aF] 108).heap[G<|H a]?=M (aK #[aF,aF,aF,aF] 108 (0,0)):=aQ _ z;have C:G (H<|dw a<|aK #[aF,aF,aF,aF] 108)=G (H a)+1:=ar;have ad:=yx l (g.bV h<|λk e=>⟨id,hv k e⟩) N hl (g.bV hm<|λk e=>⟨id,A k e⟩) U (λk e=>au (hv k e) g.D)<|λk e=>au (A k e) g.D;let⟨x1,n1,av⟩:=cG h;let⟨x2,n2,ax⟩:=cG hm;subst av ax;go_in
 go_wp21;go_call ad as P w2⟨v2,rfl,r,D⟩;have aa:=Ql (dQ r) (zQ N l) (aR (oF l m).length_le hl)<|λk e=>(r.lt k e).2;obtain⟨y2,d2,rfl⟩:=aM r;have Q:=ak<|g.t D;have t:=ak<|(D.A _ (by rw[C];omega) id).trans V;go_wp21;go_call aa as P w3⟨v3,rfl,s,E⟩;have n:=(nV<|gw l m).trans<|oF l m;have v:=ak<|Q.t E;have al:=wM (dQ s) ((zQ N l).kE<|nV _) (((AD N).kE<|nV _).aT U) (λaD a=>hg aD<|n.subset a) (aR n.length_le hl) (λk e=>(s.lt k e).2)<|λk e=>v.u (hT k e) id T;obtain⟨y3,d3,rfl⟩:=aM s;have o:=ak<|(E.A _ (az t) id).trans t;go_wp21;go_call al as P w4⟨v4,f,rfl,B,ao,ab,F⟩;have c:=(F.A _ (az o) id).trans o;have:G (H a)+1<=G (H w3):=bP<|az o;have S:=ak<|v.t F;obtain⟨O,L,rfl⟩:=aM B;have K:=ak<|And.intro B (And.intro ao ab);have:=aX c 0;have:=aX c 1;have:=aX c 2;have:=aX c 3;have:=cV (i:=0) c;have:=cV (i:=1) c;have:=cV (i:=2) c;have:=cV (i:=3) c;let⟨p,x⟩:∃p,cP (cP (cP (cP w4 (X (G<|H a) 0) aF) (X (G<|H a) 1) aF) (X (G<|H a) 2) aF) (X (G<|H a) 3) (am O (y f) L)=p:=⟨_,rfl⟩;have W:p.heap[G<|H a]?=M (aK #[aF,aF,aF,am O (y f) L] 108 (0,0)):=x▸DV c;have j:I (λq=>q=G (H a)) w4 p:=x▸(((iQ (G<|H a) w4).aL _ _ _<|J z).aL _ _ _<|J z).aL _ _ _ (J z);have ap:I aC a p:=S.aj j<|λk P=>bu (by have e':k=G (H a):=P;omega);have an:fE p (G<|H a) 235 1 (am O (y f) L) (y f) (f.map cH.D):=fj (j.aZ K.1 (λk e c=>by have:k=G (H a):=c;have:=(K.1.lt k e).1;omega)) U;have ac:sF p (G<|H a) f:=(K.2.2.dN j (λk P=>by have e':k=G (H a):=P;rw[e'];grind)).pQ U;have u:=ak<|And.intro an (And.intro K.2.1 (And.intro ac ap));go_wp2;exact ci (NY z _ _ (G<|H a) dE dE dE O 0 0 0 (y f) 0 0 0 L _ _ z W) z ⟨_,f,z,u⟩
def zbq(t:cH):ae:=ef #[aw<|jg t.cK,aw<|iq t.ks,aw<|iR t.ks,ay (nD t.ks:R)]
def NW{c:Func}{p:Tmp}(h:c.results=#[.cell p 120])(a:Array ae)(w:Z)(g:R)(e f i:af)(j:Y)(t:TypeId)(d:R×R)(m:a.getD p jn=aJ g)(k:w.heap[g]?=M (aK #[aw e,aw f,aw i,ay j] t d)):(results c a).run bN w=.ok (ef #[aw e,aw f,aw i,ay j]) w:=by
 have b:a[p]?.getD jn=aJ g:=dV m;have l:=kQ (P:=bN) w g t 120 #[aw e,aw f,aw i,ay j] d _ k underlying120 z aH;simp[results,h,b,asAddr,l]
def Sh{t:cH}(h:MY a t):Qv a t:=by
 let⟨_,j,e,c,g,i,d,b,f,k⟩:=h;exact⟨j,_,e,c,g,i,d,b,f,k⟩
def KG{t:cH}(h:MY a t)(C:Pow a)(o:2<G (H a))(hc:nD t.ks<=20000000000)(hz:(iq t.ks).size<=1000/\(iR t.ks).size<=1000):cR bN 136 #[aJ t.tb] a λs w'=>s=aN (zbq t)/\I aC a w':=by
 let⟨W,B⟩:∃W,dw a (aK #[aw ⟨#[]⟩,aw ⟨#[]⟩,aw ⟨#[]⟩,ay 0] 120)=W:=⟨_,rfl⟩;have f:I aC a W:=B▸cI _ _;have b:W.heap[G<|H a]?=M (aK #[aw ⟨#[]⟩,aw ⟨#[]⟩,aw ⟨#[]⟩,ay 0] 120 (0,0)):=B▸aQ _ z;have d:=ak (show∀c,I aC W c->MY c t/\Pow c/\I aC a c/\c.heap[G<|H a]?=M (aK #[aw ⟨#[]⟩,aw ⟨#[]⟩,aw ⟨#[]⟩,ay 0] 120 (0,0))fromλc e=>⟨h.aA<|f.t e,C.dU<|(f.t e).A _ o id,f.t e,(e.A _ (az b) id).trans b⟩);have m:=λc=>rC (iq t.ks) c U;have n:=λc=>rC (iR t.ks) c U;clear h C o f b;go_in
 go_wp21;go_call(d W<|I.bI _ W).1.dA (d W<|I.bI _ W).2.1 as s K⟨rfl,g⟩;have D:=I.p (S:=aC) g;clear g;go_wp21;apply(Sh (d K D).1).eJ.mono;rintro s u⟨rfl,aa⟩;subst u;go_wp21;go_call m K as s u⟨rfl,j⟩;have E:=D.t<|I.p (S:=aC) j;clear j;go_wp21;apply(Sh (d u E).1).eP.mono;rintro s L⟨rfl,q,p⟩;have t3:I aC W L:=p▸E.t ((I.bI aC u).df z);clear p;go_wp21;go_call n L as s w4⟨rfl,k⟩;have F:=t3.t<|I.p (S:=aC) k;clear k;go_wp21;go_call Cr t (Sh (d w4 F).1) hc as s v⟨rfl,l⟩;have A:=F.t<|I.p (S:=aC) l;have b:=(d v A).2.2.2;have f:=(d v A).2.2.1;clear l A;have T:=aX b 0;have V:=aX b 1;have g2:=aX b 2;have g3:=aX b 3;have N:=cV (i:=0) b;have O:=cV (i:=1) b;have P:=cV (i:=2) b;have Q:=cV (i:=3) b;let⟨r,e⟩:∃r,cP (cP (cP (cP v (X (G<|H a) 0)<|aw<|jg t.cK) (X (G<|H a) 1)<|aw<|iq t.ks) (X (G<|H a) 2)<|aw<|iR t.ks) (X (G<|H a) 3) (ay (nD t.ks:R))=r:=⟨_,rfl⟩;have w:=ak (show r.heap[G<|H a]?=M (aK #[aw<|jg t.cK,aw<|iq t.ks,aw<|iR t.ks,ay (nD t.ks:R)] 120 (0,0))by rw[<-e];exact DV b);have x:=ak (show I aC a r by rw[<-e];exact f.aj ((((iQ (G<|H a) v).aL _ _ _<|J z).aL _ _ _<|J z).aL _ _ _<|J z)<|λk s=>bu (by have e':k=G (H a):=s;omega));clear b;go_wp2;clear e T V g2 g3 N O P Q;exact ci (NW z _ _ (G<|H a) _ _ _ _ _ _ z w) z ⟨z,x⟩
def cH.p(t:cH):iF:=[aw<|jg t.cK,aw<|iq t.ks,aw<|iR t.ks,ay (nD t.ks:R)]
def rV(a:dI):iF:=a.flatMap cH.p
def Yc(a:dI)(t:cH):rV (a++[t])=rV a++t.p:=by simp[rV]
def L3:(prog.info? 120).map (λi=>(i.zero,i.size,i.bytes))=M (M<|ef #[aw ⟨#[]⟩,aw ⟨#[]⟩,aw ⟨#[]⟩,ay 0],4,56):=aH
def Zk:(prog.info? 118).map (λi=>(i.zero,i.size,i.bytes))=M (M aF,1,24):=aH
def zcq(w:Z)(t:cH):Prop:=MY w t/\nD t.ks<=20000000000/\(iq t.ks).size<=1000/\(iR t.ks).size<=1000
def Ce(w:Z)(b:R)(a:cy (ae×dI))(c:iF):Prop:=∀(i:R)(u:ae),c[i]?=M u->∃p:ae×dI,a[i]?=M p/\fE w b 120 4 u (y p.2) (rV p.2)
def Ce.Gh{c:cy (ae×dI)}{p:ae×dI}{u:ae}(h:Ce a b c Q)(g:c[y Q]?=M p)(f:fE a b 120 4 u (y p.2) (rV p.2)):Ce a b c (Q++[u]):=λi v e=>by
 obtain d|d|d:=mU i<|y Q;exact h i v (by rwa[iu d]at e);grind
 grind
def D8{a:cy (ae×dI)}(h:b<y a):y a[b].2<=nC a:=by
 have:=AG a<|b+1;rw[aG h,Dz]at this;omega
def Ce.aA{w w':Z}{a:cy (ae×dI)}{S:fC}(h:Ce w c a Q)(k:I S w w')(o:∀n,S n->∃d t e,w.heap[n]?=M (.cells d t e)/\t≠120):Ce w' c a Q:=λi u m=>by
 let⟨q,j,g⟩:=h i u m;refine⟨q,j,k.aZ g<|λn p r=>?_⟩;grind[ue]
def OM(m:cy (ae×dI))(h:Fw a b c m)(hN:∀cl∈m,∀ch∈cl.2,zcq a ch)(hp:Pow a)(ao:2<G (H a)):cR bN 83 #[ee<|M<|X b c] a λcj w'=>∃ck r,cj=aN ck/\fE w' (G<|H a) 118 1 ck 4 r/\y r=4/\Ce w' (G<|H a) m r/\I aC a w':=by
 let⟨i0,ab,aD,aU,aV⟩:=cZ L3;let⟨i1,ac,ap,av,ax⟩:=cZ Zk;have bL:=h.dL;have br:=h.f;have bo:=h.lt;have HC:=ak h.u;have HR:=ak h.bV;have P:=ak h.l;let⟨HN,HP,Q⟩:=eU hN hp ao;clear h hN hp ao;go_in
 go_wp2_with(first
  |(at_make;go_loud(refine kg _ z _ _ 114 z (G (H a)) 118 i1 aF 1 underlying114 ac ap av _ _ _ 4 z z U (by rw[ax];omega) (by unfold maxLen;omega) (aq _) ?_;intro w4 C w;have bi:=ak C;have bc:=ak w;clear C w)))
 go_loopw [3,12] (λbT bb wr=>∃s:R,∃r:iF,s<=4/\bb=ay s/\y r=s/\fE wr (G<|H a) 118 1 bT s r/\Ce wr (G<|H a) m r/\I aC a wr) (λ_ bb _=>4-(intOf bb).toNat)
 exact⟨0,[],U,z,z,bi,λbb ca a=>by simp at a,I.eF (S:=aC) bc ar⟩
 .rename Z=>V
  obtain⟨s,r,hn,rfl,N,i,L,l⟩:=hrel;let⟨cm,ba,ho⟩:=aM i;subst ho;by_cases bp:s<4
  .have A:s<y m:=U;have bq:=l.u (HC s A) id bo;let⟨g9,m9,hy⟩:=cG<|HR s A;have k:=l.bV (HR s A)<|λbx K=>⟨id,P s A bx K⟩;have ad:m[s]∈m:=aB A;have HT:=ak<|λch a=>(HN _ ad ch a);have bg:=ak<|show m[s]?=M m[s]from bF A;have bt:y m[s].2<=20000000000:=aR (D8 A) br;let⟨d,hg⟩:∃d,m[s].2=d:=⟨_,rfl⟩;rw[hg]at hy k HT bt;have bf:=ak hg;rw[hy]at bq k;clear hg;have cc:=i.lt;have HU:=ak i;have bl:=ak L;have T:=ak l;have bs:=l.D;clear i L l;go_wp2_with(first
    |(at_make;go_loud(refine kg _ z _ _ 118 z (G (H V)) 120 i0 (.agg #[.string ⟨#[]⟩,.string ⟨#[]⟩,.string ⟨#[]⟩,.int .i64 0]) 4 underlying118 ab aD aU _ _ _ (y d) z z U (by rw[aV];omega) (by unfold maxLen;omega) (aq _) ?_;intro w5 D x;have bk:=ak D;have bd:=ak x;clear D x)))
   go_loopw [6,22] (λbT bb a=>∃q:R,q<=y d/\bb=ay q/\fE a (G<|H V) 120 4 bT q (rV<|d.take q)/\I aC V a) (λ_ bb _=>y d-(intOf bb).toNat)
   .exact⟨0,bQ _,z,bk,I.eF (S:=aC) bd ar⟩
   .obtain⟨q,hm,rfl,e,f⟩:=hrel;let⟨O,c2,aa⟩:=aM e;have ce:=f.D;by_cases j:q<y d
    .let⟨bE,g,u,bv,cb,n⟩:∃bE g u,am g9 (y d) m9=bX bE g (y d) u/\y d<=u/\∀j ca,(d.map cH.D)[j]?=M ca->bA V (X bE<|g+j)=M ca:=by
      obtain⟨_,⟨q1,q2⟩|⟨bE,g,u,q1,q2,q3⟩⟩:=k
      .omega
      grind
     cases bv;have hb:=P s A bE (by rw[hy];rfl);have an:=n q _ (by rw[fP,bF j];rfl);have hp:=f.u an id U;let⟨B,W,hf,hl⟩:=HT _<|aB j;have hT:I aC a wr:=T.t f;have o:=KG (B.aA hT) (HP.dU<|hT.A _ Q id) (au Q hT.D) W ⟨hf,hl⟩;have bm:=ak (show rV (d.take<|q+1)=rV (d.take q)++[aw<|jg d[q].cK,aw<|iq d[q].ks,aw<|iR d[q].ks,ay (nD d[q].ks:R)]by rw[aG j,Yc];rfl);unfold cH.D at hp;unfold zbq at o;generalize jg d[q].cK=x0 at*;generalize iq d[q].ks=x1 at*;generalize iR d[q].ks=x3 at*;generalize nD d[q].ks=x4 at*;generalize d[q].tb=j8 at*;let⟨HO,F⟩:Hid _/\Hid _:=⟨ak e,ak f⟩;have al:=e.lt;clear e f B W hf hl hT n an k;subst aa;go_wp21;go_call o as cj w1⟨rfl,v⟩;have bh:=ak<|v.aZ HO<|λ_ _ ba=>ba;have cd:=v.D;have bn:=ak v;clear v o;go_wp2_with(first
      |(at_builtin;go_loud(refine cq _ z (.tmp 26) (.tmp 29) 118 z (G (H V)) 120 i0 (.agg #[.string ⟨#[]⟩,.string ⟨#[]⟩,.string ⟨#[]⟩,.int .i64 0]) 4 56 underlying118 ab aD aU aV z cg (.slice O q c2) q (rV (d.take q)) z (bC bh _) (X (G (H w1)) 0) 1 1 [.string x0,.string x1,.string x3,.int .i64 (x4:R)] z z (Am _ _ _ _ _ z) (by simp[Value.oneCell']) U U dW ?_;intro o2 w2 e p;have E:=ak e;have t:=ak p;clear e p)))
     go_roundw
     .refine⟨q+1,j,dM,by rw[ag bm];exact E,?_⟩;exact((F.t bn).aE _).aj (I.fV t)<|λbx K=>bu (al bx K).1
     .simp[intOf];omega
    .have o:q=y d:=U;subst o;rw[cQ]at e;have n:=f.aZ HU<|λ_ _ ba=>ba;have u:=bl.aA f<|λ_ ba=>ba.elim;let⟨HO,B,W,F⟩:=js n e u f;have g:=n.lt;clear e f n u;subst aa;go_wp2_with(first
      |(at_builtin;go_loud(refine cq _ z (.tmp 32) (.tmp 34) 114 z (G (H a)) 118 i1 aF 1 24 underlying114 ac ap av ax z cg (.slice cm s ba) s r z (bC HO _) (X (G (H wr)) 0) 1 1 [.slice O (y d) c2] z z (pP _ _ _) (by simp[Value.oneCell']) U U dW ?_;intro o2 w2 e p;have E:=ak e;have t:=ak p;clear e p)))
     go_roundw
     .have h1:=(W.Gh (u:=am O (y d) c2) (by rw[N];exact bg) (by rw[ag bf];exact fj B bs)).aA (cI (o:=aK #[am O (y d) c2] 118) aC wr)<|λ_ ba=>ba.elim;refine⟨s+1,r++[am O (y d) c2],bp,dM,by simp[N],E,h1.aA (I.fV t)<|λbx K=>?_,((T.t F).aE _).aj (I.fV t)<|λbx K=>bu (g bx K).1⟩;let⟨al,v⟩:=gh (bC HO<|aK #[am O (y d) c2] 118) K;grind
     .simp[intOf];omega
  .have d:s=4:=U;subst d;go_wp2;go_ret;exact⟨_,r,z,i,N,L,l⟩
section
open Conc.Locks
def Wl(h:nz L):1<=(iq L).size/\(iq L).size<=8:=by
 rw[AS<|au Nat.zero_lt_one h.ne];exact⟨(h.l _<|aB _).f1,(h.l _<|aB _).f8⟩
def Zc(h:nz L):(iR L).size<=8:=by
 rw[CO<|au Nat.zero_lt_one h.ne];exact(h.l _<|aB _).l8
def qF.t{t:cH}(h:qF a b N W t):zcq a t:=by
 let⟨f,d,c,g,_⟩:=h.D;have e:=h.jW;have:=Wl e;have:=Zc e;have:=e.MX;exact⟨⟨h.cK,_,_,_,_,f,d,c,_,g⟩,U,U,U⟩
def Ce.gu{b k i:R}{u:ae}{f:cy (ae×dI)}(h:Ce e b f Q)(l:k<b):Ce (cP e (X k i) u) b f Q:=λo x j=>by
 let⟨p,n,m⟩:=h o x j;grind[kZ]
def Ce.pQ{d base':R}{c:cy (ae×dI)}(h:Ce a d c Q)(f:base'<=d):Ce a base' c Q:=λj x e=>by
 let⟨p,i,g⟩:=h j x e;grind[fj]
def lvs(s:SR)(a b c d:dI):cy (ae×dI):=[(s.l0,a),(s.l1,b),(s.l2,c),(s.l3,d)]
def P6(w b:Z)(c:cy (ae×dI))(v:ae):Prop:=∃a,fE b (G<|H w) 118 1 v 4 a/\y a=4/\Ce b (G<|H w) c a
def Rp(h:cU a b o 0)(E:sE (vw f.ah) a b o f i l v C F c)(S:o.d=bD):cR bN 33 #[aJ b] a λQ q=>∃W,Q=aN (de #[W,ic])/\P6 a q (lvs o l v C F) W/\Au a q b o f i l v C F c:=by
 have k:=az h;have c0:=cU.bW h 0 z;have f0:iI a (X b 0)=bD:=h.bS;have j:=lQ E.f E.l 1;have D:=h.jh 1;have B:G (H a)<=G (H<|cP a (X b 0)<|iD 1):=ar;generalize hW:cP a (X b 0) (iD 1)=r at j D B;have m:=mY D;rw[S]at m;have g:cR bN 49 #[aJ b] r λQ q=>Q=aN ic/\gD (G<|H r) r q:=m;have HX:=ak<|λp(t:gD (G<|H r) r p)=>tP (j4:=True) (W2:=p) D E k j t;clear h E j D S m;go_enter_defers func33,ntmps33
 go_wp21;go_call ng (X b 0) _ c0 f0 as Q q⟨rfl,O⟩;rw[hW]at O;subst q;go_wp21;go_call g as Q p⟨rfl,t⟩;let⟨u,d,w⟩:=HX p t
 have x:=OM _ (d.lvm u) (λp T V K=>by
  simp only[dy,lh,uS]at T;obtain rfl|rfl|rfl|rfl:=T
  .exact(d.l0.bZ V K).t
  .exact(d.l1.bZ V K).t
  .exact(d.l2.bZ V K).t
  .exact(d.l3.bZ V K).t) d.t.x d.t.n.lt
 have e:G (H a)<=G (H p):=aR B t.size;clear u t g;go_wp21;go_call x as Q P⟨W,us,rfl,L,N,A,n⟩;have s:(nX o.f f).D P:=(nX o.f f).l d.GR n cY;let⟨d0,g0,hF,_⟩:=w P s<|n.aT cY;have hP:P6 a (cP P (X b 0)<|iD 0) (lvs o l v C F) W:=⟨us,fj (kZ L<|au k e) e,N,(A.gu<|au k e).pQ e⟩;obtain⟨aa,g9,hv⟩:=aM L;clear s n x L A;subst hv;go_wp2;exact fD d0 g0 ⟨_,jx z _ _ _,_,z,hP,hF.xD⟩
end
def RpM(w c:Z)(b:R)(K:DK)(e:Ending):Prop:=∃a,pT w c b K a/\wS K a/\(∀k,a.j b k->K.j b k)/\(e=aN ic\/0<K.fx.bd/\∃q,e=aN (eW q)/\rE c q 8)
def NZ(h:cU a b o r)(g:cJ a o.f f)(L:Pow a)(A:o.l<18446744073709551616)(K:fp (vw f.ah) (gX o.l)=dE):cR bN 29 #[aJ b] a λu C=>RpM a C o.f f u:=by
 have d:=AN o.l A L;have:=cU.bW h 17 z
 have p:∀W,I aC a W->bA W (X b 2)=M (aJ o.f)/\pT a W o.f f f/\cR bN 70 #[aJ o.f,aw<|gX o.l] W λu C=>RnP W C o.f f u:=λW v=>
  ⟨cU.u ((v.A b (az h) id).trans h) z,(pT.bI g).bH v,Ju (db:=o.f) (K:=f) (gX o.l) (w:=W) (g.aA v<|λ_ _=>id) K<|wL A⟩
 clear h g L K A;generalize gX o.l=t at*;go_in
 go_wp21;go_call d as u N⟨rfl,m⟩;have s:I aC a N:=I.p m;let⟨S,w,B⟩:=p N s;clear p s m d;go_wp21;go_call B as u D⟨F,q,Q,e,j,i,rfl,l,O⟩;have c:bA D (X q 1)=M (ay Q):=by let⟨t,l,_⟩:=l;exact aX l 1
 have k:=ak<|And.intro (w.aj e) (And.intro j i);obtain rfl|⟨rfl,n⟩:=O;(.have x:=Ua q 10 D c;clear l c e j i B;go_wp21;go_call x as u E⟨rfl,P⟩;subst E;go_wp2;go_ret;exact⟨F,k.1,k.2.1,k.2.2,J z⟩);have x:=CR q 8 10 cg D c;have v:=ak<|And.intro n l;clear l c e j i B n;go_wp21;go_call x as u E⟨rfl,P⟩;subst E;go_wp2;go_ret;exact⟨F,k.1,k.2.1,k.2.2,bu ⟨v.1,q,z,v.2⟩⟩
def zbu:Y->iG->eD
 |_,[]=>[]
 |f,l::r=>zj f l++zbu (f+1) r
def rsj(f:Y)(a:iG)(b:eD):eD:=zbu f a++b
def Jnk(q:Y)(a:eD):Prop:=a=[]\/∃l:dB,(∀x∈l,x.Good)/\y l<=8/\y a<y (zj q l)/\a<+:zj q l
theorem zK(h:∀x∈i,x.Good)(a:y i<=8):y (zj r i)<=400:=by
 have:=wD h;unfold zj oJ;grind[length_append,iB,dh,length_cons]
def Jnk.dL{q:Y}(h:Jnk q m):y m<=400:=by
 obtain rfl|⟨l,a,c,d,_⟩:=h;simp;grind[zK]
def QW(h:∀l∈O,1<=y l):y O<=(O.map y).sum:=by
 induction O with
 |nil=>simp
 |cons l r b=>
  have:=h l ar;have:=b (λx a=>h x<|by simp[a]);grind
def Iv(w:Z)(c:R)(b:iF)(a:iG):Prop:=y b=y a/\∀i(d:i<y b)(e:i<y a),fE w c 223 4 b[i] (y a[i])<|bj a[i]
def VY:(prog.info? 102).map (λi=>(i.zero,i.size,i.bytes))=M (M aF,1,24):=aH
structure B6(w0 w:Z)(f:Y)(ls:iG)(jk:eD)(b m9 c m:R)(o:ae)(vs:iF):Prop where
 g:w.heap[G (H w0)+1]?=M (aK #[o,aO bD] 172 (0,0))
 d:w.heap[G<|H w0]?=M (aK #[aF,aO bD] 172 (0,0))
 aZ:fE w (G (H w0)+2) 102 1 o m vs
 l:Iv w (G (H w0)+2) vs (ls.take m)
 bB:Bytes w0 (bX b m9 (y<|rsj (f+m) (ls.drop m) jk) c) (rsj (f+m) (ls.drop m) jk)
 i:y (rsj (f+m) (ls.drop m) jk)<=c/\c<=9223372036854775807
 aA:I aC w0 w
def B6.DC{a F w1 w2:Z}{b m9 K z' c' f:R}{p o2 bv:ae}{E:Obj}(h:B6 a F r O m b m9 K f p Q)(hm:f<y O)(j:I aC F w1)(L:fE w1 (G<|H F) 223 4 bv (y O[f]) (bj O[f]))(D:fE w2 (G (H a)+2) 102 1 o2 (f+1) (Q++[bv]))(hw:fo (dw w1 E) w2 p o2)(s:Bytes a (bX b z' (y<|rsj (r+(f+1:R)) (O.drop<|f+1) m) c') (rsj (r+(f+1:R)) (O.drop<|f+1) m))(t:y (rsj (r+(f+1:R)) (O.drop<|f+1) m)<=c'/\c'<=9223372036854775807):B6 a (cP w2 (X (G (H a)+1) 0) o2) r O m b z' c' (f+1) o2 (Q++[bv])/\bA w2 (X (G (H a)+1) 0)=M p/\iI w2 (X (G (H a)+1) 0)=bD:=by
 have hz:=az h.g;have aa:=h.aA.D;have P:=aS h.aZ;have n:I (λk=>cN p=M k) w1 w2:=((I.bI (λk=>cN p=M k) w1).aE E).aj (I.fV hw)<|λ_ c=>J c;have w:I (λk=>cN p=M k) F w2:=(j.aT (T:=λk=>cN p=M k) cY).aj n<|λ_ c=>J c;have o:∀k,cN p=M k->∃g,F.heap[k]?=M (aK g 102 (0,0)):=λk c=>gh h.aZ c;have e:w2.heap[G (H a)+1]?=M (aK #[p,aO bD] 172 (0,0)):=(w.A _ hz aI).trans h.g;have d:I (λk=>k=G (H a)+1) w2 (cP w2 (X (G (H a)+1) 0) o2):=(I.bI _ w2).aL _ 0 _<|J z;refine⟨⟨?_,?_,?_,?_,s,t,?_⟩,by rw[cE e];rfl,cV e⟩;have:=aY (i:=0) (u:=o2) e;grind
 exact(kV _ U).trans<|(w.A _ (az h.d) aI).trans h.d;exact d.aZ D<|λk c K=>bP<|(aS D k c).1;let⟨v1,v2⟩:=h.l;(have x:y Q=f:=by rw[v1];simp;omega);refine⟨aI,λq h1 h2=>?_⟩;(have A:∀(V:Z)(ac:ae)(ab:R)(B:iF),V.ownsRow (G (H a)+2) 223 4 ac ab B->I (λk=>cN p=M k) V w2->(∀k,cN p=M k->∃g,V.heap[k]?=M (aK g 102 (0,0)))->fE (cP w2 (X (G (H a)+1) 0) o2) (G (H a)+2) 223 4 ac ab B:=by intro V ac ab B W v S;have i:=v.aZ W (λk c K=>by grind[gh,lk]);exact d.aZ i<|λk c K=>bP<|(aS i k c).1);obtain N|N:=iU q f;(have C:(Q++[bv])[q]=Q[q]'U:=aI;grind);have v:q=f:=aI;subst v;(have C:(Q++[bv])[q]=bv:=by rw[mO U];simp[x]);have B:(O.take<|q+1)[q]=O[q]:=oY;rw[C,B];refine A w1 _ _ _ (fj L U) n<|λk c=>?_;let⟨g,i⟩:=o k c;exact⟨g,(j.A k (az i) id).trans i⟩;exact(h.aA.aj w aI).aj d ar
def pJ{b:Func}{p u:Tmp}(h:b.results=#[.cell p 172,.tmp u])(a:Array ae)(w:Z)(g:R)(x:Option Addr)(n k:R)(d:eN)(t:TypeId)(c:R×R)(f:a.getD p jn=aJ g)(e:w.heap[g]?=M (aK #[am x n k,aO d] t c)):(results b a).run bN w=.ok (de #[ef #[am x n k,aO d],a.getD u jn]) w:=by
 simp[results,h,(dV f:a[p]?.getD jn=aJ g),asAddr,(kQ (P:=bN) w g t 172 #[am x n k,aO d] c _ e underlying172 rfl aH),Result.andThen]
def Bytes.zaf{c m9 n j:R}(h:Bytes e (bX c m9 n j) m)(i:I aC a e)(f:c<G (H a)):Bytes a (bX c m9 n j) m:=by
 obtain⟨d,_⟩|⟨k,z',c',d,b,g⟩:=h;cases d;cases d;exact bu ⟨_,_,_,z,b,λk d=>(dZ (w:=a)<|i.A _ f id).symm.trans<|g k d⟩
def Ya:ae->R
 | .slice _ n _=>n
 |_=>0
def UV(x:Option Addr)(n c:R):Ya (am x n c)=n:=rfl
def JE:∀{l m:cy af},l.Nodup->(∀x∈l,x∈m)->y l<=y m
 |[],_,_,_=>bQ _
 |x::l,m,a,c=>by
  rw[kR]at a;obtain⟨m1,m2,rfl⟩:=ve<|c x ar;have b:∀a∈l,a∈m1++m2:=aI;have:=JE a.2 b;grind
def rB(h:B∈N.map (·.1)):∃b,fp N B=M b:=by
 induction N with
 |nil=>simp at h
 |cons f r a=>
  unfold fp;by_cases e:f.1=B
  .simp_all
  grind
def OK(h:fp N B=M m):B∈N.map (·.1):=cC.2 ⟨_,Ac h,rfl⟩
theorem Mc(h:B∉N.map (·.1)):fp N B=dE:=by
 cases c:fp N B with
 |none=>rfl
 |some b=>exact absurd (OK c) h
def SM(a:(N.map (·.1)).Nodup){f:af×eD}(h:f∈N):fp N f.1=M f.2:=by
 induction N with
 |nil=>cases h
 |cons g r b=>
  rw[bO,kR]at a;unfold fp;grind
def Ia(a:Fs)(n:af):((sk a n).map (·.1)).Sublist (a.map (·.1)):=by
 induction a with
 |nil=>exact kK _
 |cons f r b=>
  unfold sk;grind
theorem Wp(a:(N.map (·.1)).Nodup)(n:af):fp (sk N n) n=dE:=by
 induction N with
 |nil=>rfl
 |cons f r b=>
  rw[bO,kR]at a;unfold sk;by_cases e:f.1=n
  .rw[fW e];grind[Mc]
  .rw[fN e];unfold fp;rw[fN e];exact b a.2
def SN(c:(N.map (·.1)).Nodup){a:cy af}(h:B∈a):fp (JW N a) B=dE:=by
 induction a generalizing N with
 |nil=>cases h
 |cons m r d=>
  have b:((sk N m).map (·.1)).Nodup:=c.sublist<|Ia N m;show fp (JW (sk N m) r) B=dE;by_cases e:B∈r
  .exact d b e
  grind[vJ,Wp]
def BY(b:(N.map (·.1)).Nodup){a:cy af}(h:fp (JW N a) B=M m):B∉a/\fp N B=M m:=by
 by_cases c:B∈a;rw[SN b c]at h;cases h;grind[vJ]
def cJ.kh(h:cJ a b f):((vw f.ah).map (·.1)).Nodup:=by
 let⟨e,c,_,j,k⟩:=h.l;have g:e.toList.map (·.key)=(f.ah.map dj.nm).map (λp=>aw p.1):=by have:=cD (List.map Prod.fst) j;grind[map_map,Function.comp_def]
 have d:=k.2.2;rw[g]at d;have i:(vw f.ah).map (·.1)=(f.ah.map dj.nm).map (·.1):=by simp[vw,dj.nm,iW,kL]
 rw[i];rw[iW]at d|-;grind
def BE(h:l.map (λt=>(t.tb,t.ks))=v.map (λt=>(t.tb,t.ks)))(e:wW v):wW l:=by
 have:=(qA h).2.1;have a:∀i(b:i<y l)(c:i<y v),l[i].ks=v[i].ks:=λi b c=>by have f:=cD (λl=>l[i]?) h;simp only[fP,bF b,bF c,Option.map_some,wa,jt]at f;exact f.2
 intro i d;rw[a i U U,a (i+1) d U];exact e i U
structure P7(w w':Z)(sb:R)(s:SR)(k:Y)(n C:R)(K:DK)(T0:dI)(v0 v1 v2 v3:ae)(K':DK)(dz:R)(a' b' c' d':dI):Prop where
 g:cU w' sb (s.pW v0 v1 v2 v3 n dz) k
 st:ST w' sb (s.pW v0 v1 v2 v3 n dz) K' [] a' b' c' d' C
 fx:Fx K.fx K'.fx
 i:((a'++b'++c'++d').map cH.tb).Nodup
 nl:dz<18446744073709551616
 j:∀k,K'.j s.f k->K.j s.f k\/G (H w)<=k
 lN:∃(KR:DK)(nw:dI),mu (ly nw) K KR/\mu (vt (Ra dz n [a',b',c',d'])++(oe s T0<|a'++b'++c'++d').map .rm) KR K'/\y nw<=3000000000/\(∀u∈nw,NwT u)/\(∀t∈a'++b'++c'++d',(∃u∈T0,u.cK=t.cK/\u.ks=t.ks)\/∃u∈nw,u.cK=t.cK/\u.ks=t.ks)/\∀u∈nw,∃t∈a'++b'++c'++d',u.cK=t.cK
 qP:y T0<=3000000000
def CmF(w c:Z)(b:R)(s:SR)(k:Y)(p C:R)(K:DK)(d:cy NT)(j l m n:ae)(e:dI)(N:R)(o:Ending):Prop:=(o=aN ic/\∃a dz f g h i,P7 w c b s k p C K e j l m n a dz f g h i/\I (λk=>Wr s.f K d k\/k=b) w c)\/∃v a,o=aN v/\CmE w c b s k K a d N v
def E5(a:Fs)(dz n:R)(c d e f:dI):Ra dz n [c.map<|jb eX.choose a,d.map<|jb eX.choose a,e.map<|jb eX.choose a,f.map<|jb eX.choose a]=Ra dz n [c,d,e,f]:=by
 have h:∀b:dI,uD (b.map<|jb eX.choose a)=uD b:=λb=>by unfold uD;rw[cS,xw];rfl
 simp[Ra,mj,h]
def Zx(c:Fs)(s:SR)(a b:dI):oe s a (b.map<|jb eX.choose c)=oe s a b:=by
 have:rA a (b.map<|jb eX.choose c)=rA a b:=by unfold rA;congr 1;funext t;rw[List.any_map];rfl
 unfold oe;rw[this]
def Tg{s:SR}(n6 ca bt:R)(ps:cy NT)(v0 v1 v2 v3:ae)(ba bb aV bc a0 b0 c0 d0:dI)(h:cU a b s r)(c:LS a s.f b n6 x (a0++b0++c0++d0) ps ca v0 v1 v2 v3 ba bb aV bc)(bl:Fw a b 10 [(s.l0,a0),(s.l1,b0),(s.l2,c0),(s.l3,d0)])(hd:cJ a s.f x)(av:¬x.j s.f b)(hn:bt<18446744073709551616)(bo:s.t<18446744073709551616)(bi:s.l<18446744073709551616)(bm:y x.l<=100000000000)(ap:y (a0++b0++c0++d0)<=3000000000)(ao:∃ch bt aV,s.L=am ch bt aV)(bk:∀ad,ad=s.l0\/ad=s.l1\/ad=s.l2\/ad=s.l3->∀r,cN ad=M r->MT s.f b n6 x r)(bq:qu x.fx):cR bN 133 #[aJ b,ef #[v0,v1,v2,v3],bw bt] a λce w'=>CmF a w' b s r bt ca x ps v0 v1 v2 v3 (a0++b0++c0++d0) (y<|ba++bb++aV++bc) ce:=by
 have bx:=c.A;have bd:∀W,I aC a W->CF W s.f b n6 x (a0++b0++c0++d0) ps (ba++bb++aV++bc):=λW k=>{le:=aR c.le k.D,j:=c.j,B:=c.B,xt:=λm e=>(by simp only[aP]at e;obtain((q|q)|q)|q:=e<;>first|exact c.x0 m q|exact c.x1 m q|exact c.x2 m q|exact c.x3 m q),kh:=c.kh,fq:=c.fq,S:=λac w=>⟨(c.S ac w).1.aA k<|λ_ _ q=>q,(c.S ac w).2⟩,i:=c.i,n:=c.n,f:=by simp only[ai];omega,d:=bq,L:=hd.L,l:=bm};go_call PY n6 ca bt ps v0 v1 v2 v3 ba bb aV bc a0 b0 c0 d0 h c bd bl hd av hn bo bi ap ao bk as ce w'(⟨rfl,w1,wr,KR,p,us,nw,a',b',c',d',dz,br,Q,K,ea,eb,ec,ed,bf,bg,ab,W,al,bh,bE⟩|hE);rotate_left;exact bu hE;have cd:=br.D;have cc:=c.le;have bL:=c.B;have bn:∀ad,sQ a s.f b n6 x ad->∀r,cN ad=M r->¬(Wr s.f x ps r\/r=b):=by rintro ad N r e(q|q);(obtain q|⟨ac,w,q|q⟩:=q;exact(N r e).2.1 q;have C:=(c.S ac w).1;obtain bv|⟨cs,fr,bv⟩:=(N r e).2.2.2;have:=(C.lt r<|J q).1;omega;exact lk bv C.D.g cg q;have C:=(c.S ac w).1;obtain bv|⟨cs,fr,bv⟩:=(N r e).2.2.2;have:=(C.lt r<|bu<|bu q).1;omega;let⟨cb,hc⟩:=gh C.A (k:=ac.x) rfl;grind);exact(N r e).2.2.1 q
 have P:∀r,r<G (H a)->¬x.j s.f r->r≠b->Aside w' p s.f b r:=λr h1 c C=>
  ⟨au h1 W.D,aI,C⟩
 have g:∀r,MT s.f b n6 x r->r<G (H a)/\¬x.j s.f r/\r≠b:=λr e=>⟨bP e.1,e.2.1,e.2.2⟩;have bp:∀ac∈ps,∀r,ac.D r->r<G (H a)/\¬x.j s.f r/\r≠b:=λac w r e=>by have h1:=(c.S ac w).1.lt r e;exact⟨h1.2,λq=>bP<|c.j r q,U⟩
 have A:∀O∈us,∃bT:R->Prop,Dm wr s.f bT O/\(∀r,bT r->r<G (H a)/\¬x.j s.f r/\r≠b):=λO F=>by obtain q|⟨_,ac,w,_,q⟩:=Q.S O F;exact⟨_,(Q.qP O q).h,g⟩;exact⟨_,q,bp ac w⟩
 have hO:∀O∈us,qF w' s.f (vw p.ah) (Aside w' p s.f b) (jb eX.choose (vw p.ah) O):=λO F=>by let⟨bT,ho,C⟩:=A O F;exact(ho.A (w':=w')<|λr e=>ab r (C r e).1 (C r e).2.1 (C r e).2.2).Ap _<|λr e=>P r (C r e).1 (C r e).2.1 (C r e).2.2
 have u:∀ad(g c:dI),sQ a s.f b n6 x ad->Row a 1 ad (y g) (g.map cH.D)->c.map (λm=>(m.tb,m.ks))=g.map (λm=>(m.tb,m.ks))->(∀m∈c,m∈us)->LvO w' p s.f b ad (c.map<|jb eX.choose<|vw p.ah):=λad g c N hr he C=>by let⟨e1,e2,_⟩:=qA he;refine⟨?_,λr e=>P r (N r e).1 (N r e).2.1 (N r e).2.2.1,λm k=>?_⟩;rw[GB,cS,e1,e2];exact W.bV hr<|λr e=>⟨bn ad N r e,(N r e).1⟩;obtain⟨O,F,rfl⟩:=cC.1 k;exact hO O<|C O F
 have an:∀r,MT s.f b n6 x r->w'.heap[r]?=a.heap[r]?:=λr e=>W.A r (bP e.1) (by
  rintro(q|q)
  .obtain q|⟨ac,w,q|q⟩:=q
   .exact e.2.1 q
   .have:=((c.S ac w).1.lt r<|J q).1;have:=e.1;omega
   .have:=((c.S ac w).1.lt r<|bu<|bu q).1;have:=e.1;omega
  .exact e.2.2 q)
 have bs:∀m∈a',m∈us:=λm k=>by rw[K];simp[k]
 have ax:∀m∈b',m∈us:=λm k=>by rw[K];simp[k]
 have aD:∀m∈c',m∈us:=λm k=>by rw[K];simp[k]
 have aU:∀m∈d',m∈us:=λm k=>by rw[K];simp[k]
 have aa:∀m∈us,nz m.ks:=λm k=>by let⟨bT,ho,_⟩:=A m k;exact ho.jW
 have E:=Q.bM;rw[cQ]at E;have V:a'.map (jb eX.choose<|vw p.ah)++b'.map (jb eX.choose<|vw p.ah)++c'.map (jb eX.choose<|vw p.ah)++d'.map (jb eX.choose<|vw p.ah)=us.map (jb eX.choose<|vw p.ah):=by rw[K];simp
 refine J ⟨z,p,dz,a'.map<|jb eX.choose<|vw p.ah,b'.map<|jb eX.choose<|vw p.ah,c'.map<|jb eX.choose<|vw p.ah,d'.map<|jb eX.choose<|vw p.ah,⟨bf,?_,bh,?_,Q.nl,al,⟨KR,nw,Q.lN,?_,by have:=Q.YD;simp only[ai]at this;omega,λO F=>(Q.L O F).2,λm k=>?_,λO F=>?_⟩,ap⟩,W⟩;exact{D:=⟨z,J ⟨z,z⟩⟩,L:=λr e=>(by cases e),l0:=u v0 ba a' c.b0 c.r0 ea bs,l1:=u v1 bb b' c.b1 c.r1 eb ax,l2:=u v2 aV c' c.b2 c.r2 ec aD,l3:=u v3 bc d' c.b3 c.r3 ed aU,f:=bg,l:=λq=>(al b q).elim av<|λbv=>U,t:=⟨λs p=>(dZ (w:=a)<|an _ c.i).trans<|c.o s p,c.x.dU<|an _ c.n,P _ (g _ c.i).1 (g _ c.i).2.1 (g _ c.i).2.2,P _ (g _ c.n).1 (g _ c.n).2.1 (g _ c.n).2.2⟩,zb:=(by rw[tO,tO,tO,tO,(qA ea).2.2,(qA eb).2.2,(qA ec).2.2,(qA ed).2.2];have:=c.FX;simp;omega),v:=c.v,o:=gG.km,S:=ar,s1:=pX (λm k=>aa m<|ax m k)<|BE eb c.s1.fq,s2:=pX (λm k=>aa m<|aD m k)<|BE ec c.s2.fq,s3:=pX (λm k=>aa m<|aU m k) (BE ed c.s3.fq)};rw[V,iW,show(cH.tb∘jb eX.choose (vw p.ah))=cH.tb from rfl,YM (T:=ba++bb++aV++bc) (i:=y<|ba++bb++aV++bc)<|cQ▸E,cQ];exact c.kh;rwa[E5,V,Zx];rw[V]at k;obtain⟨O,F,rfl⟩:=cC.1 k;obtain q|⟨q,_⟩:=Q.S O F;exact J ⟨O,q,z,z⟩;exact bu ⟨O,q,z,z⟩;rw[V];exact⟨jb eX.choose (vw p.ah) O,cC.2 ⟨O,(Q.L O F).1,z⟩,z⟩
def uO(h:Aside a f b c k):MT b c (G<|H a) f k:=⟨h.lt,h.j,h.ne⟩
def qF.zy{B:fC}{t:cH}(h:qF a b N W t)(e:∀k,W k->B k):qF a b N B t:=by
 let⟨f,d,c,i,g⟩:=h.D;exact⟨⟨f,d,c,i,e _ g⟩,e _ h.l,h.cK,h.jW,h.f⟩
def ST.zbp{s:SR}{w:dB}{p:dI}{u C':R}(h:ST a b s f w l C F p u)(m:b<G (H a))(e:((l++C++F++p).map cH.tb).Nodup)(r:im l+im C+im F+im p<=C')(g:C'<=3000000000):LS a s.f b (G<|H a) f (l++C++F++p) [] C' s.l0 s.l1 s.l2 s.l3 l C F p where
 D:=h.GR
 L:=h.f.L
 le:=aq _
 j:=h.f.lt
 B:=m
 o:=h.t.o
 x:=h.t.x
 i:=uO h.t.i
 n:=uO h.t.n
 sD:=λt d=>by
  simp only[aP]at d;obtain((q|q)|q)|q:=d
  .exact(h.l0.bZ t q).zy<|λ_=>uO
  .exact(h.l1.bZ t q).zy<|λ_=>uO
  .exact(h.l2.bZ t q).zy<|λ_=>uO
  .exact(h.l3.bZ t q).zy<|λ_=>uO
 S:=ar
 fq:=List.Pairwise.nil
 r0:=h.l0.bV
 r1:=h.l1.bV
 r2:=h.l2.bV
 r3:=h.l3.bV
 b0:=λk c=>⟨(h.l0.l k c).lt,(h.l0.l k c).j,(h.l0.l k c).ne,J (h.l0.l k c).lt⟩
 b1:=λk c=>⟨(h.l1.l k c).lt,(h.l1.l k c).j,(h.l1.l k c).ne,J (h.l1.l k c).lt⟩
 b2:=λk c=>⟨(h.l2.l k c).lt,(h.l2.l k c).j,(h.l2.l k c).ne,J (h.l2.l k c).lt⟩
 b3:=λk c=>⟨(h.l3.l k c).lt,(h.l3.l k c).j,(h.l3.l k c).ne,J (h.l3.l k c).lt⟩
 x0:=λt d=>J<|by simp[d]
 x1:=λt d=>J<|by simp[d]
 x2:=λt d=>J<|by simp[d]
 x3:=λt d=>J<|by simp[d]
 kh:=e
 s1:=h.s1
 s2:=h.s2
 s3:=h.s3
 FX:=r
 v:=g
def LS.zan{A B j:ae}{r:dI}{p:NT}(h:LS a b c k f l [] n d w A B v C F r)(x:I aC a e)(u:p.Ok e (G<|H a))(o:Ks p.t)(s:fE e (G<|H a) 235 1 j (y<|v++[p.t]) ((v++[p.t]).map cH.D))(D:im v+im C+im F+im r+qD p.t.ks<=n):LS e b c k f l [p] n j w A B (v++[p.t]) C F r:=by
 have h':=h.aA (x.aT cY)<|(nX b f).l h.D x cY;refine{h' with S:=?_,fq:=ar,r0:=dQ s,b0:=yt s h.j h.B h.le,x0:=?_,x1:=λt q=>(h.x1 t q).jl [p],x2:=λt q=>(h.x2 t q).jl [p],x3:=λt q=>(h.x3 t q).jl [p],kh:=?_,FX:=?_};intro q g;rw[bY]at g;subst g;exact⟨u.pQ h.le,o⟩;intro t q;obtain q|q:=aP.1 q;exact(h.x0 t q).jl [p];rw[bY]at q;exact bu ⟨p,ar,q.symm⟩;(have g:(v++[p.t]++C++F++r).Perm (p.t::(v++C++F++r)):=by simp_all);rw[(g.map cH.tb).nodup_iff,bO,kR];refine⟨λq=>?_,h.kh⟩;let⟨t,i,E⟩:=cC.1 q;have:=u.lY;(have:t.tb<G (H a):=by simp only[aP]at i;obtain((m|m)|m)|m:=i;exact XT.EB h<|h.x0 t m;exact XT.EB h<|h.x1 t m;exact XT.EB h<|h.x2 t m;exact XT.EB h<|h.x3 t m);omega;rw[iK];(have:im [p.t]=qD p.t.ks:=by simp[im]);omega
def ZG{d:R}(h:Qz a e b i O c k n d)(g:i≠[])(j:∀x∈i,x.Good)(l:gG i)(m:y i<=100):NT.Ok e (G<|H a) ⟨⟨b,dK 0 O,O,0⟩,c,k,n,d⟩/\Ks ⟨b,dK 0 O,O,0⟩/\cH.dq ⟨b,dK 0 O,O,0⟩=i:=by
 have f:O.flatten=i:=h.f.p;refine⟨⟨z,z,by show sw O.flatten O;rw[f];exact h.f,h.D,h.A,h.L,h.lY⟩,⟨h.f.ub g j l,h.f.jW g j l m,?_⟩,f⟩;have:=h.f.A;have:=h.f.xN;grind
def LS.X1{u:cy NT}{x A:ae}{N:dI}(h:LS a b c k f l u T d w x A v C F N):∃m,LS a b c k m l u T d w x A v C F N/\cJ a b m/\wS f m/\(∀p,m.j b p->f.j b p)/\Fx f.fx m.fx:=by
 let⟨E,m,s,t,r,B⟩:=h.D;have g:∀p,MT b c k f p->MT b c k m p:=λp o=>⟨o.1,λq=>o.2.1<|r p q,o.2.2⟩;have e:∀s,sQ a b c k f s->sQ a b c k m s:=λs g p o=>⟨(g p o).1,λq=>(g p o).2.1<|r p q,(g p o).2.2⟩;refine⟨m,{h with D:=Mg s s.lt,L:=s.L,j:=λp o=>h.j p<|r p o,i:=g _ h.i,n:=g _ h.n,sD:=λO K=>?_,b0:=e _ h.b0,b1:=e _ h.b1,b2:=e _ h.b2,b3:=e _ h.b3},s,t,r,B⟩;rw[t.1];exact(h.sD O K).zy g
def LS.dN{L:cy NT}{N O:ae}{aa:dI}(h:LS a b c k f l L n d w N O v C F aa)(r:I W a e)(E:∀j,W j->k<=j/\∃t u,a.heap[j]?=M (aK t 108 u)):LS e b c k f l L n d w N O v C F aa:=by
 have hF:∀j,W j->¬(nX b f).F j:=λj g q=>gW (h.j j q)<|(E j g).1;have s:∀j,MT b c k f j->¬W j:=λj g q=>gW g.1<|(E j q).1;have m:∀B,sQ a b c k f B->∀j,cN B=M j->¬W j:=λB A j g q=>by let⟨V,t,u,q2⟩:=E j q;obtain Q|⟨K,P,Q⟩:=(A j g).2.2.2;omega;grind
 have p:∀B,sQ a b c k f B->sQ e b c k f B:=λB A j g=>by let⟨K,P,Q,V⟩:=A j g;exact⟨au K r.D,P,Q,V.imp id<|λ⟨t,u,e⟩=>⟨t,u,(r.A j K<|m B A j g).trans e⟩⟩
 exact{h with D:=(nX b f).l h.D r hF,le:=aR h.le r.D,o:=λt e=>r.u (h.o t e) (s _ h.i)<|au h.i.1 h.le,x:=h.x.dU<|r.A _ (au h.n.1 h.le)<|s _ h.n,sD:=λu c=>(h.sD u c).A<|λj g=>r.A j (au g.1 h.le)<|s j g,S:=λk a=>⟨Xf.dN (h.S k a).1 r aI,(h.S k a).2⟩,r0:=r.bV h.r0<|λj g=>⟨m _ h.b0 j g,(h.b0 j g).1⟩,r1:=r.bV h.r1<|λj g=>⟨m _ h.b1 j g,(h.b1 j g).1⟩,r2:=r.bV h.r2<|λj g=>⟨m _ h.b2 j g,(h.b2 j g).1⟩,r3:=r.bV h.r3<|λj g=>⟨m _ h.b3 j g,(h.b3 j g).1⟩,b0:=p _ h.b0,b1:=p _ h.b1,b2:=p _ h.b2,b3:=p _ h.b3}
structure SV(w:Z)(sb:R)(s:SR)(k:Y)(lb:R)(K:DK)(T0:dI)(C:R)(wr:Z)(v0 v1 v2 v3:ae)(a b c d:dI)(ps:cy NT):Prop where
 ls:LS wr s.f sb (G<|H w) K T0 ps C v0 v1 v2 v3 a b c d
 lb:wr.heap[lb]?=M (aK #[v0,v1,v2,v3] 108 (0,0))
 g:cU wr sb s k
 aA:I (K.j s.f) w wr
def MQ(w:Z)(c:R)(s:SR)(m:Y)(d:R)(K:DK)(a:dI)(C:R)(wr:Z):Prop:=∃f g h i j b k l e,SV w c s m d K a C wr f g h i j b k l e
def xO(w:Z)(a i:R):R:=match bA w (X a i)with
 |some (.slice _ n _)=>n
 |_=>0
def YZ{x:Option Addr}{c:R}(h:bA a (X k n)=M (am x T c)):xO a k n=T:=by
 unfold xO;rw[h]
def SV.gL{E wr d:Z}{A B C D u0 u1 u2 u3:ae}{N b O P s t u v:dI}{L g:cy NT}(h:SV E c o r k x l n wr A B C D N b O P L)(K:G (H E)<=k)(j:¬x.j o.f c)(F:LS d o.f c (G<|H E) x l g n u0 u1 u2 u3 s t u v)(m:I (x.j o.f) wr d):d.heap[k]?=M (aK #[A,B,C,D] 108 (0,0))/\SV E c o r k x l n (cP (cP (cP (cP d (X k 0) u0) (X k 1) u1) (X k 2) u2) (X k 3) u3) u0 u1 u2 u3 s t u v g:=by
 have i:¬x.j o.f k:=λq=>bP<|h.ls.j k q;have e:=(m.A k (az h.lb) i).trans h.lb;have a:I (λq=>q=k) d (cP (cP (cP (cP d (X k 0) u0) (X k 1) u1) (X k 2) u2) (X k 3) u3):=(((iQ k d).aL _ _ _<|J z).aL _ _ _<|J z).aL _ _ _<|J z;have:c<G (H E):=h.ls.B;refine⟨e,F.dN a<|λq Q=>aI,DV e,?_,?_⟩;have w:=(m.A c (az h.g) j).trans h.g;exact(a.A c (az w)<|λq=>U).trans w;exact(h.aA.aj m<|λ_ q=>J q).aj a aI
def MO.j{w g:Z}{K:DK}{e:gJ}(h:MO w K c o e)(d:I (K.j o.f) w g):MO g K c o e:=by
 let⟨b,i,j,a⟩:=h.ex;exact⟨⟨b,i,j.dU<|d.A _ a.lt a.j,au a.lt d.D,a.j,a.ne⟩,h.dL⟩
def LS.Y6{s wr:Z}{o:cy NT}{p r g:ae}{t b u v:dI}(h:LS wr c k n f l o T d w p r t b u v)(j:I aC wr s)(a:fE s (G<|H wr) 104 1 g (y m) (m.map<|Value.int .u64)):LS s c k n f l o T d w p r t b u v/\Row s 1 g (y m) (m.map<|Value.int .u64)/\∀e,cN g=M e->e<G (H s)/\¬f.j c e:=⟨h.aA (j.aT cY)<|(nX c f).l h.D j cY,dQ a,λe i=>⟨(aS a e i).2,λq=>Lu (h.j e q) h.le<|(aS a e i).1⟩⟩
def OS(m:Y)(w:Z):cR bN 72 #[aF,bw m] w λl f=>
 ∃x k a,l=aN (de #[ef #[am x (y ([]:iG)) k,aO bD],aO cz])/\fE f (G (H w)+2) 102 1 (am x (y ([]:iG)) k) (y ([]:iG)) a/\Iv f (G (H w)+2) a []/\I aC w f:=by
 let⟨d,a⟩:∃d,dw (dw w<|aK #[aF,aO bD] 172) (aK #[aF,aO bD] 172)=d:=⟨_,rfl⟩
 have b:d.heap[G<|H w]?=M (aK #[aF,aO bD] 172 (0,0)):=by rw[<-a];grind[gy,aQ]
 have c:d.heap[G (H w)+1]?=M (aK #[aF,aO bD] 172 (0,0)):=a▸aQ _ ar
 have j:I aC w d:=a▸(cI _ w).aE _
 have:=aX b 0
 have:=aX b 1
 have:=aX c 0
 have:=aX c 1
 have:∀i,iI d (X (G<|H w) i)=bD:=λi=>cV b
 have g:=ak a
 clear c a
 go_in
 go_wp2
 rw[ag g]
 refine iX 1 ?_
 rw[io]
 go_wp2
 have e:=aY (i:=1) (u:=aO bD)<|aY (i:=0) (u:=aF) b
 refine ci (pJ z _ _ (G<|H w) dE 0 0 bD _ _ z e) z ?_
 exact⟨dE,0,[],z,ct _ _ _ _,⟨z,ar⟩,(j.aL (G<|H w) 0 _<|bu<|aq _).aL (G<|H w) 1 _<|bu<|aq _⟩
def mE{c:Func}{K T:Tmp}(h:c.results=#[.cell K 161,.tmp T])(a:Array ae)(w:Z)(g:R)(n B k:Y)(e f i j:ae)(S:TypeId)(d:R×R)(s:a.getD K jn=aJ g)(q:w.heap[g]?=M (aK #[bw n,bw B,bw k,e,f,i,j] S d))(l:∃x n k,e=am x n k)(m:∃x n k,f=am x n k)(o:∃x n k,i=am x n k)(p:∃x n k,j=am x n k):(results c a).run bN w=.ok (de #[ef #[bw n,bw B,bw k,e,f,i,j],a.getD T jn]) w:=by
 obtain⟨L,C,t,rfl⟩:=l;obtain⟨N,D,u,rfl⟩:=m;obtain⟨O,E,v,rfl⟩:=o;obtain⟨Q,F,A,rfl⟩:=p;have b:a[K]?.getD jn=aJ g:=dV s;have r:=kQ (P:=bN) w g S 161 #[bw n,bw B,bw k,am L C t,am N D u,am O E v,am Q F A] d _ q underlying161 z aH;simp[results,h,b,asAddr,r,Result.andThen]
def st0:ae:=ef #[bw 2,bw 1,bw 0,aF,aF,aF,aF]
def Tv(w:Z)(f:af):Prop:=∃(n:R)(ok:eN),n<=2/\∀W,I aC w W->cR bN 174 #[aw f] W λe a=>zcv W a e n ok
def zas(w a:Z)(E:Prop)(e:Ending):Prop:=I aC w a/\(e=aN (de #[st0,ic])\/E/\∃q,e=aN (de #[ef #[bw 0,bw 0,bw 0,aF,aF,aF,aF],eW q])/\tD a q)
def Rq{db:R}{K:DK}(h:cJ a db K)(hn:y K.ah<=20000000000)(hp:Pow a)(hE:tg a)(N:∀bf∈K.ah.map dj.dA,bf.size<=2000000):cR bN 115 #[aJ db] a λan V=>zas a V (∃bf∈K.ah.map dj.dA,¬Tv a bf) an:=by
 have Q:I aC a (dw (dw a<|aK #[bw 0,bw 0,bw 0,aF,aF,aF,aF] 161)<|aK #[bw 2,bw 1,bw 0,aF,aF,aF,aF] 161):=(cI aC a).aE _;have ap:(dw (dw a<|aK #[bw 0,bw 0,bw 0,aF,aF,aF,aF] 161)<|aK #[bw 2,bw 1,bw 0,aF,aF,aF,aF] 161).heap[G<|H a]?=M (aK #[bw 0,bw 0,bw 0,aF,aF,aF,aF] 161 (0,0)):=(gy _ ar).trans<|aQ _ z;have av:(dw (dw a<|aK #[bw 0,bw 0,bw 0,aF,aF,aF,aF] 161)<|aK #[bw 2,bw 1,bw 0,aF,aF,aF,aF] 161).heap[G (H a)+1]?=M (aK #[bw 2,bw 1,bw 0,aF,aF,aF,aF] 161 (0,0)):=aQ _ ar;have aU:=CK (db:=db) (K:=K) (h.aA Q<|λ_ _=>id) U;obtain⟨ad,B,C,HP,HA,HE⟩:=nU Q ap av hp N hE;go_in
 go_wp2_with fail
 apply aU.mono;rintro an w3⟨v3,d,rfl,v,P,w⟩;obtain⟨x3,c3,bc⟩:=aM P;subst bc;have ao:=ad.t w;have ax:=(w.A _ (az B) id).trans B;have aD:=(w.A _ (az C) id).trans C;have bl:y d<=20000000000:=zZ v.length_eq;have ba:∀x∈d,x.size<=2000000:=λx hx=>HA x<|v.mem_iff.1 hx;obtain⟨L,r,D,E,ab⟩:=oa P ao ax aD ba;have ac:=ak v;go_wp2;go_loopw [13] (λi wr=>∃(p:R),p<=y d/\i=ay p/\I aC w3 wr) (λi _=>y d-(intOf i).toNat)
 case atStart=>exact⟨0,bQ _,dM,I.bI _ _⟩
 (case round=>obtain⟨p,hj,rfl,A⟩:=hrel;have o:=(A.A _ (az D) id).trans D;have c:=(A.A _ (az E) id).trans E;by_cases k:p<y d;(.have e1:(p:Y)<(y d:Y):=U;have e2:(0:Y)<=(p:Y):=U;have t:=(ag r).t A;(have O:cR bN 174 #[aw d[p]] wr λan V=>∃(l:R)(ok:eN),an=aN (de #[bw l,aO ok])/\I aC wr V/\(2<l->∃bf∈K.ah.map dj.dA,¬Tv a bf):=by by_cases T:Tv a d[p];obtain⟨l,ok,h2,h3⟩:=T;exact(h3 wr t).mono<|λan V a=>⟨l,ok,a.1,a.2,λq=>U⟩;refine(PC d[p] ((ag ab) _<|aB k) (Pow.aA HP t id)<|(ag HE).aA t id id).mono ?_;rintro an V⟨l,ok,_,rfl,g⟩;exact⟨l,ok,z,g,λ_=>⟨d[p],(ag ac).mem_iff.1<|aB k,T⟩⟩);(have u:∃bi e,x3=M (X bi e)/\bA wr (X bi<|e+p)=M (aw d[p]):=by obtain⟨q1,⟨q2,q0⟩|⟨bm,T,bd,q2,bk,hc⟩⟩:=dQ L;omega;cases q2;refine⟨bm,T,z,?_⟩;(have hg:(strs d)[p]?=M (aw d[p]):=by simp[strs,k]);exact A.u (hc _ _ hg) id (L.lt bm z).2);obtain⟨bi,e,hx,u⟩:=u;subst hx;obtain⟨HT,m,F⟩:=eU A o c;generalize d[p]=bh at*;(go_wp2_with fail);apply O.mono;rintro an W⟨l,ok,rfl,g,n⟩;have S:=(g.A _ (az F) id).trans F;have b:=(g.A _ (az m) id).trans m;have y0:=aX S 0;have s:=ak<|(ag HT).t g;have al:=ak b;clear O g S u;cases ok;(.clear b n;go_wp2;go_roundw;(case rel=>exact⟨p+1,k,dM,s⟩);case measure=>simp[intOf];omega);by_cases j:2<l;rotate_left;(.have aV:¬(2:Y)<(l:Y):=U;clear b j n;go_wp2;go_roundw;(case rel=>exact⟨p+1,k,dM,s⟩);case measure=>simp[intOf];omega);have aV:(2:Y)<(l:Y):=U;have aa:=ak<|n j;clear n;have z0:=aX b 0;have z1:=aX b 1;have z2:=aX b 2;have z3:=aX b 3;have z4:=aX b 4;have z5:=aX b 5;have z6:=aX b 6;(have fz:∀i,iI W (X (G<|H a) i)=bD:=λi=>by simp[World.frozen?,b]);have bg:=az b;clear b j;go_wp21;have f:=aY (i:=6) (u:=aF)<|aY (i:=5) (u:=aF)<|aY (i:=4) (u:=aF)<|aY (i:=3) (u:=aF)<|aY (i:=2) (u:=bw 0)<|aY (i:=1) (u:=bw 0)<|aY (i:=0) (u:=bw 0)<|ag al;have hT:=(ag r).t<|ag s;have hR:=((((((hT.aL _ 0 (bw 0)<|bu<|aq _).aL _ 1 (bw 0)<|bu<|aq _).aL _ 2 (bw 0)<|bu<|aq _).aL _ 3 aF<|bu<|aq _).aL _ 4 aF<|bu<|aq _).aL _ 5 aF<|bu<|aq _).aL _ 6 aF<|bu<|aq _;(have bb:G (H<|cP (cP (cP (cP (cP (cP (cP W (X (G<|H a) 0)<|bw 0) (X (G<|H a) 1)<|bw 0) (X (G<|H a) 2)<|bw 0) (X (G<|H a) 3) aF) (X (G<|H a) 4) aF) (X (G<|H a) 5) aF) (X (G<|H a) 6) aF)=G (H W):=by simp[gK]);refine ci (mE z _ _ (G<|H a) 0 0 0 _ _ _ _ _ _ z ((gy _<|az f).trans f) ⟨_,_,_,z⟩ ⟨_,_,_,z⟩ ⟨_,_,_,z⟩ ⟨_,_,_,z⟩) z ?_;exact⟨hR.aE _,bu ⟨ag aa,G<|H W,z,10,⟨fm,aQ _ bb.symm,tQ⟩,cg⟩⟩);have e1:¬(p:Y)<(y d:Y):=U;have y0:=aX c 0;have b:=aX c 1;have e:=aX c 2;have g:=aX c 3;have j:=aX c 4;have l:=aX c 5;have n:=aX c 6;(have fz:∀i,iI wr (X (G<|H a) i)=bD:=λi=>by simp[World.frozen?,o]);(have m9:∀i,i<7->∃x,bA wr (X (G<|H a) i)=M x:=λi b=>by rw[cE o];simp_all);obtain⟨u0,z0⟩:=m9 0 U;obtain⟨u1,z1⟩:=m9 1 U;obtain⟨u2,z2⟩:=m9 2 U;obtain⟨u3,z3⟩:=m9 3 U;obtain⟨u4,z4⟩:=m9 4 U;obtain⟨u5,z5⟩:=m9 5 U;obtain⟨u6,z6⟩:=m9 6 U;have HT:=ak A;have m:=ak o;go_wp2;have f:=aY (i:=6) (u:=aF)<|aY (i:=5) (u:=aF)<|aY (i:=4) (u:=aF)<|aY (i:=3) (u:=aF)<|aY (i:=2) (u:=bw 0)<|aY (i:=1) (u:=bw 1)<|aY (i:=0) (u:=bw 2) m;refine ci (mE z _ _ (G<|H a) 2 1 0 _ _ _ _ _ _ z f ⟨_,_,_,z⟩ ⟨_,_,_,z⟩ ⟨_,_,_,z⟩ ⟨_,_,_,z⟩) z ?_;refine⟨?_,J z⟩;have hT:=r.t HT;exact((((((hT.aL _ 0 _<|bu<|aq _).aL _ 1 _<|bu<|aq _).aL _ 2 _<|bu<|aq _).aL _ 3 _<|bu<|aq _).aL _ 4 _<|bu<|aq _).aL _ 5 _<|bu<|aq _).aL _ 6 _<|bu<|aq _)
structure Mk where
 cK:R
 ut:R
 f:R
 L:Y
def Mk.bU(m:Mk):iF:=[bw m.cK,eI m.ut,eI m.f,eI m.L]
def Mk.Ok(m:Mk):Prop:=m.cK<18446744073709551616/\m.ut<4294967296/\m.f<4294967296
def mZ(a:cy Mk):iF:=a.flatMap Mk.bU
def TX:∀(a:cy Mk)(n j:R)(h:n<y a)(_:j<4),(mZ a)[n*4+j]?=(Mk.bU a[n])[j]?
 |m::a,0,j,_,b=>by
  rw[mZ,dR,iu (by simp[Mk.bU];omega)];simp
 |m::a,n+1,j,h,b=>by
  rw[mZ,dR,fQ (by simp[Mk.bU];omega)];have:=TX a n j (dV h) b;rw[mZ]at this;simp only[Mk.bU,bK,eE,cF]at this|-;rw[<-this];congr 1;omega
def YJ(a:cy Mk)(m:Mk):mZ (a++[m])=mZ a++m.bU:=by simp[mZ]
def Rd.aA{S:fC}{w w':Z}{rest:eD}{m6:eN}(h:Rd w c rest m6)(k:I S w w')(q:∀m,S m->c<m):Rd w' c rest m6:=by
 have g:=h.lt;let⟨v,p,n,j⟩:=h;refine⟨v,(k.A c g aI).trans p,?_,j⟩;obtain⟨rfl,rfl⟩|⟨b,a,d,rfl,e,o⟩:=n;exact J ⟨z,z⟩;have:=j b z;exact bu ⟨b,a,d,z,e,λm c=>k.u (o m c) aI U⟩
structure uF(w0 wr:Z)(sb rb mb:R)(nx lg bt:Y)(vs:iF)(Ds:cy (cy Mk))(ks:ae->Prop)(rest:eD)(s:eN):Prop where
 g:wr.heap[sb]?=M (aK (bw nx::bw lg::bw bt::vs).toArray 161 (0,0))
 L:y vs=4
 AZ:y Ds=4
 l:∀(j:R)(v:ae)(D:cy Mk),vs[j]?=M v->Ds[j]?=M D->fE wr (mb+1) 234 4 v (y D) (mZ D)
 ne:∀(j j':R)(v v':ae)(q:R),j≠j'->vs[j]?=M v->vs[j']?=M v'->cN v=M q->cN v'≠M q
 gu:mL wr mb (.int .u64) ks
 rd:Rd wr rb rest s
 aA:I aC w0 wr
 o:G (H w0)<=rb/\rb<sb/\sb<mb/\mb<G (H wr)
def uF.bV{o wr:Z}{n f:Y}{a:cy (cy Mk)}{l:ae->Prop}(h:uF o wr b c k r n f Q a l m V){j:R}(i:Q[j]?=M d):∃D,a[j]?=M D/\fE wr (k+1) 234 4 d (y D) (mZ D):=by
 have g:j<4:=by rw[<-h.L];grind
 have e:a[j]?=M (a[j]'(h.AZ▸g)):=bF _;exact⟨_,e,h.l j d _ i e⟩
def uF.aZ{s wr:Z}{p e:Y}{a:cy (cy Mk)}{o:ae->Prop}{rest:eD}(h:uF s wr c k n r p e Q a o rest V){t:R}(m:Q[t]?=M d){q:R}(g:cN d=M q):n<q/\q<G (H wr):=by
 let⟨D,_,j⟩:=h.bV m;have:=aS j q g;omega
def uF.u{l wr:Z}{g d:Y}{a:cy (cy Mk)}{e:ae->Prop}(h:uF l wr c k n r g d Q a e m V)(j:R):bA wr (X c<|3+j)=Q[j]?:=by
 rw[cE h.g,Ck 3 j];simp
def uF.t{s wr e:Z}{n i:Y}{f:cy (cy Mk)}{j:ae->Prop}{a:eD}{p:eN}(h:uF s wr b c k r n i Q f j m V)(d:I (λu=>u=c) wr e)(t:Rd e c a p):uF s e b c k r n i Q f j a p where
 g:=(d.A b (az h.g)<|bP h.o).trans h.g
 L:=h.L
 AZ:=h.AZ
 l:=λu v D b k=>d.aZ (h.l u v D b k)<|λq t w=>gW (h.aZ b t) h.o
 ne:=h.ne
 gu:=h.gu.dU<|d.A k h.o.2.2.2<|bP h.o
 rd:=t
 aA:=h.aA.aj d<|λu b=>bu<|bP h.o
 o:=⟨h.o.1,h.o.2.1,h.o.2.2.1,au h.o.2.2.2 d.D⟩
def uF.bH{i wr j:Z}{g d:Y}{a:cy (cy Mk)}{f:ae->Prop}(h:uF i wr b c k r g d Q a f m V)(e:I aC wr j):uF i j b c k r g d Q a f m V:=h.t (e.aT cY)<|h.rd.aA e cY
def uF.p{n wr e:Z}{j i:Y}{f:cy (cy Mk)}{t d:ae->Prop}(h:uF n wr b c k r j i Q f t m V)(a:wr.grownBy e (M k))(s:mL e k (.int .u64) d):uF n e b c k r j i Q f d m V where
 g:=(a.block b (az h.g)<|zZ h.o).trans h.g
 L:=h.L
 AZ:=h.AZ
 l:=λv w D b k=>(gI a).aZ (h.l v w D b k)<|λq s p=>bP<|h.aZ b s
 ne:=h.ne
 gu:=s
 rd:=h.rd.aA (gI a)<|λu p=>bP h.o
 aA:=h.aA.aj (gI a)<|λu p=>bu (by have:=h.o;have:u=k:=p;omega)
 o:=⟨h.o.1,h.o.2.1,h.o.2.2.1,au h.o.2.2.2 a.size⟩
def uF.ks{i wr:Z}{g e:Y}{d:cy (cy Mk)}{f a:ae->Prop}(h:uF i wr b c k r g e Q d f m V)(l:∀j,a j↔f j):uF i wr b c k r g e Q d a m V:={h with gu:=h.gu.yM l}
def uF.gL{P wr o:Z}{E A:Y}{F:cy (cy Mk)}{O:ae->Prop}{D':cy Mk}(h:uF P wr c k n r E A Q F O m V)(t:Q[T]?=M d)(D:fo wr o d w)(L:fE o (n+1) 234 4 w (y D') (mZ D')):uF P (cP o (X c<|3+T) w) c k n r E A (Q.set T w) (F.set T D') O m V:=by
 have u:I (λaa=>cN d=M aa) wr o:=I.fV D;have W:=λq=>h.aZ (q:=q) t;have s:=h.o;have v:o.heap[c]?=M (aK (bw r::bw E::bw A::Q).toArray 161 (0,0)):=(u.A c (az h.g) aI).trans h.g;have j:I (λaa=>aa=c) o (cP o (X c<|3+T) w):=(iQ c o);have C:∀q,cN w=M q->n<q/\q<G (H o):=λq i=>bP<|aS L q i;refine⟨?_,by rw[gA];exact h.L,by rw[gA];exact h.AZ,?_,?_,?_,?_,?_,?_⟩;rw[aY v,Ck 3 T];simp;intro N ab l g a;by_cases B:T=N;subst B;rw[jm]at g a;rw[t]at g;let⟨K,e,_⟩:=h.bV t;rw[e]at a;cases g;cases a;exact j.aZ L aI;rw[fJ B]at g a;have e:=u.aZ (h.l N ab l g a)<|λq i x=>h.ne N T ab d q (FA B) g t i x;exact j.aZ e<|λq i B=>bP<|h.aZ g i;intro N i' ab u' q l g e i;by_cases B:T=N;subst B;rw[fJ l]at e;rw[jm,t]at g;cases g;intro a;change cN w=M q at i;obtain x|⟨S,x,hy⟩:=D.f;exact h.ne _ _ _ _ q l t e (x.symm.trans i) a;rw[x]at i;cases i;have:=h.aZ e a;omega;rw[fJ B]at g;by_cases K:T=i';subst K;rw[jm,t]at e;cases e;intro a;change cN w=M q at a;obtain x|⟨S,x,hy⟩:=D.f;exact h.ne _ _ _ _ q l g t i<|x.symm.trans a;rw[x]at a;cases a;have:=h.aZ g i;omega;rw[fJ K]at e;exact h.ne _ _ _ _ q l g e i;exact(h.gu.dU<|u.A n s.2.2.2 aI).dU<|j.A n (au s.2.2.2 u.D) U;exact(h.rd.aA u aI).aA j aI;exact(h.aA.aj u aI).aj j aI;grind[gK,Nat.lt_of_lt_of_le,I.D]
structure wT(Ms Ds:cy dI)(i k:R):Prop where
 da:∀j,j<i->Ds[j]?=Ms[j]?
 l:∀m,Ms[i]?=M m->Ds[i]?=M (m.take k)
 xR:∀j,i<j->j<4->Ds[j]?=M []
theorem wT.A(c:cy dI):wT c [[],[],[],[]] 0 0 where
 da:=ar
 l:=λm _=>rfl
 xR:=aI
theorem wT.xL{c e:cy dI}{i:R}{m:dI}(h:wT c e i (y m))(f:c[i]?=M m)(d:y c=4):wT c e (i+1) 0 where
 da:=λj g=>by
  obtain k|k:=iU j i
  .exact h.da j k
  .obtain rfl:j=i:=U;rw[f,h.l m f,cQ]
 l:=λj f=>by
  have:i+1<4:=by
   rw[<-d];grind
  rw[List.take_zero];exact h.xR _ (Nat.lt_succ_self i) this
 xR:=λj g d=>h.xR j U d
theorem wT.pK{d f:cy dI}{i k:R}{m:dI}(h:wT d f i k)(g:d[i]?=M m):wT d (f.set i<|m.take<|k+1) i (k+1)where
 da:=λj e=>by rw[fJ U];exact h.da j e
 l:=λn c=>by
  rw[g]at c;cases c;rw[jm,h.l m g];rfl
 xR:=λj e c=>by rw[fJ U];exact h.xR j e c
theorem wT.dq{d c:cy dI}(h:wT d c 4 0)(g:y d=4)(f:y c=4):c=d:=by
 refine wi<|λj=>?_;obtain e|e:=iU j 4;exact h.da j e;grind
section
variable{P:Program}(w:Z){b:Array Oper}{rest:cy Oper}{o:Oper}{a:Act}{Q:Exit->Act->Z->Prop}
theorem Iz(q:o.guard=dE)(k x l:Operand)(E:TypeId)(i:o.op=Op.insert E k x l)(D K:TypeId)(t:P.underlying E=M (.map D K))(n:TypeDesc)(r:P.underlying D=M n)(m:R)(j:ae->Prop)(s:a.eval k=.map (M m))(h:mL w m n j)(c:ae)(g:MapKept.IsKey n c)(v:a.eval x=c)(u:a.eval l=ef #[])(p:∀d,mL d m n (λx=>j x\/x=c)->w.grownBy d (M m)->G (H d)=G (H w)->wpList P b Q rest (a.put o.dst jn) d):wpList P b Q (o::rest) a w:=by
 refine lz q λF f=>?_;let⟨d,e,A,B,C⟩:=BF t r h c g;unfold Oper.wp;simp[execOp,i,s,v,u,e,Result.andThen];exact f _ _<|p d A B C
end
structure B4(w:Z)(db:R)(t:cH)(bb:R):Prop where
 D:∃vW,mR w t.tb (aJ db) t.cK (jN t.ks) (y<|iE t.ks) (pu<|iE t.ks) bb 0 vW aF t.ks
 jW:nz t.ks
 cK:t.cK<18446744073709551616
def B4.dU{w w':Z}{db:R}{t:cH}(h:B4 w db t c)(d:w'.heap[t.tb]?=w.heap[t.tb]?)(e:w'.heap[c]?=w.heap[c]?):B4 w' db t c:=by
 let⟨a,f⟩:=h.D;exact⟨⟨a,f.dU d e⟩,h.jW,h.cK⟩
def pq(t:cH):Mk:=⟨t.cK,jN t.ks,y<|iE t.ks,pu<|iE t.ks⟩
def Q0(K:DK)(t:cH):Prop:=∃F,ij K.ah (jg t.cK)=M F/\(F.bB.drop<|jN t.ks).take (y<|iE t.ks)=iE t.ks
def Fc(w:Z)(c b:R)(d:iF)(t:cH):Prop:=∃a,B4 w c t a/\b<t.tb/\t.tb<G (H w)/\b<a/\a<G (H w)/\∀(j:R)(v:ae),d[j]?=M v->cN v≠M t.tb/\cN v≠M a
structure Ff(w0 wr:Z)(db:R)(K K1:DK)(gb lb:R)(mv vs:iF)(Ts:cy dI):Prop where
 d:wr.heap[gb]?=M (aK mv.toArray 159 (0,0))
 g:wr.heap[lb]?=M (aK vs.toArray 108 (0,0))
 L:y vs=4
 S:y Ts=4
 l:∀(j:R)(v:ae)(T:dI),vs[j]?=M v->Ts[j]?=M T->fE wr (lb+1) 235 1 v (y T) (T.map cH.D)
 ne:∀(j j':R)(v v':ae)(q:R),j≠j'->vs[j]?=M v->vs[j']?=M v'->cN v=M q->cN v'≠M q
 f:cJ wr db K1
 bM:K1.ah=K.ah/\(wS K K1/\Fx K.fx K1.fx)/\∀k,K1.j db k->K.j db k
 Fj:∀t∈Ts.flatten,Fc wr db lb vs t
 i:(Ts.flatten.map cH.tb).Nodup
 aA:I (K.j db) w0 wr
 da:∀k,K.j db k->k<G (H w0)
 o:G (H w0)<=gb/\gb<lb/\lb<G (H wr)
def yI{t:cH}:∀{a:cy dI}{i:R},a[i]?=M l->List.Perm (a.set i<|l++[t]).flatten (t::a.flatten)
 |[],i,h=>by simp at h
 |n9::a,0,h=>by
  simp_all
 |n9::a,i+1,h=>by
  rw[qX]at h;rw[eO,di,di];exact((sL n9<|yI h).trans xp)
def Ff.bV{m wr:Z}{g:iF}{a:cy dI}(h:Ff m wr b f x c k Q g a){j:R}(l:g[j]?=M d):∃T,a[j]?=M T/\fE wr (k+1) 235 1 d (y T) (T.map cH.D):=by
 have i:j<4:=by rw[<-h.L];grind
 have e:a[j]?=M (a[j]'(h.S▸i)):=bF _;exact⟨_,e,h.l j d _ l e⟩
def Ff.aZ{p wr:Z}{db:R}{K e:DK}{a:iF}{g:cy dI}(h:Ff p wr db K e c k Q a g)(o:a[n]?=M d){q:R}(j:cN d=M q):k<q/\q<G (H wr):=by
 let⟨D,_,m⟩:=h.bV o;have:=aS m q j;omega
def Ff.u{g wr:Z}{db:R}{K d:DK}{a:iF}{e:cy dI}(h:Ff g wr db K d c k Q a e)(j:R):bA wr (X k j)=a[j]?:=by
 rw[cE h.g];simp
def Ff.p{e wr:Z}{d:iF}{a:cy dI}(h:Ff e wr b f x c k Q d a)(j:R):bA wr (X c j)=Q[j]?:=by
 rw[cE h.d];simp
def Fc.aA{S:fC}{w w':Z}{db c:R}{t:cH}(h:Fc w db c Q t)(a:I S w w')(p:∀o,S o->o<=c):Fc w' db c Q t:=by
 let⟨g,n,j,d,k,e,m⟩:=h;refine⟨g,n.dU (a.A _ d aI)<|a.A _ e aI,j,au d a.D,k,au e a.D,m⟩
def Ff.A{p wr m:Z}{e:DK}{o:iF}{n:cy dI}(h:Ff p wr b f x c k Q o n)(g:I W wr m)(t:∀d,W d->f.j b d\/c<d/\d<k)(s:cJ m b e)(i:e.ah=x.ah/\(wS x e/\Fx x.fx e.fx)/\∀d,e.j b d->x.j b d):Ff p m b f e c k Q o n:=by
 have l:=h.da;have a:=h.o;have j:∀d,W d->d<c\/c<d/\d<k:=aI;refine⟨?_,?_,h.L,h.S,?_,h.ne,s,⟨i.1.trans h.bM.1,⟨h.bM.2.1.1.aj i.2.1.1,h.bM.2.1.2.aj i.2.1.2⟩,λd r=>h.bM.2.2 d<|i.2.2 d r⟩,?_,h.i,?_,l,?_⟩;exact(g.A c (az h.d) aI).trans h.d;exact(g.A k (az h.g) aI).trans h.g;exactλi v T a c=>g.aZ (h.l i v T a c)<|λq d r=>gW (h.aZ a d)<|j _ r;exactλc a=>(h.Fj c a).aA g aI;exact h.aA.aj g aI;exact⟨a.1,a.2.1,au a.2.2 g.D⟩
def Ff.bH{g wr i:Z}{e:iF}{a:cy dI}(h:Ff g wr b f x c k Q e a)(d:I aC wr i):Ff g i b f x c k Q e a:=h.A d cY (h.f.aA d<|λ_ _=>id) ⟨z,⟨⟨z,z,z⟩,Fx.bI _⟩,λ_ j=>j⟩
def Ff.gL{w0 wr o:Z}{K1:DK}{t:iF}{K:cy dI}{W:cH}(h:Ff w0 wr c x K1 k n Q t K)(A:t[T]?=M d)(hT:K[T]?=M l)(S:fo wr o d w)(ho:fE o (n+1) 235 1 w (y<|l++[W]) ((l++[W]).map cH.D))(ab:Fc wr c n t W)(F:W.tb∉K.flatten.map cH.tb):Ff w0 (cP o (X n T) w) c x K1 k n Q (t.set T w) (K.set T<|l++[W]):=by
 have s:I (λL=>cN d=M L) wr o:=I.fV S;have P:=λq=>h.aZ (q:=q) A;have aa:=h.o;have u:=h.da;have E:o.heap[n]?=M (aK t.toArray 108 (0,0)):=(s.A n (az h.g) aI).trans h.g;have g:I (λL=>L=n) o (cP o (X n T) w):=(iQ n o);have O:∀q,cN w=M q->n<q/\q<G (H o):=λq j=>bP<|aS ho q j;have N:∀q,q<G (H wr)->(∀(V:R)(B:ae),t[V]?=M B->cN B≠M q)->cN w≠M q:=λq j a D=>by grind[fo.f]
 have v:∀B,Fc wr c n t B->Fc (cP o (X n T) w) c n (t.set T w) B:=by rintro B⟨i,hm,h1,h2,h3,h4,h5⟩;have e:B4 o c B i:=hm.dU (s.A _ h2 aI)<|s.A _ h4 aI;have r:=au h2 s.D;have g4:=au h4 s.D;refine⟨i,e.dU (g.A _ r U)<|g.A _ g4 U,h1,by rw[gK];exact r,h3,by rw[gK];exact g4,?_⟩;grind
 have m:=yI (t:=W) hT;refine⟨?_,?_,by rw[gA];exact h.L,by rw[gA];exact h.S,?_,?_,?_,h.bM,?_,?_,?_,u,?_⟩;exact(g.A k aI U).trans<|(s.A k (az h.d) aI).trans h.d;rw[aY E];simp;intro V B r a e;by_cases D:T=V;subst D;rw[jm]at a e;rw[A]at a;rw[hT]at e;cases a;cases e;exact g.aZ ho aI;rw[fJ D]at a e;have i:=s.aZ (h.l V B r a e)<|λq j C=>h.ne V T B d q (FA D) a A j C;exact g.aZ i<|λq j D=>bP<|h.aZ a j;intro V i' B u' q r a i j;by_cases D:T=V;subst D;rw[fJ r]at i;rw[jm,A]at a;cases a;intro e;change cN w=M q at j;obtain C|⟨g9,C,hy⟩:=S.f;exact h.ne _ _ _ _ q r A i (C.symm.trans j) e;rw[C]at j;cases j;have:=h.aZ i e;omega;rw[fJ D]at a;by_cases e':T=i';subst e';rw[jm,A]at i;cases i;intro e;change cN w=M q at e;obtain C|⟨g9,C,hy⟩:=S.f;exact h.ne _ _ _ _ q r a A j<|C.symm.trans e;rw[C]at e;cases e;have:=h.aZ a j;omega;rw[fJ e']at i;exact h.ne _ _ _ _ q r a i j;exact(h.f.aA s<|λL C D=>gW (P _ D)<|u L<|h.bM.2.2 L C).aA g<|λL C D=>bP<|u L<|h.bM.2.2 L C;intro B a;obtain rfl|a:=dy.1<|m.mem_iff.1 a;(grind);exact v B<|h.Fj B a;rw[(m.map cH.tb).nodup_iff,bO,kR];exact⟨F,h.i⟩;exact(h.aA.aj s aI).aj g aI;grind[gK,Nat.lt_of_lt_of_le,I.D]
def xK(a:cy uu):R:=y<|a.filter<|λx=>x.f
def Hg(a:cy uu)(x:uu):xK (a++[x])=xK a+(if x.f then 1 else 0):=by
 unfold xK;rw[mB,ai];cases h:x.f<;>simp[h]
def Hh(a:cy uu):xK a<=y a:=gN _ _
def XX(a:cy uu)(x:uu):IH (a++[x])=IH a++[aO x.f,x.v]:=by
 induction a with
 |nil=>rfl
 |cons c r b=>simp only[dt,IH,b]
def Gz(e:Option R){l:kW}(h:tZ a b e l cz d):cR bN 41 #[aJ b] a λg f=>g=aN (de #[ay 0,ay 6])/\f=a:=by
 let⟨⟨v,c,_,_⟩,_,_⟩:=h;have:=aX c 2;clear c;go_in
 go_wp2;go_ret2
 simp_all
def Lh(v:Option R){E:kW}(e:cy uu)(h:tZ a b v E bD d)(n:Qt a d e)(C:4<=xK e):cR bN 41 #[aJ b] a λA w=>A=aN (de #[ay 0,ay 2])/\w=a:=by
 let⟨⟨F,m,_,_⟩,_,_⟩:=h;have:=aX m 1;have:=aX m 2;have:=n.f;have:=Hh e;obtain⟨_,B⟩|⟨x,g,s,rfl,t,i⟩:=n.bV.2;omega;have r:=ak (show∀k(c:k<y e),bA a (X x<|g+k*2)=M (aO e[k].f)fromλk c=>i _ _ (Cv e k c).1);clear m n i;go_in
 go_wp2;go_loopw [4,5] (λc k wr=>∃j:R,j<=y e/\k=ay j/\c=ay (xK (e.take j):R)/\wr=a) (λ_ k _=>y e-(intOf k).toNat)
 exact⟨0,bQ _,z,z,z⟩
 .obtain⟨j,D,rfl,rfl,u⟩:=hrel;subst wr;by_cases f:j<y e
  .have p:=r j f;have c:=Hg (e.take j) e[j];rw[<-aG f]at c;have o:=Hh<|e.take j;have l:y (e.take j)<=y e:=by rw[dX];omega
   have:(j:Y)<(y e:Y):=U;clear l;generalize xK (e.take j)=q at*;have:q<=1000000000:=by rw[dX]at o;omega
   have:IntKind.i64.wrap ((q:Y)+1)=(q:Y)+1:=by rw[bR];omega
   clear o;cases hl:e[j].f with
   |true=>
    rw[hl]at p c;go_wp2;go_roundw
    .exact⟨j+1,f,dM,by rw[c];simp,trivial⟩
    .simp[intOf];omega
   |false=>
    rw[hl]at p c;go_wp2;go_roundw
    .exact⟨j+1,f,dM,by rw[c];simp,trivial⟩
    .simp[intOf];omega
  .have c:j=y e:=U;subst c;rw[cQ]at*;have:(4:Y)<=(xK e:Y):=U;go_wp2;go_ret2
   simp_all
