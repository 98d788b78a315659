import Derived.Deep.Slices
import Derived.LaidHandle
import Derived.LaidSub
import Derived.Lib.LaidTab
import Derived.Test.YtbgjhlkoccmfaaaGreatDoorRows
import Derived.Test.YtbgjhlkoccmfaaaGreatDoorC10
open _root_ renaming List.length→y,Option.some→M,Array.size→G,Go.World.heap→H,Go.Value.ownBlock→cN,Go.World.cell?→bA,Go.World.setCell→cP,Go.World.alloc→dw,Bool.false→bD,Bool.true→cz,Nat→R,Int→Y,List→cy,Go.Calls→cR,Go.undef→jn,Go.Proofs.Tryz.prog→bN,Go.Value.slice→am,Go.Value.string→aw,Go.Value.bool→aO,Go.Value.pointer→ee,Go.Value.tuple→de,Go.Value.agg→ef,Go.World.frozen?→iI,Go.World.ownsRow→fE,Go.Value.nilIface→ic,Go.Act.put→ii,Nat.reduceAdd→ke,Bool→eN,Option.none→dE,rfl→z,Or.inl→J,Or.inr→bu
namespace Go.Proofs.YtbgjhlkoccmfaaaGreatDoor
open ChangeShapes WideShapes RowKit Proofs.Tryz List
set_option maxHeartbeats 16000000
set_option linter.all false
set_option maxRecDepth 100000
variable{a e P:Z}{b c k n T:R}{d:ae}{f x:DK}{m:eD}{r:Y}{B:af}{N:Fs}
def Xh(d c:R)(bv e:ae):fC:=λk=>k=d\/AY c bv e k
def S4(W:Z)(d db:R)(sv:ae)(mem j6:Y)(c:R):Prop:=W.heap[d]?=M (aK #[aJ db,sv,ay mem,ay j6,aJ c] 41 (0,0))
structure XH(w0 W:Z)(d db c:R)(sv:ae)(mem ub:Y)(bv e:ae)(m:iF)(l:kW)(a:Y)(n:eN)(N:R):Prop where
 g:S4 W d db sv mem ub c
 f:HB (G<|H w0) W c bv e m l a n
 L:¬AY c bv e d
 S:G (H w0)<=d
 o:1<=mem/\mem<=32/\2<=ub/\ub<=6
 cK:y m<=N/\y l<=8*N
 aA:I aC w0 W
 g0:Steps w0/\Pow w0/\jP w0/\tg w0
section
variable{w0 W W':Z}{d db j3 c:R}{mem j6:Y}{bv e sv:ae}{m:iF}{l s:kW}{a:Y}{n r:eN}{N N':R}{F S:fC}
def XH.lt(h:XH w0 W d db c sv mem j6 bv e m l a n N){k:R}(g:Xh d c bv e k):G (H w0)<=k/\k<G (H W):=by
 obtain rfl|q:=g;exact⟨h.S,az h.g⟩;exact h.f.lt q
def XH.D(h:XH w0 W d db c sv mem j6 bv e m l a n N)(b:I F W W')(hF:∀k,F k->G (H w0)<=k/\¬Xh d c bv e k):XH w0 W' d db c sv mem j6 bv e m l a n N:={h with
 g:=(b.A d (az h.g)<|λq=>(hF _ q).2<|J z).trans h.g
 f:=h.f.aA b<|λk i q=>(hF _ q).2<|bu i
 aA:=h.aA.aj b (λk q=>bu (hF k q).1)}
def XH.bH(h:XH w0 W d db c sv mem j6 bv e m l a n N)(b:I aC W W'):XH w0 W' d db c sv mem j6 bv e m l a n N:=h.D b cY
def XH.nW(h:XH w0 W d db c sv mem j6 bv e m l a n N):jP W:=h.g0.2.2.1.aA h.aA id
def XH.aT(h:XH w0 W d db c sv mem j6 bv e m l a n N)(g:N<=N'):XH w0 W d db c sv mem j6 bv e m l a n N':={h with cK:=bP h.cK}
def XH.A{i j:ae}{k:iF}{b:Y}(h:XH w0 W d db c sv mem j6 bv e m l a n N)(p:I (λo=>o=c\/cN bv=M o) W W')(u:HB (G<|H w0) W' c i j k s b r)(w:∀o,AY c i j o->AY c bv e o\/G (H W)<=o)(t:y k<=N'/\y s<=8*N'):XH w0 W' d db c sv mem j6 i j k s b r N':=by
 have x:=az h.g
 exact{h with
  g:=(p.A d x<|λq=>h.L<|q.elim J<|λq=>bu<|J q).trans h.g
  f:=u
  L:=λq=>(w d q).elim h.L<|λq=>U
  cK:=t
  aA:=h.aA.aj p (λo q=>bu (h.f.lt (q.elim J (λq=>bu (J q)))).1)}
def XH.aL{b:R}{j:ae}(h:XH w0 W d db c sv mem j6 bv e m l a n N){i:R}{u:ae}(k:S4 (cP W (X d i) u) d b j mem j6 c):XH w0 (cP W (X d i) u) d b c j mem j6 bv e m l a n N:={h with
 g:=k
 f:=h.f.aA (fK W d i u)<|λt q o=>h.L (by have p:t=d:=o;exact p▸q)
 aA:=h.aA.aj (fK W d i u) (λt o=>bu (by rw[show t=d from o];exact h.S))}
def XH.p(h:XH w0 W d db c sv mem j6 bv e m l a n N)(u:ae):XH w0 (cP W (X d 1) u) d db c u mem j6 bv e m l a n N:=h.aL<|(aY h.g).trans rfl
def XH.G1(h:XH w0 W d db c sv mem j6 bv e m l a n N)(b:R):XH w0 (cP W (X d 0)<|aJ b) d b c sv mem j6 bv e m l a n N:=h.aL<|(aY h.g).trans rfl
def XH.Cw(h:XH w0 W d db c sv mem j6 bv e m l a n N)(b:Y):XH w0 (cP W (X c 1)<|ay b) d db c sv mem j6 bv e m l b n N:=h.A ((fK W c 1<|ay b).aT ar) (h.f.D (fK W c 1<|ay b)<|(aY h.f.g).trans z) (λ_ q=>J q) h.cK
def XH.Gn(h:XH w0 W d db c sv mem j6 bv e m l a n N)(b:eN):XH w0 (cP W (X c 2)<|aO b) d db c sv mem j6 bv e m l a b N:=h.A ((fK W c 2<|aO b).aT ar) (h.f.D (fK W c 2<|aO b)<|(aY h.f.g).trans z) (λ_ q=>J q) h.cK
def XH.R5{k:Array ae}{o:R×R}(h:XH w0 W d db c sv mem j6 bv e m l a n N)(g:W.heap[db]?=M (aK k 89 o))(f:sv=ee dE\/∃j3 j p,sv=aJ j3/\W.heap[j3]?=M (aK j 110 p)):QI W d:=by
 refine⟨_,_,_,h.g,⟨cg,cg⟩,J λw q=>?_,λq i=>?_⟩;obtain rfl|⟨j3,_,_,rfl,_⟩:=f<;>simp at q;obtain rfl|⟨j3,t,u,rfl,f⟩:=f;have b:q=db\/q=c:=dV i;obtain rfl|rfl:=b;exact⟨_,_,_,g,cg⟩;exact⟨_,_,_,h.f.g,cg⟩;have b:q=db\/q=j3\/q=c:=dV i;obtain rfl|rfl|rfl:=b;exact⟨_,_,_,g,cg⟩;exact⟨_,_,_,f,cg⟩;exact⟨_,_,_,h.f.g,cg⟩
end
def Lv(j4:cy af)(W:Z)(db j3 C N:R)(F:fC):Prop:=∃b K k g h i j f,F=Bc b K j3/\b.f=db/\b.d=bD/\qu K.fx/\cU W j3 b 0/\Inv True j4 W j3 b K k g h i j C N f
def Dd(W:Z)(db L:R)(F:fC):Prop:=∃K,F=K.j db/\cJ W db K/\qu K.fx/\Fy K L 12100000000/\y K.l<=100000000000
def C6(j4:cy af):Prop:=∀x∈j4,∃b:R,x=gX b
structure XG(j4:cy af)(w0 W:Z)(d db sb c:R)(sv:ae)(mem ub:Y)(bv e:ae)(m:iF)(l:kW)(a:Y)(n:eN)(C N:R)(F:fC):Prop where
 xh:XH w0 W d db c sv mem ub bv e m l a n N
 lv:Lv j4 W db sb C N F
 da:∀k,F k->G (H w0)<=k/\k<G (H W)/\¬Xh d c bv e k
 f:C6 j4/\y j4<=N
structure XD(w0 W:Z)(d db c:R)(sv:ae)(mem ub:Y)(bv e:ae)(m:iF)(l:kW)(a:Y)(n:eN)(L N:R)(F:fC):Prop where
 xh:XH w0 W d db c sv mem ub bv e m l a n N
 dd:Dd W db L F
 da:∀k,F k->G (H w0)<=k/\k<G (H W)/\¬Xh d c bv e k
def MI(w0 W:Z)(d C N:R):Prop:=∃j4 db j3 c mem j6 bv e m l a n F,XG j4 w0 W d db j3 c (aJ j3) mem j6 bv e m l a n C N F
def Qq(w0 W:Z)(d L N:R):Prop:=∃db c sv mem j6 bv e m l a n F,XD w0 W d db c sv mem j6 bv e m l a n L N F
section
variable{j4:cy af}{w0 W W':Z}{d db j3 c:R}{mem j6:Y}{bv e sv:ae}{m:iF}{l s:kW}{a:Y}{n r:eN}{C C' N N' L v:R}{F F' S:fC}
def Lv.Cs(h:Lv j4 W db j3 C N F):Bb True j4 W db j3 C N F:=J h
def Lv.mC(h:Lv j4 W db j3 C N F)(i:I S W W')(hF:∀x,S x->¬F x)(g:∀x,S x->QI W x)(q:¬S 1/\¬S 2):Lv j4 W' db j3 C N F:=by
 obtain⟨E,K,D,u,w,A,B,t,rfl,b,j,k,o,p⟩:=h;exact⟨E,K,D,u,w,A,B,t,z,b,j,k,o.aA i<|λm9=>hF j3 m9<|J<|bu z,p.mC i (λx f=>⟨(g x f).lt,λm9=>hF x f<|J<|J m9,λm9=>hF x f<|J<|bu m9⟩) g q⟩
def XH.t(h:XH w0 W d db c sv mem j6 bv e m l a n N)(b:∀x,S x->G (H w0)<=x):¬S 1/\¬S 2:=by
 have:=h.g0.1.lt;have:=h.g0.2.1.lt;exact⟨λm9=>bP<|b _ m9,λm9=>bP<|b _ m9⟩
def XG.bH(h:XG j4 w0 W d db j3 c sv mem j6 bv e m l a n C N F)(b:I aC W W'):XG j4 w0 W' d db j3 c sv mem j6 bv e m l a n C N F:=⟨h.xh.bH b,h.lv.mC b cY cY ⟨id,id⟩,λk q=>⟨(h.da k q).1,gW ((h.da k q).2.1) b.D,(h.da k q).2.2⟩,h.f⟩
def XG.A{f g:ae}{i:iF}{b:Y}(h:XG j4 w0 W d db j3 c sv mem j6 bv e m l a n C N F)(o:I (λk=>k=c\/cN bv=M k) W W')(u:HB (G<|H w0) W' c f g i s b r)(p:∀k,AY c f g k->AY c bv e k\/G (H W)<=k)(t:y i<=N/\y s<=8*N):XG j4 w0 W' d db j3 c sv mem j6 f g i s b r C N F:=by
 have j:∀k,(k=c\/cN bv=M k)->AY c bv e k:=λk q=>q.elim J<|λq=>bu<|J q;have:=o.D;refine⟨h.xh.A o u p t,h.lv.mC o (λx q m9=>(h.da x m9).2.2<|bu<|j x q) (λx q=>h.xh.f.R5 q)<|h.xh.t<|λx q=>(h.xh.f.lt<|j x q).1,λk q=>⟨(h.da k q).1,bP<|(h.da k q).2.1,λm9=>?_⟩,h.f⟩;obtain m9|m9:=m9;exact(h.da k q).2.2<|J m9;exact(p k m9).elim (λm9=>(h.da k q).2.2<|bu m9)<|λm9=>bP<|(h.da k q).2.1
def XG.Cw(h:XG j4 w0 W d db j3 c sv mem j6 bv e m l a n C N F)(b:Y):XG j4 w0 (cP W (X c 1)<|ay b) d db j3 c sv mem j6 bv e m l b n C N F:=h.A ((fK W c 1<|ay b).aT ar) (h.xh.f.D (fK W c 1<|ay b)<|(aY h.xh.f.g).trans z) (λ_ q=>J q) h.xh.cK
def XG.Gn(h:XG j4 w0 W d db j3 c sv mem j6 bv e m l a n C N F)(b:eN):XG j4 w0 (cP W (X c 2)<|aO b) d db j3 c sv mem j6 bv e m l a b C N F:=h.A ((fK W c 2<|aO b).aT ar) (h.xh.f.D (fK W c 2<|aO b)<|(aY h.xh.f.g).trans z) (λ_ q=>J q) h.xh.cK
def XG.R5(h:XG j4 w0 W d db j3 c sv mem j6 bv e m l a n C N F)(g:sv=ee dE\/sv=aJ j3):QI W d:=by
 obtain⟨t,K,q,j,k,o,p,i,_,rfl,_,_,b,f⟩:=h.lv;exact h.xh.R5 f.st.f.S<|g.imp id<|λi=>⟨j3,_,_,i,b⟩
def XG.t(h:XG j4 w0 W d db j3 c sv mem j6 bv e m l a n C N F)(f:sv=ee dE\/sv=aJ j3)(i:R)(u:ae):Lv j4 (cP W (X d i) u) db j3 C N F/\∀k,F k->G (H w0)<=k/\k<G (H<|cP W (X d i) u)/\¬Xh d c bv e k:=⟨h.lv.mC (fK W d i u) (λk b m9=>(h.da k m9).2.2<|J b) (λk b=>by rw[show k=d from b];exact h.R5 f)<|h.xh.t (λk b=>by rw[show k=d from b];exact h.xh.S),λk q=>⟨(h.da k q).1,by rw[gK];exact(h.da k q).2.1,(h.da k q).2.2⟩⟩
def XG.p(h:XG j4 w0 W d db j3 c sv mem j6 bv e m l a n C N F)(b:sv=ee dE\/sv=aJ j3)(u:ae):XG j4 w0 (cP W (X d 1) u) d db j3 c u mem j6 bv e m l a n C N F:=⟨h.xh.p u,(h.t b 1 u).1,(h.t b 1 u).2,h.f⟩
def XG.I8(h:XG j4 w0 W d db j3 c sv mem j6 bv e m l a n C N F)(u:sv=ee dE\/sv=aJ j3){b:R}(w:I aC W W')(D:G (H W)<=b)(t:W'.heap[b]?=M (aK #[aF,ay 0,aO bD,aF] 76 (0,0))):XG j4 w0 (cP W' (X d 4)<|aJ b) d db j3 b sv mem j6 aF aF [] [] 0 bD C N F:=by
 have o:=h.bH w;let⟨A,p⟩:=o.t u 4<|aJ b;have x:=az h.xh.g;have j:b≠d:=U;have E:=h.xh.aA.D;have i:∀k,AY b aF aF k->k=b:=λk q=>by obtain q|q|q:=q;exact q;cases q;cases q
 refine⟨{o.xh with g:=(aY o.xh.g).trans rfl,f:=Zu (((fK W' d 4<|aJ b).A b (az t) j).trans t) U,L:=λq=>j (i _ q).symm,cK:=ar,aA:=o.xh.aA.aj (fK W' d 4<|aJ b) (λk B=>bu (by rw[show k=d from B];exact h.xh.S))},A,λk q=>⟨(p k q).1,(p k q).2.1,λm9=>?_⟩,h.f⟩;obtain m9|m9:=m9;exact(p k q).2.2<|J m9;have:=(h.da k q).2.1;rw[i k m9]at this;omega
def Dd.aA(h:Dd W db L F)(k:I S W W')(hF:∀x,S x->¬F x):Dd W' db L F:=by
 obtain⟨K,rfl,g,j⟩:=h;exact⟨K,z,g.aA k<|λp q o=>hF p o q,j⟩
def Dd.aT(h:Dd W db L F)(q:L<=v):Dd W db v F:=by
 let⟨K,g,j,k,o,p⟩:=h;exact⟨K,g,j,k,o.aT q<|aq _,p⟩
def XD.bH(h:XD w0 W d db c sv mem j6 bv e m l a n L N F)(b:I aC W W'):XD w0 W' d db c sv mem j6 bv e m l a n L N F:=⟨h.xh.bH b,h.dd.aA b cY,λk q=>⟨(h.da k q).1,gW ((h.da k q).2.1) b.D,(h.da k q).2.2⟩⟩
def XD.A{f g:ae}{i:iF}{b:Y}(h:XD w0 W d db c sv mem j6 bv e m l a n L N F)(j:I (λk=>k=c\/cN bv=M k) W W')(t:HB (G<|H w0) W' c f g i s b r)(o:∀k,AY c f g k->AY c bv e k\/G (H W)<=k)(p:y i<=N/\y s<=8*N):XD w0 W' d db c sv mem j6 f g i s b r L N F:=by
 have:=j.D;refine⟨h.xh.A j t o p,h.dd.aA j<|λx q m9=>(h.da x m9).2.2<|bu<|(λk q=>q.elim J (λq=>bu<|J q):∀k,(k=c\/cN bv=M k)->AY c bv e k) x q,λk q=>⟨(h.da k q).1,bP<|(h.da k q).2.1,λm9=>?_⟩⟩;obtain m9|m9:=m9;exact(h.da k q).2.2<|J m9;exact(o k m9).elim (λm9=>(h.da k q).2.2<|bu m9)<|λm9=>bP<|(h.da k q).2.1
def XD.Gn(h:XD w0 W d db c sv mem j6 bv e m l a n L N F)(b:eN):XD w0 (cP W (X c 2)<|aO b) d db c sv mem j6 bv e m l a b L N F:=h.A ((fK W c 2<|aO b).aT ar) (h.xh.f.D (fK W c 2<|aO b)<|(aY h.xh.f.g).trans z) (λ_ q=>J q) h.xh.cK
def XD.p(h:XD w0 W d db c sv mem j6 bv e m l a n L N F)(u:ae):XD w0 (cP W (X d 1) u) d db c u mem j6 bv e m l a n L N F:=⟨h.xh.p u,h.dd.aA (fK W d 1 u)<|λx b m9=>(h.da x m9).2.2<|J b,λk q=>⟨(h.da k q).1,by rw[gK];exact(h.da k q).2.1,(h.da k q).2.2⟩⟩
def XD.aT(h:XD w0 W d db c sv mem j6 bv e m l a n L N F)(g:L<=v)(j:N<=N'):XD w0 W d db c sv mem j6 bv e m l a n v N' F:=⟨h.xh.aT j,h.dd.aT g,h.da⟩
def Qq.aT(h:Qq w0 W d L N)(g:L<=v)(j:N<=N'):Qq w0 W d v N':=by
 let⟨db,c,sv,mem,j6,bv,e,m,l,a,n,F,h⟩:=h;exact⟨db,c,sv,mem,j6,bv,e,m,l,a,n,F,h.aT g j⟩
def MI.aT(h:MI w0 W d C N)(A:C<=C')(g:C'<=3000000000)(o:N<=N')(j:N'<=1000000000):MI w0 W d C' N':=by
 let⟨j4,db,j3,c,mem,j6,bv,e,m,l,a,n,F,h⟩:=h;let⟨Q,K,P,D,b,E,O,B,p,k,q,t,u,x⟩:=h.lv;exact⟨j4,db,j3,c,mem,j6,bv,e,m,l,a,n,F,h.xh.aT o,⟨Q,K,P,D,b,E,O,B,p,k,q,t,u,x.aT A g o j⟩,h.da,h.f.1,bP h.f.2⟩
end
def BA(j h g:R)(a b c d:dI):y (mj j h g [a,b,c,d])=20*y (a++b++c++d)+44:=by
 unfold mj;rw[iB];simp only[ai,dh,bO,gB,di,jF,eE,tW];omega
section
variable{j5:Prop}{j4:cy af}{w0 W W':Z}{n db j3 f:R}{mem j6:Y}{bv i sv:ae}{r:iF}{l x:kW}{e:Y}{o v:eN}{C C' N N' L w:R}{F F' S:fC}{s:SR}{K K':DK}{m:dB}{a b c d:dI}{sn:gJ}
def Inv.Fj(h:Inv j5 j4 W j3 s K m a b c d C N sn):y (a++b++c++d)<=C:=by
 have:=jf<|λt g=>(h.st.l0.bZ t g).p;have:=jf h.st.s1.p;have:=jf h.st.s2.p;have:=jf h.st.s3.p;have:=h.st.FX;simp only[ai];omega
def SS{A:Option R}(t:cJ W db K)(k:Xk (vw K.ah))(p:QB (vw K.ah) j4 A (a++b++c++d))(E:Xa (vw K.ah) a b c d)(D:C6 j4)(T:y j4<=1000000000)(Q:y (a++b++c++d)<=C)(B:C<=3000000000):Fy K (20*C+44) 4000000002:=by
 refine⟨λaa u=>?_,?_⟩;let⟨O,j⟩:=rB<|cC.2 ⟨aa,u,rfl⟩;refine⟨k _ _ j,λq=>?_⟩;have g:=SM t.kh u;obtain q|q:=q;rw[q]at g;obtain⟨V,A,P,_,h⟩|⟨h,_⟩:=E.1;rw[h]at g;rw[<-iL g,BA];omega;rw[h]at g;cases g;exfalso;rw[q]at g;obtain h|h|⟨l,_,h⟩|⟨V,_,h⟩:=p _ _ g;let⟨P,h⟩:=D _ h;exact yB P h.symm;exact absurd h cg;exact yB l h.symm;exact By _ h.symm;have:=p.dL t;omega
def Inv.t(h:Inv True j4 W j3 s K m a b c d C N sn)(g:C6 j4)(j:y j4<=N):Fy K (20*C+44) 4000000002:=SS h.st.f h.A h.n (h.pH trivial) g (bP h.v) h.Fj h.st.v
def Inv.dd(h:Inv True j4 W j3 s K m a b c d C N sn)(k:qu K.fx)(j:C6 j4)(g:y j4<=N):Dd W s.f (20*C+44) (K.j s.f):=⟨K,z,h.st.f,k,(h.t j g).aT (aq _) U,gW h.l h.v⟩
def XG.xd(h:XG j4 w0 W n db j3 f sv mem j6 bv i r l e o C N F):∃F',XD w0 W n db f sv mem j6 bv i r l e o (20*C+44) N F':=by
 obtain⟨s,K,m,a,b,c,d,sn,rfl,rfl,k,g,t,j⟩:=h.lv;exact⟨_,h.xh,j.dd g h.f.1 h.f.2,λk q=>h.da k<|J<|J q⟩
def MI.xd(h:MI w0 W n C N):Qq w0 W n (20*C+44) N:=by
 let⟨j4,db,j3,f,mem,j6,bv,i,r,l,e,o,F,h⟩:=h;let⟨F',g⟩:=h.xd;exact⟨db,f,_,mem,j6,bv,i,r,l,e,o,F',g⟩
def Xq.dd{B:R}(h:Fy K (20*C+44) 4000000002)(A:y K.l<=22000000000)(t:qu K.fx)(q:Fx K.fx K'.fx)(k:cJ W' db K')(p:Xq K K' B)(u:B<=20*C+44):Dd W' db (20*C+44) (K'.j db):=by
 let⟨l,g,j⟩:=p;have:=AL g;have:=j.dL;exact⟨K',z,k,q.D t,(h.lN g j).aT U U,U⟩
def XG.Ar(h:XG j4 w0 W n db j3 f sv mem j6 bv i r l e o C N F)(j:I F W W')(hF:∀k,F' k->F k\/G (H W)<=k)(g:∀k,F' k->k<G (H W')):XH w0 W' n db f sv mem j6 bv i r l e o N/\∀k,F' k->G (H w0)<=k/\k<G (H W')/\¬Xh n f bv i k:=by
 refine⟨h.xh.D j<|λk q=>⟨(h.da k q).1,(h.da k q).2.2⟩,λk q=>?_⟩;have:=h.xh.aA.D;obtain m9|m9:=hF k q;exact⟨(h.da k m9).1,g k q,(h.da k m9).2.2⟩;exact⟨U,g k q,λj=>bP<|(h.xh.lt j).2⟩
def Lv.lt(h:Lv j4 W db j3 C N F):∀k,F k->k<G (H W):=h.Cs.lt
def XG.eW(h:XG j4 w0 W n db j3 f sv mem j6 bv i r l e o C N F):j3≠0/\¬F 0:=by
 have:0<G (H w0):=cA _ _ h.xh.g0.2.2.1;have:=(h.da j3 h.lv.Cs.j).1;exact⟨U,λc=>bP<|(h.da _ c).1⟩
def XG.D(h:XG j4 w0 W n db j3 f sv mem j6 bv i r l e o C N F)(g:Lv j4 W' db j3 C' N' F')(q:I F W W')(hF:∀t,F' t->F t\/G (H W)<=t)(p:N<=N'):XG j4 w0 W' n db j3 f sv mem j6 bv i r l e o C' N' F':=by
 let⟨j,k⟩:=h.Ar q hF g.lt;exact⟨j.aT p,g,k,h.f.1,bP h.f.2⟩
def gl.lv{g:SR}{E:dB}{u A B D:dI}{j:gJ}(p:s.f=db)(k:gl W W' s.f j3 K K')(Q:qu K.fx)(f:cU W' j3 g 0)(P:g.d=bD)(O:Inv True j4 W' j3 g K' E u A B D C' N' j)(q:g.f=s.f/\g.n=s.n):∃F',Lv j4 W' db j3 C' N' F'/\I (Bc s K j3) W W'/\∀t,F' t->Bc s K j3 t\/G (H W)<=t:=by
 refine⟨_,⟨g,K',E,u,A,B,D,j,z,q.1.trans p,P,k.fx.D Q,f,O⟩,k.aA.aT<|λt h=>J<|J h,λt h=>?_⟩;unfold Bc at h|-;rw[q.1,q.2]at h;obtain(h|h)|h:=h;exact(k.j t h).imp (λm9=>J<|J m9) id;exact J<|J<|bu h;exact J<|bu h
def T9(h:XG j4 w0 W n db j3 f sv mem j6 bv i r l e o C N F)(g:af)(P:g.size<=140737488351232):cR bN 17 #[aJ j3,aw g] W λab W'=>∃aa j q,ab=aN (de #[aw aa,aO j,q])/\uc W' q/\∃F',XG j4 w0 W' n db j3 f sv mem j6 bv i r l e o C N F':=by
 have t:=h;obtain⟨s,K,m,a,b,c,d,sn,rfl,k,p,u,A,B⟩:=h.lv;go_call Pv g A B p P as ab w'⟨aa,j,q,rfl,O,K',E,_,f,D⟩;let⟨F',Q,T,V⟩:=gl.lv k E u f p D ⟨rfl,rfl⟩;exact⟨aa,j,q,z,O,F',t.D Q T V<|aq _⟩
def Tx(h:XG j4 w0 W n db j3 f sv mem j6 bv i r l e o C N F)(A u:af)(g:Y):cR bN 59 #[aJ j3,aw A,aw u,ay g] W λaa W'=>∃B c k,∃q:kW,aa=aN (de #[am B (y q) c,k])/\uQ W W' (am B (y q) c) q/\y q<=40000000000/\uc W' k/\∃F',XG j4 w0 W' n db j3 f sv mem j6 bv i r l e o C N F':=by
 have D:=h;obtain⟨s,K,m,a,b,c,d,sn,rfl,p,t,E,O,P⟩:=h.lv;go_call Jn A u g O P t as aa w'⟨ab,q,k,rfl,j,V,hv,K',T,_,f,Q⟩;obtain⟨B,c,rfl⟩:=aM j;let⟨F',q1,q2,q3⟩:=gl.lv p T E f t Q ⟨rfl,rfl⟩;exact⟨B,c,k,q,z,j,V,hv,F',D.D q1 q2 q3<|aq _⟩
def QA.xd{j:R}{E:ae}(h:XG j4 w0 W n s.f j3 f sv mem j6 bv i r l e o C N (Bc s K j3))(B:qu K.fx)(g:Inv True j4 W j3 s K m a b c d C N sn)(hF:QA W W' j3 s K K' j E)(hM:j<=C')(V:C<=C'):uc W' E/\E≠ic/\∃F',XD w0 W' n s.f f sv mem j6 bv i r l e o (20*C'+44) N F':=by
 obtain⟨s',q0,D,c,rfl,u,O,P,Q,T,A⟩:=hF.ex;let⟨k,t⟩:=h.Ar (F':=K'.j s.f) (hF.eQ.aA.aT<|λg u=>J<|J u) (λg q=>(hF.eQ.j g q).imp (λm9=>J<|J m9) id) hF.eQ.ok.lt;exact⟨bu<|bu ⟨D,z,c,u,A⟩,by simp[eW],_,k,Xq.dd (C:=C') ((g.t h.f.1 h.f.2).aT U<|aq _) (gW g.l g.v) B hF.eQ.fx hF.eQ.ok hF.lN U,t⟩
def QL(h:XG j4 w0 W n db j3 f sv mem j6 bv i r l e o C N F)(O:N+1<=1000000000):cR bN 44 #[aJ j3] W λaa W'=>∃u,aa=aN u/\uc W' u/\((u=ic/\∃F',XG j4 w0 W' n db j3 f sv mem j6 bv i r l e o C (N+1) F')\/(u≠ic/\∃F',XD w0 W' n db f sv mem j6 bv i r l e o (20*C+44) N F')):=by
 have A:=h;have P:=h.xh.nW;let⟨_,t⟩:=h.eW;obtain⟨s,K,m,a,b,c,d,sn,rfl,rfl,B,q,E,D⟩:=h.lv;go_call Bk sn E D B O (λV j=>P.aA j<|λm9=>t<|J m9) q as aa w'(⟨rfl,s',K',m',a',b',c',d',g⟩|⟨u,K',rfl,hF⟩);let⟨Q,T,_,_,_,V⟩:=g.bM;let⟨F',j,k,p⟩:=gl.lv rfl g.eQ q g.g (T.trans B) g.A ⟨Q,V⟩;exact⟨_,z,J z,J ⟨z,F',A.D j k p U⟩⟩;let⟨j,k,p⟩:=QA.xd A q D hF (aq _)<|aq _;exact⟨u,z,j,bu ⟨k,p⟩⟩
def Xs(h:XG j4 w0 W n db j3 f sv mem j6 bv i r l e o C N F){cv:ae}{cs:vX}(g:eN)(hc:∀V,I (λab=>ab=j3) W V->FN V cv cs)(hz:∀ac∈cs,ac.D.size<=140737488351232/\ac.l.size<=140737488351232)(hr:y cs<=1000000000)(hC:C+8<=3000000000)(Q:N+1<=1000000000):cR bN 15 #[aJ j3,cv,aO g] W λT W'=>∃D,T=aN D/\uc W' D/\I F W W'/\((D=uf (gT cs)/\∃F',XG j4 w0 W' n db j3 f sv mem j6 bv i r l e o (C+8) (N+1) F')\/(gT cs=0/\D≠ic/\∃F',XD w0 W' n db f sv mem j6 bv i r l e o (20*(C+8)+44) N F')):=by
 have E:=h;have hg:=h.xh.nW;let⟨_,B⟩:=h.eW;have aa:vL cs<=8:=by unfold vL;split;rename_i q;exact(rD q).1;omega
 obtain⟨s,K,m,a,b,c,d,sn,rfl,rfl,O,u,h3,P⟩:=h.lv;go_call Bq sn g h3 P O hc hz hr U Q (λV j=>hg.aA j<|λm9=>B<|J m9) (J u)as T w'(⟨rfl,s',K',m',a',b',c',d',k,_⟩|⟨A,⟨D,K',rfl,hF⟩,_⟩);let⟨q1,q2,_,_,_,q6⟩:=k.bM;let⟨F',p,j,t⟩:=gl.lv rfl k.eQ u k.g (q2.trans O) (k.A.aT U hC (aq _) Q) ⟨q1,q6⟩;refine⟨_,z,?_,j,J ⟨z,F',E.D p j t U⟩⟩;have:=Dh cs;by_cases q:gT cs=0;rw[q];exact J z;exact bu<|J ⟨gT cs,U,this.2,z⟩;let⟨p,j,t⟩:=QA.xd (C':=C+8) E u P hF U U;exact⟨D,z,p,hF.eQ.aA.aT<|λab T=>J<|J T,bu ⟨A,j,t⟩⟩
end
structure Cld(j4:cy af)(W:Z)(db C N:R)(K:DK)(a b c d:dI):Prop where
 f:cJ W db K
 D:qu K.fx
 A:Xk (vw K.ah)
 l:y K.l+y K.ah<=20000000000+2*N
 pH:Xa (vw K.ah) a b c d
 jW:∀t∈a++b++c++d,nz t.ks/\t.cK<18446744073709551616
 zb:im a+im b+im c+im d<=C
 n:QB (vw K.ah) j4 dE (a++b++c++d)
 Fj:y (a++b++c++d)<=C
structure XL(j4:cy af)(w0 W:Z)(o db i:R)(sv:ae)(mem ub:Y)(bv r:ae)(w:iF)(l:kW)(e:Y)(v:eN)(C N:R)(K:DK)(a b c d:dI):Prop where
 xh:XH w0 W o db i sv mem ub bv r w l e v N
 cl:Cld j4 W db C N K a b c d
 da:∀k,K.j db k->G (H w0)<=k/\k<G (H W)/\¬Xh o i bv r k
 f:C6 j4/\y j4<=N+1
section
variable{j4:cy af}{w0 W W':Z}{o db j3 i:R}{mem j6:Y}{bv r sv:ae}{w:iF}{l O:kW}{e:Y}{v x:eN}{C C' N N' L E:R}{F F' S:fC}{s:SR}{K K':DK}{m:dB}{a b c d:dI}{sn:gJ}
def Cld.aA(h:Cld j4 W db C N K a b c d)(g:I S W W')(hF:∀j,S j->¬K.j db j):Cld j4 W' db C N K a b c d:={h with f:=h.f.aA g (λn q k=>hF n k q)}
def XL.bH(h:XL j4 w0 W o db i sv mem j6 bv r w l e v C N K a b c d)(f:I aC W W'):XL j4 w0 W' o db i sv mem j6 bv r w l e v C N K a b c d:=⟨h.xh.bH f,h.cl.aA f cY,λk q=>⟨(h.da k q).1,gW ((h.da k q).2.1) f.D,(h.da k q).2.2⟩,h.f⟩
def XL.p(h:XL j4 w0 W o db i sv mem j6 bv r w l e v C N K a b c d)(u:ae):XL j4 w0 (cP W (X o 1) u) o db i u mem j6 bv r w l e v C N K a b c d:=⟨h.xh.p u,h.cl.aA (fK W o 1 u)<|λg f m9=>(h.da g m9).2.2<|J f,λk q=>⟨(h.da k q).1,by rw[gK];exact(h.da k q).2.1,(h.da k q).2.2⟩,h.f⟩
def XL.Cw(h:XL j4 w0 W o db i sv mem j6 bv r w l e v C N K a b c d)(n:Y):XL j4 w0 (cP W (X i 1)<|ay n) o db i sv mem j6 bv r w l n v C N K a b c d:=⟨h.xh.Cw n,h.cl.aA (fK W i 1<|ay n)<|λg f m9=>(h.da g m9).2.2<|bu<|J f,λk q=>⟨(h.da k q).1,by rw[gK];exact(h.da k q).2.1,(h.da k q).2.2⟩,h.f⟩
def Na(h:XG j4 w0 W o db j3 i sv mem j6 bv r w l e v C N F):cR bN 21 #[aJ j3] W λt W'=>∃A,t=aN A/\uc W' A/\((A=ic/\∃X' K a b c d,XL X' w0 W' o db i sv mem j6 bv r w l e v C N K a b c d)\/(A≠ic/\∃F',XD w0 W' o db i sv mem j6 bv r w l e v (20*C+44) N F')):=by
 have k:=h;obtain⟨s,K,m,a,b,c,d,sn,rfl,rfl,h1,D,h3,f⟩:=h.lv;have g:∀{A:ae}{f aa:R}{k:iF},Row W f A aa k->∃ab aa c,A=am ab aa c:=λj=>by let⟨ab,c,t⟩:=cG j;exact⟨ab,_,c,t⟩
 have:=f.l;have:=f.v;go_call Km h3 h1 (g f.st.D) (g f.st.l0.bV) (g f.st.l1.bV) (g f.st.l2.bV) (g f.st.l3.bV) f.st.f f.st.l f.st.t.x (λt=>f.st.t.n.ne t.symm) f.lg (λ_ _=>D) U as t w'⟨A,K',lb,ln,rfl,j,i,_⟩;let⟨T,V⟩:=k.Ar (F':=K'.j s.f) (j.D.aA.aT<|λf t=>J<|J t) (λf q=>(j.D.j f q).imp (λm9=>J<|J m9) id) j.D.ok.lt;obtain⟨rfl,Q⟩|⟨lp,q,cc,hp,Q,rfl,hq,hc⟩:=j.d;let⟨p,v2⟩:=Yx (sS _) Q;(have:y K'.ah=y K.ah:=by simpa[vw]using cD y p);refine⟨_,z,J z,J ⟨z,gX s.l::j4,K',a,b,c,d,T,⟨j.D.ok,j.D.fx.D D,p▸f.A,U,p▸f.pH trivial,λu q=>?_,bP f.st.zb,?_,f.Fj⟩,V,?_,by have:=k.f.2;simp;omega⟩⟩;simp only[aP]at q;obtain((q|q)|q)|q:=q;exact⟨(f.st.l0.bZ u q).jW,(f.st.l0.bZ u q).cK⟩;exact⟨(f.st.l1.bZ u q).jW,(f.st.l1.bZ u q).cK⟩;exact⟨(f.st.l2.bZ u q).jW,(f.st.l2.bZ u q).cK⟩;exact⟨(f.st.l3.bZ u q).jW,(f.st.l3.bZ u q).cK⟩;rw[p];intro aa bs P;obtain q|q|⟨lg,n,q2⟩|q:=f.n aa bs P;exact J<|iA _ q;exact bu<|J q;refine J ?_;unfold SR.Xg at n;split at n;cases n;rw[q2];exact iV ..;cases n;exact bu<|bu<|bu q;intro ab n;obtain q|q:=dy.1 n;exact⟨s.l,q⟩;exact k.f.1 ab q;exact⟨_,z,bu<|bu ⟨q,z,cc,hq,hc.pK⟩,bu ⟨by simp[eW],_,T,Xq.dd (f.t k.f.1 k.f.2) U D j.D.fx j.D.ok ⟨lp,Q,KT (B:=0) hp⟩ U,V⟩⟩
def Tw(h:XL j4 w0 W o db i sv mem j6 bv r w l e v C N K a b c d)(hC:C+31<=3000000000)(hN:N+1<=900000000):cR bN 10 #[aJ db,ef #[ay mem,ay j6]] W λD W'=>XH w0 W' o db i sv mem j6 bv r w l e v N/\((∃j3 F,D=aN (de #[aJ j3,ic])/\Lv j4 W' db j3 (C+31) (N+1) F/\∀k,F k->G (H w0)<=k/\k<G (H W')/\¬Xh o i bv r k)\/∃q,D=aN (de #[ee dE,eW q])/\tD W' q/\∃F,Dd W' db (20*(C+31)+44) F/\∀k,F k->G (H w0)<=k/\k<G (H W')/\¬Xh o i bv r k):=by
 have f:=h.cl;have hX:=h.f;have g:=SS f.f f.A f.n f.pH hX.1 U f.Fj U;have an:Steps W:=Steps.aA h.xh.g0.1 h.xh.aA id;have al:Pow W:=h.xh.g0.2.1.aA h.xh.aA id;have ac:tg W:=h.xh.g0.2.2.2.aA h.xh.aA id id;have p:∀k,k<G (H w0)->¬K.j db k:=λk hk q=>bP<|(h.da k q).1;have hz:=h.xh.aA.D;have hL:OpL W db K (20*C+44):=⟨f.f,bP g.l,an,al,ac,p _ h.xh.g0.1.lt,p _ h.xh.g0.2.1.lt,⟨p _ h.xh.g0.2.2.2.lt.1,p _ h.xh.g0.2.2.2.lt.2⟩,f.A,g.dL⟩;refine(GN (j5:=True) (j4:=j4) (u7:=False) (m8:=λ_ _=>True) (EX:=True) (C0:=C) (C:=C+31) (N:=N) hL U h.xh.o f.l (bP g.l) (λnx lg bt P Q T V hl hi=>?_) (aq _) hC U U False.elim (λs K2 _ _=>TH s K2) (J f.D) False.elim).mono ?_;have j:fp (vw K.ah) fm=M (mj nx lg bt [P,Q,T,V])\/fp (vw K.ah) fm=dE/\P++Q++T++V=[]:=hl.L.imp id<|λq=>⟨q.1,q.2.1⟩;have ht:=f.Fj;(have u:y (P++Q++T++V)<=C:=by obtain D|⟨_,D⟩:=j;have:=g.dL _ D;rw[BA]at this;omega;rw[D];simp);have hk:=XF f.pH j f.jW hi U U;refine⟨?_,λaa A n=>?_⟩;rw[<-hk.zb (λt q=>⟨(f.jW t q).1,f.pH.2 t q⟩) (λt q=>⟨(hi t q).1,hl.fi t q⟩)];exact f.zb;obtain q|q|⟨_,q,_⟩|⟨t,q1,q2⟩:=f.n aa A n;exact J q;exact bu<|J q;cases q;let⟨ab,B,D⟩:=hk.cK t q1;exact bu<|bu<|bu ⟨ab,B,D▸q2⟩;rintro D w'(⟨rfl,s,u,m,a1,b1,c1,d1,t⟩|⟨q,rfl,_,hq,u,hd,ht,hf,ad,l1,l2,ho,A,ao,B⟩);let⟨rfl,ec,_,_,_,aa⟩:=t.bM;have:=t.D;have ab:I (K.j s.f) W w':=t.eQ.aA.aT<|λk q=>q.elim J<|λp=>bu U;refine⟨h.xh.D ab<|λk q=>⟨(h.da k q).1,(h.da k q).2.2⟩,J ⟨_,Bc s u<|G (H W)+2,z,⟨s,u,m,a1,b1,c1,d1,[],z,z,ec,t.eQ.fx.D f.D,t.g,t.A⟩,λk q=>?_⟩⟩;have n:∀k,G (H W)<=k->k<G (H w')->G (H w0)<=k/\k<G (H w')/\¬Xh o i bv r k:=λk g f=>⟨U,f,λp=>bP<|(h.xh.lt p).2⟩;obtain(q|q)|q:=q;have j:=t.eQ.ok.lt k q;obtain m9|m9:=t.j k q;exact⟨(h.da k m9).1,j,(h.da k m9).2.2⟩;exact n k U j;rw[q];exact n _ U U;rw[aa]at q;cases q;exact n _ U U;refine⟨h.xh.D ht<|λk q=>⟨(h.da k q).1,(h.da k q).2.2⟩,bu ⟨q,z,hq,u.j db,?_,λk q=>?_⟩⟩;let⟨K2,n,o2⟩:=nR ho;have g1:=g.lN n A;have g2:=g1.lN o2 B;have:=AL n;have:=AL o2;have:=A.dL;have:=B.dL;have:=f.l;exact⟨u,z,hd,ad.D f.D,g2.aT U U,U⟩;have j:=hd.lt k q;obtain m9|m9:=hf k q;exact⟨(h.da k m9).1,j,(h.da k m9).2.2⟩;exact⟨U,j,λp=>bP<|(h.xh.lt p).2⟩
end
def Bo(w0 W:Z)(a C N:R)(e:Ending):Prop:=∃(n:Y)(wr:eN),e=aN (de #[ay n,aO wr])/\((n=0/\MI w0 W a C N)\/(n≠0/\Qq w0 W a (20*C+44) N))
section
variable{w0 W W':Z}{a C C' N N':R}{e:Ending}
def Bo.aT(h:Bo w0 W a C N e)(m:C<=C')(g:C'<=3000000000)(k:N<=N')(j:N'<=1000000000):Bo w0 W a C' N' e:=by
 obtain⟨n,wr,rfl,⟨c,d⟩|⟨c,d⟩⟩:=h;exact⟨n,wr,z,J ⟨c,d.aT m g k j⟩⟩;exact⟨n,wr,z,bu ⟨c,d.aT U k⟩⟩
def lT{n:Y}{wr:eN}(h:MI w0 W a C N):Bo w0 W a C N (aN<|de #[ay n,aO wr]):=by
 by_cases b:n=0;exact⟨n,wr,z,J ⟨b,h⟩⟩;exact⟨n,wr,z,bu ⟨b,h.xd⟩⟩
def Ml(h:MI w0 W a C N)(al:Option Addr)(ad ac:R)(hN:N+1<=1000000000):cR bN 20 #[aJ a,ef #[ay 2,am al ad ac]] W λe W'=>Bo w0 W' a C (N+1) e:=by
 let⟨t,db,j3,g,ab,j6,bv,pv,L,ao,f,mb,an,h⟩:=h;have c1:=aX h.xh.g 1;have c4:=aX h.xh.g 4;have D:=az h.xh.g;have:=h.xh.cK;go_in
 go_wp21;let⟨v,l⟩:∃v,dw W (aK #[ay 2,am al ad ac] 72)=v:=⟨_,rfl⟩;have m:=h.bH (show I aC W v by rw[<-l];exact cI aC W);rw[l];clear l c1 c4 D;go_call QL m hN as e T⟨aa,rfl,n,⟨rfl,O,c⟩|⟨B,O,c⟩⟩;rotate_left;(.let⟨K,_,s,j⟩:=kM n c.xh.nW;have r:=j _<|I.bI aC _;have V:(K==0)=bD:=dV<|λe=>B<|s.1 e;clear m j n s;go_wp21;go_call r as e o⟨rfl,d⟩;have u:=ak<|c.bH<|I.p d;clear d r c h;go_wp2;(go_ret2);exact⟨K,_,z,bu ⟨dV V,_,_,_,_,_,_,_,_,_,_,_,_,u.aT (aq _)<|qW _⟩⟩);clear m n;go_wp21;go_call oz T as e o⟨rfl,d⟩;have b:=c.bH<|I.p d;have:=az b.xh.g;let⟨F,E,A⟩:=aM b.xh.f.aZ;subst A;clear d c h;go_wp21;rename_i QQ S x;have k:bA o.drew (X a 4)=M (aJ g)/\bA o.drew (X g 0)=M (am F (y L) E)/\bA o.drew (X g 1)=M (ay f)/\iI o.drew (X g 1)=bD:=⟨(aX b.xh.g 4),(aX b.xh.f.g 0),(aX b.xh.f.g 1),(cV (i:=1) b.xh.f.g)⟩;refine cX (λt=>bA t (X a 4)=M (aJ g)/\bA t (X g 0)=M (am F (y L) E)/\bA t (X g 1)=M (ay f)/\iI t (X g 1)=bD) 14 aH ?_;apply dH 0;iterate 12 (refine fX k ?_;simp only[ii,eh,fU,ke])
 apply eS;refine aW 12 ?_;intro P p;go_simp;apply p _ _<|λ_=>k;refine aW 13 ?_;intro Q q;go_simp;apply q _ _<|λ_=>k;refine aW 14 ?_;intro K1 w;go_simp;apply w _ _ wX;refine dG aH ?_ _;show S _ _;apply x;go_wp2;go_ret2
 exact lT ⟨_,_,_,_,_,_,_,_,_,_,_,_,_,(b.Cw _).bH<|cf aC _⟩
def SW(h:MI w0 W a C N)(bo:Option Addr)(bn bm:R)(hC:C+31<=3000000000)(hN:N+2<=900000000):cR bN 20 #[aJ a,ef #[ay 3,am bo bn bm]] W λe W'=>Bo w0 W' a (C+31) (N+1) e:=by
 let⟨Q,db,j3,v,u,j6,bv,pv,w,bk,L,mb,bt,h⟩:=h;have bf:=h.xh.cK;have c1:=aX h.xh.g 1;have bb:=az h.xh.g;go_in
 go_wp21;let⟨W1,aa⟩:∃W1,dw W (aK #[ay 3,am bo bn bm] 72)=W1:=⟨_,rfl⟩;have ad:=h.bH (show I aC W W1 by rw[<-aa];exact cI aC W);rw[aa];clear aa c1 bb;go_call Na ad as e W2⟨bh,rfl,t,⟨rfl,X',bp,bq,br,cc,bs,o⟩|⟨ba,F2,o⟩⟩;rotate_left;(.let⟨tn,_,K,k⟩:=kM t o.xh.nW;have F:=k _<|I.bI aC _;have b0:(tn==0)=bD:=dV<|λe=>ba<|K.1 e;clear ad k t K h;go_wp21;go_call F as e W3⟨rfl,A⟩;have f:=o.bH<|I.p A;have c1:=aX f.xh.g 1;have g1:=cV (i:=1) f.xh.g;have O:=ak<|f.p<|ee dE;clear f A F o;go_wp2;(go_ret2);exact⟨tn,_,z,bu ⟨dV b0,_,_,_,_,_,_,_,_,_,_,_,_,O.aT U<|qW _⟩⟩);clear ad t h;go_wp21;go_call oz W2 as e W3⟨rfl,A⟩;have f:=o.bH<|I.p A;have c1:=aX f.xh.g 1;have c4:=aX f.xh.g 4;have g1:=cV (i:=1) f.xh.g;have m:=f.p<|ee dE;have d0:=aX m.xh.f.g 0;have d1:=aX m.xh.f.g 1;have f1:=cV (i:=1) m.xh.f.g;have c4:=aX m.xh.g 4;let⟨bx,bc,aV⟩:=aM f.xh.f.aZ;subst aV;clear f A o;go_wp21;rename_i QQ KK x;let⟨V,ab⟩:∃V,cP W3 (X a 1) (ee dE)=V:=⟨_,rfl⟩;rw[ab]at m d0 d1 f1 c4;rw[ab];clear ab c1 g1;have l:bA V.drew (X a 4)=M (aJ v)/\bA V.drew (X v 0)=M (am bx (y w) bc)/\bA V.drew (X v 1)=M (ay L)/\iI V.drew (X v 1)=bD:=⟨c4,d0,d1,f1⟩;refine cX (λQ=>bA Q (X a 4)=M (aJ v)/\bA Q (X v 0)=M (am bx (y w) bc)/\bA Q (X v 1)=M (ay L)/\iI Q (X v 1)=bD) 14 aH ?_;refine dH 0 ?_;iterate 12 (refine fX l ?_;simp only[ii,eh,fU,ke])
 apply eS;refine aW 12 ?_;intro aD g;go_simp;refine g _ _ (λ_=>l) ?_;refine aW 13 ?_;intro aU j;go_simp;refine j _ _ (λ_=>l) ?_;refine aW 14 ?_;intro K1 an;go_simp;refine an _ _ wX ?_;refine dG aH ?_ _;show KK _ _;apply x;let⟨W5,ac⟩:∃W5,(cP V (X v 1)<|ay<|y w).drew=W5:=⟨_,rfl⟩;have p:XL X' w0 W5 a db v (ee dE) u j6 (am bx (y w) bc) pv w bk (y w) mb C N bp bq br cc bs:=ac▸(m.Cw _).bH (cf aC _);rw[ac];have e0:=aX p.xh.g 0;have e2:=aX p.xh.g 2;have e3:=aX p.xh.g 3;clear ac m c4 d0 d1 f1 l x an g j;go_wp21;rename_i QQ KK x;have av:=Tw (p.bH<|cf aC W5) hC U;have l:bA W5.drew (X a 0)=M (aJ db)/\bA W5.drew (X a 2)=M (ay u)/\bA W5.drew (X a 3)=M (ay j6):=⟨e0,e2,e3⟩;refine cX (λQ=>bA Q (X a 0)=M (aJ db)/\bA Q (X a 2)=M (ay u)/\bA Q (X a 3)=M (ay j6)) 13 aH ?_;refine dH 0 ?_;iterate 8 (refine fX l ?_;simp only[ii,eh,fU,ke])
 apply eS;refine aW 8 ?_;intro K8 ao;go_simp;go_call av as e T⟨d,ap⟩;have P:bA T (X a 0)=M (aJ db)/\bA T (X a 2)=M (ay u)/\bA T (X a 3)=M (ay j6):=⟨aX d.g 0,aX d.g 2,aX d.g 3⟩;have c:=p.f;have HR:=ak (show∃c b,e=aN (de #[c,b])by obtain⟨S,F6,rfl,_⟩|⟨q,rfl,_⟩:=ap<;>exact⟨_,_,z⟩);obtain⟨bl,bi,rfl⟩:=ag HR;refine ao _ _ (λ_=>P) ?_;refine dH 9 ?_;iterate 3 (refine fX P ?_;simp only[ii,eh,fU,ke])
 apply eS;refine aW 12 ?_;intro aD g;go_simp;refine g _ _ (λ_=>P) ?_;refine aW 13 ?_;intro aU j;go_simp;refine j _ _ wX ?_;refine dG aH ?_ _;show KK _ _;apply x;have HK:=ak<|And.intro c d;clear ao g j x l P av p e0 e2 e3 HR c d;obtain⟨S,F6,s,E,b⟩|⟨q,s,ax,F6,D,b⟩:=ap;(.injection s with s;injection s with s;simp only[pD,iM,rH]at s;obtain⟨rfl,rfl⟩:=s;have HL:=ak<|And.intro E b;clear E b;go_wp21;go_call oz T as e W7⟨rfl,B⟩;have n:I aC T W7:=I.p B;let⟨c,d⟩:=ag HK;let⟨E,b⟩:=ag HL;have al:XG X' w0 T a db S v (ee dE) u j6 (am bx (y w) bc) pv w bk (y w) mb (C+31) (N+1) F6:=⟨d.aT<|qW _,E,b,c⟩;have O:=al.bH n;have c1:=aX O.xh.g 1;have g1:=cV (i:=1) O.xh.g;have r:=O.p (J z)<|aJ S;have bd:∀bg:Z,(binOp .eql 36 (aJ S)<|ee dE).run bN bg=.ok (aO bD) bg:=λ_=>rfl;clear al O E b d n B HK HL;go_wp2;(go_ret2);exact lT ⟨_,_,_,_,_,_,_,_,_,_,_,_,_,r⟩);injection s with s;injection s with s;simp only[pD,iM,rH]at s;obtain⟨rfl,rfl⟩:=s;let⟨c,d⟩:=ag HK;(have t:uc T (eW q):=by let⟨c6,hc,h1⟩:=ax;exact bu<|bu ⟨q,z,c6,hc,h1⟩);let⟨tn,_,K,k⟩:=kM t d.nW;have F:=k _<|I.bI aC _;(have b0:(tn==0)=bD:=by simpa usingλe=>by have:=K.1 e;simp[eW]at this);have HL:=ak<|And.intro D b;clear k t K D b d c ax;go_wp21;go_call F as e W7⟨rfl,B⟩;have n:I aC T W7:=I.p B;let⟨c,d⟩:=ag HK;let⟨D,b⟩:=ag HL;have r:XD w0 W7 a db v (ee dE) u j6 (am bx (y w) bc) pv w bk (y w) mb (20*(C+31)+44) N F6:=⟨d.bH n,D.aA n cY,λk q=>⟨(b k q).1,gW ((b k q).2.1) n.D,(b k q).2.2⟩⟩;have:=aX r.xh.g 1;have:=cV (i:=1) r.xh.g;have:∀bg:Z,(binOp .eql 36 (ee dE)<|ee dE).run bN bg=.ok (aO cz) bg:=λ_=>rfl;have O:=ak<|r.p<|ee dE;clear r D b d n B HK HL c F;go_wp2;(go_ret2);exact⟨tn,_,z,bu ⟨dV b0,_,_,_,_,_,_,_,_,_,_,_,_,O.aT (aq _)<|qW _⟩⟩
end
def YQ{w:Z}{x:Option Addr}{c:MZ}{d:vX}{l:R}(h:FN w (am x (y<|c::d) l) (c::d)):∃g b,x=M (X g b)/\y (c::d)<=l/\bA w (X g b)=M (aw c.D)/\g<G (H w):=by
 obtain⟨⟨_,⟨m,e⟩|⟨g,b,i,m,f,k⟩⟩,j⟩|⟨e,_⟩:=h;simp at e;cases m;exact⟨g,b,z,f,k 0 _ z,j g z⟩;cases e
section
variable{w0 W W':Z}{a C C' N N':R}
def ZY(h:MI w0 W a C N)(aa:Option Addr)(g:vX)(ad:R)(T:FN w0 (am aa (y g) ad) g)(u:∀t∈g,t.D.size<=140737488351232/\t.l.size<=140737488351232)(hN:N<=1000000000):cR bN 20 #[aJ a,ef #[ay 4,am aa (y g) ad]] W λP W'=>Bo w0 W' a C N P:=by
 let⟨j4,db,K,hb,L,j6,bv,pv,vs,ao,n,mb,ap,h⟩:=h;have c1:=aX h.xh.g 1;have F:=az h.xh.g;have V:=h.xh.cK.2;have o:=T.aA h.xh.aA<|λ_ _=>id;have b:∀d c,dw W (aK #[ay 4,am aa (y g) ad] 72)=d->c.size<=140737488351232->cR bN 17 #[aJ K,aw c] d λP W'=>∃aa t ac,P=aN (de #[aw aa,aO t,ac])/\uc W' ac/\∃f,XG j4 w0 W' a db K hb (aJ K) L j6 bv pv vs ao n mb C N f:=λd c e u=>T9 (h.bH (show I aC W d by rw[<-e];exact cI aC W)) c u;have d:=ak b;clear b h;cases g;(case' nil=>let⟨c,b⟩:∃c:af,c=⟨#[97]⟩:=⟨_,rfl⟩;(have l:c.size<=140737488351232:=by rw[b];decide);(go_in);go_wp21;rw[<-b];clear b);(case' cons w g=>obtain⟨av,O,rfl,A,k,al⟩:=YQ o;have l:=(u w ar).1;let⟨c,b⟩:∃c,w.D=c:=⟨_,rfl⟩;rw[b]at l k;clear b;let⟨ab,B⟩:∃ab,y (w::g)=ab:=⟨_,rfl⟩;(have e2:0<ab:=by rw[<-B];simp);have e1:(0:Y)<(ab:Y):=U;rw[B]at d A|-;clear T o B u;(go_in);go_wp21);(all_goals go_call d _ c rfl l as P W2⟨x,gs,ev,rfl,q,F2,j⟩;let⟨v,D,E,i⟩:=kM q j.xh.nW;have s:=i _<|I.bI aC _;clear D E;clear i q d c1 F;go_wp21;go_call s as P W3⟨rfl,p⟩;have e:=j.bH<|I.p p;have:=aX e.xh.g 4;have:=aX e.xh.f.g 3;have m:=OQ c e.xh.f.pr U;let⟨lv,g8,r⟩:∃ac s,vE ao c=(ac,s):=⟨_,_,rfl⟩;rw[r]at m;have f:=ak<|show MI w0 W3 a C N from⟨_,_,_,_,_,_,_,_,_,_,_,_,_,e⟩;clear e s p j r;by_cases S:v=3;(.subst S;go_wp2;(go_ret2);exact lT f);have:(v==3)=bD:=dV S;go_wp21;go_call m as P W4⟨rfl,an⟩;subst W4;clear m;by_cases Q:v=0;(.subst Q;by_cases hv:x=lv;(.subst hv;have:(!x.toList==x.toList)=bD:=ar;cases gs<;>cases g8<;>(go_wp2;go_ret2;exact lT f));(.go_wp2;(all_goals(go_ret2);exact lT f)));have:(v==0)=bD:=dV Q;go_wp2;(go_ret2);exact lT f)
def WF(h:MI w0 W a C N)(al:Option Addr)(ad ab:R)(hN:N<=1000000000):cR bN 20 #[aJ a,ef #[ay 5,am al ad ab]] W λE W'=>Bo w0 W' a C N E:=by
 let⟨j4,P,V,T,A,j6,O,pv,vs,ac,j,mb,an,h⟩:=h;have c1:=aX h.xh.g 1;have x:=az h.xh.g;have:=h.xh.cK.2;go_in
 go_wp21;let⟨s,e⟩:∃s,dw W (aK #[ay 5,am al ad ab] 72)=s:=⟨_,rfl⟩;have l:=h.bH (show I aC W s by rw[<-e];exact cI aC W);rw[e];clear e c1 x;go_call Tx l _ _ _ as E F⟨S,D,ev,aa,rfl,o,hp,n,F2,f⟩;let⟨B,v,w,d⟩:=kM n f.xh.nW;have q:=d _<|I.bI aC _;clear v w;clear l d n h;go_wp21;go_call q as E t⟨rfl,m⟩;have i:I aC F t:=I.p m;have b:=f.bH i;have p:mF t _ _:=i.bV (dQ o)<|λk b=>⟨id,(aS o k b).2⟩;have:=aX b.xh.g 4;have:=aX b.xh.f.g 3;have g:=ni p b.xh.f.pr U U;generalize decide (aa=ac)=L at g;have k:=ak<|show MI w0 t a C N from⟨_,_,_,_,_,_,_,_,_,_,_,_,_,b⟩;clear b p i m q f;go_wp21;go_call g as E K⟨rfl,k4,r⟩;have c:MI w0 K a C N:=by let⟨j4,P,V,T,A,j6,O,pv,vs,ac,j,mb,an,h⟩:=ag k;exact⟨_,_,_,_,_,_,_,_,_,_,_,_,_,h.bH<|r▸gP _ _ _⟩
 clear r g k;by_cases u:B=0;(.subst u;cases L;(.go_wp2;(go_ret2);exact lT c);go_wp2;(go_ret2);exact lT c)
 .have:(B==0)=bD:=dV u;have:(B !=0)=cz:=dV u;cases S with
  |none=>
   have he:∀w:Z,(binOp .neq 55 (am dE (y aa) D) aF).run bN w=.ok (aO bD) w:=λ_=>rfl;go_wp2;go_ret2
   exact lT c
  |some Q=>
   have:∀w:Z,(binOp .neq 55 (am (M Q) (y aa) D) aF).run bN w=.ok (aO cz) w:=λ_=>rfl;go_wp2;go_ret2
   exact lT c
def SU(h:MI w0 W a C N)(d:Y)(D:Option Addr)(b:vX)(x:R)(hk:¬d=2/\¬d=3/\¬d=4/\¬d=5)(hL:FN w0 (am D (y b) x) b)(hz:∀g9∈b,g9.D.size<=140737488351232/\g9.l.size<=140737488351232)(hr:y b<=100000000)(hC:C+8<=3000000000)(hN:N+1<=100000000):cR bN 20 #[aJ a,ef #[ay d,am D (y b) x]] W λw W'=>Bo w0 W' a (C+8) (N+1) w:=by
 let⟨r,db,K,t,bo,j6,bv,pv,vs,bL,S,mb,bT,h⟩:=h;have:=h.xh.cK;let⟨k2,k3,k4,k5⟩:=hk;have:(d==2)=bD:=dV k2;have:(d==3)=bD:=dV k3;have:(d==4)=bD:=dV k4;have:(d==5)=bD:=dV k5;let⟨bk,bt⟩:∃bk,(d==1)=bk:=⟨_,rfl⟩;have bE:=az h.xh.g;have HX:=ak h;have aD:∀k,dw W (aK #[ay d,am D (y b) x] 72)=k->cR bN 38 #[am D (y b) x] k λw A=>∃v',w=aN v'/\MR A (G<|H k) v' b/\I aC k A/\XG r w0 A a db K t (aJ K) bo j6 bv pv vs bL S mb C N bT/\A.heap[G<|H W]?=M (aK #[ay d,am D (y b) x] 72 (0,0)):=λk F=>by have aa:I aC W k:=F▸cI aC W;have Q:=HX.bH aa;have hn:k.heap[G<|H W]?=M (aK #[ay d,am D (y b) x] 72 (0,0)):=F▸aQ _ ar;go_call Ty U (hL.aA Q.xh.aA<|λ_ _=>id)as w A⟨v',rfl,ho,t⟩;have ht:I aC k A:=I.p t;exact⟨v',z,ho,ht,Q.bH ht,(ht.A _ (az hn) id).trans hn⟩
 have bi:¬bT (G<|H W)/\¬Xh a t bv pv (G<|H W):=⟨λq=>bP<|(h.da _ q).2.1,λq=>bP<|(h.xh.lt q).2⟩;clear h;go_in
 go_wp21;go_call aD _ rfl as w T⟨v2,rfl,P,bm,e,hq⟩;let⟨x2,c2,bn⟩:=aM P;subst bn;have al:=Ek (dQ P) U;have c1:=aX e.xh.g 1;have q0:=aX hq 0;have q1:=aX hq 1;have aU:∀V,I (λbr=>br=K) T.drew V->FN V (am D (y b) x) b:=λV k=>by refine hL.aA (((e.bH<|cf aC T).xh.aA).aj k<|λbr w=>bu ?_)<|λ_ _=>id;rw[show br=K from w];exact(e.da K e.lv.Cs.j).1
 have aV:=Xs (e.bH<|cf aC T) (cv:=am D (y b) x) (cs:=b) bk aU hz U hC U;have:=az e.xh.g;have bh:=az hq;have:=e.da;have:=λbr=>e.xh.lt (k:=br);clear e P bm aD aU HX;go_wp21;go_call al as w bf⟨rfl,hw⟩;subst bf;clear al;go_wp21;rename_i QQ KK j;have p:bA T.drew (X a 1)=M (aJ K)/\bA T.drew (X (G<|H W) 0)=M (ay d)/\bA T.drew (X (G<|H W) 1)=M (am D (y b) x):=⟨c1,q0,q1⟩;refine cX (λr=>bA r (X a 1)=M (aJ K)/\bA r (X (G<|H W) 0)=M (ay d)/\bA r (X (G<|H W) 1)=M (am D (y b) x)) 10 aH ?_;refine dH 0 ?_;iterate 9 (refine fX p ?_;simp only[ii,eh,fU,ke])
 apply eS;refine aW 9 ?_;intro K9 g;go_simp;go_call aV as w V⟨ev,rfl,O,av,ad⟩;have l:V.heap[G<|H W]?=M (aK #[ay d,am D (y b) x] 72 (0,0)):=(av.A _ (by exact bh) bi.1).trans hq;have ac:bA V (X a 1)=M (aJ K)/\bA V (X (G<|H W) 0)=M (ay d)/\bA V (X (G<|H W) 1)=M (am D (y b) x):=⟨by obtain⟨_,F',h⟩|⟨_,_,F',h⟩:=ad<;>exact aX h.xh.g 1,aX l 0,aX l 1⟩;clear aV av;refine g _ _ (λ_=>ac) ?_;refine aW 10 ?_;intro bs E;go_simp;refine E _ _ wX ?_;refine dG aH ?_ _;show KK _ _;apply j;clear g E j p ac hq q0 q1 c1;obtain⟨rfl,F3,n⟩|⟨h0,an,F3,n⟩:=ad;rotate_left;(.let⟨tn,bl,ba,F⟩:=kM O n.xh.nW;have v:=F _<|I.bI aC _;have b0:(tn==0)=bD:=dV<|λw=>an<|ba.1 w;have aa:=ak<|n.aT (N':=N+1) (aq _)<|qW _;rw[h0];clear n F ba O an bl;go_wp21;go_call v as w s⟨rfl,u⟩;have m:I aC V s:=I.p u;have c:=aa.bH m;have f:=(m.A _ (az l) id).trans l;have:=aX c.xh.f.g 2;have:=cV (i:=2) c.xh.f.g;have c4:=aX c.xh.g 4;have k:=c.Gn cz;let⟨o,A⟩:∃o,cP s (X t 2) (aO cz)=o:=⟨_,rfl⟩;(have ao:t≠G (H W):=λw=>by have h1:=c.xh.f.g;rw[w,f]at h1;cases h1);(have Q:o.heap[G<|H W]?=M (aK #[ay d,am D (y b) x] 72 (0,0)):=by rw[<-A];exact((fK s t 2<|aO cz).A _ (az f)<|λw=>ao w.symm).trans f);rw[A]at k;have q0:=aX Q 0;have q1:=aX Q 1;have k4:=aX k.xh.g 4;have B:=Ea (k.bH<|cf aC o).xh.f (am D (y b) x) b bD (hL.aA (k.bH<|cf aC o).xh.aA<|λ_ _=>id) U U (k.bH<|cf aC o).xh.aA.D;have:=az k.xh.f.g;let⟨L,bb,bc⟩:=eU (k.bH<|cf aC o) B A;clear k B f c m u v aa l Q A;go_wp21;rw[ag bc];rename_i KK j;have p:bA o.drew (X a 4)=M (aJ t)/\bA o.drew (X (G<|H W) 0)=M (ay d)/\bA o.drew (X (G<|H W) 1)=M (am D (y b) x):=⟨k4,q0,q1⟩;refine kG (λr=>bA r (X a 4)=M (aJ t)/\bA r (X (G<|H W) 0)=M (ay d)/\bA r (X (G<|H W) 1)=M (am D (y b) x)) 6 aH ?_;refine lX 0 ?_;(iterate 6 (refine zv p ?_;simp only[ii,eh,fU,ke]));apply qj;refine gO 6 ?_;intro K9 g;go_simp;go_call bb as w W6⟨rfl,bg,bp,v',bq,ab,ax,ap⟩;have h8:=(rD h0).1;have bx:=yK bL b;have bd:=ak<|(ag L).A ax ab ap dW;refine g _ _ (λq=>U) ?_;refine kS aH ?_ _;show KK _ _;apply j;clear ab ax ap g j;go_wp2;(go_ret2);exact⟨tn,_,z,bu ⟨dV b0,_,_,_,_,_,_,_,_,_,_,_,_,bd⟩⟩);have v:=Jh (gT b) n.xh.nW;clear O;go_wp21;go_call v as w s⟨rfl,u⟩;have m:I aC V s:=I.p u;have c:=n.bH m;have f:=(m.A _ (az l) id).trans l;clear v u n l;by_cases h0:gT b=0;(.rw[h0];have q0:=aX f 0;have q1:=aX f 1;have c4:=aX c.xh.g 4;have B:=Ea (c.bH<|cf aC s).xh.f (am D (y b) x) b bk (hL.aA (c.bH<|cf aC s).xh.aA<|λ_ _=>id) U U (c.bH<|cf aC s).xh.aA.D;have Q:=ak<|c.bH<|cf aC s;clear c f m;go_wp21;rename_i KK j;have p:bA s.drew (X a 4)=M (aJ t)/\bA s.drew (X (G<|H W) 0)=M (ay d)/\bA s.drew (X (G<|H W) 1)=M (am D (y b) x):=⟨c4,q0,q1⟩;refine kG (λr=>bA r (X a 4)=M (aJ t)/\bA r (X (G<|H W) 0)=M (ay d)/\bA r (X (G<|H W) 1)=M (am D (y b) x)) 9 aH ?_;refine lX 0 ?_;(iterate 9 (refine zv p ?_;simp only[ii,eh,fU,ke]));apply qj;refine gO 9 ?_;intro K9 g;go_simp;go_call B as w o⟨rfl,bg,bp,v',bq,k,F,A⟩;have:=(rD h0).1;have:=yK bL b;have L:=ak<|(ag Q).A F k A dW;apply g _ _<|λq=>U;refine kS aH ?_ _;show KK _ _;apply j;clear k F A g j;go_wp2;(go_ret2);exact lT ⟨_,_,_,_,_,_,_,_,_,_,_,_,_,L⟩);have:(gT b==0)=bD:=dV h0;clear f m;go_wp21;go_call mJ _ _ as w o⟨rfl,k⟩;subst o;have:(!gT b==gT b)=bD:=ar;go_wp2;(go_ret2);exact lT ⟨_,_,_,_,_,_,_,_,_,_,_,_,_,c⟩
def ZZ(h:MI w0 W a C N)(c:Y)(x:Option Addr)(b:vX)(e:R)(m:FN w0 (am x (y b) e) b)(n:∀g∈b,g.D.size<=140737488351232/\g.l.size<=140737488351232)(o:y b<=100000000)(d:C+31<=3000000000)(p:N+2<=100000000):cR bN 20 #[aJ a,ef #[ay c,am x (y b) e]] W λf W'=>Bo w0 W' a (C+31) (N+1) f:=by
 by_cases i:c=2;subst i;exact(Ml h x (y b) e U).mono<|λf W' q=>q.aT U d (aq _) U;by_cases j:c=3;subst j;exact SW h x (y b) e d U;by_cases k:c=4;subst k;exact(ZY h x b e m n U).mono<|λf W' q=>q.aT U d (qW _) U;by_cases l:c=5;subst l;exact(WF h x (y b) e U).mono<|λf W' q=>q.aT U d (qW _) U;exact(SU h c x b e ⟨i,j,k,l⟩ m n o U U).mono<|λf W' q=>q.aT U d (aq _) U
end
def Px{b:Fs}(h:N.Perm b):BX N=BX b:=(h.map _).sum_nat
def PW(h:cJ a b x)(F:((vw x.ah).map (·.1)).Nodup):cR bN 9 #[.pointer<|M ⟨b,0,dE⟩] a λcl w'=>∃d K',cl=.returned (.pointer<|M ⟨d,0,dE⟩)/\cJ w' d K'/\(vw K'.ah).Perm (vw x.ah)/\K'.l=[]/\(∀k,K'.j d k->G (H a)<=k)/\I (λ_=>False) a w'/\K'.fx=⟨x.fx.d,0,0,0,0,x.fx.l⟩/\(K'.sm=K'.ah.map dj.nm/\K'.qP=[])/\∀f∈K'.ah,f.D=y f.bB:=by
 have ap:=h.d;have aa:=h.v;have ey:bA a ⟨b,0,dE⟩=M (.map<|M x.nb):=by rw[cE h.S];rfl
 have eA:bA a ⟨b,3,dE⟩=M (.int .i64 x.fx.d):=by rw[cE h.S];rfl
 let⟨HD,HB,HN⟩:=eU h (λf a=>h.dL a:∀f∈x.ah,y f.bB<=1099511627776) F;go_in
 go_wp21;go_call(zP a x.fx.d x.fx.l aa)as cl w1⟨rfl,t,cu⟩;have ax:I (λ_=>False) a w1:=I.p cu;have al:=(ag HD).aA ax<|λ_ _=>id;have el:bA w1 ⟨b,0,dE⟩=M (.map<|M x.nb):=by rw[cE al.S];rfl
 let⟨d,bx⟩:∃d,G (H a)+2=d:=⟨_,rfl⟩;rw[bx]at t|-;let⟨C,s⟩:∃C,vA (G<|H a) x.fx.d x.fx.l=C:=⟨_,rfl⟩;rw[s]at t;have ad:=ak (show C.fx=⟨x.fx.d,0,0,0,0,x.fx.l⟩/\(C.sm=[]/\C.qP=[])by rw[<-s];exact⟨z,z,z⟩);have bT:∀k,C.j d k->G (H a)<=k:=by intro k n;rw[<-s,<-bx]at n;obtain j|j|j|j|⟨fl,hx,j⟩|⟨ex,hg,j⟩:=n;omega;have:k=G (H a):=j;omega;have:k=G (H a)+1:=j;omega;cases j;cases hx;cases hg
 let⟨bm,er,O,cp,bg,cn,ac⟩:=zY al.l al t ax bT (by rw[<-s];rfl:C.l=[]) (by rw[<-s];rfl:C.ah=[]);have fi:=ax.D
 go_wp2_with(first
  |(at_range;apply oK _ z _ 86 z 9 90 underlying86 x.nb _ z (ag bm);intro w0 cb cT fe;have bh:=ak cb;have P:=ak cT))
 go_frame
 let⟨N,dx⟩:∃N,G (H w1)=N:=⟨_,rfl⟩;rw[dx]at bh|-;have em:G (H a)<=N:=U;let⟨ba,co,bf⟩:=eU ((ag O).aA (I.eF (S:=λ_=>False) (ag P) ar)<|λ_ _=>id) ((ag cp).t<|I.eF (S:=λ_=>False) (ag P) ar) (show∀k,C.j d k->G (H a)<=k/\k≠N fromλk n=>⟨(ag bg) k n,bP<|(ag O).lt k n⟩);go_loopw [4] (λ_ wr=>∃(ei:cy dj)(K':DK),(vw K'.ah++vw ei).Perm (vw x.ah)/\K'.l=[]/\cJ wr d K'/\(∀k,K'.j d k->G (H a)<=k/\k≠N)/\qg wr x.nb N (x.ah.map dj.nm) (ei.map dj.nm)/\(∀f∈ei,f∈x.ah)/\I (λ_=>False) a wr/\K'.fx=⟨x.fx.d,0,0,0,0,x.fx.l⟩/\(K'.sm=K'.ah.map dj.nm/\K'.qP=[])/\∀f∈K'.ah,f.D=y f.bB) (λ_ wr=>wr.rangeLeft x.nb N)
 refine⟨x.ah,C,?_,ag cn,ag ba,ag bf,ag bh,λ_ j=>j,ag co,(ag ad).1,⟨by rw[(ag ad).2.1,ag ac];rfl,(ag ad).2.2⟩,by rw[ag ac];simp⟩;rw[ag ac];exact pA _
 .let⟨ei,K',hp,hm,cx,cM,dd,hL,ht,hx⟩:=hrel;have HX:=ak hx;let⟨bl,HT,HP,bb,g,HL,HM⟩:=zY dd ht hp cx cM hL hm;go_wp2_with(first
   |(at_next;refine ot _ z _ z x.nb N _ _ z (ag bl) ?_ ?_))
  .intro c;obtain rfl:ei=[]:=dV c;go_wp2;go_ret;refine⟨d,z,K',ag bb,?_,ag HM,λk n=>((ag g) k n).1,ag HT,ag HX⟩;have:=ag HP;simpa[vw]using this
  .intro fk pk pv en l eb cc db ff eB;obtain⟨eo,f,eq,rfl,rfl,cj,rfl⟩:=zO eb;simp only[dj.nm,lq,jt]at cj;obtain⟨rfl,rfl⟩:=cj;have ck:I (λk=>k=N) wr l:=gI db;have ab:I (λ_=>False) a l:=(ag HT).aj ck<|λfl hx=>bu U;have u:=(ag bb).aA ck<|λk n cl=>((ag g) k n).2 cl;have bL:f∈x.ah:=(ag HL) f ar;have e:=((ag HD).ah f bL).aA ab id<|λ_ _ j=>j;have bE:=Ej (v:=f.A) (bs:=f.bB) (w:=l.drew) (e.2.1.bB.df z) ((ag HB) f bL)<|λk n=>((aS e.2.1 k n).2:k<G (H l));have dr:=az e.1;have k0:bA l.drew ⟨d,0,dE⟩=M (.map<|M K'.nb):=by rw[cL,cE u.S];rfl
   have kd:bA l.drew ⟨f.l,0,dE⟩=M f.A:=by rw[cL,cE e.1];rfl
   let⟨ek,ej,cB⟩:=aM e.2.1;have Q:=az u.S;let⟨c,r,q,bd⟩:=js u ab cc e;rw[cB]at kd bE;go_wp21;rename_i QQ KK cs;refine cX (λA=>bA A ⟨d,0,dE⟩=M (.map<|M K'.nb)/\bA A ⟨f.l,0,dE⟩=M (.slice ek (y f.bB) ej)) 17 aH ?_;have bt:=And.intro k0 kd;refine dH 0 ?_;iterate 9 (refine zr (v:=?_) bt z aH (λ_ _ _ h=>h) (J ⟨by rfl,?_⟩) ?_;rotate_left;(focus(rintro A⟨z0,z1⟩;go_simp;try with_reducible rfl));try simp only[ii,ke,dC,eZ,eO])
   apply eS;refine dH 10 ?_;iterate 5 (refine zr (v:=?_) bt z aH (λ_ _ _ h=>h) (J ⟨by rfl,?_⟩) ?_;rotate_left;(focus(rintro A⟨z0,z1⟩;go_simp;try with_reducible rfl));try simp only[ii,ke,dC,eZ,eO])
   apply eS;refine aW 9 ?_;intro K9 cr;go_simp;go_call bE as cl m⟨v3,rfl,ch,cv⟩;let⟨x3,c3,ec⟩:=aM ch;subst ec;have L:I (λ_=>False) l m:=(cf (λ_=>False) l).t<|I.p (S:=λ_=>False) cv;have D:bA m ⟨d,0,dE⟩=M (.map<|M K'.nb)/\bA m ⟨f.l,0,dE⟩=M (.slice ek (y f.bB) ej):=⟨L.u (by rw[cL]at k0;exact k0) id Q,L.u (by rw[cL]at kd;exact kd) id dr⟩;refine cr _ _ (λ_=>D) ?_;try simp only[ii,dC,eZ,eO]
   refine mX (i:=15) (v:=?_) z z aH aH aH aH (λ_ _ _ h=>h) (J ⟨by rfl,?_⟩) D ?_;rotate_left
   .rintro A⟨z0,z1⟩;go_simp;try with_reducible rfl
   try simp only[ii,dC,eZ,eO]
   refine aW 16 ?_;intro et bq;go_simp;have dT:=L.D;refine bq _ _ (λ_=>⟨by rw[gQ U];exact D.1,by rw[gQ U];exact D.2⟩) ?_;try simp only[ii,dC,eZ,eO]
   let⟨W4,E⟩:∃W4,dw m (.cells #[.slice x3 (y f.bB) c3,.int .i64<|y f.bB] 93)=W4:=⟨_,rfl⟩;rw[E];have aD:I (λ_=>False) l W4:=E▸L.aE _;have ce:W4.heap[G<|H m]?=M (.cells #[.slice x3 (y f.bB) c3,.int .i64<|y f.bB] 93 (0,0)):=E▸aQ _ z;have K:fE W4 (G<|H l.drew) 5 1 (.slice x3 (y f.bB) c3) (y f.bB) (f.bB.map<|Value.int .u8):=E▸bC ch _;refine aW 17 ?_;intro ev br;try simp only[dl,cF,cO]
   apply CE (.tmp 24) (.tmp 25) (.tmp 37) 86 z 9 90 underlying86 underlying9 K'.nb _ z ((ag c).l.aA aD id) f.dA (.pointer<|M ⟨G<|H m,0,dE⟩) z z;intro B ao ca ea;apply br _ _ wX;refine dG aH ?_ _;show KK _ _;apply cs;have V:f.dA∉K'.ah.map dj.dA:=by
    have F:=((ag HP).map<|λ(fl:af×eD)=>fl.1).nodup_iff.2<|ag HN;rw[bz,rO]at F;intro hc;refine F.2.2 f.dA ?_ f.dA ?_ z
    .simpa[vw]using hc
    .simp[vw]
   have w:=Pu V;rw[BG w]at ao;have aU:I (λk=>k=K'.nb) l B:=(aD.aT (T:=λk=>k=K'.nb) cY).aj (gI ca)<|λ_ j=>J j;have:d≠K'.sb:=tv (ag c).D (ag c).S;have cd:B.heap[d]?=l.heap[d]?:=aU.A d Q (tv (ag c).l (ag c).S:d≠K'.nb);have av:iP B K'.sb K'.sm:=(ag c).D.aA aU<|λcl=>(ag c).ne cl.symm;let⟨j0,dk,dn,fb,fd⟩:=cZ ru;let⟨eg,cm,bk,ed,bn⟩:=oa aD (Ps (v:=.pointer<|M ⟨G<|H m,0,dE⟩) w) w V<|And.intro dT ea;go_wp21;have bv:=And.intro (by rw[cL,cE<|cd.trans (ag c).S];rfl:bA B.drew ⟨d,0,dE⟩=M (.map<|M K'.nb)) (And.intro (by rw[cL,cE<|cd.trans (ag c).S];rfl:bA B.drew ⟨d,1,dE⟩=M (.map<|M K'.sb)) (ao.aA (cf (λ_=>False) B) id:iP B.drew K'.nb (K'.ah.map dj.nm++[(f.dA,.pointer<|M ⟨G<|H m,0,dE⟩)])));refine cX (λA=>bA A ⟨d,0,dE⟩=M (.map<|M K'.nb)/\bA A ⟨d,1,dE⟩=M (.map<|M K'.sb)/\iP A K'.nb (K'.ah.map dj.nm++[(f.dA,.pointer<|M ⟨G<|H m,0,dE⟩)])) 11 aH ?_;apply dH 0;iterate 10 (refine zr (v:=?_) bv z aH (λ_ _ _ h=>h) (J ⟨by rfl,?_⟩) ?_;rotate_left;(focus(rintro A⟨z0,z1,z2⟩;go_simp;try rfl));simp only[ii,ke,dC,eZ,eO,dl,cF,cO])
   apply eS;refine mX (i:=10) (v:=.pointer<|M ⟨G<|H m,0,dE⟩) z z aH aH aH aH (λ_ _ _ h=>h) (J ⟨by rfl,?_⟩) bv ?_
   .rintro A⟨z0,z1,z2⟩;have an:=rh underlying86 underlying9 dk dn z2 f.dA;rw[ag cm]at an;simp only[lf]at an;go_simp;try with_reducible rfl
   simp only[ii,dC,eZ,eO,dl,cF,cO];refine aW 11 ?_;intro es bp;try simp only[dl,cF,cO]
   apply CE (.tmp 41) (.tmp 42) (.tmp 48) 86 z 9 90 underlying86 underlying9 K'.sb _ z (av.aA (cf (λ_=>False) B) id:iP B.drew K'.sb K'.sm) f.dA (.pointer<|M ⟨G<|H m,0,dE⟩) z z;intro w6 ds dc fg;apply bp _ _ wX;refine dG aH ?_ _;have aV:I (λk=>k=K'.sb) B w6:=(cf (λk=>k=K'.sb) B).aj (gI dc)<|λ_ j=>J j;have o:I (λk=>k=K'.nb\/k=K'.sb) l w6:=(aU.aT (T:=λk=>k=K'.nb\/k=K'.sb) ar).aj aV ar;have W:I (λk=>k=K'.nb\/k=K'.sb) W4 w6:=((I.eF (S:=λk=>k=K'.nb\/k=K'.sb) ca aI)).aj aV ar;have p:=ak<|show G (H l)<=G (H m)/\True from⟨(ag bn).1,trivial⟩;have:=(ag c).lt K'.nb<|bu<|J z;have:=(ag c).lt K'.sb<|bu<|bu<|J z;have bc:=ak ((ag c).sP (f:=⟨f.dA,G<|H m,.slice x3 (y f.bB) c3,f.bB,y f.bB⟩) (ag HM) (ag HX).2.1.2 o (ao.aA aV<|λcl=>(ag c).ne cl) ds ⟨(W.A _ (az ce) (λj=>by have:=(ag p).1;obtain j|j:=j<;>omega)).trans ce,fj (W.aZ K (λk n j=>by have:=(K.lt k n).1;have cl:G (H l.drew)=G (H l):=rfl;obtain j|j:=j<;>omega))<|bQ _,(ag bd).2.2.1,ar,ar,(ag bd).2.2.2.2.2⟩ (ag p).1 (λk n=>(K.lt k n).1) (by
    have h1:=Px<|ag HP;have h2:=(ag<|ak<|And.intro ap aa).1;show fw (K'.ah++[_])<=4611686018427387904;rw[XC]at h2|-;have:BX (vw<|K'.ah++[⟨f.dA,G<|H m,.slice x3 (y f.bB) c3,f.bB,y f.bB⟩])<=BX (vw K'.ah++vw (eo++f::eq)):=by
     simp[BX,vw];omega
    omega))
   have bo:=ak ((ag r).aj o (λk j=>by
    have h1:=((ag g) K'.nb (bu (J z))).1;have h2:=((ag g) K'.sb (bu (bu (J z)))).1;grind))
   have:x.nb<G (H a):=(ag HD).lt x.nb<|bu<|J z;have bi:=ak ((ag q).qT (o.A _ (bP<|(ag r).D) (λj=>by
    have h1:=((ag g) K'.nb (bu (J z))).1;have h2:=((ag g) K'.sb (bu (bu (J z)))).1;obtain j|j:=j<;>omega)) (o.A _ (ag q).lt (λj=>by
     have:=((ag g) K'.nb (bu (J z))).2;have:=((ag g) K'.sb (bu (bu (J z)))).2;obtain j|j:=j<;>omega)))
   go_wp2;go_roundw
   .let⟨dv,an⟩:=ag bc;refine⟨eo++eq,{K' with ah:=K'.ah++[⟨f.dA,G<|H m,.slice x3 (y f.bB) c3,f.bB,y f.bB⟩],sm:=K'.sm.gL f.dA (.pointer<|M ⟨G<|H m,0,dE⟩)},?_,ag HM,dv,?_,?_,λex hg=>(ag HL) ex ?_,ag bo,(ag HX).1,?_,λex hg=>?_⟩
    .refine List.Perm.trans ?_<|ag HP;show List.Perm (vw (K'.ah++[⟨f.dA,G<|H m,.slice x3 (y f.bB) c3,f.bB,y f.bB⟩])++vw (eo++eq)) (vw K'.ah++vw (eo++f::eq));simp only[vw,bz,bO,gB,cw,mH];exact sL _ xp.symm
    .intro k n;have:=(ag p).1;have:=(ag r).D;have:=(ag q).lt;obtain j|j|j:=an k n
     .exact(ag g) k j
     .have:k=G (H m):=j;grind
     .have:=(K.lt k j).1;have:G (H l.drew)=G (H l):=rfl;grind
    .rw[bz];exact ag bi
    .grind
    .refine⟨?_,(ag HX).2.1.2⟩;show K'.sm.gL f.dA _=(K'.ah++[_]).map dj.nm;rw[(ag HX).2.1.1,BG<|ag bk,bz];rfl
    grind[ag,mem_singleton]
   .rw[(ag bi).oO,(ag bl).oO];simp
section
variable{j4:cy af}{w0 W W':Z}{e db j3 i:R}{mem j6:Y}{bv n sv:ae}{o:iF}{l w:kW}{f:Y}{k r:eN}{C C' N N' L v:R}{F F' S:fC}{s:SR}{K K':DK}{m:dB}{a b c d:dI}{sn:gJ}
def Mr(h:XG j4 w0 W e db j3 i sv mem j6 bv n o l f k C N F):cR bN 55 #[aJ j3] W λP W'=>∃T c aa,∃D:kW,P=aN (de #[am T (y D) c,ay aa])/\uQ W W' (am T (y D) c) D/\y D<=40000000000/\∃F',XG j4 w0 W' e db j3 i sv mem j6 bv n o l f k C N F':=by
 have u:=Tx h ⟨#[]⟩ ⟨#[]⟩ 0;clear h;go_in
 go_wp21;go_call u as P E⟨gx,gc,ev,D,rfl,B,Q,t,V,j⟩;let⟨tn,_,_,g⟩:=kM t j.xh.nW;have A:=g _<|I.bI aC _;clear g t u;go_wp21;go_call A as P O⟨rfl,p⟩;have x:I aC E O:=I.p p;clear p A;go_wp2;go_ret2
 exact⟨_,_,_,_,z,x.aZ B<|λ_ _ q=>q,Q,_,j.bH x⟩
def I7{h:R}(j:cJ W' h K')(p:qu K'.fx)(g:K'.ah=[])(t:K'.l=[]):Cld [] W' h 0 0 K' [] [] [] []:=⟨j,p,(by rw[g];intro u b q;cases q),(by rw[g,t];simp),⟨bu ⟨by rw[g];rfl,z⟩,ar⟩,ar,by simp[im],(by rw[g];intro u b q;cases q),ar⟩
def RH(h:XH w0 W e db i (ee dE) mem j6 aF aF [] [] 0 bD 0)(hd:cJ W db K)(hl:qu K.fx)(hf:K.ah=[]):cR bN 19 #[aJ e] W λan W'=>∃cs:Y,an=aN (ay cs)/\((cs=0/\MI w0 W' e 31 1)\/(cs≠0/\Qq w0 W' e 664 1)):=by
 have c0:=aX h.g 0;have bo:=PW hd (by rw[hf];simp[vw]);have bh:=ak<|And.intro h (And.intro hl hf);clear h hd hl hf;go_in
 go_wp21;go_call bo as an W1⟨x,K1,rfl,ax,aD,bE,E,cc,ac,_,_⟩;let⟨h,hl,hf⟩:=ag bh;have T:=h.bH cc;have br:K1.ah=[]:=by rw[hf]at aD;simpa[vw]using aD
 have bt:qu K1.fx:=by rwa[ac]
 have V:=h.aA.D;have av:XL [] w0 (cP W1 (X e 0)<|aJ x) e x i (ee dE) mem j6 aF aF [] [] 0 bD 0 0 K1 [] [] [] []:=by have g:∀aU,K1.j x aU->G (H w0)<=aU/\aU<G (H<|cP W1 (X e 0)<|aJ x)/\¬Xh e i aF aF aU:=λaU q=>⟨bP<|E aU q,by rw[gK];exact ax.lt aU q,λm9=>gW ((h.lt m9).2)<|E aU q⟩;exact⟨T.G1 x,(I7 ax bt br bE).aA (fK W1 e 0<|aJ x)<|λcM an m9=>(g cM m9).2.2<|J an,g,λcM hx=>(by cases hx),ar⟩
 have g0:=cV (i:=0) T.g;have c0:=aX T.g 0;let⟨W5,ao⟩:∃W5,cP W1 (X e 0) (aJ x)=W5:=⟨_,rfl⟩;rw[ao]at av;have A:=ak av;have bc:=ak ao;clear av ao T ax aD bE E cc ac bo h hl hf bh br bt;go_wp21;rename_i KK bk;rw[ag bc];have e0:=aX (ag A).xh.g 0 z;have e2:=aX (ag A).xh.g 2 z;have e3:=aX (ag A).xh.g 3 z;have bL:=Tw ((ag A).bH<|cf aC W5) U U;have bl:bA W5.drew (X e 0)=M (aJ x)/\bA W5.drew (X e 2)=M (ay mem)/\bA W5.drew (X e 3)=M (ay j6):=⟨e0,e2,e3⟩;refine cX (λj4=>bA j4 (X e 0)=M (aJ x)/\bA j4 (X e 2)=M (ay mem)/\bA j4 (X e 3)=M (ay j6)) 13 aH ?_;refine dH 0 ?_;iterate 8 (refine fX bl ?_;simp only[ii,eh,fU,ke])
 apply eS;refine aW 8 ?_;intro K8 bi;go_simp;go_call bL as an W6⟨t,bn⟩;have P:bA W6 (X e 0)=M (aJ x)/\bA W6 (X e 2)=M (ay mem)/\bA W6 (X e 3)=M (ay j6):=⟨aX t.g 0,aX t.g 2,aX t.g 3⟩;obtain⟨cB,cr,rfl⟩:∃sv g,an=aN (de #[sv,g]):=by obtain⟨cv,F6,rfl,_⟩|⟨q,rfl,_⟩:=bn<;>exact⟨_,_,z⟩
 refine bi _ _ (λ_=>P) ?_;refine dH 9 ?_;iterate 3 (refine fX P ?_;simp only[ii,eh,fU,ke])
 apply eS;refine aW 12 ?_;intro co aa;go_simp;refine aa _ _ (λ_=>P) ?_;refine aW 13 ?_;intro cp ab;go_simp;refine ab _ _ wX ?_;refine dG aH ?_ _;show KK _ _;apply bk;have HK:=ak t;clear bi aa ab bk bl P bL A e0 e2 e3 bc t c0 g0;obtain⟨j3,F6,u,bx,g⟩|⟨q,u,cb,F6,D,g⟩:=bn;rotate_left;(.injection u with u;injection u with u;simp only[pD,iM,rH]at u;obtain⟨rfl,rfl⟩:=u;have t:=ag HK;(have bq:uc W6 (eW q):=by let⟨c6,hc,h1⟩:=cb;exact bu<|bu ⟨q,z,c6,hc,h1⟩);let⟨tn,cj,V,ad⟩:=kM bq t.nW;have ce:=ad _<|I.bI aC _;(have b0:(tn==0)=bD:=by simpa usingλan=>by have:=V.1 an;simp[eW]at this);(have b1:(tn !=0)=cz:=by simpa usingλan=>by have:=V.1 an;simp[eW]at this);have cl:∀cm:Z,(binOp .eql 36 (ee dE)<|ee dE).run bN cm=.ok (aO cz) cm:=λ_=>rfl;have HL:=ak<|And.intro D g;clear ad bq V D g t cb cj;go_wp21;go_call ce as an W7⟨rfl,B⟩;have Q:I aC W6 W7:=I.p B;let⟨D,g⟩:=ag HL;have bm:XD w0 W7 e x i (ee dE) mem j6 aF aF [] [] 0 bD 664 1 F6:=⟨((ag HK).bH Q).aT U,(D.aA Q cY).aT U,λaU q=>⟨(g aU q).1,gW ((g aU q).2.1) Q.D,(g aU q).2.2⟩⟩;have bd:=ak<|show Qq w0 W7 e 664 1 from⟨_,_,_,_,_,_,_,_,_,_,_,_,bm⟩;clear bm D g Q B HK HL ce;by_cases h9:tn=9;(.subst h9;go_wp2;go_ret;exact⟨_,z,bu ⟨cg,bd⟩⟩);have:(tn==9)=bD:=dV h9;go_wp2;go_ret;exact⟨_,z,bu ⟨cg,bd⟩⟩);injection u with u;injection u with u;simp only[pD,iM,rH]at u;obtain⟨rfl,rfl⟩:=u;have bg:XG [] w0 W6 e x j3 i (ee dE) mem j6 aF aF [] [] 0 bD 31 1 F6:=⟨(ag HK).aT U,bx,g,λcM hx=>(by cases hx),ar⟩;have:∀cm:Z,(binOp .eql 36 (aJ j3)<|ee dE).run bN cm=.ok (aO bD) cm:=λ_=>rfl;have aV:=ak bg;clear bx g HK bg;go_wp21;go_call oz W6 as an W7⟨rfl,B⟩;have bp:=Mr<|(ag aV).bH<|I.p B;clear B aV;go_wp21;go_call bp as an W8⟨gx,gc,tn,dc,rfl,bs,ck,F8,O⟩;have c4:=aX O.xh.g 4;have bT:=Oo O.xh.f (dQ bs) U;have ba:=ak O;clear O bp;go_wp21;go_call bT as an W9⟨rfl,cd⟩;have j:=(ag ba).bH cd;have al:=ak (show Qq w0 W9 e 664 1 by let⟨F9,Q⟩:=j.xd;exact⟨_,_,_,_,_,_,_,_,_,_,_,_,Q⟩);have bb:=ak j;clear j ba cd bT c4;by_cases h0:tn=0;rotate_left;(.have b0:(tn==0)=bD:=dV h0;go_wp2;go_ret;exact⟨_,z,bu ⟨cg,al⟩⟩);subst h0;by_cases ca:dc=[];rotate_left;(.have Q:decide (dc=[])=bD:=dV ca;rw[Q];go_wp2;go_ret;exact⟨_,z,bu ⟨cg,al⟩⟩);subst ca;rw[show decide (([]:kW)=[])=cz from ar];have j:=ag bb;have c1:=aX j.xh.g 1;have g1:=cV (i:=1) j.xh.g;have c4:=aX j.xh.g 4;have g4:=cV (i:=4) j.xh.g;have ch:=az j.xh.g;have p:=(j.p (J z)<|aJ j3).I8 (bu z) (cI aC _) (aq _)<|aQ (aK #[aF,ay 0,aO bD,aF] 76) z;rw[gK,World.setCell_alloc_past _ _ _ _ (by rw[gK];exact ch)]at p;have bf:=ak p;clear p j bb al bs ck;go_wp21;let⟨WA,ap⟩:∃WA,dw (cP (cP W9 (X e 1)<|aJ j3) (X e 4)<|aJ<|G<|H W9) (aK #[aF,ay 0,aO bD,aF] 76)=WA:=⟨_,rfl⟩;let⟨cT,hg⟩:∃cT,G (H W9)=cT:=⟨_,rfl⟩;have p:=ag bf;rw[ap,hg]at p;rw[ap];clear bf ap hg c1 g1 c4 g4 ch;go_loopw [9,10] (λg cn wr=>g=aF/\cn=ay 0/\wr=WA) (λ_ _ _=>0)
 exact⟨z,z,z⟩;obtain⟨rfl,rfl,cl⟩:=hrel;subst wr;have Q:=p;have:=aX Q.xh.g 4;have bd:=Ea Q.xh.f aF [] cz (J ⟨⟨z,J ⟨z,z⟩⟩,λaU q=>(by cases q)⟩) ar ar Q.xh.aA.D;clear Q;go_wp21;go_call bd as an WB⟨rfl,cj,cu,v',cx,ad,bq,bm⟩;have ce:=ak (p.A bq ad bm<|by simp[WD]);clear bd ad bq bm p;go_wp2;go_ret;exact⟨_,z,J ⟨z,_,_,_,_,_,_,_,_,_,_,_,_,_,ce⟩⟩
end
def NX{d:Func}{p:Tmp}(h:d.results=#[.cell p 38])(a:Array ae)(w:Z)(g:R)(x b:Y)(t:TypeId)(e:R×R)(j:a.getD p jn=aJ g)(f:w.heap[g]?=M (aK #[ay x,ay b] t e)):(results d a).run bN w=.ok (ef #[ay x,ay b]) w:=by
 have c:a[p]?.getD jn=aJ g:=dV j;have i:=kQ (P:=bN) w g t 38 #[ay x,ay b] e _ f underlying38 z aH;simp[results,h,c,asAddr,i]
def Vi(a T:Y)(w:Z):cR bN 18 #[ay a,ay T] w λe b=>(∃m t,e=aN (ef #[ay m,ay t])/\1<=m/\m<=32/\2<=t/\t<=6)/\I aC w b:=by
 have:=Jw a 32 U U;have:=Jw T 5 U U;go_in
 go_wp2;refine ci (NX z _ _ (G<|H w) (1+wrap64 ((IntKind.u64.wrap a).tmod 32)) (2+wrap64 ((IntKind.u64.wrap T).tmod 5)) _ _ z<|aQ _ z) z ?_;grind[cI]
def zfe(b W:Z)(e:Ending):Prop:=∃a c,e=aN (de #[aJ a,aO c])/\Qq b W a 216800000 350000
def SL(ds:Option Addr)(c:cy Xr)(bm:R)(n5 bq:Y)(g:c=[]\/∃ba b,ds=M (X ba b)/\Uq a (bX ba b (y c) bm) c)(bn:y c<=349525)(av:I aC a e)(hS:Steps a)(hP:Pow a)(hE:jP a)(T:tg a):cR bN 7 #[am ds (y c) bm,ay n5,ay bq] e λaV W'=>zfe a W' aV:=by
 have ao:=zP e 1099511627776 cz U;have ap:=Vi n5 bq;let⟨HS,HP,HE,O⟩:=js hS hP hE T;have P:=ak av;clear hS hP hE T av;go_in
 go_wp21;go_call ao as aV W1⟨rfl,ad,aa⟩;have N:=ak ad;have v:=ak aa;clear ad aa ao;go_wp21;go_call ap W1 as aV i⟨⟨d,K,rfl,ho⟩,ax⟩;have w:=ak ax;have HO:=ak ho;clear ax ho ap;go_wp21;let⟨A,j⟩:∃A,dw (dw i<|aK #[aF,ay 0,aO bD,aF] 76) (aK #[aJ<|G (H e)+2,ee dE,ay d,ay K,aJ<|G<|H i] 41)=A:=⟨_,rfl⟩;have L:I aC W1 A:=by rw[<-j];exact w.t<|(cI aC i).aE _
 have aD:I aC a A:=(P.t<|I.p (S:=aC) v).t L;have bb:=P.D;have bc:=v.size;have bd:=w.D;have ac:S4 A (G (H i)+1) (G (H e)+2) (ee dE) d K (G<|H i):=by unfold S4;rw[<-j];exact aQ _ ar
 have ab:A.heap[G<|H i]?=M (aK #[aF,ay 0,aO bD,aF] 76 (0,0)):=by rw[<-j];grind[gy,aQ]
 have p:∀k,AY (G<|H i) aF aF k->k=G (H i):=λk q=>by obtain q|q|q:=q;exact q;cases q;cases q
 have V:XH a A (G (H i)+1) (G (H e)+2) (G<|H i) (ee dE) d K aF aF [] [] 0 bD 0:=⟨ac,Zu ab U,λq=>bP<|p _ q,U,ag HO,ar,aD,ag HS,ag HP,ag HE,ag O⟩;let⟨s,F⟩:∃s,G (H i)+1=s:=⟨_,rfl⟩;have D:=RH V ((ag N).aA L<|λ_ _=>id) (J z) z;rw[F]at D;rw[j,F];clear j L aD bb bc bd ac ab p V F N v w HS HP HE O;go_call D as aV W4⟨bf,rfl,W⟩;have Q:=ak W;clear W D;have t:∃ok:eN,(bf==0)=ok/\((ok=cz/\MI a W4 s 31 1)\/(ok=bD/\Qq a W4 s 216800000 350000)):=by obtain⟨rfl,h⟩|⟨h0,h⟩:=ag Q;exact⟨cz,z,J ⟨z,h⟩⟩;exact⟨bD,dV h0,bu ⟨z,h.aT U U⟩⟩
 let⟨bp,bi,u⟩:=t;have aU:=ak u;clear u Q;go_wp21;go_loopw [10,11] (λok i wr=>∃n:R,n<=y c/\i=ay n/\((ok=aO cz/\MI a wr s (31*n+31) (n+1))\/(ok=aO bD/\Qq a wr s 216800000 350000))) (λ_ i _=>y c-(intOf i).toNat)
 exact⟨0,bQ _,z,(ag aU).imp (λq=>⟨by rw[q.1],q.2⟩)<|λq=>⟨by rw[q.1],q.2⟩⟩;(.obtain⟨n,hn,rfl,⟨rfl,k⟩|⟨rfl,k⟩⟩:=hrel;rotate_left;(.have o:=ak k;clear k;by_cases r:n<y c;(.have e1:(n:Y)<(y c:Y):=U;go_wp2;(go_ret2);exact⟨s,_,z,o⟩);have e1:¬(n:Y)<(y c:Y):=U;go_wp2;(go_ret2);exact⟨s,_,z,o⟩);by_cases r:n<y c;(.obtain rfl|⟨ba,b,rfl,g⟩:=g;simp at r;have e1:(n:Y)<(y c:Y):=U;have o:=g.L _<|aB r;have C:ba<G (H a):=g.lt ba z;(have E:I aC a wr:=by let⟨j4,db,j3,hb,d,K,bv,pv,vs,bo,f,mb,bl,h⟩:=k;exact h.xh.aA);(have B:bA wr (X ba<|b+n*2)=M (ay c[n].kd)/\bA wr (X ba<|b+n*2+1)=M c[n].L/\y c<=bm:=by obtain⟨q1,⟨q2,q0⟩|⟨g',bk,bh,q2,an,m⟩⟩:=g.bV;cases q2;cases q2;exact⟨E.u (m _ _<|(yL c n r 0 U).trans z) id C,by rw[bJ];exact E.u (m _ _<|(yL c n r 1 U).trans z) id C,an⟩);let⟨c0,c1,an⟩:=B;let⟨lx,lc,hL⟩:=sZ o.1;have al:=ZZ k c[n].kd lx c[n].cs lc (by rw[<-hL];exact o.1) (λa b=>bP<|o.2.1 a b) (bP o.2.2) U U;rw[hL]at c1;generalize c[n].kd=kd at*;clear o hL k C E;go_wp21;go_call al as aV W5⟨tn,bg,rfl,l⟩;have x:=ak l;clear l al c0 c1;obtain⟨rfl,h5⟩|⟨h0,h5⟩:=ag x;(.have HG:=ak h5;clear h5 x;cases bg;(.go_wp2;go_roundw;exact⟨n+1,U,dM,J ⟨by first|rfl|simp,HG⟩⟩;simp[intOf];omega);go_wp2;go_roundw;exact⟨n+1,U,dM,bu ⟨by first|rfl|simp,(ag HG).xd.aT U U⟩⟩;simp[intOf];omega);have:(tn==0)=bD:=dV h0;clear x h0;go_wp2;go_roundw;exact⟨n+1,U,dM,bu ⟨by first|rfl|simp,h5.aT U U⟩⟩;simp[intOf];omega);have:n=y c:=U;have:¬(n:Y)<(y c:Y):=U;let⟨j4,db,j3,hb,d,K,bv,pv,vs,bo,f,mb,bl,k⟩:=k;have:=aX k.xh.g 1;have p:=Na k;clear k g;go_wp21;go_call p as aV W5⟨ev,rfl,C,l⟩;(have x:Qq a W5 s 216800000 350000:=by obtain⟨_,X',an,bg,bh,cc,bk,h⟩|⟨_,F',h⟩:=l;have m:=h.cl;have hd:=SS m.f m.A m.n m.pH h.f.1 (bP h.f.2) m.Fj U;exact Qq.aT ⟨_,_,_,_,_,_,_,_,_,_,_,_,h.xh,⟨an,z,m.f,m.D,hd.aT (aq _) U,bP m.l⟩,h.da⟩ U U;exact Qq.aT ⟨_,_,_,_,_,_,_,_,_,_,_,_,h⟩ U U);let⟨tn,_,_,o⟩:=kM C (show jP W5 by let⟨db,hb,sv,d,K,bv,pv,vs,bo,f,mb,bl,h⟩:=x;exact h.xh.nW);have E:=o _<|I.bI aC _;clear l C o p;go_wp21;go_call E as aV W6⟨rfl,B⟩;have al:=ak (show Qq a W6 s 216800000 350000 by let⟨db,hb,sv,d,K,bv,pv,vs,bo,f,mb,bl,h⟩:=x;exact⟨_,_,_,_,_,_,_,_,_,_,_,_,h.bH<|I.p B⟩);clear B E x;go_wp2;(go_ret2);exact⟨s,_,z,al⟩)
def MN(w W:Z)(e:R)(K:DK)(g:ae)(h:eD)(b a:Y)(c:af)(f:R)(d:DK)(B n:R):Prop:=Dp w W e K d B n/\W.heap[f]?=M (aK #[ay b,ay a,aw c,g] 33 (0,0))/\¬d.j e f/\ByS W e d g h/\qu d.fx
def MN.go{g:Y}{i:DK}{p:R}(h:MN a e b f d m r g B c x k n)(l:Dp e P b x i T p):MN a P b f d m r g B c i (k+T) (n+p):=by
 let⟨s,j,o,t,u⟩:=h;exact⟨s.aj l,(l.A (az j) o).trans j,(l.p (az j) o).2,t.aA l.D.aA (λ_ q=>J q) l.D.j,l.D.fx.D u⟩
def MN.bH{g:Y}(h:MN a e b f d m r g B c x k n)(i:I aC e P):MN a P b f d m r g B c x k n:=by
 let⟨l,j,o,p,s⟩:=h;exact⟨l.bH i,(i.A _ (az j) id).trans j,o,p.aA i cY<|λ_ q=>J q,s⟩
def UQ(i g:Y)(j:af)(h:cJ a b f)(hx:qu f.fx)(hB:Fy f c k)(hM:k<=800000000000)(bL:y f.l<=900000000000)(bp:Nm j)(hb:ByS a b f d m):cR bN 8 #[aJ b,ef #[ay i,ay g,aw j,d]] a λE w'=>(∃cj,E=aN cj)/\∃K',Dp a w' b f K' (y m) 3:=by
 let⟨bx,bs,bl⟩:=hb.S;let⟨W1,av⟩:∃W1,dw a (aK #[ay i,ay g,aw j,d] 33)=W1:=⟨_,rfl⟩;have bf:I aC a W1:=av▸cI aC a;have bk:MN a W1 b f d m i g j (G<|H a) f 0 0:=⟨(Dp.bI h).bH bf,av▸aQ _ z,λq=>bP<|h.lt _ q,hb.aA bf cY<|λ_ q=>J q,hx⟩;have ca:y f.ah<=k:=hB.l;have bn:=CK (w:=W1) (bk.1.D.ok) U;have aa:∀ab t ao ac e,MN a ab b f d m i g j (G<|H a) t ao ac->ac<=10->Nm e->cR bN 23 #[aJ b,aw e] ab λE w'=>∃bg S,E=aN bg/\MN a w' b f d m i g j (G<|H a) S ao (ac+1):=λab t ao ac e A hn hq=>by refine(Jt e A.1.D.ok (λ_=>A.2.2.2.2) (bP A.1.l) hq).mono ?_;rintro E w'⟨bg,S,rfl,hr⟩;exact⟨bg,S,z,A.go<|FD hr (λac q=>by cases q)<|λcc x q=>by cases q⟩
 have W:∀ab t ao ac e,MN a ab b f d m i g j (G<|H a) t ao ac->ac<=10->Nm e->cR bN 24 #[aJ b,aw e] ab λE w'=>∃bg S,E=aN bg/\MN a w' b f d m i g j (G<|H a) S ao (ac+1):=λab t ao ac e A hn hq=>by refine(Eh e A.1.D.ok (λ_=>A.2.2.2.2) (bP A.1.l) hq).mono ?_;rintro E w'⟨bg,S,rfl,hr⟩;exact⟨bg,S,z,A.go<|FD hr (λac q=>by cases q;exact hq)<|λcc x q=>by cases q⟩
 have V:∀ab t ao ac e,MN a ab b f d m i g j (G<|H a) t ao ac->Nm e->cR bN 25 #[aJ b,aw e,d] ab λE w'=>∃bg S,E=aN bg/\Dp a w' b f S (ao+y m) (ac+1):=λab t ao ac e A hq=>by go_call Tn e A.1.D.ok A.2.2.2.2 A.2.2.2.1 hq as E w'⟨bg,S,rfl,hr⟩;exact⟨bg,S,z,A.1.aj hr⟩
 have bb:∀ab t ao ac e ap,MN a ab b f d m i g j (G<|H a) t ao ac->ap<18446744073709551616->cR bN 26 #[aJ b,aw e,bw (ap:R)] ab λE w'=>∃bg S,E=aN bg/\MN a w' b f d m i g j (G<|H a) S ao ac:=λab t ao ac e ap A bo=>by go_call ZL e ap A.1.D.ok bo as E w'⟨⟨bg,rfl⟩,S,hr⟩;exact⟨bg,S,z,A.go hr⟩
 have ax:∀cc∈f.ah.map dj.dA,Nm cc:=hB.A.dq;have l:∀ab t ao ac,MN a ab b f d m i g j (G<|H a) t ao ac->bA ab (X (G<|H a) 0)=M (ay i)/\bA ab (X (G<|H a) 1)=M (ay g)/\bA ab (X (G<|H a) 2)=M (aw j)/\bA ab (X (G<|H a) 3)=M d:=λab t ao ac A=>⟨aX A.2.1 0,aX A.2.1 1,aX A.2.1 2,aX A.2.1 3⟩;have T:∀ab t ao ac u,MN a ab b f d m i g j (G<|H a) t ao ac->u<y m->∃bi o,bx=M (X bi o)/\bA ab (X bi<|o+u)=M (sC<|m[u]?.getD 0)/\0<=m[u]?.getD 0/\m[u]?.getD 0<256:=λab t ao ac u A hj=>by(have bo:m≠[]:=λq=>by rw[q]at hj;simp at hj);have ap:=A.2.2.2.1;obtain E|⟨cc,cb,E⟩:=ap.l;exact absurd (ap.o E) bo;obtain⟨h1,bi,o,rfl,_,_⟩:=ap.f cc cb E bo;rw[bl]at E;injection E with e1 e2 e3;(have hg:(m.map<|Value.int .u8)[u]?=M (sC<|m[u]?.getD 0):=by simp[hj]);have:=h1 u _ hg;rw[dS]at this;have h5:=ap.L (m[u]?.getD 0) (by simp[hj]);exact⟨bi,o,e1,this,h5.1,h5.2⟩
 have bt:=hb.dL;subst bl;have br:=ak av;have r:=ak bp;have bh:=ak ax;clear av bp ax h hx hB hb bL bf;go_in
 go_wp21;rw[ag br];go_call bn as E w2⟨v2,ns,rfl,bd,bc,bq⟩;let⟨x2,c2,bT⟩:=aM bc;subst bT;have w:=bk.bH bq;let⟨k0,k1,k2,k3⟩:=l w2 _ _ _ w;have ce:y ns<=900000000000:=by have:=bd.length_eq;rw[cS]at this;omega
 have al:∀cb,cb<y ns->∃bi o e,x2=M (X bi o)/\bA w2 (X bi<|o+cb)=M (aw e)/\Nm e:=λcb hi=>by obtain⟨q1,⟨q2,q0⟩|⟨ch,ap,bo,q2,cd,hc⟩⟩:=dQ bc;omega;cases q2;exact⟨ch,ap,ns[cb],z,hc cb _ (by simp[strs,hi]),ag bh _<|bd.mem_iff.1<|aB hi⟩
 have aU:=ak al;clear al bn bq bc bd;have ba:(0<y ns/\0<=g)\/y ns=0\/(0<y ns/\g<0):=U;obtain⟨bm,bv⟩|bm|⟨bm,bv⟩:=ba;(case' inl=>have r1:=yX g (show(y ns:Y)≠0 by omega);have r2:=Int.emod_lt_of_pos g (show(0:Y)<y ns by omega);obtain⟨bi,o,e,ap,bo,hq⟩:=aU (g%y ns).toNat U;subst ap;have e1:(0:Y)<(y ns:Y):=U;have e5:¬(y ns:Y)=0:=U;have D:=ak hq;clear hq);(case' inr.inl=>have e1:¬(0:Y)<(y ns:Y):=U;have D:=r);(case' inr.inr=>have e1:(0:Y)<(y ns:Y):=U;have e2:¬(0:Y)<=g:=U;have D:=r);(all_goals have bE:i=1\/i=2\/i=3\/(¬i=1/\¬i=2/\¬i=3):=U;obtain rfl|rfl|rfl|⟨g1,g2,g3⟩:=bE);all_goals try(have d1:decide (i=1)=bD:=(dV g1);have d2:decide (i=2)=bD:=(dV g2);have d3:decide (i=3)=bD:=(dV g3))
 all_goals(go_wp21)
 (.go_call aa w2 f _ _ _ w U (by first|exact ag D|exact ag r)as E w3⟨u3,F,rfl,n⟩;have B:=ak n;clear n;go_wp2;go_end0;exact⟨⟨_,z⟩,F,(ag B).1.aT U U⟩);(.go_call aa w2 f _ _ _ w U (by first|exact ag D|exact ag r)as E w3⟨u3,F,rfl,n⟩;have B:=ak n;clear n;go_wp21;go_call W w3 F _ _ _ B U (by first|exact ag D|exact ag r)as E O⟨u4,K4,rfl,p⟩;let⟨_,_,_,k3⟩:=l O _ _ _ p;have P:=ak p;clear p;go_wp21;go_call V O K4 _ _ _ P (by first|exact ag D|exact ag r)as E w5⟨u5,K5,rfl,v⟩;have Q:=ak v;clear v;go_wp2;go_end0;exact⟨⟨_,z⟩,K5,(ag Q).aT U U⟩);(·(go_loopw [6] (λiv wr=>∃(u:R)(t:DK),iv=ay u/\u<=y m/\MN a wr b f (am bx (y m) bs) m 3 g j (G<|H a) t 0 0) (λiv _=>y m-(intOf iv).toNat));exact⟨0,f,dM,bQ _,w⟩;(case round=>obtain⟨u,t,rfl,hj,s⟩:=hrel;obtain⟨_,_,_,k3⟩:=l wr _ _ _ s;by_cases L:u<y m;(.obtain⟨bi,o,ad,K,N,an⟩:=T wr t 0 0 u s L;subst ad;let⟨x,hy⟩:=lL N;rw[hy]at K an;clear hy N;have f1:(u:Y)<(y m:Y):=U;have f2:(0:Y)<=(u:Y):=U;(have f3:IntKind.u64.wrap (u:Y)=(u:Y):=by rw[dY];omega);(have f4:IntKind.u64.wrap ((u:Y)*31)=(u:Y)*31:=by rw[dY];omega);(have f5:IntKind.u64.wrap (x:Y)=(x:Y):=by rw[dY];omega);(have f6:IntKind.u64.wrap ((u:Y)*31+(x:Y))=(u:Y)*31+(x:Y):=by rw[dY];omega);have C:=bb wr t 0 0 j (u*31+x) s U;rw[show((u*31+x:R):Y)=(u:Y)*31+(x:Y)by omega]at C;have aD:=ak C;clear C;clear s;go_wp21;go_call ag aD as E w3⟨u3,F,rfl,n⟩;have B:=ak n;clear n;go_wp2;go_roundw;exact⟨u+1,F,dM,L,ag B⟩;simp[intOf];omega);have f1:¬(u:Y)<(y m:Y):=U;have aV:=ak s;clear s;go_wp2;go_end0;exact⟨⟨_,z⟩,t,(ag aV).1.aT U U⟩));(.go_call W w2 f _ _ _ w U (by first|exact ag D|exact ag r)as E O⟨u4,K4,rfl,p⟩;let⟨_,_,_,k3⟩:=l O _ _ _ p;have P:=ak p;clear p;go_wp21;go_call V O K4 _ _ _ P (by first|exact ag D|exact ag r)as E w5⟨u5,K5,rfl,v⟩;have Q:=ak v;clear v;go_wp2;go_end0;exact⟨⟨_,z⟩,K5,(ag Q).aT U U⟩);(.go_call aa w2 f _ _ _ w U (by first|exact ag D|exact ag r)as E w3⟨u3,F,rfl,n⟩;have B:=ak n;clear n;go_wp2;go_end0;exact⟨⟨_,z⟩,F,(ag B).1.aT U U⟩);(.go_call aa w2 f _ _ _ w U (by first|exact ag D|exact ag r)as E w3⟨u3,F,rfl,n⟩;have B:=ak n;clear n;go_wp21;go_call W w3 F _ _ _ B U (by first|exact ag D|exact ag r)as E O⟨u4,K4,rfl,p⟩;obtain⟨_,_,_,k3⟩:=l O _ _ _ p;have P:=ak p;clear p;(go_wp2_with fail);apply(V O K4 _ _ _ P (by first|exact ag D|exact ag r)).mono;rintro E w5⟨u5,K5,rfl,v⟩;have Q:=ak v;clear v;go_wp2;go_end0;exact⟨⟨_,z⟩,K5,(ag Q).aT U U⟩);(·(go_loopw [6] (λiv wr=>∃(u:R)(t:DK),iv=ay u/\u<=y m/\MN a wr b f (am bx (y m) bs) m 3 g j (G<|H a) t 0 0) (λiv _=>y m-(intOf iv).toNat));(case atStart=>exact⟨0,f,dM,bQ _,w⟩);(case round=>obtain⟨u,t,rfl,hj,s⟩:=hrel;obtain⟨_,_,_,k3⟩:=l wr _ _ _ s;by_cases L:u<y m;(.obtain⟨bi,o,ad,K,N,an⟩:=T wr t 0 0 u s L;subst ad;let⟨x,hy⟩:=lL N;rw[hy]at K an;clear hy N;have f1:(u:Y)<(y m:Y):=U;have f2:(0:Y)<=(u:Y):=U;(have f3:IntKind.u64.wrap (u:Y)=(u:Y):=by rw[dY];omega);(have f4:IntKind.u64.wrap ((u:Y)*31)=(u:Y)*31:=by rw[dY];omega);(have f5:IntKind.u64.wrap (x:Y)=(x:Y):=by rw[dY];omega);(have f6:IntKind.u64.wrap ((u:Y)*31+(x:Y))=(u:Y)*31+(x:Y):=by rw[dY];omega);have C:=bb wr t 0 0 j (u*31+x) s U;rw[show((u*31+x:R):Y)=(u:Y)*31+(x:Y)by omega]at C;have aD:=ak C;clear C;clear s;go_wp21;go_call ag aD as E w3⟨u3,F,rfl,n⟩;have B:=ak n;clear n;go_wp2;go_roundw;exact⟨u+1,F,dM,L,ag B⟩;simp[intOf];omega);have f1:¬(u:Y)<(y m:Y):=U;have aV:=ak s;clear s;go_wp2;go_end0;exact⟨⟨_,z⟩,t,(ag aV).1.aT U U⟩));(.apply(W w2 f _ _ _ w U (by first|exact ag D|exact ag r)).mono;rintro E O⟨u4,K4,rfl,p⟩;obtain⟨_,_,_,k3⟩:=l O _ _ _ p;have P:=ak p;clear p;(go_wp2_with fail);apply(V O K4 _ _ _ P (by first|exact ag D|exact ag r)).mono;rintro E w5⟨u5,K5,rfl,v⟩;have Q:=ak v;clear v;go_wp2;go_end0;exact⟨⟨_,z⟩,K5,(ag Q).aT U U⟩);(.apply(aa w2 f _ _ _ w U (by first|exact ag D|exact ag r)).mono;rintro E w3⟨u3,F,rfl,n⟩;go_wp2;go_end0;exact⟨⟨_,z⟩,F,n.1.aT U U⟩);(.apply(aa w2 f _ _ _ w U (by first|exact ag D|exact ag r)).mono;rintro E w3⟨u3,F,rfl,n⟩;(go_wp2_with fail);apply(W w3 F _ _ _ n U (by first|exact ag D|exact ag r)).mono;rintro E O⟨u4,K4,rfl,p⟩;obtain⟨_,_,_,k3⟩:=l O _ _ _ p;(go_wp2_with fail);apply(V O K4 _ _ _ p (by first|exact ag D|exact ag r)).mono;rintro E w5⟨u5,K5,rfl,v⟩;go_wp2;go_end0;exact⟨⟨_,z⟩,K5,v.aT U U⟩);(·(go_loopw [6] (λiv wr=>∃(u:R)(t:DK),iv=ay u/\u<=y m/\MN a wr b f (am bx (y m) bs) m 3 g j (G<|H a) t 0 0) (λiv _=>y m-(intOf iv).toNat));(case atStart=>exact⟨0,f,dM,bQ _,w⟩);(case round=>obtain⟨u,t,rfl,hj,s⟩:=hrel;obtain⟨_,_,_,k3⟩:=l wr _ _ _ s;by_cases L:u<y m;(.obtain⟨bi,o,ad,K,N,an⟩:=T wr t 0 0 u s L;subst ad;let⟨x,hy⟩:=lL N;rw[hy]at K an;clear hy N;have f1:(u:Y)<(y m:Y):=U;have:(0:Y)<=(u:Y):=U;(have:IntKind.u64.wrap (u:Y)=(u:Y):=by rw[dY];omega);(have:IntKind.u64.wrap ((u:Y)*31)=(u:Y)*31:=by rw[dY];omega);(have:IntKind.u64.wrap (x:Y)=(x:Y):=by rw[dY];omega);(have:IntKind.u64.wrap ((u:Y)*31+(x:Y))=(u:Y)*31+(x:Y):=by rw[dY];omega);have C:=bb wr t 0 0 e (u*31+x) s U;rw[show((u*31+x:R):Y)=(u:Y)*31+(x:Y)by omega]at C;clear s;go_wp21;go_call C as E w3⟨u3,F,rfl,n⟩;go_wp2;go_roundw;exact⟨u+1,F,dM,L,n⟩;simp[intOf];omega);have:¬(u:Y)<(y m:Y):=U;go_wp2;go_end0;exact⟨⟨_,z⟩,t,s.1.aT U U⟩));go_call W w2 f _ _ _ w U (by first|exact ag D|exact ag r)as E O⟨u4,K4,rfl,p⟩;let⟨_,_,_,k3⟩:=l O _ _ _ p;go_wp21;go_call V O K4 _ _ _ p (by first|exact ag D|exact ag r)as E w5⟨u5,K5,rfl,v⟩;go_wp2;go_end0;exact⟨⟨_,z⟩,K5,v.aT U U⟩
section
variable{j5:Prop}{j4:cy af}{w0 W:Z}{a db j3 b:R}{O:cy (R×Obj)}{C N n5:R}
theorem Ro(h:jZ j5 j4 w0 W a db j3 b O C N n5):cR bN 12 #[aJ a] W λA w'=>∃ax,A=aN (aO ax)/\jZ j5 j4 w0 w' a db j3 b O C N n5:=by
 have q:=YR h;have y1:bA W (X a 1)=M (aJ j3):=h.jd.2.1;have an:=h.QD.1;clear h;go_in
 go_wp21;go_call q as A B⟨av,ev,rfl,r,V,E⟩;let⟨o,K,n,g⟩:=kM r E.nW;have m:=g _<|I.bI aC _;have t:(o=0/\∃w c d ap,av=bX w c 4 d/\4<=d/\bA B (X w c)=M ap/\(∃Q ac S,ap=am Q ac S)/\w<G (H B))\/(o≠0/\av=aF):=by obtain⟨D,Ls,⟨us,T,al,L⟩,ad⟩|⟨D,aU,Q,e1⟩:=V;obtain⟨q1,⟨P,q0⟩|⟨w,c,d,P,s,x⟩⟩:=dQ T;cases q0;have p:us[0]?=M (us[0]'U):=bF U;let⟨aD,_,hp⟩:=L 0 _ p;let⟨Q,S,A⟩:=aM hp;exact J ⟨n.2 D,w,c,d,_,P,s,x 0 _ p,⟨Q,_,S,A⟩,(T.lt w (by rw[P];rfl)).2⟩;exact bu ⟨λA=>(by have:=n.1 A;rw[e1]at this;cases this),D⟩
 have j:=ak t;have i:=ak E;clear q E V t g r K n;go_wp21;go_call m as A v⟨rfl,l⟩;have f:I aC B v:=I.p l;have k:=i.bH f;have y2:bA v (X a 2)=M (aJ b):=k.jd.2.2;let⟨u,y3⟩:=k.Q9;have y4:bA v (X a 4)=M (ay 0):=by let⟨ao,ab,F⟩:=k.g;rw[cE F];rfl
 obtain⟨rfl,w,c,d,ap,rfl,s,x,⟨Q,ac,S,rfl⟩,hg⟩|⟨p,rfl⟩:=ag j;(.have D:bA v (X w c)=M (am Q ac S):=f.u x id hg;have e:=ak k;clear k i j l m f x;have:(4:Y)<=(d:Y):=U;have:(0:Y)<=(ac:Y):=U;cases u;(.go_wp21;(go_quiet(first|(go_at_call 34;refine Calls.quiet_of_same (mJ 0 _))));go_wp2;go_ret;exact⟨_,z,(ag e).bH<|gP _ _ _⟩);have L:∀aa:Z,(binOp .eql 114 (bX w c 4 d) aF).run bN aa=.ok (aO bD) aa:=λ_=>rfl;go_wp2;go_ret;exact⟨_,z,e⟩);have e:=ak k;clear k i j l m f;have:(o==0)=bD:=dV p;have:(o !=0)=cz:=dV p;cases u;(.go_wp21;(go_quiet(first|(go_at_call 34;refine Calls.quiet_of_same (mJ o _))));go_wp2;go_ret;exact⟨_,z,(ag e).bH<|gP _ _ _⟩);have:∀aa:Z,(binOp .eql 114 aF aF).run bN aa=.ok (aO cz) aa:=λ_=>rfl;go_wp21;go_call mJ o _ as A D⟨rfl,L⟩;subst D;go_wp2;go_ret;exact⟨_,z,e⟩
end
section
variable{j5:Prop}{j4:cy af}{w0 W:Z}{a db j3 b C N n5:R}
def zer(j5:Prop)(j4:cy af)(w0:Z)(a db j3 b C N n5:R)(e:Ending)(c:Z):Prop:=∃r,e=aN (aO r)/\jZ j5 j4 w0 c a db j3 b [] (C+8) (N+1) (n5+8)
def XP(F:Xj)(h:jZ j5 j4 w0 W a db j3 b [] C N n5)(l:n5<=1000000)(hk:F.kd≠6)(i:Q3 w0 F.L F.cs)(P:F.S.size<=1048576)(w:C+8<=3000000000)(o:N+1<=1000000000):cR bN 13 #[aJ a,zc F.kd F.A F.B F.S F.T F.L] W (zer j5 j4 w0 a db j3 b C N n5):=by
 let⟨j,A,B,S,T,ab,c⟩:=F;simp only at hk i P|-;let⟨i,E,V⟩:=i;let⟨x,k,hL⟩:=sZ i;subst hL;have d:∀{g:Z}{c f e:R},jZ j5 j4 w0 g a db j3 b [] c f e->c<=C+8->f<=N+1->e<=n5+8->jZ j5 j4 w0 g a db j3 b [] (C+8) (N+1) (n5+8):=λq i j k=>q.aT i w j o k;have g:∀d,I aC W (dw W<|iO d A B S T<|am x (y c) k):=λd=>cI _ W;have u:(j<1\/11<j)\/j=1\/j=2\/j=3\/j=4\/j=5\/j=7\/j=8\/j=9\/j=10\/j=11:=U;obtain u|rfl|rfl|rfl|rfl|rfl|rfl|rfl|rfl|rfl|rfl:=u;(.go_call UK j A B S T x (y c) k u as L m⟨r,rfl,t⟩;exact⟨r,z,d (h.bH t) U U U⟩);obtain⟨⟨K,⟨p,q0⟩|⟨Q,f,O,p,v,D⟩⟩,s⟩|⟨K,aa,c',p⟩:=i;have t:c=[]:=xu.1 q0;subst t;cases p;exact Ge h l A B S T w o;cases p;by_cases n:y c=0;have t:c=[]:=xu.1 n;subst t;exact yZ h l A B S T _ k w o;exact Gd h l A B S T Q f (y c) k c z U v U (s Q z) D (λd e=>bP<|E d e) w o;subst K;cases p;exact yZ h l A B S T _ k w o;refine uI 2 A B S T x (y c) k _ (J z)<|(Ym (h.bH<|g 2) l A B S T x (y c) k U).mono ?_;rintro L m⟨r,rfl,e⟩;exact⟨r,z,d e U U U⟩;refine uI 3 A B S T x (y c) k _ (bu<|J z)<|(Vl (h.bH<|g 3) l A B S T x (y c) k).mono ?_;rintro L m⟨r,rfl,e⟩;exact⟨r,z,d e U U U⟩;by_cases n:A<0->y c=0;refine uI 4 A B S T x (y c) k _ (bu<|bu<|J z)<|(Lk (h.bH<|g 4) l A B S T x (y c) k n).mono ?_;rintro L m⟨r,rfl,e⟩;exact⟨r,z,d e U U U⟩;let⟨aa,n⟩:=Classical.not_imp.1 n;obtain⟨⟨K,⟨p,q0⟩|⟨Q,f,O,p,v,D⟩⟩,s⟩|⟨K,_⟩:=i;omega;cases p;obtain _|⟨t,c⟩:=c;simp at n;refine uI 4 A B S T _ (y<|t::c) k _ (bu<|bu<|J z) ?_;exact RO (h.bH<|g 4) l A B S T Q f _ k t.D t.l t.dP U ar v U (s Q z) (D 0 _ z) (D 1 _ z) (D 2 _ z) (bP<|E t ar) w o;rw[K]at n;simp at n;(.go_call QY h A B S T x (y c) k as L m⟨r,rfl,e⟩;exact⟨r,z,d e U U U⟩);(.go_call UJ h l A B S T x (y c) k o as L m⟨r,rfl,e⟩;exact⟨r,z,d e U U U⟩);refine uI 8 A B S T x (y c) k _ (bu<|bu<|bu<|J z)<|(RP (h.bH<|g 8) A B S T x (y c) k U).mono ?_;rintro L m⟨r,rfl,e⟩;exact⟨r,z,d e U U U⟩;refine uI 9 A B S T x (y c) k _ (bu<|bu<|bu<|bu z)<|(Og (h.bH<|g 9) A B S T x (y c) k).mono ?_;rintro L m⟨r,rfl,e⟩;exact⟨r,z,d e U U U⟩;(.go_call KM h A B S T x (y c) k as L m⟨r,rfl,e⟩;exact⟨r,z,d e U U U⟩);go_call KN h A B S T x (y c) k o as L m⟨r,rfl,e⟩;exact⟨r,z,d e U U U⟩
end
structure Tq where
 kd:Y
 fl:Y
 nm:af
 bv:ae
 bs:eD
def Tq.bU(o:Tq):iF:=[ay o.kd,ay o.fl,aw o.nm,o.bv]
def Cu(b:cy Tq):iF:=b.flatMap Tq.bU
def uy(b:cy Tq)(i:R)(h:i<y b)(j:R)(c:j<4):(Cu b)[i*4+j]?=b[i].bU[j]?:=by
 induction b generalizing i with
 |nil=>simp at h
 |cons o b f=>
  have:Cu (o::b)=o.bU++Cu b:=rfl;have:y o.bU=4:=rfl;grind
structure ByA(w:Z)(v:ae)(bs:eD):Prop where
 S:∃x c,v=am x (y bs) c
 L:kj bs
 f:∀x c,v=am (M x) (y bs) c->bs≠[]->(∀j u,(bs.map<|Value.int .u8)[j]?=M u->bA w (x.add j)=M u)/\∃b off,x=X b off/\b<G (H w)
 l:v=am dE (y bs) 0\/∃x c,v=am (M x) (y bs) c
 o:v=am dE (y bs) 0->bs=[]
def ByA.D{w0 W:Z}{v:ae}{c:eD}{db:R}{K:DK}(h:ByA w0 v c)(m:y c<=1048576)(i:I aC w0 W)(k:∀p,K.j db p->G (H w0)<=p):ByS W db K v c:=by
 refine⟨h.S,h.L,m,λx r s f=>?_,h.l,h.o⟩;obtain⟨j,o,b,rfl,g⟩:=h.f x r s f;refine⟨λt u l=>?_,o,b,z,au g i.D,λq=>bP<|k o q⟩;have:=j t u l;rw[dS]at this|-;exact i.u this id g
def QE(b:cy Tq):R:=(b.map<|λo=>y o.bs).sum
structure B5(w:Z)(v:ae)(os:cy Tq):Prop where
 bV:Row w 4 v (y os) (Cu os)
 lt:∀k,cN v=M k->k<G (H w)
 bZ:∀o∈os,ByA w o.bv o.bs/\o.nm.size<=1048576
 L:QE os<=1048576
def XU(b:cy Tq)(i:R)(h:i<y b):QE (b.take<|i+1)=QE (b.take i)+y b[i].bs:=by
 unfold QE;rw[aG h,bz,eY];simp
def U8(b:cy Tq)(k:R):QE (b.take k)<=QE b:=by
 unfold QE;have c:=cD (λl=>(l.map (λo:Tq=>y o.bs)).sum)<|du k b;simp only[bz,eY]at c;omega
def G9{ts:dI}(h:∀t∈ts,nz t.ks):im ts<=200*y ts:=by
 induction ts with
 |nil=>simp[im]
 |cons t r f=>
  have:=G8<|h t ar;have b:=f (λu c=>h u<|by simp[c]);simp only[im,bO,ft,bK]at b|-;omega
structure GD(w0 W:Z)(a db:R)(mem ub:Y)(L n:R)(K:DK):Prop where
 g:∃sv hb,S4 W a db sv mem ub hb
 S:G (H w0)<=a
 o:1<=mem/\mem<=32/\2<=ub/\ub<=6
 f:cJ W db K
 D:qu K.fx
 t:Fy K L (12100000000+n)
 l:y K.l<=100000000000+n
 da:∀k,K.j db k->G (H w0)<=k/\k≠a
 aA:I aC w0 W
 g0:Steps w0/\Pow w0/\jP w0/\tg w0
section
variable{w0 W W':Z}{a db:R}{mem j6:Y}{L d n e:R}{K K':DK}
def Qq.gd{N:R}(h:Qq w0 W a L N):∃db mem j6 K,GD w0 W a db mem j6 L 0 K:=by
 let⟨db,j,k,mem,j6,l,o,p,r,b,m,F,h⟩:=h;obtain⟨K,rfl,c,f,g,i⟩:=h.dd;exact⟨db,mem,j6,K,⟨k,j,h.xh.g⟩,h.xh.S,h.xh.o,c,f,g,i,λb q=>⟨(h.da b q).1,λl=>(h.da b q).2.2<|J l⟩,h.xh.aA,h.xh.g0⟩
def GD.A{B m:R}(h:GD w0 W a db mem j6 L n K)(b:Dp W W' db K K' B m):GD w0 W' a db mem j6 (L+B) (n+m) K':=by
 let⟨j,i,c⟩:=h.g;have o:=h.aA.D;refine{h with g:=⟨j,i,(b.D.aA.A a (az c)<|λq=>(h.da a q).2 rfl).trans c⟩,f:=b.D.ok,D:=b.D.fx.D h.D,t:=by have:=b.t _ _ h.t;rwa[bJ]at this,l:=gW b.l h.l,da:=λk q=>?_,aA:=h.aA.aj b.D.aA (λk q=>bu (h.da k q).1)};obtain m9|m9:=b.D.j k q;exact h.da k m9;have:=az c;exact⟨U,U⟩
def GD.bH(h:GD w0 W a db mem j6 L n K)(b:I aC W W'):GD w0 W' a db mem j6 L n K:=by
 let⟨j,i,c⟩:=h.g;exact{h with g:=⟨j,i,(b.A a (az c) id).trans c⟩,f:=h.f.aA b<|λ_ _=>id,aA:=h.aA.t b}
def Fy.D{c:R}(h:Fy K L c)(b:(vw K'.ah).Perm (vw K.ah)):Fy K' L c:=⟨λp q=>h.dq p<|b.mem_iff.1 q,by have:=b.length_eq;rw[rS,rS]at this;rw[this];exact h.l⟩
def M3(h:GD w0 W a db mem j6 L n K)(hm:K.l=[])(hL:L<=217848576)(hn:n<=3000):cR bN 10 #[aJ db,ef #[ay mem,ay j6]] W λl W'=>I aC w0 W'/\W'.heap[a]?=W.heap[a]?/\((∃w v ab,l=aN (de #[aJ v,ic])/\Bb False w W' db v 2200000000 1 ab/\(∀k,ab k->G (H w0)<=k/\k<G (H W')))\/∃q,l=aN (de #[ee dE,eW q])/\tD W' q):=by
 have s:Steps W:=Steps.aA h.g0.1 h.aA id;have r:Pow W:=h.g0.2.1.aA h.aA id;have p:tg W:=h.g0.2.2.2.aA h.aA id id;have b:∀k,k<G (H w0)->¬K.j db k:=λk c q=>bP<|(h.da k q).1;have hz:=h.aA.D;have t:=h.t.l;have i:a<G (H W):=by let⟨sv,hb,hx⟩:=h.g;exact az hx
 have o:OpL W db K L:=⟨h.f,U,s,r,p,b _ h.g0.1.lt,b _ h.g0.2.1.lt,⟨b _ h.g0.2.2.2.lt.1,b _ h.g0.2.2.2.lt.2⟩,h.t.A,h.t.dL⟩;refine(GN (j5:=False) (j4:=K.ah.map dj.dA) (u7:=False) (m8:=λ_ _=>True) (EX:=True) (C0:=2199999969) (C:=2200000000) (N:=0) o U h.o (by rw[hm];simp;omega) U (λnx lg bt ac ad al an V T=>?_) U U U (by rw[cS];omega) False.elim (λx A _ _=>TH x A) (J h.D) False.elim).mono ?_
 .have f:y (ac++ad++al++an)<=10892428:=by
   obtain l|⟨_,l,_⟩:=V.L
   .have:=h.t.dL _ l;rw[BA]at this;omega
   .rw[l];simp
  refine⟨?_,λaa j c=>J ?_⟩
  .have g:=G9 (ts:=ac++ad++al++an)<|λt q=>(T t q).1;rw[iK,iK,iK]at g;omega
  .rw[nI]at c;cases hg:ij K.ah aa with
   |none=>rw[hg]at c;cases c
   |some g=>exact cC.2 ⟨g,(eM hg).2.1,(eM hg).1⟩
 rintro l w'(⟨rfl,x,j,aa,B,D,c1,E,c⟩|⟨q,rfl,_,hq,j,hd,u,hf,S,l1,l2,ho,O,P,Q⟩);let⟨rfl,F,_,_,_,m⟩:=c.bM;have:=c.D;have f:I (K.j x.f) W w':=c.eQ.aA.aT<|λk q=>q.elim J<|λg=>bu U;refine⟨h.aA.aj f<|λk q=>bu (h.da k q).1,f.A a i<|λq=>(h.da a q).2 z,J ⟨_,_,Bc x j<|G (H W)+2,z,J ⟨x,j,aa,B,D,c1,E,[],z,z,F,c.eQ.fx.D h.D,c.g,c.A⟩,λk q=>?_⟩⟩;obtain(q|q)|q:=q;have g:=c.eQ.ok.lt k q;obtain m9|m9:=c.j k q;exact⟨(h.da k m9).1,g⟩;exact⟨U,g⟩;have q:k=G (H W)+2:=q;omega;rw[m]at q;cases q;omega;exact⟨h.aA.aj u<|λk q=>bu (h.da k q).1,u.A a i<|λq=>(h.da a q).2 z,bu ⟨q,z,hq⟩⟩
def Z2{p:cy af}{f m c C N:R}{F:fC}(t:Bb False p W db m C N F)(b:∀k,F k->G (H w0)<=k/\k<G (H W))(o:I aC w0 W)(l:I aC W W')(u:G (H W)<=f)(s:G (H W)<=c)(j:f≠c)(h:W'.heap[f]?=M (aK #[aJ db,aJ m,aJ c,ay 0,ay 0,aF,aF] 57 (0,0)))(g:W'.heap[c]?=M (aK #[aF,aF,aO bD] 54 (0,0)))(r:Steps w0/\Pow w0/\jP w0):jZ False p w0 W' f db m c [] C N 0:=by
 have:=l.D;have:=o.D;have hF:∀k,G (H W)<=k->¬F k:=λk g q=>bP<|(b k q).2;refine⟨(dE,aF),aF,aF,F,[],([],[]),bD,ar,h,⟨⟨⟨_,g,⟨z,J ⟨z,z⟩⟩,z⟩,ar,ar⟩,⟨⟨z,J ⟨z,z⟩⟩,ar,ar,ar⟩,ct _ _ _ _,λk _ _ _ i=>(by cases i),rfl,ar,λk i=>(by cases i)⟩,t.mC l cY cY ⟨id,id⟩,ar,⟨⟨_,_,_,rfl⟩,_,_,_,rfl⟩,o.t l,⟨λk q=>⟨(b k q).1,bP<|(b k q).2⟩,U,U⟩,hF _ u,hF _ s,λk q=>?_,ar,j,r⟩;obtain q|q|⟨x,v,_⟩:=q;cases q;cases q;cases v
end
def GDs(d W:Z)(e L n:R):Prop:=∃b a c K,GD d W e b a c L n K
def SH(ds ps ss:Option Addr)(os:cy Xr)(c:cy Tq)(g:cy Xj)(dc pc sc:R)(n5 dr:Y)(hd:os=[]\/∃o b,ds=M (X o b)/\Uq a (bX o b (y os) dc) os)(cb:y os<=349525)(hq:c=[]\/∃o b,ps=M (X o b)/\B5 a (bX o b (y c) pc) c)(hr:g=[]\/∃o b,ss=M (X o b)/\Tr a (bX o b (y g) sc) g)(hS:Steps a)(hP:Pow a)(hE:jP a)(bq:tg a)(ca:cR bN 4 #[] a λt w'=>t=aN (aO cz)/\I aC a w'):cR bN 3 #[am ds (y os) dc,ay n5,ay dr,am ps (y c) pc,am ss (y g) sc] a λt w'=>t=aN (aO cz)/\I aC a w':=by
 have ch:∀W,I aC a W->cR bN 5 #[am ds (y os) dc] W λt w'=>Xb t/\I aC a w':=λW p=>by obtain rfl|⟨o,b,rfl,hd⟩:=hd;(.go_call Rm ds dc W as t w'⟨h1,q,rfl⟩;exact⟨h1,p.t<|gP _ _ _⟩);go_call Rn o b dc os {hd with bV:=p.bV hd.bV<|λaD hk=>⟨id,hd.lt aD hk⟩,lt:=λaD hk=>au (hd.lt aD hk) p.D,L:=λcx ho=>⟨(hd.L cx ho).1.aA p<|λ_ _=>id,(hd.L cx ho).2⟩}as t w'⟨h1,q,rfl⟩;exact⟨h1,p.t<|gP _ _ _⟩
 have cj:∀W,I aC a W->cR bN 6 #[am ss (y g) sc] W λt w'=>Xb t/\I aC a w':=λW p=>by obtain rfl|⟨o,b,rfl,hd⟩:=hr;(.go_call Rh ss sc W as t w'⟨h1,q,rfl⟩;exact⟨h1,p.t<|gP _ _ _⟩);go_call Ri o b sc g {hd with bV:=p.bV hd.bV<|λaD hk=>⟨id,hd.lt aD hk⟩,lt:=λaD hk=>au (hd.lt aD hk) p.D,L:=λcx ho=>⟨(hd.L cx ho).1.aA p<|λ_ _=>id,(hd.L cx ho).2⟩}as t w'⟨h1,q,rfl⟩;exact⟨h1,p.t<|gP _ _ _⟩
 have bL:∀W,I aC a W->cR bN 7 #[am ds (y os) dc,ay n5,ay dr] W λt W'=>∃e d,t=aN (de #[aJ e,aO d])/\GDs a W' e 216800000 0:=λW p=>by go_call SL ds os dc n5 dr hd cb p hS hP hE bq as t W'⟨e,d,rfl,h⟩;exact⟨e,d,z,h.gd⟩
 have bT:Steps a/\Pow a/\jP a:=⟨hS,hP,hE⟩;clear hS hP hE bq hd cb;go_in
 go_wp21;go_call ca as t W1⟨rfl,ck⟩;have h2:=ch W1 ck;clear ca ch ck;go_wp21;go_call h2 as t W2⟨⟨cM,rfl⟩,cl⟩;have h3:=cj W2 cl;clear h2 cj cl;go_wp21;go_call h3 as t W3⟨⟨cB,rfl⟩,ao⟩;have h4:=bL W3 ao;clear h3 bL;by_cases S:cM=cz/\cB=cz/\y c<=1000;rotate_left;(.cases cM;(.go_wp2;go_ret;exact⟨z,ao⟩);cases cB;(.go_wp2;go_ret;exact⟨z,ao⟩);(have e1:(1000:Y)<(y c:Y):=by have:¬y c<=1000:=λq=>S ⟨z,z,q⟩;omega);clear S;go_wp2;go_ret;exact⟨z,ao⟩);obtain⟨rfl,rfl,dT⟩:=S;have e1:¬(1000:Y)<(y c:Y):=U;go_wp21;go_call h4 as t W4⟨e,b4,rfl,cu⟩;clear h4 e1;go_wp21;go_loopw [16] (λiv wr=>∃i:R,i<=y c/\iv=ay i/\GDs a wr e (216800000+QE (c.take i)) (3*i)) (λiv _=>y c-(intOf iv).toNat)
 exact⟨0,bQ _,z,by simpa[QE]using cu⟩;(.obtain⟨i,hi,rfl,db,B,j6,cT,u⟩:=hrel;by_cases d:i<y c;(.obtain rfl|⟨o,b,rfl,hq⟩:=hq;simp at d;have e2:(i:Y)<(y c:Y):=U;have f:o<G (H a):=hq.lt o z;(have l:∀W,I aC a W->(bA W (X o<|b+i*4)=M (ay c[i].kd)/\bA W (X o<|b+i*4+1)=M (ay c[i].fl)/\bA W (X o<|b+i*4+2)=M (aw c[i].nm)/\bA W (X o<|b+i*4+3)=M c[i].bv)/\y c<=pc:=λW p=>by obtain⟨q1,⟨q2,q0⟩|⟨g',cp,bp,q2,bf,F⟩⟩:=hq.bV;cases q2;cases q2;refine⟨⟨p.u (F _ _<|(uy c i d 0 U).trans z) id f,?_,?_,?_⟩,bf⟩;rw[bJ];exact p.u (F _ _<|(uy c i d 1 U).trans z) id f;rw[bJ];exact p.u (F _ _<|(uy c i d 2 U).trans z) id f;rw[bJ];exact p.u (F _ _<|(uy c i d 3 U).trans z) id f);let⟨⟨c0,c1,c2,c3⟩,aa⟩:=l wr u.aA;let⟨n,N⟩:=hq.bZ _<|aB d;have C:=XU c i d;have Q:=U8 c<|i+1;have an:=hq.L;have K:y c[i].bs<=1048576:=U;have j:=n.D (db:=db) (K:=cT) K (u.bH<|cf aC wr).aA<|λaD q=>(u.da aD q).1;have s:=UQ c[i].kd c[i].fl c[i].nm (u.bH<|cf aC wr).f u.D u.t U (bP u.l) (by unfold Nm;omega) j;let⟨sv,hb,r⟩:=u.g;have x0:=aX r 0;(have k:∀W' b,Dp wr.drew W' db cT b (y c[i].bs) 3->GDs a W' e (216800000+QE (c.take<|i+1)) (3*(i+1)):=λW' b hs=>by have:=(u.bH<|cf aC wr).A hs;rw[C,show 216800000+(QE (c.take i)+y c[i].bs)=216800000+QE (c.take i)+y c[i].bs by omega,show 3*(i+1)=3*i+3 by omega];exact⟨_,_,_,_,this⟩);let⟨V,T,w⟩:=n.S;rw[w]at c3 s;generalize c[i].kd=kd at*;generalize c[i].fl=fl at*;generalize c[i].nm=m at*;generalize y c[i].bs=E at*;have f1:¬(1048576:Y)<(E:Y):=U;have f2:(0:Y)<=(i:Y):=U;clear u n N C Q an j r w l;go_wp21;rename_i KK O;have P:bA wr.drew (X e 0)=M (aJ db)/\bA wr.drew (X o<|b+i*4)=M (ay kd)/\bA wr.drew (X o<|b+i*4+1)=M (ay fl)/\bA wr.drew (X o<|b+i*4+2)=M (aw m)/\bA wr.drew (X o<|b+i*4+3)=M (am V E T):=⟨x0,c0,c1,c2,c3⟩;refine kG (λA=>bA A (X e 0)=M (aJ db)/\bA A (X o<|b+i*4)=M (ay kd)/\bA A (X o<|b+i*4+1)=M (ay fl)/\bA A (X o<|b+i*4+2)=M (aw m)/\bA A (X o<|b+i*4+3)=M (am V E T)) 8 aH ?_;refine lX 0 ?_;(iterate 8 (refine zv P ?_;simp only[ii,eh,fU,ke]));apply qj;refine gO 8 ?_;intro K9 v;go_simp;go_call s as t W5⟨⟨v5,rfl⟩,K5,x⟩;have D:=ak<|k W5 K5 x;refine v _ _ (λq=>U) ?_;refine kS aH ?_ _;show KK _ _;apply O;clear x v O P s k;go_wp2;go_roundw;exact⟨i+1,d,dM,D⟩;simp[intOf];omega);(.have S:i=y c:=U;subst S;have e2:¬(y c:Y)<(y c:Y):=U;rw[cQ]at u;(have an:QE c<=1048576:=by obtain rfl|⟨o,b,rfl,hq⟩:=hq;simp[QE];exact hq.L);let⟨sv,hb,r⟩:=u.g;have x0:=aX r 0;have xf:=cV (i:=0) r;have cv:=az r;have bv:=PW u.f u.f.kh;clear hq;go_wp21;go_call bv as t W5⟨n,K5,rfl,bx,cd,bg,bE,ap,cm,_,_⟩;have k:=u;have ad:=(ap.A e cv id).trans r;have y0:=aX ad 0;have yf:=cV (i:=0) ad;have v:S4 (cP W5 (X e 0)<|aJ n) e n sv B j6 hb:=(aY ad).trans z;have hz:=k.aA.D;have eb:=ap.D;(have w:∀aD,K5.j n aD->G (H a)<=aD/\aD≠e:=λaD q=>by have:=bE aD q;exact⟨U,U⟩);have ab:GD a (cP W5 (X e 0)<|aJ n) e n B j6 (216800000+QE c) (3*y c) K5:=⟨⟨sv,hb,v⟩,k.S,k.o,bx.aA (fK W5 e 0<|aJ n)<|λaD q t=>(w aD q).2 t,by rw[cm];exact k.D,k.t.D cd,by rw[bg];simp,w,(k.aA.t ap).aj (fK W5 e 0<|aJ n)<|λaD t=>bu (by rw[show aD=e from t];exact k.S),k.g0⟩;let⟨W6,bd⟩:∃W6,cP W5 (X e 0) (aJ n)=W6:=⟨_,rfl⟩;rw[bd]at ab v;have cc:=M3 (ab.bH<|cf aC W6) bg (bP an) U;have t6:=ab.aA;have s0:=aX v 0;have s2:=aX v 2;have s3:=aX v 3;let⟨bl,bn,bi⟩:=eU cc bd v;clear cc bd v ab w ad bx cd bg bE ap cm k u an r x0 xf bv;go_wp21;rename_i KK O;rw[ag bn];have P:bA W6.drew (X e 0)=M (aJ n)/\bA W6.drew (X e 2)=M (ay B)/\bA W6.drew (X e 3)=M (ay j6):=⟨s0,s2,s3⟩;refine cX (λA=>bA A (X e 0)=M (aJ n)/\bA A (X e 2)=M (ay B)/\bA A (X e 3)=M (ay j6)) 13 aH ?_;refine dH 0 ?_;(iterate 8 (refine fX P ?_;simp only[ii,eh,fU,ke]));apply eS;refine aW 8 ?_;intro K8 br;go_simp;go_call bl as t W7⟨av,cn,bt⟩;have E:S4 W7 e n sv B j6 hb:=cn.trans<|ag bi;have ac:bA W7 (X e 0)=M (aJ n)/\bA W7 (X e 2)=M (ay B)/\bA W7 (X e 3)=M (ay j6):=⟨aX E 0,aX E 2,aX E 3⟩;(obtain⟨ec,dv,rfl⟩:∃sv a,t=aN (de #[sv,a]):=by obtain⟨A,j3,ei,rfl,_⟩|⟨q,rfl,_⟩:=bt<;>exact⟨_,_,z⟩);refine br _ _ (λ_=>ac) ?_;refine dH 9 ?_;(iterate 3 (refine fX ac ?_;simp only[ii,eh,fU,ke]));apply eS;refine aW 12 ?_;intro dd aU;go_simp;refine aU _ _ (λ_=>ac) ?_;refine aW 13 ?_;intro dk aV;go_simp;refine aV _ _ wX ?_;refine dG aH ?_ _;show KK _ _;apply O;clear br aU aV O P ac s0 s2 s3 bi bn y0 yf bl cn;obtain⟨A,j3,ei,K,m,s⟩|⟨q,K,ce⟩:=bt;rotate_left;(.injection K with K;injection K with K;simp only[pD,iM,rH]at K;obtain⟨rfl,rfl⟩:=K;(have N:uc W7 (eW q):=by let⟨c6,F,h1⟩:=ce;exact bu<|bu ⟨q,z,c6,F,h1⟩);let⟨tn,al,C,x⟩:=kM N<|bT.2.2.aA av id;have T:=x _<|I.bI aC _;(have b0:(tn==0)=bD:=by simpa usingλt=>by have:=C.1 t;simp[eW]at this);(have b1:(tn !=0)=cz:=by simpa usingλt=>by have:=C.1 t;simp[eW]at this);have:¬tn<0:=U;have ax:∀a:Z,(binOp .eql 36 (ee dE)<|ee dE).run bN a=.ok (aO cz) a:=λ_=>rfl;clear x N C ce al;go_wp21;go_call T as t W8⟨rfl,Q⟩;have V:=ak<|av.t<|I.p (S:=aC) Q;clear T Q;go_wp2;go_ret;exact⟨z,V⟩);injection K with K;injection K with K;simp only[pD,iM,rH]at K;obtain⟨rfl,rfl⟩:=K;have:∀a:Z,(binOp .eql 36 (aJ j3)<|ee dE).run bN a=.ok (aO bD) a:=λ_=>rfl;have bm:=ak<|And.intro m s;clear m s;go_wp21;go_call oz W7 as t W8⟨rfl,Q⟩;have aa:I aC W7 W8:=I.p Q;have ba:S4 W8 e n sv B j6 hb:=(aa.A e (az E) id).trans E;have x0:=aX ba 0;let⟨m,s⟩:=ag bm;let⟨W9,D⟩:∃W9,dw (dw W8<|aK #[aF,aF,aO bD] 54) (aK #[aJ n,aJ j3,aJ<|G<|H W8,ay 0,ay 0,aF,aF] 57)=W9:=⟨_,rfl⟩;(have j:jZ False A a W9 (G (H W8)+1) n j3 (G<|H W8) [] 2200000000 1 0:=by rw[<-D];refine Z2 m s av (aa.t<|(cI aC W8).aE _) (bP aa.D) (bP aa.D) U ?_ ?_ bT;exact aQ _ ar;grind[gy,aQ]);have bk:=ak j;have bo:=ak D;clear j D m s bm av E Q aa ba;go_wp21;have j:=ag bk;have D:=ag bo;rw[D];let⟨wb,bh⟩:∃wb,G (H W8)+1=wb:=⟨_,rfl⟩;rw[bh]at j;(try rw[bh]);generalize G (H W8)=rb at*;clear D bk bo bh x0;(go_loopw [21] (λiv wr=>∃i:R,i<=y g/\i<=1000/\iv=ay i/\jZ False A a wr wb n j3 rb [] (2200000000+8*i) (1+i) (8*i)) (λiv _=>y g-(intOf iv).toNat));exact⟨0,bQ _,bQ _,z,j⟩;(.obtain⟨i,hi,dx,rfl,hL⟩:=hrel;by_cases d:i<y g;rotate_left;(.have e3:¬(i:Y)<(y g:Y):=U;have bc:=ak hL.aA;clear hL j;go_wp2;go_ret;exact⟨z,bc⟩);have:(i:Y)<(y g:Y):=U;by_cases T:i<1000;rotate_left;(.have e4:¬(i:Y)<1000:=U;have bc:=ak hL.aA;clear hL j;go_wp2;go_ret;exact⟨z,bc⟩);have:(i:Y)<1000:=U;have:(0:Y)<=(i:Y):=U;obtain rfl|⟨o,b,rfl,hr⟩:=hr;simp at d;have f:o<G (H a):=hr.lt o z;have x:=hL.aA;(have l:(bA wr (X o<|b+i*6)=M (ay g[i].kd)/\bA wr (X o<|b+i*6+1)=M (ay g[i].A)/\bA wr (X o<|b+i*6+2)=M (ay g[i].B)/\bA wr (X o<|b+i*6+3)=M (aw g[i].S)/\bA wr (X o<|b+i*6+4)=M (aw g[i].T)/\bA wr (X o<|b+i*6+5)=M g[i].L)/\y g<=sc:=by obtain⟨q1,⟨q2,q0⟩|⟨g',cp,bp,q2,bf,F⟩⟩:=hr.bV;cases q2;cases q2;refine⟨⟨x.u (F _ _<|(ml g i d 0 U).trans z) id f,?_,?_,?_,?_,?_⟩,bf⟩;rw[bJ];exact x.u (F _ _<|(ml g i d 1 U).trans z) id f;rw[bJ];exact x.u (F _ _<|(ml g i d 2 U).trans z) id f;rw[bJ];exact x.u (F _ _<|(ml g i d 3 U).trans z) id f;rw[bJ];exact x.u (F _ _<|(ml g i d 4 U).trans z) id f;rw[bJ];exact x.u (F _ _<|(ml g i d 5 U).trans z) id f);let⟨⟨c0,c1,c2,c3,c4,c5⟩,ea⟩:=l;have al:=hr.L _<|aB d;have m:=hr.f _<|aB d;let⟨lx,lc,bs⟩:=sZ al.1;generalize g[i]=cx at*;let⟨kd,ed,eg,dn,T',ek,cs⟩:=cx;simp only at c0 c1 c2 c3 c4 c5 al m bs;subst bs;(have ax:∀W,jZ False A a W wb n j3 rb [] (2200000000+8*i+8) (1+i+1) (8*i+8)->jZ False A a W wb n j3 rb [] (2200000000+8*(i+1)) (1+(i+1)) (8*(i+1)):=λW q=>by rwa[show 2200000000+8*(i+1)=2200000000+8*i+8 by omega,show 1+(i+1)=1+i+1 by omega,show 8*(i+1)=8*i+8 by omega]);have V:=λW(q:I aC wr W)=>Ro<|hL.bH q;have C:=λ(hk:kd≠6)W(q:I aC wr W)=>XP ⟨kd,ed,eg,dn,T',am lx (y cs) lc,cs⟩ (hL.bH q) U hk al m.1 U U;simp only[zc]at C;have j:=ak hL;clear hL al m x f hr;by_cases co:kd=12;(.subst co;go_wp21;go_call V _ (cI aC wr)as t cr⟨ej,rfl,N⟩;have bb:=ak<|ax _<|N.aT (xe _ _) U (xe _ _) U<|xe _ _;clear N V C j ax;go_wp2;go_roundw;exact⟨i+1,d,T,dM,ag bb⟩;simp[intOf];omega);have:(kd==12)=bD:=dV co;by_cases k6:kd=6;(.subst k6;go_wp2;go_roundw;exact⟨i+1,d,T,dM,(j.bH<|cI _ wr).aT U U U U U⟩;simp[intOf];omega);have:(kd==6)=bD:=dV k6;have:(kd !=6)=cz:=dV k6;have hs:=C k6 (dw wr<|aK #[ay kd,ay ed,ay eg,aw dn,aw T',am lx (y cs) lc] 60)<|cI aC wr;go_wp21;go_call hs as t cr⟨ej,rfl,N⟩;have bb:=ak<|ax _ N;clear N V C j ax hs;go_wp2;go_roundw;exact⟨i+1,d,T,dM,ag bb⟩;simp[intOf];omega)))
def Yt{j:R}(h:fE a b c 1 (bX k 0 n T) n (m.map<|Value.int .u8))(s:j<=y m):fE a b c 1 (bX k 0 j T) (y<|m.take j) ((m.take j).map<|Value.int .u8):=by
 obtain⟨p,⟨l,_⟩|⟨v,i,d,o,q,r,t,e,f,g⟩⟩:=h;cases l;cases o;have u:y m=n:=dV p;refine⟨ar,bu ⟨k,T,d,by rw[dX,yU s],q,r,by rw[dX];omega,e,f,?_⟩⟩;rw[List.map_take,<-g,zm,dX];congr 1;omega
def WH{K:DK}{ac:dj}{n:R}(h:cJ a b K)(hf:K.ah=[ac])(hs:K.sm=[(ac.dA,lq<|M ac.l)])(hm:K.l=[])(hn:ac.D=n/\n<=y ac.bB)(aa:0<y ac.bB):cR bN 16 #[aJ b,bw 0,bw 0] a λf w'=>f=aN (de #[])/\∃C bT,pT a w' b K C/\C.ah=[⟨ac.dA,ac.l,bT,ac.bB.take n,n⟩]/\C.l=[]:=by
 have hl:y ac.bB<=1099511627776:=h.dL (by rw[hf];simp);have aU:=h.o;rw[hm]at aU;obtain⟨mx,mc,bs⟩:=aM aU;have cr:=@tE bN;have e:=h.S;rw[bs]at e;have c0:=aX e 0;have c1:=aX e 1;have c2:=aX e 2;have c4:=aX e 4;have c5:=aX e 5;have f0:=cV (i:=0) e;have f2:=cV (i:=2) e;have f4:=cV (i:=4) e;have f5:=cV (i:=5) e;have al:=ak h.D;have HD:=ak h;have cn:=az e;have hF:=h.ah ac (by rw[hf];simp);have bl:b≠K.sb:=h.D.qd e;obtain⟨s,m⟩:=oh<|dw (cP (cP (cP (cP a (X b 0)<|.map<|M<|G<|H a) (X b 2) aF) (X b 4)<|ay 0) (X b 5)<|ay 0)<|.map #[] 0;have L:I (λk=>k=b) a s:=by rw[<-m];exact((((fK a b 0 _).aL b 2 _<|J z).aL b 4 _<|J z).aL b 5 _<|J z).aE _
 have cv:G (H s)=G (H a)+1:=by rw[<-m];simp
 have P:lV s b (G<|H a) K.sb aF {K.fx with wt:=0,bd:=0}:=by unfold lV;rw[<-m];exact(gy _ dW).trans<|(aY<|aY<|aY<|aY e).trans z
 have A:iP s (G<|H a) []:=⟨#[],0,by rw[<-m];exact aQ _ ar,z,sG 0⟩;have ab:iP s K.sb K.sm:=h.D.aA L<|λf=>bl f.symm;have j:ac.l≠b/\cN ac.A≠M b:=⟨lk hF.1 e cg,ue hF.2.1 e cg⟩;have bh:sB s ac:=hF.aA L j.1<|λk f c=>j.2 (by rw[f];grind);clear h aU e hF;go_in
 go_wp2_with fail
 refine iX 1 ?_;rw[io];have cj:=ak m;obtain⟨bb,B,ad,ca,ch⟩:=oa P A ab bh L;clear P A ab bh L m al
 go_wp2_with(first
  |(at_range;rw[ag cj];refine oK _ z _ 86 z 9 90 underlying86 K.sb _ z ad ?_;intro w0 S bn cs;have cb:=ak S;have bf:=ak bn;clear S bn))
 obtain⟨ao,c,ck,d,cl⟩:=ac;simp only at*;obtain⟨rfl,W⟩:=hn;obtain⟨F,q2,q3⟩:=ag ca;simp only at F q2 q3;have i:I aC s w0:=I.eF bf ar;have a1:=(i.A c (az F) id).trans F;obtain⟨g,u,cp,_,_,co⟩:=vy q2 aa;subst cp;have cT:=(i.A b (az<|ag bb) id).trans<|ag bb;refine iX 2 ?_;rw[io]
 go_wp2_with(first
  |(at_next;refine ot _ z _ z K.sb (G (H s)) _ _ z cb ?_ ?_))
 intro aV pk pv bx w2 o V bo cu bm;obtain⟨rfl,rfl,rfl,rfl⟩:aV=[]/\pk=ao/\pv=lq (M c)/\bx=[]:=by obtain _|⟨bT,aV⟩:=aV;simp at o;exact⟨z,o.1.1.symm,o.1.2.symm,o.2⟩;simp at o
 simp only[lq]at bm;have p:I (λk=>k=G (H a)+1) w0 w2:=gI bo;have cm:c<G (H s):=az F;have a2:=(p.A c (bP i.D) (λf=>by have D:c=G (H a)+1:=f;omega)).trans a1;have an:=(p.A b (bP i.D) (λf=>by have D:b=G (H a)+1:=f;omega)).trans cT;have y0:=aX a2 0;have y1:=aX a2 1;have z0:=cV (i:=0) a2;have z1:=cV (i:=1) a2;have x0:=aX an 0;have v1:IntKind.i64.wrap ((y d:Y)-(n:Y))=(y d:Y)-n:=by rw[bR];omega
 have v2:IntKind.i64.wrap ((y d:Y)-(n:Y)+1)=(y d:Y)-n+1:=by rw[bR];omega
 have v3:IntKind.u64.wrap ((y d:Y)-(n:Y)+1)=(y d:Y)-n+1:=by rw[dY];omega
 have v4:((y d:Y)-(n:Y)+1==0)=bD:=by rw[nE];omega
 have v5:(0:Y).tmod ((y d:Y)-(n:Y)+1)=0:=Int.zero_tmod _;go_wp2_with fail
 go_quiet(fail)
 rename_i nq;have v6:IntKind.i64.wrap ((n:Y)+0)=(n:Y):=by rw[bR];omega
 have v7:(0:Y)<=(n:Y):=U;have v8:(n:Y)<=(u:Y):=U;go_wp2_with fail
 rename_i KK bk;obtain⟨n9,hU⟩:=oh<|w2.drewN nq;have tU:I aC w2 n9:=by rw[<-hU];exact gP _ _ _
 have bg:=(tU.A c (az a2) id).trans a2;rw[hU];have w:bA n9.drew (X c 0)=M (bX g 0 (y d) u)/\bA n9.drew (X c 1)=M (ay n)/\iI n9.drew (X c 0)=bD:=⟨aX bg 0,aX bg 1,cV (i:=0) bg⟩;refine cX (λj4=>bA j4 (X c 0)=M (bX g 0 (y d) u)/\bA j4 (X c 1)=M (ay n)/\iI j4 (X c 0)=bD) 14 aH ?_;refine dH 0 ?_;iterate 11 (refine fX w ?_;simp only[ii,eh,fU,ke])
 refine vg (v:=bX g 0 n u) w z aH wP z ?_ ?_;(.rintro j4⟨z0,z1,z2⟩;(have x:(Instr.sliceAt 31 (bX g 0 (y d) u) dE (M<|ay n) dE).run bN j4=.ok (bX g 0 n u) j4:=by go_simp);show(execOp _ _).run _ _=_;(have v9:IntKind.i64.wrap (n:Y)=(n:Y):=by rw[bR];omega);simp[execOp,Act.eval,v9,x,Result.andThen]);simp only[ii,eh,fU,ke];apply eS;refine aW 12 ?_;intro dd N;go_simp;refine N _ _ (λ_=>w) ?_;try simp only[ii,eh,fU]
 clear N;refine aW 13 ?_;intro dk O;go_simp;refine O _ _ (λ_=>w) ?_;try simp only[ii,eh,fU]
 clear O;refine aW 14 ?_;intro K1 bi;go_simp;refine bi _ _ wX ?_;try simp only[ii,eh,fU]
 clear bi w;refine dG aH ?_ _;show KK _ _;apply bk;clear bk;obtain⟨bL,hV⟩:=oh<|(cP n9 (X c 0)<|bX g 0 n u).drew;have tV:I (λk=>k=c) n9 bL:=by rw[<-hV];exact((fK n9 c 0 _)).t<|cf aC _
 have ba:bL.heap[c]?=M (aK #[bX g 0 n u,ay n] 93 (0,0)):=by rw[<-hV];exact(aY bg).trans z
 rw[hV];have cM:G (H w2)=G (H a)+2:=U;have aD:c≠b:=j.1;have cB:=tU.D;have t:bL.heap[b]?=M (aK #[.map<|M<|G<|H a,.map<|M K.sb,aF,ay K.fx.d,ay 0,ay 0,ay K.fx.L,ay K.fx.f] 89 (0,0)):=(tV.A b U<|λf=>aD<|Eq.symm f).trans<|(tU.A b U id).trans an;have mN:∀bv x,iP (bL.setCell (X c bv) x) (G<|H a) []:=λbv x=>by have m0:=(ag B).aA i id;have m2:=m0.aA p (λf=>by have D:G (H a)=G (H a)+1:=f;omega);have m3:=(m2.aA tU id).aA tV (λf=>by have D:G (H a)=c:=f;exact(ag B).qd F D.symm);exact m3.aA (fK bL c bv x) (λf=>by have D:G (H a)=c:=f;exact(ag B).qd F D.symm)
 have y0:=aX ba 0;have y1:=aX ba 1;have z1:=cV (i:=1) ba;have x0:=aX t 0;have ce:=ak mN;clear mN
 go_wp2_with(first
  |(at_mapUpdate;go_loud(refine zt _ z _ _ _ 86 z 9 90 underlying86 underlying9 (G (H a)) [] z (ce 1 (ay n)) pk _ z z ?_;intro w5 br bp;have cd:=ak br;have cc:=ak bp;clear br bp)))
 have tS:I (λk=>k=c) bL (bL.setCell (X c 1)<|ay n):=fK bL c 1 _;have t5:I (λk=>k=G (H a)) (bL.setCell (X c 1)<|ay n) w5:=gI cc;have r:I (λk=>k=c\/k=G (H a)) w2 w5:=(((tU.aT (T:=λk=>k=c\/k=G (H a)) cY).aj tV<|λ_ q=>J<|J q).aj tS<|λ_ q=>J<|J q).aj t5<|λ_ q=>J<|bu q;have ax:c≠K.sb:=ad.qd F;have E:G (H a)≠K.sb:=λf=>bP<|(ag HD).D.lt;have bt:c≠G (H a):=B.qd F;have bq:K.sb<G (H a):=(ag HD).D.lt;have g5:qg w5 K.sb (G (H a)+1) [(pk,lq<|M c)] []:=V.qT (r.A _ U<|λq=>q.elim (λf=>ax f.symm)<|λf=>E f.symm)<|r.A _ U<|λq=>q.elim (λf=>U)<|λf=>U;have HG:=ak g5;have cx:=r.D;have bE:I (λk=>k=b\/k=c) a w5:=((((ch.aT (T:=λk=>k=b\/k=c)<|λ_ q=>J<|J q).t i).aj p<|λk f=>bu (by have D:k=G (H a)+1:=f;omega))).aj r<|λk q=>q.elim (λf=>J<|bu f)<|λf=>bu U
 have Q:∃C bT,pT a w5 b K C/\C.ah=[⟨pk,c,bT,d.take n,n⟩]/\C.l=[]:=by
  have hH:=ag HD;have ap:(⟨pk,c,bX g 0 (y d) u,d,n⟩:dj)∈K.ah:=by rw[hf];simp
  have av:=hH.ah _ ap;have dn:g≠c:=λf=>ue av.2.1 av.1 cg (by show M g=M c;rw[f]);have db:g<G (H s):=(q2.lt g z).2;have dc:g<G (H a):=(av.2.1.lt g z).2;have tt:I (λk=>k=c\/k=G (H a)\/k=G (H a)+1) s w5:=((i.aT (T:=λk=>k=c\/k=G (H a)\/k=G (H a)+1) cY).aj p<|λ_ q=>J<|bu<|bu q).aj r<|λ_ q=>J<|q.elim J<|λq=>bu<|J q;refine⟨{K with nb:=G<|H a,mv:=aF,ah:=[⟨pk,c,bX g 0 n u,d.take n,n⟩],l:=[],qP:=[],fx:={K.fx with wt:=0,bd:=0}},bX g 0 n u,⟨⟨?_,cd,?_,E,ct _ _ _ _,ar,?_,ar,⟨ar,ar⟩,?_,hH.v,ar,ar,.nil⟩,?_,?_,⟨λ_=>⟨ar,ar⟩,rfl,λ_=>rfl,rfl⟩⟩,rfl,rfl⟩
  .exact(t5.A b (by rw[gK];exact az t) (λf=>by have D:b=G (H a):=f;omega)).trans<|(tS.A b (az t)<|λf=>aD<|Eq.symm f).trans t
  .have:=ad.aA tt (λq=>by obtain f|f|f:=q;exact ax f.symm;exact E f.symm;omega);exact this
  .intro ds x;simp at x;subst x;refine⟨?_,?_,λbT hx=>q3.1 bT<|iy hx,ar,by simp;omega,by simp;omega⟩
   .exact(t5.A c (by rw[gK];exact az ba)<|λf=>bt f).trans<|(aY ba).trans z
   .have ho:=tt.aZ q2 (λk hk q=>by
     have dr:g=k:=by simpa[cN]using hk
     obtain f|f|f:=q<;>omega)
    exact Yt ho W
  .have h1:=hH.d;rw[hf]at h1;simp[fw]at h1|-;omega
  .exact bE.aT (λk q=>J (by
    obtain rfl|rfl:=q
    .exact J z
    .exact bu (bu (bu (bu (bu ⟨_,gY _ ap,J z⟩))))))
  .rintro k(f|f|f|f|⟨g9,hy,_⟩|⟨ds,x,f⟩)
   .exact J<|J f
   .exact bu (by have D:k=G (H a):=f;omega)
   .exact J<|bu<|bu<|J f
   .cases f
   .cases hy
   .simp at x;subst x;refine J<|bu<|bu<|bu<|bu<|bu ⟨_,gY _ ap,?_⟩;obtain f|f:=f
    .exact J f
    .exact bu<|by simpa[cN]using f
 have bc:=ak Q;clear Q bE cx g5 bq bt E ax r t5 tS y0 y1 z1 x0 t cB aD cM ba tV hV bg tU hU v1 v2 v3 v4 v5 v6 v7 v8 a2 an p cm bm V bo cu o a1 cT i F q2 q3 z0 j c0 c1 c2 c4 c5 f0 f2 f4 f5 cr bs cn bl hm hs hf co aa hl W cv cs;rw[io]
 go_wp2_with(first
  |(at_next;refine ot _ z _ z K.sb (G (H a)+1) _ _ z HG ?_ ?_))
 go_end0;obtain⟨C,bT,h1,x,h3⟩:=ag bc;exact⟨z,C,h1,⟨bT,x⟩,h3⟩
def WQ:MZ:=⟨⟨#[107]⟩,⟨#[118]⟩,bD⟩
def zab:MZ:=⟨⟨#[108]⟩,⟨#[119]⟩,bD⟩
def Ft:E:=qf 1 WQ
def JX:Ft.Good:=by
 constructor<;>simp[Ft,qf,WQ,ByteArray.size]
def TY{W:Z}{j3:R}(c:MZ)(t:TypeId)(f:j3<G (H W)):∀W',I (λk=>k=j3) (dw W<|aK #[aw c.D,aw c.l,aO c.dP] t) W'->FN W' (bX (G<|H W) 0 1 1) [c]:=by
 intro W' g;have b:=jp W<|aK #[aw c.D,aw c.l,aO c.dP] t;have h:=az b;have a:W'.heap[G<|H W]?=_:=(g.A (G<|H W) h U).trans b;refine J ⟨⟨z,bu ⟨G<|H W,0,1,z,aq _,λj u d=>?_⟩⟩,λk e=>by cases e;exact az a⟩;rw[ez,cE a];simpa[gM,oI]using d
def T2(f:Fg):Prop:=f.bd=0/\f.d=1099511627776/\f.l=bD
def T2.no{f:Fg}(h:T2 f):¬Jc f:=by
 let⟨b,c,a⟩:=h;rintro((q|q)|q);rw[a]at q;cases q;omega;omega
def T2.fx{f g:Fg}(h:T2 f)(k:Fx f g):T2 g:=⟨k.bd h.1,k.d.trans h.2.1,k.l.trans h.2.2⟩
structure Xl(w W:Z)(db sb:R)(s:SR)(K:DK)(m:dB)(C N:R):Prop where
 g:cU W sb s 0
 A:Inv False [gX 1] W sb s K m [] [] [] [] C N []
 f:s.d=bD/\s.f=db/\s.D=4
 da:(∀k,K.j db k->G (H w)<=k)/\G (H w)<=sb
 aA:I aC w W
 qt:T2 K.fx
 g0:jP w
section
variable{w W W':Z}{db j3:R}{s:SR}{K:DK}{m:dB}{C N:R}
def Xl.bH(h:Xl w W db j3 s K m C N)(a:I aC W W'):Xl w W' db j3 s K m C N:=by
 have b:gl W W' s.f j3 K K:=nk h.A.st.f a;exact{h with g:=(a.A j3 (az h.g) id).trans h.g,A:=h.A.eQ (az h.g) b rfl (aq _) rfl,aA:=h.aA.t a}
def OL(h:Xl w W db j3 s K m C N)(hC:C<=100)(hN:N<=100)(n:MZ){E:ae}(b:eN)(u:gT [n]=0)(hz:n.D.size<=100/\n.l.size<=100)(hc:∀W',I (λe=>e=j3) W W'->FN W' E [n])(v:fw K.ah<=999999000/\s.o<=2/\s.my=bD/\(s.i=cz->ij K.ah (gX s.l)≠dE)/\(s.i=bD->ij K.ah (gX s.l)=dE)/\(s.k=cz->s.i=cz)):cR bN 15 #[aJ j3,E,aO b] W λO W'=>O=aN ic/\∃l d j c f a,Xl w W' db j3 l d (kT [] m [qf (s.A:Y) n]) (C+1) (N+1)/\((s.i=bD->c=cz)/\(s.i=cz->c=s.x))/\l={s.p j 1 c with k:=f,x:=a}/\(if b then f=bD/\a=bD/\mu (qC s (Yn s [qf (s.A:Y) n])++pa (s.p j 1 c)) K d else f=cz/\a=c/\mu (qC s<|Yn s [qf (s.A:Y) n]) K d):=by
 let⟨c1,rfl,c3⟩:=h.f;let⟨x1,x2,L,x4,x5,x6⟩:=v;have r:vL [n]=1:=by unfold vL;rw[fW u];rfl
 have T:∀a,I (λe=>K.j s.f e\/e=j3) W a->jP a:=λa p=>h.g0.aA (h.aA.aj p<|λe q=>bu<|q.elim (h.da.1 e)<|λO=>bP h.da.2) id;refine(Bq [] b h.g h.A c1 hc (λaa v=>by rw[bY.1 v];omega) ar U U T<|bu ⟨x1,by rw[c3];simp;omega,L,x4,x5,x6⟩).mono ?_;rintro O W'(⟨rfl,l,d,m',A,B,D,F,i,p⟩|⟨_,_,V⟩);let⟨P,Q,S,g4,g5,g6⟩:=i.bM;let⟨j,c,f,a,q1,q2,q3,q4,q5⟩:=p u ar (by rw[c3];simp;omega) L;(have g:A++B++D++F=[]:=by have:y (A++B++D++F)=0:=q4;exact bG this);simp only[gC]at g;obtain⟨⟨⟨rfl,rfl⟩,rfl⟩,rfl⟩:=g;have t:=i.eQ;have o:=i.A;rw[r]at o;rw[q3]at o;refine⟨by rw[u];rfl,l,d,j,c,f,a,⟨i.g,o,⟨Q.trans c1,P,S.trans c3⟩,⟨λe q=>(t.j e q).elim (h.da.1 e)<|aR h.aA.D,h.da.2⟩,h.aA.aj t.aA<|λe q=>bu<|q.elim (h.da.1 e)<|λO=>bP h.da.2,h.qt.fx t.fx,h.g0⟩,q1,q2,q5⟩;exact(h.qt.no V).elim
end
def YE{w W:Z}{db:R}{K:DK}(c:Pow w)(a:¬K.j db 2)(d:I (K.j db) w W):Tv W (gX 1):=⟨1,cz,U,λV b=>Sg U<|(c.aA d a).aA b id⟩
def G4{s:SR}{K:DK}(b:s.l=1/\s.S=0)(e:fp (vw K.ah) (gX 1)=M (zj 1 [Ft])):S9 s K (λc _=>c=[[Ft]]) False:=have d:(s.A:Y)=1:=(by unfold SR.A;rw[b.2];rfl);(TI (j4:=True) s K λ_ f a=>by
 rw[b.1,e]at a;rw[d];exact⟨(iL a).symm,λx b=>by rw[bY.1 b];exact⟨JX,z⟩,ar,U,U⟩).aT (λ_ _ h=>h trivial) λh=>h trivial
def Ox{w W:Z}{db:R}{K:DK}(hd:cJ W db K)(o:I aC w W)(b:∀k,K.j db k->G (H w)<=k)(O:Steps w)(u:Pow w)(T:jP w)(i:tg w)(B:T2 K.fx)(hm:K.l=[])(x:K.ah=[]\/vw K.ah=[(gX 1,zj 1 [Ft])]):cR bN 10 #[aJ db,ef #[ay 4,ay 2]] W λe W'=>∃s F m,e=aN (de #[aJ<|G (H W)+2,ic])/\Xl w W' db (G (H W)+2) s F m 31 1/\OpX True (λr _=>r=[[Ft]]) K s F m []:=by
 have hz:=o.D;have c:∀k,k<G (H w)->¬K.j db k:=λk a q=>bP<|b k q;have f:∀E p,fp (vw K.ah) E=M p->E=gX 1:=λE p a=>by obtain e|e:=x;rw[e]at a;cases a;rw[e]at a;simp only[fp]at a;split at a;rename_i q;exact q.symm;cases a
 have g:fp (vw K.ah) fm=dE:=by
  cases q:fp (vw K.ah) fm with
  |none=>rfl
  |some p=>exact absurd (f _ _ q).symm<|sa 1
 have h:∀j∈K.ah.map dj.dA,j=gX 1:=λj d=>by rw[<-Ng]at d;let⟨p,a⟩:=rB d;exact f j p a
 have aa:y K.ah<=1:=by obtain e|e:=x;rw[e];simp;have:=cD y e;simp[vw]at this;omega
 have l:Pow W:=u.aA o id;have t:OpL W db K 0:=⟨hd,U,Steps.aA O o id,l,i.aA o id id,c _ O.lt,c _ u.lt,⟨c _ i.lt.1,c _ i.lt.2⟩,λE p a=>f E p a▸wL U,λd b=>by rw[g]at b;cases b⟩;refine(GN (j5:=False) (j4:=[gX 1]) (u7:=True) (m8:=λr _=>r=[[Ft]]) (EX:=False) (mem:=4) (j6:=2) (C0:=0) (C:=31) (N:=0) t U U (by rw[hm];simp;omega) U (λnx lg bt ad p al an hl hi=>?_) U U U ar (λ_=>⟨g,h⟩) (λs K2 L Q=>?_) (bu trivial)<|λ_=>⟨U,λr my e _=>by rw[e];simp⟩).mono ?_;obtain e|⟨_,e,_⟩:=hl.L;rw[g]at e;cases e;simp only[gC]at e;obtain⟨⟨⟨rfl,rfl⟩,rfl⟩,rfl⟩:=e;exact⟨by simp[im],λE p a=>J (by rw[f E p a];simp)⟩;obtain e|e:=x;intro j d;rw[L,e]at d;cases d;exact G4 (Q trivial) (by rw[L,e];simp[fp]);rintro e w'(⟨rfl,s,P,m,a1,b1,c1,d1,d⟩|⟨q,rfl,v,_⟩);let⟨rfl,A,D,_,_,S⟩:=d.bM;have:=d.D;have n:=(d.f trivial).1;have V:=d.f;simp only[gC]at n;obtain⟨⟨⟨rfl,rfl⟩,rfl⟩,rfl⟩:=n;have j:I (K.j s.f) W w':=d.eQ.aA.aT<|λk q=>q.elim J<|λg=>bu U;exact⟨s,P,m,z,⟨d.g,d.A,⟨A,z,D⟩,⟨λk q=>(d.j k q).elim (b k)<|λg=>U,U⟩,o.aj j<|λk q=>bu<|b k q,B.fx d.eQ.fx,T⟩,V⟩;exfalso;obtain⟨ac,S,j|j|⟨V,ab,A,D,n⟩⟩|j|j:=v;exact j g;have:=B.1;omega;rw[h ab A]at n;exact n<|YE (l.aA S id) (c _ u.lt) D;exact j;exact B.no j
def Vz{K b:DK}{n:af}{d:eD}(h:mu [.cr n,.ap n d,.sy n,.sd] K b)(v:K.ah=[])(A:K.sm=[])(x:K.l=[]):∃l B,b.ah=[⟨n,l,B,d,y d⟩]/\b.sm=[(n,lq<|M l)]/\b.l=[]:=by
 let⟨E,⟨l,P,f,g,o,_⟩,F,⟨Q,B,c,a,i,p⟩,L,⟨D,e,c1,c2,c3⟩,O,⟨q,j,r⟩,t,k,u⟩:=h;rw[v]at f;rw[f]at c a;simp[ij]at c;subst c;simp[po]at a;rw[a]at e c1;simp[ij]at e;subst e;simp[po]at c1;simp only[jt]at g i c2 j k;refine⟨l,B,by rw[t,q,c1],?_,by rw[u,r]⟩;rw[k.1,j.1,c2.1,c3,i.1,p,g.1,o,A,x];rfl
def Yy{K a:DK}{o:af}{b f:eD}{q:R}{x:ae}(h:mu [.ap o f] K a)(n:K.ah=[⟨o,q,x,b,y b⟩]):∃p,a.ah=[⟨o,q,p,b++f,y b⟩]/\a.sm=K.sm/\a.l=K.l:=by
 let⟨r,⟨F,l,c,d,e,i⟩,j,g,k⟩:=h;rw[n]at c d;simp[ij]at c;subst c;simp[po]at d;simp only[jt]at e g;exact⟨l,by rw[j,d],by rw[g.1,e.1],by rw[k,i]⟩
section
variable{w W W':Z}{db j3:R}{s:SR}{K:DK}{m:dB}{C N:R}
def ME:eD:=zj 1 [Ft]
structure Fr0(s:SR)(K:DK):Prop where
 zdy:s.l=1/\s.S=0/\s.o=0
 flg:s.i=bD/\s.my=bD/\s.k=bD
 dk:K.ah=[]/\K.sm=[]/\K.l=[]
structure Fr1(s:SR)(K:DK)(b2:eD):Prop where
 zdy:s.l=1/\s.o<=2
 flg:s.i=cz/\s.my=bD
 dk:∃g x,K.ah=[⟨gX 1,g,x,ME++b2,y ME⟩]/\K.sm=[(gX 1,lq<|M g)]/\K.l=[]
def r7:y ME<=400:=zK (by simp;exact JX) ar
def YN(h:Xl w W db j3 s K m C N)(hF:Fr0 s K)(u:C<=100)(x:N<=100){cv:ae}(B:∀W',I (λV=>V=j3) W W'->FN W' cv [WQ]):cR bN 15 #[aJ j3,cv,aO cz] W λS W'=>S=aN ic/\∃b c F,Xl w W' db j3 b c F (C+1) (N+1)/\Fr1 b c []/\b.o<=1:=by
 let⟨⟨l,n,n3⟩,⟨e,j,t⟩,d,o,p⟩:=hF;refine(OL h u x WQ cz z cg B ⟨by rw[d];decide,U,j,λq=>(by rw[e]at q;cases q),λ_=>by rw[d];rfl,λq=>(by rw[t]at q;cases q)⟩).mono ?_;rintro S W'⟨rfl,b,c,L,ln,lb,E,v,⟨f,_⟩,a,D,k,g⟩;obtain rfl:=f e;have A:(s.A:Y)=1:=by unfold SR.A;rw[n];rfl
 have i:Yn s [qf (s.A:Y) WQ]=ME:=by unfold Yn;rw[A,n];rfl
 rw[i]at g;have r:qC s ME++pa (s.p L 1 cz)=[.cr<|gX 1,.ap (gX 1) ME,.sy<|gX 1,.sd]:=by simp[qC,Ak,pa,SR.p,e,l]
 rw[r]at g;let⟨T,aa,O,P,Q⟩:=Vz g d o p;refine⟨z,b,c,_,v,⟨⟨?_,?_⟩,⟨?_,?_⟩,T,aa,by rw[O,eu],P,Q⟩,by rw[a];show s.o+1<=1;omega⟩;rw[a];exact l;rw[a];show s.o+1<=2;omega;rw[a];rfl;rw[a];exact j
def VH(h:Xl w W db j3 s K m C N)(hF:Fr1 s K [])(x:s.o<=1)(p:C<=100)(t:N<=100){cv:ae}(v:∀W',I (λT=>T=j3) W W'->FN W' cv [zab]):cR bN 15 #[aJ j3,cv,aO bD] W λQ W'=>Q=aN ic/\∃d a D k,Xl w W' db j3 d a D (C+1) (N+1)/\Fr1 d a k:=by
 let⟨⟨f,E⟩,⟨e,g⟩,S,aa,b,l,n⟩:=hF;rw[eu]at b;have u:=r7;refine(OL h p t zab bD z cg v ⟨by rw[b];simp[fw];omega,E,g,λ_=>by rw[b,f];simp[ij],λq=>(by rw[e]at q;cases q),λ_=>e⟩).mono ?_;rintro Q W'⟨rfl,d,a,mv,ln,V,B,r,_,c,A,i,j⟩;have o:∀b,qC s b=[.ap (gX 1) b]:=λb=>by simp[qC,Ak,e,f]
 rw[o]at j;let⟨P,F,L,O⟩:=Yy j b;refine⟨z,d,a,_,_,r,⟨?_,?_⟩,⟨?_,?_⟩,S,P,F,L.trans l,O.trans n⟩;rw[c];exact f;rw[c];show s.o+1<=2;omega;rw[c];rfl;rw[c];exact g
def YO{c:eD}(h:Xl w W db j3 s K m C N)(hF:Fr1 s K c):cR bN 16 #[aJ db,bw 0,bw 0] W λj W'=>j=aN (de #[])/\∃a,cJ W' db a/\I aC w W'/\(∀k,a.j db k->G (H w)<=k)/\T2 a.fx/\a.l=[]/\vw a.ah=[(gX 1,ME)]:=by
 let⟨_,_,o,x,d,e,f⟩:=hF;let⟨_,rfl,_⟩:=h.f;refine(WH (n:=y ME) h.A.st.f d e f ⟨z,ar⟩ (by simp[ME,zj,ik,dh];omega)).mono ?_;rintro j W'⟨rfl,a,l,b,g,i⟩;exact⟨z,a,b.ok,h.aA.aj b.aA<|λk q=>bu<|h.da.1 k q,λk q=>(b.j k q).elim (h.da.1 k)<|λm9=>aR h.aA.D m9,h.qt.fx b.fx,i,by rw[g];simp[vw]⟩
def Y9(h:Xl w W db j3 s K (oD [[Ft]]) C N)(a:s.S=1):cR bN 17 #[aJ j3,aw ⟨#[107]⟩] W λe W'=>e=aN (de #[aw ⟨#[118]⟩,aO cz,ic])/\I aC w W':=by
 let⟨b,rfl,_⟩:=h.f;go_call Pt ⟨#[107]⟩ h.g h.A.st b cg as e W'⟨rfl|⟨q,_⟩,f,c,_⟩;refine⟨?_,h.aA.aj c.aA<|λk q=>bu<|q.elim (h.da.1 k)<|λe=>bP h.da.2⟩;(have d:oD [[Ft]]=[Ft]:=by rfl);rw[a,d];rfl;exact absurd z q
end
def VK(hS:Steps a)(hP:Pow a)(hE:jP a)(t:tg a):cR bN 4 #[] a λo w'=>o=aN (aO cz)/\I aC a w':=by
 have W:=zP a 1099511627776 bD U;go_in
 go_wp21;go_call W as o W1⟨rfl,O,C⟩;have t1:I aC a W1:=I.p C;have Q:∀aD,(vA (G<|H a) 1099511627776 bD).j (G (H a)+2) aD->G (H a)<=aD:=λaD q=>by obtain an|an|an|an|⟨ba,hx,an⟩|⟨aV,hg,an⟩:=q;omega;have:aD=G (H a):=an;omega;have:aD=G (H a)+1:=an;omega;cases an;cases hx;cases hg
 have b:=Ox O t1 Q hS hP hE t ⟨z,z,z⟩ z<|J z;clear W O C t1 Q;go_wp21;go_call b as o W2⟨s2,K2,m2,rfl,i,A⟩;let⟨_,x1,_,_,⟨y1,y2,y3⟩,x5⟩:=A trivial;have u:Fr0 s2 K2:=by obtain⟨_,_,z2,z3,z4,z5,z6⟩|⟨_,_,_,m9,_⟩:=x5;exact⟨⟨x1,z3,z2⟩,⟨z4,z5,z6⟩,y1,cD (·.1) y2,y3⟩;exact absurd z m9
 let⟨j3,n⟩:∃j3,G (H W1)+2=j3:=⟨_,rfl⟩;rw[n]at i;rw[n];have:∀a:Z,(binOp .eql 36 (aJ j3)<|ee dE).run bN a=.ok (aO bD) a:=λ_=>rfl;clear A x1 y1 y2 y3 x5 b n;go_wp21;go_call oz W2 as o W3⟨rfl,D⟩;have j:=i.bH<|show I aC W2 W3 from I.p D;have ad:=YN (j.bH<|cI aC W3) u U U (cv:=bX (G<|H W3) 0 1 1)<|TY WQ 66<|az j.g;clear D i u j;go_wp21;go_call ad as o W4⟨rfl,s4,K4,m4,k,v,L⟩;have al:=VH (k.bH<|cI aC W4) v L U U (cv:=bX (G<|H W4) 0 1 1)<|TY zab 66<|az k.g;clear ad k v L;go_wp21;go_call al as o W5⟨rfl,s5,K5,m5,b5,x,w⟩;have N:=YO x w;clear al x w;go_wp21;go_call N as o W6⟨rfl,K6,P,ab,f,aa,V,ac⟩;have b:=Ox P ab f hS hP hE t aa V<|bu ac;clear N P ab f aa V;go_wp21;go_call b as o W7⟨s7,K7,m7,rfl,l,B⟩;let⟨_,_,_,_,_,x5⟩:=B trivial;have av:m7=oD [[Ft]]/\s7.S=1:=by obtain⟨m9,_⟩|⟨g8,my,rfl,_,_,z1,_,z2,_⟩:=x5;rw[ac]at m9;simp[fp]at m9;exact⟨z1,z2⟩
 obtain⟨rfl,E⟩:=av;let⟨ax,m⟩:∃s7,G (H W6)+2=s7:=⟨_,rfl⟩;rw[m]at l;rw[m];have:∀a:Z,(binOp .eql 36 (aJ ax)<|ee dE).run bN a=.ok (aO bD) a:=λ_=>rfl;have e:=λb(a:I aC W7 b)=>Y9 (l.bH a) E;clear l B x5 b m E;go_wp21;go_call oz W7 as o W8⟨rfl,F⟩;have r:=ak<|show I aC W7 W8 from I.p F;clear F;go_wp21;go_call oz W8 as o W9⟨rfl,K⟩;have s:=ak<|show I aC W7 W9 from(ag r).t<|I.p K;clear K;go_wp21;go_call oz W9 as o ao⟨rfl,c⟩;have T:=e ao<|(ag s).t<|I.p c;clear c e r s;go_wp21;go_call T as o ap⟨rfl,g⟩;clear T;go_wp21;go_call oz ap as o aU⟨rfl,d⟩;have p:=ak<|g.t<|I.p (S:=aC) d;clear d g;go_wp2;go_ret;exact⟨z,p⟩
theorem ZC:prog.globalNamed "levels/code.steps" =M 1:=aH
theorem zeg:prog.globalNamed "internal/strconv.uint64pow10" =M 2:=aH
theorem zcg:prog.globalNamed "errors.errorType" =M 0:=aH
theorem U5:(prog.globals[1]?).map (·.type)=M 389:=aH
theorem zdp:(prog.globals[2]?).map (·.type)=M 418:=aH
theorem U1:prog.underlying 389=M (.array 16 97):=aH
theorem zdl:prog.underlying 418=M (.array 20 104):=aH
theorem zbn:prog.underlying 97=M (.int .u32):=aH
theorem zbm:prog.underlying 104=M (.int .u64):=aH
theorem zdx:(prog.cutTypes.find? (·.1== "internal/reflectlite.rtype")).map (·.2)=M 256:=aH
theorem X8:((List.range 477).filter λt=>prog.rowNamed t [101,114,114,111,114])=[44]:=aH
theorem KB:prog.types.size=477:=aH
def Hk:cy (String×DataW Unit):=[("levels/code.steps",Rows.laid_levels_code_steps),("math/bits.deBruijn32tab",Rows.laid_math_bits_deBruijn32tab),("math/bits.deBruijn64tab",Rows.laid_math_bits_deBruijn64tab),("internal/strconv.uint64pow10",Rows.laid_internal_strconv_uint64pow10),("errors.errorType",Rows.laid_errors_errorType),("strconv.ErrRange",Rows.laid_strconv_ErrRange),("strconv.ErrSyntax",Rows.laid_strconv_ErrSyntax)]
theorem zee:prog.globalNamed "strconv.ErrSyntax" =M 3:=aH
theorem zef:prog.globalNamed "strconv.ErrRange" =M 4:=aH
theorem zdn:(prog.globals[3]?).map (·.type)=M 44:=aH
theorem zdo:(prog.globals[4]?).map (·.type)=M 44:=aH
theorem zdm:∃a,prog.underlying 44=M (.interface a):=by
 have h:(match prog.underlying 44 with
  |some (.interface _)=>cz
  |_=>bD)=cz:=aH
 split at h;rename_i a e;exact⟨a,e⟩;cases h
theorem XB{P:Program}{w:Z}{e a:R}{g:R->eN}{t:TypeId}{c:iF}{ms}{b:String}{i:DataW Unit}{f:cy MemPlace}(d:P.underlying t=M (.interface ms))(h:DataW.trod (λ_=>()) P w e g bD a t c=M (.iface b i,f)):∃u v,c=[.iface u v]:=by
 cases a with
 |zero=>simp[DataW.trod]at h
 |succ n=>
  unfold DataW.trod at h;rw[d]at h;split at h<;>simp_all
theorem Pc{W:Z}{a c:String}{p:DataW Unit}{i:R}(g:prog.globalNamed a=M i)(k:(prog.globals[i]?).map (·.type)=M 44)(h:laidMet bN [(a,.iface c p)] W):∃n m,bA W (X i 0)=M (.iface n m):=by
 let⟨u,⟨s,v,o,f,A,q,d,e,b,j,_,_⟩,_⟩:=h;obtain rfl:=iL (g.symm.trans d);obtain rfl:=iL (k.symm.trans e);let⟨t,l⟩:=zdm;let⟨w,x,r⟩:=XB l j;have:=yS g b 0;rw[<-sM,r]at this;exact⟨w,x,this⟩
theorem I6{W:Z}(h:laidMetH bN Hk W):Steps W/\Pow W/\jP W/\tg W:=by
 let⟨b,d⟩:=laidMetH_iff.1 h;have f:=b.filter (λx=>x.1== "levels/code.steps");rw[show((Hk.filter λx=>x.2.handleName?.isNone).filter λx=>x.1== "levels/code.steps")=[("levels/code.steps",Rows.laid_levels_code_steps)]by kernel_rfl]at f;have g:=b.filter (λx=>x.1== "internal/strconv.uint64pow10");rw[show((Hk.filter λx=>x.2.handleName?.isNone).filter λx=>x.1== "internal/strconv.uint64pow10")=[("internal/strconv.uint64pow10",Rows.laid_internal_strconv_uint64pow10)]by kernel_rfl]at g;rw[show(Hk.filter λx=>x.2.handleName?.isSome)=[("errors.errorType",Rows.laid_errors_errorType)]by kernel_rfl]at d;have i:=b.filter (λx=>x.1== "strconv.ErrSyntax");rw[show((Hk.filter λx=>x.2.handleName?.isNone).filter λx=>x.1== "strconv.ErrSyntax")=[("strconv.ErrSyntax",Rows.laid_strconv_ErrSyntax)]by kernel_rfl]at i;have j:=b.filter (λx=>x.1== "strconv.ErrRange");rw[show((Hk.filter λx=>x.2.handleName?.isNone).filter λx=>x.1== "strconv.ErrRange")=[("strconv.ErrRange",Rows.laid_strconv_ErrRange)]by kernel_rfl]at j;refine⟨?_,?_,?_,Pc zee zdn i,Pc zef zdo j⟩
 .have c:Lib.TabIs bN W "levels/code.steps" .u32 [0,498536548,997073096,651767980,1994146192,1802195444,1303535960,1342533948,3988292384,4027552580,3604390888,3412177804,2607071920,2262029012,2685067896,3183342108]:=Lib.tabIs_of_head ZC U5 U1 zbn aH aH f;intro k a;rw[yS ZC c k];have:∀k,k<16->(([0,498536548,997073096,651767980,1994146192,1802195444,1303535960,1342533948,3988292384,4027552580,3604390888,3412177804,2607071920,2262029012,2685067896,3183342108]:eD).map λm9=>Value.int .u32 m9).toArray[k]?=M (.int .u32 (N0 k)):=by
   intro k a;match k,a with
   |0,_|1,_|2,_|3,_|4,_|5,_|6,_|7,_|8,_|9,_|10,_|11,_|12,_|13,_|14,_|15,_=>rfl
   |n+16,h=>grind
  exact this k a
 exact Lib.tabIs_of_head zeg zdp zdl zbm aH aH g;let⟨a,u,r,k,l,m,o,c⟩:=d _ (bY.2 rfl);have p:a=[101,114,114,111,114]:=(iL k).symm;subst p;obtain rfl:=iL (zdx.symm.trans l);have e:r∈(List.range 477).filter λt=>prog.rowNamed t [101,114,114,111,114]:=lR.2 ⟨zn.2 (KB▸m),o⟩;rw[X8]at e;obtain rfl:=bY.1 e;have q:typeHandle bN 44=.pointer (M (X (7) 44)):=aH;rw[q]at c;unfold jP;simpa using yS zcg c 0
theorem Qb{W:Z}{f n:R}{g:Addr}{a:iF}(h:W.cells? f g n=M a):y a=n/\∀j,j<n->bA W (g.add j)=a[j]?:=by
 unfold World.cells? at h;split at h;have e:=Lib.mapM_length h;refine⟨dV e,λj d=>?_⟩;let⟨i,b,c⟩:=Lib.mapM_at h j j (by simp[d]);rw[c,b];cases h
theorem XZ{W:Z}{q:Addr}{e b:R}(f:0<e)(o:0<b){Q:R->iF->Prop}(h:∀i,i<e->∃c,W.cells? 0 (q.add (i*b)) b=M c/\Q i c):∃j a,q=(X j a)/\j<G (H W)/\∀i,i<e->∃c,y c=b/\(∀p,p<b->bA W (X j (a+i*b+p))=c[p]?)/\Q i c:=by
 let⟨c,n,_⟩:=h 0 f;let⟨r,l⟩:=Qb n;have k:=l 0 o;rw[xX]at k;have s:(q.add 0).add 0=q:=rfl;rw[s]at k;let⟨j,a,d⟩:=q;have w:∃x,bA W ⟨j,a,d⟩=M x:=⟨c[0]'U,by rw[k];grind⟩;let⟨x,g⟩:=w;have m:j<G (H W)/\d=dE:=by unfold World.cell? at g;simp only at g;split at g;rename_i B D C A;refine⟨?_,?_⟩;(grind);simp_all;cases g
 obtain⟨m,rfl⟩:=m;refine⟨j,a,z,m,λi t=>?_⟩;let⟨c,n,v⟩:=h i t;let⟨r,l⟩:=Qb n;refine⟨c,r,λp u=>?_,v⟩;rw[<-l p u,Go.Deep.add_add];unfold Addr.add;by_cases m9:i*b+p=0;rw[fW m9,bJ,m9];rfl;grind
def yl(P:Program)(t:TypeId):Option (cy (TypeId×R)):=match P.underlying t with
 |some (.struct a)=>M (a.toList.map λf=>(f.type,f.offset))
 |_=>dE
theorem KS{P:Program}{t:TypeId}{l:cy (TypeId×R)}(h:yl P t=M l):∃a,P.underlying t=M (.struct a)/\a.toList.map (λf=>(f.type,f.offset))=l:=by
 unfold yl at h;grind
theorem ww{u7:Type}{c:TypeId×ae->u7}{P:Program}{w:Z}{k d:R}{l:R->eN}{b:eN}{t:TypeId}{i:iF}{x:DataW u7×cy MemPlace}{q:cy (TypeId×R)}(n:yl P t=M q)(h:DataW.trod c P w k l b d t i=M x):∃(e:cy (DataW u7×cy MemPlace))(r:R),x.1=.agg (e.map (·.1))/\y e=y q/\∀(p f a:R),q[p]?=M (f,a)->∃j,e[p]?=M j/\DataW.trod c P w k l b r f ((i.drop a).take (P.cellsOf f))=M j:=by
 obtain⟨s,o,rfl⟩:=KS n;obtain⟨e,r,_,rfl,_,g,u⟩:=DataW.trod_struct o h;refine⟨e,r,z,dV g,λp f a m=>?_⟩;rw[fP,rK]at m;grind
theorem Qe{u7:Type}(l r:cy (DataW u7)):Rows.uptoBulkAll (l++r)=Rows.uptoBulkAll l+Rows.uptoBulkAll r:=by
 induction l with
 |nil=>simp[Rows.uptoBulkAll]
 |cons x l a=>simp only[dt,Rows.uptoBulkAll,a];omega
theorem Qd{u7:Type}{D:R->DataW u7}{g:R->R}:∀(n:R),(∀i,i<n->g i<=Rows.uptoBulk (D i))->((List.range n).map g).sum<=Rows.uptoBulkAll ((List.range n).map D)
 |0,_=>by simp
 |n+1,h=>by
  have:=Qd n (λi a=>h i U);have:=h n U;rw[yV,bz,bz,eY,Qe];simp[Rows.uptoBulkAll];omega
theorem zbr:yl bN 66=M [(9,0),(9,1),(4,2)]:=aH
theorem zdt:yl bN 72=M [(3,0),(58,1)]:=aH
theorem zds:yl bN 60=M [(3,0),(3,1),(3,2),(9,3),(9,4),(58,5)]:=aH
theorem zdr:yl bN 33=M [(3,0),(3,1),(9,2),(31,3)]:=aH
theorem Xz:prog.underlying 58=M (.slice 66):=aH
theorem zbj:prog.underlying 22=M (.slice 72):=aH
theorem zbi:prog.underlying 24=M (.slice 60):=aH
theorem zbh:prog.underlying 23=M (.slice 33):=aH
theorem zbl:prog.underlying 31=M (.slice 5):=aH
theorem Xy:prog.underlying 9=M .string:=aH
theorem Q5:prog.underlying 4=M .bool:=aH
theorem IA:prog.underlying 3=M (.int .i64):=aH
theorem zbk:prog.underlying 5=M (.int .u8):=aH
theorem zac:prog.cellsOf 9=1:=aH
theorem zcm:prog.cellsOf 4=1:=aH
theorem zad:prog.cellsOf 3=1:=aH
theorem zcl:prog.cellsOf 5=1:=aH
theorem S3:prog.cellsOf 58=1:=aH
theorem zek:prog.cellsOf 31=1:=aH
theorem zej:prog.cellsOf 66=3:=aH
theorem cDd:prog.cellsOf 72=2:=aH
theorem cOp:prog.cellsOf 60=6:=aH
theorem cSp:prog.cellsOf 33=4:=aH
theorem mD{a:iF}{k:R}{u:ae}(h:(a.drop k).take 1=[u]):a[k]?=M u:=by
 have:=cD (λl=>l[0]?) h;grind
theorem GY:∀{l:cy R}{x:R},x∈l->x<=l.sum
 |[],x,h=>by cases h
 |g9::l,x,h=>by
  rw[ft];obtain e|e:=dy.1 h
  .omega
  .have:=GY e;omega
theorem xS{α:Type}(f:α->iF)(k:R)(b:∀o,y (f o)=k):∀a:cy α,y (a.flatMap f)=y a*k
 |[]=>by simp
 |o::a=>by
  rw[dR,ai,b,xS f k b a,bK,Cj];omega
theorem PE{α:Type}(f:α->iF)(k:R)(b:∀o,y (f o)=k):∀(a:cy α)(i:R)(h:i<y a)(j:R),j<k->(a.flatMap f)[i*k+j]?=(f a[i])[j]?
 |[],i,h,j,_=>by simp at h
 |o::a,i,h,j,c=>by
  rw[dR];cases i with
  |zero=>
   rw[xX,ez,iu (by rw[b];exact c)];rfl
  |succ i=>
   rw[fQ (by rw[b,Cj];omega),b,show(i+1)*k+j-k=i*k+j by rw[Cj];omega,PE f k b a i (dV h) j c];rfl
section
variable{u7:Type}{enc:TypeId×ae->u7}
abbrev sV(enc:TypeId×ae->u7)(W:Z)(a:R)(t:TypeId)(b:iF)(x:DataW u7×cy MemPlace):Prop:=DataW.trod enc bN W 0 (λ_=>cz) cz a t b=M x
theorem xH{α:Type}(T:Inhabited α)(B:α->iF)(k:R)(N:∀s,y (B s)=k)(O:0<k){ap aa:TypeId}(ht:prog.underlying ap=M (.slice aa))(he:prog.cellsOf aa=k){W:Z}(V:α->R->Prop)(one:∀ab m x,sV enc W ab aa m x->Rows.uptoBulk x.1<=1048576->∃s:α,(∀j,j<k->m[j]?=(B s)[j]?)/\V s (Rows.uptoBulk x.1)){o:R}{ac:ae}{x:DataW u7×cy MemPlace}(h:sV enc W o ap [ac] x)(L:Rows.uptoBulk x.1<=1048576):(ac=aF\/∃ad av,ac=.slice (M ad) 0 av)\/∃(l:cy α)(A b e:R)(an:R->R),ac=bX A b (y l) e/\y l<=e/\A<G (H W)/\0<y l/\(∀j al,(l.flatMap B)[j]?=M al->bA W (X A (b+j))=M al)/\(∀i(d:i<y l),V l[i] (an i))/\((List.range (y l)).map an).sum+1<=Rows.uptoBulk x.1:=by
 obtain⟨n,_⟩|⟨ad,a,e,ao,ab,D,C,n,_,hl,_,P,e2,p⟩:=Go.Deep.open_slice ht h;simp only[iM,rH]at n;exact J (J n);simp only[iM,rH]at n;simp only[mT]at P;subst n P;by_cases h0:a=0;subst h0;exact J (bu ⟨ad,ao,z⟩);right;rw[he]at p;obtain⟨A,b,rfl,hb,t⟩:=XZ (Q:=λi m=>DataW.trod enc bN W 0 (λ_=>cz) cz ab aa m=M (D i,C i)) (U:0<a) O (λi d=>p i U);have S:=Qd (D:=D) (g:=λi=>Rows.uptoBulk (D i)) a (λi _=>aq _);rw[e2]at L|-;simp only[Rows.uptoBulk]at L|-;(have w:∀i,i<a->Rows.uptoBulk (D i)<=1048576:=λi d=>by have:Rows.uptoBulk (D i)<=((List.range a).map (λi=>Rows.uptoBulk (D i))).sum:=GY (cC.2 ⟨i,zn.2 d,z⟩);omega);(have r:∀i,i<a->∃s:α,(∀j,j<k->bA W (X A (b+i*k+j))=(B s)[j]?)/\V s (Rows.uptoBulk (D i)):=λi d=>by let⟨m,Q,u,v⟩:=t i d;let⟨s,E,K⟩:=one ab m (D i,C i) v (w i d);exact⟨s,λj q=>(u j q).trans (E j q),K⟩);let⟨F,hF⟩:=Go.Deep.choose_lt r;have c:y ((List.range a).map F)=a:=ar;refine⟨(List.range a).map F,A,b,ao,λi=>Rows.uptoBulk (D i),by rw[c],by rw[c];exact hl,hb,by rw[c];omega,λj al q=>?_,λi d=>?_,by rw[c];omega⟩;(have u:j<a*k:=by have:=(ir.1 q).1;rw[xS B k N,c]at this;exact this);have d:j/k<a:=Nat.div_lt_of_lt_mul (by rw[Nat.mul_comm];exact u);have Q:j%k<k:=ol _ O;(have v:j/k*k+j%k=j:=by rw[Nat.mul_comm];exact Nat.div_add_mod j k);have K:=PE B k N ((List.range a).map F) (j/k) (by rw[c];exact d) (j%k) Q;have E:=(hF (j/k) d).1 (j%k) Q;have f:((List.range a).map F)[j/k]'(by rw[c];exact d)=F (j/k):=ar;rw[f,v]at K;rw[bJ,v]at E;rw[E,<-K,q];(have u:i<a:=by rwa[c]at d);have f:((List.range a).map F)[i]'d=F i:=ar;rw[f];exact(hF i u).2
theorem vu{B:R->R}{c:R}:∀n:R,(∀i,i<n->c<=B i)->c*n<=((List.range n).map B).sum
 |0,_=>by simp
 |n+1,h=>by
  have:=vu n (λi a=>h i U);have:=h n U;rw[yV,bz,eY,Nat.mul_succ];simp;omega
theorem YB{W:Z}{a:R}{f:iF}{F:DataW u7×cy MemPlace}(h:sV enc W a 66 f F):∃v:MZ,(∀j,j<3->f[j]?=(oI v)[j]?)/\v.D.size+v.l.size+4<=Rows.uptoBulk F.1:=by
 let⟨o,K,A,x,b⟩:=ww zbr h;let⟨C,g,l⟩:=b 0 _ _ rfl;let⟨D,i,m⟩:=b 1 _ _ rfl;let⟨E,k,n⟩:=b 2 _ _ rfl;rw[zac]at l m;rw[zcm]at n;let⟨d,p,s,_⟩:=oZ Xy l;let⟨e,q,t,_⟩:=oZ Xy m;let⟨B,r,u⟩:=DataW.trod_bool Q5 n
 have c:o=[C,D,E]:=by
  match o,x,g,i,k with
  |[L,N,O],_,g,i,k=>grind
 refine⟨⟨d,e,B⟩,λj w=>?_,?_⟩
 .match j,w with
  |0,_=>exact mD p
  |1,_=>exact mD q
  |2,_=>exact mD r
  |K+3,h=>omega
 rw[A,c,s,t,u];simp[Rows.uptoBulk,Rows.uptoBulkAll];have:d.size=d.data.size:=rfl;have:e.size=e.data.size:=rfl;omega
theorem JD{W:Z}{b:R}{L:ae}{x:DataW u7×cy MemPlace}(h:sV enc W b 58 [L] x)(n:Rows.uptoBulk x.1<=1048576):∃l:vX,Q3 W L l:=by
 obtain(rfl|⟨q,d,rfl⟩)|⟨k,r,a,e,B,rfl,j,o,_,c,m,s⟩:=xH ⟨⟨⟨#[]⟩,⟨#[]⟩,bD⟩⟩ oI 3 (λ_=>rfl) U Xz zej (λd B=>d.D.size+d.l.size+4<=B/\B<=1048576) (λi l x f g=>(YB f).imp (λd c=>⟨c.1,c.2,g⟩)) h n;exact⟨[],J ⟨⟨z,J ⟨z,z⟩⟩,λt i=>by cases i⟩,ar,ar⟩;exact⟨[],bu ⟨z,q,d,z⟩,ar,ar⟩;refine⟨k,J ⟨⟨xS oI 3 (λ_=>rfl) k,bu ⟨r,a,e,z,j,c⟩⟩,λt i=>by cases i;exact o⟩,λd f=>?_,?_⟩;obtain⟨p,g,rfl⟩:=dJ f;have:=m p g;omega;have:=vu (B:=B) (c:=4) (y k) (λp g=>bP (m p g));omega
end
section
variable{u7:Type}{enc:TypeId×ae->u7}
theorem DE{t j:TypeId}(f:prog.underlying t=M (.slice j)){W:Z}{a:R}{d:iF}{x:DataW u7×cy MemPlace}(h:sV enc W a t d x):∃L,d=[L]/\1<=Rows.uptoBulk x.1:=by
 obtain⟨b,c⟩|⟨k,g,e,m,n,D,i,b,_,_,_,_,c,_⟩:=Go.Deep.open_slice f h;exact⟨_,b,by rw[c];simp[Rows.uptoBulk]⟩;exact⟨_,b,by rw[c];simp[Rows.uptoBulk]⟩
theorem VA{W:Z}{a:R}{g:iF}{x:DataW u7×cy MemPlace}(h:sV enc W a 72 g x)(B:Rows.uptoBulk x.1<=1048576):∃u:Xr,(∀j,j<2->g[j]?=u.bU[j]?)/\Q3 W u.L u.cs/\3<=Rows.uptoBulk x.1:=by
 let⟨n,C,t,s,i⟩:=ww zdt h;let⟨w,k,m⟩:=i 0 _ _ rfl;let⟨o,l,b⟩:=i 1 _ _ rfl;rw[zad]at m;rw[S3]at b;let⟨v,p,q,_⟩:=nN IA m;let⟨L,f,A⟩:=DE Xz b;rw[f]at b
 have e:n=[w,o]:=by
  match n,s,k,l with
  |[D,E],_,k,l=>grind
 have:Rows.uptoBulk o.1+2<=Rows.uptoBulk x.1:=by rw[t,e,q];simp[Rows.uptoBulk,Rows.uptoBulkAll];omega
 let⟨c,d⟩:=JD b U;refine⟨⟨v,L,c⟩,λj r=>?_,d,U⟩;match j,r with
 |0,_=>exact mD p
 |1,_=>exact mD f
 |C+2,h=>omega
theorem Sb{W:Z}{d:R}{v:ae}{x:DataW u7×cy MemPlace}(h:sV enc W d 22 [v] x)(l:Rows.uptoBulk x.1<=1048576):∃j b g,v=.slice j (y b) g/\y b<=349525/\(b=[]\/∃r a,j=M (X r a)/\Uq W (bX r a (y b) g) b):=by
 obtain(rfl|⟨j,g,rfl⟩)|⟨b,q,a,c,B,rfl,f,m,_,n,i,s⟩:=xH ⟨⟨0,aF,[]⟩⟩ Xr.bU 2 (λ_=>rfl) U zbj cDd (λp B=>Q3 W p.L p.cs/\3<=B) (λt o x e k=>VA e k) h l;exact⟨dE,[],0,z,ar,J z⟩;exact⟨M j,[],g,z,ar,J z⟩;have:=vu (c:=3) (y b) (λo e=>(i o e).2);exact⟨_,b,c,z,U,bu ⟨q,a,z,⟨xS Xr.bU 2 (λ_=>rfl) b,bu ⟨q,a,c,z,f,n⟩⟩,λj g=>by cases g;exact m,λp k=>by obtain⟨o,e,rfl⟩:=dJ k;exact(i o e).1,U⟩⟩
theorem I4{aa:Z}{b:R}{k:iF}{C:DataW u7×cy MemPlace}(h:sV enc aa b 60 k C)(hB:Rows.uptoBulk C.1<=1048576):∃s:Xj,(∀l,l<6->k[l]?=s.bU[l]?)/\(Q3 aa s.L s.cs/\s.S.size<=1048576/\s.T.size<=1048576)/\1<=Rows.uptoBulk C.1:=by
 let⟨A,ac,W,V,a⟩:=ww zds h;let⟨y0,m,t⟩:=a 0 _ _ rfl;let⟨y1,n,u⟩:=a 1 _ _ rfl;let⟨y2,o,v⟩:=a 2 _ _ rfl;let⟨y3,p,w⟩:=a 3 _ _ rfl;let⟨y4,q,x⟩:=a 4 _ _ rfl;let⟨B,r,e⟩:=a 5 _ _ rfl;rw[zad]at t u v;rw[zac]at w x;rw[S3]at e;let⟨s0,D,N,_⟩:=nN IA t;let⟨s1,E,O,_⟩:=nN IA u;let⟨s2,F,P,_⟩:=nN IA v;let⟨c,K,Q,_⟩:=oZ Xy w;let⟨d,L,S,_⟩:=oZ Xy x;let⟨ab,j,h5⟩:=DE Xz e;rw[j]at e
 have i:A=[y0,y1,y2,y3,y4,B]:=by
  match A,V,m,n,o,p,q,r with
  |[z0,z1,z2,z3,z4,z5],_,m,n,o,p,q,r=>grind
 have:c.size=c.data.size:=rfl;have:d.size=d.data.size:=rfl;have:Rows.uptoBulk B.1+c.size+d.size+1<=Rows.uptoBulk C.1:=by rw[W,i,N,O,P,Q,S];simp[Rows.uptoBulk,Rows.uptoBulkAll];omega
 let⟨f,g⟩:=JD e U;refine⟨⟨s0,s1,s2,c,d,ab,f⟩,λl T=>?_,⟨g,by show c.size<=_;omega,by show d.size<=_;omega⟩,U⟩;match l,T with
 |0,_=>exact mD D
 |1,_=>exact mD E
 |2,_=>exact mD F
 |3,_=>exact mD K
 |4,_=>exact mD L
 |5,_=>exact mD j
 |ac+6,h=>omega
theorem YA{W:Z}{d:R}{v:ae}{x:DataW u7×cy MemPlace}(h:sV enc W d 24 [v] x)(m:Rows.uptoBulk x.1<=1048576):∃l b j,v=.slice l (y b) j/\(b=[]\/∃r a,l=M (X r a)/\Tr W (bX r a (y b) j) b):=by
 obtain(rfl|⟨l,j,rfl⟩)|⟨b,q,a,c,B,rfl,g,n,_,p,f,s⟩:=xH ⟨⟨0,0,0,⟨#[]⟩,⟨#[]⟩,aF,[]⟩⟩ Xj.bU 6 (λ_=>rfl) U zbi cOp (λo B=>(Q3 W o.L o.cs/\o.S.size<=1048576/\o.T.size<=1048576)/\1<=B) (λt k x e i=>I4 e i) h m;exact⟨dE,[],0,z,J z⟩;exact⟨M l,[],j,z,J z⟩;have:=vu (c:=1) (y b) (λk e=>(f k e).2);exact⟨_,b,c,z,bu ⟨q,a,z,⟨xS Xj.bU 6 (λ_=>rfl) b,bu ⟨q,a,c,z,g,p⟩⟩,λl j=>by cases j;exact n,λo i=>by obtain⟨k,e,rfl⟩:=dJ i;exact(f k e).1.1,λo i=>by obtain⟨k,e,rfl⟩:=dJ i;exact(f k e).1.2,U⟩⟩
theorem SJ(a:eD):a.flatMap (λn=>[Value.int .u8 n])=a.map (Value.int .u8):=by
 induction a with
 |nil=>rfl
 |cons c r b=>simp[b]
theorem Sc{W:Z}{b:R}{w:ae}{x:DataW u7×cy MemPlace}(h:sV enc W b 31 [w] x)(p:Rows.uptoBulk x.1<=1048576):∃e:eD,ByA W w e/\y e<=Rows.uptoBulk x.1:=by
 have one:∀n a(x:DataW u7×cy MemPlace),sV enc W n 5 a x->Rows.uptoBulk x.1<=1048576->∃d:Y,(∀j,j<1->a[j]?=[Value.int .u8 d][j]?)/\(0<=d/\d<256)/\1<=Rows.uptoBulk x.1:=λn a x o f=>by let⟨t,c,l,u⟩:=nN zbk o;refine⟨t,λj i=>?_,?_,?_⟩;obtain rfl:j=0:=U;rw[c];simp[Lit.wf,IntKind.min,IntKind.max,IntKind.signed,IntKind.bits]at u;omega;rw[l];simp[Rows.uptoBulk]
 obtain(rfl|⟨v,d,rfl⟩)|⟨k,A,a,m,B,rfl,s,r,C,g,f,D⟩:=xH ⟨(0:Y)⟩ (λn=>[Value.int .u8 n]) 1 (λ_=>rfl) U zbl zcl (λn B=>(0<=n/\n<256)/\1<=B) one h p;exact⟨[],⟨⟨dE,0,z⟩,by simp[kj],λx d _ q=>absurd rfl q,J rfl,λ_=>rfl⟩,ar⟩;exact⟨[],⟨⟨M v,d,z⟩,by simp[kj],λx d _ q=>absurd rfl q,bu ⟨v,d,rfl⟩,λ_=>rfl⟩,ar⟩;have:=vu (c:=1) (y k) (λt c=>(f t c).2);rw[SJ]at g;refine⟨k,⟨⟨_,_,z⟩,λn o=>?_,λx d l _=>?_,bu ⟨_,_,z⟩,λl=>by cases l⟩,U⟩;obtain⟨t,c,rfl⟩:=dJ o;exact(f t c).1;cases l;exact⟨λj u i=>by rw[dS];exact g j u i,A,a,z,r⟩
theorem Sa{W:Z}{a:R}{j:iF}{x:DataW u7×cy MemPlace}(h:sV enc W a 33 j x)(hB:Rows.uptoBulk x.1<=1048576):∃p:Tq,(∀k,k<4->j[k]?=p.bU[k]?)/\(ByA W p.bv p.bs/\p.nm.size<=1048576)/\y p.bs<=Rows.uptoBulk x.1:=by
 let⟨t,aa,L,K,c⟩:=ww zdr h;let⟨P,l,q⟩:=c 0 _ _ rfl;let⟨Q,m,r⟩:=c 1 _ _ rfl;let⟨S,n,s⟩:=c 2 _ _ rfl;let⟨u,o,d⟩:=c 3 _ _ rfl;rw[zad]at q r;rw[zac]at s;rw[zek]at d;let⟨N,v,B,_⟩:=nN IA q;let⟨O,w,C,_⟩:=nN IA r;let⟨b,A,D,_⟩:=oZ Xy s;let⟨T,g,V⟩:=DE zbl d;rw[g]at d
 have f:t=[P,Q,S,u]:=by
  match t,K,l,m,n,o with
  |[z0,z1,z2,z3],_,l,m,n,o=>grind
 have:b.size=b.data.size:=rfl;have:Rows.uptoBulk u.1+b.size+1<=Rows.uptoBulk x.1:=by rw[L,f,B,C,D];simp[Rows.uptoBulk,Rows.uptoBulkAll];omega
 let⟨i,e,E⟩:=Sc d U;refine⟨⟨N,O,b,T,i⟩,λk F=>?_,⟨e,by show b.size<=_;omega⟩,by show y i<=_;omega⟩;match k,F with
 |0,_=>exact mD v
 |1,_=>exact mD w
 |2,_=>exact mD A
 |3,_=>exact mD g
 |aa+4,h=>omega
theorem D6{α:Type}(f:α->R){B:R->R}(a:cy α)(h:∀i(g:i<y a),f a[i]<=B i):(a.map f).sum<=((List.range (y a)).map B).sum:=by
 have b:∀n,n<=y a->((a.take n).map f).sum<=((List.range n).map B).sum:=by
  intro n;induction n with
  |zero=>simp
  |succ n c=>
   intro j;have d:=c U;have e:=h n U;rw[aG U,yV,bz,bz,eY,eY];simp only[bO,gB,ft,List.sum_nil];omega
 have:=b (y a) (aq _);rwa[cQ]at this
theorem Ow{W:Z}{d:R}{v:ae}{x:DataW u7×cy MemPlace}(h:sV enc W d 23 [v] x)(l:Rows.uptoBulk x.1<=1048576):∃i b j,v=.slice i (y b) j/\(b=[]\/∃r a,i=M (X r a)/\B5 W (bX r a (y b) j) b):=by
 obtain(rfl|⟨i,j,rfl⟩)|⟨b,q,a,c,B,rfl,f,m,_,n,g,s⟩:=xH ⟨⟨0,0,⟨#[]⟩,aF,[]⟩⟩ Tq.bU 4 (λ_=>rfl) U zbh cSp (λo B=>(ByA W o.bv o.bs/\o.nm.size<=1048576)/\y o.bs<=B) (λt p x e k=>Sa e k) h l;exact⟨dE,[],0,z,J z⟩;exact⟨M i,[],j,z,J z⟩;have:=D6 (λo:Tq=>y o.bs) b (λp e=>(g p e).2);exact⟨_,b,c,z,bu ⟨q,a,z,⟨xS Tq.bU 4 (λ_=>rfl) b,bu ⟨q,a,c,z,f,n⟩⟩,λj i=>by cases i;exact m,λo k=>by obtain⟨p,e,rfl⟩:=dJ k;exact(g p e).1,by unfold QE;omega⟩⟩
end
