import Derived.Shelf.Pu.ParseUintPublic10
import Derived.Shelf.Sort.Plain
import Derived.Test.YtbgjhlkoccmfaaaGreatDoorC5
open _root_ renaming List.length→y,Option.some→M,Array.size→G,Go.World.heap→H,Go.Value.ownBlock→cN,Go.World.cell?→bA,Go.World.setCell→cP,Go.World.alloc→dw,Bool.false→bD,Bool.true→cz,Nat→R,Int→Y,List→cy,Go.Calls→cR,Go.undef→jn,Go.Proofs.Tryz.prog→bN,Go.Value.slice→am,Go.Value.string→aw,Go.Value.bool→aO,Go.Value.pointer→ee,Go.Value.tuple→de,Go.Value.agg→ef,Go.World.frozen?→iI,Go.World.ownsRow→fE,Go.Value.nilIface→ic,Go.Act.put→ii,Nat.reduceAdd→ke,Go.RowKit.Below→gD,Bool→eN,Option.none→dE,rfl→z,Or.inl→J,Or.inr→bu
namespace Go.Proofs.YtbgjhlkoccmfaaaGreatDoor
open ChangeShapes WideShapes RowKit Proofs.Tryz List
set_option maxHeartbeats 16000000
set_option linter.all false
set_option maxRecDepth 100000
variable{a e P:Z}{b c k n:R}{d w:ae}{f x:DK}{i:dB}{l v:dI}{m:eD}{o:SR}{W:fC}{r:Y}{s:jv}{B:af}{L:ld}{N:Fs}{O:iG}{Q:iF}{S:E}
section
open Shelf
theorem We{a d:iF}(g:y Q=b*4)(h:c<=b)(i:y a=4)(j:y d=(b+1-c)*4+k):(((Q.take (c*4)++d).take (c*4)++a++(Q.take (c*4)++d).drop (c*4+y a)).take ((c+1)*4)++Q.drop (c*4)++((Q.take (c*4)++d).take (c*4)++a++(Q.take (c*4)++d).drop (c*4+y a)).drop ((c+1)*4+y (Q.drop<|c*4))).take ((b+1)*4)=Q.take (c*4)++a++Q.drop (c*4):=by
 have e:y (Q.take<|c*4)=c*4:=by rw[dX];omega
 have f:(Q.take (c*4)++d).take (c*4)=Q.take (c*4):=mS e;rw[f,mS dW,mS dW]
def Pj(n6 C n i:R)(w:Array ae)(d:iF)(an:n6<=G (H a))(hg:a.heap[C]?=M (aK w 223 (0,0)))(al:w.size=n*4)(s:w.toList.take (n*4)=d)(hv:jQ a b S)(hi:i<n)(hn:n<=1000000000)(h1:∀ba∈d,ba.oneCell'=cz):cR bN 191 #[bX C 0 n n,ay i,bX b 0 1 1] a λbc w'=>∃c,bc=aN (bX (G<|H a) 0 (n+1) c)/\fE w' n6 223 4 (bX (G<|H a) 0 (n+1) c) (n+1) (d.take (i*4)++bj [S]++d.drop (i*4))/\I aC a w':=by
 have V:y d=n*4:=by rw[<-s,dX,nH];omega
 have ad:=az hg;have ax:=az hv;let⟨i0,ao,aD,aV,aa⟩:=cZ oP;have B:(prog.info? 223).map (·.size)=M 4:=aH;have O:(n:Y)+1-(i:Y)=((n+1-i:R):Y):=U;have A:i+(n+1-i)=n+1:=U
 have v:(Builtin.firstCells i0.size i<|bX C 0 i n).run bN a.drew=.ok (d.take<|i*4).toArray a.drew:=by
  rw[aV];exact run_firstCells_some a.drew 4 i (X C 0) i n (d.take<|i*4) (by rw[dX];omega) (λbb ba u=>by
   rw[dS,ez];rw[qL]at u;split at u
   .have:=rZ (w:=a.drew) hg s bb ba 0<|dV u;grind
   .cases u)
 have r:∀g,(Builtin.append_ #[103,3] g #[bX C 0 i n,ay<|(n:Y)+1-(i:Y)]).run bN a=.ok (bX (G<|H a) 0 (n+1)<|grownCap a (n+1) n 223) (dw a.drew<|aK ((d.take<|i*4).toArray++Builtin.zeroCells yu.cells (n+1-i)++Builtin.zeroCells yu.cells (grownCap a (n+1) n 223-(n+1))) 223):=λg=>by have h:=Lib.run_append_grow_zeros a 103 3 g 223 i0 _ .i64 .i64 underlying103 underlying3 ao aD (M<|X C 0) i n (d.take<|i*4) v (n+1-i) U U U U (by rw[aa];omega)<|aa▸A▸uT U U;rw[A]at h;rwa[O]
 let⟨c,hG⟩:∃c,c=grownCap a (n+1) n 223:=⟨_,rfl⟩;rw[<-hG]at r;have ac:n+1<=c:=hG▸grownCap_ge a _ _ _;have K:c<=maxLen:=hG▸uU a (n+1) n _ (by unfold maxLen;omega);have:c<=9223372036854775807:=by unfold maxLen at K;omega
 let⟨zs,k⟩:∃zs:iF,zs=(Builtin.zeroCells yu.cells (n+1-i)++Builtin.zeroCells yu.cells (c-(n+1))).toList:=⟨_,rfl⟩;have aU:y zs=(n+1-i)*4+(c-(n+1))*4:=by rw[k];simp[Builtin.zeroCells,yu,Value.cells]
 have j:((d.take<|i*4).toArray++Builtin.zeroCells yu.cells (n+1-i)++Builtin.zeroCells yu.cells (c-(n+1)))=(d.take (i*4)++zs).toArray:=by rw[k,Array.append_assoc];grind
 rw[j]at r;have Q:y (bj [S])=4:=rfl;have T:y (d.drop<|i*4)=(n-i)*4:=by rw[iZ,V];omega
 let⟨e,o⟩:∃e,e=d.take (i*4)++zs:=⟨_,rfl⟩;let⟨f,p⟩:∃f,f=e.take (i*4)++bj [S]++e.drop (i*4+y (bj [S])):=⟨_,rfl⟩;let⟨l,q⟩:∃l,l=f.take ((i+1)*4)++d.drop (i*4)++f.drop ((i+1)*4+y (d.drop<|i*4)):=⟨_,rfl⟩;have ap:y e=c*4:=by rw[o,ai,dX];omega
 have av:y f=c*4:=by rw[p];simp only[ai,dX,iZ];omega
 have P:y l=c*4:=by rw[q];simp only[ai,dX,iZ];omega
 have t:l.take ((n+1)*4)=d.take (i*4)++bj [S]++d.drop (i*4):=by rw[q,p,o];grind[We]
 rw[<-o]at r;have L:∀(W:Z),W.heap[G<|H a]?=M (aK e.toArray 223 (0,0))->W.heap[b]?=a.heap[b]?->∀g m,(Builtin.copy_ #[103,102] g #[bX (G<|H a) (i*4) (n+1-i) m,bX b 0 1 1]).run bN W=.ok (goInt<|Nat.min 1<|n+1-i) (W.setRow (G<|H a) f.toArray):=λW hW x g m=>by rw[p];refine tu W _ _ g 223 4 (G<|H a) (i*4) _ m (X b 0) _ 1 e.toArray _ (bj [S]) underlying103 B hW ?_ (λbb ba u=>?_) dW<|DT S;rw[Q];simp only[Nat.min_def];split<;>omega;rw[dS,cE<|x.trans hv,ez];simpa[bj,E.bU]using u
 have N:∀(W:Z),W.heap[G<|H a]?=M (aK f.toArray 223 (0,0))->W.heap[C]?=a.heap[C]?->∀g m sc,(Builtin.copy_ #[103,103] g #[bX (G<|H a) ((i+1)*4) (n-i) m,bX C (i*4) (n-i) sc]).run bN W=.ok (goInt<|Nat.min (n-i)<|n-i) (W.setRow (G<|H a) l.toArray):=λW hW x g m sc=>by rw[q];refine tu W _ _ g 223 4 (G<|H a) ((i+1)*4) _ m (X C<|i*4) _ sc f.toArray _ (d.drop<|i*4) underlying103 B hW ?_ (λbb ba u=>by rw[dS];exact rZ (x.trans hg) s bb ba _ u) dW aI;rw[T];grind
 have hA1:((dw a<|aK e.toArray 223).drew).heap[G<|H a]?=M (aK e.toArray 223 (0,0)):=aQ (w:=a) _ z;have hA2:((dw a<|aK e.toArray 223).drew).heap[b]?=a.heap[b]?:=gy (w:=a) _ ax;have F:(((dw a<|aK e.toArray 223).drew.setRow (G<|H a) f.toArray).drew).heap[G<|H a]?=M (aK f.toArray 223 (0,0)):=vZ _ _ _ _ _ _ hA1;have ab:(((dw a<|aK e.toArray 223).drew.setRow (G<|H a) f.toArray).drew).heap[C]?=a.heap[C]?:=(uv _ _ _ _ U).trans<|gy (w:=a) _ ad;have D:=ak (show fE ((((dw a<|aK e.toArray 223).drew.setRow (G<|H a) f.toArray).drew).setRow (G<|H a) l.toArray) n6 223 4 (bX (G<|H a) 0 (n+1) c) (n+1) (d.take (i*4)++bj [S]++d.drop (i*4))/\I aC a ((((dw a<|aK e.toArray 223).drew.setRow (G<|H a) f.toArray).drew).setRow (G<|H a) l.toArray)from by refine⟨⟨aI,bu ⟨G<|H a,c,l.toArray,z,an,vZ _ _ _ _ _ _ F,ac,K,dV P,t⟩⟩,?_⟩;have t1:I aC a (dw a<|aK e.toArray 223).drew:=(cI aC a).df z;have t2:I aC a ((dw a<|aK e.toArray 223).drew.setRow (G<|H a) f.toArray).drew:=(t1.aj (Ez _ (G<|H a) f.toArray) ar).df z;exact t2.aj (Ez _ (G<|H a) l.toArray) ar);have:=λg m=>L _ hA1 hA2 g m;have:¬((i:Y)=(n:Y)):=U;have:IntKind.i64.wrap ((i:Y)+1)=(i:Y)+1:=by rw[bR];omega
 have:IntKind.i64.wrap ((n:Y)+1)=(n:Y)+1:=by rw[bR];omega
 have:IntKind.i64.wrap ((n:Y)+1-(i:Y))=(n:Y)+1-(i:Y):=by rw[bR];omega
 have:((i:Y)+1).toNat=i+1:=U;have:((n:Y)+1).toNat=n+1:=U;have:(0:Y)<=(i:Y)+1:=U;have:i<=n:=U;have:(i:Y)<=(n:Y)+1:=U;have:(n:Y)<(n:Y)+1:=U;have:¬(c=i):=U;have:¬(c=i+1):=U;have:¬(n=i):=U;have:prog.follows .mixedOrders=cz:=aH;clear o p q ap av P t Q T aU j k hG A O v V s h1 al B hv hg;go_in
 go_wp2_with(at_builtin;refine Lib.wpList_append_run _ z _ _ _ _ z _ _ z z _ _ (r _) ?_)
 go_region_law_o (refine Bf z _ _ 103 103 z (bX (G<|H a) ((i+1)*4) (n-i)<|c-(i+1)) (bX C (i*4) (n-i)<|n-i) (by simp[Act.eval,ii]) (by simp[Act.eval,ii]) (N _ F ab 3 _ _) ?_)
 go_wp2;go_ret;exact⟨c,z,D⟩
def SA{w:Z}{n6:R}{v:ae}{n:R}(u:R){xs:iF}{x:E}{vb:R}(r:fE w n6 223 4 v n xs)(C:n6<=G (H w))(s:jQ w vb x)(q:cN v≠M vb)(O:u<=n)(p:n<=1000000000)(B:∀Q∈xs,Q.oneCell'=cz):cR bN 191 #[v,ay u,bX vb 0 1 1] w λA i=>∃d,A=aN d/\fE i n6 223 4 d (n+1) (xs.take (u*4)++bj [x]++xs.drop (u*4))/\I (λK=>cN v=M K) w i/\(cN d=cN v\/∃N,cN d=M N/\G (H w)<=N):=by
 have t:=r.1;by_cases l:u=n;(.subst l;go_call Sz r C s p as A i⟨d,rfl,j,c⟩;refine⟨d,z,?_,I.eF c.dF<|λK m=>J m,c.f⟩;rwa[<-t,cQ,li,eu]);obtain⟨rfl,rfl⟩|⟨L,a,e,rfl,k,D,F,o,f,g⟩:=r.2;omega;by_cases b:n+1<=a;refine(LR n6 L a n u e xs k D b (by unfold maxLen at o;omega) f g s (λA=>q (by rw[A];rfl)) U p B).mono ?_;rintro A i⟨rfl,j,c⟩;exact⟨_,z,j,c.aT<|λK m=>J (by rw[m];rfl),J z⟩;obtain rfl:a=n:=U;go_call Pj n6 L a u e xs C D f g s U p B as A i⟨P,rfl,j,c⟩;exact⟨_,z,j,c.aT cY,bu ⟨_,z,aq _⟩⟩
end
def Ky{l m:dB}(h:b<y m):jL l (m.take<|b+1)=qz (jL l<|m.take b) m[b]:=by
 unfold jL;rw[aG h,jS];rfl
def Uu(l:dB)(e:E):y (qz l e)<=y l+1:=by
 have:∀l:dB,y (l.filter<|λx=>ahead x e)+y (l.filter<|ahead e)<=y l:=by
  intro l;induction l with
  |nil=>simp
  |cons x r a=>
   grind[filter_cons_of_pos,filter_cons_of_neg,nh,length_cons]
 have:=this l;unfold qz;grind
def zx(l m:dB):y (jL l m)<=y l+y m:=by
 unfold jL;induction m generalizing l with
 |nil=>simp
 |cons e r a=>
  have:=a<|qz l e;have:=Uu l e;grind
def gG.jL(h:gG i)(m:dB):gG (jL i m):=by
 induction m generalizing i with
 |nil=>exact h
 |cons e r a=>exact a<|h.qz e
theorem ZR(l:dB)(p:R)(x:E)(h:p<y l):((((bj l).set (p*4)<|aw x.D).set (p*4+1)<|aw x.l).set (p*4+2)<|aO x.dP).set (p*4+3) (bw x.f)=bj (l.set p x):=by
 induction l generalizing p with
 |nil=>simp at h
 |cons a r b=>
  have e:∀(a:E)(r:dB),bj (a::r)=aw a.D::aw a.l::aO a.dP::bw a.f::bj r:=λa r=>by simp[bj,E.bU]
  cases p with
  |zero=>rw[eZ,e,e];simp
  |succ p=>
   rw[eO,e,e,<-b p (dV h:p<y r)];rw[show(p+1)*4=p*4+1+1+1+1 by omega];simp_all
def Yu(x:E)(m:fE a b 223 4 (bX c 0 (y i) k) (y i) (bj i))(s:n<y i):fE (cP (cP (cP (cP a (X c<|n*4)<|aw x.D) (X c<|n*4+1)<|aw x.l) (X c<|n*4+2)<|aO x.dP) (X c<|n*4+3)<|bw x.f) b 223 4 (bX c 0 (y i) k) (y<|i.set n x) (bj<|i.set n x):=by
 refine⟨ie _,bu ?_⟩;obtain⟨e,r⟩|⟨q,j,p,e,g,l,d,h,f,o⟩:=m.2;cases e;cases e;refine⟨c,k,_,by rw[gA],g,aY<|aY<|aY<|aY l,by rw[gA];exact d,h,dV f,?_⟩;grind[Array.toList_setIfInBounds,take_set,length_set,ZR]
def VV{r:dB}(h:i.take b++S::i.drop b=r)(c:b<=y i):(bj i).take (b*4)++bj [S]++(bj i).drop (b*4)=bj r:=by
 rw[<-h,ig,show S::i.drop b=[S]++i.drop b from rfl,ig,cw];have a:=cD bj<|du b i;rw[ig]at a;grind[ie,length_take,take_left',drop_left']
def L2{r:dB}(h:i.take b++S::i.drop b=r)(a:b<=y i):y r=y i+1:=by
 rw[<-h,ai,bK,dX,iZ];omega
def Xu{t:dB}(h:lG a d i)(hm:lG a w t)(hs:gG i)(hl:y i+y t<=100000000)(bx:∀k,cN d=M k->k<G (H a))(bl:∀k,cN w=M k->k<G (H a)):cR bN 126 #[d,w] a λaV w'=>∃v',aV=aN v'/\fE w' (G<|H a) 223 4 v' (y<|jL i t) (bj<|jL i t)/\I aC a w':=by
 have bf:=Th h U bx;obtain⟨mx,mc,bm⟩:=cG hm;obtain⟨vx,vc,bE⟩:=cG h;subst bm;subst bE;go_in
 go_wp2_with fail
 apply bf.mono;rintro aV w1⟨v1,rfl,aD,bd⟩;obtain⟨x1,c1,bv⟩:=aM aD;subst bv;have bb:=ak<|I.p (S:=aC) bd;go_wp2_with fail
 go_loopw [5,13] (λo b wr=>∃(k:R),k<=y t/\b=ay k/\fE wr (G<|H a) 223 4 o (y<|jL i<|t.take k) (bj<|jL i<|t.take k)/\I aC a wr) (λ_ b _=>y t-(intOf b).toNat)
 case atStart=>exact⟨0,bQ _,rfl,aD,bb⟩
 (case round=>obtain⟨k,T,rfl,L,F⟩:=hrel;obtain⟨nx,nc,bp⟩:=aM L;subst bp;by_cases D:k<y t;(.have e1:(k:Y)<(y t:Y):=U;have B:=Ky (l:=i) D;have C:gG (jL i<|t.take k):=hs.jL _;have bk:y (jL i<|t.take k)<=100000000:=gW (zx i<|t.take k)<|uk k t;generalize jL i (t.take k)=b at L B C bk|-;obtain⟨cb,⟨ax,ca⟩|⟨ba,g,bT,ax,cd,hc⟩⟩:=hm;exfalso;omega;cases ax;have x:ba<G (H a):=bl ba z;have s:=fI t k D;have:ba<G (H wr):=au x F.D;have bq:bA wr (X ba<|g+k*4)=M (aw t[k].D):=F.u (hc _ _ s.1) id x;have br:bA wr (X ba<|g+k*4+1)=M (aw t[k].l):=F.u (by rw[bJ];grind) id x;have bs:bA wr (X ba<|g+k*4+2)=M (aO t[k].dP):=F.u (by rw[bJ];grind) id x;have bt:bA wr (X ba<|g+k*4+3)=M (bw t[k].f):=F.u (by rw[bJ];grind) id x;generalize t[k]=ce at*;obtain⟨e,l,xd,f⟩:=ce;simp only at bq br bs bt;have W:I aC wr (dw wr<|aK #[aw e,aw l,aO xd,bw f] 223):=(cI _ _);have N:=DR (am nx (y b) nc) e f (dw wr<|aK #[aw e,aw l,aO xd,bw f] 223) (dQ<|W.aZ L<|λ_ _ aD=>aD) C U (λba a=>by have:=(L.lt ba a).2;simp;omega);have A:=Lp b ⟨e,⟨#[]⟩,bD,f⟩;by_cases ao:∃h:mP b ⟨e,⟨#[]⟩,bD,f⟩<y b,b[mP b ⟨e,⟨#[]⟩,bD,f⟩].D=e/\b[mP b ⟨e,⟨#[]⟩,bD,f⟩].f=f;(.obtain⟨Q,P,K⟩:=ao;have aU:=Ut C ⟨e,l,xd,f⟩ Q P K;have aa:=ak<|show b.set (mP b ⟨e,⟨#[]⟩,bD,f⟩) ⟨e,l,xd,f⟩=qz b ⟨e,l,xd,f⟩from aU;generalize mP b ⟨e,⟨#[]⟩,bD,f⟩=p at*;have e2:(p:Y)<(y b:Y):=U;have e3:(0:Y)<=(p:Y):=U;(go_wp2_with fail);apply N.mono;rintro aV c⟨rfl,v⟩;have u:jQ c (G<|H wr) ⟨e,l,xd,f⟩:=(v.block _ ar).trans<|aQ _ z;have r:I aC wr c:=W.t<|I.p (S:=aC) v;have o:=r.aZ L<|λ_ _ aD=>aD;obtain⟨q0,q1,q2,q3⟩:=u.bU;have av:=az u;simp only at q0 q1 q2 q3;have bi:∀m,cN (am nx (y b) nc)=M m->m<G (H wr):=λm s=>(L.lt m s).2;obtain⟨h2,h0⟩|⟨m,ab,bL,h2,bh,s,ap,bn,bg,j⟩:=o.2;exfalso;omega;cases h2;have:m≠G (H wr):=λaV=>bP<|bi m z;have cc:=fI b p Q;(have r0:bA c (X m<|p*4)=M (aw b[p].D):=by simpa using rZ s j _ _ 0 sO);(have r1:bA c (X m<|p*4+1)=M (aw b[p].l):=by simpa using rZ s j _ _ 0 sO);(have r2:bA c (X m<|p*4+2)=M (aO b[p].dP):=by simpa using rZ s j _ _ 0 sO);(have r3:bA c (X m<|p*4+3)=M (bw b[p].f):=by simpa using rZ s j _ _ 0 sO);(have f0:∀j,iI c (X m j)=bD:=λj=>by simp[World.frozen?,s]);have ac:=f0<|p*4;have ad:=f0<|p*4+1;have al:=f0<|p*4+2;have an:=f0<|p*4+3;generalize G (H wr)=eb at*;generalize b[p]=O at*;obtain⟨yk,yv,yd,yb⟩:=O;simp only at r0 r1 r2 r3 P K;subst P;subst K;go_wp2;(go_quiet(fail));have hd:I aC c (c.drewN nq):=I.p<|below_drewN (Below.refl _ _) _;have V:=ak<|hd.aZ o<|λ_ _ aD=>aD;have bc:=ak<|(F.t r).t hd;have:eb<G (H<|c.drewN nq):=av;(replace r0:bA (c.drewN nq) (X m<|p*4)=_:=r0);(replace r1:bA (c.drewN nq) (X m<|p*4+1)=_:=r1);(replace r2:bA (c.drewN nq) (X m<|p*4+2)=_:=r2);(replace r3:bA (c.drewN nq) (X m<|p*4+3)=_:=r3);(replace q0:bA (c.drewN nq) (X eb 0)=_:=q0);(replace q1:bA (c.drewN nq) (X eb 1)=_:=q1);(replace q2:bA (c.drewN nq) (X eb 2)=_:=q2);(replace q3:bA (c.drewN nq) (X eb 3)=_:=q3);(replace ac:iI (c.drewN nq) (X m<|p*4)=_:=ac);(replace ad:iI (c.drewN nq) (X m<|p*4+1)=_:=ad);(replace al:iI (c.drewN nq) (X m<|p*4+2)=_:=al);(replace an:iI (c.drewN nq) (X m<|p*4+3)=_:=an);generalize c.drewN nq=w3 at*;go_wp2;have bo:∀k,k=m->G (H a)<=k:=λk T=>T▸(V.lt m z).1;refine⟨⟨k+1,D,dM,?_,?_⟩,by simp[intOf];omega⟩;rw[B,<-ag aa];exact Yu ⟨yk,l,xd,yb⟩ V Q;refine(((bc.aL _ _ _ ?_).aL _ _ _ ?_).aL _ _ _ ?_).aL _ _ _ ?_<;>exact bu<|bo m z);(.have aa:=Uv C ⟨e,l,xd,f⟩<|C.zao ⟨e,l,xd,f⟩<|λa aV=>ao ⟨a,aV⟩;have K:=ak<|show b.take (mP b ⟨e,⟨#[]⟩,bD,f⟩)++⟨e,l,xd,f⟩::b.drop (mP b ⟨e,⟨#[]⟩,bD,f⟩)=qz b ⟨e,l,xd,f⟩from aa;generalize mP b ⟨e,⟨#[]⟩,bD,f⟩=p at*;(go_wp2_with fail);apply N.mono;rintro aV c⟨rfl,v⟩;have u:jQ c (G<|H wr) ⟨e,l,xd,f⟩:=(v.block _ ar).trans<|aQ _ z;have r:I aC wr c:=W.t<|I.p (S:=aC) v;have o:=r.aZ L<|λ_ _ aD=>aD;obtain⟨q0,q1,q2,q3⟩:=u.bU;have:=az u;simp only at q0 q1 q2 q3;have:=F.D;have:=r.D;have al:=ak (λ(q:R)=>show _/\_/\_ from have V:I aC c (dw (c.drewN q)<|aK #[aw e,aw l,aO xd,bw f] 223):=(I.p (S:=aC)<|below_drewN (Below.refl _ c) q).aE _;have ac:=V.aZ o<|λ_ _ aD=>aD;⟨SA (w:=(dw (c.drewN q)<|aK #[aw e,aw l,aO xd,bw f] 223)) (n6:=G<|H a) (v:=(am nx (y b) nc)) (n:=y b) p (xs:=(bj b)) (x:=⟨e,l,xd,f⟩) (vb:=G<|H c) ac (bP V.D) (aQ _ z) (λaV=>bP<|(o.lt _ aV).2) A U<|YC b,(F.t r).t V,λk T=>(ac.lt k T).1⟩);(have P:(∃m,nx=M (X m 0)/\∃O:E,p<y b/\bA c (X m<|p*4)=M (aw O.D)/\bA c (X m<|p*4+3)=M (bw O.f)/\(O.D≠e\/(O.D=e/\O.f≠f)))\/((p:Y)<(y b:Y))=False:=by by_cases Q:p<y b;left;obtain⟨h2,h0⟩|⟨m,ab,bL,h2,bh,s,ap,bn,bg,j⟩:=o.2;omega;cases h2;have:=fI b p Q;refine⟨m,z,b[p],Q,by simpa using rZ s j _ _ 0 sO,by simpa using rZ s j _ _ 0 sO,?_⟩;by_cases T:b[p].D=e;simp_all;simp_all;simp_all);generalize G (H wr)=eb at*;obtain⟨m,rfl,⟨yk,yv,yd,yb⟩,Q,r0,r3,hy|⟨rfl,hy⟩⟩|e2:=P;(case' inl.inl=>simp only at r0 r3 hy;have e2:(p:Y)<(y b:Y):=U;have e3:(0:Y)<=(p:Y):=U;have e4:=DB hy);(case' inl.inr=>simp only at r0 r3 hy;have:(p:Y)<(y b:Y):=U;have:(0:Y)<=(p:Y):=U;have:(yb==f)=bD:=dV hy);(all_goals(go_wp2_with fail);(go_quiet(fail));obtain⟨aU,av,an⟩:=al nq;(go_wp2_with fail);apply aU.mono;rintro aV w4⟨v4,rfl,ad,bc,_⟩;obtain⟨x4,c4,bi⟩:=aM ad;subst bi;go_wp2;refine⟨⟨k+1,D,dM,?_,?_⟩,by simp[intOf];omega⟩;rw[B,L2 (ag K) A,<-VV (ag K) A];exact ad;exact av.aj bc<|λk T=>bu<|an k T)));have:¬(k:Y)<(y t:Y):=U;let⟨b,c,e⟩:=eU (show jL i t=jL i (t.take k)by rw[(U:k=y t),cQ]) L F;go_wp2;go_ret;exact⟨_,z,ag b▸c,e⟩)
def qf(a:Y)(c:MZ):E:=⟨c.D,if c.dP then⟨#[]⟩else c.l,c.dP,a⟩
theorem PK{e:vX}(b:Y)(hp:Cf a d e)(hv:∀k,cN d=M k->k<G (H a))(hr:y e<=1000000)(hz:∀bt∈e,bt.D.size<=140737488351232/\bt.l.size<=140737488351232):cR bN 106 #[d,.int .u64 b] a λbv w'=>∃v',bv=.returned v'/\fE w' (G<|H a) 223 4 v' (y e) (bj<|e.map<|qf b)/\I (λ_=>False) a w':=by
 have:∀(bt:eN)(a:Z),(Op.unary .not<|.bool bt).run bN a=.ok (.bool<|!bt) a:=λ_ _=>rfl;let⟨i0,aa,al,an,ao⟩:=cZ oP;let⟨cx,cc,bn⟩:=cG hp;subst bn;go_in
 go_wp2_with(at_make;refine kg _ z _ _ 102 z (G<|H a) 223 i0 yu 4 underlying102 aa al an _ _ _ (y e) z z z (by rw[ao];omega) (by unfold maxLen;omega) (aq _) ?_;intro w1 bg bd;have O:=ak bg;have ap:=ak bd)
 go_loopw [5,14] (λo bx wr=>∃(k:R),k<=y e/\bx=.int .i64 k/\fE wr (G<|H a) 223 4 o k (bj<|(e.take k).map<|qf b)/\I (λ_=>False) a wr) (λ_ bx _=>y e-(intOf bx).toNat)
 exact⟨0,bQ _,z,O,I.eF ap ar⟩
 .obtain⟨k,hk,rfl,ho,L⟩:=hrel;obtain⟨nx,nc,bo⟩:=aM ho;subst bo;by_cases s:k<y e
  .have e1:(k:Y)<(y e:Y):=U;obtain⟨bT,⟨bf,bL⟩|⟨bk,f,bE,bf,ca,hc⟩⟩:=hp
   .exfalso;omega
   cases bf;have F:bk<G (H a):=hv bk z;have hg:=np e k s;have:bk<G (H wr):=au F L.D;have bp:bA wr ⟨bk,f+k*3,dE⟩=M (.string e[k].D):=L.u (hc _ _ hg.1) id F;have bq:bA wr ⟨bk,f+k*3+1,dE⟩=M (.string e[k].l):=L.u (by rw[bJ];grind) id F;have br:bA wr ⟨bk,f+k*3+2,dE⟩=M (.bool e[k].dP):=L.u (by rw[bJ];grind) id F;have bs:=hz _<|aB s;let⟨ax,HO,HT⟩:=eU (show(e.take<|k+1).map (qf b)=(e.take k).map (qf b)++[qf b e[k]]by rw[aG s,bz];rfl) ho L;generalize e[k]=bt at*;let⟨g,j,xd⟩:=bt;simp only at bp bq br bs;have bc:=λW=>rC g W U;go_wp21;rename_i QQ KK bm;have m:(dw wr<|.cells #[.string g,.string j,.bool xd] 66).heap[G<|H wr]?=M (.cells #[.string g,.string j,.bool xd] 66 (0,0)):=aQ _ z;have ba:I (λ_=>False) a (dw wr<|.cells #[.string g,.string j,.bool xd] 66):=HT.aE _;have aU:=bC HO<|.cells #[.string g,.string j,.bool xd] 66;generalize dw wr (.cells #[.string g,.string j,.bool xd] 66)=i at m ba aU|-;generalize G (H wr)=l at m|-;have C:bA i.drew ⟨l,0,dE⟩=M (.string g)/\bA i.drew ⟨l,2,dE⟩=M (.bool xd):=⟨by show bA i _=_;rw[cE m];rfl,by show bA i _=_;rw[cE m];rfl⟩;have t:=az m;let⟨x,bl,aD,av⟩:=js (show∀K,I (λ_=>False) i K->bA K ⟨l,0,dE⟩=M (.string g)/\bA K ⟨l,2,dE⟩=M (.bool xd)fromλK a=>⟨a.u C.1 id t,a.u C.2 id t⟩) m ba aU;refine cX (λK=>bA K ⟨l,0,dE⟩=M (.string g)/\bA K ⟨l,2,dE⟩=M (.bool xd)) 8 aH ?_;apply dH 0;iterate 2 (refine fX C ?_;simp only[ii,eh,ke])
   apply eS;apply dH 3;iterate 3 (refine fX C ?_;simp only[ii,eh,ke])
   apply eS;refine wo (α:=R) (λc W=>I (λ_=>False) i W/\W.heap[c]?=M (.cells #[.string ⟨#[]⟩,.string ⟨#[]⟩,.bool bD,.int .u64 0] 223 (0,0))/\G (H i)<=c) (λc=>{tmps:=#[.slice (M ⟨bk,f,dE⟩) (y e) cc,.int .u64 b,jn,jn,.slice dE 0 0,.slice nx k nc,jn,.pointer<|M ⟨l,0,dE⟩,.pointer<|M ⟨c,0,dE⟩,.slice (M ⟨bk,f,dE⟩) (y e) cc,.int .i64<|y e,.slice (M ⟨G<|H a,0,dE⟩) 0<|y e,.slice (M ⟨bk,f,dE⟩) (y e) cc,.int .i64<|y e,.int .i64 k,.bool cz,.pointer<|M ⟨bk,f+k*3,dE⟩,.agg #[.string g,.string j,.bool xd],.pointer<|M ⟨l,0,dE⟩,.string g,.string g,.pointer<|M ⟨l,2,dE⟩,.bool xd,.int .u64 b,.agg #[.string g,.string ⟨#[]⟩,.bool xd,.int .u64 b],u25,u26,u27,u28,u29,u30,u31,u32,u33,u34,u35,u36,jn],defers:=[]}) #[true,true,true,true,true,true,true,true,false] 1 ?_ ?_
   .intro bi;refine vk (i:=2) (j:=7) z z z z aH ?_ ?_
    .intro cd hK;go_simp;go_call bc _ as bv w4⟨rfl,E⟩;have n:I (λ_=>False) i w4:=(cf (λ_=>False) i).t<|I.p (S:=λ_=>False) E;have aV:=x w4 n;apply hK _ _<|λ_=>aV;refine mX (i:=6) (v:=?_) z z aH aH aH aH (λ_ _ _ h=>h) (J ⟨by rfl,?_⟩) aV ?_;rotate_left
     .rintro K⟨z0,z2⟩;go_simp;try with_reducible rfl
     refine aW 7 ?_;intro K2 V;go_simp;have w:=n.aE<|.cells #[.string ⟨#[]⟩,.string ⟨#[]⟩,.bool bD,.int .u64 0] 223;exact V _ _ (λ_=>x _ w)<|lC (bi (G<|H w4) _ ⟨w,aQ _ z,n.D⟩) aH
    .intro cd hK;go_simp;have n:I (λ_=>False) i ((dw i<|.cells #[.string ⟨#[]⟩,.string ⟨#[]⟩,.bool bD,.int .u64 0] 223).drew):=(cI (λ_=>False) i).df z;have E:((dw i<|.cells #[.string ⟨#[]⟩,.string ⟨#[]⟩,.bool bD,.int .u64 0] 223).drew).heap[G<|H i]?=M (.cells #[.string ⟨#[]⟩,.string ⟨#[]⟩,.bool bD,.int .u64 0] 223 (0,0)):=aQ (w:=i) _ z;apply hK _ _<|λ_=>x _ n;refine aW 2 ?_;intro K2 V;go_simp;apply(bc _).mono;rintro bv w5⟨rfl,bb⟩;have w:I (λ_=>False) i w5:=n.t<|I.p (S:=λ_=>False) bb;have aV:=x _ w;apply V _ _<|λ_=>aV;refine mX (i:=6) (v:=?_) z z aH aH aH aH (λ_ _ _ h=>h) (J ⟨by rfl,?_⟩) aV ?_;rotate_left
     .rintro K⟨z0,z2⟩;go_simp;try with_reducible rfl
     exact lC (bi (G<|H i) _ ⟨w,(((I.p (S:=λ_=>False) bb).A _ (az E) id).trans E),aq _⟩) aH
   rintro c W⟨L,Q,r⟩;have:=az Q;refine aW 8 ?_;intro cd hK;have:bA W ⟨c,0,dE⟩=M (.string ⟨#[]⟩):=by rw[cE Q];rfl
   have:bA W ⟨c,1,dE⟩=M (.string ⟨#[]⟩):=by rw[cE Q];rfl
   have:bA W ⟨c,2,dE⟩=M (.bool bD):=by rw[cE Q];rfl
   have:bA W ⟨c,3,dE⟩=M (.int .u64 0):=by rw[cE Q];rfl
   have:∀cb,iI W ⟨c,cb,dE⟩=bD:=λcb=>by simp[World.frozen?,Q]
   go_simp;apply hK _ _ wX;refine dG aH ?_ _;show KK _ _;apply bm;have A:jQ (cP (cP (cP (cP W ⟨c,0,dE⟩<|.string g) ⟨c,1,dE⟩<|.string ⟨#[]⟩) ⟨c,2,dE⟩<|.bool xd) ⟨c,3,dE⟩<|.int .u64 b) c ⟨g,⟨#[]⟩,xd,b⟩:=aY<|aY<|aY<|aY Q;have p:I (λ_=>False) i (cP (cP (cP (cP W ⟨c,0,dE⟩<|.string g) ⟨c,1,dE⟩<|.string ⟨#[]⟩) ⟨c,2,dE⟩<|.bool xd) ⟨c,3,dE⟩<|.int .u64 b):=(((L.aL _ _ _<|bu r).aL _ _ _<|bu r).aL _ _ _<|bu r).aL _ _ _<|bu r;have D:=aD.t p;have B:=p.aZ av<|λ_ _ d=>d;have o:=(p.A _ t id).trans bl;have:c≠l:=U;have bh:G (H a)<=c:=aR aD.D r;generalize(cP (cP (cP (cP W ⟨c,0,dE⟩<|.string g) ⟨c,1,dE⟩<|.string ⟨#[]⟩) ⟨c,2,dE⟩<|.bool xd) ⟨c,3,dE⟩<|.int .u64 b)=W5 at A D B o|-;have:bA W5 ⟨l,0,dE⟩=M (.string g):=by rw[cE o];rfl
   have:bA W5 ⟨l,1,dE⟩=M (.string j):=by rw[cE o];rfl
   have:bA W5 ⟨l,2,dE⟩=M (.bool xd):=by rw[cE o];rfl
   have:=az o;obtain⟨g0,g1,g2,g3⟩:=A.bU;simp only at g0 g1 g2 g3;cases xd with
   |true=>
    go_wp2_with(at_builtin;refine cq _ z (.tmp 32) (.tmp 34) 102 z (G<|H a) 223 i0 yu 4 48 underlying102 aa al an ao z cg (.slice nx k nc) k (bj<|(e.take k).map<|qf b) z (bC B<|.cells #[.string g,.string ⟨#[]⟩,.bool cz,.int .u64 b] 223) ⟨G<|H W5,0,dE⟩ 1 1 (bj [⟨g,⟨#[]⟩,cz,b⟩]) z z (yN _ ⟨g,⟨#[]⟩,cz,b⟩ _) (DT _) U U (by have:=D.D;simp;omega) ?_;intro v7 w7 ab ad;have N:=ak ab;have P:=ak ad)
    obtain⟨x7,c7,ac⟩:=aM N;subst ac;go_roundw;case rel=>
     refine⟨k+1,s,dM,?_,?_⟩
     .rwa[ag ax,ig]
     .exact(D.aE _).aj (I.eF (S:=λq=>cN (Value.slice nx k nc)=M q) P.dF<|λq u=>J u)<|λq u=>bu (B.lt q u).1
    case measure=>simp[intOf];omega
   |false=>
    go_wp2_with fail
    apply((λW=>rC j W U) _).mono;rintro bv w6⟨rfl,aV⟩;have w:I (λ_=>False) W5 w6:=I.p aV;have n:jQ w6 c ⟨g,⟨#[]⟩,bD,b⟩:=(w.A _ (az A) id).trans A;have:G (H a)<=c:=bh;have V:=(D.t w).aL c 1 (.string j)<|bu bh;have E:=(((w.aT (T:=λq=>q=c) cY).aL c 1 (.string j)<|J z)).aZ B<|λq u d=>(λbv=>bP ((av.lt c bv).2):cN (Value.slice nx k nc)≠M c)<|d▸u;obtain⟨h0,h1,h2,h3⟩:=n.bU;simp only at h0 h1 h2 h3;have:iI w6 ⟨c,1,dE⟩=bD:=by unfold jQ at n;simp[World.frozen?,n]
    have:=az n;go_wp2_with(at_builtin;refine cq _ z (.tmp 32) (.tmp 34) 102 z (G<|H a) 223 i0 yu 4 48 underlying102 aa al an ao z cg (.slice nx k nc) k (bj<|(e.take k).map<|qf b) z (bC E<|.cells #[.string g,.string j,.bool bD,.int .u64 b] 223) ⟨G<|H w6,0,dE⟩ 1 1 (bj [⟨g,j,bD,b⟩]) z z (by have u:=yN (cP w6 ⟨c,1,dE⟩<|.string j) ⟨g,j,bD,b⟩ 223;rwa[gK]at u) (DT _) U U (by have:=V.D;simp;omega) ?_;intro v7 w7 ab ad;have N:=ak ab;have P:=ak ad)
    obtain⟨x7,c7,ac⟩:=aM N;subst ac;go_roundw
    .refine⟨k+1,s,dM,?_,?_⟩
     .rwa[ag ax,ig]
     .exact(V.aE _).aj (I.eF (S:=λq=>cN (Value.slice nx k nc)=M q) P.dF<|λq u=>J u)<|λq u=>bu (E.lt q u).1
    .simp[intOf];omega
  .have:¬(k:Y)<(y e:Y):=U;have c:k=y e:=U;let⟨g,f,HO,HT⟩:=js (show bj (e.map<|qf b)=bj ((e.take k).map<|qf b)by rw[c,cQ]) c ho L;go_wp2;go_ret;exact⟨_,z,ag g▸ag f▸HO,HT⟩
def FN(w:Z)(v:ae)(a:vX):Prop:=(Cf w v a/\∀k,cN v=M k->k<G (H w))\/(a=[]/\∃(b:Addr)(c:R),v=am (M b) 0 c)
def sZ{c:vX}(h:FN a d c):∃x g,d=am x (y c) g:=by
 obtain⟨⟨k,⟨f,j⟩|⟨i,e,b,f,_⟩⟩,_⟩|⟨rfl,l,g,rfl⟩:=h;grind
 grind
 simp_all
def FN.aA{S:fC}{w w':Z}{a:vX}(h:FN w d a)(c:I S w w')(j:∀k,k<G (H w)->¬S k):FN w' d a:=by
 obtain⟨h,e⟩|h:=h;exact J ⟨c.bV h aI,λk g=>au (e k g) c.D⟩;exact bu h
def LF(x:Option Addr)(c:R)(w:Z):cR bN 50 #[am x 0 c] w λe b=>e=aN (uf<|gT [])/\I aC w b:=by
 go_in
 go_wp2;go_loopw [11] (λi wr=>i=ay 0/\wr=w) (λ_ _=>0)
 grind
 obtain⟨rfl,a⟩:=hrel;subst wr;go_wp2;go_ret;exact⟨z,I.bI _ _⟩
def YP{b:vX}(e:FN a d b)(f:y b<=1000000000000)(g:∀x∈b,x.D.size<=140737488351232/\x.l.size<=140737488351232):cR bN 50 #[d] a λj i=>j=aN (uf<|gT b)/\I aC a i:=by
 obtain⟨h,c⟩|⟨rfl,k,d,rfl⟩:=e;exact ON h c f g;exact LF _ _ _
def EA(x:Option Addr)(c:R)(w:Z):cR bN 38 #[am x 0 c] w λe b=>∃a,e=aN a/\MR b (G<|H w) a []/\gD (G<|H w) w b:=by
 go_in
 go_wp2;go_loopw [3,4] (λo i wr=>i=ay 0/\o=aF/\wr=w) (λ_ _ _=>0)
 grind
 obtain⟨rfl,rfl,rfl⟩:=hrel;go_wp2;go_ret;exact⟨_,z,ct _ _ _ _,Below.refl _ _⟩
def Ty{l:vX}(f:y l<=1000000000000)(g:FN a d l):cR bN 38 #[d] a λi c=>∃b,i=aN b/\MR c (G<|H a) b l/\gD (G<|H a) a c:=by
 obtain⟨h,e⟩|⟨rfl,j,k,rfl⟩:=g;exact yg l d a f h e;exact EA _ _ _
def Mh(x:Option Addr)(q:R)(a:Y)(w:Z):cR bN 106 #[am x 0 q,.int .u64 a] w λr n=>∃m,r=aN m/\fE n (G<|H w) 223 4 m 0 []/\I aC w n:=by
 let⟨p,f,i,j,k⟩:=cZ oP;go_in
 go_wp2_with(at_make;refine kg _ z _ _ 102 z (G<|H w) 223 p yu 4 underlying102 f i j _ _ _ 0 z z z (by rw[k];omega) aI (aq _) ?_;intro u c b;have d:=ak c;have e:=ak b;clear c b)
 go_loopw [5,14] (λo i wr=>i=ay 0/\fE wr (G<|H w) 223 4 o 0 []/\I aC w wr) (λ_ _ _=>0)
 exact⟨z,d,I.eF e ar⟩;obtain⟨rfl,l,o⟩:=hrel;let⟨t,s,g⟩:=aM l;subst g;go_wp2;go_ret;exact⟨_,z,l,o⟩
def ZT{c:vX}(b:Y)(g:FN a d c)(k:y c<=1000000)(l:∀x∈c,x.D.size<=140737488351232/\x.l.size<=140737488351232):cR bN 106 #[d,.int .u64 b] a λi f=>∃e,i=aN e/\fE f (G<|H a) 223 4 e (y c) (bj<|c.map<|qf b)/\I aC a f:=by
 obtain⟨h,j⟩|⟨rfl,m,d,rfl⟩:=g;grind[PK]
 exact Mh _ _ _ _
def Xb(e:Ending):Prop:=∃b,e=aN (aO b)
structure Xr where
 kd:Y
 L:ae
 cs:vX
def Xr.bU(o:Xr):iF:=[ay o.kd,o.L]
def De(a:cy Xr):iF:=a.flatMap Xr.bU
def yL(a:cy Xr)(i:R)(h:i<y a)(j:R)(b:j<2):(De a)[i*2+j]?=a[i].bU[j]?:=by
 induction a generalizing i with
 |nil=>simp at h
 |cons o a c=>
  have:De (o::a)=o.bU++De a:=rfl;have:y o.bU=2:=rfl;grind
structure Xj where
 kd:Y
 A:Y
 B:Y
 S:af
 T:af
 L:ae
 cs:vX
def Xj.bU(o:Xj):iF:=[ay o.kd,ay o.A,ay o.B,aw o.S,aw o.T,o.L]
def CD(a:cy Xj):iF:=a.flatMap Xj.bU
def ml(a:cy Xj)(i:R)(h:i<y a)(j:R)(b:j<6):(CD a)[i*6+j]?=a[i].bU[j]?:=by
 induction a generalizing i with
 |nil=>simp at h
 |cons o a c=>
  have:CD (o::a)=o.bU++CD a:=rfl;have:y o.bU=6:=rfl;grind
def Q3(w:Z)(L:ae)(a:vX):Prop:=FN w L a/\(∀c∈a,c.D.size<=1048576/\c.l.size<=1048576)/\y a<=1048576
structure Uq(w:Z)(v:ae)(os:cy Xr):Prop where
 bV:Row w 2 v (y os) (De os)
 lt:∀k,cN v=M k->k<G (H w)
 L:∀o∈os,Q3 w o.L o.cs
 dL:y os<=349525
structure Tr(w:Z)(v:ae)(os:cy Xj):Prop where
 bV:Row w 6 v (y os) (CD os)
 lt:∀k,cN v=M k->k<G (H w)
 L:∀o∈os,Q3 w o.L o.cs
 f:∀o∈os,o.S.size<=1048576/\o.T.size<=1048576
 dL:y os<=1048576
def p7{x:Option Addr}{e:vX}(h:Q3 a (am x (y e) b) e)(i:c<y e):∃f d,x=M (X f d)/\bA a (X f<|d+c*3)=M (aw e[c].D)/\bA a (X f<|d+c*3+1)=M (aw e[c].l):=by
 obtain⟨⟨q,⟨l,p⟩|⟨f,d,j,l,k,g⟩⟩,_⟩|⟨o,_⟩:=h.1;omega;cases l;let⟨m,n,_⟩:=np e c i;exact⟨f,d,z,g _ _ m,by rw[bJ];exact g _ _ n⟩;rw[o]at i;simp at i
def Rn(V d al:R)(c:cy Xr)(h:Uq a (bX V d (y c) al) c):cR bN 5 #[bX V d (y c) al] a λan w'=>Xb an/\∃q,w'=a.drewN q:=by
 have K:=h.dL;have e1:¬((1048576:Y)<(y c:Y)):=U;have f:∀n(x:n<y c),bA a (X V<|d+n*2+1)=M c[n].L:=λn x=>by obtain⟨l,⟨w,k⟩|⟨j,e,b,w,i,g⟩⟩:=h.bV;cases w;cases w;rw[bJ];exact g _ _<|(yL c n x 1 U).trans z
 have o:=ak f;have N:=ak h;clear h f;go_in
 go_wp21;go_loopw [3,4] (λB b wr=>∃n r:R,n<=y c/\b=ay n/\B=ay (r:R)/\r<=1048576/\∃q,wr=a.drewN q) (λ_ b _=>y c-(intOf b).toNat)
 exact⟨0,y c,bQ _,z,z,U,0,z⟩;obtain⟨n,r,x,rfl,rfl,u,q,rfl⟩:=hrel;by_cases p:n<y c;(.have k:=aB p;have c5:=ag o n p;have e:=(ag N).L _ k;let⟨lx,lc,F⟩:=sZ e.1;rw[F]at c5 e;generalize c[n]=ao at*;let⟨ad,oL,b⟩:=ao;simp only at c5 e F;have ab:=e.2.2;have e2:(n:Y)<(y c:Y):=U;have e3:(0:Y)<=(n:Y):=U;have s:=ak e;clear e k;go_wp21;(go_loopw [3,5] (λB c wr=>∃v r:R,v<=y b/\c=ay v/\B=ay (r:R)/\r<=1048576/\∃q,wr=a.drewN q) (λ_ c _=>y b-(intOf c).toNat));exact⟨0,r,bQ _,z,z,u,q,z⟩;obtain⟨v,P,hk,rfl,rfl,W,w,rfl⟩:=hrel;by_cases g:v<y b;(.let⟨g2,L,t,Q,S⟩:=p7 (ag s) g;subst t;have A:=(ag s).2.1 _<|aB g;let⟨i,j⟩:∃i,b[v].D.size=i:=⟨_,rfl⟩;let⟨m,l⟩:∃m,b[v].l.size=m:=⟨_,rfl⟩;rw[j,l]at A;generalize b[v]=O at*;let⟨D,E,C⟩:=O;simp only at Q S j l;(have b1:IntKind.i64.wrap ((P:Y)+1)=(P:Y)+1:=by rw[bR];omega);(have b2:IntKind.i64.wrap ((P:Y)+1+(i:Y))=(P:Y)+1+i:=by rw[bR];omega);(have b3:IntKind.i64.wrap ((P:Y)+1+(i:Y)+(m:Y))=(P:Y)+1+i+m:=by rw[bR];omega);have f1:(v:Y)<(y b:Y):=U;have f0:(0:Y)<=(v:Y):=U;by_cases aa:1048576<P+1+i+m;(.have T:(1048576:Y)<(P:Y)+1+i+m:=U;go_wp21;(go_quiet(fail));go_wp2;go_ret;exact⟨⟨_,z⟩,_,z⟩);have T:¬((1048576:Y)<(P:Y)+1+i+m):=U;go_wp21;(go_quiet(fail));rename_i ac;go_wp2;go_roundw;exact⟨v+1,P+1+i+m,g,dM,dM,U,_,z⟩;simp[intOf];omega);have i:v=y b:=U;subst i;have:¬((y b:Y)<(y b:Y)):=U;have:¬((1048576:Y)<(P:Y)):=U;go_wp2;go_roundw;exact⟨n+1,P,p,dM,z,W,w,z⟩;simp[intOf];omega);have b:n=y c:=U;subst b;have:¬((y c:Y)<(y c:Y)):=U;go_wp2;go_ret;exact⟨⟨_,z⟩,q,z⟩
def Rm(x:Option Addr)(d:R)(w:Z):cR bN 5 #[am x 0 d] w λe c=>Xb e/\∃q,c=w.drewN q:=by
 go_in
 go_wp2;go_loopw [3,4] (λb a wr=>b=ay 0/\a=ay 0/\wr=w) (λ_ _ _=>0)
 grind
 obtain⟨rfl,rfl,rfl⟩:=hrel;go_wp2;go_ret;exact⟨⟨_,z⟩,0,z⟩
def Ri(T b al:R)(d:cy Xj)(h:Tr a (bX T b (y d) al) d):cR bN 6 #[bX T b (y d) al] a λan w'=>Xb an/\∃q,w'=a.drewN q:=by
 have:=h.dL;have:¬((1048576:Y)<(y d:Y)):=U;have f:∀k(v:k<y d),bA a (X T<|b+k*6+3)=M (aw d[k].S)/\bA a (X T<|b+k*6+4)=M (aw d[k].T)/\bA a (X T<|b+k*6+5)=M d[k].L:=λk v=>by obtain⟨n,⟨t,m⟩|⟨l,g,e,t,i,c⟩⟩:=h.bV;cases t;cases t;refine⟨?_,?_,?_⟩;rw[bJ];exact c _ _<|(ml d k v 3 U).trans z;rw[bJ];exact c _ _<|(ml d k v 4 U).trans z;rw[bJ];exact c _ _<|(ml d k v 5 U).trans z
 have p:=ak f;have L:=ak h;clear h f;go_in
 go_wp21;go_loopw [3,4] (λK b wr=>∃k j:R,k<=y d/\b=ay k/\K=ay (j:R)/\j<=1048576/\∃q,wr=a.drewN q) (λ_ b _=>y d-(intOf b).toNat)
 exact⟨0,y d,bQ _,z,z,U,0,z⟩;obtain⟨k,j,v,rfl,rfl,W,q,rfl⟩:=hrel;by_cases r:k<y d;(.have i:=aB r;let⟨c3,c4,c5⟩:=ag p k r;have x:=(ag L).f _ i;have e:=(ag L).L _ i;let⟨lx,lc,V⟩:=sZ e.1;rw[V]at c5 e;generalize d[k]=ao at*;let⟨ad,oA,oB,oS,oT,oL,c⟩:=ao;simp only at c3 c4 c5 x e V;have ab:=e.2.2;let⟨s,E⟩:∃s,oS.size=s:=⟨_,rfl⟩;let⟨B,F⟩:∃B,oT.size=B:=⟨_,rfl⟩;rw[E,F]at x;(have a1:IntKind.i64.wrap ((j:Y)+(s:Y))=(j:Y)+s:=by rw[bR];omega);(have a2:IntKind.i64.wrap ((j:Y)+(s:Y)+(B:Y))=(j:Y)+s+B:=by rw[bR];omega);have e2:(k:Y)<(y d:Y):=U;have e3:(0:Y)<=(k:Y):=U;have u:=ak e;clear e i;go_wp21;(go_quiet(fail));rename_i nq;go_wp21;(go_loopw [3,5] (λK b wr=>∃A j:R,A<=y c/\b=ay A/\K=ay (j:R)/\j<=3145728/\∃q,wr=a.drewN q) (λ_ b _=>y c-(intOf b).toNat));exact⟨0,j+s+B,bQ _,z,dM,U,q+nq,Ee a q nq⟩;obtain⟨A,P,hk,rfl,rfl,hP,t,rfl⟩:=hrel;by_cases g:A<y c;(.let⟨g2,aa,w,d0,d1⟩:=p7 (ag u) g;subst w;have D:=(ag u).2.1 _<|aB g;let⟨l,m⟩:∃l,c[A].D.size=l:=⟨_,rfl⟩;let⟨o,n⟩:∃o,c[A].l.size=o:=⟨_,rfl⟩;rw[m,n]at D;generalize c[A]=cc at*;let⟨O,Q,N⟩:=cc;simp only at d0 d1 m n;(have:IntKind.i64.wrap ((P:Y)+1)=(P:Y)+1:=by rw[bR];omega);(have:IntKind.i64.wrap ((P:Y)+1+(l:Y))=(P:Y)+1+l:=by rw[bR];omega);(have:IntKind.i64.wrap ((P:Y)+1+(l:Y)+(o:Y))=(P:Y)+1+l+o:=by rw[bR];omega);have f1:(A:Y)<(y c:Y):=U;have:(0:Y)<=(A:Y):=U;by_cases C:1048576<P+1+l+o;(.have S:(1048576:Y)<(P:Y)+1+l+o:=U;go_wp21;(go_quiet(fail));go_wp2;go_ret;exact⟨⟨_,z⟩,_,z⟩);have S:¬((1048576:Y)<(P:Y)+1+l+o):=U;go_wp21;(go_quiet(fail));rename_i ac;go_wp2;go_roundw;exact⟨A+1,P+1+l+o,g,dM,dM,U,_,z⟩;simp[intOf];omega);have l:A=y c:=U;subst l;have:¬((y c:Y)<(y c:Y)):=U;by_cases C:1048576<P;(.have S:(1048576:Y)<(P:Y):=U;go_wp2;go_ret;exact⟨⟨_,z⟩,t,z⟩);have:¬((1048576:Y)<(P:Y)):=U;go_wp2;go_roundw;exact⟨k+1,P,r,dM,z,U,t,z⟩;simp[intOf];omega);have c:k=y d:=U;subst c;have:¬((y d:Y)<(y d:Y)):=U;go_wp2;go_ret;exact⟨⟨_,z⟩,q,z⟩
def Rh(x:Option Addr)(d:R)(w:Z):cR bN 6 #[am x 0 d] w λe c=>Xb e/\∃q,c=w.drewN q:=by
 go_in
 go_wp2;go_loopw [3,4] (λb a wr=>b=ay 0/\a=ay 0/\wr=w) (λ_ _ _=>0)
 grind
 obtain⟨rfl,rfl,rfl⟩:=hrel;go_wp2;go_ret;exact⟨⟨_,z⟩,0,z⟩
section
open Extern.Stop Stop Extern
def Ry(v:ae)(w:Z):(ReflectliteType.typeOf #[.iface 155 v]).run bN w=.ok (.iface 256<|ef #[ee<|M<|X (7) 155]) w:=aH
def Gx(w:Z):(ReflectliteType.relation "AssignableTo" ReflectliteType.assignableTo #[ef #[ee<|M<|X (7) 155],.iface 256<|ef #[ee<|M<|X (7) 47]]).run bN w=.ok (aO bD) w:=aH
def zdz(v:ae)(a:TypeId)(w:Z):(Instr.typeAssert (.iface 155 v) a 260 cz).run bN w=.ok (de #[ic,aO bD]) w:=run_typeAssert_lacksB underlying260 aH aH v a w
def O6(n:Y)(d:R)(t:Addr)(qP:ae)(b:bA a (X d 1)=M (ay n))(f:jP a)(c:bA a t=M qP)(e:iI a t=bD):cR bN 32 #[.iface 155<|aJ d,.iface 113<|ee<|M t] a λj g=>j=aN (aO cz)/\g=((A5 113 t a).alloc<|aK #[ay n] 47).setCell t (ay n):=by
 unfold jP at f;have:=rx6;have:=rx7;have:=rx8;have:=V4;have:=V2;have:=V1;have:=V7;have:=V3;have:=V6;have:=V5;have:=ym;have:=Ry;have:=Gx;have:=zdz;have:=KA;have:=yz;have:=AU;have:=oV;have:=zH;have:=EG;have:=EF;have:=NM;have:=wJ;have:=wK;have:=qm;have:=NQ;have:=NR;have:=NS;have:=zG;have:=Jr (X (G<|H a) 0) t (asA 113 t a) ar;have k:=cA _ _ f;have:=(Cc 113 t (aK #[] 0) k).1.trans f;have l:=Bv d n (A5 113 t a)<|(Cc 113 t (aK #[] 0)<|cA _ _ b).2.1.trans b;have:=Js (X (G<|H a) 0) t _<|Tm 113 t;have i:=Cc 113 t (aK #[ay n] 47)<|cA _ _ c;have:=TL t (X (G (H a)+1+1+1) 0) n qP ((A5 113 t a).alloc<|aK #[ay n] 47) (by rw[tG _ _ _ _ ar];rfl) (i.2.2.1.trans c)<|i.2.2.2.trans e;go_in
 go_wp2;refine iX 2 ?_;rw[io];go_wp21;go_call l as o g⟨rfl,m⟩;subst g;go_wp2;rw[io];go_wp2;go_ret;simp_all
def XK{q:R}(d:rE a q r)(j:jP a):cR bN 11 #[eW q] a λm l=>m=aN (ay r)/\gD (G<|H a) a l:=by
 let⟨e,d,_⟩:=d;have k:bA (dw a<|aK #[ay 0] 47) (X (G<|H a) 0)=M (ay 0):=ar;have i:iI (dw a<|aK #[ay 0] 47) (X (G<|H a) 0)=bD:=ar;have g:=O6 r q (X (G<|H a) 0) (ay 0) (aX ((gy (aK #[ay 0] 47)<|az d).trans d) 1 z) (j.aE _) k i;have:=AU;go_in
 go_wp2_with(go_at_call 32;refine g.mono ?_;rintro m f⟨rfl,b⟩;have c:gD (G<|H a) a f:=(b▸((((((Below.refl _ a).alloc (aq _) _).alloc ar _).alloc dW _).alloc dW _).alloc dW _).setCell (p:=(X (G<|H a) 0)) (aq _) _);have:bA f (X (G<|H a) 0)=M (ay r):=(b▸pZ _ _ _ (by rw[fa _ _ _ dW,fa _ _ _ dW,fa _ _ _ dW,fa _ _ _ ar];simp));have HB:=ak c;clear b c)
 go_ret;exact⟨z,HB⟩
def La(t:Addr)(w:Z):(ReflectliteValue.unpack<|.iface 298<|ee<|M t).run bN w=.ok (ef #[ee<|M<|X (7) 298,aJ<|G<|H w,bw 150]) (dw w<|aK #[ee<|M t] 298):=aH
def Vd(a:Addr)(w:Z):(ReflectliteValue.methodAny (ReflectliteValue.valueError "reflectlite.Value.Type" 0) (λt _ _ _=>ReflectliteType.toType t) #[ef #[ee<|M<|X (7) 298,ee<|M a,bw 150]]).run bN w=.ok (.iface 256<|ef #[ee<|M<|X (7) 298]) w:=aH
def Vf(w:Z):((ReflectliteType.abiMethod λt=>(λa:R=>Value.int IntKind.u8 (a:Y))<$>Rtype.kind t) #[ee<|M<|X (7) 298]).run bN w=.ok (sC 22) w:=aH
def Vg(w:Z):((ReflectliteType.abiMethod λt=>(λa:R=>Value.int IntKind.u8 (a:Y))<$>Rtype.kind t) #[ee<|M<|X (7) 155]).run bN w=.ok (sC 22) w:=aH
def Gw(a:Addr)(w:Z):(ReflectliteValue.parts<|ef #[ee<|M<|X (7) 298,ee<|M a,bw 150]).run bN w=.ok (M (298,a,150)) w:=aH
def RC(b p:Addr)(W:Z)(a:bA W b=M (ee<|M p)):(ReflectliteValue.method (ReflectliteValue.valueError "reflectlite.Value.IsNil" 0) ReflectliteValue.isNil #[ef #[ee<|M<|X (7) 298,ee<|M b,bw 150]]).run bN W=.ok (aO bD) W:=by
 rw[rlm];simp only[jy,Gw,Result.andThen];simp[ReflectliteValue.isNil,loadVar,isAgg,underlying,underlying298,a,Result.andThen]
def Vh(w:Z):(ReflectliteType.method ReflectliteType.elem #[ef #[ee<|M<|X (7) 298]]).run bN w=.ok (.iface 256<|ef #[ee<|M<|X (7) 155]) w:=aH
def Fk(w:Z):(ReflectliteType.relation "Implements" ReflectliteType.implements_ #[ef #[ee<|M<|X (7) 155],.iface 256<|ef #[ee<|M<|X (7) 44]]).run bN w=.ok (aO cz) w:=aH
def NO(v:ae)(w:Z):(ReflectliteType.typeOf #[.iface 155 v]).run bN w=.ok (.iface 256<|ef #[ee<|M<|X (7) 155]) w:=aH
def Fm(w:Z):(ReflectliteType.relation "AssignableTo" ReflectliteType.assignableTo #[ef #[ee<|M<|X (7) 155],.iface 256<|ef #[ee<|M<|X (7) 155]]).run bN w=.ok (aO cz) w:=aH
def Lb(n:R)(w:Z):(ReflectliteValue.unpack<|.iface 155<|aJ n).run bN w=.ok (ef #[ee<|M<|X (7) 155,aJ<|G<|H w,bw 150]) (dw w<|aK #[aJ n] 155):=aH
def NU(w:Z):(Rtype.elem? 298).run bN w=.ok (M 155) w:=aH
def G5(p:Addr)(w:Z):(ReflectliteValue.mk 155 p ReflectliteValue.flagAddr).run bN w=.ok (ef #[ee<|M<|X (7) 155,ee<|M p,bw 406]) w:=aH
def RD(b p:Addr)(W:Z)(a:bA W b=M (ee<|M p)):(ReflectliteValue.method (ReflectliteValue.valueError "reflectlite.Value.Elem" 0) ReflectliteValue.elem #[ef #[ee<|M<|X (7) 298,ee<|M b,bw 150]]).run bN W=.ok (ef #[ee<|M<|X (7) 155,ee<|M p,bw 406]) W:=by
 rw[rlm];simp only[jy,Gw,Result.andThen];simp[ReflectliteValue.elem,loadVar,isAgg,underlying,underlying298,a,Result.andThen,NU,G5]
def NP(a:Addr)(w:Z):(ReflectliteValue.parts<|ef #[ee<|M<|X (7) 155,ee<|M a,bw 406]).run bN w=.ok (M (155,a,406)) w:=aH
def RA(a:Addr)(w:Z):(ReflectliteValue.parts<|ef #[ee<|M<|X (7) 155,ee<|M a,bw 150]).run bN w=.ok (M (155,a,150)) w:=aH
def NV(w:Z):(Rtype.directlyAssignable 155 155).run bN w=.ok cz w:=aH
def Yk(a e:Addr)(n:R)(qP:ae)(W:Z)(b:bA W e=M (aJ n))(d:bA W a=M qP)(c:iI W a=bD):(ReflectliteValue.set #[ef #[ee<|M<|X (7) 155,ee<|M a,bw 406],ef #[ee<|M<|X (7) 155,ee<|M e,bw 150]]).run bN W=.ok (de #[]) (cP W a<|aJ n):=by
 rw[rls];simp only[jy,NP,RA,Result.andThen];simp[ReflectliteValue.flagAddr,loadVar,isAgg,underlying,underlying155,b,Result.andThen,NV,storeVar,Value.cells,storeCells,Addr.add];rw[Dt bN W a _ _<|by rfl];simp[d,c]
def zak(n:R)(t:Addr)(qP:ae)(d:jP a)(b:bA a t=M qP)(c:iI a t=bD):cR bN 32 #[.iface 155<|aJ n,.iface 298<|ee<|M t] a λf i=>f=aN (aO cz)/\i=((A5 298 t a).alloc<|aK #[aJ n] 155).setCell t (aJ n):=by
 unfold jP at d;have:=rx6;have:=rx7;have:=rx8;have:=V4;have:=V2;have:=V1;have:=V7;have:=V3;have:=V6;have:=V5;have:=NO;have:=oV;have:=Fm;have:=Lb;have:=La;have:=Vd;have:=wJ;have:=wK;have:=qm;have:=Vf;have:=Vg;have:=Vh;have:=Fk;have:=RC (X (G<|H a) 0) t (asA 298 t a) ar;have g:=cA _ _ d;have:=(Cc 298 t (aK #[] 0) g).1.trans d;have:=RD (X (G<|H a) 0) t _<|Tm 298 t;have e:=Cc 298 t (aK #[aJ n] 155)<|cA _ _ b;have:=Yk t (X (G (H a)+1+1+1) 0) n qP ((A5 298 t a).alloc<|aK #[aJ n] 155) (by rw[tG _ _ _ _ ar];rfl) (e.2.2.1.trans b)<|e.2.2.2.trans c;go_in
 go_wp2;refine iX 1 ?_;rw[io];go_wp2;go_ret;simp_all
end
def JQ{q:R}{c:Y}{w:Z}(A:rE w q c)(hg:jP w):cR bN 103 #[eW q] w λad w'=>∃T,ad=aN (eW T)/\rE w' T c/\gD (G<|H w) w w':=by
 let⟨a,A,v⟩:=A;have O:=az A;have ht:bA (dw w<|aK #[ee dE] 155) (X (G<|H w) 0)=M (ee dE):=ar;have hf:iI (dw w<|aK #[ee dE] 155) (X (G<|H w) 0)=bD:=ar;have Q:=zak q (X (G<|H w) 0) (ee dE) (hg.aE _) ht hf;have V:=ak (show∀d,d=cP (dw (dw (dw (dw (dw w<|aK #[ee dE] 155)<|aK #[ee<|M<|X (G<|H w) 0] 298)<|aK #[ee<|M<|X (7) 298,aJ<|G<|H<|dw w<|aK #[ee dE] 155,bw 150] 182)<|aK #[ee<|M<|X (7) 298,aJ<|G<|H<|dw w<|aK #[ee dE] 155,bw 150] 182)<|aK #[aJ q] 155) (X (G<|H w) 0) (aJ q)->gD (G<|H w) w d/\bA d (X (G<|H w) 0)=M (aJ q)/\bA d (X q 0)=M (aw a)/\bA d (X q 1)=M (ay c)from by rintro d b;have e:gD (G<|H w) w d:=b▸((((((Below.refl _ w).alloc (aq _) _).alloc ar _).alloc dW _).alloc dW _).alloc dW _).setCell (p:=(X (G<|H w) 0)) (aq _) _;have u:d.heap[q]?=M (aK #[aw a,ay c] 157 (0,0)):=((I.p (S:=aC) e).A q O id).trans A;refine⟨e,?_,aX u 0,aX u 1⟩;rw[b];exact pZ _ _ _ (by rw[fa _ _ _ dW,fa _ _ _ dW,fa _ _ _ dW,fa _ _ _ ar];simp));go_in
 go_wp21;go_call Q as ad d⟨rfl,b⟩;let⟨e,F,K,L⟩:=V d b;clear b Q;go_wp21;rename_i KK C;have N:=λW=>rC a W (by have:=v;unfold Nm at this;omega);let⟨i,E⟩:∃i,d.drew=i:=⟨_,rfl⟩;have f:bA i (X (G<|H w) 0)=M (aJ q)/\bA i (X q 0)=M (aw a)/\bA i (X q 1)=M (ay c):=E▸⟨F,K,L⟩;have l:=ak (show gD (G<|H w) w i by rw[<-E];exact below_drewN e 1);refine kG (λ(P:Z)=>bA P (X (G<|H w) 0)=M (aJ q)/\bA P (X q 0)=M (aw a)/\bA P (X q 1)=M (ay c)) 9 aH ?_;rw[E];refine lX 0 ?_;iterate 4 (refine zv f ?_;simp only[ii,eh,ke])
 apply qj;refine lX 5 ?_;iterate 4 (refine zv f ?_;simp only[ii,eh,ke])
 apply qj;refine gO 4 ?_;intro K6 B;go_simp;go_call N _ as ad x⟨rfl,t⟩;have g:I aC i x:=I.p t;have D:bA x (X (G<|H w) 0)=M (aJ q)/\bA x (X q 0)=M (aw a)/\bA x (X q 1)=M (ay c):=⟨g.u f.1 id<|cA _ _ f.1,g.u f.2.1 id<|cA _ _ f.2.1,g.u f.2.2 id<|cA _ _ f.2.2⟩;have j:=ak<|show gD (G<|H w) w x from l.trans<|t.mono<|bP l.size;refine B _ _ (λ_=>D) ?_;refine gO 9 ?_;intro W m;go_simp;refine m _ _ (λq=>U) ?_;refine gO 10 ?_;intro aa n;go_simp;refine n _ _ (λq=>U) ?_;refine gO 11 ?_;intro ab o;go_simp;refine o _ _ (λq=>U) ?_;refine gO 12 ?_;intro ac r;go_simp;refine r _ _ (λq=>U) ?_;refine kS aH ?_ _;show KK _ _;apply C;go_wp2;go_ret;exact⟨_,z,⟨a,jp _ _,v⟩,j.alloc (bP j.size) _⟩
def SR.p9(s:SR)(k:Y)(q:R):Array ae:=#[iD k,eI 0,aJ s.f,ay s.D,ay s.ub,aO s.d,eW q,s.L,ay s.o,bw s.S,s.l0,s.l1,s.l2,s.l3,bw s.t,ay s.v,.map s.n,bw s.l,aO s.i,aO s.my,aO s.k,aO s.x]
def vY(w:Z)(j3:R)(s:SR)(k:Y)(q:R):Prop:=w.heap[j3]?=M (aK (s.p9 k q) 110 (0,0))
section
variable{w w':Z}{j3 q:R}{s:SR}{k c:Y}
def vY.bW(h:vY w j3 s k q)(i:R){v:ae}(e:(s.p9 k q).toList[i]?=M v):bA w (X j3 i)=M v:=by
 rw[cE h];rw[<-e];simp
def vY.bS{i:R}(h:vY w j3 s k q):iI w (X j3 i)=bD:=cV h
def vY.aA{S:fC}(h:vY w j3 s k q)(d:I S w w')(a:¬S j3):vY w' j3 s k q:=(d.A j3 (az h) a).trans h
def vY.jh(h:vY w j3 s k q)(n:Y):vY (cP w (X j3 0)<|iD n) j3 s n q:=(aY h).trans rfl
def cU.Z7(h:cU w j3 s k)(q:R):vY (cP w (X j3 6)<|eW q) j3 s k q:=(aY h).trans rfl
def rE.aA{S:fC}(h:rE w q c)(e:I S w w')(d:¬S q):rE w' q c:=by
 let⟨n,h,a⟩:=h;exact⟨n,(e.A q (az h) d).trans h,a⟩
def rE.lt(h:rE w q c):q<G (H w):=by
 let⟨n,h,a⟩:=h;exact az h
def rE.pL{a:Array ae}(h:rE w q c)(b:w.heap[j3]?=M (aK a 110 (0,0))):q≠j3:=by
 let⟨n,h,d⟩:=h;grind
def Oc(h:vY w j3 s k q)(i:s.d=bD)(m:rE w q c)(l:jP w):cR bN 49 #[aJ j3] w λn w'=>∃a,n=aN (eW a)/\rE w' a c/\gD (G<|H w) w w':=by
 have:bA w (X j3 5)=M (aO bD):=i▸h.bW 5 z;have:=h.bW 6 z;have j:=JQ m l;go_in
 go_wp21;go_call j as n f⟨e,rfl,d,b⟩;have g:=ak (show∃a,aN (eW e)=aN (eW a)/\rE f a c/\gD (G<|H w) w f from⟨e,z,d,b⟩);go_wp2;go_ret;exact g
def JZ(h:cU w j3 s k)(e:rE w q c)(m:jP (cP w (X j3 6)<|eW q)):cR bN 51 #[aJ j3,eW q] w λn w'=>∃a,n=aN (eW a)/\rE w' a c/\gD (G<|H<|cP w (X j3 6)<|eW q) (cP w (X j3 6)<|eW q) w':=by
 have:=cU.bW h 6 z;have:iI w (X j3 6)=bD:=h.bS;have l:=JQ (e.aA (iQ j3 w (i:=6) (u:=eW q))<|e.pL (j3:=j3) h) m;go_in
 go_wp21;go_call l as n g⟨f,rfl,d,b⟩;have j:=ak (show∃a,aN (eW f)=aN (eW a)/\rE g a c/\gD (G<|H<|cP w (X j3 6)<|eW q) (cP w (X j3 6)<|eW q) g from⟨f,z,d,b⟩);go_wp2;go_ret;exact j
end
section
open Shelf
attribute [local go_sem] Oper.semAt_some
def Ub:(prog.info? 104).map (λi=>(i.zero,i.size,i.bytes))=M (M<|bw 0,1,8):=aH
structure Qr(w:Z)(bm:R)(pre:eD)(B:fC)(W:Z):Prop where
 ex:∃pv,fF W (G<|H w) pv 208/\fE W (G (H w)+1) 104 1 pv (y pre) (pre.map<|Value.int .u64)/\∀k,B k↔k=G (H w)\/cN pv=M k
 aA:I (λk=>k=bm) w W
def Qr.lt{w g:Z}(h:Qr w c m W g):∀k,W k->G (H w)<=k/\k<G (H g):=by
 let⟨n,j,a,d⟩:=h.ex;intro k e;obtain rfl|i:=(d k).1 e;grind
 have:=aS a k i;omega
def Qr.gR{B T:fC}(h:Qr a b m B e)(c:I T e P)(i:∀k,T k->¬B k/\(k=b\/G (H a)<=k)):Qr a b m B P:=by
 let⟨l,d,f,g⟩:=h.ex;exact⟨⟨l,d.aA c aI,c.aZ f aI,g⟩,h.aA.aj c<|λk j=>(i k j).2⟩
def Ja(ba:ia){C:eD}(hb:fF a b (.map<|M c) 94)(hm:kP a c ba)(ap:zA ba C)(hl:y C<=1000000):cR bN 262 #[aF,.func (.func 213) #[] #[aJ b]] a λbf w'=>
 ∃c,∃aa:eD,bf=aN c/\aa.Perm C/\fE w' (G<|H a) 104 1 c (y aa) (aa.map<|Value.int .u64)/\I (λk=>k=b) a w':=by
 let⟨i0,an,av,ax,aD⟩:=cZ Ub
 have:=az hb
 have F:=hm.lt
 refine(ew (n:=3)).1 ?_
 refine callsIn_of_wp_marks func262 z trivial ?_ z
 simp only[ntmps262,gp,bK,eE,ke,Nat.reduceSub,fh,fc,gq,fH,ep,dt]
 gi_wp2
 let⟨w,j⟩:∃w,dw a (aK #[aF] 208)=w:=⟨_,rfl⟩
 have:G (H w)=G (H a)+1:=by rw[<-j];simp
 have v:I aC a w:=j▸(cI aC a)
 have hA0:Qr a b [] (λk=>k=G (H a)) w:=⟨⟨aF,j▸aQ _ z,ct _ _ _ _,λk=>by simp[cN]⟩,v.aT cY⟩
 rw[j]
 refine tK (m:=3) (arg:=O7) (V:=CY) (n0:=G<|H a) (gf:=213) (lb:=#[aJ b]) (pp:=λaa _=>∃bd,(aa++bd).Perm C) (ff:=λaa=>aa.Perm C) (S:=λk=>k=b) aI ?geval (enters_of func213 aH z) (λ_=>rfl) (Kz (G<|H a) 2 b c ba C w (hb.aA v id) (hm.dU<|v.A _ F id) ap F U) trivial U (λk e=>U) (Qr a b) (λ_ _ _ _=>False) _ hA0 (λk e p=>U) (λd ab aU r=>r.lt) ?st ar ?body ?done ?stop
 .rfl
 .intro d ab aU i bc r g f;refine r.gR g<|λk e=>⟨(f k e).1,?_⟩;obtain p|p|p:=(f k e).2
  .exact J p
  .exact p.elim
  grind
 case stop=>
  grind
 .rintro lr d aV ab aU bb al N⟨bd,P⟩r _;have:y d+1<=1000000:=zZ P.length_eq;unfold O7;simp only;gi_wp2;refine⟨I.bI _ _,λx l=>?_⟩;have hA2:=r.gR l<|λk e=>aI;let⟨pv,W,O,hB⟩:=hA2.ex;let⟨B,A,t⟩:=aM O;have z0:=W.u;have:=az W;have L:lr<G (H x):=au N.1 l.D;have:=l.D;let⟨HV,E,HB,ac,ad⟩:=oa W O hB l hA2.aA;subst t;have HX:=ak (show∀(g:ae)(i:Z),fE i (G (H a)+1) 104 1 g (y d+1) (d.map (Value.int .u64)++[bw aV])->fo (dw x<|aK #[bw aV] 104) i (am B (y d) A) g->(bA i (X (G<|H a) 0)=M (am B (y d) A)/\iI i (X (G<|H a) 0)=bD)/\DM CY (Qr a b) (λ_ _ _ _=>False) (d++[aV]) ab aU x lr .normal ⟨#[],[]⟩ (cP i (X (G<|H a) 0) g)fromλg i f o=>by
   have Q:=(I.bI aC x).aE<|aK #[bw aV] 104;have T:=I.fV o;have ao:¬(cN (am B (y d) A)=M (G<|H a)):=λp=>bP<|(E.lt _ p).1;have s:fF i (G<|H a) (am B (y d) A) 208:=(HV.aA Q id).aA T ao;have u:I ab x (cP i (X (G<|H a) 0) g):=((Q.aT (T:=ab) cY).aj (T.aT (T:=ab)<|λk e=>J<|(HB k).2<|bu e)<|λk e=>J e).aL _ 0 _<|J<|(HB _).2<|J z;refine⟨⟨s.u,s.bS⟩,trivial,λk=>k=G (H a)\/cN g=M k,⟨⟨g,s.gu g,?_,λk=>tq⟩,ad.aj u<|λk e=>bu (by obtain p|p:=(HB k).1 e;omega;have:=(E.lt _ p).1;omega)⟩,(ac.aT ar).aj u aI,u.A lr L al,λk e=>?_⟩
   .rw[ai,bz];exact(fK _ _ 0 _).aZ f<|λk e p=>bP<|(aS f k e).1
   .obtain p|p:=e
    .exact J<|(HB k).2<|J p
    .obtain q|⟨g9,q,hy⟩:=o.f
     .exact J<|(HB k).2<|bu<|q▸p
     .rw[q]at p;cases p;exact bu (by simp at hy;omega))
  gi_wp2_with(first
   |(gi_at_builtin;refine gm _ z (.tmp 8) (.tmp 10) 208 z (G (H a)+1) 104 i0 (.int .u64 0) 1 8 underlying208 an av ax aD z cg (.slice B (y d) A) (y d) (d.map (Value.int .u64)) z (bC E _) (X (G (H x)) 0) 1 1 [.int .u64 aV] z z (rG _ _ _) (by simp[Value.oneCell']) U U dW ?_;intro g i f o;let⟨⟨y0,y1⟩,K⟩:=HX g i f o;obtain⟨x6,c6,rfl⟩:=aM f;have D:=ak K))
  exact D
 .intro aa K ab aU l D r x _ o;let⟨pv,W,O,hB⟩:=r.ex;let⟨B,A,t⟩:=aM O;have:=W.u;have i:cN pv≠M K:=aI;let⟨E,s,u,g⟩:=js O o r.aA l;have:=az o;subst t;gi_wp2;have f:=iC aU K<|.deferred dE;refine⟨ar,J ⟨_,_,z,run_takeDeferred s,?_⟩⟩;refine⟨_,gH z _ _ _,?_⟩;exact⟨_,aa,z,g,fj (f.aZ E<|λk e q=>i<|q▸e) U,u.aj f aI⟩
def Mx(i:ia)(n:fF a b (.map<|M c) 94)(p:kP a c i)(d:zA i m)(o:y m<=1000000):cR bN 211 #[.func (.func 213) #[] #[aJ b]] a λq g=>
 ∃e,∃l:eD,q=aN e/\l.Perm m/\fE g (G<|H a) 104 1 e (y l) (l.map<|Value.int .u64)/\I (λk=>k=b) a g:=by
 have h:=Ja i n p d o
 go_in
 go_wp21
 go_call h as q t⟨e,l,rfl,j,f,k⟩
 obtain⟨s,r,rfl⟩:=aM f
 have u7:=ak<|And.intro j (And.intro f k)
 go_wp2
 go_ret
 exact⟨_,l,z,u7.1,u7.2.1,u7.2.2⟩
end
section
open Shelf
def I9(x:Y)(w:Z):cR bN 306 #[bw x] w λe a=>e=aN (aO bD)/\a=w:=by
 go_in
 go_wp2;go_ret;simp_all
def JL(x a:Y)(w:Z):cR bN 289 #[bw x,bw a] w λe b=>e=aN (aO<|decide<|x<a)/\b=w:=by
 have h:=I9 x w;go_in
 go_wp2_with(go_at_call 306;refine h.mono ?_;rintro e b⟨rfl,rfl⟩)
 go_ret;simp_all
def UB(a:b+1<y m):((m.set (b+1) m[b]).set b m[b+1]).Perm m:=by
 grind
def Zi(k e:R)(n:eD)(W:fE a b 104 1 (bX k 0 (y n) e) (y n) (n.map<|Value.int .u64))(T:y n<=12):cR bN 283 #[bX k 0 (y n) e,ay 0,ay<|y n] a λac D=>ac=aN (de #[])/\∃m:eD,m.Perm n/\fE D b 104 1 (bX k 0 (y m) e) (y m) (m.map<|Value.int .u64)/\I (λs=>s=k) a D:=by
 let⟨L,Q⟩:∃L,y n=L:=⟨_,rfl⟩;rw[Q]at W T|-;go_in
 go_wp2;go_loopw [6] (λi wr=>∃(p:R)(m:eD),i=ay p/\1<=p/\y m=L/\m.Perm n/\fE wr b 104 1 (bX k 0 L e) L (m.map<|Value.int .u64)/\I (λs=>s=k) a wr) (λi _=>L-(intOf i).toNat)
 grind[Perm.refl,I.bI]
 obtain⟨p,m,rfl,V,f,g,d,i⟩:=hrel;by_cases S:p<L;(.have e1:(p:Y)<(L:Y):=U;have j:=ak<|And.intro f (And.intro g (And.intro d i));go_wp2;(go_loopw [7] (λv c=>∃(w:R)(m:eD),v=ay w/\w<=p/\y m=L/\m.Perm n/\c.ownsRow b 104 1 (bX k 0 L e) L (m.map<|Value.int .u64)/\I (λs=>s=k) a c) (λv _=>(intOf v).toNat));exact⟨p,m,z,aq _,j.1,j.2.1,j.2.2.1,j.2.2.2⟩;obtain⟨w,m,rfl,aa,f,g,d,i⟩:=hrel;obtain A|A:=fO w;(.subst A;have c:=ak<|And.intro f (And.intro g (And.intro d i));go_wp21;(go_quiet(fail));go_wp2;go_roundw;exact⟨p+1,m,dM,U,c.1,c.2.1,ku c.2.2.1 z,c.2.2.2.df z⟩;simp[intOf];omega);obtain⟨q,rfl⟩:∃q,w=q+1:=⟨w-1,U⟩;obtain⟨_,⟨F,_⟩|⟨b',C,x,F,u,B⟩⟩:=dQ d;cases F;cases F;have c1:=B (q+1) (bw<|m[q+1]'U) (by rw[fP,bF U];rfl);have K:=B q (bw<|m[q]'U) (by rw[fP,bF U];rfl);simp only[ez]at K c1;have:=(d.lt k z).2;(have l:∀v,iI wr (X k v)=bD:=by intro v;let⟨O,r⟩:=gh d (k:=k) rfl;exact cV r);have:=l<|q+1;have:=l q;have E:=ak (show∀r,(r=cP (cP wr (X k<|q+1)<|bw<|m[q]'U) (X k q) (bw<|m[q+1]'U))->∃o:eD,y o=L/\o.Perm n/\fE r b 104 1 (bX k 0 L e) L (o.map<|Value.int .u64)/\I (λs=>s=k) a r from by rintro r rfl;refine⟨(m.set (q+1) m[q]).set q m[q+1],dV f,(UB U).trans g,?_,(i.aL _ _ _<|J z).aL _ _ _<|J z⟩;have t:=(tF (tF d (q+1)<|bw<|m[q]'U).1 q<|bw<|m[q+1]'U).1;rw[uw,uw];exact t);have c:=ak<|And.intro f (And.intro g (And.intro d i));have:L<=e:=u;have:(q:Y)+1<(L:Y):=U;have:(q:Y)<(L:Y):=U;have:(0:Y)<(q:Y)+1:=U;have:(0:Y)<=(q:Y):=U;have:q+1<y m:=U;generalize m[q+1]=N at*;generalize m[q]'U=ad at*;by_cases ab:N<ad;(.go_wp21;(go_quiet(first|(go_at_call 289;refine Calls.quiet_of_same (JL _ _ _))));go_wp21;(go_region);go_wp2;go_roundw;let⟨o,t,r,O,P⟩:=E _ rfl;exact⟨q,o,dM,U,t,r,ku O z,P.df z⟩;simp[intOf]);go_wp21;(go_quiet(first|(go_at_call 289;refine Calls.quiet_of_same (JL _ _ _))));go_wp2;go_roundw;exact⟨p+1,m,dM,U,c.1,c.2.1,ku c.2.2.1 z,c.2.2.2.df z⟩;simp[intOf];omega);have:¬((p:Y)<(L:Y)):=U;have j:=ak<|And.intro f (And.intro g (And.intro d i));go_wp2;go_end0;exact⟨z,m,j.2.1,(ag j).1▸j.2.2.1,j.2.2.2⟩
def Zj(l:eD)(j:fE a b 104 1 d (y l) (l.map<|Value.int .u64))(t:y l<=12):cR bN 283 #[d,ay 0,ay<|y l] a λv f=>v=aN (de #[])/\∃m:eD,m.Perm l/\fE f b 104 1 d (y m) (m.map<|Value.int .u64)/\I (λw=>cN d=M w) a f:=by
 obtain⟨rfl,n⟩|⟨x,c,k,rfl,p,A,u,q,r,e⟩:=j.2;(.obtain rfl:=bG n;(go_in);go_wp2;refine iX 1 ?_;rw[io];go_wp2;go_end0;grind[Perm.refl,I.bI]);go_call Zi x c l j t as v f⟨rfl,m,g,i,o⟩;refine⟨z,m,g,?_,o.aT<|λw s=>J (by rw[s];rfl)⟩;rw[g.length_eq]at i|-;exact i
def Ys(l:eD)(k:Y)(e:fE a b 104 1 d (y l) (l.map<|Value.int .u64))(g:y l<=12):cR bN 263 #[d,ay 0,ay<|y l,ay k] a λj c=>j=aN (de #[])/\∃m:eD,m.Perm l/\fE c b 104 1 d (y m) (m.map<|Value.int .u64)/\I (λk=>cN d=M k) a c:=by
 have h:=Zj l e g;let⟨x,n,i⟩:=aM e;have:(y l:Y)<=12:=U;subst i;go_in
 go_wp2;refine iX 1 ?_;rw[io];go_wp21;go_call h as j c⟨rfl,f⟩;go_wp2;refine ci (jc z _ _ _) z ?_;exact⟨z,f⟩
def VL(n:R)(c:n<=4)(w:Z):cR bN 173 #[bw n] w λe b=>(∃k,e=aN (ay k))/\b=w:=by
 have a:n=0\/n=1\/n=2\/n=3\/n=4:=U;obtain rfl|rfl|rfl|rfl|rfl:=a;(all_goals(go_in);go_wp2;go_ret;exact⟨⟨_,z⟩,z⟩)
def L0(n:R)(b:n<=4)(w:Z):cR bN 114 #[bw n] w λe a=>(∃k,e=aN (ay k))/\a=w:=by
 have h:=VL n b w;go_in
 go_wp2_with(go_at_call 173;refine h.mono ?_;rintro e a⟨⟨k,rfl⟩,rfl⟩)
 go_wp2;go_ret;simp_all
def UU(l:eD)(e:fE a b 104 1 d (y l) (l.map<|Value.int .u64))(j:y l<=4):cR bN 212 #[d] a λf c=>f=aN (de #[])/\∃n:eD,n.Perm l/\fE c b 104 1 d (y n) (n.map<|Value.int .u64)/\I (λk=>cN d=M k) a c:=by
 have h:=λk=>Ys l k e U;have i:=L0 (y l) j a;let⟨x,p,m⟩:=aM e;subst m;go_in
 go_wp21;go_call i as f c⟨⟨k,rfl⟩,o⟩;subst c;go_wp21;go_call h k as f c⟨rfl,g⟩;go_wp2;go_end0;exact⟨z,g⟩
def Nw{bm b:R}(r:ia){w:Z}(u:fF w bm (.map<|M b) 94)(v:kP w b r)(n:zA r m)(A:y m<=4):cR bN 145 #[.func (.func 213) #[] #[aJ bm]] w λs q=>
 ∃a,∃p:eD,s=aN a/\p.Perm m/\fE q (G<|H w) 104 1 a (y p) (p.map<|Value.int .u64)/\I (λk=>k=bm) w q:=by
 have h:=Mx r u v n U
 go_in
 go_wp21
 go_call h as s E⟨a,p,rfl,o,d,t⟩
 have x:=UU p d<|bP o.length_eq
 have f:∀k,cN a=M k->G (H w)<=k:=λk e=>(aS d k e).1
 let⟨D,C,l⟩:=aM d
 have u7:=ak<|And.intro o t
 subst l
 go_wp21
 go_call x as s F⟨rfl,B,g,i,j⟩
 have c:=ak<|And.intro g (And.intro i j)
 go_wp2
 go_ret
 exact⟨_,B,z,c.1.trans u7.1,c.2.1,u7.2.aj c.2.2<|λk e=>bu<|f k e⟩
end
section
open Shelf
abbrev gJ:=cy<|R×R
def Dn(a:gJ):ia:=a.map<|λp=>((p.1:Y),bw (p.2:Y))
def Gi(a:gJ):eD:=a.map<|λp=>(p.2:Y)
def F1(a:gJ):zA (Dn a) (Gi a):=by simp[zA,Dn,Gi]
def qN(a:gJ):y (Gi a)=y a:=by simp[Gi]
def Sj{a:eD}(h:m.Perm a)(p:Option E)(e:E):wx m p e=wx a p e:=by
 cases p with
 |none=>rfl
 |some q=>unfold wx;grind
def GS{a:eD}(h:m.Perm a):∀(l:dB)(p:Option E),nT m p l=nT a p l
 |[],_=>rfl
 |e::r,p=>by rw[nT,nT,Sj h,GS h r]
def BH{a:eD}(h:m.Perm a)(l:dB):gw m l=gw a l:=GS h l dE
def Nh(v:Option R)(w:Z):cR bN 146 #[.map v] w λe a=>e=aN (.func (.func 213) #[] #[aJ<|G<|H w])/\a=dw w (aK #[.map v] 94):=by
 go_in
 go_wp2;go_ret;simp_all
def wy{f b:R}(d:gJ)(h:cU a f o r)(s:o.n=M b)(k:kP a b (Dn d))(q:y d<=4):cR bN 95 #[aJ f] a λm l=>∃i,∃g:eD,m=aN i/\g.Perm (Gi d)/\fE l (G<|H a) 104 1 i (y g) (g.map<|Value.int .u64)/\I aC a l:=by
 have:bA a (X f 16)=M (.map<|M b):=s▸h.u z;have c:=(I.bI aC a).aE<|aK #[.map<|M b] 94;have e:=Nw (bm:=G<|H a) (b:=b) (Dn d) (w:=(dw a<|aK #[.map<|M b] 94)) (aQ _ z) (k.dU<|c.A _ k.lt id) (F1 d) (by rw[qN];exact q);go_in
 go_wp21;go_call Nh _ _ as m u⟨rfl,t⟩;subst u;go_wp21;go_call e as m A⟨i,v,rfl,n,j,p⟩;obtain⟨x,w,rfl⟩:=aM j;have u7:=ak<|And.intro n (And.intro j p);go_wp2;go_ret;exact⟨_,v,z,u7.1,fj u7.2.1 ar,c.aj u7.2.2<|λr a=>bu U⟩
def Dw{w:Z}(Q:R)(W:SR)(n:Y)(o:gJ)(r:ae)(F:dB)(h:cU w Q W n)(hs:W.n=M b)(O:kP w b (Dn o))(h4:y o<=4)(N:lG w W.L i)(t:∀n,cN W.L=M n->n<G (H w))(L:lG w r F)(s:∀n,cN r=M n->n<G (H w))(j:gG i)(hl:y i+y F<=1000000):cR bN 74 #[aJ Q,r] w λV T=>∃S,V=aN S/\fE T (G<|H w) 223 4 S (y<|gw (Gi o)<|jL i F) (bj<|gw (Gi o)<|jL i F)/\I aC w T:=by
 have c7:=cU.bW h 7 z;have m:=Xu N L j U t s;obtain⟨x1,n1,x⟩:=cG N;obtain⟨x2,n2,A⟩:=cG L;have HM:=ak<|λ(E:Z)(a:I aC w E)=>wy (b:=b) o (h.aA a id) hs (O.dU<|a.A _ O.lt id) h4;rw[x]at c7 m;subst A;go_in
 go_wp2_with fail
 apply m.mono;rintro V E⟨v1,rfl,f,k⟩;have u:=HM E k;obtain⟨y1,d1,B⟩:=aM f;subst B;go_wp2_with fail
 apply u.mono;rintro V w2⟨v2,ms,rfl,P,c,l⟩;have a:=l.aZ f<|λ_ _ c=>c;have e:=yx ms (dQ a) (j.jL F).zy (bP<|zx i F) (dQ c) (by have:=P.length_eq;rw[qN]at this;omega) (λn b=>(aS a n b).2)<|λn b=>(aS c n b).2;rw[BH P]at e;obtain⟨y2,d2,C⟩:=aM c;have d:=ak<|k.t l;subst C;go_wp2_with fail
 apply e.mono;rintro V w3⟨v3,rfl,g,v⟩;obtain⟨y3,d3,D⟩:=aM g;have p:=ak<|fj (base':=G<|H w) g d.D;have q:=ak<|d.t v;subst D;go_wp2;go_ret;exact⟨_,z,p,q⟩
def za:gJ->Y->Option R
 |[],_=>dE
 |p::r,n=>if(p.1:Y)=n then M p.2 else za r n
def TB(n:Y):∀a:gJ,(Dn a).jo n=(za a n).map (λc:R=>bw c)
 |[]=>rfl
 |p::r=>by
  have b:=TB n r;unfold Dn at b|-;rw[bO,ia.jo,za];grind
end
def Fw.aA{w w':Z}{d:cy (ae×dI)}{S:fC}(h:Fw w c k d)(g:I S w w')(m:¬S c)(n:∀i(a:i<y d),∀j,cN d[i].1=M j->¬S j):Fw w' c k d:=⟨h.dL,λi a=>g.u (h.u i a) m h.lt,λi a=>g.bV (h.bV i a)<|λj e=>⟨n i a j e,h.l i a j e⟩,λi a j e=>au (h.l i a j e) g.D,h.f⟩
def rk{e:Addr}(h:fE a b c 1 (am (M e) k n) k Q):∀l u,Q[l]?=M u->bA a (e.add l)=M u:=by
 intro l u i;obtain⟨o,⟨d,_⟩|⟨t,m,f,d,p,g,r,q,s,j⟩⟩:=h;cases d;cases d;rw[dS,cE g,ez];rw[<-j,qL]at i;grind
def zF(a:ae)(b c d e:ae×dI):iF:=.iface 103 a::qB b c d e
def Gt(q s t u:ae×dI)(h:cU a c o r)(g:Option Addr)(f e:R)(ab:o.L=am g f e)(hl:Fw a c 10 [q,s,t,u]):cR bN 108 #[aJ c] a λax w'=>∃v',ax=aN v'/\fE w' (G<|H a) 221 1 v' (y (qB q s t u)+1) (zF o.L q s t u)/\I aC a w':=by
 let⟨i0,V,ac,ad,al⟩:=cZ LV;have v:=cU.bW h 7 z;have n:=az h;have l:=ak<|λW(K:I aC a W)=>Sp (w:=W) (lb:=c) (lo:=10) q s t u<|hl.aA K id<|λ_ _ _ _=>id;have C:y (qB q s t u)<=20000000003/\1<=y (qB q s t u):=by have:=hl.f;simp[qB,nC]at this|-;omega
 have E:∀k∈qB q s t u,k.oneCell'=cz:=by intro k d;simp only[qB,aP,pU,cC,bY]at d;obtain((⟨p,_,rfl⟩|rfl)|rfl)|rfl:=d<;>rfl
 let⟨an,hn⟩:∃an,y (qB q s t u)=an:=⟨_,rfl⟩;rw[hn]at C;unfold zF;rw[ab]at v|-;generalize aD:qB q s t u=VS at*;go_in
 go_wp21;rename_i QQ KK Q;refine cX (λj4=>bA j4 (X c 7)=M (am g f e)) 11 aH ?_;have A:bA a.drew (X c 7)=M (am g f e):=v;refine dH 0 ?_;iterate 5 (refine fX A ?_;simp only[ii,eh,ke])
 apply eS;refine dH 6 ?_;iterate 3 (refine fX A ?_;simp only[ii,eh,ke])
 apply eS;have D:∀(W:Z)(b:R),W.heap[b]?=M (aK #[.iface 103<|am g f e] 221 (0,0))->G (H a)<=b->fE W (G<|H a) 221 1 (bX b 0 1 1) 1 [.iface 103<|am g f e]:=by intro W b S d;exact⟨z,bu ⟨b,1,#[.iface 103<|am g f e],z,d,S,aq _,by unfold maxLen;omega,z,z⟩⟩
 refine wo (α:=R×ae) (λN W=>I aC a W/\W.heap[N.1]?=M (aK #[.iface 103<|am g f e] 221 (0,0))/\G (H a)<=N.1/\fE W (G<|H a) 221 1 N.2 an VS/\cN N.2≠M N.1) (λN=>{tmps:=#[aJ c,jn,aF,aJ c,aJ c,ee<|M<|X c 7,am g f e,.iface 103<|am g f e,bX N.1 0 1 1,aJ c,aJ c,ee<|M<|X c 10,N.2,jn],defers:=[]}) #[true,true,true,true,true,true,true,true,true,true,false,false] 2 ?_ ?_;(.intro F;refine vk (i:=5) (j:=9) z z z z aH ?_ ?_;(.intro ao P;go_simp;have w:I aC a (dw a<|aK #[.iface 103<|am g f e] 221).drew:=(cI aC a).df z;have L8:(dw a<|aK #[.iface 103<|am g f e] 221).drew.heap[G<|H a]?=M (aK #[.iface 103<|am g f e] 221 (0,0)):=aQ (w:=a) _ z;refine P _ _ (λ_=>w.u v id n) ?_;refine aW 9 ?_;intro K2 m;go_simp;go_call l _ w as ax L⟨v1,rfl,d,p⟩;have O:=(p.A _ (az L8) id).trans L8;have k:=w.t p;refine m _ _ (λ_=>k.u v id n) ?_;have aa:=λr a=>(d.lt r a).1;simp at aa;refine lC (F (G<|H a,v1) L ⟨k,O,aq _,?_,?_⟩) aH;rw[hn]at d;obtain⟨q1,⟨q2,q0⟩|⟨aV,cp,B,q2,qb,x⟩⟩:=d;(grind);exact⟨q1,bu ⟨aV,cp,B,q2,aI,x⟩⟩;grind);intro ao P;go_simp;go_call l _ (cf _ a)as ax L⟨v1,rfl,d,p⟩;have k:I aC a L:=(cf aC a).t p;refine P _ _ (λ_=>k.u v id n) ?_;refine aW 5 ?_;intro K2 m;go_simp;have w:=k.aE<|aK #[.iface 103<|am g f e] 221;refine m _ _ (λ_=>w.u v id n) ?_;refine lC (F (G<|H L,v1) _ ⟨w,aQ _ z,k.D,?_,?_⟩) aH;rw[hn]at d;exact bC d _;intro ap;have:=(d.lt _ ap).2;omega);rintro⟨b,aa⟩W⟨K,S,P,x,aU⟩;have F:=D W b S P;(obtain⟨ao,d,rfl⟩:∃a ap,aa=am (M a) an ap:=by obtain⟨_,h0⟩|⟨aV,av,B,h2,_⟩:=x.2;omega;grind);refine aW 10 ?_;intro K2 m;simp only[dl,cF,cO];refine lO (.tmp 8) (.tmp 12) 218 z (G<|H a) 221 i0 ic 1 16 underlying218 V ac ad al z cg (bX b 0 1 1) 1 [.iface 103<|am g f e] z F ao an d VS z x.1 ?_ E U U K.D ?_;exact rk x;intro v3 w3 p O;let⟨x3,c3,L⟩:=aM p;subst L;have k:I aC a w3:=K.aj (gI O.dF) aI;refine m _ _ (λ_=>k.u v id n) ?_;simp only[ii,eh];refine aW 11 ?_;intro K3 w;go_simp;refine w _ _ wX ?_;refine dG aH ?_ _;show KK _ _;apply Q;go_wp2;go_ret;refine⟨_,z,?_,k⟩;rw[show an+1=1+an from Ck _ _];exact p
def tf(V:jv)(g:R)(h:ae)(e:dB)(w:Z):Prop:=∃t v f b,h=.iface t v/\(∀w,(Go.method 577 t v "Find").run bN w=.ok (f,b) w)/\Enters bN f/\∀a(d:Y)w',la V g aC w w'->V.D w'->cR bN f #[b,aw a,bw d] w' λi c=>Up V w' c (kD d e a) i
def Wo(v:ae)(w:Z):(Go.method 577 106 v "Find").run bN w=.ok (335,v) w:=aH
def Wn(v:ae)(w:Z):(Go.method 577 235 v "Find").run bN w=.ok (337,v) w:=aH
def ZO(v:ae)(w:Z):(Go.method 577 103 v "Find").run bN w=.ok (331,v) w:=aH
def tf.xL(h:uE s b d l a)(c:b<=G (H a))(hF:∀k,s.F k->k<b):tf s b (.iface 106 d) (gz l) a:=⟨_,d,_,d,z,Wo d,enters_of func335 aH z,λe g j f i=>VQ e g (h.bM f) i (aR c f.1) hF⟩
def tf.FB{t:cH}(h:nY s b t.tb t.ks t.cs a)(c:b<=G (H a))(hF:∀k,s.F k->k<b):tf s b (.iface 235 t.D) t.dq a:=⟨_,t.D,_,t.D,z,Wn t.D,enters_of func337 aH z,λd f i e g=>ED d f (h.bM e) g (aR c e.1) hF⟩
def lG.bM{V:jv}{n0:R}(h:lG a d i)(m:la V n0 aC a e)(n:∀j,cN d=Option.some j->j<n0/\¬V.F j):lG e d i:=by
 obtain⟨g,⟨rfl,k⟩|⟨o,b,c,rfl,f,l⟩⟩:=h;exact⟨g,J ⟨z,k⟩⟩;exact⟨g,bu ⟨o,b,c,z,f,λp u k=>m.u (bu<|n o z)<|l p u k⟩⟩
def tf.St(h:lG a d i)(n:gG i)(m:y i<=1000000000000)(p:∀k,cN d=M k->k<b/\¬s.F k)(o:b<=G (H a)):tf s b (.iface 103 d) i a:=by
 refine⟨_,d,_,d,z,ZO d,enters_of func331 aH z,λf j q e l=>?_⟩;go_call CL f j (h.bM e p) n m (λk g=>au aI e.1)as t r⟨rfl,g⟩;have c:=s.l l (I.p (S:=aC) g) cY;cases kD j i f with
 |none=>exact⟨zE,bD,ic,z,J z,c,I.p g⟩
 |some x=>exact⟨x,cz,ic,z,J z,c,I.p g⟩
def zD(b:Y)(a:af)(m8:cy (ae×dB)):Option E:=m8.findSome?<|λr=>kD b r.2 a
def zcf:Option E->ae
 |some x=>.tuple #[.string x.l,.bool<|!x.dP,ic]
 |none=>.tuple #[.string ⟨#[]⟩,.bool bD,ic]
def Ye{m8:cy (ae×dB)}(h:b<y m8)(a:zD r B (m8.take b)=dE):zD r B m8=(kD r m8[b].2 B).or (zD r B<|m8.drop<|b+1):=by
 have:m8=m8.take b++m8[b]::m8.drop (b+1):=by rw[<-dm h,du]
 unfold zD at*;grind
def ZM(w:Z)(f:R)(a:af)(c:Y)(d:¬(1<=a.size/\a.size<=8))(e:a.size<=140737488351232):cR bN 54 #[aJ f,aw a,bw c] w λi g=>i=aN (de #[aw ⟨#[]⟩,aO bD,uf 3])/\g=w:=by
 have b:=λW=>rq a W e;rw[yR d]at b;go_in
 go_wp2_with(go_at_call 104;refine(b _).mono ?_;rintro i j⟨rfl,rfl⟩)
 exact ci (lA z _ _ _) z ⟨z,z⟩
abbrev gE(v:ae):ae:=de #[aw ⟨#[]⟩,aO bD,v]
def ZN(n0:R)(p0 p1 p2 p3:ae×dI)(m8:cy (ae×dB))(c:af)(i:Y)(h:cU a b o r)(mx:Option Addr)(mn mc:R)(ap:o.L=am mx mn mc)(hl:Fw a b 10 [p0,p1,p2,p3])(L:m8.map (·.1)=zF o.L p0 p1 p2 p3)(hR:∀bf(hi:bf<y m8),tf s n0 m8[bf].1 m8[bf].2 a)(hD:s.D a)(aU:n0<=G (H a))(hF:∀r,s.F r->r<n0)(D:1<=c.size/\c.size<=8)(bc:∀bx∈m8,∀x∈bx.2,x.l.size<=281474976710656):cR bN 54 #[aJ b,aw c,bw i] a λbg w'=>(bg=aN (zcf<|zD i c m8)/\s.D w'/\I s.F a w')\/Et s a w' s.F bg gE:=by
 have P:=λbi=>rq c bi U;rw[uV D]at P;have W:=Gt p0 p1 p2 p3 h mx mn mc ap hl;have l:y (qB p0 p1 p2 p3)+1=y m8:=by have:=cD y L;simp[zF]at this;omega
 rw[<-L,l]at W;have bh:y m8<=40000000000:=by have:=hl.f;rw[<-l];simp[qB,nC]at this|-;omega
 go_in
 go_wp21;go_call P _ as bg w1⟨rfl,bp⟩;subst w1;go_wp21;go_call W as bg w1⟨v1,rfl,B,aa⟩;let⟨x1,c1,ba⟩:=aM B;subst ba;go_wp21;go_loopw [21] (λbf wr=>∃n:R,n<=y m8/\bf=ay n/\s.D wr/\I s.F w1 wr/\zD i c (m8.take n)=dE) (λbf _=>y m8-(intOf bf).toNat)
 exact⟨0,bQ _,z,s.l hD aa cY,I.bI _ _,z⟩
 .obtain⟨n,hn,rfl,u,k,e⟩:=hrel;have f:I s.F a wr:=(aa.aT (T:=s.F) cY).aj k<|λ_ l=>J l;by_cases d:n<y m8
  .let⟨bt,bv,bs,br,ax,hm,O,w⟩:=hR n d;have eg:∀c a,(callFunc bs c).run bN a=.ok (.enter bs c) a:=O;have hc:=w c i wr (f.bM aU cY<|λr D _=>D) u;have av:∀r,G (H a)<=r->¬s.F r:=λr D c=>bP<|hF r c;have V:=k.aZ B<|λr D=>av r (B.lt r D).1;let⟨bq,hx,bo⟩:∃bq,x1=M (X bq 0)/\bA wr (X bq n)=M (.iface bt bv):=by
    obtain⟨j,F⟩|⟨C,m,v,j,_⟩:=V.2
    .omega
    .cases j;refine⟨C,z,?_⟩;have:=rk V n (.iface bt bv) (by rw[fP,bF d];simp[ax]);rwa[dS,ez]at this
   subst hx;have an:=Ye d e;have aD:zD i c (m8.take<|n+1)=kD i m8[n].2 c:=by
    rw[aG d];unfold zD at e|-;rw[List.findSome?_append,e];cases h:kD i m8[n].2 c<;>simp[h]
   have bb:∀x,kD i m8[n].2 c=M x->x.l.size<=281474976710656:=λx hx=>bc _ (aB d) x<|List.mem_of_find?_eq_some hx;have e1:(n:Y)<(y m8:Y):=U;go_wp21;go_call hc as bg g⟨g9,ok,ev,O,A,ac,aV⟩;let⟨p,t⟩:=And.intro (ak ac) (ak aV);obtain A|⟨hX,rfl,rfl,q,rfl,hq⟩:=A
   .rw[A]at O;subst O;cases hfe:kD i m8[n].2 c with
    |none=>
     unfold Hs yu;simp only;go_wp2;go_roundw
     .refine⟨n+1,d,dM,s.l p (cI aC g) cY,?_,?_⟩
      .exact(k.aj t<|λ_ l=>J l).aE _
      .rw[aD,hfe]
     .simp[intOf];omega
    |some x=>
     have bd:=bb x hfe;unfold Hs E.t;simp only;have ao:=λbi=>rC x.l bi bd;have:∀(x:eN)(a:Z),(Op.unary .not<|aO x).run bN a=.ok (aO<|!x) a:=λ_ _=>rfl;go_wp21;have j:jQ (dw g<|aK #[aw x.D,aw x.l,aO x.dP,bw x.f] 223) (G<|H g) x:=aQ _ z;have N:I s.F a (dw g<|aK #[aw x.D,aw x.l,aO x.dP,bw x.f] 223):=(f.aj t<|λ_ l=>J l).aE _;have K:s.D (dw g<|aK #[aw x.D,aw x.l,aO x.dP,bw x.f] 223):=s.l p (cI aC g) cY;generalize dw g (aK #[aw x.D,aw x.l,aO x.dP,bw x.f] 223)=W3 at j N K|-;generalize G (H g)=eb at j|-;let⟨bk,bl,ab,bm⟩:=j.bU;have Q:=az j;have HA:=ak (show∀m,gD (G<|H W3) W3.drew m->bA m (X eb 2)=M (aO x.dP)/\s.D m/\I s.F a m from by
      intro m v;have C:I aC W3 m:=(cf aC W3).t (I.p (S:=aC) v);exact⟨C.u ab id Q,s.l K C cY,N.t C⟩)
     go_region_with(first|(go_at_call 109;refine(ao _).mono ?_;rintro bg m⟨rfl,v⟩;let⟨bn,ad,al⟩:=HA m v;have F:=ak<|And.intro ad al))
     all_goals(go_wp2;refine ci (lA z _ _ _) z ?_;exact J ⟨by rw[an,hfe];rfl,F.1,F.2⟩)
   .subst O;have j:=ak hq;unfold E.t;simp only;go_wp2;refine ci (lA z _ _ _) z ?_;exact bu ⟨hX,q,z,j.aA (cI aC g) cY,s.l p (cI aC g) cY,(f.aj t<|λ_ l=>J l).aE _⟩
  .have g:n=y m8:=U;rw[g,cQ]at e;let⟨p,j,m⟩:=eU e u f;have e1:¬(n:Y)<(y m8:Y):=U;clear e u f k g;go_wp2;refine ci (lA z _ _ _) z ?_;exact J ⟨by rw[ag p];rfl,j,m⟩
def cU.zbs{s:SR}(h:cU a b s r)(c:eN):cU (cP a (X b 20)<|aO c) b {s with k:=c} r:=by
 have:=aY (i:=20) (u:=aO c) h;exact this
def cU.Q8{s:SR}(h:cU a b s r)(c:eN):cU (cP a (X b 21)<|aO c) b {s with x:=c} r:=by
 have:=aY (i:=21) (u:=aO c) h;exact this
structure gl(w w':Z)(db sb:R)(K K':DK):Prop where
 ok:cJ w' db K'
 aA:I (λk=>K.j db k\/k=sb) w w'
 j:∀k,K'.j db k->K.j db k\/G (H w)<=k
 fx:Fx K.fx K'.fx
def gl.of{w b:Z}{db j3:R}{K a:DK}(h:pT w b db K a):gl w b db j3 K a:=⟨h.ok,h.aA.aT aI,h.j,h.fx⟩
def gl.bI{w:Z}{db j3:R}{K:DK}(h:cJ w db K):gl w w db j3 K K:=⟨h,I.bI _ _,λ_ c=>J c,Fx.bI _⟩
def gl.aj{w w' c:Z}{db e:R}{K g a:DK}(h:gl w w' db e K g)(k:gl w' c db e g a):gl w c db e K a:=⟨k.ok,h.aA.aj k.aA<|λx d=>d.elim (λi=>(h.j x i).imp J id)<|λi=>J<|bu i,λx d=>(k.j x d).elim (h.j x)<|λi=>bu<|aR h.aA.D i,h.fx.aj k.fx⟩
def gl.gu{j:DK}(h:gl e P b k f j)(m:¬j.j b k)(i:R)(v:ae):gl e (cP P (X k i) v) b k f j:=by
 have l:I (λn=>n=k) P (cP P (X k i) v):=(I.bI _ P).aL k i v<|J z;exact⟨h.ok.aA l aI,h.aA.aj l ar,h.j,h.fx⟩
def pT.D(h:pT a e b f x)(d:¬f.j b c)(i:c<G (H a)):¬x.j b c:=λg=>(h.j c g).elim d<|λj=>U
structure Iy(w w':Z)(db sb:R)(K K':DK)(full:cy qG)(v:ae):Prop where
 D:gl w w' db sb K K'
 d:(v=ic/\mu full K K')\/∃l q c,l<+:full/\mu l K K'/\v=eW q/\rE w' q c/\Xn K.fx c
def Iy.of{w b:Z}{db j3:R}{K a:DK}{l:cy qG}(h:vU w b db K a l d):Iy w b db j3 K a l d:=⟨gl.of h.D,h.d⟩
def Iy.km(h:gl a e b c f x)(k:wS f x):Iy a e b c f x [] ic:=⟨h,J ⟨rfl,k⟩⟩
def Iy.t{g:DK}{p s:cy qG}(m:f.fx.ok)(h:gl a e b c f x)(i:mu p f x)(k:Iy e P b c x g s d):Iy a P b c f g (p++s) d:=by
 refine⟨h.aj k.D,?_⟩;obtain⟨j,k⟩|⟨r,q,t,n,k,j,o,l⟩:=k.d;exact J ⟨j,i.Fa k⟩;exact bu ⟨p++r,q,t,iw _|>.2 n,i.Fa k,j,o,h.fx.A m l⟩
def Iy.jl{c d q:R}{b:DK}{l m:cy qG}(h:Iy a e c d f b l (eW q)):Iy a e c d f b (l++m) (eW q):=by
 refine⟨h.D,?_⟩;obtain⟨g,_⟩|⟨k,n,o,j,r⟩:=h.d;cases g;grind
def pa(s:SR):cy qG:=(if s.k then [.sy<|gX s.l]else [])++(if s.x then [.sd]else [])
def MsP(w d:Z)(a:R)(s:SR)(g:Y)(K:DK)(f:Ending):Prop:=∃v e b c,f=aN v/\Iy w d s.f a K e (pa s) v/\cU d a {s with k:=b,x:=c} g/\(v=ic->b=bD/\c=bD)
def cU.bM{s:SR}(h:cU a b s r):cU a b {s with k:=s.k,x:=s.x} r:=h
def CJ(h:cU a b o r)(hd:cJ a o.f f)(hn:¬f.j o.f b)(hp:Pow a)(hl:o.l<18446744073709551616)(hx:o.k=cz->ij f.ah (gX o.l)=dE->qu f.fx)(hm:y f.l<=1000000000000):cR bN 62 #[aJ b] a λQ w'=>MsP a w' b o r f Q:=by
 have n:=az h;have aa:∀ac,cJ ac o.f f->o.k=cz->cR bN 111 #[aJ o.f,aw<|gX o.l] ac λQ w'=>wU ac w' o.f f [.sy<|gX o.l] Q:=by exactλac hW c=>Tz (gX o.l) hW (hx c)<|wL hl
 have s:∀ac a,cJ ac o.f a->y a.l<=y f.l->cR bN 112 #[aJ o.f] ac λQ w'=>wU ac w' o.f a [.sd] Q:=λac a hW b=>Gc hW U;have K:=ak hd.L;have c2:=cU.bW h 2 z;have N:=cU.bW h 17 z;have O:=cU.bW h 20 z;have P:=cU.bW h 21 z;cases c:o.k with
 |false=>
  rw[c]at O;cases hln:o.x with
  |false=>
   rw[hln]at P;go_in
   go_wp2;go_ret;refine⟨_,f,bD,bD,z,?_,?_,λ_=>⟨z,z⟩⟩
   .rw[(by unfold pa;rw[c,hln];rfl:pa o=[])];exact Iy.km (gl.bI hd) ⟨z,z,z⟩
   have hB:=h;unfold cU SR.bU at hB|-;grind
  |true=>
   rw[hln]at P;have g:pa o=[.sd]:=by unfold pa;rw[c,hln];rfl
   go_in
   go_wp21;go_call(s a f hd<|aq _)as Q t⟨v8,x,rfl,e⟩;have j:=e.D;have d:cU t b o r:=h.aA j.aA hn;obtain⟨rfl,o8⟩|⟨bc,q,aD,r1,r2,rfl,r3⟩:=e.d
   .have k:bA t (X b 21)=M (aO cz):=d.u (by rw[<-hln];rfl);have l:iI t (X b 21)=bD:=d.bS;let⟨w,u,i⟩:=eU ((gl.of j).gu (j.D hn n) 21<|aO bD) (d.Q8 bD) o8;go_wp2;go_ret;refine⟨_,x,bD,bD,z,⟨w,J ⟨z,by rwa[g]⟩⟩,?_,λ_=>⟨z,z⟩⟩;have hB:=ag u;grind
   .have L:=ak e;go_wp2;go_ret;exact⟨_,x,_,_,z,by rw[g];exact Iy.of<|ag L,d,λq=>by cases q⟩
 |true=>
  rw[c]at O;go_in
  go_wp21;rename_i QQ KK ap;refine cX (λj4=>bA j4 (X b 2)=M (aJ o.f)/\bA j4 (X b 17)=M (bw o.l)) 10 aH ?_;apply dH 0;iterate 8 (refine vg (v:=?_) (⟨c2,N⟩:bA a.drew (X b 2)=M (aJ o.f)/\bA a.drew (X b 17)=M (bw o.l)) z aH wP z ?_ ?_;rotate_left;(focus(intro j4 hX;let⟨z0,z1⟩:=hX;go_simp;try rfl));simp only[ii,eh,ke])
  apply eS;refine aW 8 ?_;intro x an;go_simp;go_call AN o.l hl (hp.aA (cf aC a) id)as Q w1⟨rfl,av⟩;have g:I aC a w1:=(cf aC a).t<|I.p (S:=aC) av;apply an _ _<|λ_=>(⟨g.u c2 id n,g.u N id n⟩:bA w1 (X b 2)=M (aJ o.f)/\bA w1 (X b 17)=M (bw o.l));refine aW 9 ?_;intro K9 ao;go_simp;go_call(aa w1 (hd.aA g<|λ_ _=>id) c)as Q p⟨v2,D,rfl,C⟩;have B:=C.D;have bb:=g.D;have i:cU p b o r:=(h.aA g id).aA B.aA hn;apply ao _ _<|λ_=>(⟨i.u z,i.u z⟩:bA p (X b 2)=M (aJ o.f)/\bA p (X b 17)=M (bw o.l));refine aW 10 ?_;intro aU W;go_simp;apply W _ _ wX;refine dG aH ?_ _;show KK _ _;apply ap;have ab:=B.D hn U;have V:gl a w1 o.f b f f:=⟨hd.aA g<|λ_ _=>id,g.aT cY,λ_ aD=>J aD,Fx.bI _⟩;obtain⟨rfl,o2⟩|⟨bc,q,aD,r1,r2,rfl,r3⟩:=C.d;rotate_left
  .have L:=ak (show Iy a p o.f b f D (pa o) (eW q)from by
    have:=Iy.jl (m:=if o.x then [.sd]else []) (Iy.t K V (show mu [] f f from⟨z,z,z⟩) (Iy.of C));unfold pa;rw[c];exact this)
   go_wp2;go_ret;exact⟨_,D,_,_,z,L,i,λq=>by cases q⟩
  have aV:bA p (X b 20)=M (aO cz):=i.u (by rw[<-c];rfl);have ba:iI p (X b 20)=bD:=i.bS;have A:=i.zbs bD;have T:bA (cP p (X b 20)<|aO bD) (X b 21)=M (aO o.x):=A.u z;have e2:=cU.bW A 2 z;have ax:y D.l<=y f.l:=by
   let⟨K',⟨al,_,_,_,k⟩,_,_,a7⟩:=o2;rw[a7,k];grind
  let⟨E,l,ad,F⟩:=js A ((V.aj<|gl.of B).gu ab 20 (aO bD):gl a (cP p (X b 20)<|aO bD) o.f b f D) o2 ab;cases hln:o.x with
  |false=>
   rw[hln]at T;go_wp2;go_ret;refine⟨_,D,bD,bD,z,⟨l,J ⟨z,?_⟩⟩,?_,λ_=>⟨z,z⟩⟩
   .unfold pa;rwa[c,hln]
   have hB:=ag E;grind
  |true=>
   rw[hln]at T;go_wp21;go_call(s (cP p (X b 20)<|aO bD) D l.ok ax)as Q t⟨v8,x,rfl,e⟩;have j:=e.D;have d:cU t b _ r:=E.aA j.aA F;have k:Iy a t o.f b f x (pa o) v8:=by
    have:=Iy.t K l ad<|Iy.of (j3:=b) e;unfold pa;rwa[c,hln]
   obtain⟨rfl,o8⟩|⟨bc,q,aD,r1,r2,rfl,r3⟩:=e.d
   .have:bA t (X b 21)=M (aO cz):=d.u (by rw[<-hln];rfl);have:iI t (X b 21)=bD:=d.bS;let⟨w,u,al⟩:=eU (k.D.gu (j.D F<|au n l.aA.D) 21<|aO bD) (d.Q8 bD) k.d;go_wp2;go_ret;refine⟨_,x,bD,bD,z,⟨w,?_⟩,?_,λ_=>⟨z,z⟩⟩
    .obtain aD|⟨bc,q,aD,_,_,Q,_⟩:=ag al
     .simp_all
     .cases Q
    have:=ag u;grind
   .have L:=ak k;go_wp2;go_ret;exact⟨_,x,_,_,z,L,d,λq=>by cases q⟩
section
open Conc.Locks
def SR.BC(s:SR):SR:={s with d:=cz,L:=aF,l0:=aF,l1:=aF,l2:=aF,l3:=aF,n:=dE}
def Km(h:cU a b o 0)(hc:o.d=bD)(ad:∃F D m,o.L=am F D m)(W:∃F D m,o.l0=am F D m)(aa:∃F D m,o.l1=am F D m)(ab:∃F D m,o.l2=am F D m)(ac:∃F D m,o.l3=am F D m)(hd:cJ a o.f f)(hn:¬f.j o.f b)(hp:Pow a)(an:b≠2)(hl:o.l<18446744073709551616)(hf:o.k=cz->ij f.ah (gX o.l)=dE->qu f.fx)(hm:y f.l<=1000000000000):cR bN 21 #[aJ b] a λap E=>∃ax K' r s,ap=aN ax/\Iy a E o.f b f K' (pa o) ax/\cU E b {o.BC with k:=r,x:=s} 0/\(ax=ic->r=bD/\s=bD):=by
 have c0:=cU.bW h 0 z;have f0:iI a (X b 0)=bD:=h.bS;let⟨d,j⟩:∃d,cP a (X b 0) (iD 1)=d:=⟨_,rfl⟩;have c:cU d b o 1:=j▸h.jh 1;have A:I (λav=>av=b) a d:=j▸(iQ b a);have:bA d (X b 5)=M (aO bD):=c.u (by rw[<-hc];rfl);have:=cU.bW c 6 z;have c7:=cU.bW c 7 z;have Q:=cU.bW c 10 z;have S:=cU.bW c 11 z;have T:=cU.bW c 12 z;have V:=cU.bW c 13 z;have:=cU.bW c 16 z;have:iI d (X b 16)=bD:=c.bS;have:iI d (X b 5)=bD:=c.bS;have:iI d (X b 7)=bD:=c.bS;have:iI d (X b 10)=bD:=c.bS;have:iI d (X b 11)=bD:=c.bS;have:iI d (X b 12)=bD:=c.bS;have:iI d (X b 13)=bD:=c.bS;let⟨p,l⟩:∃p,cP (cP (cP (cP (cP (cP (cP d (X b 5)<|aO cz) (X b 7) aF) (X b 10) aF) (X b 11) aF) (X b 12) aF) (X b 13) aF) (X b 16) (.map dE)=p:=⟨_,rfl⟩;have hS:cU p b o.BC 1:=by have t:=aY (i:=16) (u:=.map dE)<|aY (i:=13) (u:=aF)<|aY (i:=12) (u:=aF)<|aY (i:=11) (u:=aF)<|aY (i:=10) (u:=aF)<|aY (i:=7) (u:=aF)<|aY (i:=5) (u:=aO cz) c;rwa[l]at t
 have g:I (λav=>av=b) a p:=by rw[<-l];exact((((((A.aL b 5 _<|J z).aL b 7 _<|J z).aL b 10 _<|J z).aL b 11 _<|J z).aL b 12 _<|J z).aL b 13 _<|J z).aL b 16 _<|J z
 have v:=CJ hS (hd.aA g aI) hn (hp.aA g<|λap=>an ap.symm) hl hf hm;let⟨L,K,N,O,P⟩:=oa hS (hd.aA g aI) g j l;let⟨mx,mn,mc,em⟩:=ad;let⟨aV,aU,aD,ea⟩:=W;let⟨bx,bn,bc,eb⟩:=aa;let⟨cx,cn,cc,ec⟩:=ab;let⟨dx,dn,dc,ed⟩:=ac;rw[em]at c7;rw[ea]at Q;rw[eb]at S;rw[ec]at T;rw[ed]at V;clear h c A hc hd hp hf hS g j l em ea eb ec ed;go_enter_defers func21,ntmps21
 go_wp21;go_call ng (X b 0) _ c0 f0 as ap E⟨rfl,ao⟩;rw[ag O]at ao;subst E;go_wp21;rw[ag P];go_call v as ap B⟨v2,C,r,s,rfl,n,e,w⟩;have d0:=cU.bW e 0 z;have k0:iI B (X b 0)=bD:=e.bS;have HF:=ak (show Iy a (cP B (X b 0)<|iD 0) o.f b f C (pa o) v2/\cU (cP B (X b 0)<|iD 0) b {o.BC with k:=r,x:=s} 0/\(v2=ic->r=bD/\s=bD)from by have:=az L;have t:gl p B o.f b f C:=n.D;have al:¬C.j o.f b:=λm=>(t.j b m).elim hn<|λd=>U;have h0:gl a p o.f b f f:=⟨K,N.aT ar,λ_ m=>J m,Fx.bI _⟩;exact⟨⟨(h0.aj t).gu al 0<|iD 0,n.d.imp id<|λ⟨l,q,m,c,d,f,a,g⟩=>⟨l,q,m,c,d,f,a.aA (iQ b B)<|a.pL (j3:=b) e,g⟩⟩,e.jh 0,w⟩);clear v e n w hn;go_wp2;exact fD d0 k0 ⟨_,gH z _ _ _,⟨v2,C,r,s,z,HF⟩⟩
end
def JW(a:Fs)(b:cy af):Fs:=b.foldl sk a
def Md{m:af}(h:m≠B):fp (sk N B) m=fp N m:=by
 induction N with
 |nil=>rfl
 |cons g r c=>
  let⟨b,d⟩:=g;by_cases e:b=B
  .simp only[sk,e,mT,fp];rw[fN<|λc=>h c.symm]
  .by_cases a:b=m
   .subst a;simp only[sk,fN h,fp,mT]
   .simp only[sk,fN e,fp,fN a,c]
theorem vJ{a:cy af}(h:B∉a):fp (JW N a) B=fp N B:=by
 induction a generalizing N with
 |nil=>rfl
 |cons n r b=>
  show fp (JW (sk N n) r) B=fp N B;rw[b (λc=>h<|by simp[c]),Md aI]
def GM{a:cy af}(h:mu (a.map .rm) f x):vw x.ah=JW (vw f.ah) a/\y x.l=y f.l+y a:=by
 induction a generalizing f with
 |nil=>exact⟨by rw[h.1];rfl,by rw[h.2.2];rfl⟩
 |cons n r i=>
  let⟨j,⟨F,l,_,b,k,c⟩,g⟩:=h;let⟨d,e⟩:=i g;refine⟨?_,by rw[e,c];simp;omega⟩;rw[d,b,vq];rfl
def Gy{K:DK}(ad:ae)(c:cy af)(h:cU a b o r)(x:cJ a o.f K)(hn:¬K.j o.f b)(hr:Row a 1 ad (y c) (c.map Value.string))(hv:∀ac,cN ad=M ac->ac<G (H a)/\¬K.j o.f ac)(B:c≠[]->qu K.fx)(hm:y K.l+y c<=1000000000000)(aa:∀an∈c,Nm an):cR bN 75 #[aJ b,ad] a λC w'=>wU a w' o.f K (c.map .rm) C:=by
 have:=az h;have k:=ak x.L;obtain⟨g,⟨rfl,Q⟩|⟨al,i,P,rfl,T,S⟩⟩:=hr;(.obtain rfl:=bG Q;have s:=ak<|pT.bI x;(go_in);go_wp2;(go_loopw [10] (λF wr=>F=ay 0/\wr=a) (λ_ _=>0));(grind);obtain⟨rfl,d⟩:=hrel;subst wr;go_wp2;go_ret;exact⟨_,K,z,s,J ⟨z,z,z,z⟩⟩)
 .have D:=hv al z;let⟨HB,N,O,t⟩:=js h S hn<|pT.bI x;go_in
  go_wp2;go_loopw [10] (λF wr=>∃(m:R)(p:DK),m<=y c/\F=ay m/\pT a wr o.f K p/\mu ((c.take m).map .rm) K p) (λF _=>y c-(intOf F).toNat)
  .exact⟨0,K,bQ _,z,t,z,z,z⟩
  .obtain⟨m,p,V,rfl,j,d⟩:=hrel;by_cases f:m<y c
   .have:bA wr (X al<|i+m)=M (aw c[m]):=j.aA.u (N m _ (by rw[fP,bF f];rfl)) D.2 D.1;have w:=HB.aA j.aA O;have:=cU.bW w 2 z;let⟨ab,W⟩:=GM d;have:y (c.take m)=m:=by rw[dX];omega
    have A:=Jt c[m] j.ok (λ_=>j.fx.D<|B (by intro C;rw[C]at f;simp at f)) U aI;have l:(c.take<|m+1).map qG.rm=(c.take m).map .rm++[.rm c[m]]:=by rw[aG f,bz];rfl
    have E:(c.take<|m+1).map qG.rm<+:c.map .rm:=aI;generalize c[m]=L at*;go_wp21;go_call A as C w1⟨v1,n,rfl,g⟩;have e:=vU.t k j d g;rw[<-l]at e;obtain⟨rfl,o1⟩|⟨ap,q,ao,r1,r2,rfl,r3⟩:=g.d
    .let⟨u,v⟩:=And.intro (ak e.D) (ak (show mu ((c.take<|m+1).map .rm) K n by rw[l];exact mu.Fa d o1));go_wp2;go_roundw
     .exact⟨m+1,n,f,dM,u,v⟩
     .simp[intOf];omega
    .have u:=ak (show vU a w1 o.f K n (c.map .rm) (eW q)from⟨e.D,by
      obtain⟨C,_⟩|⟨l',q',v,av,m9⟩:=e.d
      .cases C
      grind⟩)
     go_wp2;go_ret;exact⟨_,n,z,u⟩
   .have e:m=y c:=U;subst e;rw[cQ]at d;let⟨s,l⟩:=And.intro (ak j) (ak d);go_wp2;go_ret;exact⟨_,p,z,s,J ⟨z,l⟩⟩
def Ie{I2:Y}{hh:Array ae}{kb:cy (ae×dI)}{m8:ae->ae->Array ae}(bE e g:R)(g9 xa xd:Option Addr)(em hg na ca nd cd:R)(bi ao:dI)(h1:uE s c (bX bE e (y l) g) l a)(ge:y l<=g)(it:0<y l)(h2:uE s c (am g9 em hg) v a)(gs:Row a 1 (am xa na ca) (y bi) (bi.map cH.D))(gt:Row a 1 (am xd nd cd) (y ao) (ao.map cH.D))(db:∀k,cN (am xa na ca)=M k->k<c/\¬s.F k)(dk:∀k,cN (am xd nd cd)=M k->k<c/\¬s.F k)(kd:s.D a)(o:c<=G (H a))(hF:∀k,s.F k->k<c)(kf:Steps a)(gb:1<c/\¬s.F 1)(lr:y l+y v+y bi+y ao<=3000000000)(hZ:lU v<=20000000000)(d:eN)(hi:(b=1/\r=1/\I2=3/\hh=#[am xa na ca,bX bE e (y l) g,am g9 em hg,am xd nd cd]/\kb=[((am xa na ca:ae),bi),(bX bE e (y l) g,l),(am g9 em hg,v),(am xd nd cd,ao)]/\m8=(λlD em=>#[am xa na ca,lD,em,am xd nd cd])/\d=ao.isEmpty)\/(b=2/\r=2/\I2=4/\hh=#[am xa na ca,am xd nd cd,bX bE e (y l) g,am g9 em hg]/\kb=[((am xa na ca:ae),bi),(am xd nd cd,ao),(bX bE e (y l) g,l),(am g9 em hg,v)]/\m8=(λlD em=>#[am xa na ca,am xd nd cd,lD,em])/\d=cz))(kn:∀j(hj:j<y l),∀ws:dI,ws.Sublist v->yP (eL<|gz ws::[l[j]].map cH.dq)/\(∀mb∈eL (gz ws::[l[j]].map cH.dq),mb.Good)/\y (eL<|gz ws::[l[j]].map cH.dq)<=3000000000)(N:eD)(mx:Option Addr)(mc:R)(kk:Row a 1 (am mx (y N) mc) (y N) (N.map<|Value.int .u64))(gj:∀k,cN (am mx (y N) mc)=M k->k<c/\¬s.F k)(gi:y N<=4):cR bN 132 #[ef hh,ay r,am mx (y N) mc] a λF m=>(∃xl nl fe xm D ff,∃tm:dI,∃j,∃hj:j<y l,∃t q,F=aN (de #[ef<|m8 (am xl nl fe)<|am xm D ff,ic])/\Iu v (iq l[j].ks) (iR l[j].ks) t q/\fE m (G<|H a) 235 1 (am xl nl fe) (y<|l.take j++l.drop (j+1)) ((l.take j++l.drop (j+1)).map cH.D)/\fE m (G<|H a) 235 1 (am xm D ff) (y<|v.take t++tm++v.drop q) ((v.take t++tm++v.drop q).map cH.D)/\tm.map cH.dq=jq (yA N d [l[j]]<|(v.drop t).take<|q-t)/\sF m (G<|H a) tm/\s.D m/\I s.F a m)\/Et s a m s.F F bL:=by
 have hW:I aC a (dw (dw a<|aK hh 108)<|aK #[aF,aF,aF,aF] 108):=(cI _ a).aE _;generalize bq:dw (dw a<|aK hh 108) (aK #[aF,aF,aF,aF] 108)=ap at hW;have al:ap.heap[G<|H a]?=M (aK hh 108 (0,0)):=by rw[<-bq];grind[gy,aQ]
 have fi:ap.heap[G (H a)+1]?=M (aK #[aF,aF,aF,aF] 108 (0,0)):=by rw[<-bq];exact aQ _ ar
 have bt:∀k,c<=k->¬s.F k:=λk f fd=>bP<|hF k fd
 have dv:∀i,I s.F ap i->Fw i (G<|H a) 0 kb:=by
  intro i K;have ab:∀bk b,Row a 1 bk (y b) (b.map cH.D)->(∀k,cN bk=M k->k<c/\¬s.F k)->Row i 1 bk (y b) (b.map cH.D):=λbk b lm f=>
   K.bV (hW.bV lm<|λk F=>⟨id,au (f k F).1 o⟩) (λk F=>⟨(f k F).2,au (f k F).1<|aR o hW.D⟩)
  have hz:G (H a)<=G (H i):=aR hW.D K.D;have L:∀b bk,hh[b]?=M bk->bA i (X (G<|H a)<|0+b)=M bk:=by
   intro b bk jC;refine K.u ?_ (bt _ o)<|az al;rw[cE al,ez];exact jC
  obtain⟨_,_,_,rfl,rfl,_⟩|⟨_,_,_,rfl,rfl,_⟩:=hi;all_goals
   refine⟨z,λb hi=>?_,λb hi=>?_,λb hi k f=>?_,by simp[nC];omega⟩
   .match b,hi with
    |0,_|1,_|2,_|3,_=>exact L _ _ z
   .match b,hi with
    |0,_|1,_|2,_|3,_=>first|exact ab _ _ gs db|exact ab _ _ h1.bV h1.l|exact ab _ _ h2.bV h2.l|exact ab _ _ gt dk
   .match b,hi with
    |0,_|1,_|2,_|3,_=>first|exact au (db k f).1 (aR o hz)|exact au (h1.l k f).1 (aR o hz)|exact au (h2.l k f).1 (aR o hz)|exact au (dk k f).1<|aR o hz
 have jB:∃S1 S2:Z->Prop,(∀i,I s.F ap i->S1 i/\S2 i)/\(∀O,S1 O->bA O (X (G<|H a) b)=M (bX bE e (y l) g))/\∀O,S2 O->bA O (X (G<|H a)<|b+1)=M (am g9 em hg):=by refine⟨_,_,λi K=>?_,λO h=>h,λO h=>h⟩;(have L:∀b bk,hh[b]?=M bk->bA i (X (G<|H a) b)=M bk:=by intro b bk jC;refine K.u ?_ (bt _ o)<|az al;rw[cE al];exact jC);obtain⟨rfl,_,_,rfl,_⟩|⟨rfl,_,_,rfl,_⟩:=hi<;>exact⟨L _ _ z,L _ _ z⟩
 obtain⟨S1,S2,hC,bc,br⟩:=jB;have ei:=hW.D;have bp:∀i,I aC ap i->la s c aC a i:=λi ht=>(hW.t ht).bM o cY cY;have hI:r=(b:R)/\I2=(b+2:R)/\(b=1\/b=2)/\lu kb (b+2)=d:=by obtain⟨rfl,rfl,rfl,_,rfl,_,rfl⟩|⟨rfl,rfl,rfl,_,rfl,_,rfl⟩:=hi;exact⟨z,z,J z,by simp[lu]⟩;exact⟨z,z,bu z,by simp[lu]⟩
 have bs:∀q,cR bN 194 #[aJ<|G<|H a,ay r] (ap.drewN q) λF m=>∃j:R,F=aN (ay j)/\j<y l/\I aC ap m:=by intro q;have ab:=gP aC ap q;have hz:=dv _<|ab.aT cY;rw[hI.1];refine(LH (w:=(ap.drewN q)) (G<|H a) 0 b (ts1:=l) U (by rw[ez];exact bc _ (hC _<|ab.aT cY).1) (by rw[ez];exact br _ (hC _<|ab.aT cY).2) hz.lt ((h1.bM<|bp _ ab).D<|aR o ei) ((h2.bM<|bp _ ab).D<|aR o ei) h2.L.A it hZ).mono ?_;rintro F m⟨j,rfl,hj,lm⟩;exact⟨j,z,hj,ab.t<|I.p (S:=aC) lm⟩
 have V:∀i,I s.F ap i->cR bN 197 #[aJ<|G<|H a,ay I2] i λF m=>F=aN (aO d)/\m=i:=by intro i K;have h:=EL (b+2) kb (dv i K) U;rw[hI.2.2.2]at h;rw[hI.2.1];exact h
 clear hI;obtain⟨cl,bl,hn,HC,hv,HW,ad,hH,ax⟩:=Hp al fi V hC bs hW bt bq bp;obtain⟨H1,H2,HD,HF,HT,cr,hu,HM,cn⟩:=Hp h1 h2 kd hF kf gb kn kk gj;clear h1 h2 gs gt db dk kd hF kf gb kn kk gj al fi dv bs hW bt bq bp V hC;obtain⟨rfl,rfl,rfl,rfl,rfl,rfl,ce⟩|⟨rfl,rfl,rfl,rfl,rfl,rfl,ce⟩:=hi
 all_goals
  clear ce;simp only[ke]at br;have ey:=ak bc;have bn:=ak br;clear bc br;go_in
  go_wp2_with fail
  go_quiet(fail)
  rw[ag hH];have bs:=hv nq;go_wp2_with fail
  apply bs.mono;rintro F w1⟨j,rfl,hj,gx⟩;have ln:=ey w1 (HC w1<|gx.aT cY).1;have x:=ak gx;obtain⟨j1,dr⟩:=oh<|j+1;have e1:(j:Y)+1=(j1:Y):=U;have e2:(j:Y)<=(j1:Y):=U;have e3:(j1:Y)<=(g:Y):=U;have e4:(j1:Y)<=(y l:Y):=U;have e5:(j:Y)<=(g:Y):=U;have e6:¬(g=j):=U;have e7:¬(g-j=0):=U;have e8:IntKind.i64.wrap (j1:Y)=(j1:Y):=by rw[bR];omega
  have e9:(0:Y)<=(j:Y):=U;have lb:(y l:Y)<=(g:Y):=U;have lc:j1-j=1:=U;have HJ:=ak dr;have ll:S1 w1.drew:=(HC _<|(x.t<|cf aC w1).aT cY).1;go_wp2_with fail
  rename_i QQ KK hR;refine cX S1 21 aH ?_;refine dH 0 ?_;iterate 18 (refine vg (v:=?_) ll z aH wP z ?_ ?_;rotate_left;(focus(intro O hX;have z0:=ey O hX;go_simp;try rfl));simp only[ii,eh,ke])
  apply eS;refine aW 18 ?_;intro hJ ba;go_simp;have fz:jY w1 (bX bE e (y l) g) l:=((H1.bM<|ax w1 x).D<|aR o<|aR ei x.D);have lp:=x.D;have W:=N3 (w1:=w1) (ta:=(l.take j)) (j8:=(l.drop j1)) (G<|H a) (fz.ou j U) (YX fz ge<|bP<|ag HJ) dW U 106;refine ba _ _ (λ_=>?_) ?_
  .exact(HC _<|((x.aE _).t<|cf aC _).aT cY).1
  refine aW 19 ?_;intro hK bb;go_simp;apply W.mono;rintro F p⟨vl,rfl,dT,ed⟩;obtain⟨nl,gk⟩:=oh<|y<|l.take j++l.drop j1;rw[gk]at dT;have hy:=ak gk;obtain⟨xl,fe,rfl⟩:=aM dT;have ga:S1 p:=(HC _<|(x.t ed).aT cY).1;refine bb _ _ (λ_=>ga) ?_;refine aW 20 ?_;intro kx fr;go_simp;refine fr _ _ (λ_=>ga) ?_;refine aW 21 ?_;intro ky fs;go_simp;refine fs _ _ wX ?_;refine dG aH ?_ _;show KK _ _;apply hR;generalize(if g=j1 then M ((X bE e):Addr)else M (X bE<|e+j1))=zz at*;have w:I aC ap p:=x.t ed;have Q:=ak w;have hB:=ak dT;have lt:=w.D;have bo:jY p (bX bE e (y l) g) l:=((H1.bM<|ax p w).D U);have lg:jY p (am g9 em hg) v:=((H2.bM<|ax p w).D U);have lo:=bn p (HC p<|w.aT cY).2;have hp:=bo.u hj;have dn:∀ap,ap.heap=p.heap->cR bN 184 #[l[j].D] ap λF m=>F=aN (aw<|iq l[j].ks)/\m=ap:=λap hW=>((bo.bZ _<|aB hj).df hW).eJ;have ds:∀ap,ap.heap=p.heap->cR bN 183 #[l[j].D] ap λF m=>F=aN (aw<|iR l[j].ks)/\∃q,m=ap.drewN q:=λap hW=>((bo.bZ _<|aB hj).df hW).eP;have gd:bE<G (H p):=bo.lt bE z;have hN:G (H a)<G (H p):=bP<|az cl;have hcut:∀i,I aC p i->cR bN 195 #[am g9 em hg,aw<|iq l[j].ks,aw<|iR l[j].ks] i λF m=>∃va vb vc,F=aN (de #[va,vb,vc])/\(∃t q,Iu v (iq l[j].ks) (iR l[j].ks) t q/\jY m va (v.take t)/\jY m vb ((v.drop t).take<|q-t)/\jY m vc (v.drop q)/\(∀k,cN va=M k\/cN vb=M k\/cN vc=M k->cN (am g9 em hg)=M k))/\I aC p m/\S2 m/\bA m (X bE<|e+j)=M l[j].D:=by
   intro i cT;refine(Pe (iq l[j].ks) (iR l[j].ks) ((H2.bM<|ax i<|w.t cT).D<|bP cT.D) H2.L.A).mono ?_;rintro F m⟨t,q,va,vb,vc,rfl,a1,a2,a3,a4,a5,gc⟩;have ec:I aC p m:=cT.t<|I.p (S:=aC) gc;exact⟨va,vb,vc,z,⟨t,q,a1,a2,a3,a4,a5⟩,ec,(HC m<|(w.t ec).aT cY).2,ec.u hp id gd⟩
  unfold cH.D at hp dn ds hcut;have hE:=ak (show∃s1 s2 j8,iq l[j].ks=s1/\iR l[j].ks=s2/\l[j].tb=j8 from⟨_,_,_,z,z,z⟩);obtain⟨s1,s2,j8,cu,cv,aU⟩:=ag hE;rw[cu,cv,aU]at hcut;rw[cu,aU]at dn;rw[cv,aU]at ds;rw[aU]at hp;obtain⟨ho,hq,kq⟩:=eU cu cv aU;obtain⟨hs,bm,hm⟩:=eU dn ds hcut;have g1:IntKind.i64.wrap (2:Y)=2:=by rw[bR];omega
  have g2:IntKind.i64.wrap (3:Y)=3:=by rw[bR];omega
  have cM:S2 p.drew/\bA p.drew (X bE<|e+j)=M (aJ j8):=⟨(HC _<|(Q.t<|cf aC p).aT cY).2,hp⟩;go_wp2_with fail
  rename_i Q6 K6;refine cX (λO=>S2 O/\bA O (X bE<|e+j)=M (aJ j8)) 19 aH ?_;refine dH 0 ?_;iterate 7 (refine vg (v:=?_) cM z aH wP z ?_ ?_;rotate_left;(focus(intro O hX;obtain⟨m9,z1⟩:=hX;have z0:=bn O m9;go_simp;try rfl));simp only[ii,eh,ke])
  apply eS;refine dH 8 ?_;iterate 3 (refine vg (v:=?_) cM z aH wP z ?_ ?_;rotate_left;(focus(intro O hX;obtain⟨m9,z1⟩:=hX;have z0:=bn O m9;go_simp;try rfl));simp only[ii,eh,ke])
  apply eS;refine aW 7 ?_;intro K7 hQ;go_simp;apply(hs p.drew z).mono;rintro F E⟨rfl,jE⟩;subst E;refine hQ _ _ (λ_=>cM) ?_;refine aW 11 ?_;intro ks fk;go_simp;apply(bm p.drew z).mono;rintro F E⟨rfl,qq,jE⟩;subst E;refine fk _ _ (λ_=>⟨(HC _<|((Q.t<|cf aC p).t<|gP aC _ _).aT cY).2,hp⟩) ?_;refine aW 12 ?_;intro kt fl;go_simp;apply(hm (p.drewN<|1+qq)<|gP _ _ _).mono;rintro F E⟨va,vb,vc,rfl,ih,gE,bv⟩;refine fl _ _ (λ_=>bv) ?_;refine dH 13 ?_;iterate 4 (refine vg (v:=?_) bv z aH wP z ?_ ?_;rotate_left;(focus(intro O hX;obtain⟨m9,z1⟩:=hX;have z0:=bn O m9;go_simp;try rfl));simp only[ii,eh,ke])
  apply eS;refine aW 17 ?_;intro kv fn;go_simp;refine fn _ _ (λ_=>bv) ?_;refine aW 18 ?_;intro hJ ba;go_simp;refine ba _ _ (λ_=>bv) ?_;refine aW 19 ?_;intro hK bb;go_simp;refine bb _ _ wX ?_;refine dG aH ?_ _;show K6 _ _;apply QQ;obtain⟨t,q,hO,fu,cx,fv,fx⟩:=ih;obtain⟨jK,hL,hb⟩:=cG fu.bV;obtain⟨el,cs,hc⟩:=cG cx.bV;obtain⟨ka,hM,hd⟩:=cG fv.bV;generalize y (v.take t)=jG at hb;generalize y ((v.drop t).take<|q-t)=ej at hc;generalize y (v.drop q)=jH at hd;subst hb;subst hc;subst hd;have C:I aC ap E:=Q.t gE;have lv:=C.D;have bd:((v.drop t).take<|q-t).Sublist v:=(rM _ _).trans<|mW _ _;have cB:=ax E C;obtain⟨gv,jA,eb⟩:=hu j hj _ bd;have V:=λi(K:I s.F E i)=>hn i<|(C.aT (T:=s.F) cY).aj K<|λ_ h=>J h;have il:cR bN 196 #[bX bE (e+j) 1<|g-j,am el ej cs] E λF m=>(∃a,F=aN (de #[a,ic])/\fE m (G<|H E) 223 4 a (y<|eL<|gz ((v.drop t).take<|q-t)::[l[j]].map cH.dq) (bj<|eL<|gz ((v.drop t).take<|q-t)::[l[j]].map cH.dq)/\s.D m/\I s.F E m)\/Et s E m s.F F (λbk=>de #[aF,bk]):=by
   have fL:=H1.bM cB;have hT:=H2.bM cB;refine GX c bE (e+j) (g-j) (am el ej cs) [l[j]] ((v.drop t).take<|q-t) ?_ (H1.l bE z) ?_ ar ⟨cx.bV,λk f=>H2.l k<|fx k<|bu<|J f,λmd ht=>hT.bZ md<|bd.subset ht,H2.L.kE bd,cx.f⟩ (s.l HD (HW.t C) cY) U HF eb
   .intro b hi;obtain rfl:b=0:=aI;exact fL.u hj
   .intro md ht;rw[bY]at ht;subst ht;exact fL.bZ _<|aB hj
  have eg:I aC a E:=HW.t C;obtain⟨en,hx,ac,co,hr⟩:=oa (JG (V:=s) (W:=E) (ms:=N) (mx:=mx) (mc:=mc) (eL<|gz ((v.drop t).take<|q-t)::[l[j]].map cH.dq) (eg.bV HM<|λk F=>⟨id,au (cn k F).1 o⟩) (λk F=>⟨bP<|(cn k F).1,(cn k F).2⟩) gi gv eb) (show∀i,I s.F E i->Steps i fromλi ht k f=>ht.u ((HT.bM cB cr) k f) cr.2<|bP cr.1) (show gG (yA N d [l[j]]<|(v.drop t).take<|q-t)/\sq 5 (yA N d [l[j]]<|(v.drop t).take<|q-t)/\(∀mb∈yA N d [l[j]] ((v.drop t).take<|q-t),mb.Good)/\y (yA N d [l[j]]<|(v.drop t).take<|q-t)<=3000000000 from vC gv jA eb gi) (show yA N d [l[j]] ((v.drop t).take<|q-t)=if d then kN (gw N<|eL<|gz ((v.drop t).take<|q-t)::[l[j]].map cH.dq)else gw N (eL<|gz ((v.drop t).take<|q-t)::[l[j]].map cH.dq)from rfl) V;generalize le:eL (gz ((v.drop t).take<|q-t)::[l[j]].map cH.dq)=ML at*;obtain⟨fb,cb⟩:=oh<|yA N d [l[j]]<|(v.drop t).take<|q-t;rw[cb]at ac co;have ev:=ak cb;obtain⟨hl,bm,er,ex,bT,hw⟩:=nU hO fu fv C (gE.aZ hB<|λ_ _ fd=>fd) fx;go_wp2_with fail
  apply il.mono;rintro F w1(⟨jI,rfl,P,aV,B⟩|⟨bc,q1,rfl,jk,aV,B⟩);rotate_left
  .have cj:I s.F ap w1:=(ex.aT (T:=s.F) cY).aj B<|λ_ h=>J h;have u:=(cj.A _ (az bl)<|ad _ U).trans bl;have q0:=aX u 0;have lE:=aX u 1;have q2:=aX u 2;have q3:=aX u 3;have g0:=cV (i:=0) u;have g1:=cV (i:=1) u;have g2:=cV (i:=2) u;have g3:=cV (i:=3) u;have av:=ak<|A0 bc jk aV ((HW.aT (T:=s.F) cY).aj cj<|λ_ h=>J h) u U<|ad _ U;go_wp2;obtain⟨r1,r2⟩:=av _ rfl;refine ci (qO z _ _ (G (H a)+1) aF aF aF aF _ _ z r1 ⟨_,_,_,z⟩ ⟨_,_,_,z⟩ ⟨_,_,_,z⟩ ⟨_,_,_,z⟩) z ?_;exact bu r2
  obtain⟨he,fg,rfl⟩:=aM P;have ip:=en.1 w1 _ he fg B P;have cm:=ak aV;have x:=ak B;go_wp2_with fail
  apply ip.mono;rintro F p⟨vn,rfl,ea,bh⟩;have ch:I s.F E p:=x.t bh;have hP:=s.l cm bh cY;obtain⟨xn,kc,rfl⟩:=aM ea;have V:=hr p ch;have hV:=en.2 p _ xn kc ea;have ko:=x.D;obtain⟨eq,Q,hD⟩:=eU hP ch ea;cases d;case' false=>
   obtain rfl:fb=gw N ML:=ag co;go_wp2_with fail
   apply V.mono;rintro F ek⟨rfl,jD⟩;subst ek;obtain⟨cp,aD,eo⟩:=eU (fj (base':=G<|H E) hD U) Q eq;generalize p=w5 at*
  case' true=>
   obtain rfl:fb=kN (gw N ML):=ag co;go_wp2_with fail
   apply V.mono;rintro F ek⟨rfl,jD⟩;subst ek;go_wp2_with fail
   apply hV.mono;rintro F w5⟨vb,rfl,gr,ha⟩;obtain⟨xn,kc,rfl⟩:=aM gr;obtain⟨cp,aD,eo⟩:=eU (fj (base':=G<|H E) gr<|bP Q.D) (Q.t ha)<|s.l eq ha cY
  all_goals
   have iv:=wM (dQ cp) ac.1 ac.2.1 ac.2.2.1 ac.2.2.2 (λk f=>(cp.lt k f).2)<|hx w5 aD;have hS:=ac.2.2.2;go_wp2_with fail
   apply iv.mono;rintro F w4⟨jI,tm,rfl,P,dc,dx,bh⟩;have B:I s.F E w4:=aD.t bh;have aV:=s.l eo bh cY;have dx:=dx.pQ (base':=G<|H E) aD.D;have P:=fj (base':=G<|H E) P aD.D;have ed:y tm<=3000000000:=by
    have h1:=cD y dc;rw[cS]at h1;rw[h1];exact aR (zM _) hS
   rw[<-ag ev]at dc;have bf:I s.F ap w4:=(ex.aT (T:=s.F) cY).aj B<|λ_ h=>J h;obtain⟨he,fg,rfl⟩:=aM P;have lx:=B.D;have hU:=(bf.A _ (az cl)<|ad _ o).trans cl;have u:=(bf.A _ (az bl)<|ad _ U).trans bl;have aa:∀k,cN (am jK jG hL)=M k\/cN (am el ej cs)=M k\/cN (am ka jH hM)=M k->k<c/\¬s.F k:=λk f=>H2.l k<|hw k f;have W:=N2 (v.take t) tm (v.drop q) (G<|H a) (B.bV bm.bV<|λk f=>⟨(aa k<|J f).2,bm.lt k f⟩) (λk f=>bP<|(aa k<|J f).1) (dQ P) (λk f=>(aS P k f).2) (B.bV er.bV<|λk f=>⟨(aa k<|bu<|bu f).2,er.lt k f⟩) (λk f=>bP<|(aa k<|bu<|bu f).1) dW U 106;obtain⟨D,cc⟩:=oh<|y<|v.take t++tm++v.drop q;rw[cc]at W;have et:=ak cc;have gg:=B.aZ bT<|λk f=>ad k<|bP<|((aS bT) k f).1;obtain⟨es,hA,cm,hG,hk,eA,eB⟩:=zY gg dx aV bf dc hU u;go_wp2_with fail
   apply W.mono;rintro F w5⟨v5,rfl,gn,an⟩;obtain⟨xm,ff,rfl⟩:=aM gn;have vT:=(an.A _ (az eA) id).trans eA;have A:=(an.A _ (az eB) id).trans eB;have p0:=aX vT 0;have f0:=cV (i:=0) vT;have q0:=aX A 0;have k0:=cV (i:=0) A;have p1:=aX vT 1;have f1:=cV (i:=1) vT;have q1:=aX A 1;have k1:=cV (i:=1) A;have p2:=aX vT 2;have f2:=cV (i:=2) vT;have q2:=aX A 2;have k2:=cV (i:=2) A;have p3:=aX vT 3;have f3:=cV (i:=3) vT;have q3:=aX A 3;have k3:=cV (i:=3) A;have av:=ak (show∀(i1 i2:R)(z1 z2 u0 u1 u2 u3:ae)(wf:Z),wf=cP (cP (cP (cP (cP (cP w5 (X (G<|H a) i1) z1) (X (G<|H a) i2) z2) (X (G (H a)+1) 0) u0) (X (G (H a)+1) 1) u1) (X (G (H a)+1) 2) u2) (X (G (H a)+1) 3) u3->wf.heap[G (H a)+1]?=M (aK #[u0,u1,u2,u3] 108 (0,0))/\fE wf (G<|H a) 235 1 (am xl nl fe) nl ((l.take j++l.drop j1).map cH.D)/\fE wf (G<|H a) 235 1 (am xm D ff) D ((v.take t++tm++v.drop q).map cH.D)/\sF wf (G<|H a) tm/\s.D wf/\I s.F a wf from by
    rintro i1 i2 z1 z2 u0 u1 u2 u3 wf rfl;have ls:((cP (cP w5 (X (G<|H a) i1) z1) (X (G<|H a) i2) z2)).heap[G (H a)+1]?=M (aK #[aF,aF,aF,aF] 108 (0,0)):=(kV _ U).trans<|(kV _ U).trans A;have bx:I (λk=>k=G (H a)\/k=G (H a)+1) w5 (cP (cP (cP (cP (cP (cP w5 (X (G<|H a) i1) z1) (X (G<|H a) i2) z2) (X (G (H a)+1) 0) u0) (X (G (H a)+1) 1) u1) (X (G (H a)+1) 2) u2) (X (G (H a)+1) 3) u3):=((((((I.bI _ w5).aL _ _ _<|J<|J z).aL _ _ _<|J<|J z).aL _ 0 _<|J<|bu z).aL _ 1 _<|J<|bu z).aL _ 2 _<|J<|bu z).aL _ 3 _<|J<|bu z;have hY:=DV (a':=u0) (b':=u1) (c':=u2) (d':=u3) ls;generalize cP (cP (cP (cP (cP (cP w5 (X (G<|H a) i1) z1) (X (G<|H a) i2) z2) (X (G (H a)+1) 0) u0) (X (G (H a)+1) 1) u1) (X (G (H a)+1) 2) u2) (X (G (H a)+1) 3) u3=wf at*;have ck:∀k,(k=G (H a)\/k=G (H a)+1)->∃hf,w5.heap[k]?=M (aK hf 108 (0,0)):=by
     rintro k(rfl|rfl)
     .exact⟨_,vT⟩
     .exact⟨_,A⟩
    have bg:∀{bk n xs},fE w5 (G<|H a) 235 1 bk n xs->fE wf (G<|H a) 235 1 bk n xs:=λkl=>bx.aZ kl (λk f fd=>by
     obtain⟨hf,dd⟩:=ck k fd;obtain⟨kz,gf⟩:=gh kl f;exact lk dd gf cg z)
    refine⟨hY,bg<|an.aZ es<|λ_ _ fd=>fd,bg gn,?_,s.l (s.l cm an cY) bx<|λk f=>ad k (by obtain fd|fd:=f<;>omega),?_⟩
    .refine((hA.aA an).dN bx<|λk f=>?_).pQ U;obtain⟨hf,dd⟩:=ck k f;exact⟨hf,_,_,dd,cg,cg,cg⟩
    .exact(((HW.aT (T:=s.F) cY).aj hG (λ_ h=>J h)).t an).aj bx (λk f=>bu (by obtain fd|fd:=f<;>omega)))
   go_wp2;obtain⟨r1,r2,r3,r4,r5,r6⟩:=av _ _ _ _ _ _ _ _ _ rfl;refine ci (qO z _ _ (G (H a)+1) _ _ _ _ _ _ z r1 ⟨_,_,_,z⟩ ⟨_,_,_,z⟩ ⟨_,_,_,z⟩ ⟨_,_,_,z⟩) z ?_;have dr:=ag HJ;subst dr;refine J ⟨xl,nl,fe,xm,D,ff,tm,j,hj,t,q,z,?_,?_,?_,hk,r4,r5,r6⟩
   .rw[ag ho,ag hq];exact hl
   .rw[ag hy];exact r2
   .rw[ag et];exact r3
structure PR(n:R)(rs:iG):Prop where
 JF:T4 rs
 o:∀r∈rs,gG r
 S:∀x∈rs.flatten,x.Good
 da:∀x∈rs.flatten,x.f<=n
def M0(h:S.Good):S.D≠⟨#[]⟩:=λe=>by
 have:=h.L;rw[e]at this;simp[ByteArray.size]at this
def PR.Hm(h:PR b O):∀x∈O.flatten,x.D≠⟨#[]⟩:=λx a=>M0<|h.S x a
def PR.Al(h:PR b O)(p:b<=c)(m:gG i)(l:∀x∈i,x.Good)(f:∀x∈i,(b:Y)<x.f)(e:∀x∈i,x.f<=c):PR c (i::O):=by
 refine⟨?_,?_,?_,?_⟩;unfold T4;rw[dp];refine⟨λr g n j o k _=>?_,h.JF⟩;have:=h.da o<|dO.2 ⟨r,g,k⟩;have:=f n j;omega;intro r g;obtain rfl|d:=dy.1 g;exact m;exact h.o r d;intro x a;rw[di,aP]at a;obtain d|d:=a;exact l x d;exact h.S x d;intro x a;rw[di,aP]at a;obtain d|d:=a;exact e x d;have:=h.da x d;omega
def lM(a b c d:dI):iG:=(a.map cH.dq).reverse++[gz b,gz c,gz d]
def pR(h:l.map cH.dq=jq i):gz l=i:=by
 unfold gz;rw[h];exact yr i
def PR.bV(h:PR b O):∀r∈O,vS r:=λr a=>⟨h.o r a,λe c=>h.Hm e<|dO.2 ⟨r,a,c⟩⟩
theorem M9{α:Type}(l:cy α)(j:R)(h:j<y l):l=l.take j++[l[j]]++l.drop (j+1):=by
 rw[cw,mH,mh,du]
theorem o6{α:Type}(l:cy α){p q:R}(h:p<=q):l=l.take p++(l.drop p).take (q-p)++l.drop q:=by
 rw[cw,(by rw[List.drop_drop];congr 1;omega:l.drop q=(l.drop p).drop (q-p)),du,du]
def EZ(h:((l++v).map cH.dq).Pairwise lJ):lJ (gz l) (gz v):=by
 rw[bz,eH]at h;intro x f c g;let⟨s,d,a⟩:=lZ.1 f;let⟨t,e,b⟩:=lZ.1 g;exact h.2.2 _ (uj d) _ (uj e) x a c b
def uL(h:l.map cH.dq=jq i)(p:∀t∈l,B8 a b t)(n:gG i)(f:sq 5 i)(s:∀x∈i,x.Good):∀t∈l,To t.ks t.cs/\nz (dK 0 t.cs)/\t.ks=dK 0 t.cs/\y t.dq<=100:=by
 intro t q;let⟨r,g,x,j,k⟩:=p t q;have m:t.dq∈jq i:=by rw[<-h];grind
 have o:=Jz f _ m;have c:=DS m;have e:=GL i _ m;have d:∀x∈t.dq,x.Good:=aI;refine⟨?_,k.f.jW e d (n.kE c) o,k.ks,o⟩;rw[k.ks];exact k.f.ub e d<|n.kE c
def AH(h:l.map cH.dq=jq i)(f:∀t∈l,B8 a b t)(d:gG i)(c:sq 5 i)(e:∀x∈i,x.Good):ma l:=⟨λt g=>(uL h f d c e t g).1.zy,pR h▸d,h▸RY d⟩
def vQ.fl(h:vQ L O):kH (iR L) (iq L)=bD:=by
 let⟨x,a,e⟩:=h.p;rw[<-e];exact h.D a
def Qn(h:∀t∈l,vQ t.ks t.cs)(a:wW l):∀(d i:R)(b:i+1+d<y l),kH (iR (l[i]'U).ks) (iq (l[i+1+d]).ks)=cz
 |0,i,b=>a i b
 |d+1,i,b=>mz (BT (Qn h a d i U) (h _<|aB<|show i+1+d<y l by omega).fl)<|a (i+1+d) U
def Rk(h:∀t∈l,vQ t.ks t.cs)(j:wW l):ma l:=by
 have d:(l.map cH.dq).Pairwise lJ:=by rw[List.pairwise_map];refine cW.2 λp r m e n x a c b=>?_;obtain⟨f,rfl⟩:∃f,r=p+1+f:=⟨r-p-1,U⟩;have g:=(h _<|aB m).D a;have i:=(h _<|aB e).xU b;exact BT (TZ g<|Qn h j f p e) i
 refine⟨h,?_,d⟩;refine sH.2 ⟨λs k=>?_,d.imp λq x a c b=>iT.2<|J<|q x a c b⟩;obtain⟨t,o,rfl⟩:=cC.1 k;exact(h t o).o
section
open Shelf
def OZ:Go.Shelf.Ren:=⟨λ|190=>63|125=>114|258=>113|128=>172|129=>173|302=>163|303=>164|304=>165|305=>166|306=>167|307=>168|308=>169|309=>170|310=>171|333=>232|329=>233|330=>234|334=>235|335=>236|336=>237|344=>272|n=>n,λ|31=>81|9=>9|3=>3|46=>68|0=>0|51=>97|53=>104|4=>4|183=>302|182=>301|131=>307|5=>5|218=>372|222=>375|228=>413|229=>128|n=>n,λ|n=>n⟩
def Tryz.lays190:Go.Proofs.Lays.n190 bN OZ:={mixed:=by kernel_rfl,f125:=func114.trans (cD M<|by kernel_rfl),f128:=func172.trans (cD M<|by kernel_rfl),f129:=func173.trans (cD M<|by kernel_rfl),f190:=func63.trans (cD M<|by kernel_rfl),f258:=func113.trans (cD M<|by kernel_rfl),f302:=func163.trans (cD M<|by kernel_rfl),f303:=func164.trans (cD M<|by kernel_rfl),f304:=func165.trans (cD M<|by kernel_rfl),f305:=func166.trans (cD M<|by kernel_rfl),f306:=func167.trans (cD M<|by kernel_rfl),f307:=func168.trans (cD M<|by kernel_rfl),f308:=func169.trans (cD M<|by kernel_rfl),f309:=func170.trans (cD M<|by kernel_rfl),f310:=func171.trans (cD M<|by kernel_rfl),f329:=func233.trans (cD M<|by kernel_rfl),f330:=func234.trans (cD M<|by kernel_rfl),f333:=func232.trans (cD M<|by kernel_rfl),f334:=func235.trans (cD M<|by kernel_rfl),f335:=func236.trans (cD M<|by kernel_rfl),f336:=func237.trans (cD M<|by kernel_rfl),f344:=func272.trans (cD M<|by kernel_rfl),t0:=underlying0,a0:=isAgg0,z0:=sizeOf0,v0:=zeroValue0,t3:=underlying3,a3:=isAgg3,z3:=sizeOf3,v3:=zeroValue3,t4:=underlying4,a4:=isAgg4,z4:=sizeOf4,v4:=zeroValue4,t5:=underlying5,a5:=isAgg5,z5:=sizeOf5,v5:=zeroValue5,t9:=underlying9,a9:=isAgg9,z9:=sizeOf9,v9:=zeroValue9,t31:=underlying81,a31:=isAgg81,z31:=sizeOf81,v31:=zeroValue81,t46:=underlying68,a46:=isAgg68,z46:=sizeOf68,v46:=zeroValue68,t51:=underlying97,a51:=isAgg97,z51:=sizeOf97,v51:=zeroValue97,t53:=underlying104,a53:=isAgg104,z53:=sizeOf104,v53:=zeroValue104,t131:=underlying307,a131:=isAgg307,z131:=sizeOf307,v131:=zeroValue307,t182:=underlying301,a182:=isAgg301,z182:=sizeOf301,v182:=zeroValue301,t183:=underlying302,a183:=isAgg302,z183:=sizeOf302,v183:=zeroValue302,t218:=underlying372,a218:=isAgg372,z218:=sizeOf372,v218:=zeroValue372,t222:=underlying375,a222:=isAgg375,z222:=sizeOf375,v222:=zeroValue375,t228:=underlying413,a228:=isAgg413,z228:=sizeOf413,v228:=zeroValue413,t229:=underlying128,a229:=isAgg128,z229:=sizeOf128,v229:=zeroValue128}
def strs(a:cy af):iF:=a.map Value.string
def LI(w:Z):cR bN 173 #[bw 0] w λe a=>e=aN (ay 0)/\a=w:=by
 go_in
 go_wp2;go_ret;exact⟨by simp;kernel_rfl,z⟩
def Su(w:Z):cR bN 114 #[bw 0] w λe a=>e=aN (ay 0)/\a=w:=by
 have h:=LI w;go_in
 go_wp2_with(go_at_call 173;refine h.mono ?_;rintro e a⟨rfl,rfl⟩)
 go_wp2;go_ret;exact⟨z,z⟩
def LU(w:Z):cR bN 163 #[aF,ay 0,ay 0] w λe a=>e=aN (de #[])/\a=w:=by
 go_in
 go_wp2;refine iX 1 ?_;rw[io];go_wp2;go_end0;exact⟨z,z⟩
def Yr(w:Z):cR bN 113 #[aF,ay 0,ay 0,ay 0] w λe a=>e=aN (de #[])/\a=w:=by
 have h:=LU w;go_in
 go_wp2;refine iX 1 ?_;rw[io];go_wp2_with fail
 apply h.mono;rintro e a⟨rfl,rfl⟩;go_wp2;refine ci (jc z _ _ _) z ?_;exact⟨z,z⟩
def UT(w:Z):cR bN 63 #[aF] w λe a=>e=aN (de #[])/\a=w:=by
 have h:=Yr w;have b:=Su w;go_in
 go_wp2_with(first|(go_at_call 114;refine b.mono ?_;rintro e a⟨rfl,rfl⟩)|(go_at_call 113;refine h.mono ?_;rintro e a⟨rfl,rfl⟩))
 go_wp2;go_end0;exact⟨z,z⟩
def XV(c:cy af)(S:fE a b 9 1 d (y c) (strs c))(hn:y c<=1000000000000):cR bN 63 #[d] a λE D=>E=aN (de #[])/\∃Q:cy af,Q.Perm c/\fE D b 9 1 d (y Q) (strs Q)/\I (λC=>cN d=M C) a D:=by
 obtain⟨rfl,h0⟩|⟨v,u,g,rfl,F,w,P,K,L,q⟩:=S.2;apply(UT a).mono;rintro E D⟨rfl,rfl⟩;exact⟨z,c,pA _,S,I.bI _ _⟩;obtain⟨s,p⟩:=oh<|c.map<|λV=>V.data.toList;(have o:y s=y c:=by rw[<-p,cS]);(have e:∀j(l:j<y c),g[j]?=M (aw c[j]):=by intro j l;(have t:(g.toList.take<|y c*1)[j]?=(strs c)[j]?:=by rw[q]);rw[tH,qx l]at t;rw[<-sM,t];simp[strs,l]);(have W:Go.Sort.Holds encStr a v 0 s.toArray:=by intro j l;(have x:j<y c:=by simpa[o]using l);have N:j<y s:=U;refine⟨?_,by simp[World.frozen?,w]⟩;rw[ez,cE w,e j x];(have:s.toArray[j]! =c[j].data.toList:=by rw[getElem!_pos _ j<|dV N];simp[<-p]);rw[this]);have h:=Any.slices_Sort_string Tryz.lays190 v 0 u s a W (az w) U;rw[o]at h;apply h.mono;rintro E D⟨rfl,aa,B,rfl⟩;obtain⟨k,A⟩:=oh<|s.mergeSort<|λx a=>decide<|x<=a;(have f:k.Perm s:=by rw[<-A];exact List.mergeSort_perm _ _);rw[A];(have r:y k=y c:=by rw[f.length_eq,o]);(have m:(Go.Sort.grow (Go.Sort.putRow encStr (Go.Sort.ahead a aa) v 0 k.toArray) B).heap[v]?=M (aK (Go.Sort.putCells encStr 0 k.toArray g) 9 (0,0)):=by show((a.heap.modify v _)++B)[v]?=_;rw[pF (by simp;exact az w),sN,fW z,w];rfl);(have i:∀C,C<G (H a)->C≠v->(Go.Sort.grow (Go.Sort.putRow encStr (Go.Sort.ahead a aa) v 0 k.toArray) B).heap[C]?=a.heap[C]?:=by intro C O n;show((a.heap.modify v _)++B)[C]?=_;rw[pF (by simp;exact O),sN,fN<|λE=>n E.symm]);refine⟨z,k.map<|λT=>⟨T.toArray⟩,?_,⟨by simp[strs],bu ⟨v,u,_,by rw[cS,r],F,m,by rw[cS,r];exact P,K,by simpa[Go.Sort.putCells]using L,?_⟩⟩,z,z,z,?_,?_⟩;have t:=f.map (λT:cy UInt8=>(⟨T.toArray⟩:af));rw[<-p,iW]at t;(have x:c.map ((λT:cy UInt8=>(⟨T.toArray⟩:af))∘λV=>V.data.toList)=c:=by(conv=>rhs;rw[<-wg c]);apply qh;intro V _;simp);rw[x]at t;exact t;apply wi;intro j;rw[cS,r,tH];by_cases l:j<y c;rw[qx l];have x:j<y k:=U;(have:(Go.Sort.putCells encStr 0 k.toArray g).toList[j]?=M (aw ⟨k[j].toArray⟩):=by rw[sM];unfold Go.Sort.putCells;rw[Array.getElem?_mapIdx,e j l];simp[x,encStr]);rw[this];simp[strs,x];rw[List.getElem?_take_eq_none U,mI (by simp[strs];omega)];show G (H a)<=((a.heap.modify v _)++B).size;simp;intro C O n;exact i C O<|λE=>n (by rw[E];rfl)
end
def BU:(prog.info? 9).map (λi=>(i.zero,i.size,i.bytes))=M (M<|aw ⟨#[]⟩,1,16):=aH
def DA(a:cy af)(n:af):strs (a++[n])=strs a++[aw n]:=by simp[strs]
def CK{db:R}{K:DK}{w:Z}(h:cJ w db K)(hn:y K.ah<=900000000000):cR bN 22 #[aJ db] w λan w'=>∃v' a,an=aN v'/\List.Perm a (K.ah.map dj.dA)/\fE w' (G<|H w) 9 1 v' (y a) (strs a)/\I aC w w':=by
 let⟨i0,Q,aa,ab,ac⟩:=cZ BU;have av:=aX h.S 0;have g:=ak h.l;go_in
 go_wp2_with(first
  |(at_range;refine oK _ z _ 86 z 9 90 underlying86 K.nb _ z g ?_;intro w0 v P aU;have E:=ak v;have q:=ak P))
 go_frame
 go_loopw [3] (λo wr=>∃(al:cy dj)(a:cy af),(a++al.map dj.dA).Perm (K.ah.map dj.dA)/\fE wr (G<|H w) 9 1 o (y a) (strs a)/\cN o≠M (G<|H w)/\qg wr K.nb (G<|H w) (K.ah.map dj.nm) (al.map dj.nm)/\I aC w wr) (λ_ wr=>wr.rangeLeft K.nb<|G<|H w)
 exact⟨K.ah,[],pA _,ct _ _ _ _,(by simp[cN]),E,I.eF q ar⟩
 .let⟨al,a,V,D,l,u,ht⟩:=hrel;have aD:y a<=900000000000:=zZ V.length_eq;let⟨o,n,T⟩:=aM D;subst T;go_wp2_with(first
   |(at_next;refine ot _ z _ z K.nb (G (H w)) _ _ z u ?_ ?_))
  .intro c;obtain rfl:al=[]:=dV c;have b:=XV a D U;go_wp21;go_call b as an m⟨rfl,j,f,e,i⟩;clear b;go_wp2;go_ret;refine⟨_,j,z,?_,e,ht.aj i<|λk d=>bu (D.lt k d).1⟩;have:=V;simp only[gB,eu]at this;exact f.trans this
  .intro aV pk pv ad p C c t W ax;obtain⟨bc,ap,bd,rfl,rfl,B,rfl⟩:=zO C;simp only[dj.nm,lq,jt]at B;obtain⟨rfl,rfl⟩:=B;have m:I (λk=>k=G (H w)) wr p:=gI t;have A:=m.aZ D (λk d O=>l<|by rw[d,O]);have x:=c.lt;let⟨F,r,j⟩:=eU c (ht.aj m ar) A;have:K.nb≠G (H w):=λan=>c.ne an.symm;have:K.nb<G (H w):=g.lt;clear C c t W m A;go_wp2_with(first
    |(at_builtin;go_loud(refine cq _ z (.tmp 14) (.tmp 16) 81 z (G (H w)) 9 i0 (.string ⟨#[]⟩) 1 16 underlying81 Q aa ab ac z cg (.slice o (y a) n) (y a) (strs a) z (bC j (.cells #[.string ap.dA] 9)) (X (G (H p)) 0) 1 1 [.string ap.dA] z z (pP _ _ _) (by simp[Value.oneCell']) U U (by have:=r.D;simp;omega) ?_;intro v2 w3 b i;obtain⟨bb,ba,rfl⟩:=aM b;have N:=ak b;have s:=ak i;clear b i)))
   have L:=ak (show qg w3 K.nb (G<|H w) (K.ah.map dj.nm) (bc.map dj.nm++bd.map dj.nm)from by
    have f:=ag s;have e:I (λk=>cN (am o (y a) n)=M k) p w3:=((I.bI (λk=>cN (am o (y a) n)=M k) p).aE _).aj (I.eF (S:=λk=>cN (am o (y a) n)=M k) f.dF (λk d=>J d)) (λk d=>J d);refine F.qT (e.A _ U (λO=>?_)) (e.A _ x (λO=>l O));have:=(j.lt _ O).1;omega)
   go_roundw
   .have f:=ag s;have e:I (λk=>cN (am o (y a) n)=M k) p w3:=((I.bI (λk=>cN (am o (y a) n)=M k) p).aE _).aj (I.eF (S:=λk=>cN (am o (y a) n)=M k) f.dF<|λk d=>J d)<|λk d=>J d;refine⟨bc++bd,a++[ap.dA],?_,?_,?_,?_,?_⟩
    .refine List.Perm.trans ?_ V;rw[cw];refine sL _ ?_;grind[singleton_append,Perm.symm,perm_middle]
    .rw[DA,ai];exact N
    .obtain ao|⟨bf,ao,hg⟩:=f.f
     .rw[ao];exact l
     .rw[ao];intro O;cases O;simp at hg;omega
    .rwa[bz]
    .exact r.aj e<|λk d=>bu (j.lt k d).1
   .rw[(ag L).oO,u.oO];simp
structure C8(w0 w:Z)(x:R)(ob:Obj)(o:ae)(bs:eD):Prop where
 aZ:fA w (G<|H w0) o bs
 g:w.heap[x]?=M ob
 ne:cN o≠M x
 aA:I aC w0 w
def C8.lB{j:Obj}{c:eD}(h:C8 a e b j d m)(i:fo e P d w)(l:fA P (G<|H a) w c):C8 a P b j w c:=by
 have f:=az h.g;have g:=I.fV i;refine⟨l,(g.A b f h.ne).trans h.g,λk=>?_,h.aA.aj g<|λq k=>bu (h.aZ.lt q k).1⟩;obtain n|⟨o,n,p⟩:=i.f;exact h.ne<|n.symm.trans k;grind
def IW(t:cH):eD:=le 8 t.cK++(le 4 (jN t.ks)++(le 4 (y<|iE t.ks)++le 4 (pu<|iE t.ks)))
def uD(a:dI):eD:=le 4 (y a)++a.flatMap IW
def mj(next b a:Y)(c:cy dI):eD:=ik<|le 8 next++le 8 b++le 8 a++(c.map uD).flatten
def PM(t:cH):y (IW t)=20:=by simp[IW,dh]
theorem tW(a:dI):y (uD a)=4+20*y a:=by
 unfold uD;rw[ai,dh];induction a with
 |nil=>rfl
 |cons t r b=>rw[dR,ai,PM,bK];omega
structure cH.A(t:cH):Prop where
 cK:t.cK<18446744073709551616
 d:jN t.ks<4294967296
 i:y (iE t.ks)<4294967296
def VG(a:dI)(n j:R)(h:n<y a)(c:j<4):(fY a)[n*4+j]?=(cH.t a[n])[j]?:=by
 have:∀(l:dI),y (fY l)=y l*4:=by
  intro l;induction l with
  |nil=>rfl
  |cons t r b=>unfold fY at*;rw[dR,ai,b];simp[cH.t];omega
 have:fY a=fY (a.take n)++(cH.t a[n]++fY (a.drop<|n+1)):=by(have b:a=a.take n++a[n]::a.drop (n+1):=by rw[<-dm h,du]);rw[(cD fY b:fY a=fY (a.take n++a[n]::a.drop (n+1)))];unfold fY;rw[gS,dR]
 grind
def SQ(next g b:Y)(C D E F:Option Addr)(t c1 c2 c3:R)(m0 m1 m2 m3:dI)(hT:Steps a)(r0:Row a 4 (am C (y m0) t) (y m0) (fY m0))(r1:Row a 4 (am D (y m1) c1) (y m1) (fY m1))(r2:Row a 4 (am E (y m2) c2) (y m2) (fY m2))(r3:Row a 4 (am F (y m3) c3) (y m3) (fY m3))(b0:∀k,cN (am C (y m0) t)=M k->k<G (H a))(b1:∀k,cN (am D (y m1) c1)=M k->k<G (H a))(b2:∀k,cN (am E (y m2) c2)=M k->k<G (H a))(b3:∀k,cN (am F (y m3) c3)=M k->k<G (H a))(k0:∀ac∈m0,ac.A)(k1:∀ac∈m1,ac.A)(k2:∀ac∈m2,ac.A)(k3:∀ac∈m3,ac.A)(hn:0<=next/\next<18446744073709551616)(hl:0<=g/\g<18446744073709551616)(hb:0<=b/\b<18446744073709551616)(hs:y m0+y m1+y m2+y m3<=3000000000):cR bN 260 #[ef #[bw next,bw g,bw b,am C (y m0) t,am D (y m1) c1,am E (y m2) c2,am F (y m3) c3]] a λK w'=>∃v',K=aN v'/\fA w' (G<|H a) v' (mj next g b [m0,m1,m2,m3])/\I aC a w':=by
 let⟨O,Q⟩:∃O:Obj,O=aK #[bw next,bw g,bw b,am C (y m0) t,am D (y m1) c1,am E (y m2) c2,am F (y m3) c3] 161:=⟨_,rfl⟩;have d:∀(bh:Z)(aa:R)(bg:ae),bh.heap[G<|H a]?=M O->(#[bw next,bw g,bw b,am C (y m0) t,am D (y m1) c1,am E (y m2) c2,am F (y m3) c3]:Array ae)[aa]?=M bg->bA bh (X (G<|H a) aa)=M bg:=by grind[cE]
 have hA0:C8 a (dw a O) (G<|H a) O aF []:=⟨fA.km _ _,aQ _ z,(by intro K;cases K),(cI _ a)⟩;have p1:=rj next hA0.aZ hA0.aA.D ar hn.1 hn.2
 rw[Q]at p1;go_in
 go_wp21;go_call p1 as K w1⟨v1,rfl,an,W⟩;rw[<-Q]at W;have hA1:=hA0.lB W an;have:=d w1 1 _ hA1.g z;go_wp21;go_call(rj g hA1.aZ hA1.aA.D (by simp[dh]) hl.1 hl.2)as K w2⟨v2,rfl,ao,aV⟩;have hA2:=hA1.lB aV ao;have:=d w2 2 _ hA2.g z;go_wp21;go_call(rj b hA2.aZ hA2.aA.D (by simp[dh]) hb.1 hb.2)as K w3⟨v3,rfl,ap,ba⟩;have hA3:=hA2.lB ba ap;have:=d w3 3 _ hA3.g z;have:=d w3 4 _ hA3.g z;have:=d w3 5 _ hA3.g z;have:=d w3 6 _ hA3.g z;have N:=ak hA3.aZ;let⟨e,j⟩:∃e,(([]++le 8 next)++le 8 g)++le 8 b=e:=⟨_,rfl⟩;have:y e=24:=by rw[<-j];simp[dh]
 rw[j]at N;go_wp2;go_loopw [3,21] (λbm aa wr=>∃k:R,k<=4/\aa=ay k/\fA wr (G<|H a) bm (e++(([m0,m1,m2,m3].take k).map uD).flatten)/\I aC a wr) (λ_ aa _=>4-(intOf aa).toNat)
 exact⟨0,bQ _,z,dV<|ag N,(ak hA3.aA)⟩;(.obtain⟨k,hk,rfl,l,s⟩:=hrel;have V:=s.D;have T:=l.lt;(have u:∀k,y (e++(([m0,m1,m2,m3].take k).map uD).flatten)<=90000000000:=by intro k;(have h1:y ((([m0,m1,m2,m3].take k).map uD).flatten)<=y ((([m0,m1,m2,m3]).map uD).flatten):=by grind[Sublist.length_le,flatten_append,take_append_drop,sublist_append_left]);grind[tW,length_append]);obtain al|al:=iU k 4;(·(let⟨c,j4,cM,HR,HB,HK,bk,x,bl⟩:∃(c:dI)(j4:Option Addr)(cM:R),Hid (Row a 4 (am j4 (y c) cM) (y c)<|fY c)/\Hid (∀k,cN (am j4 (y c) cM)=M k->k<G (H a))/\Hid (∀ac∈c,ac.A)/\y c<=3000000000/\e++(([m0,m1,m2,m3].take<|k+1).map uD).flatten=(e++(([m0,m1,m2,m3].take k).map uD).flatten)++uD c/\∀bh,(Instr.index 159 (ef #[am C (y m0) t,am D (y m1) c1,am E (y m2) c2,am F (y m3) c3])<|ay k).run bN bh=.ok (am j4 (y c) cM) bh:=by obtain rfl|rfl|rfl|rfl:=(U:k=0\/k=1\/k=2\/k=3);exact⟨m0,C,t,r0,b0,k0,U,ar,λ_=>aH⟩;exact⟨m1,D,c1,r1,b1,k1,U,ar,λ_=>aH⟩;exact⟨m2,E,c2,r2,b2,k2,U,ar,λ_=>aH⟩;exact⟨m3,F,c3,r3,b3,k3,U,ar,λ_=>aH⟩);have:(k:Y)<4:=U;have:=u k;have:=u<|k+1;generalize e++(([m0,m1,m2,m3].take k).map uD).flatten=P at*;have:=vr (n:=(y c:R)) U U;go_wp21;go_call(kU (y c:R) l V U U U)as K w4⟨v4,rfl,v,A⟩;go_wp2;(go_loopw [3,31] (λbm aa wr=>∃q:R,q<=y c/\aa=ay q/\fA wr (G<|H a) bm ((P++le 4 (y c:R))++(c.take q).flatMap IW)/\I aC a wr) (λ_ aa _=>y c-(intOf aa).toNat));exact⟨0,bQ _,z,dV v,(ak<|s.aj (I.fV A)<|λab S=>bu (T ab S).1)⟩;obtain⟨q,hq,rfl,f,i⟩:=hrel;have:=i.D;by_cases r:q<y c;(.obtain⟨_,⟨hx,h0⟩|⟨bi,B,cc,hx,_,hc⟩⟩:=ag HR;omega;cases hx;have hg:∀ab bg,ab<4->(cH.t c[q])[ab]?=M bg->bA wr (X bi<|B+q*4+ab)=M bg:=λab bg S b=>i.u (by rw[bJ];exact hc _ _<|(VG c q ab r S).trans b) id (HB bi z:bi<G (H a));have w:=HK _<|aB r;(have:y ((P++le 4 (y c:R))++(c.take q).flatMap IW)<=200000000000:=by have h1:=tW<|c.take q;unfold uD at h1;rw[ai,dh]at h1;(have:y (c.take q)<=3000000000:=by simp;omega);simp only[ai,dh];omega);have ad:=ak (show((P++le 4 (y c:R))++(c.take q).flatMap IW)++(le 8 (c[q].cK:R)++(le 4 (jN c[q].ks)++(le 4 (y<|iE c[q].ks)++le 4 (pu<|iE c[q].ks))))=(P++le 4 (y c:R))++(c.take<|q+1).flatMap IW from by rw[aG r,gS,<-cw];simp[IW]);have g0:=hg 0 _ U z;have g1:=hg 1 _ U z;have g2:=hg 2 _ U z;have g3:=hg 3 _ U z;have:=w.cK;have:=w.d;have:=w.i;have o4:=Ii<|iE c[q].ks;have o5:=Mo<|iE c[q].ks;simp only[mf]at g0 g1 g2 g3;generalize c[q].cK=y0 at*;generalize(jN c[q].ks)=y1 at*;generalize y (iE c[q].ks)=y2 at*;generalize pu (iE c[q].ks)=y3 at*;generalize((P++le 4 (y c:R))++(c.take q).flatMap IW)=B0 at*;have hE:C8 a (dw wr<|aK #[bw y0,eI y1,eI y2,eI y3] 234) (G<|H wr) (aK #[bw y0,eI y1,eI y2,eI y3] 234) u3 B0:=⟨f.aE _,aQ _ z,λK=>bP<|(f.lt _ K).2,i.aE _⟩;have z1:=rj (y0:R) hE.aZ hE.aA.D U U U;go_wp21;go_call z1 as K w5⟨v5,rfl,av,bb⟩;have m:=hE.lB bb av;have:=aX m.g 1;have z2:=kU (y1:R) m.aZ m.aA.D (by rw[ai,dh];omega) U U;go_wp21;go_call z2 as K w6⟨v6,rfl,ax,bc⟩;have o:=m.lB bc ax;have:=aX o.g 2;have z3:=kU (y2:R) o.aZ o.aA.D (by simp only[ai,dh];omega) U U;go_wp21;go_call z3 as K w7⟨v7,rfl,aD,bd⟩;have p:=o.lB bd aD;have:=aX p.g 3;have z4:=kU y3 p.aZ p.aA.D (by simp only[ai,dh];omega) o4 o5;go_wp21;go_call z4 as K w8⟨v8,rfl,aU,bf⟩;have L:=ak<|p.lB bf aU;go_wp2;go_roundw;refine⟨q+1,r,dM,?_,L.aA⟩;rw[<-ag ad];simpa using L.aZ;simp[intOf];omega);have m:q=y c:=U;subst m;rw[cQ]at f;go_wp2;go_roundw;refine⟨k+1,U,dM,?_,i⟩;rw[x];unfold uD;simpa using f;simp[intOf];omega);(.obtain rfl:k=4:=U;have:((4:R):Y)=4:=rfl;have c:=Gr (hT.dD (s.dD (aq _) cY) hT.lt) l V<|bP<|u 4;go_wp21;go_call c as K w4⟨v4,rfl,v,A⟩;go_wp2;go_ret;refine⟨_,z,?_,(ak<|s.aj (I.fV A)<|λab S=>bu (T ab S).1)⟩;have h:=v;unfold mj ik;rwa[(by rw[<-j];simp:e++(([m0,m1,m2,m3].take 4).map uD).flatten=le 8 next++le 8 g++le 8 b++([m0,m1,m2,m3].map uD).flatten)]at h))
def Wq(c:eD)(h:fp N B=dE):sk (N++[(B,c)]) B=N:=by
 induction N with
 |nil=>simp[sk]
 |cons g r b=>
  let⟨a,d⟩:=g;by_cases e:a=B
  .simp[fp,e]at h
  .simp[fp,e]at h;simp[sk,e,b h]
def Wb(next c b:Y)(d:cy dI):kj (mj next c b d):=by
 unfold mj ik;refine(kj.jO ?_ ?_).jO<|kj.le 4 _;exact((kj.le 8 _).jO<|kj.le 8 _).jO<|kj.le 8 _;intro x a;let⟨l,e,a⟩:=dO.1 a;obtain⟨f,_,rfl⟩:=cC.1 e;unfold uD at a;obtain a|a:=aP.1 a;exact kj.le 4 _ x a;let⟨t,_,a⟩:=pV.1 a;unfold IW at a;simp only[aP]at a;obtain a|a|a|a:=a;exact kj.le 8 _ x a;exact kj.le 4 _ x a;exact kj.le 4 _ x a;exact kj.le 4 _ x a
def vt(a:eD):cy qG:=[.cr kF,.ap kF a,.sy kF]++[.rn kF fm]++[.sd]
def nR{l m:cy qG}(h:mu (l++m) f x):∃a,mu l f a/\mu m a x:=by
 induction l generalizing f with
 |nil=>exact⟨f,⟨z,z,z⟩,h⟩
 |cons o l i=>
  let⟨a,c,d⟩:=h;let⟨b,e,g⟩:=i d;exact⟨b,⟨a,c,e⟩,g⟩
def Yh(g:R)(K:DK)(next c b:Y)(x0 x1 x2 x3:Option Addr)(F c1 c2 c3:R)(m0 m1 m2 m3:dI)(hT:Steps a)(r0:Row a 4 (am x0 (y m0) F) (y m0) (fY m0))(r1:Row a 4 (am x1 (y m1) c1) (y m1) (fY m1))(r2:Row a 4 (am x2 (y m2) c2) (y m2) (fY m2))(r3:Row a 4 (am x3 (y m3) c3) (y m3) (fY m3))(b0:∀C,cN (am x0 (y m0) F)=M C->C<G (H a))(b1:∀C,cN (am x1 (y m1) c1)=M C->C<G (H a))(b2:∀C,cN (am x2 (y m2) c2)=M C->C<G (H a))(b3:∀C,cN (am x3 (y m3) c3)=M C->C<G (H a))(k0:∀bb∈m0,bb.A)(k1:∀bb∈m1,bb.A)(k2:∀bb∈m2,bb.A)(k3:∀bb∈m3,bb.A)(hn:0<=next/\next<18446744073709551616)(hl:0<=c/\c<18446744073709551616)(hb:0<=b/\b<18446744073709551616)(hs:y m0+y m1+y m2+y m3<=3000000000)(k:cJ a g K)(bd:y K.l<=900000000000)(e:qu K.fx):cR bN 203 #[aJ g,ef #[bw next,bw c,bw b,am x0 (y m0) F,am x1 (y m1) c1,am x2 (y m2) c2,am x3 (y m3) c3]] a λL B=>wU a B g K (vt<|mj next c b [m0,m1,m2,m3]) L:=by
 let⟨aa,p⟩:∃aa,dw a (aK #[bw next,bw c,bw b,am x0 (y m0) F,am x1 (y m1) c1,am x2 (y m2) c2,am x3 (y m3) c3] 161)=aa:=⟨_,rfl⟩;have N:I aC a aa:=p▸(cI _ a);have T:Steps aa:=p▸hT.aE _;have d:∀{v n xs},Row a 4 v n xs->(∀C,cN v=M C->C<G (H a))->Row aa 4 v n xs:=λb c=>N.bV b aI;have hz:=N.D;have ax:=SQ next c b x0 x1 x2 x3 F c1 c2 c3 m0 m1 m2 m3 T (d r0 b0) (d r1 b1) (d r2 b2) (d r3 b3) aI aI aI aI k0 k1 k2 k3 hn hl hb hs
 have O:=Wb next c b [m0,m1,m2,m3]
 have S:y (mj next c b [m0,m1,m2,m3])<=60000001000/\0<y (mj next c b [m0,m1,m2,m3]):=by unfold mj;rw[iB];simp only[ai,dh,bO,gB,di,jF,eE,tW];omega
 have av:=λl(v1:ae)(ht:I aC aa l)(ho:fA l (G<|H aa) v1 (mj next c b [m0,m1,m2,m3]))=>show∃bc ap,v1=bX bc 0 (y<|mj next c b [m0,m1,m2,m3]) ap/\cR bN 258 #[aJ g,aw kF,v1] l λL B=>wU l B g K [.cr kF,.ap kF<|mj next c b [m0,m1,m2,m3],.sy kF] L from by obtain⟨bc,ap,rfl,a1,a2,_⟩:=vy ho S.2;have aD:I aC a l:=N.t ht;exact⟨bc,ap,z,Nb (db:=g) (K:=K) kF bc 0 ap (w:=l) (k.aA aD<|λ_ _=>id) U e U O (Bytes.bU<|fA.bB ho) a2 (λb=>bP<|k.lt _ b) Si⟩
 generalize mj next c b [m0,m1,m2,m3]=SB at*
 have r:∀o f,cJ o g f->Fx K.fx f.fx->mu [.cr kF,.ap kF SB,.sy kF] K f->cR bN 261 #[aJ g,aw kF,aw fm] o λL B=>wU o B g f [.rn kF fm] L:=by intro o f t aD u;have:=AL u;exact Vk kF fm t (λ_=>aD.D e) cg (by simp at this;omega) Si
 have j:∀o f,cJ o g f->mu ([.cr kF,.ap kF SB,.sy kF]++[.rn kF fm]) K f->cR bN 112 #[aJ g] o λL B=>wU o B g f [.sd] L:=by intro o f t u;have:=AL u;exact Gc t (by simp at this;omega)
 have i:=ak k.L;have ab:=ak<|λl(ht:I aC aa l)=>(pT.bI k).bH<|N.t ht;let⟨E,s,ao⟩:=eU r j p;clear hT r0 r1 r2 r3 b0 b1 b2 b3 k0 k1 k2 k3 hn hl hb k e N T d hz O S r j p;go_in
 go_wp21;rw[ag ao];go_call ax as L l⟨v1,rfl,aU,V⟩;obtain⟨bc,ap,rfl,W⟩:=av l v1 V aU;have ac:=ak<|ab l V;unfold kF at W;go_wp21;go_call W as L o⟨v2,f,rfl,w⟩;have A:=vU.t i ac (show mu [] K K from⟨z,z,z⟩) w;obtain⟨rfl,o2⟩|⟨bf,q,ap,r1,r2,rfl,r3⟩:=w.d;rotate_left;(.have D:=ak<|vU.jl (m:=[.sd])<|vU.jl (m:=[.rn kF fm]) A;go_wp2;go_ret;exact⟨_,f,z,D⟩);have P:=E o f w.D.ok A.D.fx o2;have ad:=ak A.D;unfold kF fm at P;go_wp21;go_call P as L w3⟨v3,K3,rfl,x⟩;have Q:=vU.t i ad o2 x;obtain⟨rfl,o3⟩|⟨bf,q,ap,r1,r2,rfl,r3⟩:=x.d;rotate_left;(.have D:=ak<|vU.jl (m:=[.sd]) Q;go_wp2;go_ret;exact⟨_,K3,z,D⟩);have ba:=s w3 K3 x.D.ok<|mu.Fa o2 o3;have al:=ak Q.D;have an:=ak<|mu.Fa o2 o3;go_wp21;go_call ba as L w4⟨v4,K4,rfl,aV⟩;have D:=ak<|vU.t i al an aV;go_wp2;go_ret;exact⟨_,K4,z,D⟩
def oJ(n:Y)(l:dB):eD:=le 8 n++((y l:Y)::l.flatMap oC)
def zj(n:Y)(l:dB):eD:=ik (le 4 (y<|oJ n l)++le 4 (pu<|oJ n l))++oJ n l
def Ol(h:S.Good):y (oC S)<=35:=by
 have:=Ad h;unfold yJ at this;rw[ai]at this;omega
def wD{l:dB}(h:∀x∈l,x.Good):y (l.flatMap oC)<=35*y l:=by
 induction l with
 |nil=>simp
 |cons x r c=>
  have:=Ol<|h x ar;have:=c (λa b=>h a<|by simp[b]);rw[dR,ai,bK];omega
structure O9(w0 w:Z)(hv bv:ae)(hs bs:eD):Prop where
 qp:fA w (G<|H w0) hv hs
 f:fA w (G<|H w0) bv bs
 ne:∀k,cN hv=M k->cN bv≠M k
 aA:I aC w0 w
def O9.lB{c:ae}{g f:eD}(h:O9 a e d w m g)(k:fo e P d c)(o:fA P (G<|H a) c f):O9 a P c w f g:=by
 have j:=I.fV k;refine⟨o,j.aZ h.f<|λl b p=>h.ne l p b,λl b i=>?_,h.aA.aj j<|λl b=>bu (h.qp.lt l b).1⟩;obtain n|⟨q,n,r⟩:=k.f;exact h.ne l (n.symm.trans b) i;rw[n]at b;cases b;have:=(h.f.lt _ i).2;omega
def RK(l:dB)(ac a ax:R)(w:Z)(hT:Steps w)(V:ac<G (H w))(hc:∀ch ce,(bj l)[ch]?=M ce->bA w (X ac<|a+ch)=M ce)(i:0<y l)(d:∀O∈l,O.Good)(hl:y l<=8):cR bN 159 #[bX ac a (y l) ax] w λab w'=>∃v',ab=aN v'/\fA w' (G<|H w) v' (zj (l[0]'i).f l)/\I aC w w':=by
 let⟨i0,bc,bx,bE,bL⟩:=cZ pN;have s:=d _<|aB i;have cd:=wD d;have aD:bA w (X ac<|a+3)=M (bw (l[0]'i).f):=zZ<|hc _ _ (fI l 0 i).2.2.2;let⟨o,hn⟩:∃o,(l[0]'i).f=o:=⟨_,rfl⟩;have u:=s.b0;have x:=s.b1;rw[hn]at u x aD|-;have bl:=rj (n6:=G<|H w) (v:=aF) (bs:=[]) o (w:=w) (fA.km _ _) (aq _) ar u x;have e1:IntKind.u8.wrap (y l:Y)=y l:=by rw[IntKind.wrap_u8];omega
 let⟨P,HG,HT⟩:=eU hc d hT;go_in
 go_wp21;go_call bl as ab w1⟨v1,rfl,A,br⟩;have F:I aC w w1:=(I.fV br).aT (λca g=>by simp[cN]at g);have bk:=wv (G<|H w) v1 ([]++le 8 o) (y l:Y) w1 A F.D (by simp[dh]);have ad:=ak A;have ao:=ak F;go_wp21;go_call bk as ab w2⟨v2,rfl,bf,bs⟩;have ap:=ak<|ao.aj (I.fV bs)<|λca g=>bu (ad.lt ca g).1;have al:=ak bf;go_wp2;go_loopw [3,19] (λa i wr=>∃m:R,m<=y l/\i=ay m/\fA wr (G<|H w) a (le 8 o++((y l:Y)::(l.take m).flatMap oC))/\I aC w wr) (λ_ i _=>y l-(intOf i).toNat)
 exact⟨0,bQ _,z,dV<|ag al,ap⟩
 .obtain⟨m,hm,rfl,f,e⟩:=hrel;have bp:=e.D;by_cases k:m<y l
  .have j:=HG l[m]<|aB k;have b:=fI l m k;have B:bA wr (X ac<|a+m*4)=M (aw l[m].D):=e.u (P _ _ b.1) id V;have C:bA wr (X ac<|a+m*4+1)=M (aw l[m].l):=e.u (by rw[bJ];exact P _ _ b.2.1) id V;have D:bA wr (X ac<|a+m*4+2)=M (aO l[m].dP):=e.u (by rw[bJ];exact P _ _ b.2.2.1) id V;have K:bA wr (X ac<|a+m*4+3)=M (bw l[m].f):=e.u (by rw[bJ];exact P _ _ b.2.2.2) id V;have p:y (le 8 o++((y l:Y)::(l.take m).flatMap oC))<=1000:=by
    have L:=wD (l:=l.take m)<|λO hx=>HG O<|iy hx;grind[length_append,length_cons,dh]
   have r:=ak (show(le 8 o++((y l:Y)::(l.take m).flatMap oC))++oC l[m]=le 8 o++((y l:Y)::(l.take<|m+1).flatMap oC)from by
    rw[aG k,gS];simp)
   generalize l[m]=O at*;have c:=TP (G<|H w) u3 (le 8 o++((y l:Y)::(l.take m).flatMap oC)) O (dw wr<|aK #[aw O.D,aw O.l,aO O.dP,bw O.f] 223) (f.aE _) dW U (bP j.f)<|bP j.l;generalize(le 8 o++((y l:Y)::(l.take m).flatMap oC))=cb at*;have t:=f.lt;let⟨Q,S,xd,N⟩:=O;simp only at B C D K c;unfold E.t at c;simp only at c;go_wp21;go_call c as ab W⟨v3,rfl,q,n⟩;go_wp2;go_roundw
   .refine⟨m+1,k,dM,ag r▸q,?_⟩;exact(e.aE _).aj (I.fV n) aI
   .simp[intOf];omega
  .have bd:m=y l:=U;subst bd;rw[cQ]at f;have aU:y (oJ o l)<=1000:=by unfold oJ;rw[ai,bK,dh];omega
   have p:0<y (oJ o l):=by unfold oJ;rw[ai,dh];omega
   have j:fA wr (G<|H w) u3 (oJ o l):=f;let⟨S,Q,bq,_,_,_⟩:=vy j p;subst bq;let⟨b,c⟩:∃b,y (oJ o l)=b:=⟨_,rfl⟩;have r:=ak (show zj o l=ik (le 4 (b:R)++le 4 (pu<|oJ o l))++oJ o l by rw[<-c];rfl);rw[c]at aU p;have bm:=kU (n6:=G<|H w) (v:=aF) (bs:=[]) (b:R) (w:=wr) (fA.km _ _) bp ar U U;have e2:IntKind.u32.wrap (b:Y)=b:=vr U U;rw[c];generalize oJ o l=aa at*;go_wp21;go_call bm as ab W⟨v3,rfl,q,n⟩;have hA3:O9 w W v3 (bX S 0 b Q) ([]++le 4 (b:R)) aa:=by
    have K:I aC wr W:=(I.fV n).aT (λca g=>by simp[cN]at g);have B:fA wr (G<|H w) (bX S 0 b Q) aa:=by have:=j;rwa[c]at this
    refine⟨q,K.aZ B<|λ_ _ cj=>cj,λca g hb=>?_,e.t K⟩;obtain cc|⟨g9,cc,hy⟩:=n.f
    .rw[cc]at g;cases g
    .rw[cc]at g;cases g;have:=(B.lt _ hb).2;omega
   have D:∀W,I aC w W->Steps W:=λW a=>HT.dD (a.dD (aq _) cY) HT.lt;have bo:=sX (bX S 0 b Q) aa W (D _ hA3.aA) (fA.bB hA3.f) (by rw[c];omega);go_wp21;go_call bo as ab w4⟨rfl,N⟩;subst w4;have ba:=Ii aa;have aV:=Mo aa;have C:=kU (pu aa) hA3.qp hA3.aA.D (by simp[dh]) ba aV;generalize pu aa=T at*;go_wp21;go_call C as ab w4⟨v4,rfl,bg,N⟩;have hA4:=hA3.lB N bg;have bn:=Gr (D _ hA4.aA) hA4.qp hA4.aA.D (by simp[dh]);go_wp21;go_call bn as ab w5⟨v5,rfl,bh,bt⟩;have hA5:=hA4.lB bt bh;have t:y ((([]++le 4 (b:R))++le 4 T)++le 4 (pu<|([]++le 4 (b:R))++le 4 T))=12:=by simp[dh]
   let⟨hx,bb,L⟩:=aM hA5.qp;rw[t]at L;subst L;have bT:=hA5.aA.D;go_wp2_with(first
    |(at_builtin;go_loud(refine cq _ z (.tmp 36) (.tmp 37) 31 z (G (H w)) 5 i0 (.int .u8 0) 1 1 underlying31 bc bx bE bL z cg (.slice hx 12 bb) 12 (((([]++le 4 (b:R))++le 4 T)++le 4 (pu (([]++le 4 (b:R))++le 4 T))).map (Value.int .u8)) z (by have h0:=hA5.qp;unfold fA at h0;rwa[t]at h0) (X S 0) b Q (aa.map (Value.int .u8)) z (by rw[cS,c,tH]) (vP (fA.bB hA5.f)) (by intro ce hu;simp only[cC]at hu;obtain⟨g9,_,rfl⟩:=hu;rfl) U U bT ?_;intro v6 w6 bi bv;have an:=ak bi;have av:=ak bv)))
   go_ret;refine⟨_,z,?_,hA5.aA.aj (I.fV av)<|λca g=>bu (hA5.qp.lt ca g).1⟩;rw[ag r];refine fA.of an ?_ ?_
   .rw[ai,iB,c,ai,dh,dh]
   .unfold ik;simp

def Zr(h:∀x∈i,x.Good):kj (i.flatMap oC):=by
 intro x a;let⟨e,b,a⟩:=pV.1 a;exact Pn (h e b) x a

section
open Shelf
def LM:Go.Shelf.Ren:=⟨λ|14=>239|16=>274|17=>275|19=>294|20=>295|21=>296|22=>297|23=>298|24=>299|25=>161|27=>308|26=>307|28=>310|29=>311|30=>243|31=>244|32=>245|33=>246|35=>173|34=>277|36=>278|37=>279|38=>280|39=>300|40=>301|n=>n,λ|9=>9|3=>3|22=>104|24=>44|25=>205|4=>4|34=>427|5=>5|36=>68|37=>31|0=>0|39=>429|21=>21|44=>436|47=>369|50=>442|48=>440|2=>2|52=>385|55=>387|59=>418|60=>97|20=>20|61=>419|65=>437|66=>438|67=>249|n=>n,λ|0=>3|1=>4|2=>2|3=>5|4=>6|n=>n⟩
def CN:Go.Proofs.LaysPu.n14 bN LM:={mixed:=by kernel_rfl,f14:=func239.trans (cD M<|by kernel_rfl),f16:=func274.trans (cD M<|by kernel_rfl),f17:=func275.trans (cD M<|by kernel_rfl),f19:=func294.trans (cD M<|by kernel_rfl),f20:=func295.trans (cD M<|by kernel_rfl),f21:=func296.trans (cD M<|by kernel_rfl),f22:=func297.trans (cD M<|by kernel_rfl),f23:=func298.trans (cD M<|by kernel_rfl),f24:=func299.trans (cD M<|by kernel_rfl),f25:=func161.trans (cD M<|by kernel_rfl),f26:=func307.trans (cD M<|by kernel_rfl),f27:=func308.trans (cD M<|by kernel_rfl),f28:=func310.trans (cD M<|by kernel_rfl),f29:=func311.trans (cD M<|by kernel_rfl),f30:=func243.trans (cD M<|by kernel_rfl),f31:=func244.trans (cD M<|by kernel_rfl),f32:=func245.trans (cD M<|by kernel_rfl),f33:=func246.trans (cD M<|by kernel_rfl),f34:=func277.trans (cD M<|by kernel_rfl),f35:=func173.trans (cD M<|by kernel_rfl),f36:=func278.trans (cD M<|by kernel_rfl),f37:=func279.trans (cD M<|by kernel_rfl),f38:=func280.trans (cD M<|by kernel_rfl),f39:=func300.trans (cD M<|by kernel_rfl),f40:=func301.trans (cD M<|by kernel_rfl),t0:=underlying0,a0:=isAgg0,z0:=sizeOf0,v0:=zeroValue0,i0:=by kernel_rfl,t2:=underlying2,a2:=isAgg2,z2:=sizeOf2,v2:=zeroValue2,i2:=by kernel_rfl,t3:=underlying3,a3:=isAgg3,z3:=sizeOf3,v3:=zeroValue3,i3:=by kernel_rfl,t4:=underlying4,a4:=isAgg4,z4:=sizeOf4,v4:=zeroValue4,i4:=by kernel_rfl,t5:=underlying5,a5:=isAgg5,z5:=sizeOf5,v5:=zeroValue5,i5:=by kernel_rfl,t9:=underlying9,a9:=isAgg9,z9:=sizeOf9,v9:=zeroValue9,i9:=by kernel_rfl,t20:=underlying20,a20:=isAgg20,z20:=sizeOf20,v20:=zeroValue20,i20:=by kernel_rfl,t21:=underlying21,a21:=isAgg21,z21:=sizeOf21,v21:=zeroValue21,i21:=by kernel_rfl,t22:=underlying104,a22:=isAgg104,z22:=sizeOf104,v22:=zeroValue104,i22:=by kernel_rfl,t24:=underlying44,a24:=isAgg44,z24:=sizeOf44,v24:=zeroValue44,i24:=by kernel_rfl,t25:=underlying205,a25:=isAgg205,z25:=sizeOf205,v25:=zeroValue205,i25:=by kernel_rfl,t34:=underlying427,a34:=isAgg427,z34:=sizeOf427,v34:=zeroValue427,i34:=by kernel_rfl,c34:=by kernel_rfl,t36:=underlying68,a36:=isAgg68,z36:=sizeOf68,v36:=zeroValue68,i36:=by kernel_rfl,t37:=underlying31,a37:=isAgg31,z37:=sizeOf31,v37:=zeroValue31,i37:=by kernel_rfl,t39:=underlying429,a39:=isAgg429,z39:=sizeOf429,v39:=zeroValue429,i39:=by kernel_rfl,t44:=underlying436,a44:=isAgg436,z44:=sizeOf436,v44:=zeroValue436,i44:=by kernel_rfl,t47:=underlying369,a47:=isAgg369,z47:=sizeOf369,v47:=zeroValue369,i47:=by kernel_rfl,t48:=underlying440,a48:=isAgg440,z48:=sizeOf440,v48:=zeroValue440,i48:=by kernel_rfl,t50:=underlying442,a50:=isAgg442,z50:=sizeOf442,v50:=zeroValue442,i50:=by kernel_rfl,t52:=underlying385,a52:=isAgg385,z52:=sizeOf385,v52:=zeroValue385,i52:=by kernel_rfl,t55:=underlying387,a55:=isAgg387,z55:=sizeOf387,v55:=zeroValue387,i55:=by kernel_rfl,t59:=underlying418,a59:=isAgg418,z59:=sizeOf418,v59:=zeroValue418,i59:=by kernel_rfl,t60:=underlying97,a60:=isAgg97,z60:=sizeOf97,v60:=zeroValue97,i60:=by kernel_rfl,t61:=underlying419,a61:=isAgg419,z61:=sizeOf419,t65:=underlying437,a65:=isAgg437,z65:=sizeOf437,v65:=zeroValue437,i65:=by kernel_rfl,t66:=underlying438,a66:=isAgg438,z66:=sizeOf438,v66:=zeroValue438,i66:=by kernel_rfl,t67:=underlying249,a67:=isAgg249,z67:=sizeOf249,v67:=zeroValue249,i67:=by kernel_rfl,g0:=by kernel_rfl,m0:=by kernel_rfl,g1:=by kernel_rfl,m1:=by kernel_rfl,g2:=by kernel_rfl,m2:=by kernel_rfl,g3:=by kernel_rfl,m3:=by kernel_rfl,g4:=by kernel_rfl,m4:=by kernel_rfl}
theorem EU(w:Z)(e:TypeId)(s:af):gD (G<|H w) w (Lib.bytesWorld w e s):=⟨rfl,rfl,rfl,by rw[Lib.bytesWorld_size];omega,λk a=>Lib.bytesWorld_at_old w e s k U⟩
end
def Vt:∀u,u<18446744073709551616->∀r,Lib.parseUintM (2^64-1) 0 (Lib.decDigits u++r)=Lib.parseUintM (2^64-1) u r:=by
 intro u;induction u using Nat.strongRecOn with
 |_ u a=>
  intro b r;by_cases h:u<10
  .rw[Lib.decDigits_one h];have e:(UInt8.ofNat<|48+u).toNat=48+u:=by simp;omega
   simp only[dt,ep,Lib.parseUintM,e];rw[fW U,fN U,fN U];grind
  .have e:(UInt8.ofNat<|48+u%10).toNat=48+u%10:=by simp;omega
   rw[Lib.decDigits,dif_neg h,cw,a (u/10) U U];simp only[dt,ep,Lib.parseUintM,e];rw[fW U,fN U,fN U];grind
def Vu(a:b<18446744073709551616)(w:Z):cR bN 239 #[aw<|Ag b,ay 10,ay 64] w λe c=>e=aN (de #[bw b,ic])/\I aC w c:=by
 have h:=Any.strconv_ParseUint_10_at64_ok CN (Ag b) (bP<|uN b a) b (by
  have e:(Ag b).data.toList=Lib.decDigits b:=by simp[Ag]
  rw[e];unfold Lib.parseUintB;rw[fN]
  .have:=Vt b a [];rw[eu]at this;rw[this];rfl
  .intro d;have:=cD y d;rw[Lib.decDigits_length]at this;have:=Lib.lt_pow_nDigits b;grind[Lib.decDigits.eq_1]) w
 refine sU h ?_;grind[I.bI,I.p,EU]
def ZQ(p r:af):(p++r).extract 0 p.size=p:=ByteArray.extract_append_eq_left rfl
def Wt(p r:af):(p++r).extract p.size (p.size+r.size)=r:=ByteArray.extract_append_eq_right rfl rfl
def RU(p r:af)(b:p.size<=100)(c:r.size<=2000000)(w:Z):cR bN 293 #[aw<|p++r,aw p] w λe a=>e=aN (aO cz)/\a=w:=by
 have:(p++r).size=p.size+r.size:=jU;have:=ZQ p r;generalize p++r=s at*;have:(p.size:Y)<=(s.size:Y):=U;go_in
 go_wp2;go_ret;simp_all
def Ig(p r:af)(f:p.size<=100)(g:r.size<=2000000)(w:Z):cR bN 238 #[aw<|p++r,aw p] w λe b=>e=aN (de #[aw r,aO cz])/\b=w:=by
 have a:=RU p r f g w;have:(p++r).size=p.size+r.size:=jU;have:=Wt p r;have d:cR bN 273 #[aw<|p++r,aw p] w λe b=>e=aN (de #[aw r,aO cz])/\b=w:=by generalize p++r=s at*;(go_in);(go_wp2_with(go_at_call 293;refine a.mono ?_;rintro e c⟨rfl,i⟩;subst c));(go_ret2);simp_all
 generalize p++r=s at*;go_in
 go_wp2_with(go_at_call 273;refine d.mono ?_;rintro e c⟨rfl,i⟩;subst c)
 go_ret2
 simp_all
def If(s p:af)(l:s.size<=2000000)(k:p.size<=100)(c:p.size<=s.size->s.extract 0 p.size≠p)(w:Z):cR bN 238 #[aw s,aw p] w λe a=>e=aN (de #[aw s,aO bD])/\a=w:=by
 have d:cR bN 293 #[aw s,aw p] w λe a=>e=aN (aO bD)/\a=w:=by by_cases b:p.size<=s.size;(.have:=c b;have i:(p.size:Y)<=(s.size:Y):=U;(have:((s.extract 0 p.size).toList==p.toList)=bD:=by rw[nE];grind[Ao]);(go_in);go_wp2;go_ret;simp_all);have:¬(p.size:Y)<=(s.size:Y):=U;(go_in);go_wp2;go_ret;simp_all
 have g:cR bN 273 #[aw s,aw p] w λe a=>e=aN (de #[aw s,aO bD])/\a=w:=by(go_in);(go_wp2_with(go_at_call 293;refine d.mono ?_;rintro e f⟨rfl,j⟩;subst f));(go_ret2);simp_all
 go_in
 go_wp2_with(go_at_call 273;refine g.mono ?_;rintro e f⟨rfl,j⟩;subst f)
 go_ret2
 simp_all
def J5(u:R):sY.size<=(gX u).size->(gX u).extract 0 sY.size≠sY:=λ_ c=>by
 have h:=yO c;rw[rR,tJ,AO]at h;have:=cD (λl:cy UInt8=>l[0]?) h;simp[List.extract,show sY.size=6 from rfl,show sY.data.toList=[116,97,98,108,101,45]from rfl]at this
def zcv(w a:Z)(e:Ending)(n:Y)(ok:eN):Prop:=e=aN (de #[bw n,aO ok])/\I aC w a
def Sg(j:b<18446744073709551616)(p:Pow a):cR bN 174 #[aw<|gX b] a λk r=>zcv a r k b cz:=by
 have s:=uN b j;have i:=Vu j a;have g:=λW(h:I aC a W)=>si b j<|Pow.aA p h id;have:(gX b).size<=1000:=by unfold gX;rw[jU];have:II.size<=100:=cg;omega
 have o:=If (gX b) sY U cg (J5 b) a;have l:=Ig II (Ag b) cg U a;rw[show II++Ag b=gX b from rfl]at l;generalize gX b=m at*;go_in
 go_wp21;go_call o as k d⟨rfl,q⟩;subst d;go_wp21;go_call l as k d⟨rfl,q⟩;subst d;go_wp21;go_call i as k d⟨rfl,c⟩;have n:=g d c;go_wp21;go_call n as k t⟨rfl,f⟩;have e:=ak<|c.t<|I.p (S:=aC) f;go_wp2;go_ret2
 exact⟨z,e⟩
structure tg(w:Z):Prop where
 syn:∃te pe,bA w (X 3 0)=M (.iface te pe)
 rng:∃te pe,bA w (X 4 0)=M (.iface te pe)
def tg.aA{S:fC}{w w':Z}(h:tg w)(d:I S w w')(e:¬S 3)(g:¬S 4):tg w':=by
 let⟨⟨j,b,a⟩,⟨k,m,c⟩⟩:=h;exact⟨⟨j,b,d.u a e<|cA _ _ a⟩,⟨k,m,d.u c g<|cA _ _ c⟩⟩
def zev(s:af)(w a:Z)(e:Ending):Prop:=I aC w a/\((∃u:R,u<18446744073709551616/\e=aN (de #[bw u,ic]))\/∃(u:Y)(t:TypeId)(N:R),e=aN (de #[bw u,.iface t<|aJ N]))
def JB:∀(l:cy UInt8)(n u:R),n<18446744073709551616->Lib.parseUintM (2^64-1) n l=.ok u->u<18446744073709551616
 |[],n,u,a,h=>by
  simp only[Lib.parseUintM]at h;cases h;exact a
 |c::l,n,u,a,h=>by
  simp only[Lib.parseUintM]at h;split at h
  .split at h
   .cases h
   .split at h
    .cases h
    .exact JB l _ u U h
  .cases h
def Vv(s:af)(l:s.size<=2000000)(h:tg a):cR bN 239 #[aw s,ay 10,ay 64] a λe b=>zev s a b e:=by
 let⟨⟨g,i,d⟩,⟨j,k,f⟩⟩:=h;rcases hp:Lib.parseUintB 64 s.data.toList with u|_|_;refine sU (Any.strconv_ParseUint_10_at64_ok CN s U u hp a) ?_;rintro e b⟨rfl,m⟩;refine⟨by grind[I.bI,I.p,EU],J ⟨u,?_,z⟩⟩;unfold Lib.parseUintB at hp;split at hp;cases hp;exact JB _ 0 u cg hp;refine sU (Any.strconv_ParseUint_10_at64_syntax CN s U hp _ a d<|bu ⟨g,i,z⟩) ?_;rintro e b⟨N,rfl,_,_,c⟩;exact⟨I.p c,bu ⟨_,_,N,z⟩⟩;refine sU (Any.strconv_ParseUint_10_at64_range CN s U hp _ a f<|bu ⟨j,k,z⟩) ?_;rintro e b⟨N,rfl,_,_,c⟩;exact⟨I.p c,bu ⟨_,_,N,z⟩⟩
def Jk(s p:af):(∃r,s=p++r)\/(p.size<=s.size->s.extract 0 p.size≠p):=by
 by_cases h:p.size<=s.size/\s.extract 0 p.size=p;refine J ⟨s.extract p.size s.size,?_⟩;let⟨b,a⟩:=h;(have c:p.data.toList=s.data.toList.take p.size:=by have:=cD (λb:af=>b.data.toList) a;rw[rR,tJ]at this;rw[<-this];simp[List.extract]);(have d:(s.extract p.size s.size).data.toList=s.data.toList.drop p.size:=by rw[rR,tJ];unfold List.extract;exact fB ar);refine ByteArray.ext<|Array.ext' ?_;rw[ByteArray.data_append,nG,d,c,du];exact bu λb a=>h ⟨b,a⟩
def zex(w a:Z)(e:Ending):Prop:=∃(n:R)(ok:eN),n<18446744073709551616/\e=aN (de #[bw n,aO ok])/\I aC w a
def PC(s:af)(v:s.size<=2000000)(A:Pow a)(x:tg a):cR bN 174 #[aw s] a λi g=>zex a g i:=by
 have n:=λ(r:af)(t:r.size<=2000000)=>Vv r t x;have p:=λW(u:R)(k:u<18446744073709551616)(h:I aC a W)=>si u k<|Pow.aA A h id;have l:(∃r:af,r.size<=2000000/\cR bN 238 #[aw s,aw sY] a λi g=>i=aN (de #[aw r,aO cz])/\g=a)\/cR bN 238 #[aw s,aw sY] a λi g=>i=aN (de #[aw s,aO bD])/\g=a:=by obtain⟨r,rfl⟩|h:=Jk s sY;rw[jU]at v;exact J ⟨r,U,Ig sY r cg U a⟩;exact bu<|If s sY v cg h a
 have m:(∃r:af,r.size<=2000000/\cR bN 238 #[aw s,aw II] a λi g=>i=aN (de #[aw r,aO cz])/\g=a)\/cR bN 238 #[aw s,aw II] a λi g=>i=aN (de #[aw s,aO bD])/\g=a:=by obtain⟨r,rfl⟩|h:=Jk s II;rw[jU]at v;exact J ⟨r,U,Ig II r cg U a⟩;exact bu<|If s II v cg h a
 obtain⟨r,t,l⟩|l:=l;(.clear m;(go_in);go_wp21;go_call l as i d⟨rfl,w⟩;subst d;have c:=n r t;go_wp21;go_call c as i d⟨b,⟨u,k,rfl⟩|⟨u,D,N,rfl⟩⟩;(.have o:=p d u k b;clear c;go_wp21;go_call o as i B⟨rfl,f⟩;have e:=ak<|b.t<|I.p (S:=aC) f;clear o f;by_cases q:Ag u=r;(.subst q;go_wp2;(go_ret2);exact⟨u,cz,k,z,e⟩);have C:=DB q;go_wp2;(go_ret2);exact⟨0,bD,cg,z,e⟩);have j:=ak b;clear c b;go_wp2;(go_ret2);exact⟨0,bD,cg,z,j⟩);obtain⟨r,t,m⟩|m:=m;(·(go_in);go_wp21;go_call l as i d⟨rfl,w⟩;subst d;go_wp21;go_call m as i d⟨rfl,w⟩;subst d;have c:=n r t;go_wp21;go_call c as i d⟨b,⟨u,k,rfl⟩|⟨u,D,N,rfl⟩⟩;(.have o:=p d u k b;clear c;go_wp21;go_call o as i B⟨rfl,f⟩;have e:=ak<|b.t<|I.p (S:=aC) f;clear o f;by_cases q:Ag u=r;(.subst q;go_wp2;(go_ret2);exact⟨u,cz,k,z,e⟩);have:=DB q;go_wp2;(go_ret2);exact⟨0,bD,cg,z,e⟩);have j:=ak b;clear c b;go_wp2;(go_ret2);exact⟨0,bD,cg,z,j⟩);(go_in);go_wp21;go_call l as i d⟨rfl,w⟩;subst d;go_wp21;go_call m as i d⟨rfl,w⟩;subst d;go_wp2;(go_ret2);exact⟨0,bD,cg,z,I.bI _ _⟩
def zcs(w w':Z)(e:Ending):Prop:=∃b,e=aN (aO b)/\I aC w w'
def H7(s:af)(e:s.size<=2000000)(d:Pow a)(c:tg a):cR bN 129 #[aw s] a λg w'=>zcs a w' g:=by
 have b:=PC s e d c;go_in
 go_wp21;go_call b as g i⟨n,ok,_,rfl,f⟩;clear b;cases ok;(all_goals go_wp2;(all_goals go_ret;exact⟨_,z,f⟩))
