import Derived.Test.YtnfehfmncheoiaaGreatDoorC10
open _root_ renaming List.length→y,Option.some→H,Array.size→z,Go.World.heap→G,Go.Value.ownBlock→bV,Go.World.cell?→aS,Go.World.setCell→bZ,Go.World.alloc→ct,Bool.false→bE,Bool.true→bU,Nat→M,Int→X,List→cr,Go.Calls→cw,Go.undef→iC,Go.Proofs.Tryz.prog→bF,Go.Value.slice→I,Go.Value.string→J,Go.Value.bool→aL,Go.Value.tuple→dA
namespace Go.Proofs.YtnfehfmncheoiaaGreatDoor
open ChangeShapes WideShapes RowKit Proofs.Tryz
set_option maxHeartbeats 16000000
set_option linter.all false
set_option maxRecDepth 100000
variable{a f C:Y}{b c g l:M}{d s:aa}{e L:cA}{m:X}{n:SR}{o:eK}{W:fI}{w:E}{x:iV}
section
open Go.Shelf
def RW{a d:iV}(h:y x=b*4)(i:c<=b)(j:y a=4)(k:y d=(b+1-c)*4+g):(((x.take (c*4)++d).take (c*4)++a++(x.take (c*4)++d).drop (c*4+y a)).take ((c+1)*4)++x.drop (c*4)++((x.take (c*4)++d).take (c*4)++a++(x.take (c*4)++d).drop (c*4+y a)).drop ((c+1)*4+y (x.drop<|c*4))).take ((b+1)*4)=x.take (c*4)++a++x.drop (c*4):=by
 have e:y (x.take<|c*4)=c*4:=by rw[dK];omega
 have f:(x.take (c*4)++d).take (c*4)=x.take (c*4):=oF e;rw[f,oF (by simp;omega),oF (by simp;omega)]
def LG(e L n i:M)(A:Array aa)(d:iV)(bc:e<=z (G a))(hg:a.heap[L]?=H (aq A 164 (0,0)))(bb:A.size=n*4)(t:A.toList.take (n*4)=d)(hv:ij a b w)(hi:i<n)(hn:n<=1000000000)(h1:∀ao∈d,ao.oneCell'=bU):cw bF 182 #[bC L 0 n n,am i,bC b 0 1 1] a λcc w'=>∃c,cc=aO (bC (z<|G a) 0 (n+1) c)/\w'.ownsRow e 164 4 (bC (z<|G a) 0 (n+1) c) (n+1) (d.take (i*4)++aE [w]++d.drop (i*4))/\Z az a w':=by
 have K:y d=n*4:=by rw[<-t,dK,iF];omega
 have ax:=aj hg;have bh:=aj hv;obtain⟨i0,bd,bi,bk,ad⟩:=cz nQ;have D:(prog.info? 164).map (·.size)=H 4:=by kernel_rfl
 have T:(n:X)+1-(i:X)=((n+1-i:M):X):=by omega
 have C:i+(n+1-i)=n+1:=by omega
 have x:(Builtin.firstCells i0.size i<|bC L 0 i n).run bF a.drew=.ok (d.take<|i*4).toArray a.drew:=by
  rw[bk];exact run_firstCells_some a.drew 4 i (R L 0) i n (d.take<|i*4) (by rw[dK];omega) (λbn ao v=>by
   rw[du,cR];rw[mD]at v;split at v
   .have:=qd (w:=a.drew) hg t bn ao 0 (by simpa using v);simpa using this
   .cases v)
 have s:∀j,(Builtin.append_ #[102,3] j #[bC L 0 i n,am<|(n:X)+1-(i:X)]).run bF a=.ok (bC (z<|G a) 0 (n+1)<|grownCap a (n+1) n 164) (ct a.drew<|aq ((d.take<|i*4).toArray++Builtin.zeroCells wP.cells (n+1-i)++Builtin.zeroCells wP.cells (grownCap a (n+1) n 164-(n+1))) 164):=λj=>by have h:=Lib.run_append_grow_zeros a 102 3 j 164 i0 _ .i64 .i64 underlying102 underlying3 bd bi (H<|R L 0) i n (d.take<|i*4) x (n+1-i) (by omega) (by omega) (by omega) (by omega) (by rw[ad];omega) (by rw[ad,C];exact sA (by omega)<|by omega);rw[C]at h;rw[T];exact h
 obtain⟨c,hG⟩:∃c,c=grownCap a (n+1) n 164:=⟨_,rfl⟩;rw[<-hG]at s;have av:n+1<=c:=by rw[hG];exact grownCap_ge a _ _ _
 have P:c<=maxLen:=by rw[hG];exact sB a (n+1) n _ (by unfold maxLen;omega)
 have bl:c<=9223372036854775807:=by unfold maxLen at P;omega
 obtain⟨zs,l⟩:∃zs:iV,zs=(Builtin.zeroCells wP.cells (n+1-i)++Builtin.zeroCells wP.cells (c-(n+1))).toList:=⟨_,rfl⟩;have al:y zs=(n+1-i)*4+(c-(n+1))*4:=by rw[l];simp[Builtin.zeroCells,wP,Value.cells]
 have k:((d.take<|i*4).toArray++Builtin.zeroCells wP.cells (n+1-i)++Builtin.zeroCells wP.cells (c-(n+1)))=(d.take (i*4)++zs).toArray:=by rw[l,Array.append_assoc];apply Array.ext';simp
 rw[k]at s;have F:y (aE [w])=4:=rfl;have ac:y (d.drop<|i*4)=(n-i)*4:=by rw[iy,K];omega
 obtain⟨f,p⟩:∃f,f=d.take (i*4)++zs:=⟨_,rfl⟩;obtain⟨g,q⟩:∃g,g=f.take (i*4)++aE [w]++f.drop (i*4+y (aE [w])):=⟨_,rfl⟩;obtain⟨m,r⟩:∃m,m=g.take ((i+1)*4)++d.drop (i*4)++g.drop ((i+1)*4+y (d.drop<|i*4)):=⟨_,rfl⟩;have bf:y f=c*4:=by rw[p,af,dK];omega
 have bg:y g=c*4:=by rw[q];simp only[af,dK,iy];omega
 have V:y m=c*4:=by rw[r];simp only[af,dK,iy];omega
 have u:m.take ((n+1)*4)=d.take (i*4)++aE [w]++d.drop (i*4):=by rw[r,q,p];exact RW K (by omega) rfl al
 rw[<-p]at s;have Q:∀(W:Y),W.heap[z<|G a]?=H (aq f.toArray 164 (0,0))->W.heap[b]?=a.heap[b]?->∀j o,(Builtin.copy_ #[102,101] j #[bC (z<|G a) (i*4) (n+1-i) o,bC b 0 1 1]).run bF W=.ok (goInt<|Nat.min 1<|n+1-i) (W.setRow (z<|G a) g.toArray):=λW hW B j o=>by rw[q];refine qV W _ _ j 164 4 (z<|G a) (i*4) _ o (R b 0) _ 1 f.toArray _ (aE [w]) underlying102 D hW ?_ (λbn ao v=>?_) (by simp;omega)<|Bn w;rw[F];simp only[wR];split<;>omega;rw[du,bR<|B.trans hv,cR];simpa[aE,E.cells]using v
 have S:∀(W:Y),W.heap[z<|G a]?=H (aq g.toArray 164 (0,0))->W.heap[L]?=a.heap[L]?->∀j o sc,(Builtin.copy_ #[102,102] j #[bC (z<|G a) ((i+1)*4) (n-i) o,bC L (i*4) (n-i) sc]).run bF W=.ok (goInt<|Nat.min (n-i)<|n-i) (W.setRow (z<|G a) m.toArray):=λW hW B j o sc=>by rw[r];refine qV W _ _ j 164 4 (z<|G a) ((i+1)*4) _ o (R L<|i*4) _ sc g.toArray _ (d.drop<|i*4) underlying102 D hW ?_ (λbn ao v=>by rw[du];exact qd (B.trans hg) t bn ao _ v) (by simp;omega)<|λao hu=>h1 ao<|dl hu;rw[ac];simp only[wR];split<;>omega
 have hA1:((ct a<|aq f.toArray 164).drew).heap[z<|G a]?=H (aq f.toArray 164 (0,0)):=aC (w:=a) _ rfl;have hA2:((ct a<|aq f.toArray 164).drew).heap[b]?=a.heap[b]?:=fX (w:=a) _ bh;have O:(((ct a<|aq f.toArray 164).drew.setRow (z<|G a) g.toArray).drew).heap[z<|G a]?=H (aq g.toArray 164 (0,0)):=tF _ _ _ _ _ _ hA1;have au:(((ct a<|aq f.toArray 164).drew.setRow (z<|G a) g.toArray).drew).heap[L]?=a.heap[L]?:=(rW _ _ _ _<|by omega).trans<|fX (w:=a) _ ax;have N:=U (show((((ct a<|aq f.toArray 164).drew.setRow (z<|G a) g.toArray).drew).setRow (z<|G a) m.toArray).ownsRow e 164 4 (bC (z<|G a) 0 (n+1) c) (n+1) (d.take (i*4)++aE [w]++d.drop (i*4))/\Z az a ((((ct a<|aq f.toArray 164).drew.setRow (z<|G a) g.toArray).drew).setRow (z<|G a) m.toArray)from by refine⟨⟨by simp[F];omega,.inr ⟨z<|G a,c,m.toArray,rfl,bc,tF _ _ _ _ _ _ O,av,P,by simpa using V,u⟩⟩,?_⟩;have t1:Z az a (ct a<|aq f.toArray 164).drew:=((Z.refl az a).alloc _).of_heap rfl;have t2:Z az a ((ct a<|aq f.toArray 164).drew.setRow (z<|G a) g.toArray).drew:=(t1.trans (BX _ (z<|G a) g.toArray)<|λk b=>.inr<|by omega).of_heap rfl;exact t2.trans (BX _ (z<|G a) m.toArray)<|λk b=>.inr<|by omega);have ba:=λj o=>Q _ hA1 hA2 j o;have cb:¬((i:X)=(n:X)):=by omega
 have bx:IntKind.i64.wrap ((i:X)+1)=(i:X)+1:=by rw[bO];omega
 have bT:IntKind.i64.wrap ((n:X)+1)=(n:X)+1:=by rw[bO];omega
 have ca:IntKind.i64.wrap ((n:X)+1-(i:X))=(n:X)+1-(i:X):=by rw[bO];omega
 have bv:((i:X)+1).toNat=i+1:=by omega
 have bm:((n:X)+1).toNat=n+1:=by omega
 have bq:(0:X)<=(i:X)+1:=by omega
 have bu:i<=n:=by omega
 have br:(i:X)<=(n:X)+1:=by omega
 have bs:(n:X)<(n:X)+1:=by omega
 have bo:¬(c=i):=by omega
 have bp:¬(c=i+1):=by omega
 have bt:¬(n=i):=by omega
 have an:prog.follows .mixedOrders=bU:=by kernel_rfl
 clear p q r bf bg V u F ac al k l hG C T x K t h1 bb D hv hg;go_in
 go_wp2_with(at_builtin;refine Lib.wpList_append_run _ rfl _ _ _ _ rfl _ _ rfl rfl _ _ (s _) ?_)
 go_region_law_o (refine yO rfl _ _ 102 102 rfl (bC (z<|G a) ((i+1)*4) (n-i)<|c-(i+1)) (bC L (i*4) (n-i)<|n-i) (by simp[Act.eval,Act.put]) (by simp[Act.eval,Act.put]) (S _ O au 3 _ _) ?_)
 go_wp2;go_ret;exact⟨c,rfl,N⟩
def Oe{w:Y}{baseqq:M}{v:aa}{n:M}(t:M){xs:iV}{x:E}{vb:M}(q:w.ownsRow baseqq 164 4 v n xs)(B:baseqq<=z (G w))(r:ij w vb x)(p:bV v≠H vb)(O:t<=n)(o:n<=1000000000)(A:∀P∈xs,P.oneCell'=bU):cw bF 182 #[v,am t,bC vb 0 1 1] w λu i=>∃d,u=aO d/\i.ownsRow baseqq 164 4 d (n+1) (xs.take (t*4)++aE [x]++xs.drop (t*4))/\Z (λK=>bV v=H K) w i/\(bV d=bV v\/∃N,bV d=H N/\z (G w)<=N):=by
 have s:=q.1;by_cases k:t=n;subst k;apply(Od q B r o).mono;rintro u i⟨d,rfl,f,c⟩;refine⟨d,rfl,?_,Z.dM c.grown<|λK l=>.inl l,c.uc⟩;rw[<-s,bN,gm,dI];exact f;rcases q.2 with⟨rfl,rfl⟩|⟨L,a,e,rfl,j,C,F,m,g,h⟩;omega;by_cases b:n+1<=a;refine(IZ baseqq L a n t e xs j C b (by unfold maxLen at m;omega) g h r (λu=>p (by rw[u];rfl)) (by omega) o A).mono ?_;rintro u i⟨rfl,f,c⟩;exact⟨_,rfl,f,c.mono<|λK l=>.inl (by rw[l];rfl),.inl rfl⟩;(obtain rfl:a=n:=by omega);apply(LG baseqq L a t e xs B C g h r (by omega) o A).mono;rintro u i⟨D,rfl,f,c⟩;exact⟨_,rfl,f,c.mono cG,.inr ⟨_,rfl,ah _⟩⟩
end
def Ie{l m:cA}(h:b<y m):fB l (m.take<|b+1)=lB (fB l<|m.take b) m[b]:=by
 unfold fB;rw[ai h,iJ];rfl
def PY(l:cA)(e:E):y (lB l e)<=y l+1:=by
 have:∀l:cA,y (l.filter<|λx=>ahead x e)+y (l.filter<|λx=>ahead e x)<=y l:=by
  intro l;induction l with
  |nil=>simp
  |cons x r a=>
   cases c:ahead x e with
   |true=>
    rw[eP (by simp[c]),de<|by simp[lM c]];simp only[ay];omega
   |false=>
    rw[de<|by simp[c]];cases d:ahead e x with
    |true=>rw[eP<|by simp[d]];simp only[ay];omega
    |false=>rw[de<|by simp[d]];simp only[ay];omega
 have:=this l;unfold lB;simp only[af,ay];omega
def wX(l m:cA):y (fB l m)<=y l+y m:=by
 unfold fB;induction m generalizing l with
 |nil=>simp
 |cons e r a=>
  have b:=a<|lB l e;have c:=PY l e;simp only[fO,ay];omega
def dQ.fB(h:dQ e)(m:cA):dQ (fB e m):=by
 induction m generalizing e with
 |nil=>exact h
 |cons b r a=>exact a<|h.lB b
def UT(l:cA)(p:M)(x:E)(h:p<y l):((((aE l).set (p*4)<|J x.key).set (p*4+1)<|J x.val).set (p*4+2)<|aL x.del).set (p*4+3) (aI x.bH)=aE (l.set p x):=by
 induction l generalizing p with
 |nil=>simp at h
 |cons a r c=>
  have e:∀(a:E)(r:cA),aE (a::r)=J a.key::J a.val::aL a.del::aI a.bH::aE r:=λa r=>by simp[aE,E.cells]
  cases p with
  |zero=>rw[gy,e,e];simp
  |succ p=>
   have b:p<y r:=by simpa using h
   rw[fT,e,e,<-c p b];rw[show(p+1)*4=p*4+1+1+1+1 by omega];simp only[fT]
def TM(x:E)(o:a.ownsRow b 164 4 (bC c 0 (y e) g) (y e) (aE e))(p:l<y e):(bZ (bZ (bZ (bZ a (R c<|l*4)<|J x.key) (R c<|l*4+1)<|J x.val) (R c<|l*4+2)<|aL x.del) (R c<|l*4+3)<|aI x.bH).ownsRow b 164 4 (bC c 0 (y e) g) (y<|e.set l x) (aE<|e.set l x):=by
 refine⟨fM _,.inr ?_⟩;rcases o.2 with⟨f,s⟩|⟨r,m,q,f,i,n,d,j,h,k⟩;cases f;cases f;refine⟨c,g,_,by rw[eM],i,aQ<|aQ<|aQ<|aQ n,by rw[eM];exact d,j,by simpa using h,?_⟩;simp only[nt,List.take_set,eM,k];exact UT e l x p
def RK(h:e.take b++w::e.drop b=L)(d:b<=y e):(aE e).take (b*4)++aE [w]++(aE e).drop (b*4)=aE L:=by
 rw[<-h,fN,show w::e.drop b=[w]++e.drop b from rfl,fN,aU];have c:=bS aE<|bW b e;rw[fN]at c;have a:y (aE<|e.take b)=b*4:=by rw[fM,dK];omega
 rw[<-c,oF a,List.drop_left' a]
def Wo(h:e.take b++w::e.drop b=L)(a:b<=y e):y L=y e+1:=by
 rw[<-h,af,ay,dK,iy];omega
def SY(h:ku a d e)(hm:ku a s L)(hs:dQ e)(hl:y e+y L<=100000000)(bt:∀k,bV d=H k->k<z (G a))(bq:∀k,bV s=H k->k<z (G a)):cw bF 121 #[d,s] a λbu w'=>∃v',bu=aO v'/\w'.ownsRow (z<|G a) 164 4 v' (y<|fB e L) (aE<|fB e L)/\Z az a w':=by
 have bl:=ON h (by omega) bt;obtain⟨mx,mc,ck⟩:=bL hm;obtain⟨vx,vc,cv⟩:=bL h;obtain⟨HM,bT,HS⟩:=dB hm bq hs;clear h bt hm bq hs;subst ck;subst cv;go_in
 go_wp2_with fail
 apply bl.mono;rintro bu w1⟨v1,rfl,au,bk⟩;obtain⟨x1,c1,cs⟩:=aB au;subst cs;have ca:=U au;have cc:=U<|Z.aT (S:=az) bk;clear au bk bl;go_wp2_with fail
 go_loopw [5,13] (λo i wr=>∃(k:M),k<=y L/\i=am k/\wr.ownsRow (z<|G a) 164 4 o (y<|fB e<|L.take k) (aE<|fB e<|L.take k)/\Z az a wr) (λ_ i _=>y L-(intOf i).toNat)
 case atStart=>exact⟨0,bw _,rfl,ca,cc⟩
 (case round=>obtain⟨k,O,rfl,ho,W⟩:=hrel;obtain⟨nx,nc,cl⟩:=aB ho;subst cl;by_cases T:k<y L;(·(have e1:(k:X)<(y L:X):=by omega);have K:=Ie (l:=e) T;have ax:dQ (fB e<|L.take k):=HS.fB _;(have cj:y (fB e<|L.take k)<=100000000:=by have:=wX e<|L.take k;have:=rQ k L;omega);generalize fB e (L.take k)=b at ho K ax cj|-;obtain⟨ce,⟨br,cM⟩|⟨bv,i,cE,br,ch,hc⟩⟩:=ae HM;exfalso;omega;cases br;have C:bv<z (G a):=bT bv rfl;have j:=eA L k T;have cT:bv<z (G wr):=ag C W.size;have cm:aS wr (R bv<|i+k*4)=H (J L[k].key):=W.cell (hc _ _ j.1) id C;have cn:aS wr (R bv<|i+k*4+1)=H (J L[k].val):=W.cell (by rw[aV];exact hc _ _ j.2.1) id C;have co:aS wr (R bv<|i+k*4+2)=H (aL L[k].del):=W.cell (by rw[aV];exact hc _ _ j.2.2.1) id C;have cp:aS wr (R bv<|i+k*4+3)=H (aI L[k].bH):=W.cell (by rw[aV];exact hc _ _ j.2.2.2) id C;obtain⟨ad,P,HO,HT⟩:=gx K ax ho W;clear j hc ce ch K ax ho W;generalize L[k]=db at*;obtain⟨f,v,u,g⟩:=db;simp only at cm cn co cp;have N:Z az wr (ct wr<|aq #[J f,J v,aL u,aI g] 164):=(Z.refl _ _).alloc _;have A:=Bj (I nx (y b) nc) f g (ct wr<|aq #[J f,J v,aL u,aI g] 164) (dF<|N.own HO<|λ_ _ au=>au) P (by omega) (λbv a=>by have:=(HO.lt bv a).2;simp;omega);have F:=ID b ⟨f,⟨#[]⟩,bE,g⟩;by_cases Q:∃h:li b ⟨f,⟨#[]⟩,bE,g⟩<y b,b[li b ⟨f,⟨#[]⟩,bE,g⟩].key=f/\b[li b ⟨f,⟨#[]⟩,bE,g⟩].bH=g;(.obtain⟨ao,al,ac⟩:=Q;have V:=PX P ⟨f,v,u,g⟩ ao al ac;have bb:=U<|show b.set (li b ⟨f,⟨#[]⟩,bE,g⟩) ⟨f,v,u,g⟩=lB b ⟨f,v,u,g⟩from V;clear V;generalize li b ⟨f,⟨#[]⟩,bE,g⟩=p at*;(have e2:(p:X)<(y b:X):=by omega);(have e3:(0:X)<=(p:X):=by omega);(go_wp2_with fail);apply A.mono;rintro bu c⟨rfl,B⟩;have l:ij c (z<|G wr) ⟨f,v,u,g⟩:=(B.block _<|by simp).trans<|aC _ rfl;have r:Z az wr c:=N.ci<|Z.aT (S:=az) B;have o:=r.own HO<|λ_ _ au=>au;obtain⟨q0,q1,q2,q3⟩:=l.cells;have D:=aj l;simp only at q0 q1 q2 q3;have bo:∀x,bV (I nx (y b) nc)=H x->x<z (G wr):=λx j=>(HO.lt x j).2;rcases o.2 with⟨h2,h0⟩|⟨x,bd,cB,h2,bn,j,bp,bs,bm,t⟩;exfalso;omega;cases h2;(have cd:x≠z (G wr):=λbu=>by have:=bo x rfl;omega);have m:=eA b p ao;(have r0:aS c (R x<|p*4)=H (J b[p].key):=by simpa using qd j t _ _ 0 (by simpa using m.1));(have r1:aS c (R x<|p*4+1)=H (J b[p].val):=by simpa using qd j t _ _ 0 (by simpa using m.2.1));(have r2:aS c (R x<|p*4+2)=H (aL b[p].del):=by simpa using qd j t _ _ 0 (by simpa using m.2.2.1));(have r3:aS c (R x<|p*4+3)=H (aI b[p].bH):=by simpa using qd j t _ _ 0 (by simpa using m.2.2.2));(have f0:∀a,c.frozen? (R x a)=bE:=λa=>by simp[World.frozen?,j]);have bf:=f0<|p*4;have bg:=f0<|p*4+1;have bh:=f0<|p*4+2;have bi:=f0<|p*4+3;obtain⟨av,bc,bx,HG⟩:=gx o r l j;clear bo m f0 o r l j bm t bs bn A N;generalize z (G wr)=eb at*;generalize b[p]=w at*;obtain⟨yk,yv,yd,yb⟩:=w;simp only at r0 r1 r2 r3 al ac;subst al;subst ac;go_wp2;(go_quiet(fail));have hd:Z az c (c.drewN nq):=Z.aT<|below_drewN (Below.refl _ _) _;have ba:=U<|hd.own av<|λ_ _ au=>au;have an:=U<|(HT.ci bc).ci hd;have cu:eb<z (G<|c.drewN nq):=D;(replace r0:aS (c.drewN nq) (R x<|p*4)=_:=r0);(replace r1:aS (c.drewN nq) (R x<|p*4+1)=_:=r1);(replace r2:aS (c.drewN nq) (R x<|p*4+2)=_:=r2);(replace r3:aS (c.drewN nq) (R x<|p*4+3)=_:=r3);(replace q0:aS (c.drewN nq) (R eb 0)=_:=q0);(replace q1:aS (c.drewN nq) (R eb 1)=_:=q1);(replace q2:aS (c.drewN nq) (R eb 2)=_:=q2);(replace q3:aS (c.drewN nq) (R eb 3)=_:=q3);(replace bf:(c.drewN nq).frozen? (R x<|p*4)=_:=bf);(replace bg:(c.drewN nq).frozen? (R x<|p*4+1)=_:=bg);(replace bh:(c.drewN nq).frozen? (R x<|p*4+2)=_:=bh);(replace bi:(c.drewN nq).frozen? (R x<|p*4+3)=_:=bi);clear hd bx HG av bc D;generalize c.drewN nq=w3 at*;go_wp2;(have cb:∀k,k=x->z (G a)<=k:=λk O=>by rw[O];exact(ba.lt x rfl).1);refine⟨⟨k+1,T,by go_num,?_,?_⟩,by simp[intOf];omega⟩;rw[ae ad,<-ae bb];exact TM ⟨yk,v,u,yb⟩ ba ao;refine(((an.setCell _ _ _ ?_).setCell _ _ _ ?_).setCell _ _ _ ?_).setCell _ _ _ ?_<;>exact .inr<|cb x rfl);(.have al:=PZ P ⟨f,v,u,g⟩<|P.XP ⟨f,v,u,g⟩<|λa bu=>Q ⟨a,bu⟩;have ac:=U<|show b.take (li b ⟨f,⟨#[]⟩,bE,g⟩)++⟨f,v,u,g⟩::b.drop (li b ⟨f,⟨#[]⟩,bE,g⟩)=lB b ⟨f,v,u,g⟩from al;clear al;generalize li b ⟨f,⟨#[]⟩,bE,g⟩=p at*;(go_wp2_with fail);apply A.mono;rintro bu c⟨rfl,B⟩;have l:ij c (z<|G wr) ⟨f,v,u,g⟩:=(B.block _<|by simp).trans<|aC _ rfl;have r:Z az wr c:=N.ci<|Z.aT (S:=az) B;have o:=r.own HO<|λ_ _ au=>au;obtain⟨q0,q1,q2,q3⟩:=l.cells;have D:=aj l;simp only at q0 q1 q2 q3;have cx:=HT.size;have bi:=r.size;have bo:=U (λ(q:M)=>show _/\_/\_ from have ba:Z az c (ct (c.drewN q)<|aq #[J f,J v,aL u,aI g] 164):=(Z.aT (S:=az)<|below_drewN (Below.refl _ c) q).alloc _;have bg:=ba.own o<|λ_ _ au=>au;⟨Oe (w:=(ct (c.drewN q)<|aq #[J f,J v,aL u,aI g] 164)) (baseqq:=z<|G a) (v:=(I nx (y b) nc)) (n:=y b) p (xs:=(aE b)) (x:=⟨f,v,u,g⟩) (vb:=z<|G c) bg (by have:=ba.size;omega) (aC _ rfl) (λbu=>by have:=(o.lt _ bu).2;omega) F (by omega)<|TR b,(HT.ci r).ci ba,λk O=>(bg.lt k O).1⟩);(have ao:(∃x,nx=H (R x 0)/\∃w:E,p<y b/\aS c (R x<|p*4)=H (J w.key)/\aS c (R x<|p*4+3)=H (aI w.bH)/\(w.key≠f\/(w.key=f/\w.bH≠g)))\/((p:X)<(y b:X))=False:=by by_cases V:p<y b;left;rcases o.2 with⟨h2,h0⟩|⟨x,bd,cB,h2,bn,j,bp,bs,bm,t⟩;omega;cases h2;have m:=eA b p V;refine⟨x,rfl,b[p],V,by simpa using qd j t _ _ 0 (by simpa using m.1),by simpa using qd j t _ _ 0 (by simpa using m.2.2.2),?_⟩;by_cases O:b[p].key=f;exact .inr ⟨O,λau=>Q ⟨V,O,au⟩⟩;exact .inl O;right;simp;omega);clear l r o B A N cx bi Q;generalize z (G wr)=eb at*;rcases ao with⟨x,rfl,⟨yk,yv,yd,yb⟩,V,r0,r3,hy|⟨rfl,hy⟩⟩|e2;(case' inl.inl=>simp only at r0 r3 hy;(have e2:(p:X)<(y b:X):=by omega);(have e3:(0:X)<=(p:X):=by omega);have e4:=Il hy);(case' inl.inr=>simp only at r0 r3 hy;(have e2:(p:X)<(y b:X):=by omega);(have e3:(0:X)<=(p:X):=by omega);have e4:(yb==g)=bE:=by simpa using hy);(all_goals(go_wp2_with fail);(go_quiet(fail));obtain⟨bf,bc,bb⟩:=bo nq;have an:=U bc;have bx:=U bb;clear bc bb;(go_wp2_with fail);apply bf.mono;rintro bu w4⟨v4,rfl,av,bh,_⟩;obtain⟨x4,c4,cu⟩:=aB av;subst cu;have cb:=U av;have cd:=U bh;clear av bh bf;go_wp2;refine⟨⟨k+1,T,by go_num,?_,?_⟩,by simp[intOf];omega⟩;rw[ae ad,Wo (ae ac) F,<-RK (ae ac) F];exact cb;exact an.trans cd<|λk O=>.inr<|bx k O)));(have e1:¬(k:X)<(y L:X):=by omega);(have b:k=y L:=by omega);obtain⟨c,HO,HT⟩:=dB (show fB e L=fB e (L.take k)by rw[b,bN]) ho W;clear ho W b;go_wp2;go_ret;exact⟨_,rfl,by rw[ae c];exact HO,HT⟩)
def lV(a:X)(c:OY):E:=⟨c.key,if c.del then⟨#[]⟩else c.val,c.del,a⟩
def LY{e:uz}(b:X)(hp:xW a d e)(hv:∀k,bV d=H k->k<z (G a))(hr:y e<=1000000)(hz:∀cs∈e,cs.key.size<=140737488351232/\cs.val.size<=140737488351232):cw bF 71 #[d,.int .u64 b] a λcu w'=>∃v',cu=.returned v'/\w'.ownsRow (z<|G a) 164 4 v' (y e) (aE<|e.map<|lV b)/\Z (λ_=>False) a w':=by
 have cx:∀(cs:Bool)(a:Y),(Op.unary .not<|.bool cs).run bF a=.ok (.bool<|!cs) a:=λ_ _=>rfl;obtain⟨i0,bf,bh,bi,bk⟩:=cz nQ;obtain⟨dn,cc,ch⟩:=bL hp;obtain⟨HP,HV,HZ⟩:=dB hp hv hz;clear hp hv hz;subst ch;go_in
 go_wp2_with(at_make;refine lG _ rfl _ _ 101 rfl (z<|G a) 164 i0 wP 4 underlying101 bf bh bi _ _ _ (y e) rfl rfl rfl (by rw[bk];omega) (by unfold maxLen;omega) (ah _) ?_;intro w1 Q P;have ad:=U Q;have bm:=U P;clear Q P)
 go_loopw [5,14] (λo cb wr=>∃(k:M),k<=y e/\cb=.int .i64 k/\wr.ownsRow (z<|G a) 164 4 o k (aE<|(e.take k).map<|lV b)/\Z (λ_=>False) a wr) (λ_ cb _=>y e-(intOf cb).toNat)
 case atStart=>exact⟨0,bw _,rfl,ad,Z.dM bm<|by simp⟩
 case round=>
  obtain⟨k,hk,rfl,ho,E⟩:=hrel;obtain⟨nx,nc,ck⟩:=aB ho;subst ck;by_cases A:k<y e
  .have e1:(k:X)<(y e:X):=by omega
   obtain⟨ce,⟨bx,cM⟩|⟨ca,f,cE,bx,cj,hc⟩⟩:=ae HP
   .exfalso;omega
   cases bx;have N:ca<z (G a):=HV ca rfl;have hg:=kT e k A;have cT:ca<z (G wr):=ag N E.size;have cm:aS wr ⟨ca,f+k*3,none⟩=H (.string e[k].key):=E.cell (hc _ _ hg.1) id N;have cn:aS wr ⟨ca,f+k*3+1,none⟩=H (.string e[k].val):=E.cell (by rw[aV];exact hc _ _ hg.2.1) id N;have co:aS wr ⟨ca,f+k*3+2,none⟩=H (.bool e[k].del):=E.cell (by rw[aV];exact hc _ _ hg.2.2) id N;have cp:=HZ _<|ap A;obtain⟨bn,HO,HT⟩:=dB (show(e.take<|k+1).map (lV b)=(e.take k).map (lV b)++[lV b e[k]]by rw[ai A,aM];rfl) ho E;clear hg hc ce cj ho E;generalize e[k]=cs at*;obtain⟨g,p,l⟩:=cs;simp only at cm cn co cp;have bs:=λau=>vk g au (by omega);have bt:=λau=>vk p au (by omega);go_wp2_with fail
   rename_i QQ KK bo;have m:(ct wr<|.cells #[.string g,.string p,.bool l] 42).heap[z<|G wr]?=H (.cells #[.string g,.string p,.bool l] 42 (0,0)):=aC _ rfl;have bc:Z (λ_=>False) a (ct wr<|.cells #[.string g,.string p,.bool l] 42):=HT.alloc _;have ba:=aR HO<|.cells #[.string g,.string p,.bool l] 42;generalize ct wr (.cells #[.string g,.string p,.bool l] 42)=j at m bc ba|-;generalize z (G wr)=r at m|-;have x:aS j.drew ⟨r,0,none⟩=H (.string g)/\aS j.drew ⟨r,2,none⟩=H (.bool l):=⟨by show aS j _=_;rw[bR m];rfl,by show aS j _=_;rw[bR m];rfl⟩;have B:=aj m;obtain⟨w,bl,al,W⟩:=gx (show∀i,Z (λ_=>False) j i->aS i ⟨r,0,none⟩=H (.string g)/\aS i ⟨r,2,none⟩=H (.bool l)fromλi a=>⟨a.cell x.1 id B,a.cell x.2 id B⟩) m bc ba;clear m bc ba;refine cg (λi=>aS i ⟨r,0,none⟩=H (.string g)/\aS i ⟨r,2,none⟩=H (.bool l)) 8 (by kernel_rfl) ?_;refine cQ 0 ?_;iterate 2 (refine eE (v:=?_) x rfl (by kernel_rfl) iO rfl ?_ ?_;rotate_left;(focus(rintro i⟨z0,z2⟩;go_simp;try rfl));simp only[Act.put,cX,Nat.reduceAdd])
   apply eh;refine cQ 3 ?_;iterate 3 (refine eE (v:=?_) x rfl (by kernel_rfl) iO rfl ?_ ?_;rotate_left;(focus(rintro i⟨z0,z2⟩;go_simp;try rfl));simp only[Act.put,cX,Nat.reduceAdd])
   apply eh;refine tN (α:=M) (λc au=>Z (λ_=>False) j au/\au.heap[c]?=H (.cells #[.string ⟨#[]⟩,.string ⟨#[]⟩,.bool bE,.int .u64 0] 164 (0,0))/\z (G j)<=c) (λc=>{tmps:=#[.slice (H ⟨ca,f,none⟩) (y e) cc,.int .u64 b,iC,iC,.slice none 0 0,.slice nx k nc,iC,.pointer<|H ⟨r,0,none⟩,.pointer<|H ⟨c,0,none⟩,.slice (H ⟨ca,f,none⟩) (y e) cc,.int .i64<|y e,.slice (H ⟨z<|G a,0,none⟩) 0<|y e,.slice (H ⟨ca,f,none⟩) (y e) cc,.int .i64<|y e,.int .i64 k,.bool bU,.pointer<|H ⟨ca,f+k*3,none⟩,.agg #[.string g,.string p,.bool l],.pointer<|H ⟨r,0,none⟩,.string g,.string g,.pointer<|H ⟨r,2,none⟩,.bool l,.int .u64 b,.agg #[.string g,.string ⟨#[]⟩,.bool l,.int .u64 b],u25,u26,u27,u28,u29,u30,u31,u32,u33,u34,u35,u36,iC],defers:=[]}) #[true,true,true,true,true,true,true,true,false] 1 ?_ ?_
   .intro br;refine sK (i:=2) (j:=7) rfl rfl rfl rfl (by kernel_rfl) ?_ ?_
    .intro dm hK;go_simp;apply(bs _).mono;rintro cu w4⟨rfl,L⟩;have t:Z (λ_=>False) j w4:=(bX (λ_=>False) j).ci<|Z.aT (S:=λ_=>False) L;have bp:=w w4 t;refine hK _ _ (λ_=>bp) ?_;try simp only[Act.put,cX]
     refine lJ (i:=6) (v:=?_) rfl rfl (by kernel_rfl) (by kernel_rfl) (by kernel_rfl) (by kernel_rfl) (λ_ _ _ h=>h) (Or.inl ⟨by rfl,?_⟩) bp ?_;rotate_left
     .rintro i⟨z0,z2⟩;go_simp;try with_reducible rfl
     try simp only[Act.put,cX]
     refine aJ (i:=7) rfl rfl (by kernel_rfl) ?_;intro K2 ax;go_simp;have F:=t.alloc<|.cells #[.string ⟨#[]⟩,.string ⟨#[]⟩,.bool bE,.int .u64 0] 164;refine ax _ _ (λ_=>w _ F) ?_;exact jX (br (z<|G w4) _ ⟨F,aC _ rfl,t.size⟩)<|by kernel_rfl
    .intro dm hK;go_simp;have t:Z (λ_=>False) j ((ct j<|.cells #[.string ⟨#[]⟩,.string ⟨#[]⟩,.bool bE,.int .u64 0] 164).drew):=((Z.refl (λ_=>False) j).alloc _).of_heap rfl;have L:((ct j<|.cells #[.string ⟨#[]⟩,.string ⟨#[]⟩,.bool bE,.int .u64 0] 164).drew).heap[z<|G j]?=H (.cells #[.string ⟨#[]⟩,.string ⟨#[]⟩,.bool bE,.int .u64 0] 164 (0,0)):=aC (w:=j) _ rfl;refine hK _ _ (λ_=>w _ t) ?_;refine aJ (i:=2) rfl rfl (by kernel_rfl) ?_;intro K2 ax;go_simp;apply(bs _).mono;rintro cu w5⟨rfl,bq⟩;have F:Z (λ_=>False) j w5:=t.ci<|Z.aT (S:=λ_=>False) bq;have cd:=((Z.aT (S:=λ_=>False) bq).block _ (aj L) id).trans L;have bp:=w _ F;refine ax _ _ (λ_=>bp) ?_;try simp only[Act.put,cX]
     refine lJ (i:=6) (v:=?_) rfl rfl (by kernel_rfl) (by kernel_rfl) (by kernel_rfl) (by kernel_rfl) (λ_ _ _ h=>h) (Or.inl ⟨by rfl,?_⟩) bp ?_;rotate_left
     .rintro i⟨z0,z2⟩;go_simp;try with_reducible rfl
     try simp only[Act.put,cX]
     exact jX (br (z<|G j) _ ⟨F,cd,ah _⟩)<|by kernel_rfl
   rintro c au⟨E,O,s⟩;have bv:=aj O;refine aJ (i:=8) rfl rfl (by kernel_rfl) ?_;intro dm hK;have q0:aS au ⟨c,0,none⟩=H (.string ⟨#[]⟩):=by rw[bR O];rfl
   have q1:aS au ⟨c,1,none⟩=H (.string ⟨#[]⟩):=by rw[bR O];rfl
   have q2:aS au ⟨c,2,none⟩=H (.bool bE):=by rw[bR O];rfl
   have q3:aS au ⟨c,3,none⟩=H (.int .u64 0):=by rw[bR O];rfl
   have fz:∀dk,au.frozen? ⟨c,dk,none⟩=bE:=λdk=>by simp[World.frozen?,O]
   go_simp;refine hK _ _ wu ?_;refine cO (by kernel_rfl) ?_ _;show KK _ _;apply bo;have av:ij (bZ (bZ (bZ (bZ au ⟨c,0,none⟩<|.string g) ⟨c,1,none⟩<|.string ⟨#[]⟩) ⟨c,2,none⟩<|.bool l) ⟨c,3,none⟩<|.int .u64 b) c ⟨g,⟨#[]⟩,l,b⟩:=aQ<|aQ<|aQ<|aQ O;have o:Z (λ_=>False) j (bZ (bZ (bZ (bZ au ⟨c,0,none⟩<|.string g) ⟨c,1,none⟩<|.string ⟨#[]⟩) ⟨c,2,none⟩<|.bool l) ⟨c,3,none⟩<|.int .u64 b):=(((E.setCell _ _ _<|.inr s).setCell _ _ _<|.inr s).setCell _ _ _<|.inr s).setCell _ _ _<|.inr s;have bd:=al.ci o;have bb:=o.own W<|λ_ _ d=>d;have n:=(o.block _ B id).trans bl;have dd:c≠r:=by omega
   have bT:z (G a)<=c:=aD al.size s;have cl:bV (Value.slice nx k nc)≠H c:=λcu=>by have:=(W.lt c cu).2;omega
   generalize(bZ (bZ (bZ (bZ au ⟨c,0,none⟩<|.string g) ⟨c,1,none⟩<|.string ⟨#[]⟩) ⟨c,2,none⟩<|.bool l) ⟨c,3,none⟩<|.int .u64 b)=W5 at av bd bb n|-;have d0:aS W5 ⟨r,0,none⟩=H (.string g):=by rw[bR n];rfl
   have d1:aS W5 ⟨r,1,none⟩=H (.string p):=by rw[bR n];rfl
   have d2:aS W5 ⟨r,2,none⟩=H (.bool l):=by rw[bR n];rfl
   have cv:=aj n;obtain⟨V,an,ac,cB⟩:=gx av bd bb n;clear av bd bb n o bo hK E O q0 q1 q2 q3 fz bl al W w x s bv;obtain⟨g0,g1,g2,g3⟩:=V.cells;simp only at g0 g1 g2 g3;have bu:=aj V;cases l with
   |true=>
    go_wp2_with(at_builtin;refine bQ _ rfl (.tmp 32) (.tmp 34) 101 rfl (z<|G a) 164 i0 wP 4 48 underlying101 bf bh bi bk rfl (by decide) (.slice nx k nc) k (aE<|(e.take k).map<|lV b) rfl (aR ac<|.cells #[.string g,.string ⟨#[]⟩,.bool bU,.int .u64 b] 164) ⟨z<|G W5,0,none⟩ 1 1 (aE [⟨g,⟨#[]⟩,bU,b⟩]) rfl rfl (vZ _ ⟨g,⟨#[]⟩,bU,b⟩ _) (Bn _) (by omega) (by omega) (by have:=an.size;simp;omega) ?_;intro v7 w7 C K;have u:=U C;have ao:=U K;clear C K)
    obtain⟨x7,c7,bg⟩:=aB u;subst bg;go_roundw;case rel=>
     refine⟨k+1,A,by go_num,?_,?_⟩
     .rw[ae bn,fN];exact u
     .exact(an.alloc _).trans (Z.dM (S:=λq=>bV (Value.slice nx k nc)=H q) ao.grown<|λq D=>.inl D)<|λq D=>.inr (ac.lt q D).1
    case measure=>simp[intOf];omega
   |false=>
    go_wp2_with fail
    apply(bt _).mono;rintro cu w6⟨rfl,br⟩;have F:Z (λ_=>False) W5 w6:=Z.aT br;have t:ij w6 c ⟨g,⟨#[]⟩,bE,b⟩:=(F.block _ bu id).trans V;have cd:z (G a)<=c:=bT;have bq:=(an.ci F).setCell c 1 (.string p)<|.inr bT;have bp:=(((F.mono (T:=λq=>q=c) cG).setCell c 1 (.string p)<|.inl rfl)).own ac<|λq D d=>cl (by rw[<-d];exact D);obtain⟨h0,h1,h2,h3⟩:=t.cells;simp only at h0 h1 h2 h3;have db:w6.frozen? ⟨c,1,none⟩=bE:=by unfold ij at t;simp[World.frozen?,t]
    have dc:=aj t;have ax:=U bq;have L:=U bp;clear t bq bp F br g0 g1 g2 g3 d0 d1 d2;go_wp2_with(at_builtin;refine bQ _ rfl (.tmp 32) (.tmp 34) 101 rfl (z<|G a) 164 i0 wP 4 48 underlying101 bf bh bi bk rfl (by decide) (.slice nx k nc) k (aE<|(e.take k).map<|lV b) rfl (aR L<|.cells #[.string g,.string p,.bool bE,.int .u64 b] 164) ⟨z<|G w6,0,none⟩ 1 1 (aE [⟨g,p,bE,b⟩]) rfl rfl (by have D:=vZ (bZ w6 ⟨c,1,none⟩<|.string p) ⟨g,p,bE,b⟩ 164;rwa[gz]at D) (Bn _) (by omega) (by omega) (by have:=ax.size;simp;omega) ?_;intro v7 w7 C K;have u:=U C;have ao:=U K;clear C K)
    obtain⟨x7,c7,bg⟩:=aB u;subst bg;go_roundw;case rel=>
     refine⟨k+1,A,by go_num,?_,?_⟩
     .rw[ae bn,fN];exact u
     .exact(ax.alloc _).trans (Z.dM (S:=λq=>bV (Value.slice nx k nc)=H q) ao.grown<|λq D=>.inl D)<|λq D=>.inr (L.lt q D).1
    case measure=>simp[intOf];omega
  .have e1:¬(k:X)<(y e:X):=by omega
   have c:k=y e:=by omega
   obtain⟨g,f,HO,HT⟩:=gx (show aE (e.map<|lV b)=aE ((e.take k).map<|lV b)by rw[c,bN]) c ho E;clear ho E c;go_wp2;go_ret;exact⟨_,rfl,by rw[ae g,<-ae f];exact HO,HT⟩
section
open Go.Shelf
attribute [local go_sem] Oper.semAt_some
def Pu:(prog.info? 103).map (λi=>(i.zero,i.size,i.bytes))=H (H<|aI 0,1,8):=by kernel_rfl
structure Mu(w:Y)(bm:M)(pre:eK)(B:fI)(W:Y):Prop where
 ex:∃pv,dV W (z<|G w) pv 122/\W.ownsRow (z (G w)+1) 103 1 pv (y pre) (pre.map<|Value.int .u64)/\∀k,B k↔k=z (G w)\/bV pv=H k
 ar:Z (λk=>k=bm) w W
def Mu.lt(i:Mu a b o W C):∀k,W k->z (G a)<=k/\k<z (G C):=by
 obtain⟨j,c,d,e⟩:=i.ex;intro k g;rcases(e k).1 g with rfl|h;exact⟨ah _,aj c⟩;have:=aF d k h;omega
def Mu.stays{T:fI}(m:Mu a b o W f)(g:Z T f C)(d:∀k,T k->¬W k/\(k=b\/z (G a)<=k)):Mu a b o W C:=by
 obtain⟨l,i,j,c⟩:=m.ex;exact⟨⟨l,i.ar g<|λh=>(d _ h).1<|(c _).2<|.inl rfl,g.own j<|λk e h=>(d k h).1<|(c k).2<|.inr e,c⟩,m.ar.trans g<|λk e=>(d k e).2⟩
def FY(bk:fH)(hb:dV a b (.map<|H c) 108)(hm:jw a c bk)(bc:wZ bk o)(hl:y o<=1000000):cw bF 190 #[aK,.func (.func 132) #[] #[aw b]] a λbu w'=>
 ∃c,∃au:eK,bu=aO c/\au.Perm o/\w'.ownsRow (z<|G a) 103 1 c (y au) (au.map<|Value.int .u64)/\Z (λk=>k=b) a w':=by
 obtain⟨i0,ba,bd,bf,bg⟩:=cz Pu
 have bm:=aj hb
 have W:=hm.lt
 refine(cZ (n:=3)).1 ?_
 refine callsIn_of_wp_marks func190 rfl trivial ?_ rfl
 simp only[ntmps190,eT,ay,cK,Nat.reduceAdd,Nat.reduceSub,dS,dR,eU,ew,cC,cq]
 gi_wp2
 obtain⟨D,r⟩:∃D,ct a (aq #[aK] 122)=D:=⟨_,rfl⟩
 have bp:z (G D)=z (G a)+1:=by rw[<-r];simp
 have B:Z az a D:=by rw[<-r];exact(Z.refl az a).alloc _
 have hA0:Mu a b [] (λk=>k=z (G a)) D:=⟨⟨aK,by rw[<-r];exact aC _ rfl,bJ _ _ _ _,λk=>by simp[bV]⟩,B.mono cG⟩
 rw[r]
 refine wW (m:=3) (arg:=WM) (V:=AB) (n0:=z<|G a) (gf:=132) (lb:=#[aw b]) (pp:=λau=>∃bt,(au++bt).Perm o) (ff:=λau=>au.Perm o) (S:=λk=>k=b) (λ_ h=>.inr<|.inr h) ?geval (enters_of func132 (by kernel_rfl) rfl) (λ_=>rfl) (If (z<|G a) 2 b c bk o D (hb.ar B id) (hm.dh<|B.block _ W id) bc W<|by omega) trivial (by omega) (λk e=>by omega) (λd L ao=>Mu a b d L ao) (λ_ _ _ _=>False) _ hA0 (λk e s=>by omega) (λd L ao j=>j.lt) ?st (λ_ _ _ _ _ _ h=>h.elim) ?body ?done ?stop
 case geval=>rfl
 case st=>
  intro d L ao i bs j g f;refine j.stays g<|λk e=>⟨(f k e).1,?_⟩;rcases(f k e).2 with s|s|s
  .exact .inl s
  .exact s.elim
  .exact .inr<|by omega
 case stop=>
  intro bi s d L ao _ h;exact h.elim
 case body=>
  rintro lr d bh L ao bn T ad⟨bt,u⟩j _;have bo:y d+1<=1000000:=by have:=u.length_eq;simp at this;omega
  unfold WM;simp only;have HA:=U j;clear j u;gi_wp2;refine⟨Z.refl _ _,λE g=>?_⟩;have hA2:=HA.stays g (λk e=>by subst e;exact⟨T,.inr<|by omega⟩);obtain⟨pv,C,w,Q⟩:=hA2.ex;obtain⟨K,F,x⟩:=aB w;have z0:=C.cell;have bq:=aj C;have ac:lr<z (G E):=ag ad g.size;have bl:=g.size;obtain⟨HV,P,N,av,ax⟩:=jR C w Q g hA2.ar;clear C w Q g hA2;subst x;have HX:=U (show∀(l:aa)(p:Y),p.ownsRow (z (G a)+1) 103 1 l (y d+1) (d.map (Value.int .u64)++[aI bh])->eR (ct E<|aq #[aI bh] 103) p (I K (y d) F) l->(aS p (R (z<|G a) 0)=H (I K (y d) F)/\p.frozen? (R (z<|G a) 0)=bE)/\Bi AB (λd L ao=>Mu a b d L ao) (λ_ _ _ _=>False) (d++[bh]) L ao E lr .normal ⟨#[],[]⟩ (bZ p (R (z<|G a) 0) l)fromλl p f i=>by
   have al:=(Z.refl az E).alloc<|aq #[aI bh] 103;have an:=Z.fy i;have bb:¬(bV (I K (y d) F)=H (z<|G a)):=λs=>by have:=(P.lt _ s).1;omega
   have v:dV p (z<|G a) (I K (y d) F) 122:=(HV.ar al id).ar an bb;have A:Z L E (bZ p (R (z<|G a) 0) l):=((al.mono (T:=L) cG).trans (an.mono (T:=L)<|λk e=>.inl<|(N k).2<|.inr e)<|λk e=>.inl e).setCell _ 0 _<|.inl<|(N _).2<|.inl rfl;refine⟨⟨v.cell,v.free⟩,trivial,λk=>k=z (G a)\/bV l=H k,⟨⟨l,v.set l,?_,λk=>qU⟩,ax.trans A<|λk e=>.inr (by rcases(N k).1 e with s|s;omega;have:=(P.lt _ s).1;omega)⟩,(av.mono<|λk e=>.inl<|.inr e).trans A<|λk e=>.inl<|.inl e,A.block lr ac T,λk e=>?_⟩
   .rw[af,aM];exact(rk _ _ 0 _).own f (λk e s=>by have:=(aF f k e).1;omega)
   .rcases e with s|s
    .exact .inl<|(N k).2<|.inl s
    .rcases i.uc with q|⟨br,q,hy⟩
     .exact .inl<|(N k).2<|.inr<|q▸s
     .rw[q]at s;cases s;exact .inr (by simp at hy;omega))
  gi_wp2_with(first
   |(gi_at_builtin;refine dY _ rfl (.tmp 8) (.tmp 10) 122 rfl (z (G a)+1) 103 i0 (.int .u64 0) 1 8 underlying122 ba bd bf bg rfl (by decide) (.slice K (y d) F) (y d) (d.map (Value.int .u64)) rfl (aR P _) (R (z (G E)) 0) 1 1 [.int .u64 bh] rfl rfl (pH _ _ _) (by simp[Value.oneCell']) (by omega) (by omega) (by simp;omega) ?_;intro l p f i;obtain⟨⟨y0,y1⟩,t⟩:=HX l p f i;obtain⟨x6,c6,rfl⟩:=aB f;have O:=U t;clear f i t))
  exact O
 case done=>
  intro au bi L ao f A j l _ t;obtain⟨pv,C,w,Q⟩:=j.ex;obtain⟨K,F,x⟩:=aB w;have z0:=C.cell;have p:bV pv≠H bi:=λq=>l<|(Q bi).2<|.inr q;obtain⟨P,u,v,i⟩:=gx w t j.ar f;have E:=aj t;clear j C w Q t f;subst x;gi_wp2;have g:=gE ao bi<|.deferred none;refine⟨by simp,.inl ⟨_,_,rfl,run_takeDeferred u,?_⟩⟩;refine⟨_,gL rfl _ _ _,?_⟩;exact⟨_,au,rfl,i,eS (g.own P<|λk e q=>p (by rw[<-q];exact e)) (by omega),v.trans g<|λk e=>.inr (by subst e;omega)⟩
def Jq(m:fH)(n:dV a b (.map<|H c) 108)(q:jw a c m)(f:wZ m o)(p:y o<=1000000):cw bF 130 #[.func (.func 132) #[] #[aw b]] a λr k=>
 ∃g,∃l:eK,r=aO g/\l.Perm o/\k.ownsRow (z<|G a) 103 1 g (y l) (l.map<|Value.int .u64)/\Z (λd=>d=b) a k:=by
 have h:=FY m n q f p
 go_in
 go_wp2_with fail
 apply h.mono
 rintro r u⟨g,l,rfl,i,e,j⟩
 obtain⟨t,s,rfl⟩:=aB e
 have d:=U<|And.intro i (And.intro e j)
 clear i e j
 go_wp2
 go_ret
 exact⟨_,l,rfl,d.1,d.2.1,d.2.2⟩
end
section
open Go.Shelf
def We(x:X)(w:Y):cw bF 268 #[aI x] w λe a=>e=aO (aL bE)/\a=w:=by
 go_in
 go_wp2;go_ret;exact⟨by simp,rfl⟩
def GQ(x a:X)(w:Y):cw bF 236 #[aI x,aI a] w λe b=>e=aO (aL<|decide<|x<a)/\b=w:=by
 have h:=We x w;go_in
 go_wp2_with(go_at_call 268;refine h.mono ?_;rintro e b⟨rfl,rfl⟩)
 go_ret;exact⟨by simp,rfl⟩
def Qf(g:b+1<y o):((o.set (b+1) o[b]).set b o[b+1]).Perm o:=by
 have d:o=o.take b++o[b]::o[b+1]::o.drop (b+2):=by rw[<-bD (by omega),<-bD (by omega),bW]
 have a:y (o.take b)=b:=by simp;omega
 have e:(o.set (b+1) o[b]).set b o[b+1]=o.take b++o[b+1]::o[b]::o.drop (b+2):=by apply pO;intro i;rw[List.getElem?_set,List.getElem?_set];rcases kA i b with c|c|c;rw[cY (by omega),cY (by omega),gd (by omega),lN c];subst c;rw[dw rfl,dw (by simp;omega),dD (by omega),a];simp;rcases Nat.eq_or_lt_of_le (show b+1<=i by omega)with f|f;subst f;rw[cY (by omega),dw rfl,dw (by omega),dD (by omega),a];simp;rw[cY (by omega),cY (by omega),dD (by omega),a];obtain⟨k,rfl⟩:∃k,i=b+2+k:=⟨i-b-2,by omega⟩;rw[show b+2+k-b=k+2 by omega];simp
 rw[e];conv=>rhs;rw[d]
 exact lz _<|List.Perm.swap _ _ _
def Uv(k i:M)(n:eK)(r:a.ownsRow b 103 1 (bC k 0 (y n) i) (y n) (n.map<|Value.int .u64))(hn:y n<=12):cw bF 230 #[bC k 0 (y n) i,am 0,am<|y n] a λau N=>au=aO (dA #[])/\∃m:eK,m.Perm n/\N.ownsRow b 103 1 (bC k 0 (y m) i) (y m) (m.map<|Value.int .u64)/\Z (λt=>t=k) a N:=by
 obtain⟨L,E⟩:∃L,y n=L:=⟨_,rfl⟩;rw[E]at r hn|-;go_in
 go_wp2;go_loopw [6] (λc wr=>∃(p:M)(m:eK),c=am p/\1<=p/\y m=L/\m.Perm n/\wr.ownsRow b 103 1 (bC k 0 L i) L (m.map<|Value.int .u64)/\Z (λt=>t=k) a wr) (λc _=>L-(intOf c).toNat)
 case atStart=>exact⟨1,n,rfl,by omega,E,np _,r,Z.refl _ _⟩
 (case round=>obtain⟨p,m,rfl,ad,d,e,c,f⟩:=hrel;by_cases ac:p<L;(·(have S:(p:X)<(L:X):=by omega);have j:=U<|And.intro d (And.intro e (And.intro c f));clear d e c f r;go_wp2;(go_loopw [7] (λA c=>∃(B:M)(m:eK),A=am B/\B<=p/\y m=L/\m.Perm n/\c.ownsRow b 103 1 (bC k 0 L i) L (m.map<|Value.int .u64)/\Z (λt=>t=k) a c) (λA _=>(intOf A).toNat));(case atStart=>exact⟨p,m,rfl,ah _,j.1,j.2.1,j.2.2.1,j.2.2.2⟩);(case round=>obtain⟨B,m,rfl,al,d,e,c,f⟩:=hrel;rcases fS B with D|D;(.subst D;have g:=U<|And.intro d (And.intro e (And.intro c f));clear d e c f;(go_wp2_with fail);(go_quiet(fail));go_wp2;go_roundw;(case rel=>exact⟨p+1,m,by go_num,by omega,g.1,g.2.1,jc g.2.2.1 rfl,g.2.2.2.of_heap rfl⟩);case measure=>simp[intOf];omega);(.obtain⟨q,rfl⟩:∃q,B=q+1:=⟨B-1,by omega⟩;obtain⟨_,⟨P,_⟩|⟨b',K,C,P,w,v⟩⟩:=dF c;cases P;cases P;have c1:=v (q+1) (aI<|m[q+1]'(by omega)) (by rw[dz,aH<|by omega];rfl);have Q:=v q (aI<|m[q]'(by omega)) (by rw[dz,aH<|by omega];rfl);simp only[cR]at Q c1;have W:=(c.lt k rfl).2;(have l:∀A,wr.frozen? (R k A)=bE:=by intro A;obtain⟨T,s⟩:=fD c (k:=k) rfl;exact dJ s);have f1:=l<|q+1;have f0:=l q;have O:=U (show∀s,(s=bZ (bZ wr (R k<|q+1)<|aI<|m[q]'(by omega)) (R k q) (aI<|m[q+1]'(by omega)))->∃o:eK,y o=L/\o.Perm n/\s.ownsRow b 103 1 (bC k 0 L i) L (o.map<|Value.int .u64)/\Z (λt=>t=k) a s from by rintro s rfl;refine⟨(m.set (q+1) m[q]).set q m[q+1],by simpa using d,(Qf<|by omega).trans e,?_,(f.setCell _ _ _<|.inl rfl).setCell _ _ _<|.inl rfl⟩;have u:=(World.ownsRow.stored (World.ownsRow.stored c (q+1)<|aI<|m[q]'(by omega)).1 q<|aI<|m[q+1]'(by omega)).1;rw[nJ,nJ];exact u);have g:=U<|And.intro d (And.intro e (And.intro c f));have F:L<=i:=w;(have e2:(q:X)+1<(L:X):=by omega);(have e3:(q:X)<(L:X):=by omega);(have e4:(0:X)<(q:X)+1:=by omega);(have e5:(0:X)<=(q:X):=by omega);(have an:q+1<y m:=by omega);generalize m[q+1]=x at*;generalize m[q]'(by omega)=av at*;clear d e c f v l;by_cases ao:x<av;(·(go_wp2_with fail);(go_quiet(first|(go_at_call 236;refine Calls.quiet_of_same (GQ _ _ _))));(go_wp2_with fail);(go_region);go_wp2;go_roundw;(case rel=>obtain⟨o,u,s,T,V⟩:=O _ rfl;exact⟨q,o,by go_num,by omega,u,s,jc T rfl,V.of_heap rfl⟩);case measure=>simp[intOf]);(·(go_wp2_with fail);(go_quiet(first|(go_at_call 236;refine Calls.quiet_of_same (GQ _ _ _))));go_wp2;go_roundw;(case rel=>exact⟨p+1,m,by go_num,by omega,g.1,g.2.1,jc g.2.2.1 rfl,g.2.2.2.of_heap rfl⟩);case measure=>simp[intOf];omega))));(have S:¬((p:X)<(L:X)):=by omega);have j:=U<|And.intro d (And.intro e (And.intro c f));clear d e c f r;go_wp2;go_end0;exact⟨rfl,m,j.2.1,by rw[(ae j).1];exact j.2.2.1,j.2.2.2⟩)
def Uw(l:eK)(e:a.ownsRow b 103 1 d (y l) (l.map<|Value.int .u64))(t:y l<=12):cw bF 230 #[d,am 0,am<|y l] a λv g=>v=aO (dA #[])/\∃m:eK,m.Perm l/\g.ownsRow b 103 1 d (y m) (m.map<|Value.int .u64)/\Z (λw=>bV d=H w) a g:=by
 rcases e.2 with⟨rfl,n⟩|⟨x,c,k,rfl,p,A,u,q,r,f⟩;(.obtain rfl:=aP n;(go_in);go_wp2;refine ld 1 ?_;rw[gZ];go_wp2;go_end0;exact⟨rfl,[],np _,e,Z.refl _ _⟩);apply(Uv x c l e t).mono;rintro v g⟨rfl,m,i,j,o⟩;refine⟨rfl,m,i,?_,o.mono<|λw s=>.inl (by rw[s];rfl)⟩;rw[i.length_eq]at j|-;exact j
def TL(l:eK)(k:X)(c:a.ownsRow b 103 1 d (y l) (l.map<|Value.int .u64))(i:y l<=12):cw bF 191 #[d,am 0,am<|y l,am k] a λn e=>n=aO (dA #[])/\∃m:eK,m.Perm l/\e.ownsRow b 103 1 d (y m) (m.map<|Value.int .u64)/\Z (λk=>bV d=H k) a e:=by
 have h:=Uw l c i;obtain⟨x,p,j⟩:=aB c;have o:(y l:X)<=12:=by omega
 subst j;clear c;go_in
 go_wp2;refine ld 1 ?_;rw[gZ];go_wp2_with fail
 apply h.mono;rintro n e⟨rfl,f⟩;have g:=U f;clear f;go_wp2;refine cI (iQ rfl _ _ _) rfl ?_;exact⟨rfl,g⟩
def Ry(n:M)(c:n<=4)(w:Y):cw bF 240 #[aI n] w λe b=>(∃k,e=aO (am k))/\b=w:=by
 have a:n=0\/n=1\/n=2\/n=3\/n=4:=by omega
 rcases a with rfl|rfl|rfl|rfl|rfl;(all_goals(go_in);go_wp2;go_ret;exact⟨⟨_,rfl⟩,rfl⟩)
def Wn(n:M)(b:n<=4)(w:Y):cw bF 192 #[aI n] w λe a=>(∃k,e=aO (am k))/\a=w:=by
 have h:=Ry n b w;go_in
 go_wp2_with(go_at_call 240;refine h.mono ?_;rintro e a⟨⟨k,rfl⟩,rfl⟩)
 go_wp2;go_ret;exact⟨⟨_,rfl⟩,rfl⟩
def Qs(l:eK)(e:a.ownsRow b 103 1 d (y l) (l.map<|Value.int .u64))(m:y l<=4):cw bF 131 #[d] a λi c=>i=aO (dA #[])/\∃o:eK,o.Perm l/\c.ownsRow b 103 1 d (y o) (o.map<|Value.int .u64)/\Z (λk=>bV d=H k) a c:=by
 have h:=λk=>TL l k e (by omega);have j:=Wn (y l) m a;obtain⟨x,q,n⟩:=aB e;subst n;clear e;go_in
 go_wp2_with fail
 apply j.mono;rintro i c⟨⟨k,rfl⟩,p⟩;subst c;go_wp2_with fail
 apply(h k).mono;rintro i c⟨rfl,f⟩;have g:=U f;clear f;go_wp2;go_end0;exact⟨rfl,g⟩
def Kg{bm b:M}(u:fH){w:Y}(x:dV w bm (.map<|H b) 108)(A:jw w b u)(q:wZ u o)(C:y o<=4):cw bF 83 #[.func (.func 132) #[] #[aw bm]] w λv t=>
 ∃i,∃s:eK,v=aO i/\s.Perm o/\t.ownsRow (z<|G w) 103 1 i (y s) (s.map<|Value.int .u64)/\Z (λk=>k=bm) w t:=by
 have h:=Jq u x A q<|by omega
 go_in
 go_wp2_with fail
 apply h.mono
 rintro v K⟨i,s,rfl,m,g,r⟩
 have B:=Qs s g (by have:=m.length_eq;omega)
 have c:∀k,bV i=H k->z (G w)<=k:=λk n=>(aF g k n).1
 obtain⟨F,E,p⟩:=aB g
 have a:=U<|And.intro m r
 have l:=U c
 clear m g r c
 subst p
 go_wp2_with fail
 apply B.mono
 rintro v L⟨rfl,D,d,e,f⟩
 have j:=U<|And.intro d (And.intro e f)
 clear d e f
 go_wp2
 go_ret
 exact⟨_,D,rfl,j.1.trans a.1,j.2.1,a.2.trans j.2.2<|λk n=>.inr<|l k n⟩
end
section
open Go.Shelf
abbrev fR:=cr<|M×M
def AQ(a:fR):fH:=a.map<|λp=>((p.1:X),aI (p.2:X))
def so(a:fR):eK:=a.map<|λp=>(p.2:X)
def VL(a:fR):wZ (AQ a) (so a):=by simp[wZ,AQ,so]
def oI(a:fR):y (so a)=y a:=by simp[so]
def Vt{c:eK}(h:o.Perm c)(p:X->Bool):o.any p=c.any p:=by
 rw[wk,iZ,iZ];exact⟨λ⟨x,a,b⟩=>⟨x,h.mem_iff.1 a,b⟩,λ⟨x,a,b⟩=>⟨x,h.mem_iff.2 a,b⟩⟩
def NJ{a:eK}(h:o.Perm a)(p:Option E)(e:E):pq o p e=pq a p e:=by
 cases p with
 |none=>rfl
 |some q=>unfold pq;simp only[Vt h]
def En{a:eK}(h:o.Perm a):∀(l:cA)(p:Option E),kM o p l=kM a p l
 |[],_=>rfl
 |e::r,p=>by rw[kM,kM,NJ h,En h r]
def Em{a:eK}(h:o.Perm a)(l:cA):eG o l=eG a l:=En h l none
def JS(v:Option M)(w:Y):cw bF 84 #[.map v] w λe a=>e=aO (.func (.func 132) #[] #[aw<|z<|G w])/\a=ct w (aq #[.map v] 108):=by
 go_in
 go_wp2;go_ret;exact⟨rfl,rfl⟩
def rA{c b:M}(f:fR)(h:bK a c n m)(q:n.lT=H b)(i:jw a b (AQ f))(u:y f<=4):cw bF 51 #[aw c] a λt r=>∃l,∃k:eK,t=aO l/\k.Perm (so f)/\r.ownsRow (z<|G a) 103 1 l (y k) (k.map<|Value.int .u64)/\Z az a r:=by
 have s:aS a (R c 16)=H (.map<|H b):=by rw[<-q];exact h.cell rfl
 have e:=(Z.refl az a).alloc<|aq #[.map<|H b] 108;have j:=Kg (bm:=z<|G a) (b:=b) (AQ f) (w:=(ct a<|aq #[.map<|H b] 108)) (aC _ rfl) (i.dh<|e.block _ i.lt id) (VL f) (by rw[oI];exact u);clear h q i;go_in
 go_wp2_with fail
 apply(JS _ _).mono;rintro t w⟨rfl,v⟩;subst w;go_wp2_with fail
 apply j.mono;rintro t C⟨l,x,rfl,o,g,p⟩;obtain⟨B,A,rfl⟩:=aB g;have d:=U<|And.intro o (And.intro g p);clear o g p;go_wp2;go_ret;exact⟨_,x,rfl,d.1,eS d.2.1 (by simp),e.trans d.2.2<|λm a=>.inr<|by omega⟩
def AW(f:M)(ad:SR)(u:X)(v:fR)(C:aa)(Q:cA)(h:bK a f ad u)(V:ad.lT=H b)(F:jw a b (AQ v))(h4:y v<=4)(E:ku a ad.memory e)(p:∀u,bV ad.memory=H u->u<z (G a))(D:ku a C Q)(o:∀u,bV C=H u->u<z (G a))(r:dQ e)(hl:y e+y Q<=1000000):cw bF 73 #[aw f,C] a λac w'=>∃W,ac=aO W/\w'.ownsRow (z<|G a) 164 4 W (y<|eG (so v)<|fB e Q) (aE<|eG (so v)<|fB e Q)/\Z az a w':=by
 have S:=bK.cellAt h 7 rfl;have m:=SY E D r (by omega) p o;obtain⟨x1,n1,t⟩:=bL E;obtain⟨x2,n2,K⟩:=bL D;have HM:=U<|λ(P:Y)(c:Z az a P)=>rA (b:=b) v (h.ar c id) V (F.dh<|c.block _ F.lt id) h4;rw[t]at S m;clear h V F E p D o t;subst K;go_in
 go_wp2_with fail
 apply m.mono;rintro ac P⟨v1,rfl,i,k⟩;have q:=HM P k;obtain⟨y1,d1,L⟩:=aB i;have w:=U i;have A:=U k;clear i k m S;subst L;go_wp2_with fail
 apply q.mono;rintro ac w2⟨v2,ms,rfl,T,d,l⟩;have c:=l.own w<|λ_ _ a=>a;have g:=zq ms (dF c) (r.fB Q) (aD (wX e Q) hl) (dF d) (by have:=T.length_eq;rw[oI]at this;omega) (λu a=>(aF c u a).2)<|λu a=>(aF d u a).2;rw[Em T]at g;obtain⟨y2,d2,N⟩:=aB d;have n:=U<|A.ci l;clear d l c q;subst N;go_wp2_with fail
 apply g.mono;rintro ac w3⟨v3,rfl,j,s⟩;obtain⟨y3,d3,O⟩:=aB j;have x:=U<|eS (base':=z<|G a) j n.size;have B:=U<|n.ci s;clear j s g;subst O;go_wp2;go_ret;exact⟨_,rfl,x,B⟩
def oW:fR->X->Option M
 |[],_=>none
 |p::r,n=>if(p.1:X)=n then H p.2 else oW r n
def Pc(n:X):∀b:fR,(AQ b).get n=(oW b n).map (λc:M=>aI c)
 |[]=>rfl
 |p::r=>by
  have a:=Pc n r;unfold AQ at a|-;rw[aX,fH.get,oW];split
  .rfl
  .exact a
def uq(j:X)(h:bK a b n m)(f:n.closed=bU):cw bF 49 #[aw b,am j] a λi g=>i=aO (dA #[aI 0,lE 6])/\Below (z<|G a) a g:=by
 have c:=ja h;rw[f]at c;simp only[jf]at c;have d:lE 6=.iface 55 (am 6):=rfl;rw[d]at c|-;clear h;go_in
 go_wp2_with fail
 apply c.mono;rintro i k⟨rfl,e⟩;go_wp2;go_ret2
 exact⟨rfl,e⟩
def rB(p:X)(g:fR)(h:bK a b n m)(v:n.closed=bE)(t:n.lT=H c)(k:jw a c (AQ g)):cw bF 49 #[aw b,.int .i64 p] a λs q=>s=.returned (match oW g p with|some B=>.tuple #[.int .u64 (B:X),.nilIface]|none=>.tuple #[.int .u64 0,lE 5])/\Below (z<|G a) a q:=by
 have l:=ja h;rw[v]at l;simp only[io,ke]at l;obtain⟨C,j,o,w,x⟩:=cz Pu
 have i:=U (show∀d,Below (z<|G a) a d->aS d (R b 16)=H (.map<|H c)/\(Instr.lookup 108 (.map<|H c) (am p) bU).run bF d=.ok (dA #[((oW g p).map (λc:M=>aI c)).getD<|aI 0,aL ((oW g p).map (λc:M=>aI c)).isSome]) d fromλd e=>by
  refine⟨?_,?_⟩
  .rw[<-t];exact(h.ar (Z.aT (S:=az) e) id).cell rfl
  .rw[<-Pc];exact VR underlying108 underlying3 j o (k.dh (e.block _ k.lt)) p)
 clear h t k;have f:cw bF 42 #[aw b] a λs q=>s=aO .nilIface/\Below (z<|G a) a q:=l;have u:lE 5=.iface 55 (am 5):=rfl;rw[u];cases hg:oW g p with
 |none=>
  rw[hg]at i;clear hg;go_in
  go_wp2_with fail
  apply f.mono;rintro s d⟨rfl,e⟩;obtain⟨A,r⟩:=i d e;simp only[Option.map_none,uB,Option.isSome_none]at r;go_wp2;go_ret2
  exact⟨rfl,e⟩
 |some B=>
  rw[hg]at i;clear hg;go_in
  go_wp2_with fail
  apply f.mono;rintro s d⟨rfl,e⟩;obtain⟨A,r⟩:=i d e;simp only[Option.map_some,gW,Option.isSome_some]at r;go_wp2;go_ret2
  exact⟨rfl,e⟩
end
