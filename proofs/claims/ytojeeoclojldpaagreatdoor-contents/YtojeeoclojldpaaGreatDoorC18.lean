import Derived.Test.YtojeeoclojldpaaGreatDoorC14
import Derived.Test.YtojeeoclojldpaaGreatDoorC15
open _root_ renaming List.length→y,Option.some→H,Array.size→z,Go.World.heap→G,Go.Value.ownBlock→bV,Go.World.cell?→aT,Go.World.setCell→bZ,Go.World.alloc→ct,Bool.false→bF,Bool.true→bW,Nat→M,Int→Z,Go.Calls→cy,Go.undef→iB,Go.Proofs.Tryz.prog→bG,Go.Value.slice→J,Go.Value.string→ai,Go.Value.bool→aL
namespace Go.Proofs.YtojeeoclojldpaaGreatDoor
open ChangeShapes WideShapes RowKit Proofs.Tryz
set_option maxHeartbeats 16000000
set_option linter.all false
set_option maxRecDepth 100000
variable{a:I}{b c g l:M}{d s:aa}{e L:cA}{w:E}{x:iU}
section
open Go.Shelf
def RM{a d:iU}(h:y x=b*4)(i:c<=b)(j:y a=4)(k:y d=(b+1-c)*4+g):(((x.take (c*4)++d).take (c*4)++a++(x.take (c*4)++d).drop (c*4+y a)).take ((c+1)*4)++x.drop (c*4)++((x.take (c*4)++d).take (c*4)++a++(x.take (c*4)++d).drop (c*4+y a)).drop ((c+1)*4+y (x.drop<|c*4))).take ((b+1)*4)=x.take (c*4)++a++x.drop (c*4):=by
 have e:y (x.take<|c*4)=c*4:=by rw[dL];omega
 have f:(x.take (c*4)++d).take (c*4)=x.take (c*4):=oF e;rw[f,oF (by simp;omega),oF (by simp;omega)]
def LF(e L n i:M)(A:Array aa)(d:iU)(bb:e<=z (G a))(hg:a.heap[L]?=H (ar A 164 (0,0)))(ba:A.size=n*4)(t:A.toList.take (n*4)=d)(hv:ii a b w)(hi:i<n)(hn:n<=1000000000)(h1:∀an∈d,an.oneCell'=bW):cy bG 181 #[bD L 0 n n,ap i,bD b 0 1 1] a λcb w'=>∃c,cb=aO (bD (z<|G a) 0 (n+1) c)/\w'.ownsRow e 164 4 (bD (z<|G a) 0 (n+1) c) (n+1) (d.take (i*4)++aF [w]++d.drop (i*4))/\Y aB a w':=by
 have K:y d=n*4:=by rw[<-t,dL,iE];omega
 have av:=ak hg;have bg:=ak hv;obtain⟨i0,bc,bh,bi,ac⟩:=cz nP;have D:(prog.info? 164).map (·.size)=H 4:=by kernel_rfl
 have T:(n:Z)+1-(i:Z)=((n+1-i:M):Z):=by omega
 have C:i+(n+1-i)=n+1:=by omega
 have x:(Builtin.firstCells i0.size i<|bD L 0 i n).run bG a.drew=.ok (d.take<|i*4).toArray a.drew:=by
  rw[bi];exact run_firstCells_some a.drew 4 i (R L 0) i n (d.take<|i*4) (by rw[dL];omega) (λbm an v=>by
   rw[dt,cQ];rw[mz]at v;split at v
   .have:=qd (w:=a.drew) hg t bm an 0 (by simpa using v);simpa using this
   .cases v)
 have s:∀j,(Builtin.append_ #[102,3] j #[bD L 0 i n,ap<|(n:Z)+1-(i:Z)]).run bG a=.ok (bD (z<|G a) 0 (n+1)<|grownCap a (n+1) n 164) (ct a.drew<|ar ((d.take<|i*4).toArray++Builtin.zeroCells wO.cells (n+1-i)++Builtin.zeroCells wO.cells (grownCap a (n+1) n 164-(n+1))) 164):=λj=>by have h:=Lib.run_append_grow_zeros a 102 3 j 164 i0 _ .i64 .i64 underlying102 underlying3 bc bh (H<|R L 0) i n (d.take<|i*4) x (n+1-i) (by omega) (by omega) (by omega) (by omega) (by rw[ac];omega) (by rw[ac,C];exact sA (by omega)<|by omega);rw[C]at h;rw[T];exact h
 obtain⟨c,hG⟩:∃c,c=grownCap a (n+1) n 164:=⟨_,rfl⟩;rw[<-hG]at s;have au:n+1<=c:=by rw[hG];exact grownCap_ge a _ _ _
 have P:c<=maxLen:=by rw[hG];exact sB a (n+1) n _ (by unfold maxLen;omega)
 have bk:c<=9223372036854775807:=by unfold maxLen at P;omega
 obtain⟨zs,l⟩:∃zs:iU,zs=(Builtin.zeroCells wO.cells (n+1-i)++Builtin.zeroCells wO.cells (c-(n+1))).toList:=⟨_,rfl⟩;have ad:y zs=(n+1-i)*4+(c-(n+1))*4:=by rw[l];simp[Builtin.zeroCells,wO,Value.cells]
 have k:((d.take<|i*4).toArray++Builtin.zeroCells wO.cells (n+1-i)++Builtin.zeroCells wO.cells (c-(n+1)))=(d.take (i*4)++zs).toArray:=by rw[l,Array.append_assoc];apply Array.ext';simp
 rw[k]at s;have F:y (aF [w])=4:=rfl;have X:y (d.drop<|i*4)=(n-i)*4:=by rw[ix,K];omega
 obtain⟨f,p⟩:∃f,f=d.take (i*4)++zs:=⟨_,rfl⟩;obtain⟨g,q⟩:∃g,g=f.take (i*4)++aF [w]++f.drop (i*4+y (aF [w])):=⟨_,rfl⟩;obtain⟨m,r⟩:∃m,m=g.take ((i+1)*4)++d.drop (i*4)++g.drop ((i+1)*4+y (d.drop<|i*4)):=⟨_,rfl⟩;have bd:y f=c*4:=by rw[p,af,dL];omega
 have bf:y g=c*4:=by rw[q];simp only[af,dL,ix];omega
 have V:y m=c*4:=by rw[r];simp only[af,dL,ix];omega
 have u:m.take ((n+1)*4)=d.take (i*4)++aF [w]++d.drop (i*4):=by rw[r,q,p];exact RM K (by omega) rfl ad
 rw[<-p]at s;have Q:∀(W:I),W.heap[z<|G a]?=H (ar f.toArray 164 (0,0))->W.heap[b]?=a.heap[b]?->∀j o,(Builtin.copy_ #[102,101] j #[bD (z<|G a) (i*4) (n+1-i) o,bD b 0 1 1]).run bG W=.ok (goInt<|Nat.min 1<|n+1-i) (W.setRow (z<|G a) g.toArray):=λW hW B j o=>by rw[q];refine qU W _ _ j 164 4 (z<|G a) (i*4) _ o (R b 0) _ 1 f.toArray _ (aF [w]) underlying102 D hW ?_ (λbm an v=>?_) (by simp;omega)<|Bk w;rw[F];simp only[wQ];split<;>omega;rw[dt,bN<|B.trans hv,cQ];simpa[aF,E.cells]using v
 have S:∀(W:I),W.heap[z<|G a]?=H (ar g.toArray 164 (0,0))->W.heap[L]?=a.heap[L]?->∀j o sc,(Builtin.copy_ #[102,102] j #[bD (z<|G a) ((i+1)*4) (n-i) o,bD L (i*4) (n-i) sc]).run bG W=.ok (goInt<|Nat.min (n-i)<|n-i) (W.setRow (z<|G a) m.toArray):=λW hW B j o sc=>by rw[r];refine qU W _ _ j 164 4 (z<|G a) ((i+1)*4) _ o (R L<|i*4) _ sc g.toArray _ (d.drop<|i*4) underlying102 D hW ?_ (λbm an v=>by rw[dt];exact qd (B.trans hg) t bm an _ v) (by simp;omega)<|λan hu=>h1 an<|di hu;rw[X];simp only[wQ];split<;>omega
 have hA1:((ct a<|ar f.toArray 164).drew).heap[z<|G a]?=H (ar f.toArray 164 (0,0)):=aD (w:=a) _ rfl;have hA2:((ct a<|ar f.toArray 164).drew).heap[b]?=a.heap[b]?:=fX (w:=a) _ bg;have O:(((ct a<|ar f.toArray 164).drew.setRow (z<|G a) g.toArray).drew).heap[z<|G a]?=H (ar g.toArray 164 (0,0)):=tE _ _ _ _ _ _ hA1;have ao:(((ct a<|ar f.toArray 164).drew.setRow (z<|G a) g.toArray).drew).heap[L]?=a.heap[L]?:=(rW _ _ _ _<|by omega).trans<|fX (w:=a) _ av;have N:=U (show((((ct a<|ar f.toArray 164).drew.setRow (z<|G a) g.toArray).drew).setRow (z<|G a) m.toArray).ownsRow e 164 4 (bD (z<|G a) 0 (n+1) c) (n+1) (d.take (i*4)++aF [w]++d.drop (i*4))/\Y aB a ((((ct a<|ar f.toArray 164).drew.setRow (z<|G a) g.toArray).drew).setRow (z<|G a) m.toArray)from by refine⟨⟨by simp[F];omega,.inr ⟨z<|G a,c,m.toArray,rfl,bb,tE _ _ _ _ _ _ O,au,P,by simpa using V,u⟩⟩,?_⟩;have t1:Y aB a (ct a<|ar f.toArray 164).drew:=((Y.refl aB a).alloc _).of_heap rfl;have t2:Y aB a ((ct a<|ar f.toArray 164).drew.setRow (z<|G a) g.toArray).drew:=(t1.trans (BV _ (z<|G a) g.toArray)<|λk b=>.inr<|by omega).of_heap rfl;exact t2.trans (BV _ (z<|G a) m.toArray)<|λk b=>.inr<|by omega);have ax:=λj o=>Q _ hA1 hA2 j o;have ca:¬((i:Z)=(n:Z)):=by omega
 have bv:IntKind.i64.wrap ((i:Z)+1)=(i:Z)+1:=by rw[bQ];omega
 have bx:IntKind.i64.wrap ((n:Z)+1)=(n:Z)+1:=by rw[bQ];omega
 have bT:IntKind.i64.wrap ((n:Z)+1-(i:Z))=(n:Z)+1-(i:Z):=by rw[bQ];omega
 have bu:((i:Z)+1).toNat=i+1:=by omega
 have bl:((n:Z)+1).toNat=n+1:=by omega
 have bp:(0:Z)<=(i:Z)+1:=by omega
 have bt:i<=n:=by omega
 have bq:(i:Z)<=(n:Z)+1:=by omega
 have br:(n:Z)<(n:Z)+1:=by omega
 have bn:¬(c=i):=by omega
 have bo:¬(c=i+1):=by omega
 have bs:¬(n=i):=by omega
 have al:prog.follows .mixedOrders=bW:=by kernel_rfl
 clear p q r bd bf V u F X ad k l hG C T x K t h1 ba D hv hg;go_in
 go_wp2_with(at_builtin;refine Lib.wpList_append_run _ rfl _ _ _ _ rfl _ _ rfl rfl _ _ (s _) ?_)
 go_region_law_o (refine yM rfl _ _ 102 102 rfl (bD (z<|G a) ((i+1)*4) (n-i)<|c-(i+1)) (bD L (i*4) (n-i)<|n-i) (by simp[Act.eval,Act.put]) (by simp[Act.eval,Act.put]) (S _ O ao 3 _ _) ?_)
 go_wp2;go_ret;exact⟨c,rfl,N⟩
def NZ{w:I}{baseqq:M}{v:aa}{n:M}(t:M){xs:iU}{x:E}{vb:M}(q:w.ownsRow baseqq 164 4 v n xs)(B:baseqq<=z (G w))(r:ii w vb x)(p:bV v≠H vb)(O:t<=n)(o:n<=1000000000)(A:∀P∈xs,P.oneCell'=bW):cy bG 181 #[v,ap t,bD vb 0 1 1] w λu i=>∃d,u=aO d/\i.ownsRow baseqq 164 4 d (n+1) (xs.take (t*4)++aF [x]++xs.drop (t*4))/\Y (λK=>bV v=H K) w i/\(bV d=bV v\/∃N,bV d=H N/\z (G w)<=N):=by
 have s:=q.1;by_cases k:t=n;subst k;apply(NY q B r o).mono;rintro u i⟨d,rfl,f,c⟩;refine⟨d,rfl,?_,Y.dN c.grown<|λK l=>.inl l,c.uc⟩;rw[<-s,bP,gm,dJ];exact f;rcases q.2 with⟨rfl,rfl⟩|⟨L,a,e,rfl,j,C,F,m,g,h⟩;omega;by_cases b:n+1<=a;refine(IZ baseqq L a n t e xs j C b (by unfold maxLen at m;omega) g h r (λu=>p (by rw[u];rfl)) (by omega) o A).mono ?_;rintro u i⟨rfl,f,c⟩;exact⟨_,rfl,f,c.mono<|λK l=>.inl (by rw[l];rfl),.inl rfl⟩;(obtain rfl:a=n:=by omega);apply(LF baseqq L a t e xs B C g h r (by omega) o A).mono;rintro u i⟨D,rfl,f,c⟩;exact⟨_,rfl,f,c.mono cG,.inr ⟨_,rfl,ah _⟩⟩
end
def If{l m:cA}(h:b<y m):fB l (m.take<|b+1)=lB (fB l<|m.take b) m[b]:=by
 unfold fB;rw[aj h,iJ];rfl
def PU(l:cA)(e:E):y (lB l e)<=y l+1:=by
 have:∀l:cA,y (l.filter<|λx=>ahead x e)+y (l.filter<|λx=>ahead e x)<=y l:=by
  intro l;induction l with
  |nil=>simp
  |cons x r a=>
   cases c:ahead x e with
   |true=>
    rw[eN (by simp[c]),cZ<|by simp[lM c]];simp only[ay];omega
   |false=>
    rw[cZ<|by simp[c]];cases d:ahead e x with
    |true=>rw[eN<|by simp[d]];simp only[ay];omega
    |false=>rw[cZ<|by simp[d]];simp only[ay];omega
 have:=this l;unfold lB;simp only[af,ay];omega
def wW(l m:cA):y (fB l m)<=y l+y m:=by
 unfold fB;induction m generalizing l with
 |nil=>simp
 |cons e r a=>
  have b:=a<|lB l e;have c:=PU l e;simp only[fP,ay];omega
def dQ.fB(h:dQ e)(m:cA):dQ (fB e m):=by
 induction m generalizing e with
 |nil=>exact h
 |cons b r a=>exact a<|h.lB b
def UI(l:cA)(p:M)(x:E)(h:p<y l):((((aF l).set (p*4)<|ai x.key).set (p*4+1)<|ai x.val).set (p*4+2)<|aL x.del).set (p*4+3) (aH x.bI)=aF (l.set p x):=by
 induction l generalizing p with
 |nil=>simp at h
 |cons a r c=>
  have e:∀(a:E)(r:cA),aF (a::r)=ai a.key::ai a.val::aL a.del::aH a.bI::aF r:=λa r=>by simp[aF,E.cells]
  cases p with
  |zero=>rw[gy,e,e];simp
  |succ p=>
   have b:p<y r:=by simpa using h
   rw[fU,e,e,<-c p b];rw[show(p+1)*4=p*4+1+1+1+1 by omega];simp only[fU]
def TC(x:E)(o:a.ownsRow b 164 4 (bD c 0 (y e) g) (y e) (aF e))(p:l<y e):(bZ (bZ (bZ (bZ a (R c<|l*4)<|ai x.key) (R c<|l*4+1)<|ai x.val) (R c<|l*4+2)<|aL x.del) (R c<|l*4+3)<|aH x.bI).ownsRow b 164 4 (bD c 0 (y e) g) (y<|e.set l x) (aF<|e.set l x):=by
 refine⟨fN _,.inr ?_⟩;rcases o.2 with⟨f,s⟩|⟨r,m,q,f,i,n,d,j,h,k⟩;cases f;cases f;refine⟨c,g,_,by rw[eK],i,aR<|aR<|aR<|aR n,by rw[eK];exact d,j,by simpa using h,?_⟩;simp only[nn,List.take_set,eK,k];exact UI e l x p
def RA(h:e.take b++w::e.drop b=L)(d:b<=y e):(aF e).take (b*4)++aF [w]++(aF e).drop (b*4)=aF L:=by
 rw[<-h,fO,show w::e.drop b=[w]++e.drop b from rfl,fO,aU];have c:=bU aF<|bX b e;rw[fO]at c;have a:y (aF<|e.take b)=b*4:=by rw[fN,dL];omega
 rw[<-c,oF a,List.drop_left' a]
def Wb(h:e.take b++w::e.drop b=L)(a:b<=y e):y L=y e+1:=by
 rw[<-h,af,ay,dL,ix];omega
def SM(h:kw a d e)(hm:kw a s L)(hs:dQ e)(hl:y e+y L<=100000000)(bs:∀k,bV d=H k->k<z (G a))(bp:∀k,bV s=H k->k<z (G a)):cy bG 120 #[d,s] a λbt w'=>∃v',bt=aO v'/\w'.ownsRow (z<|G a) 164 4 v' (y<|fB e L) (aF<|fB e L)/\Y aB a w':=by
 have bk:=OI h (by omega) bs;obtain⟨mx,mc,cj⟩:=bM hm;obtain⟨vx,vc,cu⟩:=bM h;obtain⟨HM,bx,HS⟩:=dC hm bp hs;clear h bs hm bp hs;subst cj;subst cu;go_in
 go_wp2_with fail
 apply bk.mono;rintro bt w1⟨v1,rfl,ao,bi⟩;obtain⟨x1,c1,cp⟩:=aC ao;subst cp;have bT:=U ao;have cb:=U<|Y.aW (S:=aB) bi;clear ao bi bk;go_wp2_with fail
 go_loopw [5,13] (λo i wr=>∃(k:M),k<=y L/\i=ap k/\wr.ownsRow (z<|G a) 164 4 o (y<|fB e<|L.take k) (aF<|fB e<|L.take k)/\Y aB a wr) (λ_ i _=>y L-(intOf i).toNat)
 case atStart=>exact⟨0,bA _,rfl,bT,cb⟩
 (case round=>obtain⟨k,O,rfl,ho,W⟩:=hrel;obtain⟨nx,nc,ck⟩:=aC ho;subst ck;by_cases T:k<y L;(·(have e1:(k:Z)<(y L:Z):=by omega);have K:=If (l:=e) T;have av:dQ (fB e<|L.take k):=HS.fB _;(have ch:y (fB e<|L.take k)<=100000000:=by have:=wW e<|L.take k;have:=rQ k L;omega);generalize fB e (L.take k)=b at ho K av ch|-;obtain⟨cd,⟨bq,cE⟩|⟨bu,i,cB,bq,ce,hc⟩⟩:=ae HM;exfalso;omega;cases bq;have C:bu<z (G a):=bx bu rfl;have j:=ez L k T;have cM:bu<z (G wr):=ag C W.size;have cl:aT wr (R bu<|i+k*4)=H (ai L[k].key):=W.cell (hc _ _ j.1) id C;have cm:aT wr (R bu<|i+k*4+1)=H (ai L[k].val):=W.cell (by rw[aV];exact hc _ _ j.2.1) id C;have cn:aT wr (R bu<|i+k*4+2)=H (aL L[k].del):=W.cell (by rw[aV];exact hc _ _ j.2.2.1) id C;have co:aT wr (R bu<|i+k*4+3)=H (aH L[k].bI):=W.cell (by rw[aV];exact hc _ _ j.2.2.2) id C;obtain⟨ac,P,HO,HT⟩:=gx K av ho W;clear j hc cd ce K av ho W;generalize L[k]=cT at*;obtain⟨f,v,u,g⟩:=cT;simp only at cl cm cn co;have N:Y aB wr (ct wr<|ar #[ai f,ai v,aL u,aH g] 164):=(Y.refl _ _).alloc _;have A:=Bg (J nx (y b) nc) f g (ct wr<|ar #[ai f,ai v,aL u,aH g] 164) (dH<|N.own HO<|λ_ _ ao=>ao) P (by omega) (λbu a=>by have:=(HO.lt bu a).2;simp;omega);have F:=ID b ⟨f,⟨#[]⟩,bF,g⟩;by_cases Q:∃h:li b ⟨f,⟨#[]⟩,bF,g⟩<y b,b[li b ⟨f,⟨#[]⟩,bF,g⟩].key=f/\b[li b ⟨f,⟨#[]⟩,bF,g⟩].bI=g;(.obtain⟨an,ad,X⟩:=Q;have V:=PT P ⟨f,v,u,g⟩ an ad X;have ba:=U<|show b.set (li b ⟨f,⟨#[]⟩,bF,g⟩) ⟨f,v,u,g⟩=lB b ⟨f,v,u,g⟩from V;clear V;generalize li b ⟨f,⟨#[]⟩,bF,g⟩=p at*;(have e2:(p:Z)<(y b:Z):=by omega);(have e3:(0:Z)<=(p:Z):=by omega);(go_wp2_with fail);apply A.mono;rintro bt c⟨rfl,B⟩;have l:ii c (z<|G wr) ⟨f,v,u,g⟩:=(B.block _<|by simp).trans<|aD _ rfl;have r:Y aB wr c:=N.ci<|Y.aW (S:=aB) B;have o:=r.own HO<|λ_ _ ao=>ao;obtain⟨q0,q1,q2,q3⟩:=l.cells;have D:=ak l;simp only at q0 q1 q2 q3;have bn:∀x,bV (J nx (y b) nc)=H x->x<z (G wr):=λx j=>(HO.lt x j).2;rcases o.2 with⟨h2,h0⟩|⟨x,bc,cx,h2,bm,j,bo,br,bl,t⟩;exfalso;omega;cases h2;(have cc:x≠z (G wr):=λbt=>by have:=bn x rfl;omega);have m:=ez b p an;(have r0:aT c (R x<|p*4)=H (ai b[p].key):=by simpa using qd j t _ _ 0 (by simpa using m.1));(have r1:aT c (R x<|p*4+1)=H (ai b[p].val):=by simpa using qd j t _ _ 0 (by simpa using m.2.1));(have r2:aT c (R x<|p*4+2)=H (aL b[p].del):=by simpa using qd j t _ _ 0 (by simpa using m.2.2.1));(have r3:aT c (R x<|p*4+3)=H (aH b[p].bI):=by simpa using qd j t _ _ 0 (by simpa using m.2.2.2));(have f0:∀a,c.frozen? (R x a)=bF:=λa=>by simp[World.frozen?,j]);have bd:=f0<|p*4;have bf:=f0<|p*4+1;have bg:=f0<|p*4+2;have bh:=f0<|p*4+3;obtain⟨au,bb,bv,HG⟩:=gx o r l j;clear bn m f0 o r l j bl t br bm A N;generalize z (G wr)=eb at*;generalize b[p]=w at*;obtain⟨yk,yv,yd,yb⟩:=w;simp only at r0 r1 r2 r3 ad X;subst ad;subst X;go_wp2;(go_quiet(fail));have hd:Y aB c (c.drewN nq):=Y.aW<|below_drewN (Below.refl _ _) _;have ax:=U<|hd.own au<|λ_ _ ao=>ao;have al:=U<|(HT.ci bb).ci hd;have cs:eb<z (G<|c.drewN nq):=D;(replace r0:aT (c.drewN nq) (R x<|p*4)=_:=r0);(replace r1:aT (c.drewN nq) (R x<|p*4+1)=_:=r1);(replace r2:aT (c.drewN nq) (R x<|p*4+2)=_:=r2);(replace r3:aT (c.drewN nq) (R x<|p*4+3)=_:=r3);(replace q0:aT (c.drewN nq) (R eb 0)=_:=q0);(replace q1:aT (c.drewN nq) (R eb 1)=_:=q1);(replace q2:aT (c.drewN nq) (R eb 2)=_:=q2);(replace q3:aT (c.drewN nq) (R eb 3)=_:=q3);(replace bd:(c.drewN nq).frozen? (R x<|p*4)=_:=bd);(replace bf:(c.drewN nq).frozen? (R x<|p*4+1)=_:=bf);(replace bg:(c.drewN nq).frozen? (R x<|p*4+2)=_:=bg);(replace bh:(c.drewN nq).frozen? (R x<|p*4+3)=_:=bh);clear hd bv HG au bb D;generalize c.drewN nq=w3 at*;go_wp2;(have ca:∀k,k=x->z (G a)<=k:=λk O=>by rw[O];exact(ax.lt x rfl).1);refine⟨⟨k+1,T,by go_num,?_,?_⟩,by simp[intOf];omega⟩;rw[ae ac,<-ae ba];exact TC ⟨yk,v,u,yb⟩ ax an;refine(((al.setCell _ _ _ ?_).setCell _ _ _ ?_).setCell _ _ _ ?_).setCell _ _ _ ?_<;>exact .inr<|ca x rfl);(.have ad:=PV P ⟨f,v,u,g⟩<|P.XG ⟨f,v,u,g⟩<|λa bt=>Q ⟨a,bt⟩;have X:=U<|show b.take (li b ⟨f,⟨#[]⟩,bF,g⟩)++⟨f,v,u,g⟩::b.drop (li b ⟨f,⟨#[]⟩,bF,g⟩)=lB b ⟨f,v,u,g⟩from ad;clear ad;generalize li b ⟨f,⟨#[]⟩,bF,g⟩=p at*;(go_wp2_with fail);apply A.mono;rintro bt c⟨rfl,B⟩;have l:ii c (z<|G wr) ⟨f,v,u,g⟩:=(B.block _<|by simp).trans<|aD _ rfl;have r:Y aB wr c:=N.ci<|Y.aW (S:=aB) B;have o:=r.own HO<|λ_ _ ao=>ao;obtain⟨q0,q1,q2,q3⟩:=l.cells;have D:=ak l;simp only at q0 q1 q2 q3;have cv:=HT.size;have bh:=r.size;have bn:=U (λ(q:M)=>show _/\_/\_ from have ax:Y aB c (ct (c.drewN q)<|ar #[ai f,ai v,aL u,aH g] 164):=(Y.aW (S:=aB)<|below_drewN (Below.refl _ c) q).alloc _;have bf:=ax.own o<|λ_ _ ao=>ao;⟨NZ (w:=(ct (c.drewN q)<|ar #[ai f,ai v,aL u,aH g] 164)) (baseqq:=z<|G a) (v:=(J nx (y b) nc)) (n:=y b) p (xs:=(aF b)) (x:=⟨f,v,u,g⟩) (vb:=z<|G c) bf (by have:=ax.size;omega) (aD _ rfl) (λbt=>by have:=(o.lt _ bt).2;omega) F (by omega)<|TH b,(HT.ci r).ci ax,λk O=>(bf.lt k O).1⟩);(have an:(∃x,nx=H (R x 0)/\∃w:E,p<y b/\aT c (R x<|p*4)=H (ai w.key)/\aT c (R x<|p*4+3)=H (aH w.bI)/\(w.key≠f\/(w.key=f/\w.bI≠g)))\/((p:Z)<(y b:Z))=False:=by by_cases V:p<y b;left;rcases o.2 with⟨h2,h0⟩|⟨x,bc,cx,h2,bm,j,bo,br,bl,t⟩;omega;cases h2;have m:=ez b p V;refine⟨x,rfl,b[p],V,by simpa using qd j t _ _ 0 (by simpa using m.1),by simpa using qd j t _ _ 0 (by simpa using m.2.2.2),?_⟩;by_cases O:b[p].key=f;exact .inr ⟨O,λao=>Q ⟨V,O,ao⟩⟩;exact .inl O;right;simp;omega);clear l r o B A N cv bh Q;generalize z (G wr)=eb at*;rcases an with⟨x,rfl,⟨yk,yv,yd,yb⟩,V,r0,r3,hy|⟨rfl,hy⟩⟩|e2;(case' inl.inl=>simp only at r0 r3 hy;(have e2:(p:Z)<(y b:Z):=by omega);(have e3:(0:Z)<=(p:Z):=by omega);have e4:=Im hy);(case' inl.inr=>simp only at r0 r3 hy;(have e2:(p:Z)<(y b:Z):=by omega);(have e3:(0:Z)<=(p:Z):=by omega);have e4:(yb==g)=bF:=by simpa using hy);(all_goals(go_wp2_with fail);(go_quiet(fail));obtain⟨bd,bb,ba⟩:=bn nq;have al:=U bb;have bv:=U ba;clear bb ba;(go_wp2_with fail);apply bd.mono;rintro bt w4⟨v4,rfl,au,bg,_⟩;obtain⟨x4,c4,cs⟩:=aC au;subst cs;have ca:=U au;have cc:=U bg;clear au bg bd;go_wp2;refine⟨⟨k+1,T,by go_num,?_,?_⟩,by simp[intOf];omega⟩;rw[ae ac,Wb (ae X) F,<-RA (ae X) F];exact ca;exact al.trans cc<|λk O=>.inr<|bv k O)));(have e1:¬(k:Z)<(y L:Z):=by omega);(have b:k=y L:=by omega);obtain⟨c,HO,HT⟩:=dC (show fB e L=fB e (L.take k)by rw[b,bP]) ho W;clear ho W b;go_wp2;go_ret;exact⟨_,rfl,by rw[ae c];exact HO,HT⟩)
def lV(a:Z)(c:OS):E:=⟨c.key,if c.del then⟨#[]⟩else c.val,c.del,a⟩
def LY{e:uz}(b:Z)(hp:xV a d e)(hv:∀k,bV d=H k->k<z (G a))(hr:y e<=1000000)(hz:∀cp∈e,cp.key.size<=140737488351232/\cp.val.size<=140737488351232):cy bG 70 #[d,.int .u64 b] a λcs w'=>∃v',cs=.returned v'/\w'.ownsRow (z<|G a) 164 4 v' (y e) (aF<|e.map<|lV b)/\Y (λ_=>False) a w':=by
 have cv:∀(cp:Bool)(a:I),(Op.unary .not<|.bool cp).run bG a=.ok (.bool<|!cp) a:=λ_ _=>rfl;obtain⟨i0,bd,bg,bh,bi⟩:=cz nP;obtain⟨dm,cc,ce⟩:=bM hp;obtain⟨HP,HV,HZ⟩:=dC hp hv hz;clear hp hv hz;subst ce;go_in
 go_wp2_with(at_make;refine lG _ rfl _ _ 101 rfl (z<|G a) 164 i0 wO 4 underlying101 bd bg bh _ _ _ (y e) rfl rfl rfl (by rw[bi];omega) (by unfold maxLen;omega) (ah _) ?_;intro w1 Q P;have ac:=U Q;have bl:=U P;clear Q P)
 go_loopw [5,14] (λo ca wr=>∃(k:M),k<=y e/\ca=.int .i64 k/\wr.ownsRow (z<|G a) 164 4 o k (aF<|(e.take k).map<|lV b)/\Y (λ_=>False) a wr) (λ_ ca _=>y e-(intOf ca).toNat)
 case atStart=>exact⟨0,bA _,rfl,ac,Y.dN bl<|by simp⟩
 case round=>
  obtain⟨k,hk,rfl,ho,E⟩:=hrel;obtain⟨nx,nc,cj⟩:=aC ho;subst cj;by_cases A:k<y e
  .have e1:(k:Z)<(y e:Z):=by omega
   obtain⟨cd,⟨bv,cE⟩|⟨bT,f,cB,bv,ch,hc⟩⟩:=ae HP
   .exfalso;omega
   cases bv;have N:bT<z (G a):=HV bT rfl;have hg:=kU e k A;have cM:bT<z (G wr):=ag N E.size;have cl:aT wr ⟨bT,f+k*3,none⟩=H (.string e[k].key):=E.cell (hc _ _ hg.1) id N;have cm:aT wr ⟨bT,f+k*3+1,none⟩=H (.string e[k].val):=E.cell (by rw[aV];exact hc _ _ hg.2.1) id N;have cn:aT wr ⟨bT,f+k*3+2,none⟩=H (.bool e[k].del):=E.cell (by rw[aV];exact hc _ _ hg.2.2) id N;have co:=HZ _<|aq A;obtain⟨bm,HO,HT⟩:=dC (show(e.take<|k+1).map (lV b)=(e.take k).map (lV b)++[lV b e[k]]by rw[aj A,aM];rfl) ho E;clear hg hc cd ch ho E;generalize e[k]=cp at*;obtain⟨g,p,l⟩:=cp;simp only at cl cm cn co;have br:=λao=>vp g ao (by omega);have bs:=λao=>vp p ao (by omega);go_wp2_with fail
   rename_i QQ KK bn;have m:(ct wr<|.cells #[.string g,.string p,.bool l] 42).heap[z<|G wr]?=H (.cells #[.string g,.string p,.bool l] 42 (0,0)):=aD _ rfl;have bb:Y (λ_=>False) a (ct wr<|.cells #[.string g,.string p,.bool l] 42):=HT.alloc _;have ax:=aS HO<|.cells #[.string g,.string p,.bool l] 42;generalize ct wr (.cells #[.string g,.string p,.bool l] 42)=j at m bb ax|-;generalize z (G wr)=r at m|-;have x:aT j.drew ⟨r,0,none⟩=H (.string g)/\aT j.drew ⟨r,2,none⟩=H (.bool l):=⟨by show aT j _=_;rw[bN m];rfl,by show aT j _=_;rw[bN m];rfl⟩;have B:=ak m;obtain⟨w,bk,ad,W⟩:=gx (show∀i,Y (λ_=>False) j i->aT i ⟨r,0,none⟩=H (.string g)/\aT i ⟨r,2,none⟩=H (.bool l)fromλi a=>⟨a.cell x.1 id B,a.cell x.2 id B⟩) m bb ax;clear m bb ax;refine cJ (λi=>aT i ⟨r,0,none⟩=H (.string g)/\aT i ⟨r,2,none⟩=H (.bool l)) 8 (by kernel_rfl) ?_;refine dA 0 ?_;iterate 2 (refine fw (v:=?_) x rfl (by kernel_rfl) jU rfl ?_ ?_;rotate_left;(focus(rintro i⟨z0,z2⟩;go_simp;try rfl));simp only[Act.put,du,Nat.reduceAdd])
   apply eX;refine dA 3 ?_;iterate 3 (refine fw (v:=?_) x rfl (by kernel_rfl) jU rfl ?_ ?_;rotate_left;(focus(rintro i⟨z0,z2⟩;go_simp;try rfl));simp only[Act.put,du,Nat.reduceAdd])
   apply eX;refine tM (α:=M) (λc ao=>Y (λ_=>False) j ao/\ao.heap[c]?=H (.cells #[.string ⟨#[]⟩,.string ⟨#[]⟩,.bool bF,.int .u64 0] 164 (0,0))/\z (G j)<=c) (λc=>{tmps:=#[.slice (H ⟨bT,f,none⟩) (y e) cc,.int .u64 b,iB,iB,.slice none 0 0,.slice nx k nc,iB,.pointer<|H ⟨r,0,none⟩,.pointer<|H ⟨c,0,none⟩,.slice (H ⟨bT,f,none⟩) (y e) cc,.int .i64<|y e,.slice (H ⟨z<|G a,0,none⟩) 0<|y e,.slice (H ⟨bT,f,none⟩) (y e) cc,.int .i64<|y e,.int .i64 k,.bool bW,.pointer<|H ⟨bT,f+k*3,none⟩,.agg #[.string g,.string p,.bool l],.pointer<|H ⟨r,0,none⟩,.string g,.string g,.pointer<|H ⟨r,2,none⟩,.bool l,.int .u64 b,.agg #[.string g,.string ⟨#[]⟩,.bool l,.int .u64 b],u25,u26,u27,u28,u29,u30,u31,u32,u33,u34,u35,u36,iB],defers:=[]}) #[true,true,true,true,true,true,true,true,false] 1 ?_ ?_
   .intro bq;refine sK (i:=2) (j:=7) rfl rfl rfl rfl (by kernel_rfl) ?_ ?_
    .intro dk hK;go_simp;apply(br _).mono;rintro cs w4⟨rfl,L⟩;have t:Y (λ_=>False) j w4:=(cf (λ_=>False) j).ci<|Y.aW (S:=λ_=>False) L;have bo:=w w4 t;refine hK _ _ (λ_=>bo) ?_;try simp only[Act.put,du]
     refine lJ (i:=6) (v:=?_) rfl rfl (by kernel_rfl) (by kernel_rfl) (by kernel_rfl) (by kernel_rfl) (λ_ _ _ h=>h) (Or.inl ⟨by rfl,?_⟩) bo ?_;rotate_left
     .rintro i⟨z0,z2⟩;go_simp;try with_reducible rfl
     try simp only[Act.put,du]
     refine aP (i:=7) rfl rfl (by kernel_rfl) ?_;intro K2 av;go_simp;have F:=t.alloc<|.cells #[.string ⟨#[]⟩,.string ⟨#[]⟩,.bool bF,.int .u64 0] 164;refine av _ _ (λ_=>w _ F) ?_;exact jY (bq (z<|G w4) _ ⟨F,aD _ rfl,t.size⟩)<|by kernel_rfl
    .intro dk hK;go_simp;have t:Y (λ_=>False) j ((ct j<|.cells #[.string ⟨#[]⟩,.string ⟨#[]⟩,.bool bF,.int .u64 0] 164).drew):=((Y.refl (λ_=>False) j).alloc _).of_heap rfl;have L:((ct j<|.cells #[.string ⟨#[]⟩,.string ⟨#[]⟩,.bool bF,.int .u64 0] 164).drew).heap[z<|G j]?=H (.cells #[.string ⟨#[]⟩,.string ⟨#[]⟩,.bool bF,.int .u64 0] 164 (0,0)):=aD (w:=j) _ rfl;refine hK _ _ (λ_=>w _ t) ?_;refine aP (i:=2) rfl rfl (by kernel_rfl) ?_;intro K2 av;go_simp;apply(br _).mono;rintro cs w5⟨rfl,bp⟩;have F:Y (λ_=>False) j w5:=t.ci<|Y.aW (S:=λ_=>False) bp;have cb:=((Y.aW (S:=λ_=>False) bp).block _ (ak L) id).trans L;have bo:=w _ F;refine av _ _ (λ_=>bo) ?_;try simp only[Act.put,du]
     refine lJ (i:=6) (v:=?_) rfl rfl (by kernel_rfl) (by kernel_rfl) (by kernel_rfl) (by kernel_rfl) (λ_ _ _ h=>h) (Or.inl ⟨by rfl,?_⟩) bo ?_;rotate_left
     .rintro i⟨z0,z2⟩;go_simp;try with_reducible rfl
     try simp only[Act.put,du]
     exact jY (bq (z<|G j) _ ⟨F,cb,ah _⟩)<|by kernel_rfl
   rintro c ao⟨E,O,s⟩;have bu:=ak O;refine aP (i:=8) rfl rfl (by kernel_rfl) ?_;intro dk hK;have q0:aT ao ⟨c,0,none⟩=H (.string ⟨#[]⟩):=by rw[bN O];rfl
   have q1:aT ao ⟨c,1,none⟩=H (.string ⟨#[]⟩):=by rw[bN O];rfl
   have q2:aT ao ⟨c,2,none⟩=H (.bool bF):=by rw[bN O];rfl
   have q3:aT ao ⟨c,3,none⟩=H (.int .u64 0):=by rw[bN O];rfl
   have fz:∀dd,ao.frozen? ⟨c,dd,none⟩=bF:=λdd=>by simp[World.frozen?,O]
   go_simp;refine hK _ _ yR ?_;refine dp (by kernel_rfl) ?_ _;show KK _ _;apply bn;have au:ii (bZ (bZ (bZ (bZ ao ⟨c,0,none⟩<|.string g) ⟨c,1,none⟩<|.string ⟨#[]⟩) ⟨c,2,none⟩<|.bool l) ⟨c,3,none⟩<|.int .u64 b) c ⟨g,⟨#[]⟩,l,b⟩:=aR<|aR<|aR<|aR O;have o:Y (λ_=>False) j (bZ (bZ (bZ (bZ ao ⟨c,0,none⟩<|.string g) ⟨c,1,none⟩<|.string ⟨#[]⟩) ⟨c,2,none⟩<|.bool l) ⟨c,3,none⟩<|.int .u64 b):=(((E.setCell _ _ _<|.inr s).setCell _ _ _<|.inr s).setCell _ _ _<|.inr s).setCell _ _ _<|.inr s;have bc:=ad.ci o;have ba:=o.own W<|λ_ _ d=>d;have n:=(o.block _ B id).trans bk;have dc:c≠r:=by omega
   have bx:z (G a)<=c:=aE ad.size s;have ck:bV (Value.slice nx k nc)≠H c:=λcs=>by have:=(W.lt c cs).2;omega
   generalize(bZ (bZ (bZ (bZ ao ⟨c,0,none⟩<|.string g) ⟨c,1,none⟩<|.string ⟨#[]⟩) ⟨c,2,none⟩<|.bool l) ⟨c,3,none⟩<|.int .u64 b)=W5 at au bc ba n|-;have d0:aT W5 ⟨r,0,none⟩=H (.string g):=by rw[bN n];rfl
   have d1:aT W5 ⟨r,1,none⟩=H (.string p):=by rw[bN n];rfl
   have d2:aT W5 ⟨r,2,none⟩=H (.bool l):=by rw[bN n];rfl
   have cu:=ak n;obtain⟨V,al,X,cx⟩:=gx au bc ba n;clear au bc ba n o bn hK E O q0 q1 q2 q3 fz bk ad W w x s bu;obtain⟨g0,g1,g2,g3⟩:=V.cells;simp only at g0 g1 g2 g3;have bt:=ak V;cases l with
   |true=>
    go_wp2_with(at_builtin;refine bS _ rfl (.tmp 32) (.tmp 34) 101 rfl (z<|G a) 164 i0 wO 4 48 underlying101 bd bg bh bi rfl (by decide) (.slice nx k nc) k (aF<|(e.take k).map<|lV b) rfl (aS X<|.cells #[.string g,.string ⟨#[]⟩,.bool bW,.int .u64 b] 164) ⟨z<|G W5,0,none⟩ 1 1 (aF [⟨g,⟨#[]⟩,bW,b⟩]) rfl rfl (wa _ ⟨g,⟨#[]⟩,bW,b⟩ _) (Bk _) (by omega) (by omega) (by have:=al.size;simp;omega) ?_;intro v7 w7 C K;have u:=U C;have an:=U K;clear C K)
    obtain⟨x7,c7,bf⟩:=aC u;subst bf;go_roundw;case rel=>
     refine⟨k+1,A,by go_num,?_,?_⟩
     .rw[ae bm,fO];exact u
     .exact(al.alloc _).trans (Y.dN (S:=λq=>bV (Value.slice nx k nc)=H q) an.grown<|λq D=>.inl D)<|λq D=>.inr (X.lt q D).1
    case measure=>simp[intOf];omega
   |false=>
    go_wp2_with fail
    apply(bs _).mono;rintro cs w6⟨rfl,bq⟩;have F:Y (λ_=>False) W5 w6:=Y.aW bq;have t:ii w6 c ⟨g,⟨#[]⟩,bF,b⟩:=(F.block _ bt id).trans V;have cb:z (G a)<=c:=bx;have bp:=(al.ci F).setCell c 1 (.string p)<|.inr bx;have bo:=(((F.mono (T:=λq=>q=c) cG).setCell c 1 (.string p)<|.inl rfl)).own X<|λq D d=>ck (by rw[<-d];exact D);obtain⟨h0,h1,h2,h3⟩:=t.cells;simp only at h0 h1 h2 h3;have cT:w6.frozen? ⟨c,1,none⟩=bF:=by unfold ii at t;simp[World.frozen?,t]
    have db:=ak t;have av:=U bp;have L:=U bo;clear t bp bo F bq g0 g1 g2 g3 d0 d1 d2;go_wp2_with(at_builtin;refine bS _ rfl (.tmp 32) (.tmp 34) 101 rfl (z<|G a) 164 i0 wO 4 48 underlying101 bd bg bh bi rfl (by decide) (.slice nx k nc) k (aF<|(e.take k).map<|lV b) rfl (aS L<|.cells #[.string g,.string p,.bool bF,.int .u64 b] 164) ⟨z<|G w6,0,none⟩ 1 1 (aF [⟨g,p,bF,b⟩]) rfl rfl (by have D:=wa (bZ w6 ⟨c,1,none⟩<|.string p) ⟨g,p,bF,b⟩ 164;rwa[gz]at D) (Bk _) (by omega) (by omega) (by have:=av.size;simp;omega) ?_;intro v7 w7 C K;have u:=U C;have an:=U K;clear C K)
    obtain⟨x7,c7,bf⟩:=aC u;subst bf;go_roundw;case rel=>
     refine⟨k+1,A,by go_num,?_,?_⟩
     .rw[ae bm,fO];exact u
     .exact(av.alloc _).trans (Y.dN (S:=λq=>bV (Value.slice nx k nc)=H q) an.grown<|λq D=>.inl D)<|λq D=>.inr (L.lt q D).1
    case measure=>simp[intOf];omega
  .have e1:¬(k:Z)<(y e:Z):=by omega
   have c:k=y e:=by omega
   obtain⟨g,f,HO,HT⟩:=gx (show aF (e.map<|lV b)=aF ((e.take k).map<|lV b)by rw[c,bP]) c ho E;clear ho E c;go_wp2;go_ret;exact⟨_,rfl,by rw[ae g,<-ae f];exact HO,HT⟩
