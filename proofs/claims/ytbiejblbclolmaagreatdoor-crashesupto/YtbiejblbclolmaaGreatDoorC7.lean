import Derived.Test.YtbiejblbclolmaaGreatDoorC6
open _root_ renaming List.length→y,Option.some→H,Array.size→z,Go.World.heap→G,Go.Value.ownBlock→cI,Go.World.cell?→aW,Go.World.setCell→cH,Go.World.alloc→dd,Bool.false→bw,Bool.true→cf,Nat→M,Int→U,List→ci,Go.Calls→cY,Go.undef→iM,Go.Proofs.Tryz.prog→bA,Go.Value.slice→I,Go.Value.string→am,Go.Value.bool→aM,Go.Value.pointer→dC,Go.Value.tuple→dA,Go.Value.agg→dL
namespace Go.Proofs.YtbiejblbclolmaaGreatDoor
open ChangeShapes WideShapes RowKit Proofs.Tryz List
set_option maxHeartbeats 16000000
set_option linter.all false
set_option maxRecDepth 100000
variable{a f A:Y}{b c i l:M}{d t:ab}{e K:cU}{j p:cP}{k N:U}{n:eF}{o:fh}{W:SR}{s:ja}{w:E}{B:ix}
section
open Shelf
theorem Uq{a d:ix}(g:y B=b*4)(h:c<=b)(j:y a=4)(k:y d=(b+1-c)*4+i):(((B.take (c*4)++d).take (c*4)++a++(B.take (c*4)++d).drop (c*4+y a)).take ((c+1)*4)++B.drop (c*4)++((B.take (c*4)++d).take (c*4)++a++(B.take (c*4)++d).drop (c*4+y a)).drop ((c+1)*4+y (B.drop<|c*4))).take ((b+1)*4)=B.take (c*4)++a++B.drop (c*4):=by
 have e:y (B.take<|c*4)=c*4:=by rw[dp];omega
 have f:(B.take (c*4)++d).take (c*4)=B.take (c*4):=pB e;rw[f,pB (by simp;omega),pB (by simp;omega)]
def NI(e F n i:M)(A:Array ab)(d:ix)(av:e<=z (G a))(hg:a.heap[F]?=H (ay A 171 (0,0)))(au:A.size=n*4)(t:A.toList.take (n*4)=d)(hv:jb a b w)(hi:i<n)(hn:n<=1000000000)(h1:∀bd∈d,bd.oneCell'=cf):cY bA 141 #[bI F 0 n n,aq i,bI b 0 1 1] a λbv w'=>∃c,bv=aN (bI (z<|G a) 0 (n+1) c)/\w'.ownsRow e 171 4 (bI (z<|G a) 0 (n+1) c) (n+1) (d.take (i*4)++aI [w]++d.drop (i*4))/\Z aw a w':=by
 have aa:y d=n*4:=by rw[<-t,dp,mr];omega
 have ao:=ak hg;have aV:=ak hv;obtain⟨i0,ax,ba,bc,ac⟩:=dl nz;have D:(prog.info? 171).map (·.size)=H 4:=by kernel_rfl
 have Q:(n:U)+1-(i:U)=((n+1-i:M):U):=by omega
 have C:i+(n+1-i)=n+1:=by omega
 have x:(Builtin.firstCells i0.size i<|bI F 0 i n).run bA a.drew=.ok (d.take<|i*4).toArray a.drew:=by
  rw[bc];exact run_firstCells_some a.drew 4 i (R F 0) i n (d.take<|i*4) (by rw[dp];omega) (λbh bd v=>by
   rw[dJ,dM];rw[pE]at v;split at v
   .have:=qC (w:=a.drew) hg t bh bd 0 (by simpa using v);grind
   .cases v)
 have s:∀j,(Builtin.append_ #[73,3] j #[bI F 0 i n,aq<|(n:U)+1-(i:U)]).run bA a=.ok (bI (z<|G a) 0 (n+1)<|grownCap a (n+1) n 171) (dd a.drew<|ay ((d.take<|i*4).toArray++Builtin.zeroCells xg.cells (n+1-i)++Builtin.zeroCells xg.cells (grownCap a (n+1) n 171-(n+1))) 171):=λj=>by have h:=Lib.run_append_grow_zeros a 73 3 j 171 i0 _ .i64 .i64 underlying73 underlying3 ax ba (H<|R F 0) i n (d.take<|i*4) x (n+1-i) (by omega) (by omega) (by omega) (by omega) (by rw[ac];omega) (by rw[ac,C];exact tM (by omega)<|by omega);rw[C]at h;rw[Q];exact h
 obtain⟨c,hG⟩:∃c,c=grownCap a (n+1) n 171:=⟨_,rfl⟩;rw[<-hG]at s;have an:n+1<=c:=by rw[hG];exact grownCap_ge a _ _ _
 have N:c<=maxLen:=by rw[hG];exact grownCap_le_maxLen a (n+1) n _ (by unfold maxLen;omega)
 have bf:c<=9223372036854775807:=by unfold maxLen at N;omega
 obtain⟨zs,l⟩:∃zs:ix,zs=(Builtin.zeroCells xg.cells (n+1-i)++Builtin.zeroCells xg.cells (c-(n+1))).toList:=⟨_,rfl⟩;have bb:y zs=(n+1-i)*4+(c-(n+1))*4:=by rw[l];simp[Builtin.zeroCells,xg,Value.cells]
 have k:((d.take<|i*4).toArray++Builtin.zeroCells xg.cells (n+1-i)++Builtin.zeroCells xg.cells (c-(n+1)))=(d.take (i*4)++zs).toArray:=by rw[l,Array.append_assoc];grind
 rw[k]at s;have T:y (aI [w])=4:=rfl;have V:y (d.drop<|i*4)=(n-i)*4:=by rw[iP,aa];omega
 obtain⟨f,p⟩:∃f,f=d.take (i*4)++zs:=⟨_,rfl⟩;obtain⟨g,q⟩:∃g,g=f.take (i*4)++aI [w]++f.drop (i*4+y (aI [w])):=⟨_,rfl⟩;obtain⟨m,r⟩:∃m,m=g.take ((i+1)*4)++d.drop (i*4)++g.drop ((i+1)*4+y (d.drop<|i*4)):=⟨_,rfl⟩;have aF:y f=c*4:=by rw[p,af,dp];omega
 have aU:y g=c*4:=by rw[q];simp only[af,dp,iP];omega
 have S:y m=c*4:=by rw[r];simp only[af,dp,iP];omega
 have u:m.take ((n+1)*4)=d.take (i*4)++aI [w]++d.drop (i*4):=by rw[r,q,p];grind[Uq]
 rw[<-p]at s;have O:∀(W:Y),W.heap[z<|G a]?=H (ay f.toArray 171 (0,0))->W.heap[b]?=a.heap[b]?->∀j o,(Builtin.copy_ #[73,72] j #[bI (z<|G a) (i*4) (n+1-i) o,bI b 0 1 1]).run bA W=.ok (goInt<|Nat.min 1<|n+1-i) (W.setRow (z<|G a) g.toArray):=λW hW B j o=>by rw[q];refine rO W _ _ j 171 4 (z<|G a) (i*4) _ o (R b 0) _ 1 f.toArray _ (aI [w]) underlying73 D hW ?_ (λbh bd v=>?_) (by simp;omega)<|Dd w;rw[T];simp only[Nat.min_def];split<;>omega;rw[dJ,ct<|B.trans hv,dM];simpa[aI,E.cells]using v
 have P:∀(W:Y),W.heap[z<|G a]?=H (ay g.toArray 171 (0,0))->W.heap[F]?=a.heap[F]?->∀j o sc,(Builtin.copy_ #[73,73] j #[bI (z<|G a) ((i+1)*4) (n-i) o,bI F (i*4) (n-i) sc]).run bA W=.ok (goInt<|Nat.min (n-i)<|n-i) (W.setRow (z<|G a) m.toArray):=λW hW B j o sc=>by rw[r];refine rO W _ _ j 171 4 (z<|G a) ((i+1)*4) _ o (R F<|i*4) _ sc g.toArray _ (d.drop<|i*4) underlying73 D hW ?_ (λbh bd v=>by rw[dJ];exact qC (B.trans hg) t bh bd _ v) (by simp;omega) (by grind);rw[V];grind
 have hA1:((dd a<|ay f.toArray 171).drew).heap[z<|G a]?=H (ay f.toArray 171 (0,0)):=aK (w:=a) _ rfl;have hA2:((dd a<|ay f.toArray 171).drew).heap[b]?=a.heap[b]?:=gq (w:=a) _ aV;have L:(((dd a<|ay f.toArray 171).drew.setRow (z<|G a) g.toArray).drew).heap[z<|G a]?=H (ay g.toArray 171 (0,0)):=uH _ _ _ _ _ _ hA1;have al:(((dd a<|ay f.toArray 171).drew.setRow (z<|G a) g.toArray).drew).heap[F]?=a.heap[F]?:=(sX _ _ _ _<|by omega).trans<|gq (w:=a) _ ao;have K:=X (show((((dd a<|ay f.toArray 171).drew.setRow (z<|G a) g.toArray).drew).setRow (z<|G a) m.toArray).ownsRow e 171 4 (bI (z<|G a) 0 (n+1) c) (n+1) (d.take (i*4)++aI [w]++d.drop (i*4))/\Z aw a ((((dd a<|ay f.toArray 171).drew.setRow (z<|G a) g.toArray).drew).setRow (z<|G a) m.toArray)from by refine⟨⟨by grind,.inr ⟨z<|G a,c,m.toArray,rfl,av,uH _ _ _ _ _ _ L,an,N,by simpa using S,u⟩⟩,?_⟩;have t1:Z aw a (dd a<|ay f.toArray 171).drew:=(cO aw a).of_heap rfl;have t2:Z aw a ((dd a<|ay f.toArray 171).drew.setRow (z<|G a) g.toArray).drew:=(t1.trans (DL _ (z<|G a) g.toArray)<|by simp).of_heap rfl;exact t2.trans (DL _ (z<|G a) m.toArray)<|by simp);have ap:=λj o=>O _ hA1 hA2 j o;have bu:¬((i:U)=(n:U)):=by omega
 have br:IntKind.i64.wrap ((i:U)+1)=(i:U)+1:=by rw[bP];omega
 have bs:IntKind.i64.wrap ((n:U)+1)=(n:U)+1:=by rw[bP];omega
 have bt:IntKind.i64.wrap ((n:U)+1-(i:U))=(n:U)+1-(i:U):=by rw[bP];omega
 have bq:((i:U)+1).toNat=i+1:=by omega
 have bg:((n:U)+1).toNat=n+1:=by omega
 have bl:(0:U)<=(i:U)+1:=by omega
 have bp:i<=n:=by omega
 have bm:(i:U)<=(n:U)+1:=by omega
 have bn:(n:U)<(n:U)+1:=by omega
 have bi:¬(c=i):=by omega
 have bk:¬(c=i+1):=by omega
 have bo:¬(n=i):=by omega
 have ad:prog.follows .mixedOrders=cf:=by kernel_rfl
 clear p q r aF aU S u T V bb k l hG C Q x aa t h1 au D hv hg;go_in
 go_wp2_with(at_builtin;refine Lib.wpList_append_run _ rfl _ _ _ _ rfl _ _ rfl rfl _ _ (s _) ?_)
 go_region_law_o (refine zT rfl _ _ 73 73 rfl (bI (z<|G a) ((i+1)*4) (n-i)<|c-(i+1)) (bI F (i*4) (n-i)<|n-i) (by simp[Act.eval,Act.put]) (by simp[Act.eval,Act.put]) (P _ L al 3 _ _) ?_)
 go_wp2;go_ret;exact⟨c,rfl,K⟩
def Qv{w:Y}{baseqq:M}{v:ab}{n:M}(t:M){xs:ix}{x:E}{vb:M}(q:w.ownsRow baseqq 171 4 v n xs)(B:baseqq<=z (G w))(r:jb w vb x)(p:cI v≠H vb)(O:t<=n)(o:n<=1000000000)(A:∀P∈xs,P.oneCell'=cf):cY bA 141 #[v,aq t,bI vb 0 1 1] w λu i=>∃d,u=aN d/\i.ownsRow baseqq 171 4 d (n+1) (xs.take (t*4)++aI [x]++xs.drop (t*4))/\Z (λK=>cI v=H K) w i/\(cI d=cI v\/∃N,cI d=H N/\z (G w)<=N):=by
 have s:=q.1;by_cases k:t=n;subst k;apply(Qu q B r o).mono;rintro u i⟨d,rfl,f,c⟩;refine⟨d,rfl,?_,Z.ep c.grown<|λK l=>.inl l,c.vQ⟩;rw[<-s,aY,gz,dz];exact f;rcases q.2 with⟨rfl,rfl⟩|⟨L,a,e,rfl,j,C,F,m,g,h⟩;omega;by_cases b:n+1<=a;refine(KD baseqq L a n t e xs j C b (by unfold maxLen at m;omega) g h r (λu=>p (by rw[u];rfl)) (by omega) o A).mono ?_;rintro u i⟨rfl,f,c⟩;exact⟨_,rfl,f,c.mono<|λK l=>.inl (by rw[l];rfl),.inl rfl⟩;(obtain rfl:a=n:=by omega);apply(NI baseqq L a t e xs B C g h r (by omega) o A).mono;rintro u i⟨D,rfl,f,c⟩;exact⟨_,rfl,f,c.mono cJ,.inr ⟨_,rfl,ag _⟩⟩
end
def JK{l m:cU}(h:b<y m):fQ l (m.take<|b+1)=lO (fQ l<|m.take b) m[b]:=by
 unfold fQ;rw[ah h,gd];rfl
def Sr(l:cU)(e:E):y (lO l e)<=y l+1:=by
 have:∀l:cU,y (l.filter<|λx=>ahead x e)+y (l.filter<|λx=>ahead e x)<=y l:=by
  intro l;induction l with
  |nil=>simp
  |cons x r a=>
   grind[filter_cons_of_pos,filter_cons_of_neg,lS,length_cons]
 have:=this l;unfold lO;grind
def yn(l m:cU):y (fQ l m)<=y l+y m:=by
 unfold fQ;induction m generalizing l with
 |nil=>simp
 |cons e r a=>
  have b:=a<|lO l e;have c:=Sr l e;grind
def eh.fQ(h:eh e)(m:cU):eh (fQ e m):=by
 induction m generalizing e with
 |nil=>exact h
 |cons b r a=>exact a<|h.lO b
theorem Xt(l:cU)(p:M)(x:E)(h:p<y l):((((aI l).set (p*4)<|am x.key).set (p*4+1)<|am x.val).set (p*4+2)<|aM x.del).set (p*4+3) (aG x.bQ)=aI (l.set p x):=by
 induction l generalizing p with
 |nil=>simp at h
 |cons a r c=>
  have e:∀(a:E)(r:cU),aI (a::r)=am a.key::am a.val::aM a.del::aG a.bQ::aI r:=λa r=>by simp[aI,E.cells]
  cases p with
  |zero=>rw[eN,e,e];simp
  |succ p=>
   have b:p<y r:=by simpa using h
   rw[ez,e,e,<-c p b];rw[show(p+1)*4=p*4+1+1+1+1 by omega];simp_all
def We(x:E)(n:a.ownsRow b 171 4 (bI c 0 (y e) i) (y e) (aI e))(s:l<y e):(cH (cH (cH (cH a (R c<|l*4)<|am x.key) (R c<|l*4+1)<|am x.val) (R c<|l*4+2)<|aM x.del) (R c<|l*4+3)<|aG x.bQ).ownsRow b 171 4 (bI c 0 (y e) i) (y<|e.set l x) (aI<|e.set l x):=by
 refine⟨fX _,.inr ?_⟩;rcases n.2 with⟨f,r⟩|⟨q,k,p,f,h,m,d,j,g,o⟩;cases f;cases f;refine⟨c,i,_,by rw[iJ],h,aJ<|aJ<|aJ<|aJ m,by rw[iJ];exact d,j,by simpa using g,?_⟩;grind[Array.toList_setIfInBounds,take_set,length_set,Xt]
def Uf(h:e.take b++w::e.drop b=K)(c:b<=y e):(aI e).take (b*4)++aI [w]++(aI e).drop (b*4)=aI K:=by
 rw[<-h,fY,show w::e.drop b=[w]++e.drop b from rfl,fY,bj];have a:=bS aI<|bO b e;rw[fY]at a;grind[fX,length_take,take_left',drop_left']
def Zq(h:e.take b++w::e.drop b=K)(a:b<=y e):y K=y e+1:=by
 rw[<-h,af,aO,dp,iP];omega
def Vx(h:kJ a d e)(hm:kJ a t K)(hs:eh e)(hl:y e+y K<=100000000)(cd:∀k,cI d=H k->k<z (G a))(bs:∀k,cI t=H k->k<z (G a)):cY bA 88 #[d,t] a λbb w'=>∃v',bb=aN v'/\w'.ownsRow (z<|G a) 171 4 v' (y<|fQ e K) (aI<|fQ e K)/\Z aw a w':=by
 have bn:=Rf h (by omega) cd;obtain⟨mx,mc,bt⟩:=bZ hm;obtain⟨vx,vc,ce⟩:=bZ h;obtain⟨HM,bd,HS⟩:=dF hm bs hs;subst bt;subst ce;go_in
 go_wp2_with fail
 apply bn.mono;rintro bb w1⟨v1,rfl,aU,bl⟩;obtain⟨x1,c1,cb⟩:=aC aU;subst cb;have bf:=X aU;have bh:=X<|Z.aQ (S:=aw) bl;go_wp2_with fail
 go_loopw [5,13] (λo i wr=>∃(k:M),k<=y K/\i=aq k/\wr.ownsRow (z<|G a) 171 4 o (y<|fQ e<|K.take k) (aI<|fQ e<|K.take k)/\Z aw a wr) (λ_ i _=>y K-(intOf i).toNat)
 case atStart=>exact⟨0,bK _,rfl,bf,bh⟩
 (case round=>obtain⟨k,W,rfl,ho,ht⟩:=hrel;obtain⟨nx,nc,bv⟩:=aC ho;subst bv;by_cases C:k<y K;(·(have e1:(k:U)<(y K:U):=by omega);have O:=JK (l:=e) C;have ba:eh (fQ e<|K.take k):=HS.fQ _;(have br:y (fQ e<|K.take k)<=100000000:=by have:=yn e<|K.take k;have:=sP k K;omega);generalize fQ e (K.take k)=b at ho O ba br|-;obtain⟨cm,⟨aF,cl⟩|⟨bc,i,ck,aF,co,hc⟩⟩:=J HM;exfalso;omega;cases aF;have x:bc<z (G a):=bd bc rfl;have s:=eQ K k C;have cn:bc<z (G wr):=ai x ht.size;have bx:aW wr (R bc<|i+k*4)=H (am K[k].key):=ht.cell (hc _ _ s.1) id x;have bE:aW wr (R bc<|i+k*4+1)=H (am K[k].val):=ht.cell (by rw[bD];grind) id x;have bL:aW wr (R bc<|i+k*4+2)=H (aM K[k].del):=ht.cell (by rw[bD];grind) id x;have bT:aW wr (R bc<|i+k*4+3)=H (aG K[k].bQ):=ht.cell (by rw[bD];grind) id x;obtain⟨F,B,P,HT⟩:=gw O ba ho ht;generalize K[k]=cq at*;obtain⟨f,l,xd,g⟩:=cq;simp only at bx bE bL bT;have ac:Z aw wr (dd wr<|ay #[am f,am l,aM xd,aG g] 171):=(cO _ _);have N:=CY (I nx (y b) nc) f g (dd wr<|ay #[am f,am l,aM xd,aG g] 171) (dR<|ac.own P<|λ_ _ aU=>aU) B (by omega) (λbc a=>by have:=(P.lt bc a).2;simp;omega);have A:=Kd b ⟨f,⟨#[]⟩,bw,g⟩;by_cases av:∃h:lF b ⟨f,⟨#[]⟩,bw,g⟩<y b,b[lF b ⟨f,⟨#[]⟩,bw,g⟩].key=f/\b[lF b ⟨f,⟨#[]⟩,bw,g⟩].bQ=g;(.obtain⟨V,T,D⟩:=av;have aV:=Sq B ⟨f,l,xd,g⟩ V T D;have ad:=X<|show b.set (lF b ⟨f,⟨#[]⟩,bw,g⟩) ⟨f,l,xd,g⟩=lO b ⟨f,l,xd,g⟩from aV;generalize lF b ⟨f,⟨#[]⟩,bw,g⟩=p at*;(have e2:(p:U)<(y b:U):=by omega);(have e3:(0:U)<=(p:U):=by omega);(go_wp2_with fail);apply N.mono;rintro bb c⟨rfl,w⟩;have r:jb c (z<|G wr) ⟨f,l,xd,g⟩:=(w.block _<|by simp).trans<|aK _ rfl;have v:Z aw wr c:=ac.cz<|Z.aQ (S:=aw) w;have u:=v.own P<|λ_ _ aU=>aU;obtain⟨q0,q1,q2,q3⟩:=r.cells;have L:=ak r;simp only at q0 q1 q2 q3;have bk:∀o,cI (I nx (y b) nc)=H o->o<z (G wr):=λo s=>(P.lt o s).2;rcases u.2 with⟨h2,h0⟩|⟨o,al,ch,h2,bp,s,ax,bu,bo,j⟩;exfalso;omega;cases h2;(have cc:o≠z (G wr):=λbb=>by have:=bk o rfl;omega);have bm:=eQ b p V;(have r0:aW c (R o<|p*4)=H (am b[p].key):=by simpa using qC s j _ _ 0 (by simp_all));(have r1:aW c (R o<|p*4+1)=H (am b[p].val):=by simpa using qC s j _ _ 0 (by simp_all));(have r2:aW c (R o<|p*4+2)=H (aM b[p].del):=by simpa using qC s j _ _ 0 (by simp_all));(have r3:aW c (R o<|p*4+3)=H (aG b[p].bQ):=by simpa using qC s j _ _ 0 (by simp_all));(have f0:∀j,c.frozen? (R o j)=bw:=λj=>by simp[World.frozen?,s]);have an:=f0<|p*4;have ao:=f0<|p*4+1;have ap:=f0<|p*4+2;have au:=f0<|p*4+3;obtain⟨bg,bi,ca,HG⟩:=gw u v r s;generalize z (G wr)=eb at*;generalize b[p]=m at*;obtain⟨yk,yv,yd,yb⟩:=m;simp only at r0 r1 r2 r3 T D;subst T;subst D;go_wp2;(go_quiet(fail));have hd:Z aw c (c.drewN nq):=Z.aQ<|below_drewN (Below.refl _ _) _;have aa:=X<|hd.own bg<|λ_ _ aU=>aU;have Q:=X<|(HT.cz bi).cz hd;have cj:eb<z (G<|c.drewN nq):=L;(replace r0:aW (c.drewN nq) (R o<|p*4)=_:=r0);(replace r1:aW (c.drewN nq) (R o<|p*4+1)=_:=r1);(replace r2:aW (c.drewN nq) (R o<|p*4+2)=_:=r2);(replace r3:aW (c.drewN nq) (R o<|p*4+3)=_:=r3);(replace q0:aW (c.drewN nq) (R eb 0)=_:=q0);(replace q1:aW (c.drewN nq) (R eb 1)=_:=q1);(replace q2:aW (c.drewN nq) (R eb 2)=_:=q2);(replace q3:aW (c.drewN nq) (R eb 3)=_:=q3);(replace an:(c.drewN nq).frozen? (R o<|p*4)=_:=an);(replace ao:(c.drewN nq).frozen? (R o<|p*4+1)=_:=ao);(replace ap:(c.drewN nq).frozen? (R o<|p*4+2)=_:=ap);(replace au:(c.drewN nq).frozen? (R o<|p*4+3)=_:=au);generalize c.drewN nq=w3 at*;go_wp2;(have bq:∀k,k=o->z (G a)<=k:=λk W=>by rw[W];exact(aa.lt o rfl).1);refine⟨⟨k+1,C,by go_num,?_,?_⟩,by simp[intOf];omega⟩;rw[J F,<-J ad];exact We ⟨yk,l,xd,yb⟩ aa V;refine(((Q.setCell _ _ _ ?_).setCell _ _ _ ?_).setCell _ _ _ ?_).setCell _ _ _ ?_<;>exact .inr<|bq o rfl);(.have ad:=Ss B ⟨f,l,xd,g⟩<|B.G7 ⟨f,l,xd,g⟩<|λa bb=>av ⟨a,bb⟩;have D:=X<|show b.take (lF b ⟨f,⟨#[]⟩,bw,g⟩)++⟨f,l,xd,g⟩::b.drop (lF b ⟨f,⟨#[]⟩,bw,g⟩)=lO b ⟨f,l,xd,g⟩from ad;generalize lF b ⟨f,⟨#[]⟩,bw,g⟩=p at*;(go_wp2_with fail);apply N.mono;rintro bb c⟨rfl,w⟩;have r:jb c (z<|G wr) ⟨f,l,xd,g⟩:=(w.block _<|by simp).trans<|aK _ rfl;have v:Z aw wr c:=ac.cz<|Z.aQ (S:=aw) w;have u:=v.own P<|λ_ _ aU=>aU;obtain⟨q0,q1,q2,q3⟩:=r.cells;have L:=ak r;simp only at q0 q1 q2 q3;have cp:=HT.size;have cj:=v.size;have ap:=X (λ(q:M)=>show _/\_/\_ from have aa:Z aw c (dd (c.drewN q)<|ay #[am f,am l,aM xd,aG g] 171):=(Z.aQ (S:=aw)<|below_drewN (Below.refl _ c) q).alloc _;have an:=aa.own u<|λ_ _ aU=>aU;⟨Qv (w:=(dd (c.drewN q)<|ay #[am f,am l,aM xd,aG g] 171)) (baseqq:=z<|G a) (v:=(I nx (y b) nc)) (n:=y b) p (xs:=(aI b)) (x:=⟨f,l,xd,g⟩) (vb:=z<|G c) an (by have:=aa.size;omega) (aK _ rfl) (λbb=>by have:=(u.lt _ bb).2;omega) A (by omega)<|Wk b,(HT.cz v).cz aa,λk W=>(an.lt k W).1⟩);(have T:(∃o,nx=H (R o 0)/\∃m:E,p<y b/\aW c (R o<|p*4)=H (am m.key)/\aW c (R o<|p*4+3)=H (aG m.bQ)/\(m.key≠f\/(m.key=f/\m.bQ≠g)))\/((p:U)<(y b:U))=False:=by by_cases V:p<y b;left;rcases u.2 with⟨h2,h0⟩|⟨o,al,ch,h2,bp,s,ax,bu,bo,j⟩;omega;cases h2;have bm:=eQ b p V;refine⟨o,rfl,b[p],V,by simpa using qC s j _ _ 0 (by simp_all),by simpa using qC s j _ _ 0 (by simp_all),?_⟩;by_cases W:b[p].key=f;simp_all;simp_all;simp_all);generalize z (G wr)=eb at*;rcases T with⟨o,rfl,⟨yk,yv,yd,yb⟩,V,r0,r3,hy|⟨rfl,hy⟩⟩|e2;(case' inl.inl=>simp only at r0 r3 hy;(have e2:(p:U)<(y b:U):=by omega);(have e3:(0:U)<=(p:U):=by omega);have e4:=JT hy);(case' inl.inr=>simp only at r0 r3 hy;(have e2:(p:U)<(y b:U):=by omega);(have e3:(0:U)<=(p:U):=by omega);have e4:(yb==g)=bw:=by simpa using hy);(all_goals(go_wp2_with fail);(go_quiet(fail));obtain⟨bq,bk,bi⟩:=ap nq;have Q:=X bk;have au:=X bi;(go_wp2_with fail);apply bq.mono;rintro bb w4⟨v4,rfl,ao,ca,_⟩;obtain⟨x4,c4,cc⟩:=aC ao;subst cc;have aV:=X ao;have bg:=X ca;go_wp2;refine⟨⟨k+1,C,by go_num,?_,?_⟩,by simp[intOf];omega⟩;rw[J F,Zq (J D) A,<-Uf (J D) A];exact aV;exact Q.trans bg<|λk W=>.inr<|au k W)));(have e1:¬(k:U)<(y K:U):=by omega);(have b:k=y K:=by omega);obtain⟨c,P,HT⟩:=dF (show fQ e K=fQ e (K.take k)by rw[b,aY]) ho ht;go_wp2;go_ret;exact⟨_,rfl,by rw[J c];exact P,HT⟩)
def kV(a:U)(c:LH):E:=⟨c.key,if c.del then⟨#[]⟩else c.val,c.del,a⟩
theorem Od{e:oR}(b:U)(hp:Ik a d e)(hv:∀k,cI d=H k->k<z (G a))(hr:y e<=1000000)(hz:∀cb∈e,cb.key.size<=140737488351232/\cb.val.size<=140737488351232):cY bA 72 #[d,.int .u64 b] a λcd w'=>∃v',cd=.returned v'/\w'.ownsRow (z<|G a) 171 4 v' (y e) (aI<|e.map<|kV b)/\Z (λ_=>False) a w':=by
 have cj:∀(cb:Bool)(a:Y),(Op.unary .not<|.bool cb).run bA a=.ok (.bool<|!cb) a:=λ_ _=>rfl;obtain⟨i0,aa,an,ao,ap⟩:=dl nz;obtain⟨cx,cc,bu⟩:=bZ hp;obtain⟨HP,HV,HZ⟩:=dF hp hv hz;subst bu;go_in
 go_wp2_with(at_make;refine kG _ rfl _ _ 72 rfl (z<|G a) 171 i0 xg 4 underlying72 aa an ao _ _ _ (y e) rfl rfl rfl (by rw[ap];omega) (by unfold maxLen;omega) (ag _) ?_;intro w1 bm bi;have N:=X bm;have au:=X bi)
 go_loopw [5,14] (λo bq wr=>∃(k:M),k<=y e/\bq=.int .i64 k/\wr.ownsRow (z<|G a) 171 4 o k (aI<|(e.take k).map<|kV b)/\Z (λ_=>False) a wr) (λ_ bq _=>y e-(intOf bq).toNat)
 case atStart=>exact⟨0,bK _,rfl,N,Z.ep au<|by simp⟩
 case round=>
  obtain⟨k,hk,rfl,ho,F⟩:=hrel;obtain⟨nx,nc,bv⟩:=aC ho;subst bv;by_cases u:k<y e
  .have e1:(k:U)<(y e:U):=by omega
   obtain⟨cn,⟨bl,cm⟩|⟨bp,f,cl,bl,cr,hc⟩⟩:=J HP
   .exfalso;omega
   cases bl;have E:bp<z (G a):=HV bp rfl;have hg:=lW e k u;have co:bp<z (G wr):=ai E F.size;have bE:aW wr ⟨bp,f+k*3,none⟩=H (.string e[k].key):=F.cell (hc _ _ hg.1) id E;have bL:aW wr ⟨bp,f+k*3+1,none⟩=H (.string e[k].val):=F.cell (by rw[bD];grind) id E;have bT:aW wr ⟨bp,f+k*3+2,none⟩=H (.bool e[k].del):=F.cell (by rw[bD];grind) id E;have ca:=HZ _<|ar u;obtain⟨ax,HO,HT⟩:=dF (show(e.take<|k+1).map (kV b)=(e.take k).map (kV b)++[kV b e[k]]by rw[ah u,aE];rfl) ho F;generalize e[k]=cb at*;obtain⟨g,l,xd⟩:=cb;simp only at bE bL bT ca;have bg:=λW=>tI g W (by omega);have bh:=λW=>tI l W (by omega);go_wp2_with fail
   rename_i QQ KK bt;have n:(dd wr<|.cells #[.string g,.string l,.bool xd] 56).heap[z<|G wr]?=H (.cells #[.string g,.string l,.bool xd] 56 (0,0)):=aK _ rfl;have bc:Z (λ_=>False) a (dd wr<|.cells #[.string g,.string l,.bool xd] 56):=HT.alloc _;have aV:=aT HO<|.cells #[.string g,.string l,.bool xd] 56;generalize dd wr (.cells #[.string g,.string l,.bool xd] 56)=j at n bc aV|-;generalize z (G wr)=m at n|-;have C:aW j.drew ⟨m,0,none⟩=H (.string g)/\aW j.drew ⟨m,2,none⟩=H (.bool xd):=⟨by show aW j _=_;rw[ct n];rfl,by show aW j _=_;rw[ct n];rfl⟩;have w:=ak n;obtain⟨B,br,aF,av⟩:=gw (show∀i,Z (λ_=>False) j i->aW i ⟨m,0,none⟩=H (.string g)/\aW i ⟨m,2,none⟩=H (.bool xd)fromλi a=>⟨a.cell C.1 id w,a.cell C.2 id w⟩) n bc aV;refine eH (λi=>aW i ⟨m,0,none⟩=H (.string g)/\aW i ⟨m,2,none⟩=H (.bool xd)) 8 (by kernel_rfl) ?_;refine fw 0 ?_;iterate 2 (refine iS (v:=?_) C rfl (by kernel_rfl) lQ rfl ?_ ?_;rotate_left;(focus(rintro i⟨z0,z2⟩;go_simp;try rfl));simp only[Act.put,ig,Nat.reduceAdd])
   apply iG;refine fw 3 ?_;iterate 3 (refine iS (v:=?_) C rfl (by kernel_rfl) lQ rfl ?_ ?_;rotate_left;(focus(rintro i⟨z0,z2⟩;go_simp;try rfl));simp only[Act.put,ig,Nat.reduceAdd])
   apply iG;refine uQ (α:=M) (λc W=>Z (λ_=>False) j W/\W.heap[c]?=H (.cells #[.string ⟨#[]⟩,.string ⟨#[]⟩,.bool bw,.int .u64 0] 171 (0,0))/\z (G j)<=c) (λc=>{tmps:=#[.slice (H ⟨bp,f,none⟩) (y e) cc,.int .u64 b,iM,iM,.slice none 0 0,.slice nx k nc,iM,.pointer<|H ⟨m,0,none⟩,.pointer<|H ⟨c,0,none⟩,.slice (H ⟨bp,f,none⟩) (y e) cc,.int .i64<|y e,.slice (H ⟨z<|G a,0,none⟩) 0<|y e,.slice (H ⟨bp,f,none⟩) (y e) cc,.int .i64<|y e,.int .i64 k,.bool cf,.pointer<|H ⟨bp,f+k*3,none⟩,.agg #[.string g,.string l,.bool xd],.pointer<|H ⟨m,0,none⟩,.string g,.string g,.pointer<|H ⟨m,2,none⟩,.bool xd,.int .u64 b,.agg #[.string g,.string ⟨#[]⟩,.bool xd,.int .u64 b],u25,u26,u27,u28,u29,u30,u31,u32,u33,u34,u35,u36,iM],defers:=[]}) #[true,true,true,true,true,true,true,true,false] 1 ?_ ?_
   .intro bo;refine ue (i:=2) (j:=7) rfl rfl rfl rfl (by kernel_rfl) ?_ ?_
    .intro cv hK;go_simp;apply(bg _).mono;rintro cd w4⟨rfl,D⟩;have p:Z (λ_=>False) j w4:=(dh (λ_=>False) j).cz<|Z.aQ (S:=λ_=>False) D;have bb:=B w4 p;refine hK _ _ (λ_=>bb) ?_;refine lN (i:=6) (v:=?_) rfl rfl (by kernel_rfl) (by kernel_rfl) (by kernel_rfl) (by kernel_rfl) (λ_ _ _ h=>h) (Or.inl ⟨by rfl,?_⟩) bb ?_;rotate_left
     .rintro i⟨z0,z2⟩;go_simp;try with_reducible rfl
     refine bG (i:=7) rfl rfl (by kernel_rfl) ?_;intro K2 V;go_simp;have A:=p.alloc<|.cells #[.string ⟨#[]⟩,.string ⟨#[]⟩,.bool bw,.int .u64 0] 171;refine V _ _ (λ_=>B _ A) ?_;exact jZ (bo (z<|G w4) _ ⟨A,aK _ rfl,p.size⟩)<|by kernel_rfl
    .intro cv hK;go_simp;have p:Z (λ_=>False) j ((dd j<|.cells #[.string ⟨#[]⟩,.string ⟨#[]⟩,.bool bw,.int .u64 0] 171).drew):=(cO (λ_=>False) j).of_heap rfl;have D:((dd j<|.cells #[.string ⟨#[]⟩,.string ⟨#[]⟩,.bool bw,.int .u64 0] 171).drew).heap[z<|G j]?=H (.cells #[.string ⟨#[]⟩,.string ⟨#[]⟩,.bool bw,.int .u64 0] 171 (0,0)):=aK (w:=j) _ rfl;refine hK _ _ (λ_=>B _ p) ?_;refine bG (i:=2) rfl rfl (by kernel_rfl) ?_;intro K2 V;go_simp;apply(bg _).mono;rintro cd w5⟨rfl,bf⟩;have A:Z (λ_=>False) j w5:=p.cz<|Z.aQ (S:=λ_=>False) bf;have bs:=((Z.aQ (S:=λ_=>False) bf).block _ (ak D) id).trans D;have bb:=B _ A;refine V _ _ (λ_=>bb) ?_;refine lN (i:=6) (v:=?_) rfl rfl (by kernel_rfl) (by kernel_rfl) (by kernel_rfl) (by kernel_rfl) (λ_ _ _ h=>h) (Or.inl ⟨by rfl,?_⟩) bb ?_;rotate_left
     .rintro i⟨z0,z2⟩;go_simp;try with_reducible rfl
     exact jZ (bo (z<|G j) _ ⟨A,bs,ag _⟩)<|by kernel_rfl
   rintro c W⟨F,Q,t⟩;have ch:=ak Q;refine bG (i:=8) rfl rfl (by kernel_rfl) ?_;intro cv hK;have q0:aW W ⟨c,0,none⟩=H (.string ⟨#[]⟩):=by rw[ct Q];rfl
   have q1:aW W ⟨c,1,none⟩=H (.string ⟨#[]⟩):=by rw[ct Q];rfl
   have q2:aW W ⟨c,2,none⟩=H (.bool bw):=by rw[ct Q];rfl
   have q3:aW W ⟨c,3,none⟩=H (.int .u64 0):=by rw[ct Q];rfl
   have fz:∀cu,W.frozen? ⟨c,cu,none⟩=bw:=λcu=>by simp[World.frozen?,Q]
   go_simp;refine hK _ _ IY ?_;refine fm (by kernel_rfl) ?_ _;show KK _ _;apply bt;have aU:jb (cH (cH (cH (cH W ⟨c,0,none⟩<|.string g) ⟨c,1,none⟩<|.string ⟨#[]⟩) ⟨c,2,none⟩<|.bool xd) ⟨c,3,none⟩<|.int .u64 b) c ⟨g,⟨#[]⟩,xd,b⟩:=aJ<|aJ<|aJ<|aJ Q;have s:Z (λ_=>False) j (cH (cH (cH (cH W ⟨c,0,none⟩<|.string g) ⟨c,1,none⟩<|.string ⟨#[]⟩) ⟨c,2,none⟩<|.bool xd) ⟨c,3,none⟩<|.int .u64 b):=(((F.setCell _ _ _<|.inr t).setCell _ _ _<|.inr t).setCell _ _ _<|.inr t).setCell _ _ _<|.inr t;have bd:=aF.cz s;have ba:=s.own av<|λ_ _ d=>d;have o:=(s.block _ w id).trans br;have cs:c≠m:=by omega
   have bn:z (G a)<=c:=aB aF.size t;have bx:cI (Value.slice nx k nc)≠H c:=λcd=>by have:=(av.lt c cd).2;omega
   generalize(cH (cH (cH (cH W ⟨c,0,none⟩<|.string g) ⟨c,1,none⟩<|.string ⟨#[]⟩) ⟨c,2,none⟩<|.bool xd) ⟨c,3,none⟩<|.int .u64 b)=W5 at aU bd ba o|-;have d0:aW W5 ⟨m,0,none⟩=H (.string g):=by rw[ct o];rfl
   have d1:aW W5 ⟨m,1,none⟩=H (.string l):=by rw[ct o];rfl
   have d2:aW W5 ⟨m,2,none⟩=H (.bool xd):=by rw[ct o];rfl
   have ce:=ak o;obtain⟨K,O,L,ck⟩:=gw aU bd ba o;obtain⟨g0,g1,g2,g3⟩:=K.cells;simp only at g0 g1 g2 g3;have bk:=ak K;cases xd with
   |true=>
    go_wp2_with(at_builtin;refine cC _ rfl (.tmp 32) (.tmp 34) 72 rfl (z<|G a) 171 i0 xg 4 48 underlying72 aa an ao ap rfl (by decide) (.slice nx k nc) k (aI<|(e.take k).map<|kV b) rfl (aT L<|.cells #[.string g,.string ⟨#[]⟩,.bool cf,.int .u64 b] 171) ⟨z<|G W5,0,none⟩ 1 1 (aI [⟨g,⟨#[]⟩,cf,b⟩]) rfl rfl (xG _ ⟨g,⟨#[]⟩,cf,b⟩ _) (Dd _) (by omega) (by omega) (by have:=O.size;simp;omega) ?_;intro v7 w7 ac al;have r:=X ac;have P:=X al)
    obtain⟨x7,c7,ad⟩:=aC r;subst ad;go_roundw;case rel=>
     refine⟨k+1,u,by go_num,?_,?_⟩
     .rw[J ax,fY];exact r
     .exact(O.alloc _).trans (Z.ep (S:=λq=>cI (Value.slice nx k nc)=H q) P.grown<|λq x=>.inl x)<|λq x=>.inr (L.lt q x).1
    case measure=>simp[intOf];omega
   |false=>
    go_wp2_with fail
    apply(bh _).mono;rintro cd w6⟨rfl,bo⟩;have A:Z (λ_=>False) W5 w6:=Z.aQ bo;have p:jb w6 c ⟨g,⟨#[]⟩,bw,b⟩:=(A.block _ bk id).trans K;have bs:z (G a)<=c:=bn;have bf:=(O.cz A).setCell c 1 (.string l)<|.inr bn;have bb:=(((A.mono (T:=λq=>q=c) cJ).setCell c 1 (.string l)<|.inl rfl)).own L<|λq x d=>bx (by rw[<-d];exact x);obtain⟨h0,h1,h2,h3⟩:=p.cells;simp only at h0 h1 h2 h3;have cp:w6.frozen? ⟨c,1,none⟩=bw:=by unfold jb at p;simp[World.frozen?,p]
    have cq:=ak p;have V:=X bf;have D:=X bb;go_wp2_with(at_builtin;refine cC _ rfl (.tmp 32) (.tmp 34) 72 rfl (z<|G a) 171 i0 xg 4 48 underlying72 aa an ao ap rfl (by decide) (.slice nx k nc) k (aI<|(e.take k).map<|kV b) rfl (aT D<|.cells #[.string g,.string l,.bool bw,.int .u64 b] 171) ⟨z<|G w6,0,none⟩ 1 1 (aI [⟨g,l,bw,b⟩]) rfl rfl (by have x:=xG (cH w6 ⟨c,1,none⟩<|.string l) ⟨g,l,bw,b⟩ 171;rwa[im]at x) (Dd _) (by omega) (by omega) (by have:=V.size;simp;omega) ?_;intro v7 w7 ac al;have r:=X ac;have P:=X al)
    obtain⟨x7,c7,ad⟩:=aC r;subst ad;go_roundw;case rel=>
     refine⟨k+1,u,by go_num,?_,?_⟩
     .rw[J ax,fY];exact r
     .exact(V.alloc _).trans (Z.ep (S:=λq=>cI (Value.slice nx k nc)=H q) P.grown<|λq x=>.inl x)<|λq x=>.inr (D.lt q x).1
    case measure=>simp[intOf];omega
  .have e1:¬(k:U)<(y e:U):=by omega
   have c:k=y e:=by omega
   obtain⟨g,f,HO,HT⟩:=gw (show aI (e.map<|kV b)=aI ((e.take k).map<|kV b)by rw[c,aY]) c ho F;go_wp2;go_ret;exact⟨_,rfl,by rw[J g,<-J f];exact HO,HT⟩
def Hh(w:Y)(v:ab)(a:oR):Prop:=(Ik w v a/\∀k,cI v=H k->k<z (G w))\/(a=[]/\∃(b:Addr)(c:M),v=I (H b) 0 c)
def zu{c:oR}(i:Hh a d c):∃x g,d=I x (y c) g:=by
 rcases i with⟨⟨k,⟨f,j⟩|⟨h,e,b,f,_⟩⟩,_⟩|⟨rfl,l,g,rfl⟩;grind
 grind
 simp_all
def Hh.aj{S:fh}{w w':Y}{a:oR}(h:Hh w d a)(c:Z S w w')(j:∀k,k<z (G w)->¬S k):Hh w' d a:=by
 rcases h with⟨h,e⟩|h;exact .inl ⟨c.row h (by grind),λk g=>ai (e k g) c.size⟩;exact .inr h
def Kq(x:Option Addr)(c:M)(w:Y):cY bA 33 #[I x 0 c] w λe b=>e=aN (xF<|fZ [])/\Z aw w b:=by
 go_in
 go_wp2;go_loopw [11] (λi wr=>i=aq 0/\wr=w) (λ_ _=>0)
 case atStart=>grind
 (case round=>obtain⟨rfl,a⟩:=hrel;subst wr;go_wp2;go_ret;exact⟨rfl,Z.refl _ _⟩)
def Wz{b:oR}(e:Hh a d b)(f:y b<=1000000000000)(g:∀x∈b,x.key.size<=140737488351232/\x.val.size<=140737488351232):cY bA 33 #[d] a λi h=>i=aN (xF<|fZ b)/\Z aw a h:=by
 rcases e with⟨j,c⟩|⟨rfl,k,d,rfl⟩;exact Nj j c f g;exact Kq _ _ _
def LU(x:Option Addr)(c:M)(w:Y):cY bA 54 #[I x 0 c] w λe b=>∃a,e=aN a/\OO b (z<|G w) a []/\Below (z<|G w) w b:=by
 go_in
 go_wp2;go_loopw [3,4] (λo i wr=>i=aq 0/\o=az/\wr=w) (λ_ _ _=>0)
 case atStart=>grind
 (case round=>obtain⟨rfl,rfl,rfl⟩:=hrel;go_wp2;go_ret;exact⟨_,rfl,cK _ _ _ _,Below.refl _ _⟩)
def Ru{l:oR}(f:y l<=1000000000000)(g:Hh a d l):cY bA 54 #[d] a λh c=>∃b,h=aN b/\OO c (z<|G a) b l/\Below (z<|G a) a c:=by
 rcases g with⟨i,e⟩|⟨rfl,j,k,rfl⟩;exact Pd l d a f i e;exact LU _ _ _
def KX(A:Option Addr)(s:M)(a:U)(w:Y):cY bA 72 #[I A 0 s,.int .u64 a] w λt o=>∃n,t=aN n/\o.ownsRow (z<|G w) 171 4 n 0 []/\Z aw w o:=by
 obtain⟨r,f,j,k,l⟩:=dl nz;go_in
 go_wp2_with(at_make;refine kG _ rfl _ _ 72 rfl (z<|G w) 171 r xg 4 underlying72 f j k _ _ _ 0 rfl rfl rfl (by rw[l];omega) (by grind) (ag _) ?_;intro x c b;have d:=X c;have e:=X b;clear c b)
 go_loopw [5,14] (λb i wr=>i=aq 0/\wr.ownsRow (z<|G w) 171 4 b 0 []/\Z aw w wr) (λ_ _ _=>0)
 case atStart=>exact⟨rfl,d,Z.ep e<|by simp⟩
 (case round=>obtain⟨rfl,i,m⟩:=hrel;obtain⟨v,u,g⟩:=aC i;subst g;have p:=X i;have q:=X m;clear i m;go_wp2;go_ret;exact⟨_,rfl,p,q⟩)
def Xv{c:oR}(b:U)(g:Hh a d c)(j:y c<=1000000)(k:∀x∈c,x.key.size<=140737488351232/\x.val.size<=140737488351232):cY bA 72 #[d,.int .u64 b] a λh f=>∃e,h=aN e/\f.ownsRow (z<|G a) 171 4 e (y c) (aI<|c.map<|kV b)/\Z aw a f:=by
 rcases g with⟨m,i⟩|⟨rfl,l,d,rfl⟩;grind[Od]
 exact KX _ _ _ _
structure EQ where
 kd:U
 L:ab
 cs:oR
def EQ.cells(o:EQ):ix:=[aq o.kd,o.L]
def si(a:ci EQ):ix:=a.flatMap EQ.cells
def tf(a:ci EQ)(i:M)(h:i<y a)(j:M)(b:j<2):(si a)[i*2+j]?=a[i].cells[j]?:=by
 induction a generalizing i with
 |nil=>simp at h
 |cons o a d=>
  have e:si (o::a)=o.cells++si a:=rfl;have c:y o.cells=2:=rfl;grind
def LM(a:oR):M:=(a.map<|λc=>1+c.key.size+c.val.size).sum
def Q2(o:EQ):M:=LM o.cs
def ER(a:ci EQ):M:=(a.map Q2).sum
structure zd(w:Y)(v:ab)(os:ci EQ):Prop where
 row:Row w 2 v (y os) (si os)
 Ot:∀o∈os,Hh w o.L o.cs
 lt:∀k,cI v=H k->k<z (G w)
 S6:∀o∈os,∀c∈o.cs,c.key.size<=140737488351232/\c.val.size<=140737488351232
 len:y os<=10000000000000
 lens:∀o∈os,y o.cs<=10000000000000
def Vv(a:oR)(k:M)(h:k<y a):LM (a.take<|k+1)=LM (a.take k)+(1+a[k].key.size+a[k].val.size):=by
 unfold LM;rw[ah h,aE,ga];simp
def LK(a:ci EQ)(i:M)(h:i<y a):ER (a.take<|i+1)=ER (a.take i)+Q2 a[i]:=by
 unfold ER;rw[ah h,aE,ga];simp
def z8(a:oR)(k:M):LM (a.take k)<=LM a:=by
 unfold LM;grind[take_append_drop]
def Vu(a:ci EQ)(k:M):ER (a.take k)<=ER a:=by
 unfold ER;grind[take_append_drop]
def Pq(aV d bd:M)(b:ci EQ)(h:zd a (bI aV d (y b) bd) b):cY bA 11 #[bI aV d (y b) bd] a λbf w'=>bf=aN (aM<|decide<|y b+ER b<=1048576)/\∃q,w'=a.drewN q:=by
 by_cases aF:1048576<y b;(·(have e1:(1048576:U)<(y b:U):=by omega);(have V:decide (y b+ER b<=1048576)=bw:=by simp;omega);rw[V];(go_in);go_wp2;go_ret;exact⟨rfl,0,rfl⟩);(·(have e1:¬((1048576:U)<(y b:U)):=by omega);(have k:∀W:Y,W.heap=a.heap->∀j(hi:j<y b),aW W (R aV<|d+j*2+1)=H b[j].L:=λW l j hi=>by obtain⟨o,⟨S,n⟩|⟨i,g,f,S,e,m⟩⟩:=h.row;cases S;(have c:∀j u,(si b)[j]?=H u->aW W (R aV<|d+j)=H u:=λj u a=>by grind[World.cell?_of_block]);rw[bD];exact c _ _<|(tf b j hi 1<|by omega).trans rfl);have w:=X k;have HS:=X h;clear h k;(go_in);(go_wp2_with fail);(go_loopw [3,4] (λnv c wr=>∃j:M,j<=y b/\c=aq j/\nv=aq (y b+ER (b.take j):M)/\y b+ER (b.take j)<=1048576/\∃q,wr=a.drewN q) (λ_ c _=>y b-(intOf c).toNat));(case atStart=>exact⟨0,bK _,rfl,by simp[ER],by simp[ER];omega,0,rfl⟩);(case round=>obtain⟨j,hi,rfl,rfl,u,q,rfl⟩:=hrel;by_cases r:j<y b;(.have g:=ar r;have c5:=w a rfl j r;have A:=HS.S6 _ g;have l:=HS.Ot _ g;have an:=HS.lens _ g;have Q:=LK b j r;have O:=Vu b<|j+1;have B:Q2 b[j]=LM b[j].cs:=rfl;have ao:∃x lc,b[j].L=I x (y b[j].cs) lc:=zu l;obtain⟨lx,lc,hL⟩:=ao;rw[hL]at c5 l;generalize b[j]=bg at*;obtain⟨bc,oL,c⟩:=bg;simp only at c5 A l an B hL;obtain⟨i,hM⟩:∃i,y b+ER (b.take j)=i:=⟨_,rfl⟩;rw[hM]at u|-;(have e2:(j:U)<(y b:U):=by omega);(have e3:(0:U)<=(j:U):=by omega);obtain⟨E,D,F,HM,ac,W⟩:=lw Q O B hM A l;clear Q O B hM A l g;(go_wp2_with fail);(go_loopw [3,5] (λnv b wr=>∃n:M,n<=y c/\b=aq n/\nv=aq (i+LM (c.take n):M)/\(0<n->i+LM (c.take n)<=1048576)/\∃q,wr=a.drewN q) (λ_ b _=>y c-(intOf b).toNat));(case atStart=>exact⟨0,bK _,rfl,by simp[LM],(by simp),q,rfl⟩);(case round=>obtain⟨n,hk,rfl,rfl,e,S,rfl⟩:=hrel;by_cases m:n<y c;(·(have hx:∃K f,lx=H (R K f)/\aW a (R K<|f+n*3)=H (am c[n].key)/\aW a (R K<|f+n*3+1)=H (am c[n].val):=by rcases J W with⟨⟨z1,⟨z2,z0⟩|⟨K,f,ap,z2,aU,bb⟩⟩,_⟩|⟨z3,_⟩;omega;(grind[lW,Nat.add_assoc]);grind);obtain⟨K,f,N,d0,d1⟩:=hx;subst N;have al:=ac _<|ar m;have p:=Vv c n m;have x:=z8 c<|n+1;obtain⟨s,t⟩:∃s,c[n].key.size=s:=⟨_,rfl⟩;obtain⟨C,v⟩:∃C,c[n].val.size=C:=⟨_,rfl⟩;rw[t,v]at al p;obtain⟨P,o⟩:∃P,i+LM (c.take n)=P:=⟨_,rfl⟩;rw[o]at e|-;(have ba:P<=281474977759232:=by rcases n with _|n;simp[LM]at o;omega;grind);generalize c[n]=cc at*;obtain⟨av,ax,au⟩:=cc;simp only at d0 d1 t v;(have b1:IntKind.i64.wrap ((P:U)+1)=(P:U)+1:=by rw[bP];omega);(have b2:IntKind.i64.wrap ((P:U)+1+(s:U))=(P:U)+1+s:=by rw[bP];omega);(have b3:IntKind.i64.wrap ((P:U)+1+(s:U)+(C:U))=(P:U)+1+s+C:=by rw[bP];omega);(have f1:(n:U)<(y c:U):=by omega);(have f0:(0:U)<=(n:U):=by omega);obtain⟨HP,aa,Ez⟩:=dF o p x;by_cases ad:1048576<P+1+s+C;(·(have V:decide (y b+ER b<=1048576)=bw:=by have T:=J E;have L:=J D;have h3:=J F;have h4:=J HM;grind);(have f2:(1048576:U)<(P:U)+1+s+C:=by omega);clear o p x e;(go_wp2_with fail);(go_quiet(fail));go_wp2;go_ret;exact⟨(by simp_all),_,rfl⟩);(·(have f2:¬((1048576:U)<(P:U)+1+s+C):=by omega);clear o p x e;(go_wp2_with fail);(go_quiet(fail));rename_i ap;go_wp2;go_roundw;(case rel=>have T:=J HP;have L:=J aa;refine⟨n+1,m,by go_num,?_,λ_=>by omega,_,rfl⟩;rw[L];grind);case measure=>simp[intOf];omega));(·(have f:n=y c:=by omega);subst f;rw[aY]at e|-;obtain⟨P,o⟩:∃P,i+LM c=P:=⟨_,rfl⟩;rw[o]at e|-;(have f1:¬((y c:U)<(y c:U)):=by omega);have T:=J E;have L:=J D;have h3:=J F;have h4:=J HM;by_cases ad:1048576<P;(·(have V:decide (y b+ER b<=1048576)=bw:=by simp;omega);(have f2:(1048576:U)<(P:U):=by omega);clear T L h3 h4 o e;go_wp2;go_ret;exact⟨(by simp_all),S,rfl⟩);(·(have f2:¬((1048576:U)<(P:U)):=by omega);(have s:y b+ER (b.take<|j+1)=P:=by omega);have p:=X s;clear T L h3 h4 o e s;go_wp2;go_roundw;(case rel=>exact⟨j+1,r,by go_num,by rw[J p],by rw[J p];omega,S,rfl⟩);case measure=>simp[intOf];omega))));(have c:j=y b:=by omega);subst c;rw[aY]at u|-;(have e2:¬((y b:U)<(y b:U)):=by omega);(have V:decide (y b+ER b<=1048576)=cf:=by grind);go_wp2;go_ret;exact⟨rfl,q,rfl⟩))
def Pp(x:Option Addr)(d:M)(w:Y):cY bA 11 #[I x 0 d] w λe c=>e=aN (aM cf)/\c=w:=by
 go_in
 go_wp2;go_loopw [3,4] (λb a wr=>b=aq 0/\a=aq 0/\wr=w) (λ_ _ _=>0)
 case atStart=>grind
 (case round=>obtain⟨rfl,rfl,rfl⟩:=hrel;go_wp2;go_ret;simp_all)
section
open Extern.Stop Stop Extern
def Pz(v:ab)(w:Y):(ReflectliteType.typeOf #[.iface 192 v]).run bA w=.ok (.iface 214<|dL #[dC<|H<|R (7) 192]) w:=by kernel_rfl
def FF(w:Y):(ReflectliteType.relation "AssignableTo" ReflectliteType.assignableTo #[dL #[dC<|H<|R (7) 192],.iface 214<|dL #[dC<|H<|R (7) 52]]).run bA w=.ok (aM bw) w:=by kernel_rfl
def U0(v:ab)(a:TypeId)(w:Y):(Instr.typeAssert (.iface 192 v) a 218 cf).run bA w=.ok (dA #[.nilIface,aM bw]) w:=run_typeAssert_lacksB underlying218 (by kernel_rfl) (by kernel_rfl) v a w
def ZP(n:U)(d:M)(t:Addr)(nh:ab)(b:aW a (R d 1)=H (aq n))(f:oF a)(c:aW a t=H nh)(e:a.frozen? t=bw):cY bA 29 #[.iface 192<|aD d,.iface 103<|dC<|H t] a λm g=>m=aN (aM cf)/\g=((Yg 103 t a).alloc<|ay #[aq n] 52).setCell t (aq n):=by
 unfold oF at f;have S:=T4;have T:=T3;have V:=T2;have s:=C2;have v:=B9;have w:=B8;have o:=C5;have u:=C1;have q:=C4;have r:=C3;have tO:=wU;have tF:=Pz;have L:=FF;have nA:=U0;have uW:=JN;have mU:=xw;have N:=zF;have W:=nF;have k:=yz;have K:=DT;have P:=DS;have Q:=Mo;have mK:=vG;have mE:=vH;have mI:=oW;have F:=Mt;have E:=Mu;have l:=Mw;have D:=yy;have n8:=IJ (R (z<|G a) 0) t (O7 103 t a) (by simp);have A:=cF _ _ f;have x:=(AM 103 t (ay #[] 0) A).1.trans f;have B:=Ao d n (Yg 103 t a)<|(AM 103 t (ay #[] 0)<|cF _ _ b).2.1.trans b;have O:=IK (R (z<|G a) 0) t _<|Ro 103 t;have i:=AM 103 t (ay #[aq n] 52)<|cF _ _ c;have j:=RE t (R (z (G a)+1+1+1) 0) n nh ((Yg 103 t a).alloc<|ay #[aq n] 52) (by rw[rY _ _ _ _<|by simp];rfl) (i.2.2.1.trans c)<|i.2.2.2.trans e;go_in
 go_wp2;refine jd 2 ?_;rw[gZ];go_wp2_with fail
 apply B.mono;rintro aa g⟨rfl,C⟩;subst g;go_wp2;rw[gZ];go_wp2;go_ret;simp_all
def wb{q:M}(d:sF a q k)(l:oF a):cY bA 13 #[fj q] a λo n=>o=aN (aq k)/\Below (z<|G a) a n:=by
 obtain⟨e,d,_⟩:=d;have m:aW (dd a<|ay #[aq 0] 52) (R (z<|G a) 0)=H (aq 0):=by simp
 have j:(dd a<|ay #[aq 0] 52).frozen? (R (z<|G a) 0)=bw:=by simp
 have g:=ZP k q (R (z<|G a) 0) (aq 0) (cellAt ((gq (ay #[aq 0] 52)<|ak d).trans d) 1 rfl) (l.alloc _) m j;have r:=zF;go_in
 go_wp2_with(go_at_call 29;refine g.mono ?_;rintro o f⟨rfl,b⟩;have c:Below (z<|G a) a f:=(by rw[b];exact((((((Below.refl _ a).alloc (ag _) _).alloc (by simp) _).alloc (by simp;omega) _).alloc (by simp;omega) _).alloc (by simp;omega) _).setCell (p:=(R (z<|G a) 0)) (ag _) _);have i:aW f (R (z<|G a) 0)=H (aq k):=(by rw[b];exact oO _ _ _ (by rw[eE _ _ _ (by simp;omega),eE _ _ _ (by simp;omega),eE _ _ _ (by simp;omega),eE _ _ _<|by simp];simp));have HB:=X c;clear b c)
 go_ret;exact⟨rfl,HB⟩
def JY(t:Addr)(w:Y):(ReflectliteValue.unpack<|.iface 231<|dC<|H t).run bA w=.ok (dL #[dC<|H<|R (7) 231,aD<|z<|G w,aG 150]) (dd w<|ay #[dC<|H t] 231):=by kernel_rfl
def Tb(a:Addr)(w:Y):(ReflectliteValue.methodAny (ReflectliteValue.valueError "reflectlite.Value.Type" 0) (λt _ _ _=>ReflectliteType.toType t) #[dL #[dC<|H<|R (7) 231,dC<|H a,aG 150]]).run bA w=.ok (.iface 214<|dL #[dC<|H<|R (7) 231]) w:=by kernel_rfl
def Td(w:Y):((ReflectliteType.abiMethod λt=>(λa:M=>Value.int IntKind.u8 (a:U))<$>Rtype.kind t) #[dC<|H<|R (7) 231]).run bA w=.ok (td 22) w:=by kernel_rfl
def Te(w:Y):((ReflectliteType.abiMethod λt=>(λa:M=>Value.int IntKind.u8 (a:U))<$>Rtype.kind t) #[dC<|H<|R (7) 192]).run bA w=.ok (td 22) w:=by kernel_rfl
def FE(a:Addr)(w:Y):(ReflectliteValue.parts<|dL #[dC<|H<|R (7) 231,dC<|H a,aG 150]).run bA w=.ok (H (231,a,150)) w:=by kernel_rfl
def PD(b p:Addr)(W:Y)(a:aW W b=H (dC<|H p)):(ReflectliteValue.method (ReflectliteValue.valueError "reflectlite.Value.IsNil" 0) ReflectliteValue.isNil #[dL #[dC<|H<|R (7) 231,dC<|H b,aG 150]]).run bA W=.ok (aM bw) W:=by
 rw[Q4];simp only[jY,FE,Result.andThen];simp[ReflectliteValue.isNil,loadVar,isAgg,underlying,underlying231,a,Result.andThen]
def Tf(w:Y):(ReflectliteType.method ReflectliteType.elem #[dL #[dC<|H<|R (7) 231]]).run bA w=.ok (.iface 214<|dL #[dC<|H<|R (7) 192]) w:=by kernel_rfl
def ED(w:Y):(ReflectliteType.relation "Implements" ReflectliteType.implements_ #[dL #[dC<|H<|R (7) 192],.iface 214<|dL #[dC<|H<|R (7) 41]]).run bA w=.ok (aM cf) w:=by kernel_rfl
def Mq(v:ab)(w:Y):(ReflectliteType.typeOf #[.iface 192 v]).run bA w=.ok (.iface 214<|dL #[dC<|H<|R (7) 192]) w:=by kernel_rfl
def EE(w:Y):(ReflectliteType.relation "AssignableTo" ReflectliteType.assignableTo #[dL #[dC<|H<|R (7) 192],.iface 214<|dL #[dC<|H<|R (7) 192]]).run bA w=.ok (aM cf) w:=by kernel_rfl
def JZ(n:M)(w:Y):(ReflectliteValue.unpack<|.iface 192<|aD n).run bA w=.ok (dL #[dC<|H<|R (7) 192,aD<|z<|G w,aG 150]) (dd w<|ay #[aD n] 192):=by kernel_rfl
def Mx(w:Y):(Rtype.elem? 231).run bA w=.ok (H 192) w:=by kernel_rfl
def YR(p:Addr)(w:Y):(ReflectliteValue.mk 192 p ReflectliteValue.flagAddr).run bA w=.ok (dL #[dC<|H<|R (7) 192,dC<|H p,aG 406]) w:=by kernel_rfl
def PE(b p:Addr)(W:Y)(a:aW W b=H (dC<|H p)):(ReflectliteValue.method (ReflectliteValue.valueError "reflectlite.Value.Elem" 0) ReflectliteValue.elem #[dL #[dC<|H<|R (7) 231,dC<|H b,aG 150]]).run bA W=.ok (dL #[dC<|H<|R (7) 192,dC<|H p,aG 406]) W:=by
 rw[Q4];simp only[jY,FE,Result.andThen];simp[ReflectliteValue.elem,loadVar,isAgg,underlying,underlying231,a,Result.andThen,Mx,YR]
def Mr(a:Addr)(w:Y):(ReflectliteValue.parts<|dL #[dC<|H<|R (7) 192,dC<|H a,aG 406]).run bA w=.ok (H (192,a,406)) w:=by kernel_rfl
def PC(a:Addr)(w:Y):(ReflectliteValue.parts<|dL #[dC<|H<|R (7) 192,dC<|H a,aG 150]).run bA w=.ok (H (192,a,150)) w:=by kernel_rfl
def My(w:Y):(Rtype.directlyAssignable 192 192).run bA w=.ok cf w:=by kernel_rfl
def VT(a e:Addr)(n:M)(nh:ab)(W:Y)(b:aW W e=H (aD n))(d:aW W a=H nh)(c:W.frozen? a=bw):(ReflectliteValue.set #[dL #[dC<|H<|R (7) 192,dC<|H a,aG 406],dL #[dC<|H<|R (7) 192,dC<|H e,aG 150]]).run bA W=.ok (dA #[]) (cH W a<|aD n):=by
 rw[Y3];simp only[jY,Mr,PC,Result.andThen];simp[ReflectliteValue.flagAddr,loadVar,isAgg,underlying,underlying192,b,Result.andThen,My,storeVar,Value.cells,storeCells,Addr.add];rw[Cw bA W a _ _<|by rfl];simp[d,c]
def G2(n:M)(t:Addr)(nh:ab)(d:oF a)(b:aW a t=H nh)(c:a.frozen? t=bw):cY bA 29 #[.iface 192<|aD n,.iface 231<|dC<|H t] a λj C=>j=aN (aM cf)/\C=((Yg 231 t a).alloc<|ay #[aD n] 192).setCell t (aD n):=by
 unfold oF at d;have K:=T4;have L:=T3;have N:=T2;have o:=C2;have r:=B9;have s:=B8;have k:=C5;have q:=C1;have l:=C4;have m:=C3;have V:=Mq;have O:=nF;have g:=EE;have B:=JZ;have E:=JY;have F:=Tb;have S:=vG;have P:=vH;have Q:=oW;have A:=Td;have x:=Te;have i:=Tf;have w:=ED;have T:=PD (R (z<|G a) 0) t (O7 231 t a) (by simp);have v:=cF _ _ d;have u:=(AM 231 t (ay #[] 0) v).1.trans d;have D:=PE (R (z<|G a) 0) t _<|Ro 231 t;have e:=AM 231 t (ay #[aD n] 192)<|cF _ _ b;have f:=VT t (R (z (G a)+1+1+1) 0) n nh ((Yg 231 t a).alloc<|ay #[aD n] 192) (by rw[rY _ _ _ _<|by simp];rfl) (e.2.2.1.trans b)<|e.2.2.2.trans c;go_in
 go_wp2;refine jd 1 ?_;rw[gZ];go_wp2;go_ret;simp_all
end
theorem Uu{q:M}{c:U}{w:Y}(D:sF w q c)(hg:oF w):cY bA 69 #[fj q] w λan w'=>∃q',an=aN (fj q')/\sF w' q' c/\Below (z<|G w) w w':=by
 obtain⟨a,D,V⟩:=D;have W:=ak D;have ht:aW (dd w<|ay #[dC none] 192) (R (z<|G w) 0)=H (dC none):=by simp
 have hf:(dd w<|ay #[dC none] 192).frozen? (R (z<|G w) 0)=bw:=by simp
 have ha:=G2 q (R (z<|G w) 0) (dC none) (hg.alloc _) ht hf
 have HX:=X (show∀g,g=cH (dd (dd (dd (dd (dd w<|ay #[dC none] 192)<|ay #[dC<|H<|R (z<|G w) 0] 231)<|ay #[dC<|H<|R (7) 231,aD<|z<|G<|dd w<|ay #[dC none] 192,aG 150] 153)<|ay #[dC<|H<|R (7) 231,aD<|z<|G<|dd w<|ay #[dC none] 192,aG 150] 153)<|ay #[aD q] 192) (R (z<|G w) 0) (aD q)->Below (z<|G w) w g/\aW g (R (z<|G w) 0)=H (aD q)/\aW g (R q 0)=H (am a)/\aW g (R q 1)=H (aq c)from by
  rintro g f;have e:Below (z<|G w) w g:=by rw[f];exact((((((Below.refl _ w).alloc (ag _) _).alloc (by simp) _).alloc (by simp;omega) _).alloc (by simp;omega) _).alloc (by simp;omega) _).setCell (p:=(R (z<|G w) 0)) (ag _) _
  have B:g.heap[q]?=H (ay #[am a,aq c] 194 (0,0)):=((Z.aQ (S:=aw) e).block q W id).trans D;refine⟨e,?_,cellAt B 0 rfl,cellAt B 1 rfl⟩;rw[f];exact oO _ _ _ (by rw[eE _ _ _ (by simp;omega),eE _ _ _ (by simp;omega),eE _ _ _ (by simp;omega),eE _ _ _ (by simp)];simp))
 have o:=X V;go_in
 go_wp2_with fail
 apply ha.mono;rintro an g⟨rfl,f⟩;obtain⟨e,O,P,Q⟩:=HX g f;have E:=X e;clear f e ha;go_wp2_with fail
 rename_i KK K;have T:=λW=>tI a W (by have:=J o;unfold Nm at this;omega);obtain⟨b,N⟩:∃b,g.drew=b:=⟨_,rfl⟩;have j:aW b (R (z<|G w) 0)=H (aD q)/\aW b (R q 0)=H (am a)/\aW b (R q 1)=H (aq c):=by rw[<-N];exact⟨O,P,Q⟩
 have n:=X (show Below (z<|G w) w b by rw[<-N];exact below_drewN E 1);refine je (λ(d:Y)=>aW d (R (z<|G w) 0)=H (aD q)/\aW d (R q 0)=H (am a)/\aW d (R q 1)=H (aq c)) 9 (by kernel_rfl) ?_;rw[N];refine ki 0 ?_;iterate 4 (refine uc (v:=?_) j rfl (by kernel_rfl) lQ rfl ?_ ?_;rotate_left;(focus(rintro d⟨z0,z1,z2⟩;go_simp;try rfl));simp only[Act.put,ig,Nat.reduceAdd])
 apply oe;refine ki 5 ?_;iterate 4 (refine uc (v:=?_) j rfl (by kernel_rfl) lQ rfl ?_ ?_;rotate_left;(focus(rintro d⟨z0,z1,z2⟩;go_simp;try rfl));simp only[Act.put,ig,Nat.reduceAdd])
 apply oe;refine fD (i:=4) rfl rfl (by kernel_rfl) ?_;intro K6 F;go_simp;apply(T _).mono;rintro an C⟨rfl,A⟩;have l:Z aw b C:=Z.aQ A;have L:aW C (R (z<|G w) 0)=H (aD q)/\aW C (R q 0)=H (am a)/\aW C (R q 1)=H (aq c):=⟨l.cell j.1 id<|cF _ _ j.1,l.cell j.2.1 id<|cF _ _ j.2.1,l.cell j.2.2 id<|cF _ _ j.2.2⟩;have m:=X<|show Below (z<|G w) w C from n.trans<|A.mono (by have:=n.size;omega);refine F _ _ (λ_=>L) ?_;refine fD (i:=9) rfl rfl (by kernel_rfl) ?_;intro aa r;go_simp;refine r _ _ (λq=>by omega) ?_;refine fD (i:=10) rfl rfl (by kernel_rfl) ?_;intro ac t;go_simp;refine t _ _ (λq=>by omega) ?_;refine fD (i:=11) rfl rfl (by kernel_rfl) ?_;intro ad u;go_simp;refine u _ _ (λq=>by omega) ?_;refine fD (i:=12) rfl rfl (by kernel_rfl) ?_;intro al x;go_simp;refine x _ _ (λq=>by omega) ?_;refine jo (by kernel_rfl) ?_ _;show KK _ _;apply K;go_wp2;go_ret;exact⟨_,rfl,⟨a,iE _ _,o⟩,m.alloc (by have:=m.size;omega) _⟩
def SR.XW(s:SR)(k:U)(q:M):Array ab:=#[nE k,dI 0,aD s.aH,aq s.mem,aq s.kK,aM s.closed,fj q,s.memory,aq s.eG,aG s.aP,s.l0,s.l1,s.l2,s.l3,aG s.next,aq s.zY,.map s.mP,aG s.log,aM s.dO,aM s.pj,aM s.iU,aM s.gK]
def EI(w:Y)(sbqq:M)(s:SR)(k:U)(q:M):Prop:=w.heap[sbqq]?=H (ay (s.XW k q) 80 (0,0))
section
variable{w w':Y}{sbqq q:M}{s:SR}{k c:U}
theorem EI.cellAt(h:EI w sbqq s k q)(i:M){v:ab}(e:(s.XW k q).toList[i]?=H v):aW w (R sbqq i)=H v:=by
 rw[ct h];rw[<-e];simp
theorem EI.free{i:M}(h:EI w sbqq s k q):w.frozen? (R sbqq i)=bw:=cQ h
theorem EI.aj{S:fh}(h:EI w sbqq s k q)(d:Z S w w')(a:¬S sbqq):EI w' sbqq s k q:=(d.block sbqq (ak h) a).trans h
theorem EI.qx(h:EI w sbqq s k q)(n:U):EI (cH w (R sbqq 0)<|nE n) sbqq s n q:=(aJ h).trans rfl
theorem cW.fail(h:cW w sbqq s k)(q:M):EI (cH w (R sbqq 6)<|fj q) sbqq s k q:=(aJ h).trans rfl
theorem sF.aj{S:fh}(h:sF w q c)(e:Z S w w')(d:¬S q):sF w' q c:=by
 obtain⟨n,h,a⟩:=h;exact⟨n,(e.block q (ak h) d).trans h,a⟩
theorem sF.yG{a:Array ab}(h:sF w q c)(b:w.heap[sbqq]?=H (ay a 80 (0,0))):q≠sbqq:=by
 obtain⟨n,h,d⟩:=h;grind
theorem Jr(h:cW w sbqq s k)(e:sF w q c)(m:oF (cH w (R sbqq 6)<|fj q)):cY bA 34 #[aD sbqq,fj q] w λn w'=>∃a,n=aN (fj a)/\sF w' a c/\Below (z<|G<|cH w (R sbqq 6)<|fj q) (cH w (R sbqq 6)<|fj q) w':=by
 have o:=cW.cellAt h 6 rfl;have p:w.frozen? (R sbqq 6)=bw:=h.free;have l:=Uu (e.aj (iT sbqq w (i:=6) (u:=fj q))<|e.yG (sbqq:=sbqq) h) m;go_in
 go_wp2_with fail
 apply l.mono;rintro n g⟨f,rfl,d,b⟩;have j:=X (show∃a,aN (fj f)=aN (fj a)/\sF g a c/\Below (z<|G<|cH w (R sbqq 6)<|fj q) (cH w (R sbqq 6)<|fj q) g from⟨f,rfl,d,b⟩);go_wp2;go_ret;exact j
end
section
open Shelf
attribute [local go_sem] Oper.semAt_some
def Zr:(prog.info? 74).map (λi=>(i.zero,i.size,i.bytes))=H (H<|aG 0,1,8):=by kernel_rfl
structure OK(w:Y)(bm:M)(pre:eF)(B:fh)(W:Y):Prop where
 ex:∃pv,eX W (z<|G w) pv 196/\W.ownsRow (z (G w)+1) 74 1 pv (y pre) (pre.map<|Value.int .u64)/\∀k,B k↔k=z (G w)\/cI pv=H k
 aj:Z (λk=>k=bm) w W
def OK.lt(i:OK a c n o A):∀k,o k->z (G a)<=k/\k<z (G A):=by
 obtain⟨l,j,d,e⟩:=i.ex;intro k g;rcases(e k).1 g with rfl|h;grind
 have:=bN d k h;omega
def OK.stays{T:fh}(l:OK a b n o f)(c:Z T f A)(h:∀k,T k->¬o k/\(k=b\/z (G a)<=k)):OK a b n o A:=by
 obtain⟨j,d,e,g⟩:=l.ex;exact⟨⟨j,d.aj c (by grind),c.own e (by grind),g⟩,l.aj.trans c<|λk i=>(h k i).2⟩
def Ie(aV:oG){C:eF}(hb:eX a b (.map<|H c) 64)(hm:pz a c aV)(au:yq aV C)(hl:y C<=1000000):cY bA 247 #[az,.func (.func 213) #[] #[aD b]] a λbl w'=>
 ∃c,∃ac:eF,bl=aN c/\ac.Perm C/\w'.ownsRow (z<|G a) 74 1 c (y ac) (ac.map<|Value.int .u64)/\Z (λk=>k=b) a w':=by
 obtain⟨i0,ao,av,ax,aF⟩:=dl Zr
 have bb:=ak hb
 have K:=hm.lt
 refine(eD (n:=3)).1 ?_
 refine callsIn_of_wp_marks func247 rfl trivial ?_ rfl
 simp only[ntmps247,gA,aO,dB,Nat.reduceAdd,Nat.reduceSub,ft,fq,gB,fM,du,cR]
 gi_wp2
 obtain⟨w,j⟩:∃w,dd a (ay #[az] 196)=w:=⟨_,rfl⟩
 have bf:z (G w)=z (G a)+1:=by rw[<-j];simp
 have v:Z aw a w:=by rw[<-j];exact(cO aw a)
 have hA0:OK a b [] (λk=>k=z (G a)) w:=⟨⟨az,by rw[<-j];exact aK _ rfl,cK _ _ _ _,λk=>by simp[cI]⟩,v.mono cJ⟩
 rw[j]
 refine uP (m:=3) (arg:=ZQ) (V:=BZ) (n0:=z<|G a) (gf:=213) (lb:=#[aD b]) (pp:=λac _=>∃bk,(ac++bk).Perm C) (ff:=λac=>ac.Perm C) (S:=λk=>k=b) (by grind) ?geval (enters_of func213 (by kernel_rfl) rfl) (λ_=>rfl) (JM (z<|G a) 2 b c aV C w (hb.aj v id) (hm.dG<|v.block _ K id) au K<|by omega) trivial (by omega) (λk e=>by omega) (λd D aa=>OK a b d D aa) (λ_ _ _ _=>False) _ hA0 (λk e p=>by omega) (λd D aa r=>r.lt) ?st (by simp) ?body ?done ?stop
 case geval=>rfl
 case st=>
  intro d D aa i bi r g f;refine r.stays g<|λk e=>⟨(f k e).1,?_⟩;rcases(f k e).2 with p|p|p
  .exact .inl p
  .exact p.elim
  grind
 case stop=>
  grind
 case body=>
  rintro lr d aU D aa bc an O⟨bk,Q⟩r _;have bd:y d+1<=1000000:=by have:=Q.length_eq;grind
  unfold ZQ;simp only;have HA:=X r;gi_wp2;refine⟨Z.refl _ _,λx l=>?_⟩;have hA2:=HA.stays l (λk e=>by grind);obtain⟨pv,hv,P,hB⟩:=hA2.ex;obtain⟨B,A,t⟩:=aC P;have z0:=hv.cell;have bg:=ak hv;have N:lr<z (G x):=ai O.1 l.size;have ba:=l.size;obtain⟨HV,F,HB,ad,al⟩:=iY hv P hB l hA2.aj;subst t;have HX:=X (show∀(g:ab)(i:Y),i.ownsRow (z (G a)+1) 74 1 g (y d+1) (d.map (Value.int .u64)++[aG aU])->eJ (dd x<|ay #[aG aU] 74) i (I B (y d) A) g->(aW i (R (z<|G a) 0)=H (I B (y d) A)/\i.frozen? (R (z<|G a) 0)=bw)/\CX BZ (λd D aa=>OK a b d D aa) (λ_ _ _ _=>False) (d++[aU]) D aa x lr .normal ⟨#[],[]⟩ (cH i (R (z<|G a) 0) g)fromλg i f o=>by
   have T:=(Z.refl aw x).alloc<|ay #[aG aU] 74;have W:=Z.fN o;have ap:¬(cI (I B (y d) A)=H (z<|G a)):=λp=>by have:=(F.lt _ p).1;omega
   have s:eX i (z<|G a) (I B (y d) A) 196:=(HV.aj T id).aj W ap;have u:Z D x (cH i (R (z<|G a) 0) g):=((T.mono (T:=D) cJ).trans (W.mono (T:=D)<|λk e=>.inl<|(HB k).2<|.inr e)<|λk e=>.inl e).setCell _ 0 _<|.inl<|(HB _).2<|.inl rfl;refine⟨⟨s.cell,s.free⟩,trivial,λk=>k=z (G a)\/cI g=H k,⟨⟨g,s.set g,?_,λk=>rK⟩,al.trans u<|λk e=>.inr (by rcases(HB k).1 e with p|p;omega;have:=(F.lt _ p).1;omega)⟩,(ad.mono<|by simp).trans u (by grind),u.block lr N an,λk e=>?_⟩
   .rw[af,aE];exact(fy _ _ 0 _).own f (λk e p=>by have:=(bN f k e).1;omega)
   .rcases e with p|p
    .exact .inl<|(HB k).2<|.inl p
    .rcases o.vQ with q|⟨bh,q,hy⟩
     .exact .inl<|(HB k).2<|.inr<|q▸p
     .rw[q]at p;cases p;exact .inr (by simp at hy;omega))
  gi_wp2_with(first
   |(gi_at_builtin;refine gp _ rfl (.tmp 8) (.tmp 10) 196 rfl (z (G a)+1) 74 i0 (.int .u64 0) 1 8 underlying196 ao av ax aF rfl (by decide) (.slice B (y d) A) (y d) (d.map (Value.int .u64)) rfl (aT F _) (R (z (G x)) 0) 1 1 [.int .u64 aU] rfl rfl (qf _ _ _) (by simp[Value.oneCell']) (by omega) (by omega) (by simp;omega) ?_;intro g i f o;obtain⟨⟨y0,y1⟩,L⟩:=HX g i f o;obtain⟨x6,c6,rfl⟩:=aC f;have E:=X L))
  exact E
 case done=>
  intro ac N D aa l E r x _ o;obtain⟨pv,hv,P,hB⟩:=r.ex;obtain⟨B,A,t⟩:=aC P;have z0:=hv.cell;have i:cI pv≠H N:=(by grind);obtain⟨F,s,u,g⟩:=gw P o r.aj l;have L:=ak o;subst t;gi_wp2;have f:=iw aa N<|.deferred none;refine⟨by simp,.inl ⟨_,_,rfl,run_takeDeferred s,?_⟩⟩;refine⟨_,kT rfl _ _ _,?_⟩;exact⟨_,ac,rfl,g,gl (f.own F<|λk e q=>i (by rw[<-q];exact e)) (by omega),u.trans f<|by grind⟩
def Lj(j:oG)(o:eX a b (.map<|H c) 64)(q:pz a c j)(e:yq j n)(p:y n<=1000000):cY bA 211 #[.func (.func 213) #[] #[aD b]] a λr i=>
 ∃f,∃l:eF,r=aN f/\l.Perm n/\i.ownsRow (z<|G a) 74 1 f (y l) (l.map<|Value.int .u64)/\Z (λk=>k=b) a i:=by
 have h:=Ie j o q e p
 go_in
 go_wp2_with fail
 apply h.mono
 rintro r u⟨f,l,rfl,k,g,m⟩
 obtain⟨t,s,rfl⟩:=aC g
 have d:=X<|And.intro k (And.intro g m)
 go_wp2
 go_ret
 exact⟨_,l,rfl,d.1,d.2.1,d.2.2⟩
end
section
open Shelf
def Ze(x:U)(w:Y):cY bA 282 #[aG x] w λe a=>e=aN (aM bw)/\a=w:=by
 go_in
 go_wp2;go_ret;simp_all
def Jf(x a:U)(w:Y):cY bA 273 #[aG x,aG a] w λe b=>e=aN (aM<|decide<|x<a)/\b=w:=by
 have h:=Ze x w;go_in
 go_wp2_with(go_at_call 282;refine h.mono ?_;rintro e b⟨rfl,rfl⟩)
 go_ret;simp_all
def Sz(a:b+1<y n):((n.set (b+1) n[b]).set b n[b+1]).Perm n:=by
 grind
def WT(k e:M)(n:eF)(ho:a.ownsRow b 74 1 (bI k 0 (y n) e) (y n) (n.map<|Value.int .u64))(hn:y n<=12):cY bA 267 #[bI k 0 (y n) e,aq 0,aq<|y n] a λan F=>an=aN (dA #[])/\∃m:eF,m.Perm n/\F.ownsRow b 74 1 (bI k 0 (y m) e) (y m) (m.map<|Value.int .u64)/\Z (λs=>s=k) a F:=by
 obtain⟨L,T⟩:∃L,y n=L:=⟨_,rfl⟩;rw[T]at ho hn|-;go_in
 go_wp2;go_loopw [6] (λi wr=>∃(p:M)(m:eF),i=aq p/\1<=p/\y m=L/\m.Perm n/\wr.ownsRow b 74 1 (bI k 0 L e) L (m.map<|Value.int .u64)/\Z (λs=>s=k) a wr) (λi _=>L-(intOf i).toNat)
 case atStart=>grind[Perm.refl,Z.refl]
 (case round=>obtain⟨p,m,rfl,aa,f,g,d,i⟩:=hrel;by_cases W:p<L;(·(have P:(p:U)<(L:U):=by omega);have j:=X<|And.intro f (And.intro g (And.intro d i));go_wp2;(go_loopw [7] (λw c=>∃(x:M)(m:eF),w=aq x/\x<=p/\y m=L/\m.Perm n/\c.ownsRow b 74 1 (bI k 0 L e) L (m.map<|Value.int .u64)/\Z (λs=>s=k) a c) (λw _=>(intOf w).toNat));(case atStart=>exact⟨p,m,rfl,ag _,j.1,j.2.1,j.2.2.1,j.2.2.2⟩);(case round=>obtain⟨x,m,rfl,ac,f,g,d,i⟩:=hrel;rcases gH x with B|B;(.subst B;have c:=X<|And.intro f (And.intro g (And.intro d i));(go_wp2_with fail);(go_quiet(fail));go_wp2;go_roundw;(case rel=>exact⟨p+1,m,by go_num,by omega,c.1,c.2.1,kj c.2.2.1 rfl,c.2.2.2.of_heap rfl⟩);case measure=>simp[intOf];omega);(.obtain⟨q,rfl⟩:∃q,x=q+1:=⟨x-1,by omega⟩;obtain⟨_,⟨N,_⟩|⟨b',E,A,N,u,C⟩⟩:=dR d;cases N;cases N;have c1:=C (q+1) (aG<|m[q+1]'(by omega)) (by rw[fB,aR<|by omega];rfl);have O:=C q (aG<|m[q]'(by omega)) (by rw[fB,aR<|by omega];rfl);simp only[dM]at O c1;have V:=(d.lt k rfl).2;(have l:∀w,wr.frozen? (R k w)=bw:=by intro w;obtain⟨Q,r⟩:=eT d (k:=k) rfl;exact cQ r);have f1:=l<|q+1;have f0:=l q;have K:=X (show∀r,(r=cH (cH wr (R k<|q+1)<|aG<|m[q]'(by omega)) (R k q) (aG<|m[q+1]'(by omega)))->∃o:eF,y o=L/\o.Perm n/\r.ownsRow b 74 1 (bI k 0 L e) L (o.map<|Value.int .u64)/\Z (λs=>s=k) a r from by rintro r rfl;refine⟨(m.set (q+1) m[q]).set q m[q+1],by simpa using f,(Sz<|by omega).trans g,?_,(i.setCell _ _ _<|.inl rfl).setCell _ _ _<|.inl rfl⟩;have t:=(World.ownsRow.stored (World.ownsRow.stored d (q+1)<|aG<|m[q]'(by omega)).1 q<|aG<|m[q+1]'(by omega)).1;rw[sY,sY];exact t);have c:=X<|And.intro f (And.intro g (And.intro d i));have D:L<=e:=u;(have e2:(q:U)+1<(L:U):=by omega);(have e3:(q:U)<(L:U):=by omega);(have e4:(0:U)<(q:U)+1:=by omega);(have e5:(0:U)<=(q:U):=by omega);(have ad:q+1<y m:=by omega);generalize m[q+1]=v at*;generalize m[q]'(by omega)=ao at*;by_cases al:v<ao;(·(go_wp2_with fail);(go_quiet(first|(go_at_call 273;refine Calls.quiet_of_same (Jf _ _ _))));(go_wp2_with fail);(go_region);go_wp2;go_roundw;(case rel=>obtain⟨o,t,r,Q,S⟩:=K _ rfl;exact⟨q,o,by go_num,by omega,t,r,kj Q rfl,S.of_heap rfl⟩);case measure=>simp[intOf]);(·(go_wp2_with fail);(go_quiet(first|(go_at_call 273;refine Calls.quiet_of_same (Jf _ _ _))));go_wp2;go_roundw;(case rel=>exact⟨p+1,m,by go_num,by omega,c.1,c.2.1,kj c.2.2.1 rfl,c.2.2.2.of_heap rfl⟩);case measure=>simp[intOf];omega))));(have P:¬((p:U)<(L:U)):=by omega);have j:=X<|And.intro f (And.intro g (And.intro d i));go_wp2;go_end0;exact⟨rfl,m,j.2.1,by rw[(J j).1];exact j.2.2.1,j.2.2.2⟩)
def WU(l:eF)(j:a.ownsRow b 74 1 d (y l) (l.map<|Value.int .u64))(t:y l<=12):cY bA 267 #[d,aq 0,aq<|y l] a λv f=>v=aN (dA #[])/\∃m:eF,m.Perm l/\f.ownsRow b 74 1 d (y m) (m.map<|Value.int .u64)/\Z (λw=>cI d=H w) a f:=by
 rcases j.2 with⟨rfl,n⟩|⟨x,c,k,rfl,p,A,u,q,r,e⟩;(.obtain rfl:=aS n;(go_in);go_wp2;refine jd 1 ?_;rw[gZ];go_wp2;go_end0;grind[Perm.refl,Z.refl]);apply(WT x c l j t).mono;rintro v f⟨rfl,m,g,i,o⟩;refine⟨rfl,m,g,?_,o.mono<|λw s=>.inl (by rw[s];rfl)⟩;rw[g.length_eq]at i|-;exact i
def Wb(l:eF)(k:U)(e:a.ownsRow b 74 1 d (y l) (l.map<|Value.int .u64))(i:y l<=12):cY bA 248 #[d,aq 0,aq<|y l,aq k] a λn c=>n=aN (dA #[])/\∃m:eF,m.Perm l/\c.ownsRow b 74 1 d (y m) (m.map<|Value.int .u64)/\Z (λk=>cI d=H k) a c:=by
 have h:=WU l e i;obtain⟨x,p,j⟩:=aC e;have o:(y l:U)<=12:=by omega
 subst j;go_in
 go_wp2;refine jd 1 ?_;rw[gZ];go_wp2_with fail
 apply h.mono;rintro n c⟨rfl,g⟩;have f:=X g;go_wp2;refine cy (ju rfl _ _ _) rfl ?_;exact⟨rfl,f⟩
def TU(n:M)(c:n<=4)(w:Y):cY bA 199 #[aG n] w λe b=>(∃k,e=aN (aq k))/\b=w:=by
 have a:n=0\/n=1\/n=2\/n=3\/n=4:=by omega
 rcases a with rfl|rfl|rfl|rfl|rfl;(all_goals(go_in);go_wp2;go_ret;exact⟨⟨_,rfl⟩,rfl⟩)
def Zo(n:M)(b:n<=4)(w:Y):cY bA 133 #[aG n] w λe a=>(∃k,e=aN (aq k))/\a=w:=by
 have h:=TU n b w;go_in
 go_wp2_with(go_at_call 199;refine h.mono ?_;rintro e a⟨⟨k,rfl⟩,rfl⟩)
 go_wp2;go_ret;simp_all
def SM(l:eF)(e:a.ownsRow b 74 1 d (y l) (l.map<|Value.int .u64))(m:y l<=4):cY bA 212 #[d] a λg c=>g=aN (dA #[])/\∃o:eF,o.Perm l/\c.ownsRow b 74 1 d (y o) (o.map<|Value.int .u64)/\Z (λk=>cI d=H k) a c:=by
 have h:=λk=>Wb l k e (by omega);have j:=Zo (y l) m a;obtain⟨x,q,n⟩:=aC e;subst n;go_in
 go_wp2_with fail
 apply j.mono;rintro g c⟨⟨k,rfl⟩,p⟩;subst c;go_wp2_with fail
 apply(h k).mono;rintro g c⟨rfl,i⟩;have f:=X i;go_wp2;go_end0;exact⟨rfl,f⟩
def Me{bm b:M}(t:oG){w:Y}(x:eX w bm (.map<|H b) 64)(A:pz w b t)(p:yq t n)(C:y n<=4):cY bA 145 #[.func (.func 213) #[] #[aD bm]] w λu s=>
 ∃c,∃r:eF,u=aN c/\r.Perm n/\s.ownsRow (z<|G w) 74 1 c (y r) (r.map<|Value.int .u64)/\Z (λk=>k=bm) w s:=by
 have h:=Lj t x A p<|by omega
 go_in
 go_wp2_with fail
 apply h.mono
 rintro u K⟨c,r,rfl,q,f,v⟩
 have B:=SM r f (by have:=q.length_eq;omega)
 have i:∀k,cI c=H k->z (G w)<=k:=λk g=>(bN f k g).1
 obtain⟨F,E,o⟩:=aC f
 have a:=X<|And.intro q v
 have e:=X i
 subst o
 go_wp2_with fail
 apply B.mono
 rintro u L⟨rfl,D,j,l,m⟩
 have d:=X<|And.intro j (And.intro l m)
 go_wp2
 go_ret
 exact⟨_,D,rfl,d.1.trans a.1,d.2.1,a.2.trans d.2.2<|λk g=>.inr<|e k g⟩
end
section
open Shelf
abbrev gL:=ci<|M×M
def B4(a:gL):oG:=a.map<|λp=>((p.1:U),aG (p.2:U))
def tB(a:gL):eF:=a.map<|λp=>(p.2:U)
def YK(a:gL):yq (B4 a) (tB a):=by simp[yq,B4,tB]
def rk(a:gL):y (tB a)=y a:=by simp[tB]
def Qd{a:eF}(h:n.Perm a)(p:Option E)(e:E):pX n p e=pX a p e:=by
 cases p with
 |none=>rfl
 |some q=>unfold pX;grind
def Gd{a:eF}(h:n.Perm a):∀(l:cU)(p:Option E),mj n p l=mj a p l
 |[],_=>rfl
 |e::r,p=>by rw[mj,mj,Qd h,Gd h r]
def Gc{a:eF}(h:n.Perm a)(l:cU):dZ n l=dZ a l:=Gd h l none
def LQ(v:Option M)(w:Y):cY bA 146 #[.map v] w λe a=>e=aN (.func (.func 213) #[] #[aD<|z<|G w])/\a=dd w (ay #[.map v] 64):=by
 go_in
 go_wp2;go_ret;simp_all
def yH{c b:M}(f:gL)(h:cW a c W k)(t:W.mP=H b)(m:pz a b (B4 f))(s:y f<=4):cY bA 90 #[aD c] a λp n=>∃j,∃i:eF,p=aN j/\i.Perm (tB f)/\n.ownsRow (z<|G a) 74 1 j (y i) (i.map<|Value.int .u64)/\Z aw a n:=by
 have o:aW a (R c 16)=H (.map<|H b):=by rw[<-t];exact h.cell rfl
 have e:=(Z.refl aw a).alloc<|ay #[.map<|H b] 64;have g:=Me (bm:=z<|G a) (b:=b) (B4 f) (w:=(dd a<|ay #[.map<|H b] 64)) (aK _ rfl) (m.dG<|e.block _ m.lt id) (YK f) (by rw[rk];exact s);go_in
 go_wp2_with fail
 apply(LQ _ _).mono;rintro p v⟨rfl,u⟩;subst v;go_wp2_with fail
 apply g.mono;rintro p B⟨j,w,rfl,q,l,r⟩;obtain⟨A,x,rfl⟩:=aC l;have d:=X<|And.intro q (And.intro l r);go_wp2;go_ret;exact⟨_,w,rfl,d.1,gl d.2.1 (by simp),e.trans d.2.2<|λk a=>.inr<|by omega⟩
def Cz(d:M)(aa:SR)(p:U)(q:gL)(v:ab)(N:cU)(h:cW a d aa p)(hs:aa.mP=H b)(Q:pz a b (B4 q))(h4:y q<=4)(P:kJ a aa.memory e)(x:∀p,cI aa.memory=H p->p<z (G a))(O:kJ a v N)(w:∀p,cI v=H p->p<z (G a))(l:eh e)(hl:y e+y N<=1000000):cY bA 45 #[aD d,v] a λW V=>∃T,W=aN T/\V.ownsRow (z<|G a) 171 4 T (y<|dZ (tB q)<|fQ e N) (aI<|dZ (tB q)<|fQ e N)/\Z aw a V:=by
 have c7:=cW.cellAt h 7 rfl;have o:=Vx P O l (by omega) x w;obtain⟨x1,n1,C⟩:=bZ P;obtain⟨x2,n2,D⟩:=bZ O;have HM:=X<|λ(L:Y)(c:Z aw a L)=>yH (b:=b) q (h.aj c id) hs (Q.dG<|c.block _ Q.lt id) h4;rw[C]at c7 o;subst D;go_in
 go_wp2_with fail
 apply o.mono;rintro W L⟨v1,rfl,j,m⟩;have A:=HM L m;obtain⟨y1,d1,E⟩:=aC j;have r:=X j;have t:=X m;subst E;go_wp2_with fail
 apply A.mono;rintro W w2⟨v2,ms,rfl,S,f,n⟩;have c:=n.own r<|λ_ _ a=>a;have i:=Ax ms (dR c) (l.fQ N) (aB (yn e N) hl) (dR f) (by have:=S.length_eq;rw[rk]at this;omega) (λp a=>(bN c p a).2)<|λp a=>(bN f p a).2;rw[Gc S]at i;obtain⟨y2,d2,F⟩:=aC f;have g:=X<|t.cz n;subst F;go_wp2_with fail
 apply i.mono;rintro W w3⟨v3,rfl,k,B⟩;obtain⟨y3,d3,K⟩:=aC k;have s:=X<|gl (base':=z<|G a) k g.size;have u:=X<|g.cz B;subst K;go_wp2;go_ret;exact⟨_,rfl,s,u⟩
end
def GI{hh:Array ab}{ka:ci (ab×cP)}{cw:ab->ab->Array ab}(cc e l:M)(Q xa xd:Option Addr)(ek hg na ce nd ch:M)(bm ax:cP)(h1:tw s c (bI cc e (y j) l) j a)(gc:y j<=l)(it:0<y j)(h2:tw s c (I Q ek hg) p a)(gr:Row a 1 (I xa na ce) (y bm) (bm.map bB.ptr))(gs:Row a 1 (I xd nd ch) (y ax) (ax.map bB.ptr))(db:∀f,cI (I xa na ce)=H f->f<c/\¬s.F f)(dk:∀f,cI (I xd nd ch)=H f->f<c/\¬s.F f)(kc:s.D a)(t:c<=z (G a))(hF:∀f,s.F f->f<c)(kd:Steps a)(fz:1<c/\¬s.F 1)(lp:y j+y p+y bm+y ax<=1000000)(hZ:ku p<=1000000000)(d:Bool)(hi:(b=1/\k=1/\N=3/\hh=#[I xa na ce,bI cc e (y j) l,I Q ek hg,I xd nd ch]/\ka=[((I xa na ce:ab),bm),(bI cc e (y j) l,j),(I Q ek hg,p),(I xd nd ch,ax)]/\cw=(λlx ek=>#[I xa na ce,lx,ek,I xd nd ch])/\d=ax.isEmpty)\/(b=2/\k=2/\N=4/\hh=#[I xa na ce,I xd nd ch,bI cc e (y j) l,I Q ek hg]/\ka=[((I xa na ce:ab),bm),(I xd nd ch,ax),(bI cc e (y j) l,j),(I Q ek hg,p)]/\cw=(λlx ek=>#[I xa na ce,I xd nd ch,lx,ek])/\d=cf))(kl:∀o(hj:o<y j),∀ws:cP,ws.Sublist p->eh (de<|cA ws::[j[o]].map bB.all)/\(∀md∈de (cA ws::[j[o]].map bB.all),md.Good)/\y (de<|cA ws::[j[o]].map bB.all)<=1000000)(P:eF)(mx:Option Addr)(mc:M)(kf:Row a 1 (I mx (y P) mc) (y P) (P.map<|Value.int .u64))(gi:∀f,cI (I mx (y P) mc)=H f->f<c/\¬s.F f)(gg:y P<=4):cY bA 97 #[dL hh,aq k,I mx (y P) mc] a λK r=>(∃xl nl ey xm v eA,∃tm:cP,∃o,∃hj:o<y j,∃w q,K=aN (dA #[dL<|cw (I xl nl ey)<|I xm v eA,.nilIface])/\Ag p (jm j[o].ks) (jF j[o].ks) w q/\r.ownsRow (z<|G a) 179 1 (I xl nl ey) (y<|j.take o++j.drop (o+1)) ((j.take o++j.drop (o+1)).map bB.ptr)/\r.ownsRow (z<|G a) 179 1 (I xm v eA) (y<|p.take w++tm++p.drop q) ((p.take w++tm++p.drop q).map bB.ptr)/\tm.map bB.all=gJ (sk P d [j[o]]<|(p.drop w).take<|q-w)/\qR r (z<|G a) tm/\s.D r/\Z s.F a r)\/EA s a r s.F K bL:=by
 have hW:Z aw a (dd (dd a<|ay hh 78)<|ay #[az,az,az,az] 78):=(cO _ a).alloc _;generalize bv:dd (dd a<|ay hh 78) (ay #[az,az,az,az] 78)=aF at hW;have au:aF.heap[z<|G a]?=H (ay hh 78 (0,0)):=by rw[<-bv];grind[gq,aK]
 have fb:aF.heap[z (G a)+1]?=H (ay #[az,az,az,az] 78 (0,0)):=by rw[<-bv];exact aK _<|by simp
 have bT:∀f,c<=f->¬s.F f:=λf g ex=>by have:=hF f ex;omega
 have ds:∀m,Z s.F aF m->Ey m (z<|G a) 0 ka:=by
  intro m L;have an:∀bo b,Row a 1 bo (y b) (b.map bB.ptr)->(∀f,cI bo=H f->f<c/\¬s.F f)->Row m 1 bo (y b) (b.map bB.ptr):=λbo b ll g=>
   L.row (hW.row ll<|λf K=>⟨id,ai (g f K).1 t⟩) (λf K=>⟨(g f K).2,ai (g f K).1<|aB t hW.size⟩)
  have hz:z (G a)<=z (G m):=aB hW.size L.size;have O:∀b bo,hh[b]?=H bo->aW m (R (z<|G a)<|0+b)=H bo:=by
   intro b bo jB;refine L.cell ?_ (bT _ t)<|ak au;rw[ct au,dM];exact jB
  rcases hi with⟨_,_,_,rfl,rfl,_⟩|⟨_,_,_,rfl,rfl,_⟩;all_goals
   refine⟨rfl,λb hi=>?_,λb hi=>?_,λb hi f g=>?_,by simp[mq];omega⟩
   .match b,hi with
    |0,_|1,_|2,_|3,_=>exact O _ _ rfl
   .match b,hi with
    |0,_|1,_|2,_|3,_=>first|exact an _ _ gr db|exact an _ _ h1.row h1.loc|exact an _ _ h2.row h2.loc|exact an _ _ gs dk
   .match b,hi with
    |0,_|1,_|2,_|3,_=>first|exact ai (db f g).1 (aB t hz)|exact ai (h1.loc f g).1 (aB t hz)|exact ai (h2.loc f g).1 (aB t hz)|exact ai (dk f g).1<|aB t hz
 have jA:∃S1 S2:Y->Prop,(∀m,Z s.F aF m->S1 m/\S2 m)/\(∀i,S1 i->aW i (R (z<|G a) b)=H (bI cc e (y j) l))/\∀i,S2 i->aW i (R (z<|G a)<|b+1)=H (I Q ek hg):=by refine⟨_,_,λm L=>?_,λi h=>h,λi h=>h⟩;(have O:∀b bo,hh[b]?=H bo->aW m (R (z<|G a) b)=H bo:=by intro b bo jB;refine L.cell ?_ (bT _ t)<|ak au;rw[ct au];exact jB);rcases hi with⟨rfl,_,_,rfl,_⟩|⟨rfl,_,_,rfl,_⟩<;>exact⟨O _ _ rfl,O _ _ rfl⟩
 obtain⟨S1,S2,hC,bg,bx⟩:=jA;have ef:=hW.size;have bu:∀m,Z aw aF m->kS s c aw a m:=λm ht=>(hW.cz ht).same t cJ cJ;have hI:k=(b:M)/\N=(b+2:M)/\(b=1\/b=2)/\jU ka (b+2)=d:=by rcases hi with⟨rfl,rfl,rfl,_,rfl,_,rfl⟩|⟨rfl,rfl,rfl,_,rfl,_,rfl⟩;exact⟨rfl,rfl,.inl rfl,by simp[jU]⟩;exact⟨rfl,rfl,.inr rfl,by simp[jU]⟩
 have bE:∀q,cY bA 150 #[aD<|z<|G a,aq k] (aF.drewN q) λK r=>∃o:M,K=aN (aq o)/\o<y j/\Z aw aF r:=by intro q;have an:=jl aw aF q;have hz:=ds _<|an.mono cJ;rw[hI.1];refine(Kt (w:=(aF.drewN q)) (z<|G a) 0 b (ts1:=j) (by omega) (by rw[dM];exact bg _ (hC _<|an.mono cJ).1) (by rw[dM];exact bx _ (hC _<|an.mono cJ).2) hz.lt ((h1.same<|bu _ an).mem<|aB t ef) ((h2.same<|bu _ an).mem<|aB t ef) h2.side.BK it hZ).mono ?_;rintro K r⟨o,rfl,hj,ll⟩;exact⟨o,rfl,hj,an.cz<|Z.aQ (S:=aw) ll⟩
 have ac:∀m,Z s.F aF m->cY bA 153 #[aD<|z<|G a,aq N] m λK r=>K=aN (aM d)/\r=m:=by intro m L;have h:=Ec (b+2) ka (ds m L) (by omega);rw[hI.2.2.2]at h;rw[hI.2.1];exact h
 clear hI;obtain⟨cp,bp,hn,HC,hv,HW,ap,hH,aV⟩:=yU au fb ac hC bE hW bT bv bu;obtain⟨H1,H2,HD,HF,HT,cv,hu,HM,cr⟩:=yU h1 h2 kc hF kd fz kl kf gi;clear h1 h2 gr gs db dk kc hF kd fz kl kf gi au fb ds bE hW bT bv bu ac hC;rcases hi with⟨rfl,rfl,rfl,rfl,rfl,rfl,cl⟩|⟨rfl,rfl,rfl,rfl,rfl,rfl,cl⟩
 all_goals
  clear cl;simp only[Nat.reduceAdd]at bx;have eu:=X bg;have br:=X bx;clear bg bx;go_in
  go_wp2_with fail
  go_quiet(fail)
  rw[J hH];have bE:=hv nq;go_wp2_with fail
  apply bE.mono;rintro K w1⟨o,rfl,hj,gx⟩;have lm:=eu w1 (HC w1<|gx.mono cJ).1;have B:=X gx;obtain⟨j1,dn⟩:∃j1,o+1=j1:=⟨_,rfl⟩;have e1:(o:U)+1=(j1:U):=by omega
  have e2:(o:U)<=(j1:U):=by omega
  have e3:(j1:U)<=(l:U):=by omega
  have e4:(j1:U)<=(y j:U):=by omega
  have e5:(o:U)<=(l:U):=by omega
  have e6:¬(l=o):=by omega
  have e7:¬(l-o=0):=by omega
  have e8:IntKind.i64.wrap (j1:U)=(j1:U):=by rw[bP];omega
  have e9:(0:U)<=(o:U):=by omega
  have lb:(y j:U)<=(l:U):=by omega
  have lc:j1-o=1:=by omega
  have HJ:=X dn;have lg:S1 w1.drew:=(HC _<|(B.cz<|dh aw w1).mono cJ).1;go_wp2_with fail
  rename_i QQ KK hR;refine eH S1 21 (by kernel_rfl) ?_;refine fw 0 ?_;iterate 18 (refine iS (v:=?_) lg rfl (by kernel_rfl) lQ rfl ?_ ?_;rotate_left;(focus(intro i hX;have z0:=eu i hX;go_simp;try rfl));simp only[Act.put,ig,Nat.reduceAdd])
  apply iG;refine bG (i:=18) rfl rfl (by kernel_rfl) ?_;intro hJ bd;go_simp;have fu:jh w1 (bI cc e (y j) l) j:=((H1.same<|aV w1 B).mem<|aB t<|aB ef B.size);have lo:=B.size;have ad:=ZG (w1:=w1) (ta:=(j.take o)) (tbqq:=(j.drop j1)) (z<|G a) (fu.take o<|by omega) (WF fu gc (by have:=J HJ;omega)) (by simp;omega) (by omega) 76;refine bd _ _ (λ_=>?_) ?_
  .exact(HC _<|((B.alloc _).cz<|dh aw _).mono cJ).1
  refine bG (i:=19) rfl rfl (by kernel_rfl) ?_;intro hK bf;go_simp;apply ad.mono;rintro K u⟨vl,rfl,dx,ec⟩;obtain⟨nl,gj⟩:∃nl,y (j.take o++j.drop j1)=nl:=⟨_,rfl⟩;rw[gj]at dx;have hy:=X gj;obtain⟨xl,ey,rfl⟩:=aC dx;have fx:S1 u:=(HC _<|(B.cz ec).mono cJ).1;refine bf _ _ (λ_=>fx) ?_;refine bG (i:=20) rfl rfl (by kernel_rfl) ?_;intro kx fk;go_simp;refine fk _ _ (λ_=>fx) ?_;refine bG (i:=21) rfl rfl (by kernel_rfl) ?_;intro ky fl;go_simp;refine fl _ _ IY ?_;refine fm (by kernel_rfl) ?_ _;show KK _ _;apply hR;generalize(if l=j1 then H ((R cc e):Addr)else H (R cc<|e+j1))=zz at*;have A:Z aw aF u:=B.cz ec;have aa:=X A;have hB:=X dx;have ls:=A.size;have bt:jh u (bI cc e (y j) l) j:=((H1.same<|aV u A).mem<|by omega);have lf:jh u (I Q ek hg) p:=((H2.same<|aV u A).mem<|by omega);have ln:=br u (HC u<|A.mono cJ).2;have hp:=bt.cell hj;have dm:∀aF,aF.heap=u.heap->cY bA 131 #[j[o].ptr] aF λK r=>K=aN (am<|jm j[o].ks)/\r=aF:=λaF hW=>((bt.each _<|ar hj).of_heap hW).first;have dr:∀aF,aF.heap=u.heap->cY bA 130 #[j[o].ptr] aF λK r=>K=aN (am<|jF j[o].ks)/\∃q,r=aF.drewN q:=λaF hW=>((bt.each _<|ar hj).of_heap hW).last;have gb:cc<z (G u):=bt.lt cc rfl;have hN:z (G a)<z (G u):=by have:=ak cp;omega
  have hcut:∀m,Z aw u m->cY bA 151 #[I Q ek hg,am<|jm j[o].ks,am<|jF j[o].ks] m λK r=>∃va vb vc,K=aN (dA #[va,vb,vc])/\(∃w q,Ag p (jm j[o].ks) (jF j[o].ks) w q/\jh r va (p.take w)/\jh r vb ((p.drop w).take<|q-w)/\jh r vc (p.drop q)/\(∀f,cI va=H f\/cI vb=H f\/cI vc=H f->cI (I Q ek hg)=H f))/\Z aw u r/\S2 r/\aW r (R cc<|e+o)=H j[o].ptr:=by
   intro m cT;refine(NC (jm j[o].ks) (jF j[o].ks) ((H2.same<|aV m<|A.cz cT).mem (by have:=cT.size;omega)) H2.side.BK).mono ?_;rintro K r⟨w,q,va,vb,vc,rfl,a1,a2,a3,a4,a5,fL⟩;have eb:Z aw u r:=cT.cz<|Z.aQ (S:=aw) fL;exact⟨va,vb,vc,rfl,⟨w,q,a1,a2,a3,a4,a5⟩,eb,(HC r<|(A.cz eb).mono cJ).2,eb.cell hp id gb⟩
  unfold bB.ptr at hp dm dr hcut;have hE:=X (show∃s1 s2 W,jm j[o].ks=s1/\jF j[o].ks=s2/\j[o].tb=W from⟨_,_,_,rfl,rfl,rfl⟩);obtain⟨s1,s2,W,cB,cE,bb⟩:=J hE;rw[cB,cE,bb]at hcut;rw[cB,bb]at dm;rw[cE,bb]at dr;rw[bb]at hp;obtain⟨ho,hq,ko⟩:=dF cB cE bb;obtain⟨hs,bq,hm⟩:=dF dm dr hcut;have g1:IntKind.i64.wrap (2:U)=2:=by rw[bP];omega
  have g2:IntKind.i64.wrap (3:U)=3:=by rw[bP];omega
  have cS:S2 u.drew/\aW u.drew (R cc<|e+o)=H (aD W):=⟨(HC _<|(aa.cz<|dh aw u).mono cJ).2,hp⟩;go_wp2_with fail
  rename_i Q6 K6;refine eH (λi=>S2 i/\aW i (R cc<|e+o)=H (aD W)) 19 (by kernel_rfl) ?_;refine fw 0 ?_;iterate 7 (refine iS (v:=?_) cS rfl (by kernel_rfl) lQ rfl ?_ ?_;rotate_left;(focus(intro i hX;obtain⟨bn,z1⟩:=hX;have z0:=br i bn;go_simp;try rfl));simp only[Act.put,ig,Nat.reduceAdd])
  apply iG;refine fw 8 ?_;iterate 3 (refine iS (v:=?_) cS rfl (by kernel_rfl) lQ rfl ?_ ?_;rotate_left;(focus(intro i hX;obtain⟨bn,z1⟩:=hX;have z0:=br i bn;go_simp;try rfl));simp only[Act.put,ig,Nat.reduceAdd])
  apply iG;refine bG (i:=7) rfl rfl (by kernel_rfl) ?_;intro K7 hQ;go_simp;apply(hs u.drew rfl).mono;rintro K F⟨rfl,jD⟩;subst F;refine hQ _ _ (λ_=>cS) ?_;refine bG (i:=11) rfl rfl (by kernel_rfl) ?_;intro ks fd;go_simp;apply(bq u.drew rfl).mono;rintro K F⟨rfl,qq,jD⟩;subst F;refine fd _ _ (λ_=>⟨(HC _<|((aa.cz<|dh aw u).cz<|jl aw _ _).mono cJ).2,hp⟩) ?_;refine bG (i:=12) rfl rfl (by kernel_rfl) ?_;intro kt fe;go_simp;apply(hm (u.drewN<|1+qq)<|jl _ _ _).mono;rintro K F⟨va,vb,vc,rfl,ih,gE,ca⟩;refine fe _ _ (λ_=>ca) ?_;refine fw 13 ?_;iterate 4 (refine iS (v:=?_) ca rfl (by kernel_rfl) lQ rfl ?_ ?_;rotate_left;(focus(intro i hX;obtain⟨bn,z1⟩:=hX;have z0:=br i bn;go_simp;try rfl));simp only[Act.put,ig,Nat.reduceAdd])
  apply iG;refine bG (i:=17) rfl rfl (by kernel_rfl) ?_;intro kv ff;go_simp;refine ff _ _ (λ_=>ca) ?_;refine bG (i:=18) rfl rfl (by kernel_rfl) ?_;intro hJ bd;go_simp;refine bd _ _ (λ_=>ca) ?_;refine bG (i:=19) rfl rfl (by kernel_rfl) ?_;intro hK bf;go_simp;refine bf _ _ IY ?_;refine fm (by kernel_rfl) ?_ _;show K6 _ _;apply QQ;obtain⟨w,q,hO,fn,cM,fr,fs⟩:=ih;obtain⟨jI,hL,hb⟩:=bZ fn.row;obtain⟨ej,cx,hc⟩:=bZ cM.row;obtain⟨jK,hM,hd⟩:=bZ fr.row;generalize y (p.take w)=jE at hb;generalize y ((p.drop w).take<|q-w)=eg at hc;generalize y (p.drop q)=jG at hd;subst hb;subst hc;subst hd;have E:Z aw aF F:=aa.cz gE;have lt:=E.size;have bh:((p.drop w).take<|q-w).Sublist p:=(qj _ _).trans<|lM _ _;have cN:=aV F E;obtain⟨gt,jk,ea⟩:=hu o hj _ bh;have ac:=λm(L:Z s.F F m)=>hn m<|(E.mono (T:=s.F) cJ).trans L<|λ_ h=>.inl h;have il:cY bA 152 #[bI cc (e+o) 1<|l-o,I ej eg cx] F λK r=>(∃a,K=aN (dA #[a,.nilIface])/\r.ownsRow (z<|G F) 171 4 a (y<|de<|cA ((p.drop w).take<|q-w)::[j[o]].map bB.all) (aI<|de<|cA ((p.drop w).take<|q-w)::[j[o]].map bB.all)/\s.D r/\Z s.F F r)\/EA s F r s.F K (λbo=>dA #[az,bo]):=by
   have fv:=H1.same cN;have hT:=H2.same cN;refine Gg c cc (e+o) (l-o) (I ej eg cx) [j[o]] ((p.drop w).take<|q-w) ?_ (H1.loc cc rfl) ?_ (by simp) ⟨cM.row,λf g=>H2.loc f<|fs f<|.inr<|.inl g,λme ht=>hT.each me<|bh.subset ht,H2.side.sub bh,cM.small⟩ (s.fc HD (HW.cz E) cJ) (by omega) HF ea
   .intro b hi;obtain rfl:b=0:=by grind
    exact fv.cell hj
   .intro me ht;rw[cL]at ht;subst ht;exact fv.each _<|ar hj
  have ed:Z aw a F:=HW.cz E;obtain⟨el,hx,ao,cs,hr⟩:=iY (IX (V:=s) (W:=F) (ms:=P) (mx:=mx) (mc:=mc) (de<|cA ((p.drop w).take<|q-w)::[j[o]].map bB.all) (ed.row HM<|λf K=>⟨id,ai (cr f K).1 t⟩) (λf K=>⟨by have:=(cr f K).1;omega,(cr f K).2⟩) gg gt ea) (show∀m,Z s.F F m->Steps m fromλm ht f g=>ht.cell ((HT.same cN cv) f g) cv.2 (by have:=cv.1;omega)) (show eh (sk P d [j[o]]<|(p.drop w).take<|q-w)/\rH 5 (sk P d [j[o]]<|(p.drop w).take<|q-w)/\(∀md∈sk P d [j[o]] ((p.drop w).take<|q-w),md.Good)/\y (sk P d [j[o]]<|(p.drop w).take<|q-w)<=1000000 from uq gt jk ea gg) (show sk P d [j[o]] ((p.drop w).take<|q-w)=if d then ij (dZ P<|de<|cA ((p.drop w).take<|q-w)::[j[o]].map bB.all)else dZ P (de<|cA ((p.drop w).take<|q-w)::[j[o]].map bB.all)from rfl) ac;generalize le:de (cA ((p.drop w).take<|q-w)::[j[o]].map bB.all)=ML at*;obtain⟨bs,cj⟩:∃bs,sk P d [j[o]] ((p.drop w).take<|q-w)=bs:=⟨_,rfl⟩;rw[cj]at ao cs;have es:=X cj;obtain⟨hl,bq,eo,et,cd,hw⟩:=lw hO fn fr E (gE.own hB<|λ_ _ ex=>ex) fs;go_wp2_with fail
  apply il.mono;rintro K w1(⟨jH,rfl,V,bc,D⟩|⟨bg,q1,rfl,iv,bc,D⟩);rotate_left
  .have cn:Z s.F aF w1:=(et.mono (T:=s.F) cJ).trans D<|λ_ h=>.inl h;have x:=(cn.block _ (ak bp)<|ap _<|by omega).trans bp;have q0:=cellAt x 0 rfl;have mb:=cellAt x 1 rfl;have q2:=cellAt x 2 rfl;have q3:=cellAt x 3 rfl;have g0:=cQ (i:=0) x;have g1:=cQ (i:=1) x;have g2:=cQ (i:=2) x;have g3:=cQ (i:=3) x;have aU:=X (Ye bg iv bc ((HW.mono (T:=s.F) cJ).trans cn<|λ_ h=>.inl h) x (by omega)<|ap _<|by omega);go_wp2;obtain⟨r1,r2⟩:=aU _ rfl;refine cy (ru rfl _ _ (z (G a)+1) az az az az _ _ rfl r1 ⟨_,_,_,rfl⟩ ⟨_,_,_,rfl⟩ ⟨_,_,_,rfl⟩ ⟨_,_,_,rfl⟩) rfl ?_;exact .inr r2
  obtain⟨he,eB,rfl⟩:=aC V;have ip:=el.1 w1 _ he eB D V;have cq:=X bc;have B:=X D;go_wp2_with fail
  apply ip.mono;rintro K u⟨vn,rfl,dT,bl⟩;have cm:Z s.F F u:=B.cz bl;have hP:=s.fc cq bl cJ;obtain⟨xn,kb,rfl⟩:=aC dT;have ac:=hr u cm;have hV:=el.2 u _ xn kb dT;have kn:=B.size;obtain⟨en,aa,hD⟩:=dF hP cm dT;cases d;case' false=>
   obtain rfl:bs=dZ P ML:=J cs;go_wp2_with fail
   apply ac.mono;rintro K ei⟨rfl,jC⟩;subst ei;obtain⟨cu,ba,em⟩:=dF (gl (base':=z<|G F) hD<|by omega) aa en;generalize u=w5 at*
  case' true=>
   obtain rfl:bs=ij (dZ P ML):=J cs;go_wp2_with fail
   apply ac.mono;rintro K ei⟨rfl,jC⟩;subst ei;go_wp2_with fail
   apply hV.mono;rintro K w5⟨vb,rfl,gn,ha⟩;obtain⟨xn,kb,rfl⟩:=aC gn;obtain⟨cu,ba,em⟩:=dF (gl (base':=z<|G F) gn (by have:=aa.size;omega)) (aa.cz ha)<|s.fc en ha cJ
  all_goals
   have iu:=vI (dR cu) ao.1 ao.2.1 ao.2.2.1 ao.2.2.2 (λf g=>(cu.lt f g).2)<|hx w5 ba;have hS:=ao.2.2.2;go_wp2_with fail
   apply iu.mono;rintro K w4⟨jH,tm,rfl,V,dc,dv,bl⟩;have D:Z s.F F w4:=ba.cz bl;have bc:=s.fc em bl cJ;have dv:=dv.base (base':=z<|G F) ba.size;have V:=gl (base':=z<|G F) V ba.size;have ec:y tm<=1000000:=by
    have h1:=bS y dc;rw[bU]at h1;rw[h1];exact aB (uX _) hS
   rw[<-J es]at dc;have bi:Z s.F aF w4:=(et.mono (T:=s.F) cJ).trans D<|λ_ h=>.inl h;obtain⟨he,eB,rfl⟩:=aC V;have lv:=D.size;have hU:=(bi.block _ (ak cp)<|ap _ t).trans cp;have x:=(bi.block _ (ak bp)<|ap _<|by omega).trans bp;have al:∀f,cI (I jI jE hL)=H f\/cI (I ej eg cx)=H f\/cI (I jK jG hM)=H f->f<c/\¬s.F f:=λf g=>H2.loc f<|hw f g;have ad:=ZF (p.take w) tm (p.drop q) (z<|G a) (D.row bq.row<|λf g=>⟨(al f<|.inl g).2,bq.lt f g⟩) (λf g=>by have:=(al f<|.inl g).1;omega) (dR V) (λf g=>(bN V f g).2) (D.row eo.row<|λf g=>⟨(al f<|.inr<|.inr g).2,eo.lt f g⟩) (λf g=>by have:=(al f<|.inr<|.inr g).1;omega) (by simp;omega) (by omega) 76;obtain⟨v,ck⟩:∃v,y (p.take w++tm++p.drop q)=v:=⟨_,rfl⟩;rw[ck]at ad;have er:=X ck;have gf:=D.own cd<|λf g=>ap f (by have:=((bN cd) f g).1;omega);obtain⟨eq,hA,cq,hG,hk,ev,ew⟩:=zX gf dv bc bi dc hU x;go_wp2_with fail
   apply ad.mono;rintro K w5⟨v5,rfl,gk,av⟩;obtain⟨xm,eA,rfl⟩:=aC gk;have AQ:=(av.block _ (ak ev) id).trans ev;have C:=(av.block _ (ak ew) id).trans ew;have p0:=cellAt AQ 0 rfl;have f0:=cQ (i:=0) AQ;have q0:=cellAt C 0 rfl;have k0:=cQ (i:=0) C;have p1:=cellAt AQ 1 rfl;have f1:=cQ (i:=1) AQ;have q1:=cellAt C 1 rfl;have k1:=cQ (i:=1) C;have p2:=cellAt AQ 2 rfl;have f2:=cQ (i:=2) AQ;have q2:=cellAt C 2 rfl;have k2:=cQ (i:=2) C;have p3:=cellAt AQ 3 rfl;have f3:=cQ (i:=3) AQ;have q3:=cellAt C 3 rfl;have k3:=cQ (i:=3) C;have aU:=X (show∀(i1 i2:M)(z1 z2 u0 u1 u2 u3:ab)(wf:Y),wf=cH (cH (cH (cH (cH (cH w5 (R (z<|G a) i1) z1) (R (z<|G a) i2) z2) (R (z (G a)+1) 0) u0) (R (z (G a)+1) 1) u1) (R (z (G a)+1) 2) u2) (R (z (G a)+1) 3) u3->wf.heap[z (G a)+1]?=H (ay #[u0,u1,u2,u3] 78 (0,0))/\wf.ownsRow (z<|G a) 179 1 (I xl nl ey) nl ((j.take o++j.drop j1).map bB.ptr)/\wf.ownsRow (z<|G a) 179 1 (I xm v eA) v ((p.take w++tm++p.drop q).map bB.ptr)/\qR wf (z<|G a) tm/\s.D wf/\Z s.F a wf from by
    rintro i1 i2 z1 z2 u0 u1 u2 u3 wf rfl;have lr:((cH (cH w5 (R (z<|G a) i1) z1) (R (z<|G a) i2) z2)).heap[z (G a)+1]?=H (ay #[az,az,az,az] 78 (0,0)):=(km _<|by omega).trans<|(km _<|by omega).trans C;have cb:Z (λf=>f=z (G a)\/f=z (G a)+1) w5 (cH (cH (cH (cH (cH (cH w5 (R (z<|G a) i1) z1) (R (z<|G a) i2) z2) (R (z (G a)+1) 0) u0) (R (z (G a)+1) 1) u1) (R (z (G a)+1) 2) u2) (R (z (G a)+1) 3) u3):=((((((Z.refl _ w5).setCell _ _ _<|.inl<|.inl rfl).setCell _ _ _<|.inl<|.inl rfl).setCell _ 0 _<|.inl<|.inr rfl).setCell _ 1 _<|.inl<|.inr rfl).setCell _ 2 _<|.inl<|.inr rfl).setCell _ 3 _<|.inl<|.inr rfl;have hY:=Gk (a':=u0) (b':=u1) (c':=u2) (d':=u3) lr;generalize cH (cH (cH (cH (cH (cH w5 (R (z<|G a) i1) z1) (R (z<|G a) i2) z2) (R (z (G a)+1) 0) u0) (R (z (G a)+1) 1) u1) (R (z (G a)+1) 2) u2) (R (z (G a)+1) 3) u3=wf at*;have co:∀f,(f=z (G a)\/f=z (G a)+1)->∃hf,w5.heap[f]?=H (ay hf 78 (0,0)):=by
     rintro f(rfl|rfl)
     .exact⟨_,AQ⟩
     .exact⟨_,C⟩
    have bk:∀{bo n xs},w5.ownsRow (z<|G a) 179 1 bo n xs->wf.ownsRow (z<|G a) 179 1 bo n xs:=λkk=>cb.own kk (λf g ex=>by
     obtain⟨hf,df⟩:=co f ex;obtain⟨kz,ge⟩:=eT kk g;exact iQ df ge (by decide) rfl)
    refine⟨hY,bk<|av.own eq<|λ_ _ ex=>ex,bk gk,?_,s.fc (s.fc cq av cJ) cb<|λf g=>ap f (by rcases g with ex|ex<;>omega),?_⟩
    .refine((hA.aj av).other cb<|λf g=>?_).base (by omega);obtain⟨hf,df⟩:=co f g;exact⟨hf,_,_,df,by decide,by decide,by decide⟩
    .exact(((HW.mono (T:=s.F) cJ).trans hG (λ_ h=>.inl h)).cz av).trans cb (λf g=>.inr (by rcases g with ex|ex<;>omega)))
   go_wp2;obtain⟨r1,r2,r3,r4,r5,r6⟩:=aU _ _ _ _ _ _ _ _ _ rfl;refine cy (ru rfl _ _ (z (G a)+1) _ _ _ _ _ _ rfl r1 ⟨_,_,_,rfl⟩ ⟨_,_,_,rfl⟩ ⟨_,_,_,rfl⟩ ⟨_,_,_,rfl⟩) rfl ?_;have dn:=J HJ;subst dn;refine .inl ⟨xl,nl,ey,xm,v,eA,tm,o,hj,w,q,rfl,?_,?_,?_,hk,r4,r5,r6⟩
   .rw[J ho,J hq];exact hl
   .rw[J hy];exact r2
   .rw[J er];exact r3
