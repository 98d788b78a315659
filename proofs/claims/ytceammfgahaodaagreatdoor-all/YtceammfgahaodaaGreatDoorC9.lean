import Derived.Test.YtceammfgahaodaaGreatDoorC6
import Derived.Test.YtceammfgahaodaaGreatDoorC7
open _root_ renaming List.length→z,Option.some→M,Array.size→G,Go.World.heap→H,Go.Value.ownBlock→bY,Go.World.cell?→aS,Go.World.setCell→ct,Go.World.alloc→cF,Bool.false→bF,Bool.true→bX,Nat→R,Int→Y,List→cD,Go.Calls→cA,Go.undef→iE,Go.Proofs.Tryz.prog→bG,Go.Value.slice→ah,Go.Value.string→aj,Go.Value.bool→aO
namespace Go.Proofs.YtceammfgahaodaaGreatDoor
open ChangeShapes WideShapes RowKit Proofs.Tryz
set_option maxHeartbeats 16000000
set_option linter.all false
set_option maxRecDepth 100000
variable{a f B:I}{b c g l:R}{d t:aa}{e K:cK}{j N:DK}{m:Y}{n:SR}{o:eP}{X:fN}{v W:ab}{w:E}{x:jd}
section
open Go.Shelf
def Sq{a d:jd}(h:z x=b*4)(i:c<=b)(j:z a=4)(k:z d=(b+1-c)*4+g):(((x.take (c*4)++d).take (c*4)++a++(x.take (c*4)++d).drop (c*4+z a)).take ((c+1)*4)++x.drop (c*4)++((x.take (c*4)++d).take (c*4)++a++(x.take (c*4)++d).drop (c*4+z a)).drop ((c+1)*4+z (x.drop<|c*4))).take ((b+1)*4)=x.take (c*4)++a++x.drop (c*4):=by
 have e:z (x.take<|c*4)=c*4:=by rw[dP];omega
 have f:(x.take (c*4)++d).take (c*4)=x.take (c*4):=oV e;rw[f,oV (by simp;omega),oV (by simp;omega)]
def Mf(e K n i:R)(y:Array aa)(d:jd)(ba:e<=G (H a))(hg:a.heap[K]?=M (aw y 164 (0,0)))(ax:y.size=n*4)(t:y.toList.take (n*4)=d)(hv:ix a b w)(hi:i<n)(hn:n<=1000000000)(h1:∀al∈d,al.oneCell'=bX):cA bG 181 #[bE K 0 n n,aq i,bE b 0 1 1] a λca w'=>∃c,ca=aP (bE (G<|H a) 0 (n+1) c)/\w'.ownsRow e 164 4 (bE (G<|H a) 0 (n+1) c) (n+1) (d.take (i*4)++aH [w]++d.drop (i*4))/\J az a w':=by
 have F:z d=n*4:=by rw[<-t,dP,iL];omega
 have au:=am hg;have bf:=am hv;obtain⟨i0,bb,bg,bh,X⟩:=cL ot;have C:(prog.info? 164).map (·.size)=M 4:=by kernel_rfl
 have S:(n:Y)+1-(i:Y)=((n+1-i:R):Y):=by omega
 have B:i+(n+1-i)=n+1:=by omega
 have x:(Builtin.firstCells i0.size i<|bE K 0 i n).run bG a.drew=.ok (d.take<|i*4).toArray a.drew:=by
  rw[bh];exact run_firstCells_some a.drew 4 i (U K 0) i n (d.take<|i*4) (by rw[dP];omega) (λbl al v=>by
   rw[dB,cZ];rw[mW]at v;split at v
   .have:=qy (w:=a.drew) hg t bl al 0 (by simpa using v);simpa using this
   .cases v)
 have s:∀j,(Builtin.append_ #[102,3] j #[bE K 0 i n,aq<|(n:Y)+1-(i:Y)]).run bG a=.ok (bE (G<|H a) 0 (n+1)<|grownCap a (n+1) n 164) (cF a.drew<|aw ((d.take<|i*4).toArray++Builtin.zeroCells wX.cells (n+1-i)++Builtin.zeroCells wX.cells (grownCap a (n+1) n 164-(n+1))) 164):=λj=>by have h:=Lib.run_append_grow_zeros a 102 3 j 164 i0 _ .i64 .i64 underlying102 underlying3 bb bg (M<|U K 0) i n (d.take<|i*4) x (n+1-i) (by omega) (by omega) (by omega) (by omega) (by rw[X];omega) (by rw[X,B];exact sL (by omega)<|by omega);rw[B]at h;rw[S];exact h
 obtain⟨c,hG⟩:∃c,c=grownCap a (n+1) n 164:=⟨_,rfl⟩;rw[<-hG]at s;have ao:n+1<=c:=by rw[hG];exact grownCap_ge a _ _ _
 have O:c<=maxLen:=by rw[hG];exact sM a (n+1) n _ (by unfold maxLen;omega)
 have bi:c<=9223372036854775807:=by unfold maxLen at O;omega
 obtain⟨zs,l⟩:∃zs:jd,zs=(Builtin.zeroCells wX.cells (n+1-i)++Builtin.zeroCells wX.cells (c-(n+1))).toList:=⟨_,rfl⟩;have ac:z zs=(n+1-i)*4+(c-(n+1))*4:=by rw[l];simp[Builtin.zeroCells,wX,Value.cells]
 have k:((d.take<|i*4).toArray++Builtin.zeroCells wX.cells (n+1-i)++Builtin.zeroCells wX.cells (c-(n+1)))=(d.take (i*4)++zs).toArray:=by rw[l,Array.append_assoc];apply Array.ext';simp
 rw[k]at s;have D:z (aH [w])=4:=rfl;have V:z (d.drop<|i*4)=(n-i)*4:=by rw[iG,F];omega
 obtain⟨f,p⟩:∃f,f=d.take (i*4)++zs:=⟨_,rfl⟩;obtain⟨g,q⟩:∃g,g=f.take (i*4)++aH [w]++f.drop (i*4+z (aH [w])):=⟨_,rfl⟩;obtain⟨m,r⟩:∃m,m=g.take ((i+1)*4)++d.drop (i*4)++g.drop ((i+1)*4+z (d.drop<|i*4)):=⟨_,rfl⟩;have bc:z f=c*4:=by rw[p,af,dP];omega
 have bd:z g=c*4:=by rw[q];simp only[af,dP,iG];omega
 have T:z m=c*4:=by rw[r];simp only[af,dP,iG];omega
 have u:m.take ((n+1)*4)=d.take (i*4)++aH [w]++d.drop (i*4):=by rw[r,q,p];exact Sq F (by omega) rfl ac
 rw[<-p]at s;have P:∀(W:I),W.heap[G<|H a]?=M (aw f.toArray 164 (0,0))->W.heap[b]?=a.heap[b]?->∀j o,(Builtin.copy_ #[102,101] j #[bE (G<|H a) (i*4) (n+1-i) o,bE b 0 1 1]).run bG W=.ok (goInt<|Nat.min 1<|n+1-i) (W.setRow (G<|H a) g.toArray):=λW hW A j o=>by rw[q];refine rA W _ _ j 164 4 (G<|H a) (i*4) _ o (U b 0) _ 1 f.toArray _ (aH [w]) underlying102 C hW ?_ (λbl al v=>?_) (by simp;omega)<|BA w;rw[D];simp only[wZ];split<;>omega;rw[dB,bL<|A.trans hv,cZ];simpa[aH,E.cells]using v
 have Q:∀(W:I),W.heap[G<|H a]?=M (aw g.toArray 164 (0,0))->W.heap[K]?=a.heap[K]?->∀j o sc,(Builtin.copy_ #[102,102] j #[bE (G<|H a) ((i+1)*4) (n-i) o,bE K (i*4) (n-i) sc]).run bG W=.ok (goInt<|Nat.min (n-i)<|n-i) (W.setRow (G<|H a) m.toArray):=λW hW A j o sc=>by rw[r];refine rA W _ _ j 164 4 (G<|H a) ((i+1)*4) _ o (U K<|i*4) _ sc g.toArray _ (d.drop<|i*4) underlying102 C hW ?_ (λbl al v=>by rw[dB];exact qy (A.trans hg) t bl al _ v) (by simp;omega)<|λal hu=>h1 al<|dw hu;rw[V];simp only[wZ];split<;>omega
 have hA1:((cF a<|aw f.toArray 164).drew).heap[G<|H a]?=M (aw f.toArray 164 (0,0)):=aE (w:=a) _ rfl;have hA2:((cF a<|aw f.toArray 164).drew).heap[b]?=a.heap[b]?:=ga (w:=a) _ bf;have N:(((cF a<|aw f.toArray 164).drew.setRow (G<|H a) g.toArray).drew).heap[G<|H a]?=M (aw g.toArray 164 (0,0)):=tR _ _ _ _ _ _ hA1;have an:(((cF a<|aw f.toArray 164).drew.setRow (G<|H a) g.toArray).drew).heap[K]?=a.heap[K]?:=(so _ _ _ _<|by omega).trans<|ga (w:=a) _ au;have L:=Z (show((((cF a<|aw f.toArray 164).drew.setRow (G<|H a) g.toArray).drew).setRow (G<|H a) m.toArray).ownsRow e 164 4 (bE (G<|H a) 0 (n+1) c) (n+1) (d.take (i*4)++aH [w]++d.drop (i*4))/\J az a ((((cF a<|aw f.toArray 164).drew.setRow (G<|H a) g.toArray).drew).setRow (G<|H a) m.toArray)from by refine⟨⟨by simp[D];omega,.inr ⟨G<|H a,c,m.toArray,rfl,ba,tR _ _ _ _ _ _ N,ao,O,by simpa using T,u⟩⟩,?_⟩;have t1:J az a (cF a<|aw f.toArray 164).drew:=(cI az a).of_heap rfl;have t2:J az a ((cF a<|aw f.toArray 164).drew.setRow (G<|H a) g.toArray).drew:=(t1.trans (Ck _ (G<|H a) g.toArray)<|λk b=>.inr<|by omega).of_heap rfl;exact t2.trans (Ck _ (G<|H a) m.toArray)<|λk b=>.inr<|by omega);have av:=λj o=>P _ hA1 hA2 j o;have bT:¬((i:Y)=(n:Y)):=by omega
 have bu:IntKind.i64.wrap ((i:Y)+1)=(i:Y)+1:=by rw[bQ];omega
 have bv:IntKind.i64.wrap ((n:Y)+1)=(n:Y)+1:=by rw[bQ];omega
 have bx:IntKind.i64.wrap ((n:Y)+1-(i:Y))=(n:Y)+1-(i:Y):=by rw[bQ];omega
 have bt:((i:Y)+1).toNat=i+1:=by omega
 have bk:((n:Y)+1).toNat=n+1:=by omega
 have bo:(0:Y)<=(i:Y)+1:=by omega
 have bs:i<=n:=by omega
 have bp:(i:Y)<=(n:Y)+1:=by omega
 have bq:(n:Y)<(n:Y)+1:=by omega
 have bm:¬(c=i):=by omega
 have bn:¬(c=i+1):=by omega
 have br:¬(n=i):=by omega
 have ad:prog.follows .mixedOrders=bX:=by kernel_rfl
 clear p q r bc bd T u D V ac k l hG B S x F t h1 ax C hv hg;go_in
 go_wp2_with(at_builtin;refine Lib.wpList_append_run _ rfl _ _ _ _ rfl _ _ rfl rfl _ _ (s _) ?_)
 go_region_law_o (refine za rfl _ _ 102 102 rfl (bE (G<|H a) ((i+1)*4) (n-i)<|c-(i+1)) (bE K (i*4) (n-i)<|n-i) (by simp[Act.eval,Act.put]) (by simp[Act.eval,Act.put]) (Q _ N an 3 _ _) ?_)
 go_wp2;go_ret;exact⟨c,rfl,L⟩
def OI{w:I}{baseqq:R}{v:aa}{n:R}(t:R){xs:jd}{x:E}{vb:R}(q:w.ownsRow baseqq 164 4 v n xs)(A:baseqq<=G (H w))(r:ix w vb x)(p:bY v≠M vb)(N:t<=n)(o:n<=1000000000)(y:∀O∈xs,O.oneCell'=bX):cA bG 181 #[v,aq t,bE vb 0 1 1] w λu i=>∃d,u=aP d/\i.ownsRow baseqq 164 4 d (n+1) (xs.take (t*4)++aH [x]++xs.drop (t*4))/\J (λF=>bY v=M F) w i/\(bY d=bY v\/∃L,bY d=M L/\G (H w)<=L):=by
 have s:=q.1;by_cases k:t=n;subst k;apply(OH q A r o).mono;rintro u i⟨d,rfl,f,c⟩;refine⟨d,rfl,?_,J.dR c.grown<|λF l=>.inl l,c.uq⟩;rw[<-s,bP,gx,dO];exact f;rcases q.2 with⟨rfl,rfl⟩|⟨K,a,e,rfl,j,B,D,m,g,h⟩;omega;by_cases b:n+1<=a;refine(Jt baseqq K a n t e xs j B b (by unfold maxLen at m;omega) g h r (λu=>p (by rw[u];rfl)) (by omega) o y).mono ?_;rintro u i⟨rfl,f,c⟩;exact⟨_,rfl,f,c.mono<|λF l=>.inl (by rw[l];rfl),.inl rfl⟩;(obtain rfl:a=n:=by omega);apply(Mf baseqq K a t e xs A B g h r (by omega) o y).mono;rintro u i⟨C,rfl,f,c⟩;exact⟨_,rfl,f,c.mono cN,.inr ⟨_,rfl,ai _⟩⟩
end
def Iw{l m:cK}(h:b<z m):fJ l (m.take<|b+1)=lH (fJ l<|m.take b) m[b]:=by
 unfold fJ;rw[ak h,iQ];rfl
def Qt(l:cK)(e:E):z (lH l e)<=z l+1:=by
 have:∀l:cK,z (l.filter<|λx=>ahead x e)+z (l.filter<|λx=>ahead e x)<=z l:=by
  intro l;induction l with
  |nil=>simp
  |cons x r a=>
   cases c:ahead x e with
   |true=>
    rw[eW (by simp[c]),dl<|by simp[lV c]];simp only[aC];omega
   |false=>
    rw[dl<|by simp[c]];cases d:ahead e x with
    |true=>rw[eW<|by simp[d]];simp only[aC];omega
    |false=>rw[dl<|by simp[d]];simp only[aC];omega
 have:=this l;unfold lH;simp only[af,aC];omega
def xw(l m:cK):z (fJ l m)<=z l+z m:=by
 unfold fJ;induction m generalizing l with
 |nil=>simp
 |cons e r a=>
  have b:=a<|lH l e;have c:=Qt l e;simp only[fU,aC];omega
def dS.fJ(h:dS e)(m:cK):dS (fJ e m):=by
 induction m generalizing e with
 |nil=>exact h
 |cons b r a=>exact a<|h.lH b
def Vp(l:cK)(p:R)(x:E)(h:p<z l):((((aH l).set (p*4)<|aj x.key).set (p*4+1)<|aj x.val).set (p*4+2)<|aO x.del).set (p*4+3) (aL x.bK)=aH (l.set p x):=by
 induction l generalizing p with
 |nil=>simp at h
 |cons a r c=>
  have e:∀(a:E)(r:cK),aH (a::r)=aj a.key::aj a.val::aO a.del::aL a.bK::aH r:=λa r=>by simp[aH,E.cells]
  cases p with
  |zero=>rw[dM,e,e];simp
  |succ p=>
   have b:p<z r:=by simpa using h
   rw[dH,e,e,<-c p b];rw[show(p+1)*4=p*4+1+1+1+1 by omega];simp only[dH]
def Ug(x:E)(o:a.ownsRow b 164 4 (bE c 0 (z e) g) (z e) (aH e))(p:l<z e):(ct (ct (ct (ct a (U c<|l*4)<|aj x.key) (U c<|l*4+1)<|aj x.val) (U c<|l*4+2)<|aO x.del) (U c<|l*4+3)<|aL x.bK).ownsRow b 164 4 (bE c 0 (z e) g) (z<|e.set l x) (aH<|e.set l x):=by
 refine⟨fS _,.inr ?_⟩;rcases o.2 with⟨f,s⟩|⟨r,m,q,f,i,n,d,j,h,k⟩;cases f;cases f;refine⟨c,g,_,by rw[eT],i,aT<|aT<|aT<|aT n,by rw[eT];exact d,j,by simpa using h,?_⟩;simp only[nM,List.take_set,eT,k];exact Vp e l x p
def Sf(h:e.take b++w::e.drop b=K)(d:b<=z e):(aH e).take (b*4)++aH [w]++(aH e).drop (b*4)=aH K:=by
 rw[<-h,fT,show w::e.drop b=[w]++e.drop b from rfl,fT,aW];have c:=bW aH<|ci b e;rw[fT]at c;have a:z (aH<|e.take b)=b*4:=by rw[fS,dP];omega
 rw[<-c,oV a,List.drop_left' a]
def WP(h:e.take b++w::e.drop b=K)(a:b<=z e):z K=z e+1:=by
 rw[<-h,af,aC,dP,iG];omega
def Tq(h:ku a d e)(hm:ku a t K)(hs:dS e)(hl:z e+z K<=100000000)(br:∀k,bY d=M k->k<G (H a))(bo:∀k,bY t=M k->k<G (H a)):cA bG 120 #[d,t] a λbs w'=>∃v',bs=aP v'/\w'.ownsRow (G<|H a) 164 4 v' (z<|fJ e K) (aH<|fJ e K)/\J az a w':=by
 have bi:=Po h (by omega) br;obtain⟨mx,mc,ch⟩:=bS hm;obtain⟨vx,vc,cs⟩:=bS h;obtain⟨HM,bv,HS⟩:=dI hm bo hs;clear h br hm bo hs;subst ch;subst cs;go_in
 go_wp2_with fail
 apply bi.mono;rintro bs w1⟨v1,rfl,an,bh⟩;obtain⟨x1,c1,co⟩:=aB an;subst co;have bx:=Z an;have ca:=Z<|J.aV (S:=az) bh;clear an bh bi;go_wp2_with fail
 go_loopw [5,13] (λo i wr=>∃(k:R),k<=z K/\i=aq k/\wr.ownsRow (G<|H a) 164 4 o (z<|fJ e<|K.take k) (aH<|fJ e<|K.take k)/\J az a wr) (λ_ i _=>z K-(intOf i).toNat)
 case atStart=>exact⟨0,bB _,rfl,bx,ca⟩
 (case round=>obtain⟨k,N,rfl,ho,V⟩:=hrel;obtain⟨nx,nc,cj⟩:=aB ho;subst cj;by_cases Q:k<z K;(·(have e1:(k:Y)<(z K:Y):=by omega);have F:=Iw (l:=e) Q;have au:dS (fJ e<|K.take k):=HS.fJ _;(have ce:z (fJ e<|K.take k)<=100000000:=by have:=xw e<|K.take k;have:=sh k K;omega);generalize fJ e (K.take k)=b at ho F au ce|-;obtain⟨cc,⟨bp,cB⟩|⟨bt,i,cx,bp,cd,hc⟩⟩:=ae HM;exfalso;omega;cases bp;have B:bt<G (H a):=bv bt rfl;have j:=eG K k Q;have cE:bt<G (H wr):=ag B V.size;have ck:aS wr (U bt<|i+k*4)=M (aj K[k].key):=V.cell (hc _ _ j.1) id B;have cl:aS wr (U bt<|i+k*4+1)=M (aj K[k].val):=V.cell (by rw[aY];exact hc _ _ j.2.1) id B;have cm:aS wr (U bt<|i+k*4+2)=M (aO K[k].del):=V.cell (by rw[aY];exact hc _ _ j.2.2.1) id B;have cn:aS wr (U bt<|i+k*4+3)=M (aL K[k].bK):=V.cell (by rw[aY];exact hc _ _ j.2.2.2) id B;obtain⟨X,O,HO,HT⟩:=gD F au ho V;clear j hc cc cd F au ho V;generalize K[k]=cM at*;obtain⟨f,v,u,g⟩:=cM;simp only at ck cl cm cn;have L:J az wr (cF wr<|aw #[aj f,aj v,aO u,aL g] 164):=(cI _ _);have y:=Bw (ah nx (z b) nc) f g (cF wr<|aw #[aj f,aj v,aO u,aL g] 164) (dr<|L.own HO<|λ_ _ an=>an) O (by omega) (λbt a=>by have:=(HO.lt bt a).2;simp;omega);have D:=IX b ⟨f,⟨#[]⟩,bF,g⟩;by_cases P:∃h:ly b ⟨f,⟨#[]⟩,bF,g⟩<z b,b[ly b ⟨f,⟨#[]⟩,bF,g⟩].key=f/\b[ly b ⟨f,⟨#[]⟩,bF,g⟩].bK=g;(.obtain⟨al,ac,W⟩:=P;have T:=Qs O ⟨f,v,u,g⟩ al ac W;have ax:=Z<|show b.set (ly b ⟨f,⟨#[]⟩,bF,g⟩) ⟨f,v,u,g⟩=lH b ⟨f,v,u,g⟩from T;clear T;generalize ly b ⟨f,⟨#[]⟩,bF,g⟩=p at*;(have e2:(p:Y)<(z b:Y):=by omega);(have e3:(0:Y)<=(p:Y):=by omega);(go_wp2_with fail);apply y.mono;rintro bs c⟨rfl,A⟩;have l:ix c (G<|H wr) ⟨f,v,u,g⟩:=(A.block _<|by simp).trans<|aE _ rfl;have r:J az wr c:=L.cw<|J.aV (S:=az) A;have o:=r.own HO<|λ_ _ an=>an;obtain⟨q0,q1,q2,q3⟩:=l.cells;have C:=am l;simp only at q0 q1 q2 q3;have bm:∀x,bY (ah nx (z b) nc)=M x->x<G (H wr):=λx j=>(HO.lt x j).2;rcases o.2 with⟨h2,h0⟩|⟨x,bb,cv,h2,bl,j,bn,bq,bk,s⟩;exfalso;omega;cases h2;(have cb:x≠G (H wr):=λbs=>by have:=bm x rfl;omega);have m:=eG b p al;(have r0:aS c (U x<|p*4)=M (aj b[p].key):=by simpa using qy j s _ _ 0 (by simpa using m.1));(have r1:aS c (U x<|p*4+1)=M (aj b[p].val):=by simpa using qy j s _ _ 0 (by simpa using m.2.1));(have r2:aS c (U x<|p*4+2)=M (aO b[p].del):=by simpa using qy j s _ _ 0 (by simpa using m.2.2.1));(have r3:aS c (U x<|p*4+3)=M (aL b[p].bK):=by simpa using qy j s _ _ 0 (by simpa using m.2.2.2));(have f0:∀a,c.frozen? (U x a)=bF:=λa=>by simp[World.frozen?,j]);have bc:=f0<|p*4;have bd:=f0<|p*4+1;have bf:=f0<|p*4+2;have bg:=f0<|p*4+3;obtain⟨ao,ba,bu,HG⟩:=gD o r l j;clear bm m f0 o r l j bk s bq bl y L;generalize G (H wr)=eb at*;generalize b[p]=w at*;obtain⟨yk,yv,yd,yb⟩:=w;simp only at r0 r1 r2 r3 ac W;subst ac;subst W;go_wp2;(go_quiet(fail));have hd:J az c (c.drewN nq):=J.aV<|below_drewN (Below.refl _ _) _;have av:=Z<|hd.own ao<|λ_ _ an=>an;have ad:=Z<|(HT.cw ba).cw hd;have cp:eb<G (H<|c.drewN nq):=C;(replace r0:aS (c.drewN nq) (U x<|p*4)=_:=r0);(replace r1:aS (c.drewN nq) (U x<|p*4+1)=_:=r1);(replace r2:aS (c.drewN nq) (U x<|p*4+2)=_:=r2);(replace r3:aS (c.drewN nq) (U x<|p*4+3)=_:=r3);(replace q0:aS (c.drewN nq) (U eb 0)=_:=q0);(replace q1:aS (c.drewN nq) (U eb 1)=_:=q1);(replace q2:aS (c.drewN nq) (U eb 2)=_:=q2);(replace q3:aS (c.drewN nq) (U eb 3)=_:=q3);(replace bc:(c.drewN nq).frozen? (U x<|p*4)=_:=bc);(replace bd:(c.drewN nq).frozen? (U x<|p*4+1)=_:=bd);(replace bf:(c.drewN nq).frozen? (U x<|p*4+2)=_:=bf);(replace bg:(c.drewN nq).frozen? (U x<|p*4+3)=_:=bg);clear hd bu HG ao ba C;generalize c.drewN nq=w3 at*;go_wp2;(have bT:∀k,k=x->G (H a)<=k:=λk N=>by rw[N];exact(av.lt x rfl).1);refine⟨⟨k+1,Q,by go_num,?_,?_⟩,by simp[intOf];omega⟩;rw[ae X,<-ae ax];exact Ug ⟨yk,v,u,yb⟩ av al;refine(((ad.setCell _ _ _ ?_).setCell _ _ _ ?_).setCell _ _ _ ?_).setCell _ _ _ ?_<;>exact .inr<|bT x rfl);(.have ac:=Qu O ⟨f,v,u,g⟩<|O.Yo ⟨f,v,u,g⟩<|λa bs=>P ⟨a,bs⟩;have W:=Z<|show b.take (ly b ⟨f,⟨#[]⟩,bF,g⟩)++⟨f,v,u,g⟩::b.drop (ly b ⟨f,⟨#[]⟩,bF,g⟩)=lH b ⟨f,v,u,g⟩from ac;clear ac;generalize ly b ⟨f,⟨#[]⟩,bF,g⟩=p at*;(go_wp2_with fail);apply y.mono;rintro bs c⟨rfl,A⟩;have l:ix c (G<|H wr) ⟨f,v,u,g⟩:=(A.block _<|by simp).trans<|aE _ rfl;have r:J az wr c:=L.cw<|J.aV (S:=az) A;have o:=r.own HO<|λ_ _ an=>an;obtain⟨q0,q1,q2,q3⟩:=l.cells;have C:=am l;simp only at q0 q1 q2 q3;have cu:=HT.size;have bg:=r.size;have bm:=Z (λ(q:R)=>show _/\_/\_ from have av:J az c (cF (c.drewN q)<|aw #[aj f,aj v,aO u,aL g] 164):=(J.aV (S:=az)<|below_drewN (Below.refl _ c) q).alloc _;have bd:=av.own o<|λ_ _ an=>an;⟨OI (w:=(cF (c.drewN q)<|aw #[aj f,aj v,aO u,aL g] 164)) (baseqq:=G<|H a) (v:=(ah nx (z b) nc)) (n:=z b) p (xs:=(aH b)) (x:=⟨f,v,u,g⟩) (vb:=G<|H c) bd (by have:=av.size;omega) (aE _ rfl) (λbs=>by have:=(o.lt _ bs).2;omega) D (by omega)<|Ul b,(HT.cw r).cw av,λk N=>(bd.lt k N).1⟩);(have al:(∃x,nx=M (U x 0)/\∃w:E,p<z b/\aS c (U x<|p*4)=M (aj w.key)/\aS c (U x<|p*4+3)=M (aL w.bK)/\(w.key≠f\/(w.key=f/\w.bK≠g)))\/((p:Y)<(z b:Y))=False:=by by_cases T:p<z b;left;rcases o.2 with⟨h2,h0⟩|⟨x,bb,cv,h2,bl,j,bn,bq,bk,s⟩;omega;cases h2;have m:=eG b p T;refine⟨x,rfl,b[p],T,by simpa using qy j s _ _ 0 (by simpa using m.1),by simpa using qy j s _ _ 0 (by simpa using m.2.2.2),?_⟩;by_cases N:b[p].key=f;exact .inr ⟨N,λan=>P ⟨T,N,an⟩⟩;exact .inl N;right;simp;omega);clear l r o A y L cu bg P;generalize G (H wr)=eb at*;rcases al with⟨x,rfl,⟨yk,yv,yd,yb⟩,T,r0,r3,hy|⟨rfl,hy⟩⟩|e2;(case' inl.inl=>simp only at r0 r3 hy;(have e2:(p:Y)<(z b:Y):=by omega);(have e3:(0:Y)<=(p:Y):=by omega);have e4:=IE hy);(case' inl.inr=>simp only at r0 r3 hy;(have e2:(p:Y)<(z b:Y):=by omega);(have e3:(0:Y)<=(p:Y):=by omega);have e4:(yb==g)=bF:=by simpa using hy);(all_goals(go_wp2_with fail);(go_quiet(fail));obtain⟨bc,ba,ax⟩:=bm nq;have ad:=Z ba;have bu:=Z ax;clear ba ax;(go_wp2_with fail);apply bc.mono;rintro bs w4⟨v4,rfl,ao,bf,_⟩;obtain⟨x4,c4,cp⟩:=aB ao;subst cp;have bT:=Z ao;have cb:=Z bf;clear ao bf bc;go_wp2;refine⟨⟨k+1,Q,by go_num,?_,?_⟩,by simp[intOf];omega⟩;rw[ae X,WP (ae W) D,<-Sf (ae W) D];exact bT;exact ad.trans cb<|λk N=>.inr<|bu k N)));(have e1:¬(k:Y)<(z K:Y):=by omega);(have b:k=z K:=by omega);obtain⟨c,HO,HT⟩:=dI (show fJ e K=fJ e (K.take k)by rw[b,bP]) ho V;clear ho V b;go_wp2;go_ret;exact⟨_,rfl,by rw[ae c];exact HO,HT⟩)
def mq(a:Y)(c:Py):E:=⟨c.key,if c.del then⟨#[]⟩else c.val,c.del,a⟩
def Mx{e:uN}(b:Y)(hp:ym a d e)(hv:∀k,bY d=M k->k<G (H a))(hr:z e<=1000000)(hz:∀co∈e,co.key.size<=140737488351232/\co.val.size<=140737488351232):cA bG 70 #[d,.int .u64 b] a λcp w'=>∃v',cp=.returned v'/\w'.ownsRow (G<|H a) 164 4 v' (z e) (aH<|e.map<|mq b)/\J (λ_=>False) a w':=by
 have cu:∀(co:Bool)(a:I),(Op.unary .not<|.bool co).run bG a=.ok (.bool<|!co) a:=λ_ _=>rfl;obtain⟨i0,bc,bf,bg,bh⟩:=cL ot;obtain⟨dk,cc,cd⟩:=bS hp;obtain⟨HP,HV,HZ⟩:=dI hp hv hz;clear hp hv hz;subst cd;go_in
 go_wp2_with(at_make;refine lN _ rfl _ _ 101 rfl (G<|H a) 164 i0 wX 4 underlying101 bc bf bg _ _ _ (z e) rfl rfl rfl (by rw[bh];omega) (by unfold maxLen;omega) (ai _) ?_;intro w1 P O;have X:=Z P;have bk:=Z O;clear P O)
 go_loopw [5,14] (λo bT wr=>∃(k:R),k<=z e/\bT=.int .i64 k/\wr.ownsRow (G<|H a) 164 4 o k (aH<|(e.take k).map<|mq b)/\J (λ_=>False) a wr) (λ_ bT _=>z e-(intOf bT).toNat)
 case atStart=>exact⟨0,bB _,rfl,X,J.dR bk<|by simp⟩
 case round=>
  obtain⟨k,hk,rfl,ho,D⟩:=hrel;obtain⟨nx,nc,ch⟩:=aB ho;subst ch;by_cases y:k<z e
  .have e1:(k:Y)<(z e:Y):=by omega
   obtain⟨cb,⟨bu,cB⟩|⟨bx,f,cx,bu,ce,hc⟩⟩:=ae HP
   .exfalso;omega
   cases bu;have L:bx<G (H a):=HV bx rfl;have hg:=li e k y;have cE:bx<G (H wr):=ag L D.size;have ck:aS wr ⟨bx,f+k*3,none⟩=M (.string e[k].key):=D.cell (hc _ _ hg.1) id L;have cl:aS wr ⟨bx,f+k*3+1,none⟩=M (.string e[k].val):=D.cell (by rw[aY];exact hc _ _ hg.2.1) id L;have cm:aS wr ⟨bx,f+k*3+2,none⟩=M (.bool e[k].del):=D.cell (by rw[aY];exact hc _ _ hg.2.2) id L;have cn:=HZ _<|ar y;obtain⟨bl,HO,HT⟩:=dI (show(e.take<|k+1).map (mq b)=(e.take k).map (mq b)++[mq b e[k]]by rw[ak y,aQ];rfl) ho D;clear hg hc cb ce ho D;generalize e[k]=co at*;obtain⟨g,p,l⟩:=co;simp only at ck cl cm cn;have bq:=λan=>vC g an (by omega);have br:=λan=>vC p an (by omega);go_wp2_with fail
   rename_i QQ KK bm;have m:(cF wr<|.cells #[.string g,.string p,.bool l] 42).heap[G<|H wr]?=M (.cells #[.string g,.string p,.bool l] 42 (0,0)):=aE _ rfl;have ba:J (λ_=>False) a (cF wr<|.cells #[.string g,.string p,.bool l] 42):=HT.alloc _;have av:=aU HO<|.cells #[.string g,.string p,.bool l] 42;generalize cF wr (.cells #[.string g,.string p,.bool l] 42)=j at m ba av|-;generalize G (H wr)=r at m|-;have x:aS j.drew ⟨r,0,none⟩=M (.string g)/\aS j.drew ⟨r,2,none⟩=M (.bool l):=⟨by show aS j _=_;rw[bL m];rfl,by show aS j _=_;rw[bL m];rfl⟩;have A:=am m;obtain⟨w,bi,ac,V⟩:=gD (show∀i,J (λ_=>False) j i->aS i ⟨r,0,none⟩=M (.string g)/\aS i ⟨r,2,none⟩=M (.bool l)fromλi a=>⟨a.cell x.1 id A,a.cell x.2 id A⟩) m ba av;clear m ba av;refine cz (λi=>aS i ⟨r,0,none⟩=M (.string g)/\aS i ⟨r,2,none⟩=M (.bool l)) 8 (by kernel_rfl) ?_;refine cY 0 ?_;iterate 2 (refine eJ (v:=?_) x rfl (by kernel_rfl) iV rfl ?_ ?_;rotate_left;(focus(rintro i⟨z0,z2⟩;go_simp;try rfl));simp only[Act.put,dG,Nat.reduceAdd])
   apply eA;refine cY 3 ?_;iterate 3 (refine eJ (v:=?_) x rfl (by kernel_rfl) iV rfl ?_ ?_;rotate_left;(focus(rintro i⟨z0,z2⟩;go_simp;try rfl));simp only[Act.put,dG,Nat.reduceAdd])
   apply eA;refine ua (α:=R) (λc an=>J (λ_=>False) j an/\an.heap[c]?=M (.cells #[.string ⟨#[]⟩,.string ⟨#[]⟩,.bool bF,.int .u64 0] 164 (0,0))/\G (H j)<=c) (λc=>{tmps:=#[.slice (M ⟨bx,f,none⟩) (z e) cc,.int .u64 b,iE,iE,.slice none 0 0,.slice nx k nc,iE,.pointer<|M ⟨r,0,none⟩,.pointer<|M ⟨c,0,none⟩,.slice (M ⟨bx,f,none⟩) (z e) cc,.int .i64<|z e,.slice (M ⟨G<|H a,0,none⟩) 0<|z e,.slice (M ⟨bx,f,none⟩) (z e) cc,.int .i64<|z e,.int .i64 k,.bool bX,.pointer<|M ⟨bx,f+k*3,none⟩,.agg #[.string g,.string p,.bool l],.pointer<|M ⟨r,0,none⟩,.string g,.string g,.pointer<|M ⟨r,2,none⟩,.bool l,.int .u64 b,.agg #[.string g,.string ⟨#[]⟩,.bool l,.int .u64 b],u25,u26,u27,u28,u29,u30,u31,u32,u33,u34,u35,u36,iE],defers:=[]}) #[true,true,true,true,true,true,true,true,false] 1 ?_ ?_
   .intro bp;refine sX (i:=2) (j:=7) rfl rfl rfl rfl (by kernel_rfl) ?_ ?_
    .intro dd hK;go_simp;apply(bq _).mono;rintro cp w4⟨rfl,K⟩;have t:J (λ_=>False) j w4:=(cg (λ_=>False) j).cw<|J.aV (S:=λ_=>False) K;have bn:=w w4 t;refine hK _ _ (λ_=>bn) ?_;try simp only[Act.put,dG]
     refine lR (i:=6) (v:=?_) rfl rfl (by kernel_rfl) (by kernel_rfl) (by kernel_rfl) (by kernel_rfl) (λ_ _ _ h=>h) (Or.inl ⟨by rfl,?_⟩) bn ?_;rotate_left
     .rintro i⟨z0,z2⟩;go_simp;try with_reducible rfl
     try simp only[Act.put,dG]
     refine aM (i:=7) rfl rfl (by kernel_rfl) ?_;intro K2 au;go_simp;have E:=t.alloc<|.cells #[.string ⟨#[]⟩,.string ⟨#[]⟩,.bool bF,.int .u64 0] 164;refine au _ _ (λ_=>w _ E) ?_;exact km (bp (G<|H w4) _ ⟨E,aE _ rfl,t.size⟩)<|by kernel_rfl
    .intro dd hK;go_simp;have t:J (λ_=>False) j ((cF j<|.cells #[.string ⟨#[]⟩,.string ⟨#[]⟩,.bool bF,.int .u64 0] 164).drew):=(cI (λ_=>False) j).of_heap rfl;have K:((cF j<|.cells #[.string ⟨#[]⟩,.string ⟨#[]⟩,.bool bF,.int .u64 0] 164).drew).heap[G<|H j]?=M (.cells #[.string ⟨#[]⟩,.string ⟨#[]⟩,.bool bF,.int .u64 0] 164 (0,0)):=aE (w:=j) _ rfl;refine hK _ _ (λ_=>w _ t) ?_;refine aM (i:=2) rfl rfl (by kernel_rfl) ?_;intro K2 au;go_simp;apply(bq _).mono;rintro cp w5⟨rfl,bo⟩;have E:J (λ_=>False) j w5:=t.cw<|J.aV (S:=λ_=>False) bo;have ca:=((J.aV (S:=λ_=>False) bo).block _ (am K) id).trans K;have bn:=w _ E;refine au _ _ (λ_=>bn) ?_;try simp only[Act.put,dG]
     refine lR (i:=6) (v:=?_) rfl rfl (by kernel_rfl) (by kernel_rfl) (by kernel_rfl) (by kernel_rfl) (λ_ _ _ h=>h) (Or.inl ⟨by rfl,?_⟩) bn ?_;rotate_left
     .rintro i⟨z0,z2⟩;go_simp;try with_reducible rfl
     try simp only[Act.put,dG]
     exact km (bp (G<|H j) _ ⟨E,ca,ai _⟩)<|by kernel_rfl
   rintro c an⟨D,N,s⟩;have bt:=am N;refine aM (i:=8) rfl rfl (by kernel_rfl) ?_;intro dd hK;have q0:aS an ⟨c,0,none⟩=M (.string ⟨#[]⟩):=by rw[bL N];rfl
   have q1:aS an ⟨c,1,none⟩=M (.string ⟨#[]⟩):=by rw[bL N];rfl
   have q2:aS an ⟨c,2,none⟩=M (.bool bF):=by rw[bL N];rfl
   have q3:aS an ⟨c,3,none⟩=M (.int .u64 0):=by rw[bL N];rfl
   have fz:∀dc,an.frozen? ⟨c,dc,none⟩=bF:=λdc=>by simp[World.frozen?,N]
   go_simp;refine hK _ _ wH ?_;refine cX (by kernel_rfl) ?_ _;show KK _ _;apply bm;have ao:ix (ct (ct (ct (ct an ⟨c,0,none⟩<|.string g) ⟨c,1,none⟩<|.string ⟨#[]⟩) ⟨c,2,none⟩<|.bool l) ⟨c,3,none⟩<|.int .u64 b) c ⟨g,⟨#[]⟩,l,b⟩:=aT<|aT<|aT<|aT N;have o:J (λ_=>False) j (ct (ct (ct (ct an ⟨c,0,none⟩<|.string g) ⟨c,1,none⟩<|.string ⟨#[]⟩) ⟨c,2,none⟩<|.bool l) ⟨c,3,none⟩<|.int .u64 b):=(((D.setCell _ _ _<|.inr s).setCell _ _ _<|.inr s).setCell _ _ _<|.inr s).setCell _ _ _<|.inr s;have bb:=ac.cw o;have ax:=o.own V<|λ_ _ d=>d;have n:=(o.block _ A id).trans bi;have db:c≠r:=by omega
   have bv:G (H a)<=c:=aF ac.size s;have cj:bY (Value.slice nx k nc)≠M c:=λcp=>by have:=(V.lt c cp).2;omega
   generalize(ct (ct (ct (ct an ⟨c,0,none⟩<|.string g) ⟨c,1,none⟩<|.string ⟨#[]⟩) ⟨c,2,none⟩<|.bool l) ⟨c,3,none⟩<|.int .u64 b)=W5 at ao bb ax n|-;have d0:aS W5 ⟨r,0,none⟩=M (.string g):=by rw[bL n];rfl
   have d1:aS W5 ⟨r,1,none⟩=M (.string p):=by rw[bL n];rfl
   have d2:aS W5 ⟨r,2,none⟩=M (.bool l):=by rw[bL n];rfl
   have cs:=am n;obtain⟨Q,ad,W,cv⟩:=gD ao bb ax n;clear ao bb ax n o bm hK D N q0 q1 q2 q3 fz bi ac V w x s bt;obtain⟨g0,g1,g2,g3⟩:=Q.cells;simp only at g0 g1 g2 g3;have bs:=am Q;cases l with
   |true=>
    go_wp2_with(at_builtin;refine bV _ rfl (.tmp 32) (.tmp 34) 101 rfl (G<|H a) 164 i0 wX 4 48 underlying101 bc bf bg bh rfl (by decide) (.slice nx k nc) k (aH<|(e.take k).map<|mq b) rfl (aU W<|.cells #[.string g,.string ⟨#[]⟩,.bool bX,.int .u64 b] 164) ⟨G<|H W5,0,none⟩ 1 1 (aH [⟨g,⟨#[]⟩,bX,b⟩]) rfl rfl (ww _ ⟨g,⟨#[]⟩,bX,b⟩ _) (BA _) (by omega) (by omega) (by have:=ad.size;simp;omega) ?_;intro v7 w7 B F;have u:=Z B;have al:=Z F;clear B F)
    obtain⟨x7,c7,bd⟩:=aB u;subst bd;go_roundw;case rel=>
     refine⟨k+1,y,by go_num,?_,?_⟩
     .rw[ae bl,fT];exact u
     .exact(ad.alloc _).trans (J.dR (S:=λq=>bY (Value.slice nx k nc)=M q) al.grown<|λq C=>.inl C)<|λq C=>.inr (W.lt q C).1
    case measure=>simp[intOf];omega
   |false=>
    go_wp2_with fail
    apply(br _).mono;rintro cp w6⟨rfl,bp⟩;have E:J (λ_=>False) W5 w6:=J.aV bp;have t:ix w6 c ⟨g,⟨#[]⟩,bF,b⟩:=(E.block _ bs id).trans Q;have ca:G (H a)<=c:=bv;have bo:=(ad.cw E).setCell c 1 (.string p)<|.inr bv;have bn:=(((E.mono (T:=λq=>q=c) cN).setCell c 1 (.string p)<|.inl rfl)).own W<|λq C d=>cj (by rw[<-d];exact C);obtain⟨h0,h1,h2,h3⟩:=t.cells;simp only at h0 h1 h2 h3;have cM:w6.frozen? ⟨c,1,none⟩=bF:=by unfold ix at t;simp[World.frozen?,t]
    have cT:=am t;have au:=Z bo;have K:=Z bn;clear t bo bn E bp g0 g1 g2 g3 d0 d1 d2;go_wp2_with(at_builtin;refine bV _ rfl (.tmp 32) (.tmp 34) 101 rfl (G<|H a) 164 i0 wX 4 48 underlying101 bc bf bg bh rfl (by decide) (.slice nx k nc) k (aH<|(e.take k).map<|mq b) rfl (aU K<|.cells #[.string g,.string p,.bool bF,.int .u64 b] 164) ⟨G<|H w6,0,none⟩ 1 1 (aH [⟨g,p,bF,b⟩]) rfl rfl (by have C:=ww (ct w6 ⟨c,1,none⟩<|.string p) ⟨g,p,bF,b⟩ 164;rwa[gE]at C) (BA _) (by omega) (by omega) (by have:=au.size;simp;omega) ?_;intro v7 w7 B F;have u:=Z B;have al:=Z F;clear B F)
    obtain⟨x7,c7,bd⟩:=aB u;subst bd;go_roundw;case rel=>
     refine⟨k+1,y,by go_num,?_,?_⟩
     .rw[ae bl,fT];exact u
     .exact(au.alloc _).trans (J.dR (S:=λq=>bY (Value.slice nx k nc)=M q) al.grown<|λq C=>.inl C)<|λq C=>.inr (K.lt q C).1
    case measure=>simp[intOf];omega
  .have e1:¬(k:Y)<(z e:Y):=by omega
   have c:k=z e:=by omega
   obtain⟨g,f,HO,HT⟩:=gD (show aH (e.map<|mq b)=aH ((e.take k).map<|mq b)by rw[c,bP]) c ho D;clear ho D c;go_wp2;go_ret;exact⟨_,rfl,by rw[ae g,<-ae f];exact HO,HT⟩
section
open Go.Shelf
attribute [local go_sem] Oper.semAt_some
def PW:(prog.info? 103).map (λi=>(i.zero,i.size,i.bytes))=M (M<|aL 0,1,8):=by kernel_rfl
structure MV(w:I)(bm:R)(pre:eP)(B:fN)(W:I):Prop where
 ex:∃pv,er W (G<|H w) pv 122/\W.ownsRow (G (H w)+1) 103 1 pv (z pre) (pre.map<|Value.int .u64)/\∀k,B k↔k=G (H w)\/bY pv=M k
 ay:J (λk=>k=bm) w W
def MV.lt(j:MV a c o X B):∀k,X k->G (H a)<=k/\k<G (H B):=by
 obtain⟨l,d,e,g⟩:=j.ex;intro k h;rcases(g k).1 h with rfl|i;exact⟨ai _,am d⟩;have:=aI e k i;omega
def MV.stays{T:fN}(m:MV a b o X f)(g:J T f B)(d:∀k,T k->¬X k/\(k=b\/G (H a)<=k)):MV a b o X B:=by
 obtain⟨l,i,j,c⟩:=m.ex;exact⟨⟨l,i.ay g<|λh=>(d _ h).1<|(c _).2<|.inl rfl,g.own j<|λk e h=>(d k h).1<|(c k).2<|.inr e,c⟩,m.ay.trans g<|λk e=>(d k e).2⟩
def Gt(bh:fP)(hb:er a b (.map<|M c) 108)(hm:jJ a c bh)(ba:xy bh o)(hl:z o<=1000000):cA bG 189 #[aG,.func (.func 131) #[] #[aA b]] a λbs w'=>
 ∃c,∃an:eP,bs=aP c/\an.Perm o/\w'.ownsRow (G<|H a) 103 1 c (z an) (an.map<|Value.int .u64)/\J (λk=>k=b) a w':=by
 obtain⟨i0,av,bb,bc,bd⟩:=cL PW
 have bk:=am hb
 have T:=hm.lt
 refine(di (n:=3)).1 ?_
 refine callsIn_of_wp_marks func189 rfl trivial ?_ rfl
 simp only[ntmps189,eZ,aC,cS,Nat.reduceAdd,Nat.reduceSub,eh,dZ,fa,eE,cJ,cC]
 gi_wp2
 obtain⟨C,r⟩:∃C,cF a (aw #[aG] 122)=C:=⟨_,rfl⟩
 have bn:G (H C)=G (H a)+1:=by rw[<-r];simp
 have A:J az a C:=by rw[<-r];exact(cI az a)
 have hA0:MV a b [] (λk=>k=G (H a)) C:=⟨⟨aG,by rw[<-r];exact aE _ rfl,bN _ _ _ _,λk=>by simp[bY]⟩,A.mono cN⟩
 rw[r]
 refine xu (m:=3) (arg:=Xk) (V:=AP) (n0:=G<|H a) (gf:=131) (lb:=#[aA b]) (pp:=λan=>∃br,(an++br).Perm o) (ff:=λan=>an.Perm o) (S:=λk=>k=b) (λ_ h=>.inr<|.inr h) ?geval (enters_of func131 (by kernel_rfl) rfl) (λ_=>rfl) (Iy (G<|H a) 2 b c bh o C (hb.ay A id) (hm.dq<|A.block _ T id) ba T<|by omega) trivial (by omega) (λk e=>by omega) (λd K al=>MV a b d K al) (λ_ _ _ _=>False) _ hA0 (λk e s=>by omega) (λd K al j=>j.lt) ?st (λ_ _ _ _ _ _ h=>h.elim) ?body ?done ?stop
 case geval=>rfl
 case st=>
  intro d K al i bq j g f;refine j.stays g<|λk e=>⟨(f k e).1,?_⟩;rcases(f k e).2 with s|s|s
  .exact .inl s
  .exact s.elim
  .exact .inr<|by omega
 case stop=>
  intro bg s d K al _ h;exact h.elim
 case body=>
  rintro lr d bf K al bl Q X⟨br,u⟩j _;have bm:z d+1<=1000000:=by have:=u.length_eq;simp at this;omega
  unfold Xk;simp only;have HA:=Z j;clear j u;gi_wp2;refine⟨J.refl _ _,λD g=>?_⟩;have hA2:=HA.stays g (λk e=>by subst e;exact⟨Q,.inr<|by omega⟩);obtain⟨pv,B,w,P⟩:=hA2.ex;obtain⟨F,E,x⟩:=aB w;have z0:=B.cell;have bo:=am B;have W:lr<G (H D):=ag X g.size;have bi:=g.size;obtain⟨HV,O,L,ao,au⟩:=jX B w P g hA2.ay;clear B w P g hA2;subst x;have HX:=Z (show∀(l:aa)(p:I),p.ownsRow (G (H a)+1) 103 1 l (z d+1) (d.map (Value.int .u64)++[aL bf])->eY (cF D<|aw #[aL bf] 103) p (ah F (z d) E) l->(aS p (U (G<|H a) 0)=M (ah F (z d) E)/\p.frozen? (U (G<|H a) 0)=bF)/\Bv AP (λd K al=>MV a b d K al) (λ_ _ _ _=>False) (d++[bf]) K al D lr .normal ⟨#[],[]⟩ (ct p (U (G<|H a) 0) l)fromλl p f i=>by
   have ac:=(J.refl az D).alloc<|aw #[aL bf] 103;have ad:=J.fH i;have ax:¬(bY (ah F (z d) E)=M (G<|H a)):=λs=>by have:=(O.lt _ s).1;omega
   have v:er p (G<|H a) (ah F (z d) E) 122:=(HV.ay ac id).ay ad ax;have y:J K D (ct p (U (G<|H a) 0) l):=((ac.mono (T:=K) cN).trans (ad.mono (T:=K)<|λk e=>.inl<|(L k).2<|.inr e)<|λk e=>.inl e).setCell _ 0 _<|.inl<|(L _).2<|.inl rfl;refine⟨⟨v.cell,v.free⟩,trivial,λk=>k=G (H a)\/bY l=M k,⟨⟨l,v.set l,?_,λk=>ru⟩,au.trans y<|λk e=>.inr (by rcases(L k).1 e with s|s;omega;have:=(O.lt _ s).1;omega)⟩,(ao.mono<|λk e=>.inl<|.inr e).trans y<|λk e=>.inl<|.inl e,y.block lr W Q,λk e=>?_⟩
   .rw[af,aQ];exact(rH _ _ 0 _).own f (λk e s=>by have:=(aI f k e).1;omega)
   .rcases e with s|s
    .exact .inl<|(L k).2<|.inl s
    .rcases i.uq with q|⟨bp,q,hy⟩
     .exact .inl<|(L k).2<|.inr<|q▸s
     .rw[q]at s;cases s;exact .inr (by simp at hy;omega))
  gi_wp2_with(first
   |(gi_at_builtin;refine ez _ rfl (.tmp 8) (.tmp 10) 122 rfl (G (H a)+1) 103 i0 (.int .u64 0) 1 8 underlying122 av bb bc bd rfl (by decide) (.slice F (z d) E) (z d) (d.map (Value.int .u64)) rfl (aU O _) (U (G (H D)) 0) 1 1 [.int .u64 bf] rfl rfl (pX _ _ _) (by simp[Value.oneCell']) (by omega) (by omega) (by simp;omega) ?_;intro l p f i;obtain⟨⟨y0,y1⟩,t⟩:=HX l p f i;obtain⟨x6,c6,rfl⟩:=aB f;have N:=Z t;clear f i t))
  exact N
 case done=>
  intro an bg K al f y j l _ t;obtain⟨pv,B,w,P⟩:=j.ex;obtain⟨F,E,x⟩:=aB w;have z0:=B.cell;have p:bY pv≠M bg:=λq=>l<|(P bg).2<|.inr q;obtain⟨O,u,v,i⟩:=gD w t j.ay f;have D:=am t;clear j B w P t f;subst x;gi_wp2;have g:=gH al bg<|.deferred none;refine⟨by simp,.inl ⟨_,_,rfl,run_takeDeferred u,?_⟩⟩;refine⟨_,gy rfl _ _ _,?_⟩;exact⟨_,an,rfl,i,eM (g.own O<|λk e q=>p (by rw[<-q];exact e)) (by omega),v.trans g<|λk e=>.inr (by subst e;omega)⟩
def JM(m:fP)(n:er a b (.map<|M c) 108)(q:jJ a c m)(f:xy m o)(p:z o<=1000000):cA bG 129 #[.func (.func 131) #[] #[aA b]] a λr k=>
 ∃g,∃l:eP,r=aP g/\l.Perm o/\k.ownsRow (G<|H a) 103 1 g (z l) (l.map<|Value.int .u64)/\J (λd=>d=b) a k:=by
 have h:=Gt m n q f p
 go_in
 go_wp2_with fail
 apply h.mono
 rintro r u⟨g,l,rfl,i,e,j⟩
 obtain⟨t,s,rfl⟩:=aB e
 have d:=Z<|And.intro i (And.intro e j)
 clear i e j
 go_wp2
 go_ret
 exact⟨_,l,rfl,d.1,d.2.1,d.2.2⟩
end
def bM.Xy{s:SR}(h:bM a b s m)(c:Bool):bM (ct a (U b 20)<|aO c) b {s with kC:=c} m:=by
 have:=aT (i:=20) (u:=aO c) h;exact this
def bM.Xx{s:SR}(h:bM a b s m)(c:Bool):bM (ct a (U b 21)<|aO c) b {s with kB:=c} m:=by
 have:=aT (i:=21) (u:=aO c) h;exact this
structure gq(w w':I)(db sb:R)(K K':DK):Prop where
 ok:cU w' db K'
 ay:J (λk=>K.bw db k\/k=sb) w w'
 bw:∀k,K'.bw db k->K.bw db k\/G (H w)<=k
def gq.of{b sbqq:R}(h:rW a f b j N):gq a f b sbqq j N:=⟨h.ok,h.ay.mono<|λ_ c=>.inl<|.inl c,h.bw⟩
def gq.refl{b sbqq:R}(h:cU a b j):gq a a b sbqq j j:=⟨h,J.refl _ _,λ_ c=>.inl c⟩
def gq.trans{w w' d:I}{a:DK}(i:gq w w' c g j N)(k:gq w' d c g N a):gq w d c g j a:=⟨k.ok,i.ay.trans k.ay<|λx h=>h.elim (λe=>(i.bw x e).imp .inl id)<|λe=>.inl<|.inr e,λx h=>(k.bw x h).elim (λe=>i.bw x e)<|λe=>.inr<|aF i.ay.size e⟩
def gq.set(h:gq a f b c j N)(e:¬N.bw b c)(i:R)(v:aa):gq a (ct f (U c i) v) b c j N:=by
 have d:J (λk=>k=c) f (ct f (U c i) v):=(J.refl _ f).setCell c i v<|.inl rfl;exact⟨h.ok.ay d<|λk c f=>e<|f▸c,h.ay.trans d<|λk c=>.inl<|.inr c,h.bw⟩
def rW.Av(h:rW a f b j N)(d:¬j.bw b c)(g:c<G (H a)):¬N.bw b c:=λe=>(h.bw c e).elim d<|λi=>by omega
def Az{s:SR}(h:bM a b s m)(hd:cU a s.aN j)(hn:¬j.bw s.aN b)(hp:Pow a)(hl:s.log<18446744073709551616)(hf:s.kC=bX->∃bs,ew (vw j.files) (iU s.log)=M bs/\z bs<=1000000000000)(hm:z j.eU<=1000000000000):cA bG 53 #[aA b] a λbg w'=>bg=aP .nilIface/\∃y,gq a w' s.aN b j y/\vw y.files=vw j.files/\z y.eU<=z j.eU/\bM w' b {s with kC:=bF,kB:=bF} m:=by
 have C:=am h;have ax:∀bh D,cU bh s.aN D->vw D.files=vw j.files->s.kC=bX->cA bG 90 #[aA s.aN,aj<|iU s.log] bh λbg w'=>bg=aP .nilIface/\∃y,rW bh w' s.aN D y/\vw y.files=vw j.files/\y.eU=D.eU:=by intro bh D hW q g;obtain⟨bs,l,w⟩:=hf g;rw[<-q]at l;obtain⟨F,hF,c⟩:=jz l;refine(PD (iU s.log) F hW hF (by rw[c];omega)).mono ?_;rintro bg w'⟨rfl,y,d,e,p⟩;refine⟨rfl,y,d,?_,p⟩;rw[e,DC];simp only[c,(kN hF).1];rw[BM l,q]
 have av:∀bh D,cU bh s.aN D->z D.eU<=z j.eU->cA bG 92 #[aA s.aN] bh λbg w'=>bg=aP .nilIface/\∃y,rW bh w' s.aN D y/\y.files=D.files/\y.eU=[]:=λbh D hW a=>Co hW (by omega);obtain⟨au,ao,HP,al,HB⟩:=jX ax av hp hd h;have c2:=bM.cellAt h 2 rfl;have A:=bM.cellAt h 17 rfl;have an:=bM.cellAt h 20 rfl;have B:=bM.cellAt h 21 rfl;clear ax av hp hd h hf;cases g:s.kC with
 |false=>
  rw[g]at an;cases hln:s.kB with
  |false=>
   rw[hln]at B;have r:=HB;obtain⟨k,t,u⟩:=dI (gq.refl (sbqq:=b) al) (ai<|z j.eU) hn;go_in
   go_wp2;go_ret;refine⟨rfl,j,k,rfl,t,?_⟩;have x:=ae r;unfold bM SR.cells at x|-;simp only[g,hln]at x|-;exact x
  |true=>
   rw[hln]at B;have r:=HB;obtain⟨k,t,u⟩:=dI (gq.refl (sbqq:=b) al) (ai<|z j.eU) hn;go_in
   have Q:=ao a j k.ok t;go_wp2_with fail
   apply Q.mono;rintro bg w8⟨rfl,K8,o,V,X⟩;have f:=o.Av u<|ag C k.ay.size;have n:bM w8 b _ m:=r.ay o.ay u;have bl:aS w8 (U b 21)=M (aO bX):=n.cell (by rw[<-hln];rfl);have bo:w8.frozen? (U b 21)=bF:=n.free;obtain⟨bb,ba,bc,bd⟩:=gD ((k.trans<|gq.of o).set f 21<|aO bF) (n.Xx bF) V X;clear o V X f n Q;go_wp2;go_ret;refine⟨rfl,K8,bb,by rw[ae bc],by rw[ae bd];exact bB _,?_⟩;have x:=ae ba;unfold bM SR.cells at x|-;simp only[g]at x|-;exact x
 |true=>
  rw[g]at an;cases hln:s.kB with
  |false=>
   rw[hln]at B;have hS:aS a.drew (U b 2)=M (aA s.aN)/\aS a.drew (U b 17)=M (aL s.log):=⟨c2,A⟩;go_in
   go_wp2_with fail
   rename_i QQ KK L;refine cz (λw=>aS w (U b 2)=M (aA s.aN)/\aS w (U b 17)=M (aL s.log)) 10 (by kernel_rfl) ?_;refine cY 0 ?_;iterate 8 (refine eJ (v:=?_) hS rfl (by kernel_rfl) iV rfl ?_ ?_;rotate_left;(focus(intro w hX;obtain⟨z0,z1⟩:=hX;go_simp;try rfl));simp only[Act.put,dG,Nat.reduceAdd])
   apply eA;refine aM (i:=8) rfl rfl (by kernel_rfl) ?_;intro K8 F;go_simp;apply(wg s.log hl<|HP.ay (cg az a) id).mono;rintro bg w1⟨rfl,P⟩;have c:J az a w1:=(cg az a).cw<|J.aV (S:=az) P;have N:aS w1 (U b 2)=M (aA s.aN)/\aS w1 (U b 17)=M (aL s.log):=⟨c.cell c2 id C,c.cell A id C⟩;have ac:=au w1 j (al.ay c<|λ_ _=>id) rfl g;refine F _ _ (λ_=>N) ?_;refine aM (i:=9) rfl rfl (by kernel_rfl) ?_;intro K9 K;go_simp;apply ac.mono;rintro bg q⟨rfl,K2,e,ad,W⟩;have bp:=c.size;have d:bM q b s m:=(HB.ay c id).ay e.ay hn;have O:aS q (U b 2)=M (aA s.aN)/\aS q (U b 17)=M (aL s.log):=⟨d.cell rfl,d.cell rfl⟩;refine K _ _ (λ_=>O) ?_;refine aM (i:=10) rfl rfl (by kernel_rfl) ?_;intro bi p;go_simp;refine p _ _ wH ?_;refine cX (by kernel_rfl) ?_ _;show KK _ _;apply L;have f:=e.Av hn (by omega);have E:rW a q s.aN j K2:=⟨e.ok,(c.mono (T:=j.bw s.aN) cN).trans e.ay<|λ_ h=>.inl h,λD y=>(e.bw D y).imp id<|λav=>by omega⟩;have bk:aS q (U b 20)=M (aO bX):=d.cell (by rw[<-g];rfl);have bn:q.frozen? (U b 20)=bF:=d.free;have l:=d.Xy bF;have bm:aS (ct q (U b 20)<|aO bF) (U b 21)=M (aO bF):=l.cell (by rw[<-hln];rfl);have e2:=bM.cellAt l 2 rfl;obtain⟨r,k,bf,t,u⟩:=jX l ((gq.of (sbqq:=b) E).set f 20<|aO bF) ad (show z K2.eU<=z j.eU by rw[W];exact ai _) f;clear L F K p hS N O ac e ad W d l f E c P c2 A an B;go_wp2;go_ret;refine⟨rfl,K2,k,bf,t,?_⟩;have x:=ae r;unfold bM SR.cells at x|-;simp only[g,hln]at x|-;exact x
  |true=>
   rw[hln]at B;have hS:aS a.drew (U b 2)=M (aA s.aN)/\aS a.drew (U b 17)=M (aL s.log):=⟨c2,A⟩;go_in
   go_wp2_with fail
   rename_i QQ KK L;refine cz (λw=>aS w (U b 2)=M (aA s.aN)/\aS w (U b 17)=M (aL s.log)) 10 (by kernel_rfl) ?_;refine cY 0 ?_;iterate 8 (refine eJ (v:=?_) hS rfl (by kernel_rfl) iV rfl ?_ ?_;rotate_left;(focus(intro w hX;obtain⟨z0,z1⟩:=hX;go_simp;try rfl));simp only[Act.put,dG,Nat.reduceAdd])
   apply eA;refine aM (i:=8) rfl rfl (by kernel_rfl) ?_;intro K8 F;go_simp;apply(wg s.log hl<|HP.ay (cg az a) id).mono;rintro bg w1⟨rfl,P⟩;have c:J az a w1:=(cg az a).cw<|J.aV (S:=az) P;have N:aS w1 (U b 2)=M (aA s.aN)/\aS w1 (U b 17)=M (aL s.log):=⟨c.cell c2 id C,c.cell A id C⟩;have ac:=au w1 j (al.ay c<|λ_ _=>id) rfl g;refine F _ _ (λ_=>N) ?_;refine aM (i:=9) rfl rfl (by kernel_rfl) ?_;intro K9 K;go_simp;apply ac.mono;rintro bg q⟨rfl,K2,e,ad,W⟩;have bp:=c.size;have d:bM q b s m:=(HB.ay c id).ay e.ay hn;have O:aS q (U b 2)=M (aA s.aN)/\aS q (U b 17)=M (aL s.log):=⟨d.cell rfl,d.cell rfl⟩;refine K _ _ (λ_=>O) ?_;refine aM (i:=10) rfl rfl (by kernel_rfl) ?_;intro bi p;go_simp;refine p _ _ wH ?_;refine cX (by kernel_rfl) ?_ _;show KK _ _;apply L;have f:=e.Av hn (by omega);have E:rW a q s.aN j K2:=⟨e.ok,(c.mono (T:=j.bw s.aN) cN).trans e.ay<|λ_ h=>.inl h,λD y=>(e.bw D y).imp id<|λav=>by omega⟩;have bk:aS q (U b 20)=M (aO bX):=d.cell (by rw[<-g];rfl);have bn:q.frozen? (U b 20)=bF:=d.free;have l:=d.Xy bF;have bm:aS (ct q (U b 20)<|aO bF) (U b 21)=M (aO bX):=l.cell (by rw[<-hln];rfl);have e2:=bM.cellAt l 2 rfl;obtain⟨r,k,bf,t,u⟩:=jX l ((gq.of (sbqq:=b) E).set f 20<|aO bF) ad (show z K2.eU<=z j.eU by rw[W];exact ai _) f;clear L F K p hS N O ac e ad W d l f E c P c2 A an B;have Q:=ao (ct q (U b 20)<|aO bF) K2 k.ok t;go_wp2_with fail
   apply Q.mono;rintro bg w8⟨rfl,K8,o,V,X⟩;have f:=o.Av u<|ag C k.ay.size;have n:bM w8 b _ m:=r.ay o.ay u;have bl:aS w8 (U b 21)=M (aO bX):=n.cell (by rw[<-hln];rfl);have bo:w8.frozen? (U b 21)=bF:=n.free;obtain⟨bb,ba,bc,bd⟩:=gD ((k.trans<|gq.of o).set f 21<|aO bF) (n.Xx bF) V X;clear o V X f n Q;go_wp2;go_ret;refine⟨rfl,K8,bb,by rw[ae bc];exact bf,by rw[ae bd];exact bB _,?_⟩;have x:=ae ba;unfold bM SR.cells at x|-;simp only[g]at x|-;exact x
section
open Go.Conc.Locks
def SR.shut(s:SR):SR:={s with closed:=bX,memory:=aG,l0:=aG,l1:=aG,l2:=aG,l3:=aG,mj:=none}
def VD(h:bM a b n 0)(e:n.closed=bX):cA bG 22 #[aA b] a λk d=>k=aP (lC 6)/\bM d b n 0/\J (λo=>o=b) a d:=by
 have i:=bM.cellAt h 0 rfl;have l:a.frozen? (U b 0)=bF:=h.free;have c:=h.gK 1;have c5:aS (ct a (U b 0)<|jo 1) (U b 5)=M (aO bX):=c.cell (by rw[<-e];rfl);have j:=bM.cellAt c 0 rfl;have m:(ct a (U b 0)<|jo 1).frozen? (U b 0)=bF:=c.free;have g:=Z<|show bM (ct (ct a (U b 0)<|jo 1) (U b 0)<|jo 0) b n 0/\J (λo=>o=b) a (ct (ct a (U b 0)<|jo 1) (U b 0)<|jo 0)from⟨c.gK 0,(ij b a).setCell b 0 _<|.inl rfl⟩;clear h c e;go_enter_defers func22,ntmps22
 go_wp2_with(go_at_call 39;refine(lock_free (U b 0) _ i l).mono ?_;rintro k d⟨rfl,rfl⟩)
 refine eR (f:=40) (args:=#[aA b]) (by simp) (by simp[go_sem]) ?_;apply(unlock_deferred (U b 0) .returning _ j m).mono;rintro k q p⟨rfl,rfl,rfl⟩;exact⟨_,gy rfl _ _ _,rfl,g⟩
def SU(h:bM a b n 0)(hc:n.closed=bF)(ac:∃B y o,n.memory=ah B y o)(Q:∃B y o,n.l0=ah B y o)(S:∃B y o,n.l1=ah B y o)(T:∃B y o,n.l2=ah B y o)(V:∃B y o,n.l3=ah B y o)(X:cU a n.aN j)(t:¬j.bw n.aN b)(hp:Pow a)(al:b≠2)(hl:n.log<18446744073709551616)(hf:n.kC=bX->∃bs,ew (vw j.files) (iU n.log)=M bs/\z bs<=1000000000000)(hm:z j.eU<=1000000000000):cA bG 22 #[aA b] a λx A=>x=aP .nilIface/\∃m,gq a A n.aN b j m/\vw m.files=vw j.files/\z m.eU<=z j.eU/\bM A b {n.shut with kC:=bF,kB:=bF} 0:=by
 have c0:=bM.cellAt h 0 rfl;have f0:a.frozen? (U b 0)=bF:=h.free;obtain⟨d,g⟩:∃d,ct a (U b 0) (jo 1)=d:=⟨_,rfl⟩;have c:bM d b n 1:=by rw[<-g];exact h.gK 1
 have v:J (λao=>ao=b) a d:=by rw[<-g];exact(ij b a)
 have c5:aS d (U b 5)=M (aO bF):=c.cell (by rw[<-hc];rfl);have c6:=bM.cellAt c 6 rfl;have c7:=bM.cellAt c 7 rfl;have L:=bM.cellAt c 10 rfl;have N:=bM.cellAt c 11 rfl;have O:=bM.cellAt c 12 rfl;have P:=bM.cellAt c 13 rfl;have au:=bM.cellAt c 16 rfl;have bc:d.frozen? (U b 16)=bF:=c.free;have g5:d.frozen? (U b 5)=bF:=c.free;have g7:d.frozen? (U b 7)=bF:=c.free;have av:d.frozen? (U b 10)=bF:=c.free;have ax:d.frozen? (U b 11)=bF:=c.free;have ba:d.frozen? (U b 12)=bF:=c.free;have bb:d.frozen? (U b 13)=bF:=c.free;obtain⟨q,k⟩:∃q,ct (ct (ct (ct (ct (ct (ct d (U b 5)<|aO bX) (U b 7) aG) (U b 10) aG) (U b 11) aG) (U b 12) aG) (U b 13) aG) (U b 16) (.map none)=q:=⟨_,rfl⟩;have W:bM q b n.shut 1:=by have hh:=aT (i:=16) (u:=.map none)<|aT (i:=13) (u:=aG)<|aT (i:=12) (u:=aG)<|aT (i:=11) (u:=aG)<|aT (i:=10) (u:=aG)<|aT (i:=7) (u:=aG)<|aT (i:=5) (u:=aO bX) c;rw[k]at hh;exact hh
 have e:J (λao=>ao=b) a q:=by rw[<-k];exact((((((v.setCell b 5 _<|.inl rfl).setCell b 7 _<|.inl rfl).setCell b 10 _<|.inl rfl).setCell b 11 _<|.inl rfl).setCell b 12 _<|.inl rfl).setCell b 13 _<|.inl rfl).setCell b 16 _<|.inl rfl
 have s:=Az W (X.ay e<|λao hk x=>t<|x▸hk) t (hp.ay e<|λx=>al x.symm) hl hf hm;obtain⟨D,C,E,F,K⟩:=jX W (X.ay e<|λao hk x=>t<|x▸hk) e g k;obtain⟨mx,mn,mc,em⟩:=ac;obtain⟨bi,bh,bg,ea⟩:=Q;obtain⟨bx,bn,bk,eb⟩:=S;obtain⟨cx,cn,cc,ec⟩:=T;obtain⟨dx,dn,dc,ed⟩:=V;rw[em]at c7;rw[ea]at L;rw[eb]at N;rw[ec]at O;rw[ed]at P;clear h c v hc X hp hf W e g k em ea eb ec ed;go_enter_defers func22,ntmps22
 go_wp2_with fail
 apply(lock_free (U b 0) _ c0 f0).mono;rintro x A⟨rfl,an⟩;rw[ae F]at an;subst A;go_wp2_with fail
 rw[ae K];apply s.mono;rintro x w2⟨rfl,K2,p,w,r,l⟩;have d0:=bM.cellAt l 0 rfl;have k0:w2.frozen? (U b 0)=bF:=l.free;have HF:=Z (show∃m,gq a (ct w2 (U b 0)<|jo 0) n.aN b j m/\vw m.files=vw j.files/\z m.eU<=z j.eU/\bM (ct w2 (U b 0)<|jo 0) b {n.shut with kC:=bF,kB:=bF} 0 from by have bd:=am D;have ad:¬K2.bw n.aN b:=λo=>(p.bw b o).elim t (λd=>by omega);have h0:gq a q n.aN b j j:=⟨C,E.mono<|λ_ o=>.inl<|.inr o,λ_ o=>.inl o⟩;exact⟨K2,(h0.trans p).set ad 0<|jo 0,w,r,l.gK 0⟩);clear s l p w r t;go_wp2;refine eR (f:=40) (args:=#[aA b]) (by simp) (by simp[go_sem]) ?_;apply(unlock_deferred (U b 0) .returning _ d0 k0).mono;rintro x u' bf⟨rfl,rfl,rfl⟩;exact⟨_,gy rfl _ _ _,rfl,HF⟩
end
def vz(a:Fs)(b:cD ab):Fs:=b.foldl vA a
def JG{a:Fs}(h:W≠v):ew (vA a v) W=ew a W:=by
 induction a with
 |nil=>rfl
 |cons g r d=>
  obtain⟨c,f⟩:=g;by_cases e:c=v
  .simp only[vA,e,iO,ew];rw[dh<|λc=>h c.symm]
  .by_cases b:c=W
   .subst b;simp only[vA,dh h,ew,iO]
   .simp only[vA,dh e,ew,dh b,d]
def OS(a:Fs)(b:cD ab)(n:ab):vz a (b++[n])=vA (vz a b) n:=by simp[vz]
def tG{a:Fs}{b:cD ab}(h:v∉b):ew (vz a b) v=ew a v:=by
 induction b generalizing a with
 |nil=>rfl
 |cons n r d=>
  show ew (vz (vA a n) r) v=ew a v;rw[d (λc=>h<|by simp[c]),JG<|λc=>h<|by simp[c]]
def Eg{K:DK}(ax:aa)(c:cD ab)(h:bM a b n m)(A:cU a n.aN K)(V:¬K.bw n.aN b)(hr:Row a 1 ax (z c) (c.map Value.string))(W:∀av,bY ax=M av->av<G (H a)/\¬K.bw n.aN av)(l:c.Nodup)(o:∀bf∈c,∃T,ew (vw K.files) bf=M T)(hm:z K.eU+z c<=1000000000000):cA bG 100 #[aA b,ax] a λbb w'=>bb=aP .nilIface/\∃Q,rW a w' n.aN K Q/\vw Q.files=vz (vw K.files) c/\z Q.eU=z K.eU+z c:=by
 have au:=am h;rcases hr with⟨x,⟨rfl,X⟩|⟨ba,p,ad,rfl,an,hc⟩⟩;(.obtain rfl:=aR X;have q:=Z<|rW.refl A;clear h A V W l o x X;(go_in);go_wp2;(go_loopw [10] (λB wr=>B=aq 0/\wr=a) (λ_ _=>0));(case atStart=>exact⟨rfl,rfl⟩);(case round=>obtain⟨rfl,d⟩:=hrel;subst wr;go_wp2;go_ret;exact⟨rfl,K,q,rfl,rfl⟩));(.have hb:=W ba rfl;obtain⟨HB,HC,HN,N,O,C⟩:=kD h hc V l o<|rW.refl A;clear h A V W l o x hc;(go_in);go_wp2;(go_loopw [10] (λB wr=>∃(f:R)(j:DK),f<=z c/\B=aq f/\rW a wr n.aN K j/\vw j.files=vz (vw K.files) (c.take f)/\z j.eU=z K.eU+f) (λB _=>z c-(intOf B).toNat));(case atStart=>exact⟨0,K,bB _,rfl,C,rfl,rfl⟩);(case round=>obtain⟨f,j,ao,rfl,k,d,g⟩:=hrel;by_cases e:f<z c;(.have al:aS wr (U ba<|p+f)=M (aj c[f]):=k.ay.cell (HC f _ (by rw[dD,aK e];rfl)) hb.2 hb.1;have s:=HB.ay k.ay HN;have c2:=bM.cellAt s 2 rfl;(have i:c[f]∉c.take f:=by intro bd;obtain⟨B,hi,he⟩:=dY bd;(have v:B<f/\B<z c:=by simp at hi;omega);rw[gB]at he;have:=(List.nodup_iff_pairwise_ne.1 N);exact cG.1 this B f v.2 e v.1 he);obtain⟨T,r⟩:=O _<|ar e;(have hg:ew (vw j.files) c[f]=M T:=by rw[d,tG i];exact r);obtain⟨bc,hF,_⟩:=jz hg;have y:=NU c[f] bc k.ok hF (by omega);obtain⟨P,q,L⟩:=dI (show vz (vw K.files) (c.take<|f+1)=vA (vw j.files) c[f]by rw[ak e,OS,d]) k g;clear k d g s i hg hF r;generalize c[f]=ac at*;(go_wp2_with fail);apply y.mono;rintro bb w1⟨rfl,S,t,u,w⟩;obtain⟨D,E,F⟩:=dI (q.trans t) (show vw S.files=vz (vw K.files) (c.take<|f+1)by rw[ae P,u,Tr]) (show z S.eU=z K.eU+(f+1)by rw[w,ae L];omega);clear t u w y;go_wp2;go_roundw;(case rel=>exact⟨f+1,S,e,by go_num,D,E,F⟩);case measure=>simp[intOf];omega);(have i:f=z c:=by omega);subst i;rw[bP]at d;obtain⟨q,s,r⟩:=dI k d g;clear k d g;go_wp2;go_ret;exact⟨rfl,j,q,s,r⟩))
