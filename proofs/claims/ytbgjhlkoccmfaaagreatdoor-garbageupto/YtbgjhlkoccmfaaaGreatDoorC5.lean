import Derived.Ground.MpProg
import Derived.Shelf.Pu.Clone
import Derived.Test.YtbgjhlkoccmfaaaGreatDoorC4
open _root_ renaming List.length→y,Option.some→M,Array.size→G,Go.World.heap→H,Go.Value.ownBlock→cN,Go.World.cell?→bA,Go.World.setCell→cP,Go.World.alloc→dw,Bool.false→bD,Bool.true→cz,Nat→R,Int→Y,List→cy,Go.Calls→cR,Go.undef→jm,Go.Proofs.Tryz.prog→bN,Go.Value.slice→am,Go.Value.string→aw,Go.Value.bool→aO,Go.Value.pointer→ee,Go.Value.tuple→de,Go.Value.agg→ef,Go.World.frozen?→iH,Go.World.ownsRow→fD,Go.Value.nilIface→ib,Go.Act.put→ig,Nat.reduceAdd→jZ,Go.RowKit.Below→gC,Bool→eN,Option.none→dE,rfl→z,Or.inl→J,Or.inr→bj
namespace Go.Proofs.YtbgjhlkoccmfaaaGreatDoor
open ChangeShapes WideShapes RowKit Proofs.Tryz List
set_option maxHeartbeats 16000000
set_option linter.all false
set_option maxRecDepth 100000
variable{a e P:Z}{b c k n:R}{d w:ae}{f x:DK}{i:dB}{l v C F:dI}{m:eD}{o:SR}{W:fB}{r:Y}{s:ju}{B:af}{K:Prop}{L:la}{N:Fs}{O:iF}{Q:iE}{S:E}
def Pz(l:dB):iX ⟨#[]⟩ l=l:=nE.2 (λx _=>by rw[LO];rfl)
def xI(c:ae)(a b:dI):cy (ae×dB):=(.iface 106 c,gy b)::a.map (λt=>(.iface 235 t.D,t.dq))
def yz(d:eD)(a:eN)(b c:dI):dB:=uy d a<|gy c::b.map cH.dq
def H7(w:Z)(x:ae)(T:TypeId):fD (dw w<|aK #[x] T) (G<|H w) T 1 (bX (G<|H w) 0 1 1) 1 [x]:=⟨z,bj ⟨G<|H w,1,#[x],z,aq _,aQ _ z,aq _,by unfold maxLen;omega,z,z⟩⟩
structure MV(W wr:Z)(base:R)(o:ae)(ps:iF)(n:R)(tm:dI):Prop where
 aZ:fD wr base 235 1 o n (tm.map cH.D)
 dL:y tm=n
 dq:tm.map cH.dq=ps.take n
 bZ:sD wr base tm
 aA:I aC W wr
def MV.DB{W wr w1 w2:Z}{o o2:ae}{g:iF}{p a q d:R}{u:Obj}(h:MV W wr c o O k v)(F:k<y O)(V:c<=G (H W))(S:∀f,cN o=M f->G (H W)<=f)(i:QA wr w1 n O[k] g p a q d)(ho:fD w2 c 235 1 o2 (k+1) (v.map cH.D++[aJ n]))(t:fm (dw w1 u) w2 o o2):∃w,MV W w2 c o2 O (k+1) w/\∀f,cN o2=M f->G (H W)<=f:=by
 have K:=h.aA.D;have L:=i.aA.D;have C:I (λf=>cN o=M f) wr w2:=((i.aA.aT (T:=λf=>cN o=M f) cY).aE u).aj (I.fU t)<|λ_ e=>J e;have m:∀f,cN o=M f->∃g,wr.heap[f]?=M (aK g 235 (0,0)):=λf e=>fZ h.aZ e;have s:I (λf=>cN o=M f) w1 w2:=((I.bI (λf=>cN o=M f) w1).aE u).aj (I.fU t)<|λ_ e=>J e;refine⟨v++[⟨n,dK 0 g,g,0⟩],⟨?_,by rw[ai,h.dL];rfl,?_,?_,h.aA.aj C aI⟩,?_⟩;rwa[bz];rw[bz,h.dq,aG F];show _++[g.flatten]=_;rw[i.f.p];let⟨P,D,x,E⟩:=h.bZ;have A:NT.Ok w1 (G<|H wr) ⟨⟨n,dK 0 g,g,0⟩,p,a,q,d⟩:=⟨z,z,by have:=i.f;rwa[<-this.p]at this,i.D,i.A,i.L,i.lX⟩;refine⟨P++[⟨⟨n,dK 0 g,g,0⟩,p,a,q,d⟩],by rw[bz,D];rfl,λN j=>?_,IN E<|λN j f e r=>?_⟩;obtain j|j:=aP.1 j;exact Xg.dN (x N j) C<|λf e=>aI;rw[bY]at j;subst j;refine Xg.dN (NT.Ok.pO A U) s<|λf e=>?_;let⟨Q,B⟩:=m f e;exact⟨Q,_,_,(i.aA.A f (az B) id).trans B,cg,cg,cg⟩;have:=((x N j).lt f e).2;have:=(A.lt f r).1;omega;intro f e;obtain r|⟨x,r,j⟩:=t.f;(grind);rw[r]at e;cases e;simp at j;omega
def wL(h:lF a d i)(hs:gF i)(l:sk 5 i)(hg:∀ba∈i,ba.Good)(hl:y i<=3000000000)(hv:∀D,cN d=M D->D<G (H a))(hT:Steps a):cR bN 199 #[d] a λax x=>∃vm,∃g:dI,ax=aN vm/\fD x (G<|H a) 235 1 vm (y g) (g.map cH.D)/\g.map cH.dq=jp i/\sD x (G<|H a) g/\I aC a x:=by
 let⟨j0,S,al,an,ao⟩:=cZ yD;have v:=UT h hs hl hv;let⟨ba,av,ac⟩:=cG h
 have E:=ak (show∀n(A:n<y (jp i))(wr:Z),I aC a wr->∃C b f,(qm d 0<|jp i)[n]?=M (bX C b (y (jp i)[n]) f)/\cR bN 131 #[bX C b (y (jp i)[n]) f] wr λax x=>∃B cs bb c db e,ax=aN (aJ B)/\QA wr x B (jp i)[n] cs bb c db e from by
  intro n A wr Q;have u:(jp i)[n]∈jp i:=aB A;have s:=GL i _ u;have F:=Vt h (yq i) A s;let⟨C,b,f,t,L⟩:=F.Gg aI;have r:C<G (H a):=by
   let⟨V,o0,W,k,_⟩:=h.Gg<|gV ((DR u).length_le)<|iZ.2 s;subst k;unfold By at t;cases t;exact hv _ z
  rw[t]at F;refine⟨C,b,f,by rw[JB d 0 (jp i) n A,t],?_⟩;obtain⟨_,⟨q,_⟩|⟨b',w,j,q,_,hc⟩⟩:=id F
  .cases q
  .cases q;have k:=DR u;exact Gb (jp i)[n] C b f wr (λD T=>Q.u (hT D T) id hT.lt) (au r Q.D) (λj d a=>Q.u (hc j d a) id r) L aI aI (hs.kD k) (λq c=>aR ((l.kD k).Hm q c) U) (bP (JA l _ u)))
 have P:y (jp i)<=3000000000:=aR (zL i) hl;generalize jp i=p at*;have:=ak<|Bf d 0 p;let⟨N,O⟩:∃N,y p=N:=⟨_,rfl⟩;rw[O]at v P;subst ac;go_in
 go_wp21;go_call v as ax K⟨pv,rfl,m,o⟩;obtain⟨px,pc,rfl⟩:=aM m;go_wp2;go_loopw [3,9] (λo i wr=>∃n:R,n<=N/\i=ay n/\∃g,MV K wr (G<|H a) o p n g/\∀D,cN o=M D->G (H K)<=D) (λ_ i _=>N-(intOf i).toNat)
 exact⟨0,bQ _,z,[],⟨ct _ _ _ _,z,z,sD.kj _ _,I.bI _ _⟩,(by intro D T;cases T)⟩
 .obtain⟨n,aD,rfl,g,f,r⟩:=hrel;let⟨ox,oc,ho⟩:=aM f.aZ;by_cases s:n<N
  .let⟨pg,aV,aa,_,ab,_⟩:=vu m U;cases aa;have u:n<y p:=by rwa[O]
   let⟨C,b,j,aU,t⟩:=E n u wr<|o.t f.aA;have:bA wr (X pg n)=M (bX C b (y p[n]) j):=by
    refine f.aA.u ?_ id ab;obtain⟨_,⟨av,_⟩|⟨b',w,L,av,_,hc⟩⟩:=dQ m
    .cases av
    grind
   have:=f.aA.D;have:(n:Y)<(N:Y):=U;have:(0:Y)<=(n:Y):=U;generalize Q:p[n]=pn at*;subst ho;go_wp21;go_call t as ax w4⟨B,cs,bb,c,db,e,rfl,k⟩;have:=k.aA.D;go_wp2_with(first
    |(at_builtin;go_loud(refine cq _ z (.tmp 13) (.tmp 16) 106 z (G (H a)) 235 j0 (.pointer none) 1 8 underlying106 S al an ao z cg (.slice ox n oc) n (g.map cH.D) z (bC (ak (k.aA.aZ f.aZ (λ_ _ av=>av))) _) (X (G (H w4)) 0) 1 1 [aJ B] z z (rE _ _ _) (by simp[Value.oneCell']) U U dW ?_;intro o2 w5 W ad;have A:=ak W;have F:=ak ad)))
   go_roundw
   .have k:=ag<|ak k;rw[<-Q]at k;let⟨ap,L,V⟩:=f.DB u (o.D:G (H a)<=G (H K)) r k A F;exact⟨n+1,s,dM,ap,L,V⟩
   .simp[intOf];omega
  .have k:n=N:=U;subst k;subst ho;go_wp2;go_ret;have f:=ag<|ak f;refine⟨_,g,z,f.dL▸f.aZ,?_,f.bZ,o.t f.aA⟩;rw[f.dq,<-O,cQ]
def GX(n C f D:R)(i:ae)(b c:dI)(h1:∀j(F:j<y b),bA a (X C<|f+j)=M b[j].D)(ao:C<n/\¬s.F C)(an:∀av∈b,nX s n av.tb av.ks av.cs a)(ap:y b<=20000000000)(h2:uD s n i c a)(hD:s.D a)(l:n<=G (H a))(hF:∀x,s.F x->x<n)(hl:y (eL<|gy c::b.map cH.dq)<=3000000000):cR bN 196 #[bX C f (y b) D,i] a λal o=>(∃vm,al=aN (de #[vm,ib])/\fD o (G<|H a) 223 4 vm (y<|eL<|gy c::b.map cH.dq) (bu<|eL<|gy c::b.map cH.dq)/\s.D o/\I s.F a o)\/Es s a o s.F al (λax=>de #[aF,ax]):=by
 let⟨i0,V,ab,ac,ad⟩:=cZ LW;have t:y (xI i b c)=y b+1:=by simp[xI]
 have m:∀wr d,I aC a wr->fD wr (G<|H a) 221 1 d (y b+1) ((xI i b c).map (·.1))->cR bN 148 #[d,aw ⟨#[]⟩] wr λal o=>∃f e,al=aN f/\kw s n f (eL<|gy c::b.map cH.dq) e o/\s.D o/\I s.F wr o/\(∀x,e x->G (H wr)<=x):=by
  intro wr d L w;have k:kZ s n aC a wr:=L.bM l cY cY;have hn:=DI n (xI i b c) d ⟨#[]⟩ (t▸dQ w) (λx v=>⟨(w.lt x v).2,λO=>gV (hF x O)<|(w.lt x v).1⟩) U (by
   intro j F;cases j with
   |zero=>exact(nz.xK h2 l hF).bM k
   |succ j=>
    have r:j<y b:=by rw[t]at F;omega
    have:(xI i b c)[j+1]=(.iface 235 b[j].D,b[j].dq):=by simp[xI]
    rw[this];exact(nz.FB aI l hF).bM k) (s.l hD L cY) (aR l L.D) hF
  rwa[(by simp[xI]:(xI i b c).map (·.2)=gy c::b.map cH.dq),qg (g:=id)<|λl _=>Pz l,we]at hn
 let⟨NL,Q⟩:∃NL,eL (gy c::b.map cH.dq)=NL:=⟨_,rfl⟩;rw[Q]at m hl|-;go_in
 go_wp2;go_loopw [6,14] (λo j wr=>∃p:R,p<=y b/\j=ay p/\fD wr (G<|H a) 221 1 o (p+1) (((xI i b c).take<|p+1).map (·.1))/\I aC a wr) (λ_ j _=>y b-(intOf j).toNat)
 exact⟨0,bQ _,z,H7 _ _ _,(cI _ _)⟩
 .obtain⟨p,hn,rfl,d,e⟩:=hrel;let⟨aU,O,w⟩:=aM d;have:=e.D;have:=d.lt;by_cases K:p<y b
  .have E:=(ak (show∀wr,I aC a wr->∀j(F:j<y b),bA wr (X C<|f+j)=M b[j].D fromλwr L j F=>L.u (h1 j F) id U)) wr e p K;have u:=ak (show((xI i b c).take<|p+1+1).map (·.1)=((xI i b c).take<|p+1).map (·.1)++[.iface 235<|aJ<|b[p].tb]from by
    rw[aG (by rw[t];omega),bz];simp[xI,cH.D])
   unfold cH.D at E;generalize b[p].tb=N at*;subst w;go_wp2_with(first
    |(at_builtin;go_loud(refine cq _ z (.tmp 18) (.tmp 21) 218 z (G (H a)) 221 i0 ib 1 16 underlying218 V ab ac ad z cg (.slice aU (p+1) O) (p+1) (((xI i b c).take (p+1)).map (·.1)) z (bC d _) (X (G (H wr)) 0) 1 1 [.iface 235 (aJ N)] z z (rE _ _ _) (by simp[Value.oneCell']) U U dW ?_;intro P w2 k B;have r:=ak k;have A:=ak B)))
   go_roundw
   .refine⟨p+1,K,dM,ag u▸r,?_⟩;exact(e.aE _).aj (I.fU A) aI
   .simp[intOf];omega
  .have W:p=y b:=U;subst W;rw[fA U]at d;have aa:=m wr u6 e d;subst w;go_wp21;go_call aa as al w1⟨v1,S1,rfl,S,P,N,E⟩;have B:=ak<|e.aT (T:=s.F) cY|>.aj N (λ_ O=>J O);have:=e.D;have:=N.D;go_wp21;go_call(EQ S P U)as al w2(⟨aD,rfl,k,r,u⟩|⟨hX,q,rfl,hq,r,u⟩)
   .obtain⟨rx,rc,rfl⟩:=aM k;have A:=ak<|And.intro (fh (base':=G<|H a) k U) (And.intro r (B.aj u<|λx v=>v.elim (λO=>bj<|bP<|E x O) J));go_wp2;go_ret2
    exact J ⟨_,z,A.1,A.2.1,A.2.2⟩
   .have A:=ak<|show Es s a w2 s.F (aN<|de #[aF,eW q]) (λax=>de #[aF,ax])from⟨hX,q,z,hq,r,B.aj u<|λx v=>v.elim (λO=>bj<|bP<|E x O) J⟩;go_wp2;go_ret2
    exact bj A
def VP(n:R)(w:Z)(t:n<=20000000000):cR bN 192 #[aF,ay n] w λs q=>∃p,s=aN p/\fD q (G<|H w) 235 1 p 0 []/\I aC w q:=by
 let⟨o,j,k,r,e⟩:=cZ yD;have:¬((n:Y)<0):=U;obtain g|g:=fN n;(.subst g;(go_in);go_wp2;go_ret;exact⟨_,z,ct _ _ _ _,I.bI _ _⟩)
 .have b:(Builtin.firstCells o.size 0 aF).run bN w.drew=.ok ([]:iE).toArray w.drew:=rfl;have c:∀l,(Builtin.append_ #[106,3] l #[aF,ay n]).run bN w=_:=λl=>
   Lib.run_append_grow_zeros w 106 3 l 235 o (ee dE) .i64 .i64 underlying106 underlying3 j k dE 0 0 [] b n g U U U (by rw[e];omega) (uS U (by rw[e];omega))
  simp only[ez]at c;have i:n<=grownCap w n 0 235:=grownCap_ge w _ _ _;have a:=uT w n 0 235 (by unfold maxLen;omega);let⟨d,m⟩:∃d,d=grownCap w n 0 235:=⟨_,rfl⟩;rw[<-m]at c i a;have f:=ak<|show fD (dw w<|aK (Builtin.zeroCells #[ee dE] n++Builtin.zeroCells #[ee dE] (d-n)) 235).drew (G<|H w) 235 1 (bX (G<|H w) 0 0 d) 0 []from kr (World.ownsRow_made w _ d (aq _) a (by simp[size_zeroCells];omega)) z;have:d<=9223372036854775807:=by unfold maxLen at a;omega
  clear b m a;go_in
  go_wp2_with(at_builtin;refine Lib.wpList_append_run _ z _ _ _ _ z _ _ z z _ _ (c _) ?_)
  go_ret;exact⟨_,z,f,(cI aC w).df z⟩
def rW(a:cy (ae×dI)):iE:=(a.map<|λp=>p.2.map cH.D).flatten
def nB(a:cy (ae×dI)):R:=(a.map<|λp=>y p.2).sum
def RU(a:cy (ae×dI))(p:ae×dI):rW (a++[p])=rW a++p.2.map cH.D:=by simp[rW]
def Dy(a:cy (ae×dI))(p:ae×dI):nB (a++[p])=nB a+y p.2:=by simp[nB]
def AE(a:cy (ae×dI))(n:R):nB (a.take n)<=nB a:=by
 have h:=cD (λl=>(l.map (λp:ae×dI=>y p.2)).sum)<|du n a;simp only[bz,eX]at h;unfold nB;omega
def vM(x f s:R)(a:cy (ae×dI))(w:Z)(hc:∀i(k:i<y a),bA w (X x<|f+i)=M a[i].1)(hb:x<G (H w))(hr:∀i(k:i<y a),Row w 1 a[i].1 (y a[i].2)<|a[i].2.map cH.D)(Q:∀i(k:i<y a),∀aD,cN a[i].1=M aD->aD<G (H w))(hn:y a<=3000000000)(hs:nB a<=20000000000):cR bN 130 #[bX x f (y a) s] w λax w'=>∃v',ax=aN v'/\fD w' (G<|H w) 235 1 v' (nB a) (rW a)/\I aC w w':=by
 let⟨i0,v,ab,ac,ad⟩:=cZ yD;have HC:=ak (show∀wr,I aC w wr->∀i(k:i<y a),bA wr (X x<|f+i)=M a[i].1 fromλwr V i k=>V.u (hc i k) id hb);have HR:=ak (show∀wr,I aC w wr->∀i(k:i<y a),Row wr 1 a[i].1 (y a[i].2) (a[i].2.map cH.D)fromλwr V i k=>V.bV (hr i k) aI);clear hc hr Q;go_in
 go_wp2;go_loopw [3,11] (λF i wr=>∃n:R,n<=y a/\i=ay n/\F=ay (nB (a.take n):R)/\wr=w) (λ_ i _=>y a-(intOf i).toNat)
 exact⟨0,bQ _,z,z,z⟩
 .obtain⟨n,ao,rfl,rfl,ap⟩:=hrel;subst wr;by_cases g:n<y a
  .have c:=HC w (I.bI _ _) n g;have o:=HR w (I.bI _ _) n g;have p:=AE a<|n+1;have d:=ak (show nB (a.take<|n+1)=nB (a.take n)+y a[n].2 by rw[aG g,Dy]);rw[ag d]at p;generalize a[n].1=aV at*;generalize a[n].2=C at*;generalize nB (a.take n)=l at*;obtain⟨K,⟨rfl,A⟩|⟨av,j,r,rfl,L,t⟩⟩:=o
   .have b:=ak A;clear K A;go_wp2;go_roundw
    .exact⟨n+1,g,dM,by rw[ag d,ag b,ma],trivial⟩
    .simp[intOf];omega
   .clear K t;have:¬((l:Y)+(y C:Y)<0):=U;go_wp2;go_roundw
    .exact⟨n+1,g,dM,by rw[ag d];go_num,trivial⟩
    .simp[intOf];omega
  .have m:n=y a:=U;subst m;rw[cQ];have u:=VP (nB a) w U;let⟨n5,B⟩:∃n5,nB a=n5:=⟨_,rfl⟩;rw[B]at u hs|-;go_wp21;go_call u as ax w1⟨v1,rfl,O,W⟩;go_wp2;go_loopw [6,27] (λo i wr=>∃n:R,n<=y a/\i=ay n/\fD wr (G<|H w) 235 1 o (nB<|a.take n) (rW<|a.take n)/\I aC w wr) (λ_ i _=>y a-(intOf i).toNat)
   .exact⟨0,bQ _,z,O,W⟩
   .obtain⟨n,al,rfl,b,e⟩:=hrel;have:=b.lt;have S:=e.D;have:=AE a n;by_cases c:n<y a
    .have:=HC wr e n c;have o:=HR wr e n c;have p:=AE a<|n+1;have d:=ak (show nB (a.take<|n+1)=nB (a.take n)+y a[n].2 by rw[aG c,Dy]);have q:=ak (show rW (a.take<|n+1)=rW (a.take n)++a[n].2.map cH.D by rw[aG c,RU]);rw[ag d,B]at p;generalize a[n].1=aV at*;generalize a[n].2=C at*;generalize rW (a.take n)=pn at*;generalize nB (a.take n)=l at*;let⟨an,F,N⟩:=aM b;subst N;obtain⟨K,⟨rfl,A⟩|⟨av,j,r,rfl,L,t⟩⟩:=o
     .obtain rfl:=bG A;have D:∀a,(Builtin.append_ #[106,106] a #[am an l F,aF]).run bN wr=.ok (am an l F) wr:=λa=>ze wr (G<|H w) 106 a 235 i0 1 underlying106 v (am an l F) l pn b;go_wp2_with(at_builtin;refine Lib.wpList_append_run _ z _ _ _ _ z _ _ z z _ _ (D _) ?_)
      go_roundw
      .refine⟨n+1,c,dM,?_,e⟩;rw[ag d,ag q];simpa using b
      .simp[intOf];omega
     .go_wp2_with(first
       |(at_builtin;go_loud(refine cq _ z (.tmp 31) (.tmp 32) 106 z (G (H w)) 235 i0 (.pointer none) 1 8 underlying106 v ab ac ad z cg (.slice an l F) l pn z b (X av j) (y C) r (C.map cH.D) z ar (λba aU hj=>by rw[dS];grind) (by intro aU hu;obtain⟨bb,_,rfl⟩:=cC.1 hu;rfl) U U S ?_;intro o2 w2 P aa;have D:=ak P;have E:=ak aa)))
      go_roundw
      .refine⟨n+1,c,dM,ag d▸ag q▸D,?_⟩;exact e.aj (I.fU E) aI
      .simp[intOf];omega
    .have m:n=y a:=U;subst m;rw[cQ,B]at b;obtain⟨an,F,N⟩:=aM b;subst N;go_wp2;go_ret;exact⟨_,z,by rw[B];exact b,e⟩
structure Fw(w:Z)(lb lo:R)(Ls:cy (ae×dI)):Prop where
 dL:y Ls=4
 u:∀i(hi:i<y Ls),bA w (X lb<|lo+i)=M Ls[i].1
 bV:∀i(hi:i<y Ls),Row w 1 Ls[i].1 (y Ls[i].2)<|Ls[i].2.map cH.D
 l:∀i(hi:i<y Ls),∀k,cN Ls[i].1=M k->k<G (H w)
 f:nB Ls<=20000000000
def Fw.lt{w:Z}{a:cy (ae×dI)}(h:Fw w c n a):c<G (H w):=cA w (X c<|n+0)<|h.u 0<|bP h.dL
def uz{w:Z}{lb lo:R}(a:cy (ae×dI))(h:Fw w lb lo a):cR bN 127 #[ee<|M<|X lb lo] w λg w'=>∃c,g=aN c/\fD w' (G<|H w) 235 1 c (nB a) (rW a)/\I aC w w':=by
 have b:=vM lb lo 4 a w h.u h.lt h.bV h.l (bP h.dL) h.f;rw[h.dL]at b;clear h;go_in
 go_wp21;go_call b as g i⟨f,rfl,d,e⟩;go_wp2;go_ret;exact⟨f,z,d,e⟩
def lq(a:cy (ae×dI))(n:R):eN:=(a.drop n).all<|λp=>p.2.isEmpty
def Ic{a:cy (ae×dI)}(h:b<y a):lq a b=(a[b].2.isEmpty&&lq a (b+1)):=by
 unfold lq;rw[dm h,List.all_cons]
def EK{w:Z}{lb lo:R}(n:R)(c:cy (ae×dI))(h:Fw w lb lo c)(N:n<=4):cR bN 197 #[ee<|M<|X lb lo,ay n] w λF E=>F=aN (aO<|lq c n)/\E=w:=by
 have e:=h.dL;have:=h.f;have u:=ak h.u;have v:=ak h.bV;clear h;obtain B|B:=iT n 4;(.have:(n:Y)<=4:=U;have:¬(4-n=0):=U;have:¬(4=n):=U;have:(0:Y)<=(n:Y):=U;(go_in);go_wp2;(go_loopw [12] (λt wr=>∃m:R,n+m<=4/\t=ay m/\lq c n=lq c (n+m)/\wr=w) (λt _=>4-n-(intOf t).toNat));(grind);obtain⟨m,L,rfl,b,o⟩:=hrel;subst wr;by_cases D:m<4-n;(.have k:n+m<y c:=U;have j:=u (n+m) k;have l:=v (n+m) k;have d:=Ic k;rw[<-bJ]at j;generalize c[n+m].1=P at*;generalize c[n+m].2=r at*;have A:(m:Y)<((4-n:R):Y):=U;obtain⟨i,⟨rfl,s⟩|⟨O,q,x,rfl,C,f⟩⟩:=l;(.obtain rfl:=bG s;clear i s;go_wp2;go_roundw;exact⟨m+1,U,dM,by rw[b,d];rfl,trivial⟩;simp[intOf];omega);obtain p|p:=fN<|y r;(.obtain rfl:=bG p;clear i f p;go_wp2;go_roundw;exact⟨m+1,U,dM,by rw[b,d];rfl,trivial⟩;simp[intOf];omega);have g:r.isEmpty=bD:=aI;rw[g,zo]at d;clear i f g;have K:(0:Y)<(y r:Y):=U;go_wp2;go_ret;exact⟨by rw[b,d];rfl,z⟩);have d:n+m=4:=U;(have a:lq c n=cz:=by rw[b,d,<-e];unfold lq;rw[lh];rfl);have f:=ak a;have A:¬(m:Y)<((4-n:R):Y):=U;clear a b d;go_wp2;go_ret;exact⟨by rw[ag f];rfl,z⟩);obtain rfl:n=4:=U;(have a:lq c 4=cz:=by rw[<-e];unfold lq;rw[lh];rfl);rw[a];(go_in);go_wp2;(go_loopw [12] (λt wr=>t=ay 0/\wr=w) (λ_ _=>0));(grind);obtain⟨rfl,o⟩:=hrel;subst wr;go_wp2;go_ret;simp_all
def p6(h:l.Sublist v):lT l<=lT v:=by
 induction h with
 |slnil=>grind
 |cons x _ a=>unfold lT at*;grind
 |cons_cons x _ a=>unfold lT at*;grind
def LI{w:Z}(b c o:R){g:ae}{ts1 m:dI}(hi:o+1<4)(c1:bA w (X b<|c+o)=M d)(c2:bA w (X b<|c+(o+1))=M g)(x:b<G (H w))(S:jX w d ts1)(h2:jX w g m)(hs:Dj m)(av:0<y ts1)(ao:lT m<=20000000000):cR bN 194 #[ee<|M<|X b c,ay o] w λn e=>∃L:R,n=aN (ay L)/\L<y ts1/\gC (G<|H w) w e:=by
 obtain⟨_,h0⟩|⟨b1,bc,bb,rfl,_⟩:=S.fR;grind
 have:=S.f;have:(o:Y)<4:=U;have:(0:Y)<=(o:Y):=U;let⟨O,P,HS,N⟩:=jr S h2 hs c2;go_in
 go_wp2;go_loopw [5,6,19] (λa le n wr=>∃L ba k:R,L<y ts1/\ba<=9223372036854775807/\k<=y ts1/\a=ay L/\le=ay ba/\n=ay k/\gC (G<|H w) w wr) (λ_ _ n _=>y ts1-(intOf n).toNat)
 exact⟨0,9223372036854775807,0,av,aq _,bQ _,z,z,z,Below.refl _ _⟩
 .obtain⟨L,ba,k,hj,hm,hk,rfl,rfl,rfl,t⟩:=hrel;by_cases a:k<y ts1
  .have i:=O.dD t;have V:=P.dD t;have hp:=i.u a;have c2:bA wr (X b<|c+(o+1))=M g:=(t.cell (p:=(X b<|c+(o+1))) x).trans N;have u:∀W,W.heap=wr.heap->cR bN 184 #[ts1[k].D] W λn e=>n=aN (aw<|io ts1[k].ks)/\e=W:=λW j=>((i.bZ _<|aB a).df j).eJ;have v:∀W,W.heap=wr.heap->cR bN 183 #[ts1[k].D] W λn e=>n=aN (aw<|iQ ts1[k].ks)/\∃q,e=W.drewN q:=λW j=>((i.bZ _<|aB a).df j).eP;have hcut:∀W,W.heap=wr.heap->W.os=wr.os->W.tape=wr.tape->W.output=wr.output->cR bN 195 #[g,aw<|io ts1[k].ks,aw<|iQ ts1[k].ks] W λn e=>∃E B F,n=aN (de #[E,B,F])/\(∃D,jX e B D/\lT D<=20000000000)/\gC (G<|H w) w e/\bA e (X b<|c+(o+1))=M g:=by
    intro W j aa ab ac;go_call Pf (io ts1[k].ks) (iQ ts1[k].ks) (V.df j) HS as n e⟨bg,g9,E,B,F,rfl,_,_,aU,_,_,f⟩;have l:gC (G<|H w) w W:=t.of_heap (by rw[j,aa,ab,ac]);exact⟨E,B,F,z,⟨_,aU,aR (p6<|(rK _ _).trans<|mV _ _) ao⟩,l.trans<|f.mono l.size,(f.cell (p:=(X b<|c+(o+1)))<|au x l.size).trans<|(dZ (w:=wr)<|by rw[j]).trans c2⟩
   unfold cH.D at hp u v;generalize io ts1[k].ks=s1 at*;generalize iQ ts1[k].ks=s2 at*;generalize ts1[k].tb=j8 at*;let⟨p,ax⟩:∃p,o+1=p:=⟨_,rfl⟩;rw[ax]at c2 hcut hi;have:(o:Y)+1=(p:Y):=U;have:(p:Y)<4:=U;have:(0:Y)<=(p:Y):=U;have:IntKind.i64.wrap (p:Y)=(p:Y):=by rw[bR];omega
   have:p<4:=U;go_wp21;rename_i QQ KK bd;go_region_held3(λa=>bA a (X b<|c+p)=M g) (first|assumption|go_keep) (first
    |(go_at_call 184;refine(u wr.drew z).mono ?_;rintro n K⟨rfl,aV⟩;subst K;have A:bA wr.drew (X b<|c+p)=M g:=c2)
    |(go_at_call 183;refine(v wr.drew z).mono ?_;rintro n K⟨rfl,q,aV⟩;subst K;have A:bA (wr.drew.drewN q) (X b<|c+p)=M g:=c2)
    |(go_at_call 195;refine(hcut (wr.drewN (1+q)) z z z z).mono ?_;rintro n K⟨E,B,F,rfl,aD,al,A⟩;have Q:=ak aD;have s:=ak al))
   let⟨D,T,an⟩:=ag Q;have ap:=BP T an;generalize lT D=C at*;go_wp21;go_call ap as n w2⟨rfl,ad⟩;have r:=ak<|s.trans<|ad.mono s.size;by_cases bf:C<ba
   .have f:(C:Y)<(ba:Y):=U;go_wp2;go_roundw
    .exact⟨k,C,k+1,a,U,a,z,z,dM,r⟩
    .simp[intOf];omega
   .have:¬(C:Y)<(ba:Y):=U;go_wp2;go_roundw
    .exact⟨L,ba,k+1,hj,hm,a,z,z,dM,r⟩
    .simp[intOf];omega
  .have f:k=y ts1:=U;subst f;go_wp2;go_ret;exact⟨L,z,hj,t⟩
def vA(b:eD)(a:eN)(c:iF):(uy b a c).Sublist (gu b<|eL c):=by
 unfold uy;grind[nU]
def vB{ms:eD}{lowest:eN}(b:yO (eL O))(e:∀x∈eL O,x.Good)(d:y (eL O)<=3000000000)(f:y ms<=4):gF (uy ms lowest O)/\sk 5 (uy ms lowest O)/\(∀x∈uy ms lowest O,x.Good)/\y (uy ms lowest O)<=3000000000:=by
 have a:=vA ms lowest O;have c:=a.trans<|oE ms<|eL O;exact⟨(zP b ms).kD a,((AC b).kD a).aT U,aI,aR c.length_le d⟩
def JH{V:ju}{W:Z}{ms:eD}{mx:Option Addr}{mc:R}(a:dB)(r:Row W 1 (am mx (y ms) mc) (y ms) (ms.map<|Value.int .u64))(l:∀k,cN (am mx (y ms) mc)=M k->k<G (H W)/\¬V.F k)(s:y ms<=4)(p:yO a)(o:y a<=3000000000):(∀(b:Z)(e:R)(m:Option Addr)(i:R),I V.F W b->fD b e 223 4 (am m (y a) i) (y a) (bu a)->cR bN 94 #[am m (y a) i,am mx (y ms) mc] b λq g=>∃f,q=aN f/\fD g (G<|H b) 223 4 f (y<|gu ms a) (bu<|gu ms a)/\I aC b g)/\(∀(h:Z)(e:R)(n:Option Addr)(j:R),fD h e 223 4 (am n (y<|gu ms a) j) (y<|gu ms a) (bu<|gu ms a)->cR bN 198 #[am n (y<|gu ms a) j] h λq g=>∃f,q=aN f/\fD g (G<|H h) 223 4 f (y<|kM<|gu ms a) (bu<|kM<|gu ms a)/\I aC h g):=by
 constructor;exactλb e m i a d=>yw ms (dQ d) p o (a.bV r aI) U (λk c=>(d.lt k c).2)<|λk c=>au (l k c).1 a.D;exactλh e n j d=>Qm (dQ d) (zP p ms) (aR (oE ms a).length_le o)<|λk c=>(d.lt k c).2
section
open Shelf
attribute [local go_sem] Oper.semAt_some
def bk(a:iE):R->cy (R×ae)
 |0=>[]
 |j+1=>(j,a.getD j ib)::bk a j
def O8(p:R×ae):Array ae:=#[ay p.1,p.2]
def MD(v:ae)(x:Option Addr)(n c:R)(a:v=am x n c)(w:Z):cR bN 229 #[v] w λe b=>e=aN (.func (.func 268) #[] #[aJ<|G<|H w])/\b=dw w (aK #[v] 106):=by
 subst a;go_in
 go_wp2;go_ret;simp_all
def Tm(w aD:R)(K:fE a b d 106)(V:Row a 1 d (y Q) Q)(t:∀n,cN d=M n->n<w)(O:w<=G (H a))(al:y Q<=20000000000):Qy O8 CX w aD 268 #[aJ b] (bk Q<|y Q) (λn=>n=b) a:=by
 intro lr ap Jx ao av W hD hJ F N P hY;let⟨an,ad,hv⟩:=cG V;have:bA av (X b 0)=M d:=W.u (J z) K.u;clear P hD;subst hv;refine tf func268 z trivial ?_ z;simp only[ntmps268,gm,bK,eE,jZ,Nat.reduceSub,fc,fa,gp,fG,ep,dt];gi_wp2;gi_loopw [3] (λi wr=>∃(j:R)(f:cy (R×ae))(p:fB),i=ay ((j:Y)-1)/\j<=y Q/\bk Q (y Q)=f++bk Q j/\ap f p wr/\(∀n,n=b->¬p n)/\kZ CX w (λn=>n=b) a wr) (λi _=>(intOf i+1).toNat)
 exact⟨y Q,[],ao,dM,aq _,z,hJ,F,W⟩
 .obtain⟨j,f,p,rfl,hj,l,i,g,c⟩:=hrel;have:bA wr (X b 0)=M (am an (y Q) ad):=c.u (J z) K.u;cases j with
  |zero=>
   have e:=ak l;clear g c l;gi_wp2;refine xV (jb z _ _ _) z ?_;refine⟨⟨_,z⟩,J ⟨p,?_,trivial⟩⟩;have l:=ag e;rw[show bk Q 0=[]from rfl,eu]at l;rw[l];exact i
  |succ j=>
   have S:(((j+1:R):Y)-1)=(j:Y):=U;rw[S];have o:Q.getD j ib=Q[j]:=by rw[uY,bF hj];rfl
   have r:∃ac e,an=M (X ac e)/\bA wr (X ac<|e+j)=M Q[j]:=by
    obtain⟨h1,⟨D,h0⟩|⟨ax,s,x,D,ab,hc⟩⟩:=V
    .omega
    .cases D;exact⟨ax,s,z,c.u (bj ⟨t _ z,id⟩) aI⟩
   let⟨ac,e,v,r⟩:=r;have m:(f++[(j,Q[j])])<+:bk Q (y Q):=⟨bk Q j,by rw[l,show bk Q (j+1)=(j,Q.getD j ib)::bk Q j from rfl,o];simp⟩;have L:bk Q (y Q)=(f++[(j,Q[j])])++bk Q j:=by rw[l,show bk Q (j+1)=(j,Q.getD j ib)::bk Q j from rfl,o];simp
   let⟨fn,aa,u,body,hy,T⟩:=hY f (j,Q[j]) p wr m i trivial;unfold O8 at hy;simp only at hy;let⟨B,A,C⟩:=eU T i c;clear i c l m T o S;generalize Q[j]=xj at*;have:(j:Y)<(y Q:Y):=U;have:(0:Y)<=(j:Y):=U;subst v;gi_wp2;refine⟨(λad=>(by cases ad)),B.mono ?_⟩;rintro aU W3(⟨rfl,_,B3,q,k,E⟩|⟨rfl,v⟩)
   .have x:=ak q;have D:=ak k;clear q k;gi_wp2;go_roundw
    .have k:=ag D;have c:=ag C;have:b<G (H wr):=au (az K) c.1;refine⟨j,f++[(j,xj)],B3,dM,U,L,x,λn s ab=>?_,?_⟩
     .obtain ab|ab:=E n ab
      .exact g n s ab
      grind
     .refine c.aj ?_;exact k.bM (aR O c.1) (λn s=>⟨aI,g n s⟩)<|λn s a=>bP<|(N _ _ _ A n s).1
    .simp[intOf]
   .have s:=ak v;clear v;gi_wp2;exact ci (jb z _ _ _) z ⟨⟨_,z⟩,bj ⟨_,s⟩⟩
end
def qM{b:Func}{D O:Tmp}(h:b.results=#[.cell D 108,.tmp O])(a:Array ae)(w:Z)(g:R)(d e f i:ae)(N:TypeId)(c:R×R)(q:a.getD D jm=aJ g)(p:w.heap[g]?=M (aK #[d,e,f,i] N c))(j:∃x n k,d=am x n k)(l:∃x n k,e=am x n k)(m:∃x n k,f=am x n k)(o:∃x n k,i=am x n k):(results b a).run bN w=.ok (de #[ef #[d,e,f,i],a.getD O jm]) w:=by
 obtain⟨E,v,r,rfl⟩:=j;obtain⟨F,A,s,rfl⟩:=l;obtain⟨K,B,t,rfl⟩:=m;obtain⟨L,C,u,rfl⟩:=o;simp[results,h,(dV q:a[D]?.getD jm=aJ g),asAddr,(kP (P:=bN) w g N 108 #[am E v r,am F A s,am K B t,am L C u] c _ p underlying108 rfl aH),Result.andThen]
def DU{d e f g a' b' c' d':ae}{t:TypeId}{c:R×R}(h:a.heap[b]?=M (aK #[d,e,f,g] t c)):(cP (cP (cP (cP a (X b 0) a') (X b 1) b') (X b 2) c') (X b 3) d').heap[b]?=M (aK #[a',b',c',d'] t c):=by
 rw[(aY (i:=3) (u:=d')<|aY (i:=2) (u:=c')<|aY (i:=1) (u:=b')<|aY (i:=0) (u:=a') h)];simp
abbrev bL(v:ae):ae:=de #[ef #[aF,aF,aF,aF],v]
def A4{b q:R}(g:s.Xp)(i:tB e q)(f:s.D e)(j:I s.F a e)(h:e.heap[b]?=M (aK #[aF,aF,aF,aF] 108 (0,0)))(m:G (H a)<=b)(l:¬s.F b):∀d,d=cP (cP (cP (cP e (X b 0) aF) (X b 1) aF) (X b 2) aF) (X b 3) aF->d.heap[b]?=M (aK #[aF,aF,aF,aF] 108 (0,0))/\Es s a d s.F (aN<|bL<|eW q) bL:=by
 rintro d rfl;have c:I (λk=>k=b) e (cP (cP (cP (cP e (X b 0) aF) (X b 1) aF) (X b 2) aF) (X b 3) aF):=(((iP b e).aL _ 1 _<|J z).aL _ 2 _<|J z).aL _ 3 _<|J z;exact⟨(DU (a':=aF) (b':=aF) (c':=aF) (d':=aF) h),g,q,z,i.aA c (λk b _=>by rw[b];grind),s.l f c aI,j.aj c aI⟩
def WD(Q i f:R)(x1 x A:Option Addr)(n1 u v c1 c2 c3:R)(d:dI)(O P:dI)(bk:Row a 1 (bX Q i (y d) f) (y d) (d.map cH.D))(ap:Q<b/\¬s.F Q)(bv:∀dT∈d,nX s b dT.tb dT.ks dT.cs a)(h1:uD s b (am x1 n1 c1) l a)(dd:Row a 1 (am x u c2) (y O) (O.map cH.D))(dk:Row a 1 (am A v c3) (y P) (P.map cH.D))(cr:∀n,cN (am x u c2)=M n->n<b/\¬s.F n)(cs:∀n,cN (am A v c3)=M n->n<b/\¬s.F n)(hD:s.D a)(ad:b<=G (H a))(hF:∀n,s.F n->n<b)(hT:Steps a)(cc:1<b/\¬s.F 1)(aD:y d+y l+y O+y P<=3000000000)(p:eD)(mx:Option Addr)(mc:R)(hm:Row a 1 (am mx (y p) mc) (y p) (p.map<|Value.int .u64))(cT:∀n,cN (am mx (y p) mc)=M n->n<b/\¬s.F n)(ch:y p<=4)(c:eN)(ba:c=(O.isEmpty&&P.isEmpty))(hs:yO (eL<|gy l::d.map cH.dq))(hg:∀ei∈eL (gy l::d.map cH.dq),ei.Good)(hl:y (eL<|gy l::d.map cH.dq)<=3000000000):cR bN 132 #[ef #[bX Q i (y d) f,am x1 n1 c1,am x u c2,am A v c3],ay 0,am mx (y p) mc] a λW w=>(∃D bc B,∃e:dI,W=aN (de #[ef #[aF,am D bc B,am x u c2,am A v c3],ib])/\fD w (G<|H a) 235 1 (am D bc B) (y e) (e.map cH.D)/\e.map cH.dq=jp (yz p c d l)/\sD w (G<|H a) e/\s.D w/\I s.F a w)\/Es s a w s.F W bL:=by
 have hW:I aC a (dw (dw a<|aK #[bX Q i (y d) f,am x1 n1 c1,am x u c2,am A v c3] 108)<|aK #[aF,aF,aF,aF] 108):=(cI _ a).aE _;generalize ax:dw (dw a<|aK #[bX Q i (y d) f,am x1 n1 c1,am x u c2,am A v c3] 108) (aK #[aF,aF,aF,aF] 108)=aV at hW;have av:aV.heap[G<|H a]?=M (aK #[bX Q i (y d) f,am x1 n1 c1,am x u c2,am A v c3] 108 (0,0)):=by rw[<-ax];grind[gw,aQ]
 have bf:∀n,b<=n->¬s.F n:=aI
 have ce:∀r,I s.F aV r->Fw r (G<|H a) 0 [(bX Q i (y d) f,d),(am x1 n1 c1,l),(am x u c2,O),(am A v c3,P)]:=by
  intro r ab;have bb:∀bm c,Row a 1 bm (y c) (c.map cH.D)->(∀n,cN bm=M n->n<b/\¬s.F n)->Row r 1 bm (y c) (c.map cH.D):=λbm c hr C=>
   ab.bV (hW.bV hr aI) aI
  have bx:=(ab.A _ (az av)<|bf _ ad).trans av;have cM:∀N bm,(#[bX Q i (y d) f,am x1 n1 c1,am x u c2,am A v c3]:Array ae)[N]?=M bm->bA r (X (G<|H a)<|0+N)=M bm:=by
   intro N bm hv;rwa[cE bx,ez]
  refine⟨z,λN hi=>?_,λN hi=>?_,λN hi n C=>?_,by simp[nB];omega⟩
  .match N,hi with
   |0,_=>grind
   |1,_=>grind
   |2,_=>grind
   |3,_=>grind
  .match N,hi with
   |0,_=>exact bb _ _ bk (λn W=>by cases W;exact ap)
   |1,_=>exact bb _ _ h1.bV<|λn W=>h1.l n W
   |2,_=>grind
   |3,_=>grind
  .match N,hi with
   |0,_=>cases C;grind
   |1,_=>exact au (h1.l n C).1<|aR ad (aR hW.D ab.D:G (H a)<=G (H r))
   |2,_=>grind
   |3,_=>grind
 have ac:∀r,I s.F aV r->cR bN 197 #[aJ<|G<|H a,ay 2] r λW w=>W=aN (aO c)/\w=r:=by intro r ab;have h:=EK (w:=r) (lb:=G<|H a) (lo:=0) 2 _ (ce _ ab) U;(have he:lq [(bX Q i (y d) f,d),(am x1 n1 c1,l),(am x u c2,O),(am A v c3,P)] 2=c:=by rw[ba];simp[lq]);rw[he]at h;exact h
 have cj:∀q,cR bN 196 #[bX Q i (y d) f,am x1 n1 c1] (aV.drewN q) λW w=>(∃c,W=aN (de #[c,ib])/\fD w (G<|H aV) 223 4 c (y<|eL<|gy l::d.map cH.dq) (bu<|eL<|gy l::d.map cH.dq)/\s.D w/\I s.F (aV.drewN q) w)\/Es s (aV.drewN q) w s.F W (λbm=>de #[aF,bm]):=by intro q;have bb:I aC a (aV.drewN q):=hW.df z;have aD:=(λr ht=>ht.bM ad cY cY:∀r,I aC a r->kZ s b aC a r) _ bb;refine GX b Q i f (am x1 n1 c1) d l ?_ ap (λdT ht=>(bv dT ht).bM aD) U (h1.bM aD) (s.l hD bb cY) (aR ad bb.D) hF hl;intro N hi;obtain⟨_,⟨dv,_⟩|⟨b',cM,bx,dv,_,hc⟩⟩:=bk.bM aD (λn W=>by cases W;exact ap);cases dv;grind
 have bE:=JH (V:=s) (W:=aV) (ms:=p) (mx:=mx) (mc:=mc) (eL<|gy l::d.map cH.dq) (hW.bV hm aI) aI ch hs hl;have ca:∀r,I s.F aV r->Steps r:=λr ht n C=>ht.u (hW.u (hT n C) id hT.lt) cc.2 aI;have cb:gF (yz p c d l)/\sk 5 (yz p c d l)/\(∀ei∈yz p c d l,ei.Good)/\y (yz p c d l)<=3000000000:=vB hs hg hl ch;let⟨bn,al,cm,cn,bo,co,an,HW,V⟩:=Hp av (ax▸aQ _ ar:aV.heap[G (H a)+1]?=M (aK #[aF,aF,aF,aF] 108 (0,0))) ac cj bE ca cb hW bf;have ec:∀e:dI,e.map cH.dq=jp (yz p c d l)->y e<=20000000000:=by intro e h;have:=cD y h;rw[cS]at this;have:=zL<|yz p c d l;omega
 have cp:=ak ax;have ed:=hW.D;have ck:yz p c d l=if c then kM (gu p<|eL<|gy l::d.map cH.dq)else gu p (eL<|gy l::d.map cH.dq):=rfl;have br:=ak ck;clear bk ap bv h1 dd dk cr cs hD hF hT cc ba hg hl hs hm cT av ce ac cj bE ca cb hW bf ax ck;generalize eL (gy l::d.map cH.dq)=ML at*;generalize yz p c d l=bt at*;go_in
 go_wp21;go_quiet(fail)
 rw[ag cp];go_wp21;go_call(cn nq)as W E(⟨ds,rfl,F,aa,L⟩|⟨cu,q1,rfl,dc,aa,L⟩);rotate_left;(.have g:I s.F aV E:=(gO s.F aV nq).aj L<|λ_ h=>J h;have j:=(g.A _ (az al)<|V _ U).trans al;have q0:=aX j 0;have bb:=aX j 1;have q2:=aX j 2;have q3:=aX j 3;have g0:=cV (i:=0) j;have g1:=cV (i:=1) j;have g2:=cV (i:=2) j;have g3:=cV (i:=3) j;go_wp2;let⟨r1,r2⟩:=(ak<|A4 cu dc aa ((HW.aT (T:=s.F) cY).aj g<|λ_ h=>J h) j U<|V _ U) _ rfl;apply ci (qM z _ _ (G (H a)+1) aF aF aF aF _ _ z r1 ⟨_,_,_,z⟩ ⟨_,_,_,z⟩ ⟨_,_,_,z⟩ ⟨_,_,_,z⟩) z;exact bj r2);have g:I s.F aV E:=(gO s.F aV nq).aj L<|λ_ h=>J h;obtain⟨m,k,rfl⟩:=aM F;have bs:=ak g;go_wp21;go_call(bo.1 E _ m k g F)as W S⟨vn,rfl,bi,cl⟩;have t:I s.F aV S:=bs.t cl;have bT:=s.l (ak aa) cl cY;obtain⟨xn,dx,rfl⟩:=aM bi;have ac:=cm S t;have cx:=bo.2 S _ xn dx bi;have:=bs.D;cases c;(case' false=>obtain rfl:bt=gu p ML:=ag br;go_wp21;go_call ac as W bl⟨rfl,dr⟩;subst bl;let⟨bd,ao,bp⟩:=eU (fh (base':=G<|H a) bi U) t bT;generalize S=w3 at*);(case' true=>obtain rfl:bt=kM (gu p ML):=ag br;go_wp21;go_call ac as W bl⟨rfl,dr⟩;subst bl;go_wp21;go_call cx as W w3⟨vb,rfl,bb,bx⟩;obtain⟨xn,dx,rfl⟩:=aM bb;let⟨bd,ao,bp⟩:=eU (fh (base':=G<|H a) bb<|bP t.D) (t.t bx)<|s.l bT bx cY)
 all_goals
  have db:=wL (dQ bd) an.1 an.2.1 an.2.2.1 an.2.2.2 (λn C=>(bd.lt n C).2)<|co w3 ao;go_wp21;go_call db as W E⟨ds,e,rfl,F,cv,bg,L⟩;have g:I s.F aV E:=ao.t L;have aa:=s.l bp L cY;have:=ao.D;obtain⟨m,k,rfl⟩:=aM F;have cd:=(g.A _ (az bn)<|V _ ad).trans bn;have j:=(g.A _ (az al)<|V _ U).trans al;have:=g.D;have bg:=bg.pO (base':=G<|H a) U;have hC:cR bN 130 #[bX (G<|H E) 0 3 3] (dw E<|aK #[aF,am m (y e) k,aF] 106) λW w=>∃v',W=aN v'/\fD w (G<|H a) 235 1 v' (y e) (e.map cH.D)/\I aC E w:=by
   have:∀N bm,(#[am dE 0 0,am m (y e) k,aF]:Array ae)[N]?=M bm->bA (dw E<|aK #[aF,am m (y e) k,aF] 106) (X (G<|H E)<|0+N)=M bm:=by
    simp_all
   have dn:Row (dw E<|aK #[aF,am m (y e) k,aF] 106) 1 (am m (y e) k) (y e) (e.map cH.D):=dQ<|bC F _;have h:=vM (G<|H E) 0 3 [(am dE 0 0,[]),(am m (y e) k,e),(am dE 0 0,[])] (dw E<|aK #[aF,am m (y e) k,aF] 106) ?_ ar ?_ ?_ ar (by simp[nB];grind)
   .have e1:nB [(am dE 0 0,[]),(am m (y e) k,e),(am dE 0 0,[])]=y e:=by simp[nB]
    have e2:rW [(am dE 0 0,[]),(am m (y e) k,e),(am dE 0 0,[])]=e.map cH.D:=by simp[rW]
    rw[e1,e2]at h;go_call h as W w⟨v',rfl,ho,ht⟩;exact⟨v',z,fh ho dW,(cI aC E).t ht⟩
   .grind
   .intro N hi;match N,hi with
    |0,_=>exact⟨z,J ⟨z,z⟩⟩
    |1,_=>exact dn
    |2,_=>exact⟨z,J ⟨z,z⟩⟩
   .intro N hi n C;match N,hi with
    |0,_=>cases C
    |1,_=>have:=(aS F n C).2;simp;omega
    |2,_=>cases C
  go_wp21;go_call hC as W S⟨eg,rfl,bh,K⟩;obtain⟨D,B,rfl⟩:=aM bh;have vS:=(K.A _ (az cd) id).trans cd;have o:=(K.A _ (az j) id).trans j;have:=aX vS 0;have:=aX vS 1;have:=aX vS 2;have:=aX vS 3;have:=cV (i:=0) vS;have:=cV (i:=1) vS;have:=aX o 0;have:=aX o 1;have:=aX o 2;have:=aX o 3;have:=cV (i:=0) o;have:=cV (i:=1) o;have:=cV (i:=2) o;have:=cV (i:=3) o;let⟨eb,t,ea⟩:=eU bh K o;have bq:=ak (show∀wf,wf=cP (cP (cP (cP (cP (cP S (X (G<|H a) 0) aF) (X (G<|H a) 1)<|am D (y e) B) (X (G (H a)+1) 0) aF) (X (G (H a)+1) 1)<|am D (y e) B) (X (G (H a)+1) 2)<|am x u c2) (X (G (H a)+1) 3) (am A v c3)->wf.heap[G (H a)+1]?=M (aK #[aF,am D (y e) B,am x u c2,am A v c3] 108 (0,0))/\fD wf (G<|H a) 235 1 (am D (y e) B) (y e) (e.map cH.D)/\sD wf (G<|H a) e/\s.D wf/\I s.F a wf from by
   rintro wf rfl;have hx:((cP (cP S (X (G<|H a) 0) aF) (X (G<|H a) 1)<|am D (y e) B)).heap[G (H a)+1]?=M (aK #[aF,aF,aF,aF] 108 (0,0)):=(kU _ U).trans<|(kU _ U).trans o;have aU:I (λn=>n=G (H a)\/n=G (H a)+1) S (cP (cP (cP (cP (cP (cP S (X (G<|H a) 0) aF) (X (G<|H a) 1)<|am D (y e) B) (X (G (H a)+1) 0) aF) (X (G (H a)+1) 1)<|am D (y e) B) (X (G (H a)+1) 2)<|am x u c2) (X (G (H a)+1) 3)<|am A v c3):=((((((I.bI _ S).aL _ 0 _<|J<|J z).aL _ 1 _<|J<|J z).aL _ 0 _<|J<|bj z).aL _ 1 _<|J<|bj z).aL _ 2 _<|J<|bj z).aL _ 3 _<|J<|bj z;have cB:=DU (a':=aF) (b':=am D (y e) B) (c':=am x u c2) (d':=am A v c3) hx;generalize cP (cP (cP (cP (cP (cP S (X (G<|H a) 0) aF) (X (G<|H a) 1)<|am D (y e) B) (X (G (H a)+1) 0) aF) (X (G (H a)+1) 1)<|am D (y e) B) (X (G (H a)+1) 2)<|am x u c2) (X (G (H a)+1) 3) (am A v c3)=wf at*;have:∀n,(n=G (H a)\/n=G (H a)+1)->∃b,S.heap[n]?=M (aK b 108 (0,0)):=by
    grind
   refine⟨cB,aU.aZ bh<|λn C dv=>?_,?_,s.l (s.l aa K cY) aU<|λn C=>V n (by obtain dv|dv:=C<;>omega),?_⟩
   .grind[fZ,lj]
   .refine((bg.aA K).dN aU<|λn C=>?_).pO U;grind
   .exact(((HW.aT (T:=s.F) cY).aj g (λ_ h=>J h)).t K).aj aU ar)
  go_wp2;let⟨r1,r2,r3,r4,r5⟩:=bq _ rfl;refine ci (qM z _ _ (G (H a)+1) aF (am D (y e) B) (am x u c2) (am A v c3) _ _ z r1 ⟨_,_,_,z⟩ ⟨_,_,_,z⟩ ⟨_,_,_,z⟩ ⟨_,_,_,z⟩) z ?_;exact J ⟨D,y e,B,e,z,r2,cv,r3,r4,r5⟩
def Ap{us ts:dI}(h:us.Sublist ts):(gy us).Sublist (gy ts):=by
 induction h with
 |slnil=>grind
 |cons x _ a=>rw[uO];grind
 |cons_cons x _ a=>rw[uO,uO];grind
def lZ.kD(h:lZ v)(a:l.Sublist v):lZ l:=⟨λt b=>h.p t<|a.subset b,h.o.kD<|Ap a,h.L.sublist<|a.map _⟩
def YY(h:jX a (bX b c (y l) k) l)(d:y l<=k)(f:n<=y l):jX a (am (if k=n then M (X b c)else M (X b<|c+n)) (y l-n)<|k-n) (l.drop n):=by
 by_cases g:k=n;have e:y l=n:=U;rw[fV g,<-e,lh,xX,show k-y l=0 by omega];exact h.D c;rw[fM g];exact h.pM n f
def N3{w1:Z}{ta j8:dI}(l:R)(e:jX w1 d ta)(f:jX w1 w j8)(q:y ta+y j8<=20000000000)(r:l<=G (H w1))(T:TypeId):cR bN 130 #[bX (G<|H w1) 0 2 2] ((dw w1<|aK #[d,w] T).drew) λp i=>∃c,p=aN c/\fD i l 235 1 c (y<|ta++j8) ((ta++j8).map cH.D)/\I aC w1 i:=by
 have a:I aC w1 ((dw w1<|aK #[d,w] T).drew):=(cI _ w1).df z;have:∀j v,(#[d,w]:Array ae)[j]?=M v->bA ((dw w1<|aK #[d,w] T).drew) (X (G<|H w1)<|0+j)=M v:=by simp_all
 have h:=vM (G<|H w1) 0 2 [(d,ta),(w,j8)] ((dw w1<|aK #[d,w] T).drew) ?_ ar ?_ ?_ ar (by simp[nB];omega);(·(have m:nB [(d,ta),(w,j8)]=y (ta++j8):=by simp[nB]);rw[m,(by simp[rW]:rW [(d,ta),(w,j8)]=(ta++j8).map cH.D)]at h;go_call h as p i⟨c,rfl,n,o⟩;exact⟨c,z,fh n dW,a.t o⟩);grind
 .intro j g;match j,g with
  |0,_=>exact a.bV e.bV<|λk b=>⟨id,e.lt k b⟩
  |1,_=>exact a.bV f.bV<|λk b=>⟨id,f.lt k b⟩
 .intro j g k b;match j,g with
  |0,_=>have:=e.lt k b;simp;omega
  |1,_=>have:=f.lt k b;simp;omega
def N2{f:ae}(c b e:dI)(r:R)(s:Row a 1 d (y c) (c.map cH.D))(j:∀k,cN d=M k->k<G (H a))(t:Row a 1 w (y b) (b.map cH.D))(l:∀k,cN w=M k->k<G (H a))(u:Row a 1 f (y e) (e.map cH.D))(m:∀k,cN f=M k->k<G (H a))(B:y c+y b+y e<=20000000000)(C:r<=G (H a))(T:TypeId):cR bN 130 #[bX (G<|H a) 0 3 3] (dw a<|aK #[d,w,f] T) λA p=>∃i,A=aN i/\fD p r 235 1 i (y<|c++b++e) ((c++b++e).map cH.D)/\I aC a p:=by
 have g:I aC a (dw a<|aK #[d,w,f] T):=(cI _ a);have:∀q v,(#[d,w,f]:Array ae)[q]?=M v->bA (dw a<|aK #[d,w,f] T) (X (G<|H a)<|0+q)=M v:=by simp_all
 have h:=vM (G<|H a) 0 3 [(d,c),(w,b),(f,e)] (dw a<|aK #[d,w,f] T) ?_ ar ?_ ?_ ar (by simp[nB];omega);(·(have o:nB [(d,c),(w,b),(f,e)]=y (c++b++e):=by simp[nB]);rw[o,(by simp[rW]:rW [(d,c),(w,b),(f,e)]=(c++b++e).map cH.D)]at h;go_call h as A p⟨i,rfl,v,x⟩;exact⟨i,z,fh v dW,g.t x⟩);grind
 .intro q n;match q,n with
  |0,_=>exact g.bV s aI
  |1,_=>exact g.bV t aI
  |2,_=>exact g.bV u aI
 .intro q n k o;match q,n with
  |0,_=>have:=j k o;simp;omega
  |1,_=>have:=l k o;simp;omega
  |2,_=>have:=m k o;simp;omega
section
open Shelf
attribute [local go_sem] Oper.semAt_some
structure RB(w0:Z)(vs:iE)(B:fB)(W:Z):Prop where
 bV:∃v,fE W (G<|H w0) v 218/\fD W (G (H w0)+1) 221 1 v (y vs) vs/\(∀k,B k↔k=G (H w0)\/cN v=M k)
 aA:I aC w0 W
def RB.lt(h:RB a Q W e):∀k,W k->G (H a)<=k/\k<G (H e):=by
 intro k g;let⟨v,j,c,d⟩:=h.bV;obtain i|i:=(d k).1 g;grind
 have:=c.lt k i;grind
def RB.gQ{B T:fB}(h:RB a Q B e)(b:I T e P)(g:∀k,T k->¬B k/\G (H a)<=k):RB a Q B P:=by
 let⟨v,c,d,f⟩:=h.bV;exact⟨⟨v,(b.A _ (az c) aI).trans c,b.aZ d aI,f⟩,h.aA.aj b aI⟩
def RB.jj{v b x:ae}{w:Obj}(h:RB a Q W e)(n:fE e (G<|H a) v 218)(A:∀k,W k↔k=G (H a)\/cN v=M k)(t:fD e (G (H a)+1) 221 1 v (y Q) Q)(q:fm (dw e w) P v b)(d:fD P (G (H a)+1) 221 1 b (y Q+1) (Q++[x])):∃j,RB a (Q++[x]) j (cP P (X (G<|H a) 0) b)/\I W e (cP P (X (G<|H a) 0) b)/\(∀k,j k->W k\/G (H e)<=k):=by
 have:∀k,cN v=M k->G (H a)+1<=k/\k<G (H e):=λk c=>t.lt k c;have o:∀k,cN b=M k->G (H a)+1<=k:=λk c=>(d.lt k c).1;have l:I (λk=>cN v=M k) e P:=((I.bI (λk=>cN v=M k) e).aE w).aj (I.eF (S:=λk=>cN v=M k) q.dF<|λk c=>J c)<|λk c=>J c;have g:fE P (G<|H a) v 218:=(l.A _ (az n) aI).trans n;have f:I W e (cP P (X (G<|H a) 0) b):=(l.aT (T:=W) aI).aL _ _ _ aI;refine⟨λk=>k=G (H a)\/cN b=M k,⟨⟨b,g.gq _,?_,λk=>th⟩,?_⟩,f,?_⟩;rw[show y (Q++[x])=y Q+1 by simp];exact d.kept (eG P _ _ _) aI;exact h.aA.aj f aI;rintro k(r|r);(grind);obtain u|⟨B,u,s⟩:=q.f;(grind);rw[u]at r;cases r;simp at s;grind
def Ry(t:cH):ae:=.iface 235 t.D
def IJ(p:ae×dI):ae:=.iface 106 p.1
end
section
open Shelf
attribute [local go_sem] Oper.semAt_some
def s9(a:dI):∀j,j<=y a->(bk (a.map cH.D) j).map (λp=>Value.iface 235 p.2)=((a.take j).map Ry).reverse
 |0,_=>by simp[bk]
 |j+1,h=>by
  have b:j<y a:=h;rw[bk,bO,s9 a j U,aG b,bz,List.reverse_append];simp only[bO,gA,wa,List.reverse_nil,ep,mG,iL,rF];rw[uY,fO,bF b];rfl
def qA(a b c d:ae×dI):iE:=((a.2.map Ry).reverse)++[IJ b]++[IJ c]++[IJ d]
def LvC(w:Z)(a o:R)(v:ae):Prop:=∃x n c,v=am x n c/\bA w (X a o)=M (am x n c)
def Sq{w:Z}{lb lo:R}(p0 p1 p2 p3:ae×dI)(h:Fw w lb lo [p0,p1,p2,p3]):cR bN 160 #[ee<|M<|X lb lo] w λcl w'=>∃v',cl=aN v'/\fD w' (G<|H w) 221 1 v' (y<|qA p0 p1 p2 p3) (qA p0 p1 p2 p3)/\I aC w w':=by
 let⟨i0,bh,bo,bp,ax⟩:=cZ LW;let⟨v0,a⟩:=p0;let⟨v1,o⟩:=p1;let⟨v2,p⟩:=p2;let⟨v3,q⟩:=p3;have c0:bA w (X lb lo)=M v0:=h.u 0 ar;have c1:bA w (X lb<|lo+1)=M v1:=h.u 1 ar;have c2:bA w (X lb<|lo+2)=M v2:=h.u 2 ar;have c3:bA w (X lb<|lo+3)=M v3:=h.u 3 ar;have bl:Row w 1 v0 (y a) (a.map cH.D):=h.bV 0 ar;have bc:∀A,cN v0=M A->A<G (H w):=h.l 0 ar;obtain⟨x0,j,rfl⟩:=cG bl;obtain⟨x1,O,rfl⟩:∃aU aa,v1=am aU (y o) aa:=cG<|h.bV 1 ar;obtain⟨x2,P,rfl⟩:∃aU aa,v2=am aU (y p) aa:=cG<|h.bV 2 ar;obtain⟨x3,Q,rfl⟩:∃aU aa,v3=am aU (y q) aa:=cG<|h.bV 3 ar;have bL:y a<=20000000000:=by have:=h.f;simp[nB]at this;omega
 have bE:=h.lt;refine(ew (n:=3)).1 ?_;refine callsIn_of_wp_marks func160 z trivial ?_ z;simp only[ntmps160,gm,bK,eE,jZ,Nat.reduceSub,fc,fa,gp,fG,ep,dt];gi_wp2;refine wpIn_loop_rounds 5 ?_;rw[roundsIn_succ];gi_wp2;rename_i QQ KK W;apply PU KK;(.intro aD;refine Av.2 ?_;(go_region);all_goals exact aD);apply W;gi_wp2_with(refine⟨trivial,?_⟩;gi_at_call 229;apply(ew.2<|(λan=>MD (am x0 (y a) j) x0 (y a) j z an) _).mono;rintro cl w1⟨rfl,rfl⟩)
 have e1:G (H (dw (dw w<|aK #[aF] 218)<|aK #[am x0 (y a) j] 106).drew)=G (H w)+2:=ar;let⟨W0,u⟩:∃W0,(dw (dw w<|aK #[aF] 218)<|aK #[am x0 (y a) j] 106).drew=W0:=⟨_,rfl⟩;rw[u]at e1;have C:I aC w W0:=u▸((cI aC w).aE _).df z;have bd:fE W0 (G<|H w) aF 218:=u▸fE.aE (w:=dw w<|aK #[aF] 218) (aQ (w:=w) _ z) _;rw[u];refine tJ (α:=R×ae) (arg:=O8) (m:=3) (V:=CX) (n0:=G<|H w) (gf:=268) (lb:=#[aJ<|G (H w)+1]) (l:=bk (a.map cH.D)<|y<|a.map cH.D) (S:=λA=>A=G (H w)+1) ?geval (enters_of func268 aH z) (λ_=>rfl) (Tm (G<|H w) 2 (u▸aQ (w:=dw w<|aK #[aF] 218) _ ar:fE W0 (G (H w)+1) (am x0 (y a) j) 106) (by rw[cS];exact C.bV bl (λA r=>⟨id,bc A r⟩):Row W0 1 (am x0 (y a) j) (y<|a.map cH.D) (a.map cH.D)) bc C.D dW) trivial C.D ?slt (λE bs an=>RB w (E.map<|λcc=>Value.iface 235 cc.2) bs an) (λ_ _ _ _=>False) (λA=>A=G (H w)) (⟨⟨aF,bd,ct _ _ _ _,λA=>by simp[cN]⟩,C⟩:RB w [] (λA=>A=G (H w)) W0) ?sb ?lt ?st (λ_ _ _ _ _ _ h=>h.elim) ?body ?done ?stop;rfl;grind
 grind
 exactλE bs an h A r=>h.lt A r;intro E bs an K T h F e;refine h.gQ F<|λA r=>⟨(e A r).1,?_⟩;obtain aa|aa|aa:=(e A r).2;omega;exact aa.elim;omega;(case stop=>grind)
 .intro lr E aU bs an bi av aV ao B _;let⟨xi,xv⟩:=aU;let⟨x,K⟩:∃x,E.map (λcc=>Value.iface 235 cc.2)=x:=⟨_,rfl⟩;have T:y x<=20000000000:=by
   have:=ao.length_le;rw[<-K];simp only[cS,ai,bK,eE]at this|-;rw[(λa ba=>by induction ba with|zero=>rfl|succ ba ih=>simp[bk,ih]:∀(a:iE)ba,y (bk a ba)=ba)]at this;omega
  rw[K]at B;let⟨i,d⟩:∃i,y x=i:=⟨_,rfl⟩;unfold O8;simp only;gi_wp2;refine⟨I.bI _ _,λF e=>?_⟩;have k:RB w x bs F:=B.gQ e<|λA r=>aI;let⟨cd,v,c,t⟩:=k.bV;rw[d]at c;have bf:bA F (X (G<|H w) 0)=M cd:=v.u;have bg:iH F (X (G<|H w) 0)=bD:=v.bS;let⟨ex,ec,D⟩:=aM c;have ad:=az v;have bb:i<=20000000000:=U;let⟨c1,HV,s,L,ap⟩:=nZ k v c t e;clear k v c t e T;subst D;gi_wp2_with(first
   |(gi_at_builtin;refine gl _ z (.tmp 27) (.tmp 30) 218 z (G (H w)+1) 221 i0 ib 1 16 underlying218 bh bo bp ax z cg (.slice ex i ec) i x z (bC s (.cells #[Value.iface 235 xv] 221)) (X (G (H F)) 0) 1 1 [Value.iface 235 xv] z z (Ek _ _ _) (Y0 z) U U dW ?_;intro bT w3 b g;obtain⟨br,bq,rfl⟩:=aM b;have f:fE w3 (G (H w)) (.slice ex i ec) 218:=(g.dF.block _ (az (HV.aE (.cells #[Value.iface 235 xv] 221))) (λaa=>bP ((s.lt _ aa.symm).1))).trans (HV.aE _);have ab:=f.u;have ac:=f.bS;clear f;have al:=ak b;have N:=ak g;clear b g))
  let⟨B',q1,q2,q3⟩:=c1.jj (x:=Value.iface 235 xv) HV L (by rwa[d]) N (by rwa[d]);have e:=ag ap;have ax:=e.D;refine⟨trivial,B',?_,(e.aT (λA r=>J<|bj r):I (λA=>bs A\/A=lr) an F).aj q2<|λA r=>J<|J r,q2.A lr U av,λA r=>?_⟩
  .grind[ag]
  grind
 (.intro cb bs an cj B T _ hK;(have bi:(bk (a.map cH.D)<|y<|a.map cH.D).map (λcc=>Value.iface 235 cc.2)=(a.map Ry).reverse:=by rw[cS,s9 a _<|aq _,cQ]);rw[bi]at B;let⟨i,d⟩:∃i,y (a.map Ry).reverse=i:=⟨_,rfl⟩;(have:i<=20000000000:=by rw[<-d];simpa using bL);have e:(a.map Ry).reverse++[IJ (am x1 (y o) O,o)]++[IJ (am x2 (y p) P,p)]++[IJ (am x3 (y q) Q,q)]=qA (am x0 (y a) j,a) (am x1 (y o) O,o) (am x2 (y p) P,p) (am x3 (y q) Q,q):=rfl;unfold IJ at e;simp only at e;generalize(a.map Ry).reverse=x at B d e;let⟨RV,bb⟩:∃m8,qA (am x0 (y a) j,a) (am x1 (y o) O,o) (am x2 (y p) P,p) (am x3 (y q) Q,q)=m8:=⟨_,rfl⟩;rw[bb]at e;have HL:LvC w lb (lo+1) (am x1 (y o) O)/\LvC w lb (lo+2) (am x2 (y p) P)/\LvC w lb (lo+3) (am x3 (y q) Q)/\True:=⟨⟨_,_,_,z,c1⟩,⟨_,_,_,z,c2⟩,⟨_,_,_,z,c3⟩,trivial⟩;clear bi;clear u bd C;gi_wp2;(iterate 3 (rw[roundsIn_succ];let⟨⟨xa,na,ca,bn,bt⟩,HL⟩:=HL;rw[bn]at e;clear bn;have bx:=B.aA.u bt id bE;gi_wp2;rename_i QQ KK W;apply PU KK;(focus(intro aD;apply Av.2;go_region;all_goals exact aD));apply W;clear W bx;have k:RB w x bs an.drew:=B.gQ (cf aC an) cY;have ao:an.drew.heap[cb]?=M (.deferred<|M []):=hK;generalize an.drew=n9 at k ao|-;clear B hK;let⟨cd,v,c,t⟩:=k.bV;rw[d]at c;have bf:bA n9 (X (G<|H w) 0)=M cd:=v.u;have bg:iH n9 (X (G<|H w) 0)=bD:=v.bS;let⟨ex,ec,D⟩:=aM c;have ad:=az v;let⟨HV,s,L,aV,F,K⟩:=nT v c t k ao d;clear v c t k ao d;subst D;gi_wp2_with(first|(gi_at_builtin;refine gl _ z (.tmp 18) (.tmp 21) 218 z (G (H w)+1) 221 i0 ib 1 16 underlying218 bh bo bp ax z cg (.slice ex i ec) i x z (bC s<|.cells #[Value.iface 106<|.slice xa na ca] 221) (X (G<|H n9) 0) 1 1 [Value.iface 106<|.slice xa na ca] z z (Ek _ _ _) (Y0 z) U U dW ?_;intro bT w3 b g;obtain⟨br,bq,rfl⟩:=aM b;have f:fE w3 (G<|H w) (.slice ex i ec) 218:=(g.dF.block _ (az<|HV.aE<|.cells #[Value.iface 106<|.slice xa na ca] 221)<|λaa=>bP<|(s.lt _ aa.symm).1).trans<|HV.aE _;have ab:=f.u;have ac:=f.bS;clear f;have al:=ak b;have N:=ak g;clear b g));let⟨bs,q1,q2,q3⟩:=aV.jj (x:=Value.iface 106<|am xa na ca) HV L (ag K▸s) N<|ag K▸al;have ap:=(q2.A cb (az F) T).trans F;have T:¬bs cb:=λaa=>(q3 cb aa).elim T<|λcn=>(bP<|az F);generalize cP w3 (X (G<|H w) 0) (am br (i+1) bq)=an at q1 ap|-;have d:y (x++[Value.iface 106<|am xa na ca])=i+1:=(by rw[ai,ag K];rfl);generalize x++[Value.iface 106<|am xa na ca]=x at q1 d e;have B:=ak q1;have hK:=ak ap;clear q1 q2 q3 ap HV s L aV F K N al ad ab ac;clear bf bg;let⟨i,ba,ck⟩:∃aU,i+1=aU/\aU<=i+1:=⟨_,rfl,aq _⟩;rw[ba]at d;clear ba));rw[roundsIn_succ];let⟨cd,v,c,t⟩:=B.bV;have:bA an (X (G<|H w) 0)=M cd:=v.u;obtain⟨ch,ce,D⟩:=aM c;subst D;gi_wp2;have bm:=iB an cb<|.deferred dE;refine⟨ar,J ⟨_,_,z,run_takeDeferred hK,?_⟩⟩;refine⟨_,gG z _ _ _,?_⟩;have c:=ag<|ak c;have hB:=t;subst bb;rw[e]at c hB;refine⟨_,z,?_,B.aA.aj bm<|λA r=>bj (by subst r;omega)⟩;obtain⟨h1,⟨h2,h0⟩|⟨cm,cp,bv,h2,hb,av⟩⟩:=bm.aZ c<|λA r aa=>T<|(hB cb).2<|bj<|aa▸r;exact⟨h1,J ⟨h2,h0⟩⟩;exact⟨h1,bj ⟨cm,cp,bv,h2,U,av⟩⟩)
end
def Fw.aA{w w':Z}{d:cy (ae×dI)}{S:fB}(h:Fw w c k d)(g:I S w w')(m:¬S c)(n:∀i(a:i<y d),∀j,cN d[i].1=M j->¬S j):Fw w' c k d:=⟨h.dL,λi a=>g.u (h.u i a) m h.lt,λi a=>g.bV (h.bV i a)<|λj e=>⟨n i a j e,h.l i a j e⟩,λi a j e=>au (h.l i a j e) g.D,h.f⟩
def ri{e:Addr}(h:fD a b c 1 (am (M e) k n) k Q):∀l u,Q[l]?=M u->bA a (e.add l)=M u:=by
 intro l u i;obtain⟨o,⟨d,_⟩|⟨t,m,f,d,p,g,r,q,s,j⟩⟩:=h;cases d;cases d;rw[dS,cE g,ez];rw[<-j,qJ]at i;grind
def zD(a:ae)(b c d e:ae×dI):iE:=.iface 103 a::qA b c d e
def Gt(q s t u:ae×dI)(h:cU a c o r)(g:Option Addr)(f e:R)(ab:o.L=am g f e)(hl:Fw a c 10 [q,s,t,u]):cR bN 108 #[aJ c] a λax w'=>∃v',ax=aN v'/\fD w' (G<|H a) 221 1 v' (y (qA q s t u)+1) (zD o.L q s t u)/\I aC a w':=by
 let⟨i0,V,ac,ad,al⟩:=cZ LW;have v:=cU.bW h 7 z;have n:=az h;have l:=ak<|λW(K:I aC a W)=>Sq (w:=W) (lb:=c) (lo:=10) q s t u<|hl.aA K id<|λ_ _ _ _=>id;have C:y (qA q s t u)<=20000000003/\1<=y (qA q s t u):=by have:=hl.f;simp[qA,nB]at this|-;omega
 have E:∀k∈qA q s t u,k.oneCell'=cz:=by intro k d;simp only[qA,aP,pT,cC,bY]at d;obtain((⟨p,_,rfl⟩|rfl)|rfl)|rfl:=d<;>rfl
 let⟨an,hn⟩:∃an,y (qA q s t u)=an:=⟨_,rfl⟩;rw[hn]at C;unfold zD;rw[ab]at v|-;generalize aD:qA q s t u=VS at*;go_in
 go_wp21;rename_i QQ KK Q;refine cX (λj4=>bA j4 (X c 7)=M (am g f e)) 11 aH ?_;have A:bA a.drew (X c 7)=M (am g f e):=v;refine dH 0 ?_;iterate 5 (refine fW A ?_;simp only[ig,eh,jZ])
 apply eS;refine dH 6 ?_;iterate 3 (refine fW A ?_;simp only[ig,eh,jZ])
 apply eS;have D:∀(W:Z)(b:R),W.heap[b]?=M (aK #[.iface 103<|am g f e] 221 (0,0))->G (H a)<=b->fD W (G<|H a) 221 1 (bX b 0 1 1) 1 [.iface 103<|am g f e]:=by intro W b S d;exact⟨z,bj ⟨b,1,#[.iface 103<|am g f e],z,d,S,aq _,by unfold maxLen;omega,z,z⟩⟩
 refine wl (α:=R×ae) (λN W=>I aC a W/\W.heap[N.1]?=M (aK #[.iface 103<|am g f e] 221 (0,0))/\G (H a)<=N.1/\fD W (G<|H a) 221 1 N.2 an VS/\cN N.2≠M N.1) (λN=>{tmps:=#[aJ c,jm,aF,aJ c,aJ c,ee<|M<|X c 7,am g f e,.iface 103<|am g f e,bX N.1 0 1 1,aJ c,aJ c,ee<|M<|X c 10,N.2,jm],defers:=[]}) #[true,true,true,true,true,true,true,true,true,true,false,false] 2 ?_ ?_;(.intro F;refine vi (i:=5) (j:=9) z z z z aH ?_ ?_;(.intro ao P;go_simp;have w:I aC a (dw a<|aK #[.iface 103<|am g f e] 221).drew:=(cI aC a).df z;have L9:(dw a<|aK #[.iface 103<|am g f e] 221).drew.heap[G<|H a]?=M (aK #[.iface 103<|am g f e] 221 (0,0)):=aQ (w:=a) _ z;refine P _ _ (λ_=>w.u v id n) ?_;refine aW 9 ?_;intro K2 m;go_simp;go_call l _ w as ax L⟨v1,rfl,d,p⟩;have O:=(p.A _ (az L9) id).trans L9;have k:=w.t p;refine m _ _ (λ_=>k.u v id n) ?_;have aa:=λr a=>(d.lt r a).1;simp at aa;refine lB (F (G<|H a,v1) L ⟨k,O,aq _,?_,?_⟩) aH;rw[hn]at d;obtain⟨q1,⟨q2,q0⟩|⟨aV,cp,B,q2,qb,x⟩⟩:=d;(grind);exact⟨q1,bj ⟨aV,cp,B,q2,aI,x⟩⟩;grind);intro ao P;go_simp;go_call l _ (cf _ a)as ax L⟨v1,rfl,d,p⟩;have k:I aC a L:=(cf aC a).t p;refine P _ _ (λ_=>k.u v id n) ?_;refine aW 5 ?_;intro K2 m;go_simp;have w:=k.aE<|aK #[.iface 103<|am g f e] 221;refine m _ _ (λ_=>w.u v id n) ?_;refine lB (F (G<|H L,v1) _ ⟨w,aQ _ z,k.D,?_,?_⟩) aH;rw[hn]at d;exact bC d _;intro ap;have:=(d.lt _ ap).2;omega);rintro⟨b,aa⟩W⟨K,S,P,x,aU⟩;have F:=D W b S P;(obtain⟨ao,d,rfl⟩:∃a ap,aa=am (M a) an ap:=by obtain⟨_,h0⟩|⟨aV,av,B,h2,_⟩:=x.2;omega;grind);refine aW 10 ?_;intro K2 m;simp only[dl,cF,cO];refine lN (.tmp 8) (.tmp 12) 218 z (G<|H a) 221 i0 ib 1 16 underlying218 V ac ad al z cg (bX b 0 1 1) 1 [.iface 103<|am g f e] z F ao an d VS z x.1 ?_ E U U K.D ?_;exact ri x;intro v3 w3 p O;let⟨x3,c3,L⟩:=aM p;subst L;have k:I aC a w3:=K.aj (gH O.dF) aI;refine m _ _ (λ_=>k.u v id n) ?_;simp only[ig,eh];refine aW 11 ?_;intro K3 w;go_simp;refine w _ _ wW ?_;refine dG aH ?_ _;show KK _ _;apply Q;go_wp2;go_ret;refine⟨_,z,?_,k⟩;rw[show an+1=1+an from Cj _ _];exact p
def Ie{I2:Y}{hh:Array ae}{kb:cy (ae×dI)}{m8:ae->ae->Array ae}(bE e g:R)(g9 xa xd:Option Addr)(em hg na ca nd cd:R)(bi ao:dI)(h1:uD s c (bX bE e (y l) g) l a)(ge:y l<=g)(it:0<y l)(h2:uD s c (am g9 em hg) v a)(gs:Row a 1 (am xa na ca) (y bi) (bi.map cH.D))(gt:Row a 1 (am xd nd cd) (y ao) (ao.map cH.D))(db:∀k,cN (am xa na ca)=M k->k<c/\¬s.F k)(dk:∀k,cN (am xd nd cd)=M k->k<c/\¬s.F k)(kd:s.D a)(o:c<=G (H a))(hF:∀k,s.F k->k<c)(kf:Steps a)(gb:1<c/\¬s.F 1)(lr:y l+y v+y bi+y ao<=3000000000)(hZ:lT v<=20000000000)(d:eN)(hi:(b=1/\r=1/\I2=3/\hh=#[am xa na ca,bX bE e (y l) g,am g9 em hg,am xd nd cd]/\kb=[((am xa na ca:ae),bi),(bX bE e (y l) g,l),(am g9 em hg,v),(am xd nd cd,ao)]/\m8=(λlD em=>#[am xa na ca,lD,em,am xd nd cd])/\d=ao.isEmpty)\/(b=2/\r=2/\I2=4/\hh=#[am xa na ca,am xd nd cd,bX bE e (y l) g,am g9 em hg]/\kb=[((am xa na ca:ae),bi),(am xd nd cd,ao),(bX bE e (y l) g,l),(am g9 em hg,v)]/\m8=(λlD em=>#[am xa na ca,am xd nd cd,lD,em])/\d=cz))(kn:∀j(hj:j<y l),∀ws:dI,ws.Sublist v->yO (eL<|gy ws::[l[j]].map cH.dq)/\(∀mb∈eL (gy ws::[l[j]].map cH.dq),mb.Good)/\y (eL<|gy ws::[l[j]].map cH.dq)<=3000000000)(N:eD)(mx:Option Addr)(mc:R)(kk:Row a 1 (am mx (y N) mc) (y N) (N.map<|Value.int .u64))(gj:∀k,cN (am mx (y N) mc)=M k->k<c/\¬s.F k)(gi:y N<=4):cR bN 132 #[ef hh,ay r,am mx (y N) mc] a λF m=>(∃xl nl fe xm D ff,∃tm:dI,∃j,∃hj:j<y l,∃t q,F=aN (de #[ef<|m8 (am xl nl fe)<|am xm D ff,ib])/\Iu v (io l[j].ks) (iQ l[j].ks) t q/\fD m (G<|H a) 235 1 (am xl nl fe) (y<|l.take j++l.drop (j+1)) ((l.take j++l.drop (j+1)).map cH.D)/\fD m (G<|H a) 235 1 (am xm D ff) (y<|v.take t++tm++v.drop q) ((v.take t++tm++v.drop q).map cH.D)/\tm.map cH.dq=jp (yz N d [l[j]]<|(v.drop t).take<|q-t)/\sD m (G<|H a) tm/\s.D m/\I s.F a m)\/Es s a m s.F F bL:=by
 have hW:I aC a (dw (dw a<|aK hh 108)<|aK #[aF,aF,aF,aF] 108):=(cI _ a).aE _;generalize bq:dw (dw a<|aK hh 108) (aK #[aF,aF,aF,aF] 108)=ap at hW;have al:ap.heap[G<|H a]?=M (aK hh 108 (0,0)):=by rw[<-bq];grind[gw,aQ]
 have fi:ap.heap[G (H a)+1]?=M (aK #[aF,aF,aF,aF] 108 (0,0)):=by rw[<-bq];exact aQ _ ar
 have bt:∀k,c<=k->¬s.F k:=λk f fd=>bP<|hF k fd
 have dv:∀i,I s.F ap i->Fw i (G<|H a) 0 kb:=by
  intro i K;have ab:∀bk b,Row a 1 bk (y b) (b.map cH.D)->(∀k,cN bk=M k->k<c/\¬s.F k)->Row i 1 bk (y b) (b.map cH.D):=λbk b lm f=>
   K.bV (hW.bV lm<|λk F=>⟨id,au (f k F).1 o⟩) (λk F=>⟨(f k F).2,au (f k F).1<|aR o hW.D⟩)
  have hz:G (H a)<=G (H i):=aR hW.D K.D;have L:∀b bk,hh[b]?=M bk->bA i (X (G<|H a)<|0+b)=M bk:=by
   intro b bk jC;refine K.u ?_ (bt _ o)<|az al;rw[cE al,ez];exact jC
  obtain⟨_,_,_,rfl,rfl,_⟩|⟨_,_,_,rfl,rfl,_⟩:=hi;all_goals
   refine⟨z,λb hi=>?_,λb hi=>?_,λb hi k f=>?_,by simp[nB];omega⟩
   .match b,hi with
    |0,_|1,_|2,_|3,_=>exact L _ _ z
   .match b,hi with
    |0,_|1,_|2,_|3,_=>first|exact ab _ _ gs db|exact ab _ _ h1.bV h1.l|exact ab _ _ h2.bV h2.l|exact ab _ _ gt dk
   .match b,hi with
    |0,_|1,_|2,_|3,_=>first|exact au (db k f).1 (aR o hz)|exact au (h1.l k f).1 (aR o hz)|exact au (h2.l k f).1 (aR o hz)|exact au (dk k f).1<|aR o hz
 have jB:∃S1 S2:Z->Prop,(∀i,I s.F ap i->S1 i/\S2 i)/\(∀O,S1 O->bA O (X (G<|H a) b)=M (bX bE e (y l) g))/\∀O,S2 O->bA O (X (G<|H a)<|b+1)=M (am g9 em hg):=by refine⟨_,_,λi K=>?_,λO h=>h,λO h=>h⟩;(have L:∀b bk,hh[b]?=M bk->bA i (X (G<|H a) b)=M bk:=by intro b bk jC;refine K.u ?_ (bt _ o)<|az al;rw[cE al];exact jC);obtain⟨rfl,_,_,rfl,_⟩|⟨rfl,_,_,rfl,_⟩:=hi<;>exact⟨L _ _ z,L _ _ z⟩
 obtain⟨S1,S2,hC,bc,br⟩:=jB;have ei:=hW.D;have bp:∀i,I aC ap i->kZ s c aC a i:=λi ht=>(hW.t ht).bM o cY cY;have hI:r=(b:R)/\I2=(b+2:R)/\(b=1\/b=2)/\lq kb (b+2)=d:=by obtain⟨rfl,rfl,rfl,_,rfl,_,rfl⟩|⟨rfl,rfl,rfl,_,rfl,_,rfl⟩:=hi;exact⟨z,z,J z,by simp[lq]⟩;exact⟨z,z,bj z,by simp[lq]⟩
 have bs:∀q,cR bN 194 #[aJ<|G<|H a,ay r] (ap.drewN q) λF m=>∃j:R,F=aN (ay j)/\j<y l/\I aC ap m:=by intro q;have ab:=gO aC ap q;have hz:=dv _<|ab.aT cY;rw[hI.1];refine(LI (w:=(ap.drewN q)) (G<|H a) 0 b (ts1:=l) U (by rw[ez];exact bc _ (hC _<|ab.aT cY).1) (by rw[ez];exact br _ (hC _<|ab.aT cY).2) hz.lt ((h1.bM<|bp _ ab).D<|aR o ei) ((h2.bM<|bp _ ab).D<|aR o ei) h2.L.A it hZ).mono ?_;rintro F m⟨j,rfl,hj,lm⟩;exact⟨j,z,hj,ab.t<|I.p (S:=aC) lm⟩
 have V:∀i,I s.F ap i->cR bN 197 #[aJ<|G<|H a,ay I2] i λF m=>F=aN (aO d)/\m=i:=by intro i K;have h:=EK (b+2) kb (dv i K) U;rw[hI.2.2.2]at h;rw[hI.2.1];exact h
 clear hI;obtain⟨cl,bl,hn,HC,hv,HW,ad,hH,ax⟩:=Hp al fi V hC bs hW bt bq bp;obtain⟨H1,H2,HD,HF,HT,cr,hu,HM,cn⟩:=Hp h1 h2 kd hF kf gb kn kk gj;clear h1 h2 gs gt db dk kd hF kf gb kn kk gj al fi dv bs hW bt bq bp V hC;obtain⟨rfl,rfl,rfl,rfl,rfl,rfl,ce⟩|⟨rfl,rfl,rfl,rfl,rfl,rfl,ce⟩:=hi
 all_goals
  clear ce;simp only[jZ]at br;have ey:=ak bc;have bn:=ak br;clear bc br;go_in
  go_wp2_with fail
  go_quiet(fail)
  rw[ag hH];have bs:=hv nq;go_wp2_with fail
  apply bs.mono;rintro F w1⟨j,rfl,hj,gx⟩;have ln:=ey w1 (HC w1<|gx.aT cY).1;have x:=ak gx;obtain⟨j1,dr⟩:=og<|j+1;have e1:(j:Y)+1=(j1:Y):=U;have e2:(j:Y)<=(j1:Y):=U;have e3:(j1:Y)<=(g:Y):=U;have e4:(j1:Y)<=(y l:Y):=U;have e5:(j:Y)<=(g:Y):=U;have e6:¬(g=j):=U;have e7:¬(g-j=0):=U;have e8:IntKind.i64.wrap (j1:Y)=(j1:Y):=by rw[bR];omega
  have e9:(0:Y)<=(j:Y):=U;have lb:(y l:Y)<=(g:Y):=U;have lc:j1-j=1:=U;have HJ:=ak dr;have ll:S1 w1.drew:=(HC _<|(x.t<|cf aC w1).aT cY).1;go_wp2_with fail
  rename_i QQ KK hR;refine cX S1 21 aH ?_;refine dH 0 ?_;iterate 18 (refine vf (v:=?_) ll z aH wO z ?_ ?_;rotate_left;(focus(intro O hX;have z0:=ey O hX;go_simp;try rfl));simp only[ig,eh,jZ])
  apply eS;refine aW 18 ?_;intro hJ ba;go_simp;have fz:jX w1 (bX bE e (y l) g) l:=((H1.bM<|ax w1 x).D<|aR o<|aR ei x.D);have lp:=x.D;have W:=N3 (w1:=w1) (ta:=(l.take j)) (j8:=(l.drop j1)) (G<|H a) (fz.ot j U) (YY fz ge<|bP<|ag HJ) dW U 106;refine ba _ _ (λ_=>?_) ?_
  .exact(HC _<|((x.aE _).t<|cf aC _).aT cY).1
  refine aW 19 ?_;intro hK bb;go_simp;apply W.mono;rintro F p⟨vl,rfl,dT,ed⟩;obtain⟨nl,gk⟩:=og<|y<|l.take j++l.drop j1;rw[gk]at dT;have hy:=ak gk;obtain⟨xl,fe,rfl⟩:=aM dT;have ga:S1 p:=(HC _<|(x.t ed).aT cY).1;refine bb _ _ (λ_=>ga) ?_;refine aW 20 ?_;intro kx fr;go_simp;refine fr _ _ (λ_=>ga) ?_;refine aW 21 ?_;intro ky fs;go_simp;refine fs _ _ wW ?_;refine dG aH ?_ _;show KK _ _;apply hR;generalize(if g=j1 then M ((X bE e):Addr)else M (X bE<|e+j1))=zz at*;have w:I aC ap p:=x.t ed;have Q:=ak w;have hB:=ak dT;have lt:=w.D;have bo:jX p (bX bE e (y l) g) l:=((H1.bM<|ax p w).D U);have lg:jX p (am g9 em hg) v:=((H2.bM<|ax p w).D U);have lo:=bn p (HC p<|w.aT cY).2;have hp:=bo.u hj;have dn:∀ap,ap.heap=p.heap->cR bN 184 #[l[j].D] ap λF m=>F=aN (aw<|io l[j].ks)/\m=ap:=λap hW=>((bo.bZ _<|aB hj).df hW).eJ;have ds:∀ap,ap.heap=p.heap->cR bN 183 #[l[j].D] ap λF m=>F=aN (aw<|iQ l[j].ks)/\∃q,m=ap.drewN q:=λap hW=>((bo.bZ _<|aB hj).df hW).eP;have gd:bE<G (H p):=bo.lt bE z;have hN:G (H a)<G (H p):=bP<|az cl;have hcut:∀i,I aC p i->cR bN 195 #[am g9 em hg,aw<|io l[j].ks,aw<|iQ l[j].ks] i λF m=>∃va vb vc,F=aN (de #[va,vb,vc])/\(∃t q,Iu v (io l[j].ks) (iQ l[j].ks) t q/\jX m va (v.take t)/\jX m vb ((v.drop t).take<|q-t)/\jX m vc (v.drop q)/\(∀k,cN va=M k\/cN vb=M k\/cN vc=M k->cN (am g9 em hg)=M k))/\I aC p m/\S2 m/\bA m (X bE<|e+j)=M l[j].D:=by
   intro i cT;refine(Pf (io l[j].ks) (iQ l[j].ks) ((H2.bM<|ax i<|w.t cT).D<|bP cT.D) H2.L.A).mono ?_;rintro F m⟨t,q,va,vb,vc,rfl,a1,a2,a3,a4,a5,gc⟩;have ec:I aC p m:=cT.t<|I.p (S:=aC) gc;exact⟨va,vb,vc,z,⟨t,q,a1,a2,a3,a4,a5⟩,ec,(HC m<|(w.t ec).aT cY).2,ec.u hp id gd⟩
  unfold cH.D at hp dn ds hcut;have hE:=ak (show∃s1 s2 j8,io l[j].ks=s1/\iQ l[j].ks=s2/\l[j].tb=j8 from⟨_,_,_,z,z,z⟩);obtain⟨s1,s2,j8,cu,cv,aU⟩:=ag hE;rw[cu,cv,aU]at hcut;rw[cu,aU]at dn;rw[cv,aU]at ds;rw[aU]at hp;obtain⟨ho,hq,kq⟩:=eU cu cv aU;obtain⟨hs,bm,hm⟩:=eU dn ds hcut;have g1:IntKind.i64.wrap (2:Y)=2:=by rw[bR];omega
  have g2:IntKind.i64.wrap (3:Y)=3:=by rw[bR];omega
  have cM:S2 p.drew/\bA p.drew (X bE<|e+j)=M (aJ j8):=⟨(HC _<|(Q.t<|cf aC p).aT cY).2,hp⟩;go_wp2_with fail
  rename_i Q6 K6;refine cX (λO=>S2 O/\bA O (X bE<|e+j)=M (aJ j8)) 19 aH ?_;refine dH 0 ?_;iterate 7 (refine vf (v:=?_) cM z aH wO z ?_ ?_;rotate_left;(focus(intro O hX;obtain⟨m9,z1⟩:=hX;have z0:=bn O m9;go_simp;try rfl));simp only[ig,eh,jZ])
  apply eS;refine dH 8 ?_;iterate 3 (refine vf (v:=?_) cM z aH wO z ?_ ?_;rotate_left;(focus(intro O hX;obtain⟨m9,z1⟩:=hX;have z0:=bn O m9;go_simp;try rfl));simp only[ig,eh,jZ])
  apply eS;refine aW 7 ?_;intro K7 hQ;go_simp;apply(hs p.drew z).mono;rintro F E⟨rfl,jE⟩;subst E;refine hQ _ _ (λ_=>cM) ?_;refine aW 11 ?_;intro ks fk;go_simp;apply(bm p.drew z).mono;rintro F E⟨rfl,qq,jE⟩;subst E;refine fk _ _ (λ_=>⟨(HC _<|((Q.t<|cf aC p).t<|gO aC _ _).aT cY).2,hp⟩) ?_;refine aW 12 ?_;intro kt fl;go_simp;apply(hm (p.drewN<|1+qq)<|gO _ _ _).mono;rintro F E⟨va,vb,vc,rfl,ih,gE,bv⟩;refine fl _ _ (λ_=>bv) ?_;refine dH 13 ?_;iterate 4 (refine vf (v:=?_) bv z aH wO z ?_ ?_;rotate_left;(focus(intro O hX;obtain⟨m9,z1⟩:=hX;have z0:=bn O m9;go_simp;try rfl));simp only[ig,eh,jZ])
  apply eS;refine aW 17 ?_;intro kv fn;go_simp;refine fn _ _ (λ_=>bv) ?_;refine aW 18 ?_;intro hJ ba;go_simp;refine ba _ _ (λ_=>bv) ?_;refine aW 19 ?_;intro hK bb;go_simp;refine bb _ _ wW ?_;refine dG aH ?_ _;show K6 _ _;apply QQ;obtain⟨t,q,hO,fu,cx,fv,fx⟩:=ih;obtain⟨jK,hL,hb⟩:=cG fu.bV;obtain⟨el,cs,hc⟩:=cG cx.bV;obtain⟨ka,hM,hd⟩:=cG fv.bV;generalize y (v.take t)=jG at hb;generalize y ((v.drop t).take<|q-t)=ej at hc;generalize y (v.drop q)=jH at hd;subst hb;subst hc;subst hd;have C:I aC ap E:=Q.t gE;have lv:=C.D;have bd:((v.drop t).take<|q-t).Sublist v:=(rK _ _).trans<|mV _ _;have cB:=ax E C;obtain⟨gv,jA,eb⟩:=hu j hj _ bd;have V:=λi(K:I s.F E i)=>hn i<|(C.aT (T:=s.F) cY).aj K<|λ_ h=>J h;have il:cR bN 196 #[bX bE (e+j) 1<|g-j,am el ej cs] E λF m=>(∃a,F=aN (de #[a,ib])/\fD m (G<|H E) 223 4 a (y<|eL<|gy ((v.drop t).take<|q-t)::[l[j]].map cH.dq) (bu<|eL<|gy ((v.drop t).take<|q-t)::[l[j]].map cH.dq)/\s.D m/\I s.F E m)\/Es s E m s.F F (λbk=>de #[aF,bk]):=by
   have fL:=H1.bM cB;have hT:=H2.bM cB;refine GX c bE (e+j) (g-j) (am el ej cs) [l[j]] ((v.drop t).take<|q-t) ?_ (H1.l bE z) ?_ ar ⟨cx.bV,λk f=>H2.l k<|fx k<|bj<|J f,λmd ht=>hT.bZ md<|bd.subset ht,H2.L.kD bd,cx.f⟩ (s.l HD (HW.t C) cY) U HF eb
   .intro b hi;obtain rfl:b=0:=aI;exact fL.u hj
   .intro md ht;rw[bY]at ht;subst ht;exact fL.bZ _<|aB hj
  have eg:I aC a E:=HW.t C;obtain⟨en,hx,ac,co,hr⟩:=nZ (JH (V:=s) (W:=E) (ms:=N) (mx:=mx) (mc:=mc) (eL<|gy ((v.drop t).take<|q-t)::[l[j]].map cH.dq) (eg.bV HM<|λk F=>⟨id,au (cn k F).1 o⟩) (λk F=>⟨bP<|(cn k F).1,(cn k F).2⟩) gi gv eb) (show∀i,I s.F E i->Steps i fromλi ht k f=>ht.u ((HT.bM cB cr) k f) cr.2<|bP cr.1) (show gF (yz N d [l[j]]<|(v.drop t).take<|q-t)/\sk 5 (yz N d [l[j]]<|(v.drop t).take<|q-t)/\(∀mb∈yz N d [l[j]] ((v.drop t).take<|q-t),mb.Good)/\y (yz N d [l[j]]<|(v.drop t).take<|q-t)<=3000000000 from vB gv jA eb gi) (show yz N d [l[j]] ((v.drop t).take<|q-t)=if d then kM (gu N<|eL<|gy ((v.drop t).take<|q-t)::[l[j]].map cH.dq)else gu N (eL<|gy ((v.drop t).take<|q-t)::[l[j]].map cH.dq)from rfl) V;generalize le:eL (gy ((v.drop t).take<|q-t)::[l[j]].map cH.dq)=ML at*;obtain⟨fb,cb⟩:=og<|yz N d [l[j]]<|(v.drop t).take<|q-t;rw[cb]at ac co;have ev:=ak cb;obtain⟨hl,bm,er,ex,bT,hw⟩:=nT hO fu fv C (gE.aZ hB<|λ_ _ fd=>fd) fx;go_wp2_with fail
  apply il.mono;rintro F w1(⟨jI,rfl,P,aV,B⟩|⟨bc,q1,rfl,jk,aV,B⟩);rotate_left
  .have cj:I s.F ap w1:=(ex.aT (T:=s.F) cY).aj B<|λ_ h=>J h;have u:=(cj.A _ (az bl)<|ad _ U).trans bl;have q0:=aX u 0;have lE:=aX u 1;have q2:=aX u 2;have q3:=aX u 3;have g0:=cV (i:=0) u;have g1:=cV (i:=1) u;have g2:=cV (i:=2) u;have g3:=cV (i:=3) u;have av:=ak<|A4 bc jk aV ((HW.aT (T:=s.F) cY).aj cj<|λ_ h=>J h) u U<|ad _ U;go_wp2;obtain⟨r1,r2⟩:=av _ rfl;refine ci (qM z _ _ (G (H a)+1) aF aF aF aF _ _ z r1 ⟨_,_,_,z⟩ ⟨_,_,_,z⟩ ⟨_,_,_,z⟩ ⟨_,_,_,z⟩) z ?_;exact bj r2
  obtain⟨he,fg,rfl⟩:=aM P;have ip:=en.1 w1 _ he fg B P;have cm:=ak aV;have x:=ak B;go_wp2_with fail
  apply ip.mono;rintro F p⟨vn,rfl,ea,bh⟩;have ch:I s.F E p:=x.t bh;have hP:=s.l cm bh cY;obtain⟨xn,kc,rfl⟩:=aM ea;have V:=hr p ch;have hV:=en.2 p _ xn kc ea;have ko:=x.D;obtain⟨eq,Q,hD⟩:=eU hP ch ea;cases d;case' false=>
   obtain rfl:fb=gu N ML:=ag co;go_wp2_with fail
   apply V.mono;rintro F ek⟨rfl,jD⟩;subst ek;obtain⟨cp,aD,eo⟩:=eU (fh (base':=G<|H E) hD U) Q eq;generalize p=w5 at*
  case' true=>
   obtain rfl:fb=kM (gu N ML):=ag co;go_wp2_with fail
   apply V.mono;rintro F ek⟨rfl,jD⟩;subst ek;go_wp2_with fail
   apply hV.mono;rintro F w5⟨vb,rfl,gr,ha⟩;obtain⟨xn,kc,rfl⟩:=aM gr;obtain⟨cp,aD,eo⟩:=eU (fh (base':=G<|H E) gr<|bP Q.D) (Q.t ha)<|s.l eq ha cY
  all_goals
   have iv:=wL (dQ cp) ac.1 ac.2.1 ac.2.2.1 ac.2.2.2 (λk f=>(cp.lt k f).2)<|hx w5 aD;have hS:=ac.2.2.2;go_wp2_with fail
   apply iv.mono;rintro F w4⟨jI,tm,rfl,P,dc,dx,bh⟩;have B:I s.F E w4:=aD.t bh;have aV:=s.l eo bh cY;have dx:=dx.pO (base':=G<|H E) aD.D;have P:=fh (base':=G<|H E) P aD.D;have ed:y tm<=3000000000:=by
    have h1:=cD y dc;rw[cS]at h1;rw[h1];exact aR (zL _) hS
   rw[<-ag ev]at dc;have bf:I s.F ap w4:=(ex.aT (T:=s.F) cY).aj B<|λ_ h=>J h;obtain⟨he,fg,rfl⟩:=aM P;have lx:=B.D;have hU:=(bf.A _ (az cl)<|ad _ o).trans cl;have u:=(bf.A _ (az bl)<|ad _ U).trans bl;have aa:∀k,cN (am jK jG hL)=M k\/cN (am el ej cs)=M k\/cN (am ka jH hM)=M k->k<c/\¬s.F k:=λk f=>H2.l k<|hw k f;have W:=N2 (v.take t) tm (v.drop q) (G<|H a) (B.bV bm.bV<|λk f=>⟨(aa k<|J f).2,bm.lt k f⟩) (λk f=>bP<|(aa k<|J f).1) (dQ P) (λk f=>(aS P k f).2) (B.bV er.bV<|λk f=>⟨(aa k<|bj<|bj f).2,er.lt k f⟩) (λk f=>bP<|(aa k<|bj<|bj f).1) dW U 106;obtain⟨D,cc⟩:=og<|y<|v.take t++tm++v.drop q;rw[cc]at W;have et:=ak cc;have gg:=B.aZ bT<|λk f=>ad k<|bP<|((aS bT) k f).1;obtain⟨es,hA,cm,hG,hk,eA,eB⟩:=zX gg dx aV bf dc hU u;go_wp2_with fail
   apply W.mono;rintro F w5⟨v5,rfl,gn,an⟩;obtain⟨xm,ff,rfl⟩:=aM gn;have vS:=(an.A _ (az eA) id).trans eA;have A:=(an.A _ (az eB) id).trans eB;have p0:=aX vS 0;have f0:=cV (i:=0) vS;have q0:=aX A 0;have k0:=cV (i:=0) A;have p1:=aX vS 1;have f1:=cV (i:=1) vS;have q1:=aX A 1;have k1:=cV (i:=1) A;have p2:=aX vS 2;have f2:=cV (i:=2) vS;have q2:=aX A 2;have k2:=cV (i:=2) A;have p3:=aX vS 3;have f3:=cV (i:=3) vS;have q3:=aX A 3;have k3:=cV (i:=3) A;have av:=ak (show∀(i1 i2:R)(z1 z2 u0 u1 u2 u3:ae)(wf:Z),wf=cP (cP (cP (cP (cP (cP w5 (X (G<|H a) i1) z1) (X (G<|H a) i2) z2) (X (G (H a)+1) 0) u0) (X (G (H a)+1) 1) u1) (X (G (H a)+1) 2) u2) (X (G (H a)+1) 3) u3->wf.heap[G (H a)+1]?=M (aK #[u0,u1,u2,u3] 108 (0,0))/\fD wf (G<|H a) 235 1 (am xl nl fe) nl ((l.take j++l.drop j1).map cH.D)/\fD wf (G<|H a) 235 1 (am xm D ff) D ((v.take t++tm++v.drop q).map cH.D)/\sD wf (G<|H a) tm/\s.D wf/\I s.F a wf from by
    rintro i1 i2 z1 z2 u0 u1 u2 u3 wf rfl;have ls:((cP (cP w5 (X (G<|H a) i1) z1) (X (G<|H a) i2) z2)).heap[G (H a)+1]?=M (aK #[aF,aF,aF,aF] 108 (0,0)):=(kU _ U).trans<|(kU _ U).trans A;have bx:I (λk=>k=G (H a)\/k=G (H a)+1) w5 (cP (cP (cP (cP (cP (cP w5 (X (G<|H a) i1) z1) (X (G<|H a) i2) z2) (X (G (H a)+1) 0) u0) (X (G (H a)+1) 1) u1) (X (G (H a)+1) 2) u2) (X (G (H a)+1) 3) u3):=((((((I.bI _ w5).aL _ _ _<|J<|J z).aL _ _ _<|J<|J z).aL _ 0 _<|J<|bj z).aL _ 1 _<|J<|bj z).aL _ 2 _<|J<|bj z).aL _ 3 _<|J<|bj z;have hY:=DU (a':=u0) (b':=u1) (c':=u2) (d':=u3) ls;generalize cP (cP (cP (cP (cP (cP w5 (X (G<|H a) i1) z1) (X (G<|H a) i2) z2) (X (G (H a)+1) 0) u0) (X (G (H a)+1) 1) u1) (X (G (H a)+1) 2) u2) (X (G (H a)+1) 3) u3=wf at*;have ck:∀k,(k=G (H a)\/k=G (H a)+1)->∃hf,w5.heap[k]?=M (aK hf 108 (0,0)):=by
     rintro k(rfl|rfl)
     .exact⟨_,vS⟩
     .exact⟨_,A⟩
    have bg:∀{bk n xs},fD w5 (G<|H a) 235 1 bk n xs->fD wf (G<|H a) 235 1 bk n xs:=λkl=>bx.aZ kl (λk f fd=>by
     obtain⟨hf,dd⟩:=ck k fd;obtain⟨kz,gf⟩:=fZ kl f;exact lj dd gf cg z)
    refine⟨hY,bg<|an.aZ es<|λ_ _ fd=>fd,bg gn,?_,s.l (s.l cm an cY) bx<|λk f=>ad k (by obtain fd|fd:=f<;>omega),?_⟩
    .refine((hA.aA an).dN bx<|λk f=>?_).pO U;obtain⟨hf,dd⟩:=ck k f;exact⟨hf,_,_,dd,cg,cg,cg⟩
    .exact(((HW.aT (T:=s.F) cY).aj hG (λ_ h=>J h)).t an).aj bx (λk f=>bj (by obtain fd|fd:=f<;>omega)))
   go_wp2;obtain⟨r1,r2,r3,r4,r5,r6⟩:=av _ _ _ _ _ _ _ _ _ rfl;refine ci (qM z _ _ (G (H a)+1) _ _ _ _ _ _ z r1 ⟨_,_,_,z⟩ ⟨_,_,_,z⟩ ⟨_,_,_,z⟩ ⟨_,_,_,z⟩) z ?_;have dr:=ag HJ;subst dr;refine J ⟨xl,nl,fe,xm,D,ff,tm,j,hj,t,q,z,?_,?_,?_,hk,r4,r5,r6⟩
   .rw[ag ho,ag hq];exact hl
   .rw[ag hy];exact r2
   .rw[ag et];exact r3
structure PR(n:R)(rs:iF):Prop where
 JG:T4 rs
 o:∀r∈rs,gF r
 S:∀x∈rs.flatten,x.Good
 da:∀x∈rs.flatten,x.f<=n
def M1(h:S.Good):S.D≠⟨#[]⟩:=λe=>by
 have:=h.L;rw[e]at this;simp[ByteArray.size]at this
def PR.Hm(h:PR b O):∀x∈O.flatten,x.D≠⟨#[]⟩:=λx a=>M1<|h.S x a
def PR.Ak(h:PR b O)(p:b<=c)(m:gF i)(l:∀x∈i,x.Good)(f:∀x∈i,(b:Y)<x.f)(e:∀x∈i,x.f<=c):PR c (i::O):=by
 refine⟨?_,?_,?_,?_⟩;unfold T4;rw[dp];refine⟨λr g n j o k _=>?_,h.JG⟩;have:=h.da o<|dO.2 ⟨r,g,k⟩;have:=f n j;omega;intro r g;obtain rfl|d:=dy.1 g;exact m;exact h.o r d;intro x a;rw[di,aP]at a;obtain d|d:=a;exact l x d;exact h.S x d;intro x a;rw[di,aP]at a;obtain d|d:=a;exact e x d;have:=h.da x d;omega
def lL(a b c d:dI):iF:=(a.map cH.dq).reverse++[gy b,gy c,gy d]
def pP(h:l.map cH.dq=jp i):gy l=i:=by
 unfold gy;rw[h];exact yq i
def PR.bV(h:PR b O):∀r∈O,vR r:=λr a=>⟨h.o r a,λe c=>h.Hm e<|dO.2 ⟨r,a,c⟩⟩
theorem M9{α:Type}(l:cy α)(j:R)(h:j<y l):l=l.take j++[l[j]]++l.drop (j+1):=by
 rw[cw,mG,mf,du]
theorem o7{α:Type}(l:cy α){p q:R}(h:p<=q):l=l.take p++(l.drop p).take (q-p)++l.drop q:=by
 rw[cw,(by rw[List.drop_drop];congr 1;omega:l.drop q=(l.drop p).drop (q-p)),du,du]
def EY(h:((l++v).map cH.dq).Pairwise lI):lI (gy l) (gy v):=by
 rw[bz,eH]at h;intro x f c g;let⟨s,d,a⟩:=lY.1 f;let⟨t,e,b⟩:=lY.1 g;exact h.2.2 _ (ui d) _ (ui e) x a c b
def uK(h:l.map cH.dq=jp i)(p:∀t∈l,B9 a b t)(n:gF i)(f:sk 5 i)(s:∀x∈i,x.Good):∀t∈l,Tp t.ks t.cs/\ny (dK 0 t.cs)/\t.ks=dK 0 t.cs/\y t.dq<=100:=by
 intro t q;let⟨r,g,x,j,k⟩:=p t q;have m:t.dq∈jp i:=by rw[<-h];grind
 have o:=JA f _ m;have c:=DR m;have e:=GL i _ m;have d:∀x∈t.dq,x.Good:=aI;refine⟨?_,k.f.jV e d (n.kD c) o,k.ks,o⟩;rw[k.ks];exact k.f.ua e d<|n.kD c
def AG(h:l.map cH.dq=jp i)(f:∀t∈l,B9 a b t)(d:gF i)(c:sk 5 i)(e:∀x∈i,x.Good):lZ l:=⟨λt g=>(uK h f d c e t g).1.zx,pP h▸d,h▸RZ d⟩
def vP.fl(h:vP L O):kG (iQ L) (io L)=bD:=by
 let⟨x,a,e⟩:=h.p;rw[<-e];exact h.D a
def Qo(h:∀t∈l,vP t.ks t.cs)(a:wV l):∀(d i:R)(b:i+1+d<y l),kG (iQ (l[i]'U).ks) (io (l[i+1+d]).ks)=cz
 |0,i,b=>a i b
 |d+1,i,b=>my (BR (Qo h a d i U) (h _<|aB<|show i+1+d<y l by omega).fl)<|a (i+1+d) U
def Rl(h:∀t∈l,vP t.ks t.cs)(j:wV l):lZ l:=by
 have d:(l.map cH.dq).Pairwise lI:=by rw[List.pairwise_map];refine cW.2 λp r m e n x a c b=>?_;obtain⟨f,rfl⟩:∃f,r=p+1+f:=⟨r-p-1,U⟩;have g:=(h _<|aB m).D a;have i:=(h _<|aB e).xS b;exact BR (Ua g<|Qo h j f p e) i
 refine⟨h,?_,d⟩;refine sF.2 ⟨λs k=>?_,d.imp λq x a c b=>iS.2<|J<|q x a c b⟩;obtain⟨t,o,rfl⟩:=cC.1 k;exact(h t o).o
section
def Yc(h:∀t∈l,vP t.ks t.cs)(a:(l.map cH.dq).Pairwise lI):lZ l:=by
 refine⟨h,?_,a⟩;refine sF.2 ⟨λg c=>?_,a.imp λq x e b f=>iS.2<|J<|q x e b f⟩;obtain⟨t,d,rfl⟩:=cC.1 c;exact(h t d).o
def OW{O p q:R}(hu:lZ l)(i:lZ v)(hj:O<y l)(E:Iu v (io l[O].ks) (iQ l[O].ks) p q)(m:lZ C)(Q:∀V∈gy C,V∈l[O].dq\/V∈gy ((v.drop p).take<|q-p)):lZ (v.take p++C++v.drop q):=by
 have S:=hu.p l[O]<|aB hj;have B:∀j∈gy (v.take p),∀g∈l[O].dq,kG j.D g.D=cz:=by intro j c g d;let⟨t,a,h⟩:=lY.1 c;obtain⟨N,F,rfl⟩:=lG.1 a;(have b:N<p/\N<y v:=by rw[dX]at F;omega);rw[oX]at h;have w:=(i.p v[N]<|aB b.2).D h;have x:=E.f.da N b.2 b.1;have A:=S.xS d;exact BR (DW w x) A
 have D:∀j∈l[O].dq,∀g∈gy (v.drop q),kG j.D g.D=cz:=by intro j c g d;let⟨t,a,h⟩:=lY.1 d;obtain⟨N,F,rfl⟩:=lG.1 a;(have b:q+N<y v:=by rw[iY]at F;omega);rw[rN]at h;have o:q<y v:=U;have w:=E.l o;have x:=S.D c;let⟨V,e,K⟩:=(i.p v[q]<|aB o).p;(have A:kG g.D (io v[q].ks)=bD:=by obtain rfl|T:=fN N;exact(i.p v[q]<|aB o).xS h;rw[<-K];exact sY<|i.D o b U e h);exact BR (DW x w) A
 have n:((v.take p++((v.drop p).take (q-p)++v.drop q)).map cH.dq).Pairwise lI:=by have:=i.L;rwa[o7 v E.le,cw]at this
 have r:=EY n;rw[Fa]at r;have f:=(eH.1<|by rwa[bz]at n).2.1;have s:=EY f;refine Yc (λt a=>?_) ?_;obtain a|a:=aP.1 a;obtain a|a:=aP.1 a;exact i.p t<|ix a;exact m.p t a;exact i.p t<|mU a;rw[bz,bz,eH,eH];refine⟨⟨?_,m.L,λV e W L=>?_⟩,?_,λV e W L=>?_⟩;rw[bz,eH]at n;exact n.1;obtain⟨P,k,rfl⟩:=cC.1 e;obtain⟨t,a,rfl⟩:=cC.1 L;intro j c g d;obtain u|u:=Q g<|lY.2 ⟨t,a,d⟩;exact B j (lY.2 ⟨P,k,c⟩) g u;exact r j (lY.2 ⟨P,k,c⟩) g<|gX _ u;rw[bz,eH]at f;exact f.2.1;obtain⟨t,a,rfl⟩:=cC.1 L;obtain e|e:=aP.1 e;obtain⟨P,k,rfl⟩:=cC.1 e;exactλj c g d=>r j (lY.2 ⟨P,k,c⟩) g<|oP _<|lY.2 ⟨t,a,d⟩;obtain⟨P,k,rfl⟩:=cC.1 e;intro j c g d;obtain u|u:=Q j<|lY.2 ⟨P,k,c⟩;exact D j u g<|lY.2 ⟨t,a,d⟩;exact s j u g<|lY.2 ⟨t,a,d⟩
open Classical in
noncomputable def GJ(k:pS):R:=if k.A=1/\k.eJ≠k.eP then 2 else k.A
noncomputable def qC(a:la):R:=(a.map GJ).sum
noncomputable def ik(a:dI):R:=(a.map<|λt=>qC t.ks).sum
def iJ(a b:dI):ik (a++b)=ik a+ik b:=by simp[ik]
def N4{k:pS}(b:k.Can)(a:eD):y (Ft a k)<=GJ k:=by
 by_cases h:∃c,Je a k c;let⟨c,h⟩:=h;rw[Mw h];have:=h.of.A;unfold GJ;split<;>omega;unfold Ft;rw[Fz h];have:=b.c1;unfold Z9 GJ;split<;>split<;>simp_all<;>omega
def p5(h:∀k∈L,k.Can)(B:R->eD):y (Ef B L).flatten<=qC L:=by
 have a:∀(L:la)(B:R->eD),(∀k∈L,k.Can)->y (L.mapIdx<|λi k=>Ft (B i) k).flatten<=qC L:=by
  intro L;induction L with
  |nil=>intro B _;simp[qC]
  |cons k L c=>
   intro B b;rw[List.mapIdx_cons,di,ai];have:=N4 (b k ar)<|B 0;have:=c (λi=>B<|i+1) (λq a=>b q<|by simp[a]);simp only[qC,bO,fq]at*;omega
 exact a L B h
def G9(h:ny L):qC L<=200:=by
 have a:∀L:la,(∀k∈L,k.Can)->qC L<=2*nC L:=by
  intro L;induction L with
  |nil=>intro _;simp[qC]
  |cons k L c=>
   intro b;have:=c (λq a=>b q<|by simp[a]);have:GJ k<=2*k.A:=by unfold GJ;have:=(b k ar).c1;split<;>omega
   simp only[qC,nC,bO,fq]at*;omega
 have:=a L h.l;have:=h.MY;omega
def N5(a:la):nC a<=qC a:=by
 induction a with
 |nil=>simp[nC]
 |cons k a b=>
  have:k.A<=GJ k:=by unfold GJ;split<;>omega
  simp only[qC,nC,bO,fq]at*;omega
def vN(a:dI):lT a<=ik a:=by
 induction a with
 |nil=>simp[lT,ik]
 |cons t r c=>
  have:=N5 t.ks;simp only[lT,ik,bO,fq]at*;omega
def Lp{cs:iF}(d:y L=y cs)(e:∀i(c:i<y L)(a:i<y cs),L[i].Of cs[i]):qC L=y cs.flatten:=by
 induction L generalizing cs with
 |nil=>cases cs<;>simp_all[qC]
 |cons k L g=>
  obtain _|⟨f,cs⟩:=cs
  .simp at d
  .have h:=g (cs:=cs) (dV d)<|λi c a=>e (i+1) (dV c)<|dV a;have b:k.Of f:=e 0 ar ar;have j:GJ k=y f:=by
    have a:=b.A;unfold GJ;split
    .rename_i q;exfalso;apply q.2;rw[b.eJ,b.eP];have:y f=1:=U;simp[this]
    .exact a
   simp only[qC,bO,fq,di,ai]at*;omega
end
section
open Shelf
theorem Wg{a d:iE}(g:y Q=b*4)(h:c<=b)(i:y a=4)(j:y d=(b+1-c)*4+k):(((Q.take (c*4)++d).take (c*4)++a++(Q.take (c*4)++d).drop (c*4+y a)).take ((c+1)*4)++Q.drop (c*4)++((Q.take (c*4)++d).take (c*4)++a++(Q.take (c*4)++d).drop (c*4+y a)).drop ((c+1)*4+y (Q.drop<|c*4))).take ((b+1)*4)=Q.take (c*4)++a++Q.drop (c*4):=by
 have e:y (Q.take<|c*4)=c*4:=by rw[dX];omega
 have f:(Q.take (c*4)++d).take (c*4)=Q.take (c*4):=mR e;rw[f,mR dW,mR dW]
def Pk(n6 C n i:R)(w:Array ae)(d:iE)(an:n6<=G (H a))(hg:a.heap[C]?=M (aK w 223 (0,0)))(al:w.size=n*4)(s:w.toList.take (n*4)=d)(hv:jP a b S)(hi:i<n)(hn:n<=1000000000)(h1:∀ba∈d,ba.oneCell'=cz):cR bN 191 #[bX C 0 n n,ay i,bX b 0 1 1] a λbc w'=>∃c,bc=aN (bX (G<|H a) 0 (n+1) c)/\fD w' n6 223 4 (bX (G<|H a) 0 (n+1) c) (n+1) (d.take (i*4)++bu [S]++d.drop (i*4))/\I aC a w':=by
 have V:y d=n*4:=by rw[<-s,dX,nG];omega
 have ad:=az hg;have ax:=az hv;let⟨i0,ao,aD,aV,aa⟩:=cZ oO;have B:(prog.info? 223).map (·.size)=M 4:=aH;have O:(n:Y)+1-(i:Y)=((n+1-i:R):Y):=U;have A:i+(n+1-i)=n+1:=U
 have v:(Builtin.firstCells i0.size i<|bX C 0 i n).run bN a.drew=.ok (d.take<|i*4).toArray a.drew:=by
  rw[aV];exact run_firstCells_some a.drew 4 i (X C 0) i n (d.take<|i*4) (by rw[dX];omega) (λbb ba u=>by
   rw[dS,ez];rw[qJ]at u;split at u
   .have:=rX (w:=a.drew) hg s bb ba 0<|dV u;grind
   .cases u)
 have r:∀g,(Builtin.append_ #[103,3] g #[bX C 0 i n,ay<|(n:Y)+1-(i:Y)]).run bN a=.ok (bX (G<|H a) 0 (n+1)<|grownCap a (n+1) n 223) (dw a.drew<|aK ((d.take<|i*4).toArray++Builtin.zeroCells yt.cells (n+1-i)++Builtin.zeroCells yt.cells (grownCap a (n+1) n 223-(n+1))) 223):=λg=>by have h:=Lib.run_append_grow_zeros a 103 3 g 223 i0 _ .i64 .i64 underlying103 underlying3 ao aD (M<|X C 0) i n (d.take<|i*4) v (n+1-i) U U U U (by rw[aa];omega)<|aa▸A▸uS U U;rw[A]at h;rwa[O]
 let⟨c,hG⟩:∃c,c=grownCap a (n+1) n 223:=⟨_,rfl⟩;rw[<-hG]at r;have ac:n+1<=c:=hG▸grownCap_ge a _ _ _;have K:c<=maxLen:=hG▸uT a (n+1) n _ (by unfold maxLen;omega);have:c<=9223372036854775807:=by unfold maxLen at K;omega
 let⟨zs,k⟩:∃zs:iE,zs=(Builtin.zeroCells yt.cells (n+1-i)++Builtin.zeroCells yt.cells (c-(n+1))).toList:=⟨_,rfl⟩;have aU:y zs=(n+1-i)*4+(c-(n+1))*4:=by rw[k];simp[Builtin.zeroCells,yt,Value.cells]
 have j:((d.take<|i*4).toArray++Builtin.zeroCells yt.cells (n+1-i)++Builtin.zeroCells yt.cells (c-(n+1)))=(d.take (i*4)++zs).toArray:=by rw[k,Array.append_assoc];grind
 rw[j]at r;have Q:y (bu [S])=4:=rfl;have T:y (d.drop<|i*4)=(n-i)*4:=by rw[iY,V];omega
 let⟨e,o⟩:∃e,e=d.take (i*4)++zs:=⟨_,rfl⟩;let⟨f,p⟩:∃f,f=e.take (i*4)++bu [S]++e.drop (i*4+y (bu [S])):=⟨_,rfl⟩;let⟨l,q⟩:∃l,l=f.take ((i+1)*4)++d.drop (i*4)++f.drop ((i+1)*4+y (d.drop<|i*4)):=⟨_,rfl⟩;have ap:y e=c*4:=by rw[o,ai,dX];omega
 have av:y f=c*4:=by rw[p];simp only[ai,dX,iY];omega
 have P:y l=c*4:=by rw[q];simp only[ai,dX,iY];omega
 have t:l.take ((n+1)*4)=d.take (i*4)++bu [S]++d.drop (i*4):=by rw[q,p,o];grind[Wg]
 rw[<-o]at r;have L:∀(W:Z),W.heap[G<|H a]?=M (aK e.toArray 223 (0,0))->W.heap[b]?=a.heap[b]?->∀g m,(Builtin.copy_ #[103,102] g #[bX (G<|H a) (i*4) (n+1-i) m,bX b 0 1 1]).run bN W=.ok (goInt<|Nat.min 1<|n+1-i) (W.setRow (G<|H a) f.toArray):=λW hW x g m=>by rw[p];refine tq W _ _ g 223 4 (G<|H a) (i*4) _ m (X b 0) _ 1 e.toArray _ (bu [S]) underlying103 B hW ?_ (λbb ba u=>?_) dW<|DS S;rw[Q];simp only[Nat.min_def];split<;>omega;rw[dS,cE<|x.trans hv,ez];simpa[bu,E.bU]using u
 have N:∀(W:Z),W.heap[G<|H a]?=M (aK f.toArray 223 (0,0))->W.heap[C]?=a.heap[C]?->∀g m sc,(Builtin.copy_ #[103,103] g #[bX (G<|H a) ((i+1)*4) (n-i) m,bX C (i*4) (n-i) sc]).run bN W=.ok (goInt<|Nat.min (n-i)<|n-i) (W.setRow (G<|H a) l.toArray):=λW hW x g m sc=>by rw[q];refine tq W _ _ g 223 4 (G<|H a) ((i+1)*4) _ m (X C<|i*4) _ sc f.toArray _ (d.drop<|i*4) underlying103 B hW ?_ (λbb ba u=>by rw[dS];exact rX (x.trans hg) s bb ba _ u) dW aI;rw[T];grind
 have hA1:((dw a<|aK e.toArray 223).drew).heap[G<|H a]?=M (aK e.toArray 223 (0,0)):=aQ (w:=a) _ z;have hA2:((dw a<|aK e.toArray 223).drew).heap[b]?=a.heap[b]?:=gw (w:=a) _ ax;have F:(((dw a<|aK e.toArray 223).drew.setRow (G<|H a) f.toArray).drew).heap[G<|H a]?=M (aK f.toArray 223 (0,0)):=vY _ _ _ _ _ _ hA1;have ab:(((dw a<|aK e.toArray 223).drew.setRow (G<|H a) f.toArray).drew).heap[C]?=a.heap[C]?:=(uu _ _ _ _ U).trans<|gw (w:=a) _ ad;have D:=ak (show fD ((((dw a<|aK e.toArray 223).drew.setRow (G<|H a) f.toArray).drew).setRow (G<|H a) l.toArray) n6 223 4 (bX (G<|H a) 0 (n+1) c) (n+1) (d.take (i*4)++bu [S]++d.drop (i*4))/\I aC a ((((dw a<|aK e.toArray 223).drew.setRow (G<|H a) f.toArray).drew).setRow (G<|H a) l.toArray)from by refine⟨⟨aI,bj ⟨G<|H a,c,l.toArray,z,an,vY _ _ _ _ _ _ F,ac,K,dV P,t⟩⟩,?_⟩;have t1:I aC a (dw a<|aK e.toArray 223).drew:=(cI aC a).df z;have t2:I aC a ((dw a<|aK e.toArray 223).drew.setRow (G<|H a) f.toArray).drew:=(t1.aj (Ey _ (G<|H a) f.toArray) ar).df z;exact t2.aj (Ey _ (G<|H a) l.toArray) ar);have:=λg m=>L _ hA1 hA2 g m;have:¬((i:Y)=(n:Y)):=U;have:IntKind.i64.wrap ((i:Y)+1)=(i:Y)+1:=by rw[bR];omega
 have:IntKind.i64.wrap ((n:Y)+1)=(n:Y)+1:=by rw[bR];omega
 have:IntKind.i64.wrap ((n:Y)+1-(i:Y))=(n:Y)+1-(i:Y):=by rw[bR];omega
 have:((i:Y)+1).toNat=i+1:=U;have:((n:Y)+1).toNat=n+1:=U;have:(0:Y)<=(i:Y)+1:=U;have:i<=n:=U;have:(i:Y)<=(n:Y)+1:=U;have:(n:Y)<(n:Y)+1:=U;have:¬(c=i):=U;have:¬(c=i+1):=U;have:¬(n=i):=U;have:prog.follows .mixedOrders=cz:=aH;clear o p q ap av P t Q T aU j k hG A O v V s h1 al B hv hg;go_in
 go_wp2_with(at_builtin;refine Lib.wpList_append_run _ z _ _ _ _ z _ _ z z _ _ (r _) ?_)
 go_region_law_o (refine Be z _ _ 103 103 z (bX (G<|H a) ((i+1)*4) (n-i)<|c-(i+1)) (bX C (i*4) (n-i)<|n-i) (by simp[Act.eval,ig]) (by simp[Act.eval,ig]) (N _ F ab 3 _ _) ?_)
 go_wp2;go_ret;exact⟨c,z,D⟩
def SC{w:Z}{n6:R}{v:ae}{n:R}(u:R){xs:iE}{x:E}{vb:R}(r:fD w n6 223 4 v n xs)(C:n6<=G (H w))(s:jP w vb x)(q:cN v≠M vb)(O:u<=n)(p:n<=1000000000)(B:∀Q∈xs,Q.oneCell'=cz):cR bN 191 #[v,ay u,bX vb 0 1 1] w λA i=>∃d,A=aN d/\fD i n6 223 4 d (n+1) (xs.take (u*4)++bu [x]++xs.drop (u*4))/\I (λK=>cN v=M K) w i/\(cN d=cN v\/∃N,cN d=M N/\G (H w)<=N):=by
 have t:=r.1;by_cases l:u=n;(.subst l;go_call SA r C s p as A i⟨d,rfl,j,c⟩;refine⟨d,z,?_,I.eF c.dF<|λK m=>J m,c.f⟩;rwa[<-t,cQ,lh,eu]);obtain⟨rfl,rfl⟩|⟨L,a,e,rfl,k,D,F,o,f,g⟩:=r.2;omega;by_cases b:n+1<=a;refine(LU n6 L a n u e xs k D b (by unfold maxLen at o;omega) f g s (λA=>q (by rw[A];rfl)) U p B).mono ?_;rintro A i⟨rfl,j,c⟩;exact⟨_,z,j,c.aT<|λK m=>J (by rw[m];rfl),J z⟩;obtain rfl:a=n:=U;go_call Pk n6 L a u e xs C D f g s U p B as A i⟨P,rfl,j,c⟩;exact⟨_,z,j,c.aT cY,bj ⟨_,z,aq _⟩⟩
end
def Kz{l m:dB}(h:b<y m):jJ l (m.take<|b+1)=qy (jJ l<|m.take b) m[b]:=by
 unfold jJ;rw[aG h,jR];rfl
def Uv(l:dB)(e:E):y (qy l e)<=y l+1:=by
 have:∀l:dB,y (l.filter<|λx=>ahead x e)+y (l.filter<|ahead e)<=y l:=by
  intro l;induction l with
  |nil=>simp
  |cons x r a=>
   grind[filter_cons_of_pos,filter_cons_of_neg,ng,length_cons]
 have:=this l;unfold qy;grind
def zw(l m:dB):y (jJ l m)<=y l+y m:=by
 unfold jJ;induction m generalizing l with
 |nil=>simp
 |cons e r a=>
  have:=a<|qy l e;have:=Uv l e;grind
def gF.jJ(h:gF i)(m:dB):gF (jJ i m):=by
 induction m generalizing i with
 |nil=>exact h
 |cons e r a=>exact a<|h.qy e
theorem ZS(l:dB)(p:R)(x:E)(h:p<y l):((((bu l).set (p*4)<|aw x.D).set (p*4+1)<|aw x.l).set (p*4+2)<|aO x.dP).set (p*4+3) (bw x.f)=bu (l.set p x):=by
 induction l generalizing p with
 |nil=>simp at h
 |cons a r b=>
  have e:∀(a:E)(r:dB),bu (a::r)=aw a.D::aw a.l::aO a.dP::bw a.f::bu r:=λa r=>by simp[bu,E.bU]
  cases p with
  |zero=>rw[eY,e,e];simp
  |succ p=>
   rw[eO,e,e,<-b p (dV h:p<y r)];rw[show(p+1)*4=p*4+1+1+1+1 by omega];simp_all
def Yv(x:E)(m:fD a b 223 4 (bX c 0 (y i) k) (y i) (bu i))(s:n<y i):fD (cP (cP (cP (cP a (X c<|n*4)<|aw x.D) (X c<|n*4+1)<|aw x.l) (X c<|n*4+2)<|aO x.dP) (X c<|n*4+3)<|bw x.f) b 223 4 (bX c 0 (y i) k) (y<|i.set n x) (bu<|i.set n x):=by
 refine⟨ic _,bj ?_⟩;obtain⟨e,r⟩|⟨q,j,p,e,g,l,d,h,f,o⟩:=m.2;cases e;cases e;refine⟨c,k,_,by rw[gz],g,aY<|aY<|aY<|aY l,by rw[gz];exact d,h,dV f,?_⟩;grind[Array.toList_setIfInBounds,take_set,length_set,ZS]
def VW{r:dB}(h:i.take b++S::i.drop b=r)(c:b<=y i):(bu i).take (b*4)++bu [S]++(bu i).drop (b*4)=bu r:=by
 rw[<-h,ie,show S::i.drop b=[S]++i.drop b from rfl,ie,cw];have a:=cD bu<|du b i;rw[ie]at a;grind[ic,length_take,take_left',drop_left']
def L3{r:dB}(h:i.take b++S::i.drop b=r)(a:b<=y i):y r=y i+1:=by
 rw[<-h,ai,bK,dX,iY];omega
def Xv{t:dB}(h:lF a d i)(hm:lF a w t)(hs:gF i)(hl:y i+y t<=100000000)(bx:∀k,cN d=M k->k<G (H a))(bl:∀k,cN w=M k->k<G (H a)):cR bN 126 #[d,w] a λaV w'=>∃v',aV=aN v'/\fD w' (G<|H a) 223 4 v' (y<|jJ i t) (bu<|jJ i t)/\I aC a w':=by
 have bf:=Ti h U bx;obtain⟨mx,mc,bm⟩:=cG hm;obtain⟨vx,vc,bE⟩:=cG h;subst bm;subst bE;go_in
 go_wp2_with fail
 apply bf.mono;rintro aV w1⟨v1,rfl,aD,bd⟩;obtain⟨x1,c1,bv⟩:=aM aD;subst bv;have bb:=ak<|I.p (S:=aC) bd;go_wp2_with fail
 go_loopw [5,13] (λo b wr=>∃(k:R),k<=y t/\b=ay k/\fD wr (G<|H a) 223 4 o (y<|jJ i<|t.take k) (bu<|jJ i<|t.take k)/\I aC a wr) (λ_ b _=>y t-(intOf b).toNat)
 case atStart=>exact⟨0,bQ _,rfl,aD,bb⟩
 (case round=>obtain⟨k,T,rfl,L,F⟩:=hrel;obtain⟨nx,nc,bp⟩:=aM L;subst bp;by_cases D:k<y t;(.have e1:(k:Y)<(y t:Y):=U;have B:=Kz (l:=i) D;have C:gF (jJ i<|t.take k):=hs.jJ _;have bk:y (jJ i<|t.take k)<=100000000:=gV (zw i<|t.take k)<|uj k t;generalize jJ i (t.take k)=b at L B C bk|-;obtain⟨cb,⟨ax,ca⟩|⟨ba,g,bT,ax,cd,hc⟩⟩:=hm;exfalso;omega;cases ax;have x:ba<G (H a):=bl ba z;have s:=fH t k D;have:ba<G (H wr):=au x F.D;have bq:bA wr (X ba<|g+k*4)=M (aw t[k].D):=F.u (hc _ _ s.1) id x;have br:bA wr (X ba<|g+k*4+1)=M (aw t[k].l):=F.u (by rw[bJ];grind) id x;have bs:bA wr (X ba<|g+k*4+2)=M (aO t[k].dP):=F.u (by rw[bJ];grind) id x;have bt:bA wr (X ba<|g+k*4+3)=M (bw t[k].f):=F.u (by rw[bJ];grind) id x;generalize t[k]=ce at*;obtain⟨e,l,xd,f⟩:=ce;simp only at bq br bs bt;have W:I aC wr (dw wr<|aK #[aw e,aw l,aO xd,bw f] 223):=(cI _ _);have N:=DP (am nx (y b) nc) e f (dw wr<|aK #[aw e,aw l,aO xd,bw f] 223) (dQ<|W.aZ L<|λ_ _ aD=>aD) C U (λba a=>by have:=(L.lt ba a).2;simp;omega);have A:=Lq b ⟨e,⟨#[]⟩,bD,f⟩;by_cases ao:∃h:mO b ⟨e,⟨#[]⟩,bD,f⟩<y b,b[mO b ⟨e,⟨#[]⟩,bD,f⟩].D=e/\b[mO b ⟨e,⟨#[]⟩,bD,f⟩].f=f;(.obtain⟨Q,P,K⟩:=ao;have aU:=Uu C ⟨e,l,xd,f⟩ Q P K;have aa:=ak<|show b.set (mO b ⟨e,⟨#[]⟩,bD,f⟩) ⟨e,l,xd,f⟩=qy b ⟨e,l,xd,f⟩from aU;generalize mO b ⟨e,⟨#[]⟩,bD,f⟩=p at*;have e2:(p:Y)<(y b:Y):=U;have e3:(0:Y)<=(p:Y):=U;(go_wp2_with fail);apply N.mono;rintro aV c⟨rfl,v⟩;have u:jP c (G<|H wr) ⟨e,l,xd,f⟩:=(v.block _ ar).trans<|aQ _ z;have r:I aC wr c:=W.t<|I.p (S:=aC) v;have o:=r.aZ L<|λ_ _ aD=>aD;obtain⟨q0,q1,q2,q3⟩:=u.bU;have av:=az u;simp only at q0 q1 q2 q3;have bi:∀m,cN (am nx (y b) nc)=M m->m<G (H wr):=λm s=>(L.lt m s).2;obtain⟨h2,h0⟩|⟨m,ab,bL,h2,bh,s,ap,bn,bg,j⟩:=o.2;exfalso;omega;cases h2;have:m≠G (H wr):=λaV=>bP<|bi m z;have cc:=fH b p Q;(have r0:bA c (X m<|p*4)=M (aw b[p].D):=by simpa using rX s j _ _ 0 sM);(have r1:bA c (X m<|p*4+1)=M (aw b[p].l):=by simpa using rX s j _ _ 0 sM);(have r2:bA c (X m<|p*4+2)=M (aO b[p].dP):=by simpa using rX s j _ _ 0 sM);(have r3:bA c (X m<|p*4+3)=M (bw b[p].f):=by simpa using rX s j _ _ 0 sM);(have f0:∀j,iH c (X m j)=bD:=λj=>by simp[World.frozen?,s]);have ac:=f0<|p*4;have ad:=f0<|p*4+1;have al:=f0<|p*4+2;have an:=f0<|p*4+3;generalize G (H wr)=eb at*;generalize b[p]=O at*;obtain⟨yk,yv,yd,yb⟩:=O;simp only at r0 r1 r2 r3 P K;subst P;subst K;go_wp2;(go_quiet(fail));have hd:I aC c (c.drewN nq):=I.p<|below_drewN (Below.refl _ _) _;have V:=ak<|hd.aZ o<|λ_ _ aD=>aD;have bc:=ak<|(F.t r).t hd;have:eb<G (H<|c.drewN nq):=av;(replace r0:bA (c.drewN nq) (X m<|p*4)=_:=r0);(replace r1:bA (c.drewN nq) (X m<|p*4+1)=_:=r1);(replace r2:bA (c.drewN nq) (X m<|p*4+2)=_:=r2);(replace r3:bA (c.drewN nq) (X m<|p*4+3)=_:=r3);(replace q0:bA (c.drewN nq) (X eb 0)=_:=q0);(replace q1:bA (c.drewN nq) (X eb 1)=_:=q1);(replace q2:bA (c.drewN nq) (X eb 2)=_:=q2);(replace q3:bA (c.drewN nq) (X eb 3)=_:=q3);(replace ac:iH (c.drewN nq) (X m<|p*4)=_:=ac);(replace ad:iH (c.drewN nq) (X m<|p*4+1)=_:=ad);(replace al:iH (c.drewN nq) (X m<|p*4+2)=_:=al);(replace an:iH (c.drewN nq) (X m<|p*4+3)=_:=an);generalize c.drewN nq=w3 at*;go_wp2;have bo:∀k,k=m->G (H a)<=k:=λk T=>T▸(V.lt m z).1;refine⟨⟨k+1,D,dM,?_,?_⟩,by simp[intOf];omega⟩;rw[B,<-ag aa];exact Yv ⟨yk,l,xd,yb⟩ V Q;refine(((bc.aL _ _ _ ?_).aL _ _ _ ?_).aL _ _ _ ?_).aL _ _ _ ?_<;>exact bj<|bo m z);(.have aa:=Uw C ⟨e,l,xd,f⟩<|C.zap ⟨e,l,xd,f⟩<|λa aV=>ao ⟨a,aV⟩;have K:=ak<|show b.take (mO b ⟨e,⟨#[]⟩,bD,f⟩)++⟨e,l,xd,f⟩::b.drop (mO b ⟨e,⟨#[]⟩,bD,f⟩)=qy b ⟨e,l,xd,f⟩from aa;generalize mO b ⟨e,⟨#[]⟩,bD,f⟩=p at*;(go_wp2_with fail);apply N.mono;rintro aV c⟨rfl,v⟩;have u:jP c (G<|H wr) ⟨e,l,xd,f⟩:=(v.block _ ar).trans<|aQ _ z;have r:I aC wr c:=W.t<|I.p (S:=aC) v;have o:=r.aZ L<|λ_ _ aD=>aD;obtain⟨q0,q1,q2,q3⟩:=u.bU;have:=az u;simp only at q0 q1 q2 q3;have:=F.D;have:=r.D;have al:=ak (λ(q:R)=>show _/\_/\_ from have V:I aC c (dw (c.drewN q)<|aK #[aw e,aw l,aO xd,bw f] 223):=(I.p (S:=aC)<|below_drewN (Below.refl _ c) q).aE _;have ac:=V.aZ o<|λ_ _ aD=>aD;⟨SC (w:=(dw (c.drewN q)<|aK #[aw e,aw l,aO xd,bw f] 223)) (n6:=G<|H a) (v:=(am nx (y b) nc)) (n:=y b) p (xs:=(bu b)) (x:=⟨e,l,xd,f⟩) (vb:=G<|H c) ac (bP V.D) (aQ _ z) (λaV=>bP<|(o.lt _ aV).2) A U<|YD b,(F.t r).t V,λk T=>(ac.lt k T).1⟩);(have P:(∃m,nx=M (X m 0)/\∃O:E,p<y b/\bA c (X m<|p*4)=M (aw O.D)/\bA c (X m<|p*4+3)=M (bw O.f)/\(O.D≠e\/(O.D=e/\O.f≠f)))\/((p:Y)<(y b:Y))=False:=by by_cases Q:p<y b;left;obtain⟨h2,h0⟩|⟨m,ab,bL,h2,bh,s,ap,bn,bg,j⟩:=o.2;omega;cases h2;have:=fH b p Q;refine⟨m,z,b[p],Q,by simpa using rX s j _ _ 0 sM,by simpa using rX s j _ _ 0 sM,?_⟩;by_cases T:b[p].D=e;simp_all;simp_all;simp_all);generalize G (H wr)=eb at*;obtain⟨m,rfl,⟨yk,yv,yd,yb⟩,Q,r0,r3,hy|⟨rfl,hy⟩⟩|e2:=P;(case' inl.inl=>simp only at r0 r3 hy;have e2:(p:Y)<(y b:Y):=U;have e3:(0:Y)<=(p:Y):=U;have e4:=DA hy);(case' inl.inr=>simp only at r0 r3 hy;have:(p:Y)<(y b:Y):=U;have:(0:Y)<=(p:Y):=U;have:(yb==f)=bD:=dV hy);(all_goals(go_wp2_with fail);(go_quiet(fail));obtain⟨aU,av,an⟩:=al nq;(go_wp2_with fail);apply aU.mono;rintro aV w4⟨v4,rfl,ad,bc,_⟩;obtain⟨x4,c4,bi⟩:=aM ad;subst bi;go_wp2;refine⟨⟨k+1,D,dM,?_,?_⟩,by simp[intOf];omega⟩;rw[B,L3 (ag K) A,<-VW (ag K) A];exact ad;exact av.aj bc<|λk T=>bj<|an k T)));have:¬(k:Y)<(y t:Y):=U;let⟨b,c,e⟩:=eU (show jJ i t=jJ i (t.take k)by rw[(U:k=y t),cQ]) L F;go_wp2;go_ret;exact⟨_,z,ag b▸c,e⟩)
section
open Shelf
def LM:Go.Shelf.Ren:=⟨λ|25=>161|n=>n,λ|9=>9|3=>3|4=>4|37=>31|0=>0|47=>369|5=>5|n=>n,λ|n=>n⟩
def Zc:Go.Proofs.LaysPu.n25 bN LM:={mixed:=by kernel_rfl,f25:=func161.trans (cD M<|by kernel_rfl),t0:=underlying0,a0:=isAgg0,z0:=sizeOf0,v0:=zeroValue0,i0:=by kernel_rfl,t3:=underlying3,a3:=isAgg3,z3:=sizeOf3,v3:=zeroValue3,i3:=by kernel_rfl,t4:=underlying4,a4:=isAgg4,z4:=sizeOf4,v4:=zeroValue4,i4:=by kernel_rfl,t5:=underlying5,a5:=isAgg5,z5:=sizeOf5,v5:=zeroValue5,i5:=by kernel_rfl,t9:=underlying9,a9:=isAgg9,z9:=sizeOf9,v9:=zeroValue9,i9:=by kernel_rfl,t37:=underlying31,a37:=isAgg31,z37:=sizeOf31,v37:=zeroValue31,i37:=by kernel_rfl,t47:=underlying369,a47:=isAgg369,z47:=sizeOf369,v47:=zeroValue369,i47:=by kernel_rfl}
def rA(s:af)(w:Z)(d:s.size<=281474976710656):cR bN 109 #[aw s] w λe a=>e=aN (aw s)/\gC (G<|H w) w a:=by
 have h:=AnyPu.stringslite_Clone Zc s w d;have c:cR bN 161 #[aw s] w λe a=>e=aN (aw s)/\gC (G<|H w) w a:=h;clear h;go_in
 go_wp2_with fail
 apply c.mono;rintro e f⟨rfl,b⟩;have HB:=ak b;clear b;go_wp2;go_ret;exact⟨z,HB⟩
end
section
open Extern.Stop Stop Extern
def Rz(v:ae)(w:Z):(ReflectliteType.typeOf #[.iface 155 v]).run bN w=.ok (.iface 256<|ef #[ee<|M<|X (7) 155]) w:=aH
def Gx(w:Z):(ReflectliteType.relation "AssignableTo" ReflectliteType.assignableTo #[ef #[ee<|M<|X (7) 155],.iface 256<|ef #[ee<|M<|X (7) 47]]).run bN w=.ok (aO bD) w:=aH
def zea(v:ae)(a:TypeId)(w:Z):(Instr.typeAssert (.iface 155 v) a 260 cz).run bN w=.ok (de #[ib,aO bD]) w:=run_typeAssert_lacksB underlying260 aH aH v a w
def O6(n:Y)(d:R)(t:Addr)(qN:ae)(b:bA a (X d 1)=M (ay n))(f:jO a)(c:bA a t=M qN)(e:iH a t=bD):cR bN 32 #[.iface 155<|aJ d,.iface 113<|ee<|M t] a λj g=>j=aN (aO cz)/\g=((A6 113 t a).alloc<|aK #[ay n] 47).setCell t (ay n):=by
 unfold jO at f;have:=rx6;have:=rx7;have:=rx8;have:=V4;have:=V2;have:=V1;have:=V7;have:=V3;have:=V6;have:=V5;have:=yl;have:=Rz;have:=Gx;have:=zea;have:=KB;have:=yy;have:=AT;have:=oU;have:=zG;have:=EF;have:=EE;have:=NO;have:=wI;have:=wJ;have:=ql;have:=NR;have:=NS;have:=NU;have:=zF;have:=Js (X (G<|H a) 0) t (asA 113 t a) ar;have k:=cA _ _ f;have:=(Cb 113 t (aK #[] 0) k).1.trans f;have l:=Bu d n (A6 113 t a)<|(Cb 113 t (aK #[] 0)<|cA _ _ b).2.1.trans b;have:=Jt (X (G<|H a) 0) t _<|Tn 113 t;have i:=Cb 113 t (aK #[ay n] 47)<|cA _ _ c;have:=TM t (X (G (H a)+1+1+1) 0) n qN ((A6 113 t a).alloc<|aK #[ay n] 47) (by rw[tE _ _ _ _ ar];rfl) (i.2.2.1.trans c)<|i.2.2.2.trans e;go_in
 go_wp2;refine iW 2 ?_;rw[im];go_wp21;go_call l as o g⟨rfl,m⟩;subst g;go_wp2;rw[im];go_wp2;go_ret;simp_all
def XM{q:R}(d:rC a q r)(j:jO a):cR bN 11 #[eW q] a λm l=>m=aN (ay r)/\gC (G<|H a) a l:=by
 let⟨e,d,_⟩:=d;have k:bA (dw a<|aK #[ay 0] 47) (X (G<|H a) 0)=M (ay 0):=ar;have i:iH (dw a<|aK #[ay 0] 47) (X (G<|H a) 0)=bD:=ar;have g:=O6 r q (X (G<|H a) 0) (ay 0) (aX ((gw (aK #[ay 0] 47)<|az d).trans d) 1 z) (j.aE _) k i;have:=AT;go_in
 go_wp2_with(go_at_call 32;refine g.mono ?_;rintro m f⟨rfl,b⟩;have c:gC (G<|H a) a f:=(b▸((((((Below.refl _ a).alloc (aq _) _).alloc ar _).alloc dW _).alloc dW _).alloc dW _).setCell (p:=(X (G<|H a) 0)) (aq _) _);have:bA f (X (G<|H a) 0)=M (ay r):=(b▸pY _ _ _ (by rw[eZ _ _ _ dW,eZ _ _ _ dW,eZ _ _ _ dW,eZ _ _ _ ar];simp));have HB:=ak c;clear b c)
 go_ret;exact⟨z,HB⟩
def Lb(t:Addr)(w:Z):(ReflectliteValue.unpack<|.iface 298<|ee<|M t).run bN w=.ok (ef #[ee<|M<|X (7) 298,aJ<|G<|H w,bw 150]) (dw w<|aK #[ee<|M t] 298):=aH
def Ve(a:Addr)(w:Z):(ReflectliteValue.methodAny (ReflectliteValue.valueError "reflectlite.Value.Type" 0) (λt _ _ _=>ReflectliteType.toType t) #[ef #[ee<|M<|X (7) 298,ee<|M a,bw 150]]).run bN w=.ok (.iface 256<|ef #[ee<|M<|X (7) 298]) w:=aH
def Vg(w:Z):((ReflectliteType.abiMethod λt=>(λa:R=>Value.int IntKind.u8 (a:Y))<$>Rtype.kind t) #[ee<|M<|X (7) 298]).run bN w=.ok (sA 22) w:=aH
def Vh(w:Z):((ReflectliteType.abiMethod λt=>(λa:R=>Value.int IntKind.u8 (a:Y))<$>Rtype.kind t) #[ee<|M<|X (7) 155]).run bN w=.ok (sA 22) w:=aH
def Gw(a:Addr)(w:Z):(ReflectliteValue.parts<|ef #[ee<|M<|X (7) 298,ee<|M a,bw 150]).run bN w=.ok (M (298,a,150)) w:=aH
def RD(b p:Addr)(W:Z)(a:bA W b=M (ee<|M p)):(ReflectliteValue.method (ReflectliteValue.valueError "reflectlite.Value.IsNil" 0) ReflectliteValue.isNil #[ef #[ee<|M<|X (7) 298,ee<|M b,bw 150]]).run bN W=.ok (aO bD) W:=by
 rw[rlm];simp only[jx,Gw,Result.andThen];simp[ReflectliteValue.isNil,loadVar,isAgg,underlying,underlying298,a,Result.andThen]
def Vi(w:Z):(ReflectliteType.method ReflectliteType.elem #[ef #[ee<|M<|X (7) 298]]).run bN w=.ok (.iface 256<|ef #[ee<|M<|X (7) 155]) w:=aH
def Fj(w:Z):(ReflectliteType.relation "Implements" ReflectliteType.implements_ #[ef #[ee<|M<|X (7) 155],.iface 256<|ef #[ee<|M<|X (7) 44]]).run bN w=.ok (aO cz) w:=aH
def NP(v:ae)(w:Z):(ReflectliteType.typeOf #[.iface 155 v]).run bN w=.ok (.iface 256<|ef #[ee<|M<|X (7) 155]) w:=aH
def Fk(w:Z):(ReflectliteType.relation "AssignableTo" ReflectliteType.assignableTo #[ef #[ee<|M<|X (7) 155],.iface 256<|ef #[ee<|M<|X (7) 155]]).run bN w=.ok (aO cz) w:=aH
def Lc(n:R)(w:Z):(ReflectliteValue.unpack<|.iface 155<|aJ n).run bN w=.ok (ef #[ee<|M<|X (7) 155,aJ<|G<|H w,bw 150]) (dw w<|aK #[aJ n] 155):=aH
def NV(w:Z):(Rtype.elem? 298).run bN w=.ok (M 155) w:=aH
def G6(p:Addr)(w:Z):(ReflectliteValue.mk 155 p ReflectliteValue.flagAddr).run bN w=.ok (ef #[ee<|M<|X (7) 155,ee<|M p,bw 406]) w:=aH
def RE(b p:Addr)(W:Z)(a:bA W b=M (ee<|M p)):(ReflectliteValue.method (ReflectliteValue.valueError "reflectlite.Value.Elem" 0) ReflectliteValue.elem #[ef #[ee<|M<|X (7) 298,ee<|M b,bw 150]]).run bN W=.ok (ef #[ee<|M<|X (7) 155,ee<|M p,bw 406]) W:=by
 rw[rlm];simp only[jx,Gw,Result.andThen];simp[ReflectliteValue.elem,loadVar,isAgg,underlying,underlying298,a,Result.andThen,NV,G6]
def NQ(a:Addr)(w:Z):(ReflectliteValue.parts<|ef #[ee<|M<|X (7) 155,ee<|M a,bw 406]).run bN w=.ok (M (155,a,406)) w:=aH
def RC(a:Addr)(w:Z):(ReflectliteValue.parts<|ef #[ee<|M<|X (7) 155,ee<|M a,bw 150]).run bN w=.ok (M (155,a,150)) w:=aH
def NW(w:Z):(Rtype.directlyAssignable 155 155).run bN w=.ok cz w:=aH
def Yl(a e:Addr)(n:R)(qN:ae)(W:Z)(b:bA W e=M (aJ n))(d:bA W a=M qN)(c:iH W a=bD):(ReflectliteValue.set #[ef #[ee<|M<|X (7) 155,ee<|M a,bw 406],ef #[ee<|M<|X (7) 155,ee<|M e,bw 150]]).run bN W=.ok (de #[]) (cP W a<|aJ n):=by
 rw[rls];simp only[jx,NQ,RC,Result.andThen];simp[ReflectliteValue.flagAddr,loadVar,isAgg,underlying,underlying155,b,Result.andThen,NW,storeVar,Value.cells,storeCells,Addr.add];rw[Dr bN W a _ _<|by rfl];simp[d,c]
def zal(n:R)(t:Addr)(qN:ae)(d:jO a)(b:bA a t=M qN)(c:iH a t=bD):cR bN 32 #[.iface 155<|aJ n,.iface 298<|ee<|M t] a λf i=>f=aN (aO cz)/\i=((A6 298 t a).alloc<|aK #[aJ n] 155).setCell t (aJ n):=by
 unfold jO at d;have:=rx6;have:=rx7;have:=rx8;have:=V4;have:=V2;have:=V1;have:=V7;have:=V3;have:=V6;have:=V5;have:=NP;have:=oU;have:=Fk;have:=Lc;have:=Lb;have:=Ve;have:=wI;have:=wJ;have:=ql;have:=Vg;have:=Vh;have:=Vi;have:=Fj;have:=RD (X (G<|H a) 0) t (asA 298 t a) ar;have g:=cA _ _ d;have:=(Cb 298 t (aK #[] 0) g).1.trans d;have:=RE (X (G<|H a) 0) t _<|Tn 298 t;have e:=Cb 298 t (aK #[aJ n] 155)<|cA _ _ b;have:=Yl t (X (G (H a)+1+1+1) 0) n qN ((A6 298 t a).alloc<|aK #[aJ n] 155) (by rw[tE _ _ _ _ ar];rfl) (e.2.2.1.trans b)<|e.2.2.2.trans c;go_in
 go_wp2;refine iW 1 ?_;rw[im];go_wp2;go_ret;simp_all
end
def JR{q:R}{c:Y}{w:Z}(A:rC w q c)(hg:jO w):cR bN 103 #[eW q] w λad w'=>∃T,ad=aN (eW T)/\rC w' T c/\gC (G<|H w) w w':=by
 let⟨a,A,v⟩:=A;have O:=az A;have ht:bA (dw w<|aK #[ee dE] 155) (X (G<|H w) 0)=M (ee dE):=ar;have hf:iH (dw w<|aK #[ee dE] 155) (X (G<|H w) 0)=bD:=ar;have Q:=zal q (X (G<|H w) 0) (ee dE) (hg.aE _) ht hf;have V:=ak (show∀d,d=cP (dw (dw (dw (dw (dw w<|aK #[ee dE] 155)<|aK #[ee<|M<|X (G<|H w) 0] 298)<|aK #[ee<|M<|X (7) 298,aJ<|G<|H<|dw w<|aK #[ee dE] 155,bw 150] 182)<|aK #[ee<|M<|X (7) 298,aJ<|G<|H<|dw w<|aK #[ee dE] 155,bw 150] 182)<|aK #[aJ q] 155) (X (G<|H w) 0) (aJ q)->gC (G<|H w) w d/\bA d (X (G<|H w) 0)=M (aJ q)/\bA d (X q 0)=M (aw a)/\bA d (X q 1)=M (ay c)from by rintro d b;have e:gC (G<|H w) w d:=b▸((((((Below.refl _ w).alloc (aq _) _).alloc ar _).alloc dW _).alloc dW _).alloc dW _).setCell (p:=(X (G<|H w) 0)) (aq _) _;have u:d.heap[q]?=M (aK #[aw a,ay c] 157 (0,0)):=((I.p (S:=aC) e).A q O id).trans A;refine⟨e,?_,aX u 0,aX u 1⟩;rw[b];exact pY _ _ _ (by rw[eZ _ _ _ dW,eZ _ _ _ dW,eZ _ _ _ dW,eZ _ _ _ ar];simp));go_in
 go_wp21;go_call Q as ad d⟨rfl,b⟩;let⟨e,F,K,L⟩:=V d b;clear b Q;go_wp21;rename_i KK C;have N:=λW=>rA a W (by have:=v;unfold Nm at this;omega);let⟨i,E⟩:∃i,d.drew=i:=⟨_,rfl⟩;have f:bA i (X (G<|H w) 0)=M (aJ q)/\bA i (X q 0)=M (aw a)/\bA i (X q 1)=M (ay c):=E▸⟨F,K,L⟩;have l:=ak (show gC (G<|H w) w i by rw[<-E];exact below_drewN e 1);refine kF (λ(P:Z)=>bA P (X (G<|H w) 0)=M (aJ q)/\bA P (X q 0)=M (aw a)/\bA P (X q 1)=M (ay c)) 9 aH ?_;rw[E];refine lW 0 ?_;iterate 4 (refine zu f ?_;simp only[ig,eh,jZ])
 apply qi;refine lW 5 ?_;iterate 4 (refine zu f ?_;simp only[ig,eh,jZ])
 apply qi;refine gN 4 ?_;intro K6 B;go_simp;go_call N _ as ad x⟨rfl,t⟩;have g:I aC i x:=I.p t;have D:bA x (X (G<|H w) 0)=M (aJ q)/\bA x (X q 0)=M (aw a)/\bA x (X q 1)=M (ay c):=⟨g.u f.1 id<|cA _ _ f.1,g.u f.2.1 id<|cA _ _ f.2.1,g.u f.2.2 id<|cA _ _ f.2.2⟩;have j:=ak<|show gC (G<|H w) w x from l.trans<|t.mono<|bP l.size;refine B _ _ (λ_=>D) ?_;refine gN 9 ?_;intro W m;go_simp;refine m _ _ (λq=>U) ?_;refine gN 10 ?_;intro aa n;go_simp;refine n _ _ (λq=>U) ?_;refine gN 11 ?_;intro ab o;go_simp;refine o _ _ (λq=>U) ?_;refine gN 12 ?_;intro ac r;go_simp;refine r _ _ (λq=>U) ?_;refine kR aH ?_ _;show KK _ _;apply C;go_wp2;go_ret;exact⟨_,z,⟨a,jo _ _,v⟩,j.alloc (bP j.size) _⟩
def SR.r7(s:SR)(k:Y)(q:R):Array ae:=#[iC k,eI 0,aJ s.f,ay s.D,ay s.ua,aO s.d,eW q,s.L,ay s.o,bw s.S,s.l0,s.l1,s.l2,s.l3,bw s.t,ay s.v,.map s.n,bw s.l,aO s.i,aO s.mw,aO s.k,aO s.x]
def vX(w:Z)(j3:R)(s:SR)(k:Y)(q:R):Prop:=w.heap[j3]?=M (aK (s.r7 k q) 110 (0,0))
section
variable{w w':Z}{j3 q:R}{s:SR}{k c:Y}
def vX.bW(h:vX w j3 s k q)(i:R){v:ae}(e:(s.r7 k q).toList[i]?=M v):bA w (X j3 i)=M v:=by
 rw[cE h];rw[<-e];simp
def vX.bS{i:R}(h:vX w j3 s k q):iH w (X j3 i)=bD:=cV h
def vX.aA{S:fB}(h:vX w j3 s k q)(d:I S w w')(a:¬S j3):vX w' j3 s k q:=(d.A j3 (az h) a).trans h
def vX.jg(h:vX w j3 s k q)(n:Y):vX (cP w (X j3 0)<|iC n) j3 s n q:=(aY h).trans rfl
def cU.Z7(h:cU w j3 s k)(q:R):vX (cP w (X j3 6)<|eW q) j3 s k q:=(aY h).trans rfl
def rC.aA{S:fB}(h:rC w q c)(e:I S w w')(d:¬S q):rC w' q c:=by
 let⟨n,h,a⟩:=h;exact⟨n,(e.A q (az h) d).trans h,a⟩
def rC.lt(h:rC w q c):q<G (H w):=by
 let⟨n,h,a⟩:=h;exact az h
def rC.pJ{a:Array ae}(h:rC w q c)(b:w.heap[j3]?=M (aK a 110 (0,0))):q≠j3:=by
 let⟨n,h,d⟩:=h;grind
def Od(h:vX w j3 s k q)(i:s.d=bD)(m:rC w q c)(l:jO w):cR bN 49 #[aJ j3] w λn w'=>∃a,n=aN (eW a)/\rC w' a c/\gC (G<|H w) w w':=by
 have:bA w (X j3 5)=M (aO bD):=i▸h.bW 5 z;have:=h.bW 6 z;have j:=JR m l;go_in
 go_wp21;go_call j as n f⟨e,rfl,d,b⟩;have g:=ak (show∃a,aN (eW e)=aN (eW a)/\rC f a c/\gC (G<|H w) w f from⟨e,z,d,b⟩);go_wp2;go_ret;exact g
def Ke(h:cU w j3 s k)(e:rC w q c)(m:jO (cP w (X j3 6)<|eW q)):cR bN 51 #[aJ j3,eW q] w λn w'=>∃a,n=aN (eW a)/\rC w' a c/\gC (G<|H<|cP w (X j3 6)<|eW q) (cP w (X j3 6)<|eW q) w':=by
 have:=cU.bW h 6 z;have:iH w (X j3 6)=bD:=h.bS;have l:=JR (e.aA (iP j3 w (i:=6) (u:=eW q))<|e.pJ (j3:=j3) h) m;go_in
 go_wp21;go_call l as n g⟨f,rfl,d,b⟩;have j:=ak (show∃a,aN (eW f)=aN (eW a)/\rC g a c/\gC (G<|H<|cP w (X j3 6)<|eW q) (cP w (X j3 6)<|eW q) g from⟨f,z,d,b⟩);go_wp2;go_ret;exact j
end
def sZ(V:ju)(g:R)(h:ae)(e:dB)(w:Z):Prop:=∃t v f b,h=.iface t v/\(∀w,(Go.method 577 t v "Find").run bN w=.ok (f,b) w)/\Enters bN f/\∀a(d:Y)w',kZ V g aC w w'->V.D w'->cR bN f #[b,aw a,bw d] w' λi c=>Uq V w' c (kC d e a) i
def Wp(v:ae)(w:Z):(Go.method 577 106 v "Find").run bN w=.ok (335,v) w:=aH
def Wo(v:ae)(w:Z):(Go.method 577 235 v "Find").run bN w=.ok (337,v) w:=aH
def ZP(v:ae)(w:Z):(Go.method 577 103 v "Find").run bN w=.ok (331,v) w:=aH
def sZ.xK(h:uD s b d l a)(c:b<=G (H a))(hF:∀k,s.F k->k<b):sZ s b (.iface 106 d) (gy l) a:=⟨_,d,_,d,z,Wp d,enters_of func335 aH z,λe g j f i=>VR e g (h.bM f) i (aR c f.1) hF⟩
def sZ.FB{t:cH}(h:nX s b t.tb t.ks t.cs a)(c:b<=G (H a))(hF:∀k,s.F k->k<b):sZ s b (.iface 235 t.D) t.dq a:=⟨_,t.D,_,t.D,z,Wo t.D,enters_of func337 aH z,λd f i e g=>EC d f (h.bM e) g (aR c e.1) hF⟩
def lF.bM{V:ju}{n0:R}(h:lF a d i)(m:kZ V n0 aC a e)(n:∀j,cN d=Option.some j->j<n0/\¬V.F j):lF e d i:=by
 obtain⟨g,⟨rfl,k⟩|⟨o,b,c,rfl,f,l⟩⟩:=h;exact⟨g,J ⟨z,k⟩⟩;exact⟨g,bj ⟨o,b,c,z,f,λp u k=>m.u (bj<|n o z)<|l p u k⟩⟩
def sZ.Su(h:lF a d i)(n:gF i)(m:y i<=1000000000000)(p:∀k,cN d=M k->k<b/\¬s.F k)(o:b<=G (H a)):sZ s b (.iface 103 d) i a:=by
 refine⟨_,d,_,d,z,ZP d,enters_of func331 aH z,λf j q e l=>?_⟩;go_call CK f j (h.bM e p) n m (λk g=>au aI e.1)as t r⟨rfl,g⟩;have c:=s.l l (I.p (S:=aC) g) cY;cases kC j i f with
 |none=>exact⟨zE,bD,ib,z,J z,c,I.p g⟩
 |some x=>exact⟨x,cz,ib,z,J z,c,I.p g⟩
def zC(b:Y)(a:af)(m8:cy (ae×dB)):Option E:=m8.findSome?<|λr=>kC b r.2 a
def zcg:Option E->ae
 |some x=>.tuple #[.string x.l,.bool<|!x.dP,ib]
 |none=>.tuple #[.string ⟨#[]⟩,.bool bD,ib]
def Yf{m8:cy (ae×dB)}(h:b<y m8)(a:zC r B (m8.take b)=dE):zC r B m8=(kC r m8[b].2 B).or (zC r B<|m8.drop<|b+1):=by
 have:m8=m8.take b++m8[b]::m8.drop (b+1):=by rw[<-dm h,du]
 unfold zC at*;grind
def ZN(w:Z)(f:R)(a:af)(c:Y)(d:¬(1<=a.size/\a.size<=8))(e:a.size<=140737488351232):cR bN 54 #[aJ f,aw a,bw c] w λi g=>i=aN (de #[aw ⟨#[]⟩,aO bD,ue 3])/\g=w:=by
 have b:=λW=>rl a W e;rw[yQ d]at b;go_in
 go_wp2_with(go_at_call 104;refine(b _).mono ?_;rintro i j⟨rfl,rfl⟩)
 exact ci (lz z _ _ _) z ⟨z,z⟩
abbrev gE(v:ae):ae:=de #[aw ⟨#[]⟩,aO bD,v]
def ZO(n0:R)(p0 p1 p2 p3:ae×dI)(m8:cy (ae×dB))(c:af)(i:Y)(h:cU a b o r)(mx:Option Addr)(mn mc:R)(ap:o.L=am mx mn mc)(hl:Fw a b 10 [p0,p1,p2,p3])(L:m8.map (·.1)=zD o.L p0 p1 p2 p3)(hR:∀bf(hi:bf<y m8),sZ s n0 m8[bf].1 m8[bf].2 a)(hD:s.D a)(aU:n0<=G (H a))(hF:∀r,s.F r->r<n0)(D:1<=c.size/\c.size<=8)(bc:∀bx∈m8,∀x∈bx.2,x.l.size<=281474976710656):cR bN 54 #[aJ b,aw c,bw i] a λbg w'=>(bg=aN (zcg<|zC i c m8)/\s.D w'/\I s.F a w')\/Es s a w' s.F bg gE:=by
 have P:=λbi=>rl c bi U;rw[uU D]at P;have W:=Gt p0 p1 p2 p3 h mx mn mc ap hl;have l:y (qA p0 p1 p2 p3)+1=y m8:=by have:=cD y L;simp[zD]at this;omega
 rw[<-L,l]at W;have bh:y m8<=40000000000:=by have:=hl.f;rw[<-l];simp[qA,nB]at this|-;omega
 go_in
 go_wp21;go_call P _ as bg w1⟨rfl,bp⟩;subst w1;go_wp21;go_call W as bg w1⟨v1,rfl,B,aa⟩;let⟨x1,c1,ba⟩:=aM B;subst ba;go_wp21;go_loopw [21] (λbf wr=>∃n:R,n<=y m8/\bf=ay n/\s.D wr/\I s.F w1 wr/\zC i c (m8.take n)=dE) (λbf _=>y m8-(intOf bf).toNat)
 exact⟨0,bQ _,z,s.l hD aa cY,I.bI _ _,z⟩
 .obtain⟨n,hn,rfl,u,k,e⟩:=hrel;have f:I s.F a wr:=(aa.aT (T:=s.F) cY).aj k<|λ_ l=>J l;by_cases d:n<y m8
  .let⟨bt,bv,bs,br,ax,hm,O,w⟩:=hR n d;have eg:∀c a,(callFunc bs c).run bN a=.ok (.enter bs c) a:=O;have hc:=w c i wr (f.bM aU cY<|λr D _=>D) u;have av:∀r,G (H a)<=r->¬s.F r:=λr D c=>bP<|hF r c;have V:=k.aZ B<|λr D=>av r (B.lt r D).1;let⟨bq,hx,bo⟩:∃bq,x1=M (X bq 0)/\bA wr (X bq n)=M (.iface bt bv):=by
    obtain⟨j,F⟩|⟨C,m,v,j,_⟩:=V.2
    .omega
    .cases j;refine⟨C,z,?_⟩;have:=ri V n (.iface bt bv) (by rw[fO,bF d];simp[ax]);rwa[dS,ez]at this
   subst hx;have an:=Yf d e;have aD:zC i c (m8.take<|n+1)=kC i m8[n].2 c:=by
    rw[aG d];unfold zC at e|-;rw[List.findSome?_append,e];cases h:kC i m8[n].2 c<;>simp[h]
   have bb:∀x,kC i m8[n].2 c=M x->x.l.size<=281474976710656:=λx hx=>bc _ (aB d) x<|List.mem_of_find?_eq_some hx;have e1:(n:Y)<(y m8:Y):=U;go_wp21;go_call hc as bg g⟨g9,ok,ev,O,A,ac,aV⟩;let⟨p,t⟩:=And.intro (ak ac) (ak aV);obtain A|⟨hX,rfl,rfl,q,rfl,hq⟩:=A
   .rw[A]at O;subst O;cases hfe:kC i m8[n].2 c with
    |none=>
     unfold Hs yt;simp only;go_wp2;go_roundw
     .refine⟨n+1,d,dM,s.l p (cI aC g) cY,?_,?_⟩
      .exact(k.aj t<|λ_ l=>J l).aE _
      .rw[aD,hfe]
     .simp[intOf];omega
    |some x=>
     have bd:=bb x hfe;unfold Hs E.t;simp only;have ao:=λbi=>rA x.l bi bd;have:∀(x:eN)(a:Z),(Op.unary .not<|aO x).run bN a=.ok (aO<|!x) a:=λ_ _=>rfl;go_wp21;have j:jP (dw g<|aK #[aw x.D,aw x.l,aO x.dP,bw x.f] 223) (G<|H g) x:=aQ _ z;have N:I s.F a (dw g<|aK #[aw x.D,aw x.l,aO x.dP,bw x.f] 223):=(f.aj t<|λ_ l=>J l).aE _;have K:s.D (dw g<|aK #[aw x.D,aw x.l,aO x.dP,bw x.f] 223):=s.l p (cI aC g) cY;generalize dw g (aK #[aw x.D,aw x.l,aO x.dP,bw x.f] 223)=W3 at j N K|-;generalize G (H g)=eb at j|-;let⟨bk,bl,ab,bm⟩:=j.bU;have Q:=az j;have HA:=ak (show∀m,gC (G<|H W3) W3.drew m->bA m (X eb 2)=M (aO x.dP)/\s.D m/\I s.F a m from by
      intro m v;have C:I aC W3 m:=(cf aC W3).t (I.p (S:=aC) v);exact⟨C.u ab id Q,s.l K C cY,N.t C⟩)
     go_region_with(first|(go_at_call 109;refine(ao _).mono ?_;rintro bg m⟨rfl,v⟩;let⟨bn,ad,al⟩:=HA m v;have F:=ak<|And.intro ad al))
     all_goals(go_wp2;refine ci (lz z _ _ _) z ?_;exact J ⟨by rw[an,hfe];rfl,F.1,F.2⟩)
   .subst O;have j:=ak hq;unfold E.t;simp only;go_wp2;refine ci (lz z _ _ _) z ?_;exact bj ⟨hX,q,z,j.aA (cI aC g) cY,s.l p (cI aC g) cY,(f.aj t<|λ_ l=>J l).aE _⟩
  .have g:n=y m8:=U;rw[g,cQ]at e;let⟨p,j,m⟩:=eU e u f;have e1:¬(n:Y)<(y m8:Y):=U;clear e u f k g;go_wp2;refine ci (lz z _ _ _) z ?_;exact J ⟨by rw[ag p];rfl,j,m⟩
def qe(a:Y)(c:Na):E:=⟨c.D,if c.dP then⟨#[]⟩else c.l,c.dP,a⟩
theorem PM{e:vW}(b:Y)(hp:Ce a d e)(hv:∀k,cN d=M k->k<G (H a))(hr:y e<=1000000)(hz:∀bt∈e,bt.D.size<=140737488351232/\bt.l.size<=140737488351232):cR bN 106 #[d,.int .u64 b] a λbv w'=>∃v',bv=.returned v'/\fD w' (G<|H a) 223 4 v' (y e) (bu<|e.map<|qe b)/\I (λ_=>False) a w':=by
 have:∀(bt:eN)(a:Z),(Op.unary .not<|.bool bt).run bN a=.ok (.bool<|!bt) a:=λ_ _=>rfl;let⟨i0,aa,al,an,ao⟩:=cZ oO;let⟨cx,cc,bn⟩:=cG hp;subst bn;go_in
 go_wp2_with(at_make;refine ke _ z _ _ 102 z (G<|H a) 223 i0 yt 4 underlying102 aa al an _ _ _ (y e) z z z (by rw[ao];omega) (by unfold maxLen;omega) (aq _) ?_;intro w1 bg bd;have O:=ak bg;have ap:=ak bd)
 go_loopw [5,14] (λo bx wr=>∃(k:R),k<=y e/\bx=.int .i64 k/\fD wr (G<|H a) 223 4 o k (bu<|(e.take k).map<|qe b)/\I (λ_=>False) a wr) (λ_ bx _=>y e-(intOf bx).toNat)
 exact⟨0,bQ _,z,O,I.eF ap ar⟩
 .obtain⟨k,hk,rfl,ho,L⟩:=hrel;obtain⟨nx,nc,bo⟩:=aM ho;subst bo;by_cases s:k<y e
  .have e1:(k:Y)<(y e:Y):=U;obtain⟨bT,⟨bf,bL⟩|⟨bk,f,bE,bf,ca,hc⟩⟩:=hp
   .exfalso;omega
   cases bf;have F:bk<G (H a):=hv bk z;have hg:=nk e k s;have:bk<G (H wr):=au F L.D;have bp:bA wr ⟨bk,f+k*3,dE⟩=M (.string e[k].D):=L.u (hc _ _ hg.1) id F;have bq:bA wr ⟨bk,f+k*3+1,dE⟩=M (.string e[k].l):=L.u (by rw[bJ];grind) id F;have br:bA wr ⟨bk,f+k*3+2,dE⟩=M (.bool e[k].dP):=L.u (by rw[bJ];grind) id F;have bs:=hz _<|aB s;let⟨ax,HO,HT⟩:=eU (show(e.take<|k+1).map (qe b)=(e.take k).map (qe b)++[qe b e[k]]by rw[aG s,bz];rfl) ho L;generalize e[k]=bt at*;let⟨g,j,xd⟩:=bt;simp only at bp bq br bs;have bc:=λW=>rA g W U;go_wp21;rename_i QQ KK bm;have m:(dw wr<|.cells #[.string g,.string j,.bool xd] 66).heap[G<|H wr]?=M (.cells #[.string g,.string j,.bool xd] 66 (0,0)):=aQ _ z;have ba:I (λ_=>False) a (dw wr<|.cells #[.string g,.string j,.bool xd] 66):=HT.aE _;have aU:=bC HO<|.cells #[.string g,.string j,.bool xd] 66;generalize dw wr (.cells #[.string g,.string j,.bool xd] 66)=i at m ba aU|-;generalize G (H wr)=l at m|-;have C:bA i.drew ⟨l,0,dE⟩=M (.string g)/\bA i.drew ⟨l,2,dE⟩=M (.bool xd):=⟨by show bA i _=_;rw[cE m];rfl,by show bA i _=_;rw[cE m];rfl⟩;have t:=az m;let⟨x,bl,aD,av⟩:=jr (show∀K,I (λ_=>False) i K->bA K ⟨l,0,dE⟩=M (.string g)/\bA K ⟨l,2,dE⟩=M (.bool xd)fromλK a=>⟨a.u C.1 id t,a.u C.2 id t⟩) m ba aU;refine cX (λK=>bA K ⟨l,0,dE⟩=M (.string g)/\bA K ⟨l,2,dE⟩=M (.bool xd)) 8 aH ?_;apply dH 0;iterate 2 (refine fW C ?_;simp only[ig,eh,jZ])
   apply eS;apply dH 3;iterate 3 (refine fW C ?_;simp only[ig,eh,jZ])
   apply eS;refine wl (α:=R) (λc W=>I (λ_=>False) i W/\W.heap[c]?=M (.cells #[.string ⟨#[]⟩,.string ⟨#[]⟩,.bool bD,.int .u64 0] 223 (0,0))/\G (H i)<=c) (λc=>{tmps:=#[.slice (M ⟨bk,f,dE⟩) (y e) cc,.int .u64 b,jm,jm,.slice dE 0 0,.slice nx k nc,jm,.pointer<|M ⟨l,0,dE⟩,.pointer<|M ⟨c,0,dE⟩,.slice (M ⟨bk,f,dE⟩) (y e) cc,.int .i64<|y e,.slice (M ⟨G<|H a,0,dE⟩) 0<|y e,.slice (M ⟨bk,f,dE⟩) (y e) cc,.int .i64<|y e,.int .i64 k,.bool cz,.pointer<|M ⟨bk,f+k*3,dE⟩,.agg #[.string g,.string j,.bool xd],.pointer<|M ⟨l,0,dE⟩,.string g,.string g,.pointer<|M ⟨l,2,dE⟩,.bool xd,.int .u64 b,.agg #[.string g,.string ⟨#[]⟩,.bool xd,.int .u64 b],u25,u26,u27,u28,u29,u30,u31,u32,u33,u34,u35,u36,jm],defers:=[]}) #[true,true,true,true,true,true,true,true,false] 1 ?_ ?_
   .intro bi;refine vi (i:=2) (j:=7) z z z z aH ?_ ?_
    .intro cd hK;go_simp;go_call bc _ as bv w4⟨rfl,E⟩;have n:I (λ_=>False) i w4:=(cf (λ_=>False) i).t<|I.p (S:=λ_=>False) E;have aV:=x w4 n;apply hK _ _<|λ_=>aV;refine mW (i:=6) (v:=?_) z z aH aH aH aH (λ_ _ _ h=>h) (J ⟨by rfl,?_⟩) aV ?_;rotate_left
     .rintro K⟨z0,z2⟩;go_simp;try with_reducible rfl
     refine aW 7 ?_;intro K2 V;go_simp;have w:=n.aE<|.cells #[.string ⟨#[]⟩,.string ⟨#[]⟩,.bool bD,.int .u64 0] 223;exact V _ _ (λ_=>x _ w)<|lB (bi (G<|H w4) _ ⟨w,aQ _ z,n.D⟩) aH
    .intro cd hK;go_simp;have n:I (λ_=>False) i ((dw i<|.cells #[.string ⟨#[]⟩,.string ⟨#[]⟩,.bool bD,.int .u64 0] 223).drew):=(cI (λ_=>False) i).df z;have E:((dw i<|.cells #[.string ⟨#[]⟩,.string ⟨#[]⟩,.bool bD,.int .u64 0] 223).drew).heap[G<|H i]?=M (.cells #[.string ⟨#[]⟩,.string ⟨#[]⟩,.bool bD,.int .u64 0] 223 (0,0)):=aQ (w:=i) _ z;apply hK _ _<|λ_=>x _ n;refine aW 2 ?_;intro K2 V;go_simp;apply(bc _).mono;rintro bv w5⟨rfl,bb⟩;have w:I (λ_=>False) i w5:=n.t<|I.p (S:=λ_=>False) bb;have aV:=x _ w;apply V _ _<|λ_=>aV;refine mW (i:=6) (v:=?_) z z aH aH aH aH (λ_ _ _ h=>h) (J ⟨by rfl,?_⟩) aV ?_;rotate_left
     .rintro K⟨z0,z2⟩;go_simp;try with_reducible rfl
     exact lB (bi (G<|H i) _ ⟨w,(((I.p (S:=λ_=>False) bb).A _ (az E) id).trans E),aq _⟩) aH
   rintro c W⟨L,Q,r⟩;have:=az Q;refine aW 8 ?_;intro cd hK;have:bA W ⟨c,0,dE⟩=M (.string ⟨#[]⟩):=by rw[cE Q];rfl
   have:bA W ⟨c,1,dE⟩=M (.string ⟨#[]⟩):=by rw[cE Q];rfl
   have:bA W ⟨c,2,dE⟩=M (.bool bD):=by rw[cE Q];rfl
   have:bA W ⟨c,3,dE⟩=M (.int .u64 0):=by rw[cE Q];rfl
   have:∀cb,iH W ⟨c,cb,dE⟩=bD:=λcb=>by simp[World.frozen?,Q]
   go_simp;apply hK _ _ wW;refine dG aH ?_ _;show KK _ _;apply bm;have A:jP (cP (cP (cP (cP W ⟨c,0,dE⟩<|.string g) ⟨c,1,dE⟩<|.string ⟨#[]⟩) ⟨c,2,dE⟩<|.bool xd) ⟨c,3,dE⟩<|.int .u64 b) c ⟨g,⟨#[]⟩,xd,b⟩:=aY<|aY<|aY<|aY Q;have p:I (λ_=>False) i (cP (cP (cP (cP W ⟨c,0,dE⟩<|.string g) ⟨c,1,dE⟩<|.string ⟨#[]⟩) ⟨c,2,dE⟩<|.bool xd) ⟨c,3,dE⟩<|.int .u64 b):=(((L.aL _ _ _<|bj r).aL _ _ _<|bj r).aL _ _ _<|bj r).aL _ _ _<|bj r;have D:=aD.t p;have B:=p.aZ av<|λ_ _ d=>d;have o:=(p.A _ t id).trans bl;have:c≠l:=U;have bh:G (H a)<=c:=aR aD.D r;generalize(cP (cP (cP (cP W ⟨c,0,dE⟩<|.string g) ⟨c,1,dE⟩<|.string ⟨#[]⟩) ⟨c,2,dE⟩<|.bool xd) ⟨c,3,dE⟩<|.int .u64 b)=W5 at A D B o|-;have:bA W5 ⟨l,0,dE⟩=M (.string g):=by rw[cE o];rfl
   have:bA W5 ⟨l,1,dE⟩=M (.string j):=by rw[cE o];rfl
   have:bA W5 ⟨l,2,dE⟩=M (.bool xd):=by rw[cE o];rfl
   have:=az o;obtain⟨g0,g1,g2,g3⟩:=A.bU;simp only at g0 g1 g2 g3;cases xd with
   |true=>
    go_wp2_with(at_builtin;refine cq _ z (.tmp 32) (.tmp 34) 102 z (G<|H a) 223 i0 yt 4 48 underlying102 aa al an ao z cg (.slice nx k nc) k (bu<|(e.take k).map<|qe b) z (bC B<|.cells #[.string g,.string ⟨#[]⟩,.bool cz,.int .u64 b] 223) ⟨G<|H W5,0,dE⟩ 1 1 (bu [⟨g,⟨#[]⟩,cz,b⟩]) z z (yM _ ⟨g,⟨#[]⟩,cz,b⟩ _) (DS _) U U (by have:=D.D;simp;omega) ?_;intro v7 w7 ab ad;have N:=ak ab;have P:=ak ad)
    obtain⟨x7,c7,ac⟩:=aM N;subst ac;go_roundw;case rel=>
     refine⟨k+1,s,dM,?_,?_⟩
     .rwa[ag ax,ie]
     .exact(D.aE _).aj (I.eF (S:=λq=>cN (Value.slice nx k nc)=M q) P.dF<|λq u=>J u)<|λq u=>bj (B.lt q u).1
    case measure=>simp[intOf];omega
   |false=>
    go_wp2_with fail
    apply((λW=>rA j W U) _).mono;rintro bv w6⟨rfl,aV⟩;have w:I (λ_=>False) W5 w6:=I.p aV;have n:jP w6 c ⟨g,⟨#[]⟩,bD,b⟩:=(w.A _ (az A) id).trans A;have:G (H a)<=c:=bh;have V:=(D.t w).aL c 1 (.string j)<|bj bh;have E:=(((w.aT (T:=λq=>q=c) cY).aL c 1 (.string j)<|J z)).aZ B<|λq u d=>(λbv=>bP ((av.lt c bv).2):cN (Value.slice nx k nc)≠M c)<|d▸u;obtain⟨h0,h1,h2,h3⟩:=n.bU;simp only at h0 h1 h2 h3;have:iH w6 ⟨c,1,dE⟩=bD:=by unfold jP at n;simp[World.frozen?,n]
    have:=az n;go_wp2_with(at_builtin;refine cq _ z (.tmp 32) (.tmp 34) 102 z (G<|H a) 223 i0 yt 4 48 underlying102 aa al an ao z cg (.slice nx k nc) k (bu<|(e.take k).map<|qe b) z (bC E<|.cells #[.string g,.string j,.bool bD,.int .u64 b] 223) ⟨G<|H w6,0,dE⟩ 1 1 (bu [⟨g,j,bD,b⟩]) z z (by have u:=yM (cP w6 ⟨c,1,dE⟩<|.string j) ⟨g,j,bD,b⟩ 223;rwa[gJ]at u) (DS _) U U (by have:=V.D;simp;omega) ?_;intro v7 w7 ab ad;have N:=ak ab;have P:=ak ad)
    obtain⟨x7,c7,ac⟩:=aM N;subst ac;go_roundw
    .refine⟨k+1,s,dM,?_,?_⟩
     .rwa[ag ax,ie]
     .exact(V.aE _).aj (I.eF (S:=λq=>cN (Value.slice nx k nc)=M q) P.dF<|λq u=>J u)<|λq u=>bj (E.lt q u).1
    .simp[intOf];omega
  .have:¬(k:Y)<(y e:Y):=U;have c:k=y e:=U;let⟨g,f,HO,HT⟩:=jr (show bu (e.map<|qe b)=bu ((e.take k).map<|qe b)by rw[c,cQ]) c ho L;go_wp2;go_ret;exact⟨_,z,ag g▸ag f▸HO,HT⟩
def FN(w:Z)(v:ae)(a:vW):Prop:=(Ce w v a/\∀k,cN v=M k->k<G (H w))\/(a=[]/\∃(b:Addr)(c:R),v=am (M b) 0 c)
def sX{c:vW}(h:FN a d c):∃x g,d=am x (y c) g:=by
 obtain⟨⟨k,⟨f,j⟩|⟨i,e,b,f,_⟩⟩,_⟩|⟨rfl,l,g,rfl⟩:=h;grind
 grind
 simp_all
def FN.aA{S:fB}{w w':Z}{a:vW}(h:FN w d a)(c:I S w w')(j:∀k,k<G (H w)->¬S k):FN w' d a:=by
 obtain⟨h,e⟩|h:=h;exact J ⟨c.bV h aI,λk g=>au (e k g) c.D⟩;exact bj h
def LH(x:Option Addr)(c:R)(w:Z):cR bN 50 #[am x 0 c] w λe b=>e=aN (ue<|gS [])/\I aC w b:=by
 go_in
 go_wp2;go_loopw [11] (λi wr=>i=ay 0/\wr=w) (λ_ _=>0)
 grind
 obtain⟨rfl,a⟩:=hrel;subst wr;go_wp2;go_ret;exact⟨z,I.bI _ _⟩
def YQ{b:vW}(e:FN a d b)(f:y b<=1000000000000)(g:∀x∈b,x.D.size<=140737488351232/\x.l.size<=140737488351232):cR bN 50 #[d] a λj i=>j=aN (ue<|gS b)/\I aC a i:=by
 obtain⟨h,c⟩|⟨rfl,k,d,rfl⟩:=e;exact OO h c f g;exact LH _ _ _
def Ez(x:Option Addr)(c:R)(w:Z):cR bN 38 #[am x 0 c] w λe b=>∃a,e=aN a/\MS b (G<|H w) a []/\gC (G<|H w) w b:=by
 go_in
 go_wp2;go_loopw [3,4] (λo i wr=>i=ay 0/\o=aF/\wr=w) (λ_ _ _=>0)
 grind
 obtain⟨rfl,rfl,rfl⟩:=hrel;go_wp2;go_ret;exact⟨_,z,ct _ _ _ _,Below.refl _ _⟩
def Tz{l:vW}(f:y l<=1000000000000)(g:FN a d l):cR bN 38 #[d] a λi c=>∃b,i=aN b/\MS c (G<|H a) b l/\gC (G<|H a) a c:=by
 obtain⟨h,e⟩|⟨rfl,j,k,rfl⟩:=g;exact ye l d a f h e;exact Ez _ _ _
def Mi(x:Option Addr)(q:R)(a:Y)(w:Z):cR bN 106 #[am x 0 q,.int .u64 a] w λr n=>∃m,r=aN m/\fD n (G<|H w) 223 4 m 0 []/\I aC w n:=by
 let⟨p,f,i,j,k⟩:=cZ oO;go_in
 go_wp2_with(at_make;refine ke _ z _ _ 102 z (G<|H w) 223 p yt 4 underlying102 f i j _ _ _ 0 z z z (by rw[k];omega) aI (aq _) ?_;intro u c b;have d:=ak c;have e:=ak b;clear c b)
 go_loopw [5,14] (λo i wr=>i=ay 0/\fD wr (G<|H w) 223 4 o 0 []/\I aC w wr) (λ_ _ _=>0)
 exact⟨z,d,I.eF e ar⟩;obtain⟨rfl,l,o⟩:=hrel;let⟨t,s,g⟩:=aM l;subst g;go_wp2;go_ret;exact⟨_,z,l,o⟩
def ZU{c:vW}(b:Y)(g:FN a d c)(k:y c<=1000000)(l:∀x∈c,x.D.size<=140737488351232/\x.l.size<=140737488351232):cR bN 106 #[d,.int .u64 b] a λi f=>∃e,i=aN e/\fD f (G<|H a) 223 4 e (y c) (bu<|c.map<|qe b)/\I aC a f:=by
 obtain⟨h,j⟩|⟨rfl,m,d,rfl⟩:=g;grind[PM]
 exact Mi _ _ _ _
def Xc(e:Ending):Prop:=∃b,e=aN (aO b)
structure Xs where
 kd:Y
 L:ae
 cs:vW
def Xs.bU(o:Xs):iE:=[ay o.kd,o.L]
def Dc(a:cy Xs):iE:=a.flatMap Xs.bU
def yK(a:cy Xs)(i:R)(h:i<y a)(j:R)(b:j<2):(Dc a)[i*2+j]?=a[i].bU[j]?:=by
 induction a generalizing i with
 |nil=>simp at h
 |cons o a c=>
  have:Dc (o::a)=o.bU++Dc a:=rfl;have:y o.bU=2:=rfl;grind
structure Xk where
 kd:Y
 A:Y
 B:Y
 S:af
 T:af
 L:ae
 cs:vW
def Xk.bU(o:Xk):iE:=[ay o.kd,ay o.A,ay o.B,aw o.S,aw o.T,o.L]
def CC(a:cy Xk):iE:=a.flatMap Xk.bU
def mj(a:cy Xk)(i:R)(h:i<y a)(j:R)(b:j<6):(CC a)[i*6+j]?=a[i].bU[j]?:=by
 induction a generalizing i with
 |nil=>simp at h
 |cons o a c=>
  have:CC (o::a)=o.bU++CC a:=rfl;have:y o.bU=6:=rfl;grind
def Q3(w:Z)(L:ae)(a:vW):Prop:=FN w L a/\(∀c∈a,c.D.size<=1048576/\c.l.size<=1048576)/\y a<=1048576
structure Ur(w:Z)(v:ae)(os:cy Xs):Prop where
 bV:Row w 2 v (y os) (Dc os)
 lt:∀k,cN v=M k->k<G (H w)
 L:∀o∈os,Q3 w o.L o.cs
 dL:y os<=349525
structure Tt(w:Z)(v:ae)(os:cy Xk):Prop where
 bV:Row w 6 v (y os) (CC os)
 lt:∀k,cN v=M k->k<G (H w)
 L:∀o∈os,Q3 w o.L o.cs
 f:∀o∈os,o.S.size<=1048576/\o.T.size<=1048576
 dL:y os<=1048576
def p8{x:Option Addr}{e:vW}(h:Q3 a (am x (y e) b) e)(i:c<y e):∃f d,x=M (X f d)/\bA a (X f<|d+c*3)=M (aw e[c].D)/\bA a (X f<|d+c*3+1)=M (aw e[c].l):=by
 obtain⟨⟨q,⟨l,p⟩|⟨f,d,j,l,k,g⟩⟩,_⟩|⟨o,_⟩:=h.1;omega;cases l;let⟨m,n,_⟩:=nk e c i;exact⟨f,d,z,g _ _ m,by rw[bJ];exact g _ _ n⟩;rw[o]at i;simp at i
def Ro(V d al:R)(c:cy Xs)(h:Ur a (bX V d (y c) al) c):cR bN 5 #[bX V d (y c) al] a λan w'=>Xc an/\∃q,w'=a.drewN q:=by
 have K:=h.dL;have e1:¬((1048576:Y)<(y c:Y)):=U;have f:∀n(x:n<y c),bA a (X V<|d+n*2+1)=M c[n].L:=λn x=>by obtain⟨l,⟨w,k⟩|⟨j,e,b,w,i,g⟩⟩:=h.bV;cases w;cases w;rw[bJ];exact g _ _<|(yK c n x 1 U).trans z
 have o:=ak f;have N:=ak h;clear h f;go_in
 go_wp21;go_loopw [3,4] (λB b wr=>∃n r:R,n<=y c/\b=ay n/\B=ay (r:R)/\r<=1048576/\∃q,wr=a.drewN q) (λ_ b _=>y c-(intOf b).toNat)
 exact⟨0,y c,bQ _,z,z,U,0,z⟩;obtain⟨n,r,x,rfl,rfl,u,q,rfl⟩:=hrel;by_cases p:n<y c;(.have k:=aB p;have c5:=ag o n p;have e:=(ag N).L _ k;let⟨lx,lc,F⟩:=sX e.1;rw[F]at c5 e;generalize c[n]=ao at*;let⟨ad,oL,b⟩:=ao;simp only at c5 e F;have ab:=e.2.2;have e2:(n:Y)<(y c:Y):=U;have e3:(0:Y)<=(n:Y):=U;have s:=ak e;clear e k;go_wp21;(go_loopw [3,5] (λB c wr=>∃v r:R,v<=y b/\c=ay v/\B=ay (r:R)/\r<=1048576/\∃q,wr=a.drewN q) (λ_ c _=>y b-(intOf c).toNat));exact⟨0,r,bQ _,z,z,u,q,z⟩;obtain⟨v,P,hk,rfl,rfl,W,w,rfl⟩:=hrel;by_cases g:v<y b;(.let⟨g2,L,t,Q,S⟩:=p8 (ag s) g;subst t;have A:=(ag s).2.1 _<|aB g;let⟨i,j⟩:∃i,b[v].D.size=i:=⟨_,rfl⟩;let⟨m,l⟩:∃m,b[v].l.size=m:=⟨_,rfl⟩;rw[j,l]at A;generalize b[v]=O at*;let⟨D,E,C⟩:=O;simp only at Q S j l;(have b1:IntKind.i64.wrap ((P:Y)+1)=(P:Y)+1:=by rw[bR];omega);(have b2:IntKind.i64.wrap ((P:Y)+1+(i:Y))=(P:Y)+1+i:=by rw[bR];omega);(have b3:IntKind.i64.wrap ((P:Y)+1+(i:Y)+(m:Y))=(P:Y)+1+i+m:=by rw[bR];omega);have f1:(v:Y)<(y b:Y):=U;have f0:(0:Y)<=(v:Y):=U;by_cases aa:1048576<P+1+i+m;(.have T:(1048576:Y)<(P:Y)+1+i+m:=U;go_wp21;(go_quiet(fail));go_wp2;go_ret;exact⟨⟨_,z⟩,_,z⟩);have T:¬((1048576:Y)<(P:Y)+1+i+m):=U;go_wp21;(go_quiet(fail));rename_i ac;go_wp2;go_roundw;exact⟨v+1,P+1+i+m,g,dM,dM,U,_,z⟩;simp[intOf];omega);have i:v=y b:=U;subst i;have:¬((y b:Y)<(y b:Y)):=U;have:¬((1048576:Y)<(P:Y)):=U;go_wp2;go_roundw;exact⟨n+1,P,p,dM,z,W,w,z⟩;simp[intOf];omega);have b:n=y c:=U;subst b;have:¬((y c:Y)<(y c:Y)):=U;go_wp2;go_ret;exact⟨⟨_,z⟩,q,z⟩
def Rn(x:Option Addr)(d:R)(w:Z):cR bN 5 #[am x 0 d] w λe c=>Xc e/\∃q,c=w.drewN q:=by
 go_in
 go_wp2;go_loopw [3,4] (λb a wr=>b=ay 0/\a=ay 0/\wr=w) (λ_ _ _=>0)
 grind
 obtain⟨rfl,rfl,rfl⟩:=hrel;go_wp2;go_ret;exact⟨⟨_,z⟩,0,z⟩
def Rj(T b al:R)(d:cy Xk)(h:Tt a (bX T b (y d) al) d):cR bN 6 #[bX T b (y d) al] a λan w'=>Xc an/\∃q,w'=a.drewN q:=by
 have:=h.dL;have:¬((1048576:Y)<(y d:Y)):=U;have f:∀k(v:k<y d),bA a (X T<|b+k*6+3)=M (aw d[k].S)/\bA a (X T<|b+k*6+4)=M (aw d[k].T)/\bA a (X T<|b+k*6+5)=M d[k].L:=λk v=>by obtain⟨n,⟨t,m⟩|⟨l,g,e,t,i,c⟩⟩:=h.bV;cases t;cases t;refine⟨?_,?_,?_⟩;rw[bJ];exact c _ _<|(mj d k v 3 U).trans z;rw[bJ];exact c _ _<|(mj d k v 4 U).trans z;rw[bJ];exact c _ _<|(mj d k v 5 U).trans z
 have p:=ak f;have L:=ak h;clear h f;go_in
 go_wp21;go_loopw [3,4] (λK b wr=>∃k j:R,k<=y d/\b=ay k/\K=ay (j:R)/\j<=1048576/\∃q,wr=a.drewN q) (λ_ b _=>y d-(intOf b).toNat)
 exact⟨0,y d,bQ _,z,z,U,0,z⟩;obtain⟨k,j,v,rfl,rfl,W,q,rfl⟩:=hrel;by_cases r:k<y d;(.have i:=aB r;let⟨c3,c4,c5⟩:=ag p k r;have x:=(ag L).f _ i;have e:=(ag L).L _ i;let⟨lx,lc,V⟩:=sX e.1;rw[V]at c5 e;generalize d[k]=ao at*;let⟨ad,oA,oB,oS,oT,oL,c⟩:=ao;simp only at c3 c4 c5 x e V;have ab:=e.2.2;let⟨s,E⟩:∃s,oS.size=s:=⟨_,rfl⟩;let⟨B,F⟩:∃B,oT.size=B:=⟨_,rfl⟩;rw[E,F]at x;(have a1:IntKind.i64.wrap ((j:Y)+(s:Y))=(j:Y)+s:=by rw[bR];omega);(have a2:IntKind.i64.wrap ((j:Y)+(s:Y)+(B:Y))=(j:Y)+s+B:=by rw[bR];omega);have e2:(k:Y)<(y d:Y):=U;have e3:(0:Y)<=(k:Y):=U;have u:=ak e;clear e i;go_wp21;(go_quiet(fail));rename_i nq;go_wp21;(go_loopw [3,5] (λK b wr=>∃A j:R,A<=y c/\b=ay A/\K=ay (j:R)/\j<=3145728/\∃q,wr=a.drewN q) (λ_ b _=>y c-(intOf b).toNat));exact⟨0,j+s+B,bQ _,z,dM,U,q+nq,Ed a q nq⟩;obtain⟨A,P,hk,rfl,rfl,hP,t,rfl⟩:=hrel;by_cases g:A<y c;(.let⟨g2,aa,w,d0,d1⟩:=p8 (ag u) g;subst w;have D:=(ag u).2.1 _<|aB g;let⟨l,m⟩:∃l,c[A].D.size=l:=⟨_,rfl⟩;let⟨o,n⟩:∃o,c[A].l.size=o:=⟨_,rfl⟩;rw[m,n]at D;generalize c[A]=cc at*;let⟨O,Q,N⟩:=cc;simp only at d0 d1 m n;(have:IntKind.i64.wrap ((P:Y)+1)=(P:Y)+1:=by rw[bR];omega);(have:IntKind.i64.wrap ((P:Y)+1+(l:Y))=(P:Y)+1+l:=by rw[bR];omega);(have:IntKind.i64.wrap ((P:Y)+1+(l:Y)+(o:Y))=(P:Y)+1+l+o:=by rw[bR];omega);have f1:(A:Y)<(y c:Y):=U;have:(0:Y)<=(A:Y):=U;by_cases C:1048576<P+1+l+o;(.have S:(1048576:Y)<(P:Y)+1+l+o:=U;go_wp21;(go_quiet(fail));go_wp2;go_ret;exact⟨⟨_,z⟩,_,z⟩);have S:¬((1048576:Y)<(P:Y)+1+l+o):=U;go_wp21;(go_quiet(fail));rename_i ac;go_wp2;go_roundw;exact⟨A+1,P+1+l+o,g,dM,dM,U,_,z⟩;simp[intOf];omega);have l:A=y c:=U;subst l;have:¬((y c:Y)<(y c:Y)):=U;by_cases C:1048576<P;(.have S:(1048576:Y)<(P:Y):=U;go_wp2;go_ret;exact⟨⟨_,z⟩,t,z⟩);have:¬((1048576:Y)<(P:Y)):=U;go_wp2;go_roundw;exact⟨k+1,P,r,dM,z,U,t,z⟩;simp[intOf];omega);have c:k=y d:=U;subst c;have:¬((y d:Y)<(y d:Y)):=U;go_wp2;go_ret;exact⟨⟨_,z⟩,q,z⟩
def Ri(x:Option Addr)(d:R)(w:Z):cR bN 6 #[am x 0 d] w λe c=>Xc e/\∃q,c=w.drewN q:=by
 go_in
 go_wp2;go_loopw [3,4] (λb a wr=>b=ay 0/\a=ay 0/\wr=w) (λ_ _ _=>0)
 grind
 obtain⟨rfl,rfl,rfl⟩:=hrel;go_wp2;go_ret;exact⟨⟨_,z⟩,0,z⟩
section
open Shelf
attribute [local go_sem] Oper.semAt_some
def Uc:(prog.info? 104).map (λi=>(i.zero,i.size,i.bytes))=M (M<|bw 0,1,8):=aH
structure Qs(w:Z)(bm:R)(pre:eD)(B:fB)(W:Z):Prop where
 ex:∃pv,fE W (G<|H w) pv 208/\fD W (G (H w)+1) 104 1 pv (y pre) (pre.map<|Value.int .u64)/\∀k,B k↔k=G (H w)\/cN pv=M k
 aA:I (λk=>k=bm) w W
def Qs.lt{w g:Z}(h:Qs w c m W g):∀k,W k->G (H w)<=k/\k<G (H g):=by
 let⟨n,j,a,d⟩:=h.ex;intro k e;obtain rfl|i:=(d k).1 e;grind
 have:=aS a k i;omega
def Qs.gQ{B T:fB}(h:Qs a b m B e)(c:I T e P)(i:∀k,T k->¬B k/\(k=b\/G (H a)<=k)):Qs a b m B P:=by
 let⟨l,d,f,g⟩:=h.ex;exact⟨⟨l,d.aA c aI,c.aZ f aI,g⟩,h.aA.aj c<|λk j=>(i k j).2⟩
def Ja(ba:gZ){C:eD}(hb:fE a b (.map<|M c) 94)(hm:kO a c ba)(ap:zy ba C)(hl:y C<=1000000):cR bN 262 #[aF,.func (.func 213) #[] #[aJ b]] a λbf w'=>
 ∃c,∃aa:eD,bf=aN c/\aa.Perm C/\fD w' (G<|H a) 104 1 c (y aa) (aa.map<|Value.int .u64)/\I (λk=>k=b) a w':=by
 let⟨i0,an,av,ax,aD⟩:=cZ Uc
 have:=az hb
 have F:=hm.lt
 refine(ew (n:=3)).1 ?_
 refine callsIn_of_wp_marks func262 z trivial ?_ z
 simp only[ntmps262,gm,bK,eE,jZ,Nat.reduceSub,fc,fa,gp,fG,ep,dt]
 gi_wp2
 let⟨w,j⟩:∃w,dw a (aK #[aF] 208)=w:=⟨_,rfl⟩
 have:G (H w)=G (H a)+1:=by rw[<-j];simp
 have v:I aC a w:=j▸(cI aC a)
 have hA0:Qs a b [] (λk=>k=G (H a)) w:=⟨⟨aF,j▸aQ _ z,ct _ _ _ _,λk=>by simp[cN]⟩,v.aT cY⟩
 rw[j]
 refine tI (m:=3) (arg:=O7) (V:=CX) (n0:=G<|H a) (gf:=213) (lb:=#[aJ b]) (pp:=λaa _=>∃bd,(aa++bd).Perm C) (ff:=λaa=>aa.Perm C) (S:=λk=>k=b) aI ?geval (enters_of func213 aH z) (λ_=>rfl) (KA (G<|H a) 2 b c ba C w (hb.aA v id) (hm.dU<|v.A _ F id) ap F U) trivial U (λk e=>U) (Qs a b) (λ_ _ _ _=>False) _ hA0 (λk e p=>U) (λd ab aU r=>r.lt) ?st ar ?body ?done ?stop
 .rfl
 .intro d ab aU i bc r g f;refine r.gQ g<|λk e=>⟨(f k e).1,?_⟩;obtain p|p|p:=(f k e).2
  .exact J p
  .exact p.elim
  grind
 case stop=>
  grind
 .rintro lr d aV ab aU bb al N⟨bd,P⟩r _;have:y d+1<=1000000:=zY P.length_eq;unfold O7;simp only;gi_wp2;refine⟨I.bI _ _,λx l=>?_⟩;have hA2:=r.gQ l<|λk e=>aI;let⟨pv,W,O,hB⟩:=hA2.ex;let⟨B,A,t⟩:=aM O;have z0:=W.u;have:=az W;have L:lr<G (H x):=au N.1 l.D;have:=l.D;let⟨HV,E,HB,ac,ad⟩:=nZ W O hB l hA2.aA;subst t;have HX:=ak (show∀(g:ae)(i:Z),fD i (G (H a)+1) 104 1 g (y d+1) (d.map (Value.int .u64)++[bw aV])->fm (dw x<|aK #[bw aV] 104) i (am B (y d) A) g->(bA i (X (G<|H a) 0)=M (am B (y d) A)/\iH i (X (G<|H a) 0)=bD)/\DL CX (Qs a b) (λ_ _ _ _=>False) (d++[aV]) ab aU x lr .normal ⟨#[],[]⟩ (cP i (X (G<|H a) 0) g)fromλg i f o=>by
   have Q:=(I.bI aC x).aE<|aK #[bw aV] 104;have T:=I.fU o;have ao:¬(cN (am B (y d) A)=M (G<|H a)):=λp=>bP<|(E.lt _ p).1;have s:fE i (G<|H a) (am B (y d) A) 208:=(HV.aA Q id).aA T ao;have u:I ab x (cP i (X (G<|H a) 0) g):=((Q.aT (T:=ab) cY).aj (T.aT (T:=ab)<|λk e=>J<|(HB k).2<|bj e)<|λk e=>J e).aL _ 0 _<|J<|(HB _).2<|J z;refine⟨⟨s.u,s.bS⟩,trivial,λk=>k=G (H a)\/cN g=M k,⟨⟨g,s.gq g,?_,λk=>th⟩,ad.aj u<|λk e=>bj (by obtain p|p:=(HB k).1 e;omega;have:=(E.lt _ p).1;omega)⟩,(ac.aT ar).aj u aI,u.A lr L al,λk e=>?_⟩
   .rw[ai,bz];exact(fJ _ _ 0 _).aZ f<|λk e p=>bP<|(aS f k e).1
   .obtain p|p:=e
    .exact J<|(HB k).2<|J p
    .obtain q|⟨g9,q,hy⟩:=o.f
     .exact J<|(HB k).2<|bj<|q▸p
     .rw[q]at p;cases p;exact bj (by simp at hy;omega))
  gi_wp2_with(first
   |(gi_at_builtin;refine gl _ z (.tmp 8) (.tmp 10) 208 z (G (H a)+1) 104 i0 (.int .u64 0) 1 8 underlying208 an av ax aD z cg (.slice B (y d) A) (y d) (d.map (Value.int .u64)) z (bC E _) (X (G (H x)) 0) 1 1 [.int .u64 aV] z z (rE _ _ _) (by simp[Value.oneCell']) U U dW ?_;intro g i f o;let⟨⟨y0,y1⟩,K⟩:=HX g i f o;obtain⟨x6,c6,rfl⟩:=aM f;have D:=ak K))
  exact D
 .intro aa K ab aU l D r x _ o;let⟨pv,W,O,hB⟩:=r.ex;let⟨B,A,t⟩:=aM O;have:=W.u;have i:cN pv≠M K:=aI;let⟨E,s,u,g⟩:=jr O o r.aA l;have:=az o;subst t;gi_wp2;have f:=iB aU K<|.deferred dE;refine⟨ar,J ⟨_,_,z,run_takeDeferred s,?_⟩⟩;refine⟨_,gG z _ _ _,?_⟩;exact⟨_,aa,z,g,fh (f.aZ E<|λk e q=>i<|q▸e) U,u.aj f aI⟩
def My(i:gZ)(n:fE a b (.map<|M c) 94)(p:kO a c i)(d:zy i m)(o:y m<=1000000):cR bN 211 #[.func (.func 213) #[] #[aJ b]] a λq g=>
 ∃e,∃l:eD,q=aN e/\l.Perm m/\fD g (G<|H a) 104 1 e (y l) (l.map<|Value.int .u64)/\I (λk=>k=b) a g:=by
 have h:=Ja i n p d o
 go_in
 go_wp21
 go_call h as q t⟨e,l,rfl,j,f,k⟩
 obtain⟨s,r,rfl⟩:=aM f
 have u7:=ak<|And.intro j (And.intro f k)
 go_wp2
 go_ret
 exact⟨_,l,z,u7.1,u7.2.1,u7.2.2⟩
end
section
open Shelf
def J0(x:Y)(w:Z):cR bN 306 #[bw x] w λe a=>e=aN (aO bD)/\a=w:=by
 go_in
 go_wp2;go_ret;simp_all
def JM(x a:Y)(w:Z):cR bN 289 #[bw x,bw a] w λe b=>e=aN (aO<|decide<|x<a)/\b=w:=by
 have h:=J0 x w;go_in
 go_wp2_with(go_at_call 306;refine h.mono ?_;rintro e b⟨rfl,rfl⟩)
 go_ret;simp_all
def UC(a:b+1<y m):((m.set (b+1) m[b]).set b m[b+1]).Perm m:=by
 grind
def Zj(k e:R)(n:eD)(W:fD a b 104 1 (bX k 0 (y n) e) (y n) (n.map<|Value.int .u64))(T:y n<=12):cR bN 283 #[bX k 0 (y n) e,ay 0,ay<|y n] a λac D=>ac=aN (de #[])/\∃m:eD,m.Perm n/\fD D b 104 1 (bX k 0 (y m) e) (y m) (m.map<|Value.int .u64)/\I (λs=>s=k) a D:=by
 let⟨L,Q⟩:∃L,y n=L:=⟨_,rfl⟩;rw[Q]at W T|-;go_in
 go_wp2;go_loopw [6] (λi wr=>∃(p:R)(m:eD),i=ay p/\1<=p/\y m=L/\m.Perm n/\fD wr b 104 1 (bX k 0 L e) L (m.map<|Value.int .u64)/\I (λs=>s=k) a wr) (λi _=>L-(intOf i).toNat)
 grind[Perm.refl,I.bI]
 obtain⟨p,m,rfl,V,f,g,d,i⟩:=hrel;by_cases S:p<L;(.have e1:(p:Y)<(L:Y):=U;have j:=ak<|And.intro f (And.intro g (And.intro d i));go_wp2;(go_loopw [7] (λv c=>∃(w:R)(m:eD),v=ay w/\w<=p/\y m=L/\m.Perm n/\c.ownsRow b 104 1 (bX k 0 L e) L (m.map<|Value.int .u64)/\I (λs=>s=k) a c) (λv _=>(intOf v).toNat));exact⟨p,m,z,aq _,j.1,j.2.1,j.2.2.1,j.2.2.2⟩;obtain⟨w,m,rfl,aa,f,g,d,i⟩:=hrel;obtain A|A:=fN w;(.subst A;have c:=ak<|And.intro f (And.intro g (And.intro d i));go_wp21;(go_quiet(fail));go_wp2;go_roundw;exact⟨p+1,m,dM,U,c.1,c.2.1,kr c.2.2.1 z,c.2.2.2.df z⟩;simp[intOf];omega);obtain⟨q,rfl⟩:∃q,w=q+1:=⟨w-1,U⟩;obtain⟨_,⟨F,_⟩|⟨b',C,x,F,u,B⟩⟩:=dQ d;cases F;cases F;have c1:=B (q+1) (bw<|m[q+1]'U) (by rw[fO,bF U];rfl);have K:=B q (bw<|m[q]'U) (by rw[fO,bF U];rfl);simp only[ez]at K c1;have:=(d.lt k z).2;(have l:∀v,iH wr (X k v)=bD:=by intro v;let⟨O,r⟩:=fZ d (k:=k) rfl;exact cV r);have:=l<|q+1;have:=l q;have E:=ak (show∀r,(r=cP (cP wr (X k<|q+1)<|bw<|m[q]'U) (X k q) (bw<|m[q+1]'U))->∃o:eD,y o=L/\o.Perm n/\fD r b 104 1 (bX k 0 L e) L (o.map<|Value.int .u64)/\I (λs=>s=k) a r from by rintro r rfl;refine⟨(m.set (q+1) m[q]).set q m[q+1],dV f,(UC U).trans g,?_,(i.aL _ _ _<|J z).aL _ _ _<|J z⟩;have t:=(tD (tD d (q+1)<|bw<|m[q]'U).1 q<|bw<|m[q+1]'U).1;rw[uv,uv];exact t);have c:=ak<|And.intro f (And.intro g (And.intro d i));have:L<=e:=u;have:(q:Y)+1<(L:Y):=U;have:(q:Y)<(L:Y):=U;have:(0:Y)<(q:Y)+1:=U;have:(0:Y)<=(q:Y):=U;have:q+1<y m:=U;generalize m[q+1]=N at*;generalize m[q]'U=ad at*;by_cases ab:N<ad;(.go_wp21;(go_quiet(first|(go_at_call 289;refine Calls.quiet_of_same (JM _ _ _))));go_wp21;(go_region);go_wp2;go_roundw;let⟨o,t,r,O,P⟩:=E _ rfl;exact⟨q,o,dM,U,t,r,kr O z,P.df z⟩;simp[intOf]);go_wp21;(go_quiet(first|(go_at_call 289;refine Calls.quiet_of_same (JM _ _ _))));go_wp2;go_roundw;exact⟨p+1,m,dM,U,c.1,c.2.1,kr c.2.2.1 z,c.2.2.2.df z⟩;simp[intOf];omega);have:¬((p:Y)<(L:Y)):=U;have j:=ak<|And.intro f (And.intro g (And.intro d i));go_wp2;go_end0;exact⟨z,m,j.2.1,(ag j).1▸j.2.2.1,j.2.2.2⟩
def Zk(l:eD)(j:fD a b 104 1 d (y l) (l.map<|Value.int .u64))(t:y l<=12):cR bN 283 #[d,ay 0,ay<|y l] a λv f=>v=aN (de #[])/\∃m:eD,m.Perm l/\fD f b 104 1 d (y m) (m.map<|Value.int .u64)/\I (λw=>cN d=M w) a f:=by
 obtain⟨rfl,n⟩|⟨x,c,k,rfl,p,A,u,q,r,e⟩:=j.2;(.obtain rfl:=bG n;(go_in);go_wp2;refine iW 1 ?_;rw[im];go_wp2;go_end0;grind[Perm.refl,I.bI]);go_call Zj x c l j t as v f⟨rfl,m,g,i,o⟩;refine⟨z,m,g,?_,o.aT<|λw s=>J (by rw[s];rfl)⟩;rw[g.length_eq]at i|-;exact i
def Yt(l:eD)(k:Y)(e:fD a b 104 1 d (y l) (l.map<|Value.int .u64))(g:y l<=12):cR bN 263 #[d,ay 0,ay<|y l,ay k] a λj c=>j=aN (de #[])/\∃m:eD,m.Perm l/\fD c b 104 1 d (y m) (m.map<|Value.int .u64)/\I (λk=>cN d=M k) a c:=by
 have h:=Zk l e g;let⟨x,n,i⟩:=aM e;have:(y l:Y)<=12:=U;subst i;go_in
 go_wp2;refine iW 1 ?_;rw[im];go_wp21;go_call h as j c⟨rfl,f⟩;go_wp2;refine ci (jb z _ _ _) z ?_;exact⟨z,f⟩
def VM(n:R)(c:n<=4)(w:Z):cR bN 173 #[bw n] w λe b=>(∃k,e=aN (ay k))/\b=w:=by
 have a:n=0\/n=1\/n=2\/n=3\/n=4:=U;obtain rfl|rfl|rfl|rfl|rfl:=a;(all_goals(go_in);go_wp2;go_ret;exact⟨⟨_,z⟩,z⟩)
def L1(n:R)(b:n<=4)(w:Z):cR bN 114 #[bw n] w λe a=>(∃k,e=aN (ay k))/\a=w:=by
 have h:=VM n b w;go_in
 go_wp2_with(go_at_call 173;refine h.mono ?_;rintro e a⟨⟨k,rfl⟩,rfl⟩)
 go_wp2;go_ret;simp_all
def UV(l:eD)(e:fD a b 104 1 d (y l) (l.map<|Value.int .u64))(j:y l<=4):cR bN 212 #[d] a λf c=>f=aN (de #[])/\∃n:eD,n.Perm l/\fD c b 104 1 d (y n) (n.map<|Value.int .u64)/\I (λk=>cN d=M k) a c:=by
 have h:=λk=>Yt l k e U;have i:=L1 (y l) j a;let⟨x,p,m⟩:=aM e;subst m;go_in
 go_wp21;go_call i as f c⟨⟨k,rfl⟩,o⟩;subst c;go_wp21;go_call h k as f c⟨rfl,g⟩;go_wp2;go_end0;exact⟨z,g⟩
def Nx{bm b:R}(r:gZ){w:Z}(u:fE w bm (.map<|M b) 94)(v:kO w b r)(n:zy r m)(A:y m<=4):cR bN 145 #[.func (.func 213) #[] #[aJ bm]] w λs q=>
 ∃a,∃p:eD,s=aN a/\p.Perm m/\fD q (G<|H w) 104 1 a (y p) (p.map<|Value.int .u64)/\I (λk=>k=bm) w q:=by
 have h:=My r u v n U
 go_in
 go_wp21
 go_call h as s E⟨a,p,rfl,o,d,t⟩
 have x:=UV p d<|bP o.length_eq
 have f:∀k,cN a=M k->G (H w)<=k:=λk e=>(aS d k e).1
 let⟨D,C,l⟩:=aM d
 have u7:=ak<|And.intro o t
 subst l
 go_wp21
 go_call x as s F⟨rfl,B,g,i,j⟩
 have c:=ak<|And.intro g (And.intro i j)
 go_wp2
 go_ret
 exact⟨_,B,z,c.1.trans u7.1,c.2.1,u7.2.aj c.2.2<|λk e=>bj<|f k e⟩
end
section
open Shelf
abbrev gI:=cy<|R×R
def Dm(a:gI):gZ:=a.map<|λp=>((p.1:Y),bw (p.2:Y))
def Gi(a:gI):eD:=a.map<|λp=>(p.2:Y)
def F4(a:gI):zy (Dm a) (Gi a):=by simp[zy,Dm,Gi]
def qL(a:gI):y (Gi a)=y a:=by simp[Gi]
def Sk{a:eD}(h:m.Perm a)(p:Option E)(e:E):ww m p e=ww a p e:=by
 cases p with
 |none=>rfl
 |some q=>unfold ww;grind
def GS{a:eD}(h:m.Perm a):∀(l:dB)(p:Option E),nR m p l=nR a p l
 |[],_=>rfl
 |e::r,p=>by rw[nR,nR,Sk h,GS h r]
def BG{a:eD}(h:m.Perm a)(l:dB):gu m l=gu a l:=GS h l dE
def Ni(v:Option R)(w:Z):cR bN 146 #[.map v] w λe a=>e=aN (.func (.func 213) #[] #[aJ<|G<|H w])/\a=dw w (aK #[.map v] 94):=by
 go_in
 go_wp2;go_ret;simp_all
def wx{f b:R}(d:gI)(h:cU a f o r)(s:o.n=M b)(k:kO a b (Dm d))(q:y d<=4):cR bN 95 #[aJ f] a λm l=>∃i,∃g:eD,m=aN i/\g.Perm (Gi d)/\fD l (G<|H a) 104 1 i (y g) (g.map<|Value.int .u64)/\I aC a l:=by
 have:bA a (X f 16)=M (.map<|M b):=s▸h.u z;have c:=(I.bI aC a).aE<|aK #[.map<|M b] 94;have e:=Nx (bm:=G<|H a) (b:=b) (Dm d) (w:=(dw a<|aK #[.map<|M b] 94)) (aQ _ z) (k.dU<|c.A _ k.lt id) (F4 d) (by rw[qL];exact q);go_in
 go_wp21;go_call Ni _ _ as m u⟨rfl,t⟩;subst u;go_wp21;go_call e as m A⟨i,v,rfl,n,j,p⟩;obtain⟨x,w,rfl⟩:=aM j;have u7:=ak<|And.intro n (And.intro j p);go_wp2;go_ret;exact⟨_,v,z,u7.1,fh u7.2.1 ar,c.aj u7.2.2<|λr a=>bj U⟩
def Dv{w:Z}(Q:R)(W:SR)(n:Y)(o:gI)(r:ae)(F:dB)(h:cU w Q W n)(hs:W.n=M b)(O:kO w b (Dm o))(h4:y o<=4)(N:lF w W.L i)(t:∀n,cN W.L=M n->n<G (H w))(L:lF w r F)(s:∀n,cN r=M n->n<G (H w))(j:gF i)(hl:y i+y F<=1000000):cR bN 74 #[aJ Q,r] w λV T=>∃S,V=aN S/\fD T (G<|H w) 223 4 S (y<|gu (Gi o)<|jJ i F) (bu<|gu (Gi o)<|jJ i F)/\I aC w T:=by
 have c7:=cU.bW h 7 z;have m:=Xv N L j U t s;obtain⟨x1,n1,x⟩:=cG N;obtain⟨x2,n2,A⟩:=cG L;have HM:=ak<|λ(E:Z)(a:I aC w E)=>wx (b:=b) o (h.aA a id) hs (O.dU<|a.A _ O.lt id) h4;rw[x]at c7 m;subst A;go_in
 go_wp2_with fail
 apply m.mono;rintro V E⟨v1,rfl,f,k⟩;have u:=HM E k;obtain⟨y1,d1,B⟩:=aM f;subst B;go_wp2_with fail
 apply u.mono;rintro V w2⟨v2,ms,rfl,P,c,l⟩;have a:=l.aZ f<|λ_ _ c=>c;have e:=yw ms (dQ a) (j.jJ F).zx (bP<|zw i F) (dQ c) (by have:=P.length_eq;rw[qL]at this;omega) (λn b=>(aS a n b).2)<|λn b=>(aS c n b).2;rw[BG P]at e;obtain⟨y2,d2,C⟩:=aM c;have d:=ak<|k.t l;subst C;go_wp2_with fail
 apply e.mono;rintro V w3⟨v3,rfl,g,v⟩;obtain⟨y3,d3,D⟩:=aM g;have p:=ak<|fh (base':=G<|H w) g d.D;have q:=ak<|d.t v;subst D;go_wp2;go_ret;exact⟨_,z,p,q⟩
def yZ:gI->Y->Option R
 |[],_=>dE
 |p::r,n=>if(p.1:Y)=n then M p.2 else yZ r n
def TC(n:Y):∀a:gI,(Dm a).jn n=(yZ a n).map (λc:R=>bw c)
 |[]=>rfl
 |p::r=>by
  have b:=TC n r;unfold Dm at b|-;rw[bO,gZ.jn,yZ];grind
end
def cU.zbt{s:SR}(h:cU a b s r)(c:eN):cU (cP a (X b 20)<|aO c) b {s with k:=c} r:=by
 have:=aY (i:=20) (u:=aO c) h;exact this
def cU.Q8{s:SR}(h:cU a b s r)(c:eN):cU (cP a (X b 21)<|aO c) b {s with x:=c} r:=by
 have:=aY (i:=21) (u:=aO c) h;exact this
structure gh(w w':Z)(db sb:R)(K K':DK):Prop where
 ok:cJ w' db K'
 aA:I (λk=>K.j db k\/k=sb) w w'
 j:∀k,K'.j db k->K.j db k\/G (H w)<=k
 fx:Fx K.fx K'.fx
def gh.of{w b:Z}{db j3:R}{K a:DK}(h:pR w b db K a):gh w b db j3 K a:=⟨h.ok,h.aA.aT aI,h.j,h.fx⟩
def gh.bI{w:Z}{db j3:R}{K:DK}(h:cJ w db K):gh w w db j3 K K:=⟨h,I.bI _ _,λ_ c=>J c,Fx.bI _⟩
def gh.aj{w w' c:Z}{db e:R}{K g a:DK}(h:gh w w' db e K g)(k:gh w' c db e g a):gh w c db e K a:=⟨k.ok,h.aA.aj k.aA<|λx d=>d.elim (λi=>(h.j x i).imp J id)<|λi=>J<|bj i,λx d=>(k.j x d).elim (h.j x)<|λi=>bj<|aR h.aA.D i,h.fx.aj k.fx⟩
def gh.gq{j:DK}(h:gh e P b k f j)(m:¬j.j b k)(i:R)(v:ae):gh e (cP P (X k i) v) b k f j:=by
 have l:I (λn=>n=k) P (cP P (X k i) v):=(I.bI _ P).aL k i v<|J z;exact⟨h.ok.aA l aI,h.aA.aj l ar,h.j,h.fx⟩
def pR.D(h:pR a e b f x)(d:¬f.j b c)(i:c<G (H a)):¬x.j b c:=λg=>(h.j c g).elim d<|λj=>U
structure Iy(w w':Z)(db sb:R)(K K':DK)(full:cy tY)(v:ae):Prop where
 D:gh w w' db sb K K'
 d:(v=ib/\mr full K K')\/∃l q c,l<+:full/\mr l K K'/\v=eW q/\rC w' q c/\Xo K.fx c
def Iy.of{w b:Z}{db j3:R}{K a:DK}{l:cy tY}(h:vT w b db K a l d):Iy w b db j3 K a l d:=⟨gh.of h.D,h.d⟩
def Iy.kj(h:gh a e b c f x)(k:wR f x):Iy a e b c f x [] ib:=⟨h,J ⟨rfl,k⟩⟩
def Iy.t{g:DK}{p s:cy tY}(m:f.fx.ok)(h:gh a e b c f x)(i:mr p f x)(k:Iy e P b c x g s d):Iy a P b c f g (p++s) d:=by
 refine⟨h.aj k.D,?_⟩;obtain⟨j,k⟩|⟨r,q,t,n,k,j,o,l⟩:=k.d;exact J ⟨j,i.EZ k⟩;exact bj ⟨p++r,q,t,iu _|>.2 n,i.EZ k,j,o,h.fx.A m l⟩
def Iy.jj{c d q:R}{b:DK}{l m:cy tY}(h:Iy a e c d f b l (eW q)):Iy a e c d f b (l++m) (eW q):=by
 refine⟨h.D,?_⟩;obtain⟨g,_⟩|⟨k,n,o,j,r⟩:=h.d;cases g;grind
def oZ(s:SR):cy tY:=(if s.k then [.sy<|gW s.l]else [])++(if s.x then [.sd]else [])
def MsP(w d:Z)(a:R)(s:SR)(g:Y)(K:DK)(f:Ending):Prop:=∃v e b c,f=aN v/\Iy w d s.f a K e (oZ s) v/\cU d a {s with k:=b,x:=c} g/\(v=ib->b=bD/\c=bD)
def cU.bM{s:SR}(h:cU a b s r):cU a b {s with k:=s.k,x:=s.x} r:=h
def CI(h:cU a b o r)(hd:cJ a o.f f)(hn:¬f.j o.f b)(hp:Pow a)(hl:o.l<18446744073709551616)(hx:o.k=cz->ii f.ah (gW o.l)=dE->qp f.fx)(hm:y f.l<=1000000000000):cR bN 62 #[aJ b] a λQ w'=>MsP a w' b o r f Q:=by
 have n:=az h;have aa:∀ac,cJ ac o.f f->o.k=cz->cR bN 111 #[aJ o.f,aw<|gW o.l] ac λQ w'=>wT ac w' o.f f [.sy<|gW o.l] Q:=by exactλac hW c=>TA (gW o.l) hW (hx c)<|wK hl
 have s:∀ac a,cJ ac o.f a->y a.l<=y f.l->cR bN 112 #[aJ o.f] ac λQ w'=>wT ac w' o.f a [.sd] Q:=λac a hW b=>Gc hW U;have K:=ak hd.L;have c2:=cU.bW h 2 z;have N:=cU.bW h 17 z;have O:=cU.bW h 20 z;have P:=cU.bW h 21 z;cases c:o.k with
 |false=>
  rw[c]at O;cases hln:o.x with
  |false=>
   rw[hln]at P;go_in
   go_wp2;go_ret;refine⟨_,f,bD,bD,z,?_,?_,λ_=>⟨z,z⟩⟩
   .rw[(by unfold oZ;rw[c,hln];rfl:oZ o=[])];exact Iy.kj (gh.bI hd) ⟨z,z,z⟩
   have hB:=h;unfold cU SR.bU at hB|-;grind
  |true=>
   rw[hln]at P;have g:oZ o=[.sd]:=by unfold oZ;rw[c,hln];rfl
   go_in
   go_wp21;go_call(s a f hd<|aq _)as Q t⟨v8,x,rfl,e⟩;have j:=e.D;have d:cU t b o r:=h.aA j.aA hn;obtain⟨rfl,o8⟩|⟨bc,q,aD,r1,r2,rfl,r3⟩:=e.d
   .have k:bA t (X b 21)=M (aO cz):=d.u (by rw[<-hln];rfl);have l:iH t (X b 21)=bD:=d.bS;let⟨w,u,i⟩:=eU ((gh.of j).gq (j.D hn n) 21<|aO bD) (d.Q8 bD) o8;go_wp2;go_ret;refine⟨_,x,bD,bD,z,⟨w,J ⟨z,by rwa[g]⟩⟩,?_,λ_=>⟨z,z⟩⟩;have hB:=ag u;grind
   .have L:=ak e;go_wp2;go_ret;exact⟨_,x,_,_,z,by rw[g];exact Iy.of<|ag L,d,λq=>by cases q⟩
 |true=>
  rw[c]at O;go_in
  go_wp21;rename_i QQ KK ap;refine cX (λj4=>bA j4 (X b 2)=M (aJ o.f)/\bA j4 (X b 17)=M (bw o.l)) 10 aH ?_;apply dH 0;iterate 8 (refine vf (v:=?_) (⟨c2,N⟩:bA a.drew (X b 2)=M (aJ o.f)/\bA a.drew (X b 17)=M (bw o.l)) z aH wO z ?_ ?_;rotate_left;(focus(intro j4 hX;let⟨z0,z1⟩:=hX;go_simp;try rfl));simp only[ig,eh,jZ])
  apply eS;refine aW 8 ?_;intro x an;go_simp;go_call AM o.l hl (hp.aA (cf aC a) id)as Q w1⟨rfl,av⟩;have g:I aC a w1:=(cf aC a).t<|I.p (S:=aC) av;apply an _ _<|λ_=>(⟨g.u c2 id n,g.u N id n⟩:bA w1 (X b 2)=M (aJ o.f)/\bA w1 (X b 17)=M (bw o.l));refine aW 9 ?_;intro K9 ao;go_simp;go_call(aa w1 (hd.aA g<|λ_ _=>id) c)as Q p⟨v2,D,rfl,C⟩;have B:=C.D;have bb:=g.D;have i:cU p b o r:=(h.aA g id).aA B.aA hn;apply ao _ _<|λ_=>(⟨i.u z,i.u z⟩:bA p (X b 2)=M (aJ o.f)/\bA p (X b 17)=M (bw o.l));refine aW 10 ?_;intro aU W;go_simp;apply W _ _ wW;refine dG aH ?_ _;show KK _ _;apply ap;have ab:=B.D hn U;have V:gh a w1 o.f b f f:=⟨hd.aA g<|λ_ _=>id,g.aT cY,λ_ aD=>J aD,Fx.bI _⟩;obtain⟨rfl,o2⟩|⟨bc,q,aD,r1,r2,rfl,r3⟩:=C.d;rotate_left
  .have L:=ak (show Iy a p o.f b f D (oZ o) (eW q)from by
    have:=Iy.jj (m:=if o.x then [.sd]else []) (Iy.t K V (show mr [] f f from⟨z,z,z⟩) (Iy.of C));unfold oZ;rw[c];exact this)
   go_wp2;go_ret;exact⟨_,D,_,_,z,L,i,λq=>by cases q⟩
  have aV:bA p (X b 20)=M (aO cz):=i.u (by rw[<-c];rfl);have ba:iH p (X b 20)=bD:=i.bS;have A:=i.zbt bD;have T:bA (cP p (X b 20)<|aO bD) (X b 21)=M (aO o.x):=A.u z;have e2:=cU.bW A 2 z;have ax:y D.l<=y f.l:=by
   let⟨K',⟨al,_,_,_,k⟩,_,_,a7⟩:=o2;rw[a7,k];grind
  let⟨E,l,ad,F⟩:=jr A ((V.aj<|gh.of B).gq ab 20 (aO bD):gh a (cP p (X b 20)<|aO bD) o.f b f D) o2 ab;cases hln:o.x with
  |false=>
   rw[hln]at T;go_wp2;go_ret;refine⟨_,D,bD,bD,z,⟨l,J ⟨z,?_⟩⟩,?_,λ_=>⟨z,z⟩⟩
   .unfold oZ;rwa[c,hln]
   have hB:=ag E;grind
  |true=>
   rw[hln]at T;go_wp21;go_call(s (cP p (X b 20)<|aO bD) D l.ok ax)as Q t⟨v8,x,rfl,e⟩;have j:=e.D;have d:cU t b _ r:=E.aA j.aA F;have k:Iy a t o.f b f x (oZ o) v8:=by
    have:=Iy.t K l ad<|Iy.of (j3:=b) e;unfold oZ;rwa[c,hln]
   obtain⟨rfl,o8⟩|⟨bc,q,aD,r1,r2,rfl,r3⟩:=e.d
   .have:bA t (X b 21)=M (aO cz):=d.u (by rw[<-hln];rfl);have:iH t (X b 21)=bD:=d.bS;let⟨w,u,al⟩:=eU (k.D.gq (j.D F<|au n l.aA.D) 21<|aO bD) (d.Q8 bD) k.d;go_wp2;go_ret;refine⟨_,x,bD,bD,z,⟨w,?_⟩,?_,λ_=>⟨z,z⟩⟩
    .obtain aD|⟨bc,q,aD,_,_,Q,_⟩:=ag al
     .simp_all
     .cases Q
    have:=ag u;grind
   .have L:=ak k;go_wp2;go_ret;exact⟨_,x,_,_,z,L,d,λq=>by cases q⟩
section
open Conc.Locks
def SR.BB(s:SR):SR:={s with d:=cz,L:=aF,l0:=aF,l1:=aF,l2:=aF,l3:=aF,n:=dE}
def Kn(h:cU a b o 0)(hc:o.d=bD)(ad:∃F D m,o.L=am F D m)(W:∃F D m,o.l0=am F D m)(aa:∃F D m,o.l1=am F D m)(ab:∃F D m,o.l2=am F D m)(ac:∃F D m,o.l3=am F D m)(hd:cJ a o.f f)(hn:¬f.j o.f b)(hp:Pow a)(an:b≠2)(hl:o.l<18446744073709551616)(hf:o.k=cz->ii f.ah (gW o.l)=dE->qp f.fx)(hm:y f.l<=1000000000000):cR bN 21 #[aJ b] a λap E=>∃ax K' r s,ap=aN ax/\Iy a E o.f b f K' (oZ o) ax/\cU E b {o.BB with k:=r,x:=s} 0/\(ax=ib->r=bD/\s=bD):=by
 have c0:=cU.bW h 0 z;have f0:iH a (X b 0)=bD:=h.bS;let⟨d,j⟩:∃d,cP a (X b 0) (iC 1)=d:=⟨_,rfl⟩;have c:cU d b o 1:=j▸h.jg 1;have A:I (λav=>av=b) a d:=j▸(iP b a);have:bA d (X b 5)=M (aO bD):=c.u (by rw[<-hc];rfl);have:=cU.bW c 6 z;have c7:=cU.bW c 7 z;have Q:=cU.bW c 10 z;have S:=cU.bW c 11 z;have T:=cU.bW c 12 z;have V:=cU.bW c 13 z;have:=cU.bW c 16 z;have:iH d (X b 16)=bD:=c.bS;have:iH d (X b 5)=bD:=c.bS;have:iH d (X b 7)=bD:=c.bS;have:iH d (X b 10)=bD:=c.bS;have:iH d (X b 11)=bD:=c.bS;have:iH d (X b 12)=bD:=c.bS;have:iH d (X b 13)=bD:=c.bS;let⟨p,l⟩:∃p,cP (cP (cP (cP (cP (cP (cP d (X b 5)<|aO cz) (X b 7) aF) (X b 10) aF) (X b 11) aF) (X b 12) aF) (X b 13) aF) (X b 16) (.map dE)=p:=⟨_,rfl⟩;have hS:cU p b o.BB 1:=by have t:=aY (i:=16) (u:=.map dE)<|aY (i:=13) (u:=aF)<|aY (i:=12) (u:=aF)<|aY (i:=11) (u:=aF)<|aY (i:=10) (u:=aF)<|aY (i:=7) (u:=aF)<|aY (i:=5) (u:=aO cz) c;rwa[l]at t
 have g:I (λav=>av=b) a p:=by rw[<-l];exact((((((A.aL b 5 _<|J z).aL b 7 _<|J z).aL b 10 _<|J z).aL b 11 _<|J z).aL b 12 _<|J z).aL b 13 _<|J z).aL b 16 _<|J z
 have v:=CI hS (hd.aA g aI) hn (hp.aA g<|λap=>an ap.symm) hl hf hm;let⟨L,K,N,O,P⟩:=nZ hS (hd.aA g aI) g j l;let⟨mx,mn,mc,em⟩:=ad;let⟨aV,aU,aD,ea⟩:=W;let⟨bx,bn,bc,eb⟩:=aa;let⟨cx,cn,cc,ec⟩:=ab;let⟨dx,dn,dc,ed⟩:=ac;rw[em]at c7;rw[ea]at Q;rw[eb]at S;rw[ec]at T;rw[ed]at V;clear h c A hc hd hp hf hS g j l em ea eb ec ed;go_enter_defers func21,ntmps21
 go_wp21;go_call mZ (X b 0) _ c0 f0 as ap E⟨rfl,ao⟩;rw[ag O]at ao;subst E;go_wp21;rw[ag P];go_call v as ap B⟨v2,C,r,s,rfl,n,e,w⟩;have d0:=cU.bW e 0 z;have k0:iH B (X b 0)=bD:=e.bS;have HF:=ak (show Iy a (cP B (X b 0)<|iC 0) o.f b f C (oZ o) v2/\cU (cP B (X b 0)<|iC 0) b {o.BB with k:=r,x:=s} 0/\(v2=ib->r=bD/\s=bD)from by have:=az L;have t:gh p B o.f b f C:=n.D;have al:¬C.j o.f b:=λm=>(t.j b m).elim hn<|λd=>U;have h0:gh a p o.f b f f:=⟨K,N.aT ar,λ_ m=>J m,Fx.bI _⟩;exact⟨⟨(h0.aj t).gq al 0<|iC 0,n.d.imp id<|λ⟨l,q,m,c,d,f,a,g⟩=>⟨l,q,m,c,d,f,a.aA (iP b B)<|a.pJ (j3:=b) e,g⟩⟩,e.jg 0,w⟩);clear v e n w hn;go_wp2;exact fC d0 k0 ⟨_,gG z _ _ _,⟨v2,C,r,s,z,HF⟩⟩
end
structure Aside(w:Z)(K:DK)(db sb k:R):Prop where
 lt:k<G (H w)
 j:¬K.j db k
 ne:k≠sb
def Aside.eQ{w e:Z}{db a k:R}{K c:DK}(h:Aside w K db a k)(d:gh w e db a K c):Aside e c db a k:=⟨au h.lt d.aA.D,λf=>(d.j k f).elim h.j<|λg=>bP h.lt,h.ne⟩
def Aside.A{w w':Z}{db a k:R}{K c:DK}(h:Aside w K db a k)(d:gh w w' db a K c):w'.heap[k]?=w.heap[k]?:=d.aA.A k h.lt<|λe=>e.elim h.j h.ne
def Aside.u{w w':Z}{db a k i:R}{K c:DK}(h:Aside w K db a k)(g:gh w w' db a K c)(e:bA w (X k i)=M d):bA w' (X k i)=M d:=(dZ (w:=w)<|h.A g).trans e
def Gv(h:Row a k d n Q)(l:gh a e b c f x)(g:∀j,cN d=M j->Aside a f b c j):Row e k d n Q:=l.aA.bV h<|λj i=>⟨λm=>m.elim (g j i).j (g j i).ne,(g j i).lt⟩
def PJ(a:Fs)(u:R)(b:la)(i:R):eD:=match fo a (jf u),b[i]? with
 |some f,M k=>(f.drop k.p).take k.D
 |_,_=>[]
def PI(K:DK)(u:R)(a:la):PJ (vw K.ah) u a=JW K u a:=by
 funext i;unfold PJ JW;rw[nH];cases ii K.ah (jf u)<;>cases a[i]?<;>rfl
structure qE(w:Z)(db:R)(fs:Fs)(A:fB)(t:cH):Prop where
 D:∃bb boff vV,mQ w t.tb (aJ db) t.cK (jM t.ks) (y<|iD t.ks) (pt<|iD t.ks) bb boff vV aF t.ks/\A bb
 l:A t.tb
 cK:t.cK<18446744073709551616
 jV:ny t.ks
 f:t.cs=Ef (PJ fs t.cK t.ks) t.ks
def qE.p{t:cH}(h:qE a b N W t):vP t.ks t.cs:=by
 rw[h.f];exact KI h.jV _
def qE.za{t:cH}(h:qE a c N W t):y t.dq<=qC t.ks:=by
 have:=p5 h.jV.l<|PJ N t.cK t.ks;rwa[<-h.f]at this
noncomputable def ja(a:Fs)(t:cH):cH:={t with cs:=Ef (PJ a t.cK t.ks) t.ks}
def qE.eQ{w f:Z}{db e:R}{K g:DK}{t:cH}(h:qE w db N (Aside w K db e) t)(d:gh w f db e K g):qE f db N (Aside f g db e) t:=by
 let⟨j,c,a,k,i⟩:=h.D;exact⟨⟨j,c,a,k.dU (h.l.A d)<|i.A d,i.eQ d⟩,h.l.eQ d,h.cK,h.jV,h.f⟩
def qE.Ao{t:cH}(h:qE a b N W t)(c:Fs):qE a b c W (ja c t):=⟨h.D,h.l,h.cK,h.jV,rfl⟩
structure MW(w:Z)(K:DK)(db sb:R):Prop where
 o:Steps w
 x:Pow w
 i:Aside w K db sb 1
 n:Aside w K db sb 2
def MW.eQ{w e:Z}{db c:R}{K d:DK}(h:MW w K db c)(a:gh w e db c K d):MW e d db c:=⟨λk f=>h.i.u a<|h.o k f,h.x.dU<|h.n.A a,h.i.eQ a,h.n.eQ a⟩
structure Ep(fs:Fs)(w:Z)(K:DK)(db sb:R)(v:ae)(ts:dI):Prop where
 bV:Row w 1 v (y ts) (ts.map cH.D)
 l:∀k,cN v=M k->Aside w K db sb k
 bZ:∀t∈ts,qE w db fs (Aside w K db sb) t
abbrev LvO(w:Z)(K:DK):=Ep (vw K.ah) w K
def Ep.eQ{w f:Z}{db c:R}{K e:DK}(h:Ep N w K db c d l)(a:gh w f db c K e):Ep N f e db c d l:=⟨Gv h.bV a h.l,λk g=>(h.l k g).eQ a,λt i=>(h.bZ t i).eQ a⟩
def GB(b:Fs)(a:dI):(a.map<|ja b).map cH.D=a.map cH.D:=by simp[ja,cH.D]
def pW(h:∀t∈l,ny t.ks)(a:wV l):lZ (l.map<|ja N):=by
 refine Rl (λt c=>?_)<|λi b=>?_;obtain⟨u,d,rfl⟩:=cC.1 c;exact KI (h u d) _;have:=a i<|dV b;simpa[ja]using this
def tM(b:Fs)(a:dI):ik (a.map<|ja b)=ik a:=by simp[ik,ja,kK]
def Ep.Ao(h:Ep N a f b c d l)(e:Fs):Ep e a f b c d (l.map<|ja e):=by
 refine⟨?_,h.l,λt g=>?_⟩;rw[GB,cS];exact h.bV;obtain⟨u,i,rfl⟩:=cC.1 g;exact(h.bZ u i).Ao e
def Ep.za(h:Ep N a f c k d l):y (gy l)<=ik l:=by
 have e:∀l:dI,(∀t∈l,qE a c N (Aside a f c k) t)->y (gy l)<=ik l:=by
  intro l;induction l with
  |nil=>intro _;simp[gy]
  |cons t r g=>
   intro q;have:=g (λu a=>q u<|by simp[a]);have:=(q t ar).za;rw[uO,ai];simp only[ik,bO,fq]at*;omega
 exact e l h.bZ
def je(h:∀t∈l,vP t.ks t.cs):y l<=y (gy l):=by
 induction l with
 |nil=>simp
 |cons t r b=>
  let⟨x,a,_⟩:=(h t ar).A;have:1<=y t.dq:=List.length_pos_of_mem a;have:=b (λu a=>h u<|by simp[a]);have:y (gy<|t::r)=y t.dq+y (gy r):=by simp[gy]
  grind
structure sC(fs:Fs)(w:Z)(sb:R)(s:SR)(K:DK)(m:dB)(a b c d:dI)(C:R):Prop where
 D:lF w s.L m
 L:∀k,cN s.L=M k->Aside w K s.f sb k
 l0:Ep fs w K s.f sb s.l0 a
 l1:Ep fs w K s.f sb s.l1 b
 l2:Ep fs w K s.f sb s.l2 c
 l3:Ep fs w K s.f sb s.l3 d
 f:cJ w s.f K
 l:¬K.j s.f sb
 t:MW w K s.f sb
 za:y m+ik a+ik b+ik c+ik d<=C
 v:C<=3000000000
 o:gF m
 S:∀x∈m,x.Good
 s1:lZ b
 s2:lZ c
 s3:lZ d
abbrev ST(w:Z)(a:R)(s:SR)(K:DK):=sC (vw K.ah) w a s K
def sC.FX(h:sC N a b o f i l v C F c):y i+y (gy l)+y (gy v)+y (gy C)+y (gy F)<=c:=by
 have:=h.za;have:=h.l0.za;have:=h.l1.za;have:=h.l2.za;have:=h.l3.za;omega
def sC.dL{w:Z}{K:DK}{a b d e:dI}(h:sC N w c o K i a b d e k):y i<=3000000000:=gV h.FX h.v
def sC.A{e b g j:dI}(h:sC N a c o f i e b g j k):y e+y b+y g+y j<=3000000000:=by
 have:=h.FX;have:=h.v;have:=je<|λt d=>(h.l0.bZ t d).p;have:=je h.s1.p;have:=je h.s2.p;have:=je h.s3.p;omega
def sC.eQ{w e:Z}{s:SR}{K d:DK}{m b g n:dI}(h:sC N w c s K i m b g n k)(j:c<G (H w))(a:gh w e s.f c K d):sC N e c s d i m b g n k where
 D:=Gv h.D a h.L
 L:=λg c=>(h.L g c).eQ a
 l0:=h.l0.eQ a
 l1:=h.l1.eQ a
 l2:=h.l2.eQ a
 l3:=h.l3.eQ a
 f:=a.ok
 l:=λg=>(a.j c g).elim h.l<|λp=>U
 t:=h.t.eQ a
 za:=h.za
 v:=h.v
 o:=h.o
 S:=h.S
 s1:=h.s1
 s2:=h.s2
 s3:=h.s3
def ST.eQ{w e:Z}{K a:DK}{j b l m:dI}(h:ST w c o K i j b l m k)(d:c<G (H w))(f:gh w e o.f c K a)(g:vw a.ah=vw K.ah):ST e c o a i j b l m k:=by
 rw[ST,g];exact sC.eQ h d f
def pG(s:SR)(m:dB)(a b c d:dI):cy (ae×dB):=(.iface 103 s.L,m)::(((a.map<|λt=>(Ry t,t.dq)).reverse)++[(IJ (s.l1,b),gy b)]++[(IJ (s.l2,c),gy c)]++[(IJ (s.l3,d),gy d)])
def AH(s:SR)(m:dB)(a b c d:dI):(pG s m a b c d).map (·.1)=zD s.L (s.l0,a) (s.l1,b) (s.l2,c) (s.l3,d):=by
 simp[pG,zD,qA,xp]
def sC.lvm{j b l m:dI}(h:sC N a c o f i j b l m k)(g:cU a c o r):Fw a c 10 [(o.l0,j),(o.l1,b),(o.l2,l),(o.l3,m)]:=by
 refine⟨z,λe d=>?_,λe d=>?_,λe d=>?_,?_⟩;have:e=0\/e=1\/e=2\/e=3:=aI;obtain rfl|rfl|rfl|rfl:=this<;>exact g.u z;have:e=0\/e=1\/e=2\/e=3:=aI;obtain rfl|rfl|rfl|rfl:=this;exact h.l0.bV;exact h.l1.bV;exact h.l2.bV;exact h.l3.bV;have:e=0\/e=1\/e=2\/e=3:=aI;obtain rfl|rfl|rfl|rfl:=this;exactλr d=>(h.l0.l r d).lt;exactλr d=>(h.l1.l r d).lt;exactλr d=>(h.l2.l r d).lt;exactλr d=>(h.l3.l r d).lt;have:=h.A;simp[nB];omega
structure Qz(j4:Prop)(K:DK)(fs:Fs):Prop where
 eq:fs=vw K.ah
 ok:K.fx.ok
def Qz.bI{j4:Prop}{w:Z}{db:R}{K:DK}(h:cJ w db K):Qz j4 K (vw K.ah):=⟨rfl,h.L⟩
abbrev uf(b:Prop)(a:R)(K:DK):ju:=Ml b a K<|K.j a
def nW(a:R)(K:DK):ju:=uf True a K
def Ga{t:cH}(l:Qz K f N)(o:K)(m:cJ a b f)(h:qE a b N (Aside a f b c) t)(e:MW a f b c):nX (uf K b f) (G<|H a) t.tb t.ks t.cs a:=by
 let⟨k,g,d,n,i⟩:=h.D;have j:=h.f;rw[l.eq,PI]at j;rw[j];exact nX.TV K b f (f.j b) (G<|H a) t.tb t.cK h.cK _ _ _ k g d aF t.ks a n h.jV o (aq _) m.lt ⟨h.l.lt,h.l.j⟩ ⟨i.lt,i.j⟩ e.o ⟨e.i.lt,e.i.j⟩ e.x ⟨e.n.lt,e.n.j⟩
def xL(i:Qz K f N)(o:l≠[]->K)(j:cJ a b f)(h:Ep N a f b c d l)(k:MW a f b c)(n:lZ l)(m:y l<=20000000000):uD (uf K b f) (G<|H a) d l a:=⟨h.bV,λp e=>⟨(h.l p e).lt,(h.l p e).j⟩,λt g=>Ga i (o<|uW g) j (h.bZ t g) k,n,m⟩
def Mh(c:cJ a b f)(d:∀k,f.j b k->k<G (H a)):(uf K b f).D a:=⟨d,f,c,⟨rfl,rfl,rfl⟩,λ_ h=>h,Fx.bI _⟩
theorem sC.GR(h:sC N a b o f i l v C F c):(uf K o.f f).D a:=Mh h.f h.f.lt
def ST.GR(h:ST a b o f i l v C F c):(nW o.f f).D a:=Mh h.f h.f.lt
def sC.Z6(e:Qz K f N)(d:l++v++C++F≠[]->K)(h:sC N a b o f i l v C F c):∀r∈pG o i l v C F,sZ (uf K o.f f) (G<|H a) r.1 r.2 a:=by
 have hF:∀k,(uf K o.f f).F k->k<G (H a):=h.f.lt;have:=h.A;intro r g;simp only[pG,dy,aP,pT,cC,lf,uR]at g;obtain rfl|((⟨t,j,rfl⟩|rfl)|rfl)|rfl:=g;exact sZ.Su h.D h.o (show y i<=1000000000000 from bP h.dL) (λk a=>⟨(h.L k a).lt,(h.L k a).j⟩)<|aq _;exact sZ.FB (Ga e (d<|uW (by simp[j]:t∈l++v++C++F)) h.f (h.l0.bZ t j) h.t) (aq _) hF;exact sZ.xK (xL e (λq=>d<|by simp[q]) h.f h.l1 h.t h.s1 U) (aq _) hF;exact sZ.xK (xL e (λq=>d<|by simp[q]) h.f h.l2 h.t h.s2 U) (aq _) hF;exact sZ.xK (xL e (λq=>d<|by simp[q]) h.f h.l3 h.t h.s3 U) (aq _) hF
def uI(h:lZ l):∀x∈gy l,x.Good:=by
 intro x a;unfold gy at a;let⟨f,c,a⟩:=dO.1 a;obtain⟨t,d,rfl⟩:=cC.1 c;let⟨e,b,a⟩:=dO.1 a;exact(h.p t d).S e b x a
def Nn{t:cH}(h:vP t.ks t.cs):∀x∈t.dq,x.Good:=by
 intro x a;let⟨c,b,a⟩:=dO.1 a;exact h.S c b x a
def sC.NM(h:sC N a b o f i l v C F c):∀r∈pG o i l v C F,∀x∈r.2,x.Good:=by
 intro r d;simp only[pG,dy,aP,pT,cC,lf,uR]at d;obtain rfl|((⟨t,e,rfl⟩|rfl)|rfl)|rfl:=d;exact h.S;exact Nn (h.l0.bZ t e).p;exact uI h.s1;exact uI h.s2;exact uI h.s3
def lP(c:cJ a o.f f)(d:¬f.j o.f b)(j:Y):gh a (cP a (X b 0)<|iC j) o.f b f f:=(gh.bI c).gq d 0 _
def gh.sb{d:DK}(h:gh a e b c x d)(g:¬x.j b c)(j:c<G (H a)):¬d.j b c:=λi=>(h.j c i).elim g<|λk=>U
def qT{b j3:R}(d:cJ a b f)(c:gC (G<|H a) a e):gh a e b j3 f f:=⟨d.aA (I.p (S:=aC) c)<|λ_ _=>id,(I.p (S:=aC) c).aT cY,λ_ g=>J g,Fx.bI _⟩
structure MP(w:Z)(K:DK)(sb:R)(s:SR)(sn:gI):Prop where
 ex:∃b,s.n=M b/\kO w b (Dm sn)/\Aside w K s.f sb b
 dL:y sn<=4
def MP.eQ{w g:Z}{K a:DK}{f:gI}(h:MP w K c o f)(e:gh w g o.f c K a):MP g a c o f:=by
 let⟨b,i,j,d⟩:=h.ex;exact⟨⟨b,i,j.dU<|d.A e,d.eQ e⟩,h.dL⟩
def MP.vH{s s':SR}{c:gI}(h:MP a f b s c)(j:s'.f=s.f/\s'.n=s.n):MP a f b s' c:=by
 let⟨i,d,e,g⟩:=h.ex;exact⟨aI,h.dL⟩
