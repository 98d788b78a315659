import Derived.Test.YtmnlcbeggagabaaGreatDoorC27
import Derived.Test.YtmnlcbeggagabaaGreatDoorC28
open _root_ renaming List.length→y,Option.some→H,Array.size→z,Go.World.heap→G,Go.Value.ownBlock→cz,Go.World.cell?→aS,Go.World.setCell→cA,Go.World.alloc→cG,Bool.false→bj,Bool.true→ci,Nat→M,Int→U,List→cS,Go.Calls→cD,Go.Proofs.Tryz.prog→aZ,Go.Value.slice→J,Go.Value.string→am,Go.Value.bool→aK,Go.Value.tuple→dd,Go.Value.agg→dD
namespace Go.Proofs.YtmnlcbeggagabaaGreatDoor
open ChangeShapes WideShapes RowKit Proofs.Tryz List
set_option maxHeartbeats 16000000
set_option linter.all false
set_option maxRecDepth 100000
variable{a f B:Z}{b c g m x O:M}{d:ab}{e:cI}{i L:DK}{j p r s:cN}{k:U}{l:dJ}{o:SR}{A:iF}{F:Fs}{K:Bool}{Q:Prop}
def Inv.mono{n b q r:cN}{C C' d N N':M}{k:gv}(h:Inv a c o L e n b q r C d N l k)(s:C<=C')(g:C'<=1000000)(m:N<=N')(j:N'<=100000000):Inv a c o L e n b q r C' d N' l k:={h with st:={h.st with qp:=by have:=h.st.qp;omega,oO:=g},nx:=by have:=h.nx;have:1000001*N<=1000001*N':=Nat.mul_le_mul_left _ m;omega,bn:=by have:=h.bn;omega,dM:=by have:=h.dM;omega,oO:=j}
def Inv.fE{s s':SR}{E b F K:cN}{u:gv}(h:Inv a c s i e E b F K g m x l u)(o:c<z (G a))(r:gq a f s.aM c i L)(t:vw L.files=vw i.files)(N:y L.dM<=y i.dM)(d:s'={s with iQ:=s'.iQ,iW:=s'.iW,closed:=s'.closed})(n:s'.iQ=ci->s.fa=ci):Inv f c s' L e E b F K g m x l u:=by
 have p:=(h.st.fE o r t).fields (s':=s') (by rw[d];grind) (by rw[d]);have q:s'.next=s.next:=by rw[d]
 have v:s'.log=s.log:=by rw[d]
 have k:s'.fa=s.fa:=by rw[d]
 have j:s'.aT=s.aT:=by rw[d]
 have w:s'.fS=s.fS:=by rw[d]
 have A:s'.vT=s.vT:=by rw[d]
 have B:s'.mem=s.mem:=by rw[d]
 have C:s'.nN=s.nN:=by rw[d]
 have D:s'.aM=s.aM/\s'.oo=s.oo:=by rw[d];grind
 exact⟨p,by rw[t,q,v,k];exact h.oa,h.pr,h.lp,by rw[j];exact h.mem,by rw[j];exact h.RS,h.Xv,h.XA,(h.BK.fE r).fields D,by rw[j];exact h.UZ,by rw[j];exact h.Bw,by rw[w];exact h.Rz,by rw[A];exact h.vT,h.Fb,by rw[q];exact h.nx,by rw[j];exact h.bn,by have:=h.dM;omega,by rw[B,C];exact h.zh,by rw[k];exact n,by rw[k];exact h.Qt,h.oO⟩
def Inv.Wk{s:SR}{A:cN}{w:gv}(h:Inv a b s i e j p r A c g m l w)(t:cf a b s k):cD aZ 48 #[aA b] a λB f=>B=aJ .nilIface/\∃d,gq a f s.aM b i d/\vw d.files=vw i.files/\cf f b {s with iQ:=bj,iW:=bj} k/\Inv f b {s with iQ:=bj,iW:=bj} d e j p r A c g m l w/\Ze s i d:=by
 refine(yr t h.st.aM h.st.yO h.st.lL.pow (by have:=h.oa.lt;have:=h.nx;have:=h.oO;omega) (λq=>⟨_,h.oa.log<|h.loose q,by have:=h.JJ.1;omega⟩) (by have:=h.dM;have:=h.oO;omega)).mono ?_;rintro B f⟨rfl,d,u,v,x,n,o⟩;exact⟨rfl,d,u,v,n,h.fE (ar t) u v x rfl<|λq=>(by cases q),o⟩
def Inv.safe{s:SR}{u b v w:cN}{j:gv}(A:Inv a c s i e u b v w g m x l j)(t:cf a c s k):cD aZ 48 #[aA c] a λn h=>n=aJ .nilIface/\∃d,gq a h s.aM c i d/\vw d.files=vw i.files/\cf h c {s with iQ:=bj,iW:=bj} k/\Inv h c {s with iQ:=bj,iW:=bj} d e u b v w g m x l j:=(A.Wk t).mono<|λ_ _⟨n,d,o,p,q,r,_⟩=>⟨n,d,o,p,q,r⟩
theorem Ep{c:GL}(a:1<=c.key.size/\c.key.size<=8)(f:c.del=bj->c.val.size<=16)(b:0<=k)(d:k<18446744073709551616):(jl k c).Good:=by
 refine⟨a.1,a.2,?_,?_,b,d⟩
 .unfold jl;cases q:c.del with
  |true=>simp[ByteArray.size]
  |false=>grind
 intro q;have e:c.del=ci:=q;simp[jl,e]
def Aw(s:SR)(a b c:cN):Prop:=(s.fS:U)<s.mem/\US s.nN a b c
structure EL(w w':Z)(sb:M)(s:SR)(k:U)(K:DK)(C N:M)(sn:gv)(nb:M)(R0:U->ae->Option ae)(s':SR)(K':DK)(m':cI)(a' b' c' d':cN)(tb':M)(ls':dJ):Prop where
 box:cf w' sb s' k
 inv:Inv w' sb s' K' m' a' b' c' d' C tb' N ls' sn
 uy:∀t,(t∈sC sn\/t=(nb:U))->∀q,ft t (m'::bY a' b' c' d') q=R0 t q
 fE:gq w w' s.aM sb K K'
 same:s'.aM=s.aM/\s'.closed=s.closed/\s'.mem=s.mem/\s'.nN=s.nN/\s'.KZ=s.KZ/\s'.oo=s.oo
 Bw:s'.aT=nb
 tid:Aw s' a' b' c'
def vK(w n:Z)(a:M)(s:SR)(o:U)(K:DK)(C N:M)(m:gv)(k:M)(e:U->ae->Option ae):Prop:=∃l d j f g h i c b,EL w n a s o K C N m k e l d j f g h i c b
def VY(s:SR)(K:DK)(b:Bool)(c:M)(a:dJ)(f:cI)(o p q r:cN)(h:SR)(e:DK)(i:M)(g:dJ)(k l m n:cN):Prop:=0<y f->(s.fS:U)+(y f:U)<s.mem->(i=c/\g=a++[f]/\k=o/\l=p/\m=q/\n=r)/\(h.fa=ci/\h.log=s.log/\h.next=s.next)/\∃j d,UI s K d j (mF ((c:U)+1+y a) f)/\(b=bj->e=d)/\(b=ci->j=ci->∃F,mS d.files (fD s.log)=H F/\e.files=mB d.files {F with safe:=y F.bytes}/\e.dM=[]/\e.sm=(d.dM.map (·.2)).foldl mR d.sm)
abbrev PX:=SR->DK->M->dJ->cN->cN->cN->cN->Prop
def CB(w o:Z)(b:M)(s:SR)(p:U)(K:DK)(C N:M)(n:gv)(m:M)(k:U->ae->Option ae)(d:PX):Prop:=∃j e l f g h i c a,EL w o b s p K C N n m k j e l f g h i c a/\d j e c a f g h i
def CB.ap{A p w':Z}{n:gv}{j:U->ae->Option ae}{a:PX}(h:CB p w' c o k L g m n x j a)(l:I az A p):CB A w' c o k L g m n x j a:=by
 obtain⟨s',r,w,s,b',t,u,e,d,h,v⟩:=h;exact⟨s',r,w,s,b',t,u,e,d,⟨h.box,h.inv,h.uy,⟨h.fE.ok,(l.mono (T:=λk=>L.aO o.aM k\/k=c) cC).trans h.fE.ap<|λ_ q=>.inl q,λk q=>(h.fE.aO k q).imp id<|λB=>aB l.size B⟩,h.same,h.Bw,h.tid⟩,v⟩
def vK.ap{w n w':Z}{l:gv}{e:U->ae->Option ae}(h:vK n w' c o k L g m l x e)(j:I az w n):vK w w' c o k L g m l x e:=by
 obtain⟨s',p,u,r,b',s,t,d,a,h⟩:=h;exact⟨s',p,u,r,b',s,t,d,a,h.box,h.inv,h.uy,⟨h.fE.ok,(j.mono (T:=λk=>L.aO o.aM k\/k=c) cC).trans h.fE.ap<|λ_ q=>.inl q,λk q=>(h.fE.aO k q).imp id<|λv=>aB j.size v⟩,h.same,h.Bw,h.tid⟩
def Inv.Bc{d:gv}(n:Inv a b o i e j p r s c g m l d)(f:k∈sC d\/k=(o.aT:U))(q:ae):ft k (e::bY j p r s) q=ft k (im d e []::bY j p r s) q:=by
 unfold ft;rw[show im d e []=dG (sC d) e from rfl,Hi n.row<|f.imp_right (λt x h=>by rw[t];exact(n.RS x h).2)]
def uD(n:M)(a:cI):M:=if y a=0 then n else n+1
def JD(B:gv){Q:pS}(E:Bool)(h:cf a b o k)(hV:Inv a b o L e j p r s c g m l B)(hT:Aw o j p r)(hc:Cz a d Q)(h8:y Q<=8)(hk:∀an∈Q,1<=an.key.size/\an.key.size<=8)(hv:∀an∈Q,an.del=bj->an.val.size<=16)(bx:∀an∈Q,an.val.size<=140737488351232)(hC:c+y Q<=1000000)(hN:m+1<=100000000):cD aZ 38 #[aA b,d,aK E] a λaF w'=>aF=aJ .nilIface/\CB a w' b o k L (c+y Q) (m+1) B (uD o.aT<|Q.map<|jl<|(o.aT:U)+1) (λbi=>ft bi<|im B e (Q.map<|jl<|(o.aT:U)+1)::bY j p r s) (VY o L E g l (Q.map<|jl<|(o.aT:U)+1) j p r s):=by
 have bv:=ar h;have cB:=hV.bn;have P:=Uf ((o.aT:U)+1) hc (by omega)<|λan hx=>⟨by have:=(hk an hx).2;omega,bx an hx⟩;obtain⟨n,T⟩:∃n,Q.map (jl<|(o.aT:U)+1)=n:=⟨_,rfl⟩;rw[T]at P|-;have bh:y n=y Q:=by rw[<-T];simp
 have V:∀an∈n,an.Good:=λan hx=>by rw[<-T]at hx;grind[Ep]
 have ba:∀an∈n,an.bJ=(o.aT:U)+1:=λan hx=>by rw[<-T]at hx;obtain⟨f,t,rfl⟩:=bM.1 hx;rfl
 obtain⟨ds,dn,ck⟩:=xN hc;subst ck;rw[<-bh]at P hC h8|-;have k9:=cf.cellAt h 9 rfl;have dm:IntKind.u64.wrap ((o.aT:U)+1)=(o.aT:U)+1:=by rw[fi];omega
 obtain⟨HH,HV,HG,bl,av⟩:=jk h hV V ba hT;have cT:y Q=y n:=bh.symm;clear h hV V ba hc hk hv bx T bh hT;go_in
 go_wp2_with fail
 apply P.mono;rintro aF O⟨v1,rfl,aD,ad⟩;obtain⟨x1,c1,co⟩:=aC aD;subst co;have bg:gq a O o.aM b L L:=⟨HV.st.aM.ap ad<|λ_ _=>id,ad.mono cC,λ_ q=>.inl q⟩;have br:cf O b o k:=(ad.block b bv id).trans HH;have bo:Inv O b o L e j p r s c g m l B:=HV.fE bv bg rfl (ai _) rfl HV.loose;have hA1:∀q,cz (J x1 (y n) c1)=H q->Aside O L o.aM b q:=λq hq=>by have f:=aD.lt q hq;exact⟨f.2,λg=>by have:=HV.st.aM.lt q g;omega,by omega⟩
 obtain⟨bm,ao,x,w,bk,cu⟩:=kY aD ad br bo hA1 bg;clear aD ad br bo hA1 bg P HV HH;by_cases hz:y n=0
 .have f:n=[]:=aP hz;have cm:¬(0:U)<(y n:U):=by omega
  cases E with
  |true=>
   have aa:=w.safe x;go_wp2_with fail
   apply aa.mono;rintro aF w2⟨rfl,K2,K,t,F,D⟩;have HP:=Y<|show CB O w2 b o k L (c+y n) (m+1) B (uD o.aT n) (λbi=>ft bi<|im B e n::bY j p r s) (VY o L ci g l n j p r s)from⟨_,K2,e,j,p,r,s,g,l,⟨F,D.mono (by omega) hC (by omega) hN,λbi ht q=>by rw[f]at ht|-;exact D.Bc ht q,K,⟨rfl,rfl,rfl,rfl,rfl,rfl⟩,by rw[f];rfl,av⟩,λq=>by omega⟩;clear K t F D aa;go_wp2;go_ret;exact⟨rfl,HP.ap ao⟩
  |false=>
   have HP:=Y<|show CB O O b o k L (c+y n) (m+1) B (uD o.aT n) (λbi=>ft bi<|im B e n::bY j p r s) (VY o L bj g l n j p r s)from⟨o,L,e,j,p,r,s,g,l,⟨x,w.mono (by omega) hC (by omega) hN,λbi ht q=>by rw[f]at ht|-;exact w.Bc ht q,gq.refl w.st.aM,⟨rfl,rfl,rfl,rfl,rfl,rfl⟩,by rw[f];rfl,av⟩,λq=>by omega⟩;go_wp2;go_ret;exact⟨rfl,HP.ap ao⟩
 .have cm:(0:U)<(y n:U):=by omega
  have k8:=cf.cellAt x 8 rfl;have k3:=cf.cellAt x 3 rfl;have bT:aS O (R b 19)=H (aK bj):=by rw[<-(af w).vT];exact x.cell rfl
  have k7:∃mx mc,o.memory=J mx (y e) mc:=by
   obtain⟨an,r,aF⟩:=bN w.st.mem;grind
  obtain⟨mx,mc,bu⟩:=k7;have k7:aS O (R b 7)=H (J mx (y e) mc):=by rw[<-bu];exact x.cell rfl
  have k9:=cf.cellAt x 9 rfl;have cM:o.fS<32:=by rw[(af w).Rz];exact w.lp.sum
  have dk:IntKind.i64.wrap ((o.fS:U)+(y n:U))=(o.fS:U)+(y n:U):=by rw[bS];omega
  clear bu;by_cases cl:o.mem<=(o.fS:U)+(y n:U)
  .go_wp2_with fail
   go_quiet(fail)
   go_wp2_with fail
   obtain⟨f,hU⟩:∃f,O.drewN nq=f:=⟨_,rfl⟩;have A:I az O f:=by rw[<-hU];exact je _ _ _
   have N:gq O f o.aM b L L:=⟨w.st.aM.ap A<|λ_ _=>id,A.mono cC,λ_ q=>.inl q⟩;have C:cf f b o k:=(A.block b (ar x) id).trans x;have u:Inv f b o L e j p r s c g m l B:=w.fE (ar x) N rfl (ai _) rfl w.loose;have S:∀q,cz (J x1 (y n) c1)=H q->Aside f L o.aM b q:=λq hq=>(bk q hq).fE N;have X:=A.own bm<|λ_ _ q=>q;have au:=Y<|ao.bW A;rw[hU];clear hU;have db:=u.WW;have bb:uD o.aT n=o.aT+1:=by unfold uD;rw[eI hz]
   have bt:gq f f.drew o.aM b L L:=vG u.st.aM<|below_drewN (Below.refl _ f) 1;obtain⟨mb,m1,m2,m3⟩:=(u.BK.fE bt).ex;have bd:=AG b o k B (J x1 (y n) c1) n (by exact C) m1 m2 u.BK.len (by exact u.st.mem) (λq hq=>(u.st.vp q hq).lt) (dE<|by exact X) (λq hq=>(S q hq).lt) u.st.mh (by omega);have bE:cD aZ 58 #[aA b,J x1 (y n) c1] f.drew λaF w'=>∃a,aF=aJ a/\w'.ownsRow (z<|G f) 170 4 a (y<|im B e n) (aI<|im B e n)/\I az f.drew w':=bd;clear bd m1 m2 m3 bt;have bc:∀w6 v6,w6.ownsRow (z<|G f) 170 4 v6 (y<|im B e n) (aI<|im B e n)->I az f.drew w6->cD aZ 62 #[aA b,v6,aE<|(o.aT:U)+1] w6 λaF w'=>aF=aJ .nilIface/\CB w6 w' b o k L (c+y n) (m+1) B (uD o.aT n) (λbi=>ft bi<|im B e n::bY j p r s) (VY o L E g l n j p r s):=λw6 v6 W al=>by
    have ac:I az f w6:=(cR az f).bW al;have bs:gq f w6 o.aM b L L:=⟨u.st.aM.ap ac<|λ_ _=>id,ac.mono cC,λ_ q=>.inl q⟩;have t:=u.fE (ar C) bs rfl (ai _) rfl u.loose;have cj:cf w6 b o k:=(ac.block b (ar C) id).trans C;have dc:=AJ B e n;obtain⟨n1,n2,n3⟩:=t.zN HG bl;have cE:=t.Bw;have cn:=Dg v6 (c+y n) (o.aT+1) cj t.st t.Fb t.pr (dE W) (λq hq=>(W.lt q hq).2) (AI t.st.mh B n) (AH t.st.mh t.BK.len n) n1 (by omega) (λan hx=>(n2 an hx).1) (λan hx=>by have:=(n2 an hx).2;grind) (by omega) (by have:=t.st.qp;omega) hC t.zh.2.2.1 t.oa t.JJ.1 (by omega) (by have:=t.nx;have:=t.oO;omega) (by have:=t.dM;have:=t.oO;omega) B t.BK;apply cn.mono;rintro aF w'⟨rfl,v0,v1,v2,v3,K',num,a',b',c',d',hO,ch⟩;exact⟨rfl,_,K',[],a',b',c',d',o.aT+1,[],⟨hO.box,hO.inv t.zh t.nx (by omega) hN t.BK t.UZ (by omega),λbi ht q=>by rw[lW];exact hO.uy bi (ht.imp_right (λaF=>by rw[aF,bb];grind)) q,hO.fE,⟨rfl,rfl,rfl,rfl,rfl,rfl⟩,bb.symm,by have:=t.zh.1;show((0:M):U)<o.mem;omega,ch⟩,λ_ q=>by omega⟩
   have cs:=cf.cellAt C 9 rfl;obtain⟨cc,bn,ca,cv⟩:=fX bE bc u C;clear bE bc u C S X N A k7 k8 k9 k3 bT;rename_i KK bq;have ax:aS f.drew (R b 9)=H (aE o.aT):=cs;refine kG (λ(bf:Z)=>aS bf (R b 9)=H (aE o.aT)) 9 (by kernel_rfl) ?_;refine lT 0 ?_;iterate 3 (refine yG (v:=?_) ax rfl (by kernel_rfl) ma rfl ?_ ?_;rotate_left;(focus(rintro bf z9;go_simp;try rfl));simp only[Act.put,eF,Nat.reduceAdd])
   apply qo;refine lT 4 ?_;iterate 5 (refine yG (v:=?_) ax rfl (by kernel_rfl) ma rfl ?_ ?_;rotate_left;(focus(rintro bf z9;go_simp;try rfl));simp only[Act.put,eF,Nat.reduceAdd])
   apply qo;refine gH (i:=3) rfl rfl (by kernel_rfl) ?_;intro K6 bp;go_simp;apply cc.mono;rintro aF w6⟨v6,rfl,W,al⟩;obtain⟨x6,c6,cp⟩:=aC W;subst cp;have ce:aS w6 (R b 9)=H (aE o.aT):=al.cell ax id<|qP ax;refine bp _ _ (λ_=>ce) ?_;clear bp;try simp only[Act.put,eF]
   refine gH (i:=9) rfl rfl (by kernel_rfl) ?_;intro cw aU;go_simp;apply(bn w6 _ W al).mono;rintro aF w7⟨rfl,cd⟩;have cb:=Y cd;refine aU _ _ (λq=>by omega) ?_;clear aU;try simp only[Act.put,eF]
   refine gH (i:=10) rfl rfl (by kernel_rfl) ?_;intro cx aV;go_simp;refine aV _ _ (λq=>by omega) ?_;refine kH (by kernel_rfl) ?_ _;show KK _ _;apply bq;clear bq aV;go_wp2;go_ret;exact⟨rfl,cb.ap<|(au.bW<|cR az f).bW al⟩
  .go_wp2_with fail
   go_quiet(fail)
   go_wp2_with fail
   obtain⟨f,hU⟩:∃f,O.drewN nq=f:=⟨_,rfl⟩;have A:I az O f:=by rw[<-hU];exact je _ _ _
   have N:gq O f o.aM b L L:=⟨w.st.aM.ap A<|λ_ _=>id,A.mono cC,λ_ q=>.inl q⟩;have C:cf f b o k:=(A.block b (ar x) id).trans x;have u:Inv f b o L e j p r s c g m l B:=w.fE (ar x) N rfl (ai _) rfl w.loose;have S:∀q,cz (J x1 (y n) c1)=H q->Aside f L o.aM b q:=λq hq=>(bk q hq).fE N;have X:=A.own bm<|λ_ _ q=>q;have au:=Y<|ao.bW A;rw[hU];clear hU;have W:=BQ B C u (dE X) S (by omega) h8 HG bl (by have:=u.zh;omega) hC hN;have ca:=Y u;clear u C S X N A k7 k8 k9 k3 bT;apply W.mono;rintro aF w2⟨rfl,bf,aV,K2,F,D,K,t⟩;cases E with
   |true=>
    have aa:=D.Wk F;have bb:=Y K;have bc:=Y t;clear W F D K t;go_wp2_with fail
    apply aa.mono;rintro aF w3⟨rfl,K3,al,bd,ac,ax,aU⟩;have HP:=Y<|show CB f w3 b o k L (c+y n) (m+1) B (uD o.aT n) (λbi=>ft bi<|im B e n::bY j p r s) (VY o L ci g l n j p r s)from⟨_,K3,_,j,p,r,s,g,_,⟨ac,ax,λ_ _ _=>rfl,bb.trans al,⟨rfl,rfl,rfl,rfl,rfl,rfl⟩,by unfold uD;rw[eI hz];rfl,by show((o.fS+y n:M):U)<o.mem;omega,av.2⟩,λ_ _=>⟨⟨rfl,rfl,rfl,rfl,rfl,rfl⟩,⟨rfl,rfl,rfl⟩,aV,K2,bc,λq=>(by cases q),λ_ aF=>aU rfl aF⟩⟩;clear al bd ac ax aU aa;go_wp2;go_ret;exact⟨rfl,HP.ap au⟩
   |false=>
    have HP:=Y<|show CB f w2 b o k L (c+y n) (m+1) B (uD o.aT n) (λbi=>ft bi<|im B e n::bY j p r s) (VY o L bj g l n j p r s)from⟨_,K2,_,j,p,r,s,g,_,⟨F,D,λ_ _ _=>rfl,K,⟨rfl,rfl,rfl,rfl,rfl,rfl⟩,by unfold uD;rw[eI hz];rfl,by show((o.fS+y n:M):U)<o.mem;omega,av.2⟩,λ_ _=>⟨⟨rfl,rfl,rfl,rfl,rfl,rfl⟩,⟨rfl,rfl,rfl⟩,aV,K2,t,λ_=>rfl,λq=>(by cases q)⟩⟩;clear W F D K t;go_wp2;go_ret;exact⟨rfl,HP.ap au⟩
def Ym(n:gv){f:pS}(h:Bool)(X:cf a b o k)(O:Inv a b o i e j p r s c g m l n)(N:Aw o j p r)(P:Cz a d f)(F:y f<=8)(Q:∀x∈f,1<=x.key.size/\x.key.size<=8)(S:∀x∈f,x.del=bj->x.val.size<=16)(q:∀x∈f,x.val.size<=140737488351232)(K:c+y f<=1000000)(L:m+1<=100000000):cD aZ 38 #[aA b,d,aK h] a λD W=>D=aJ .nilIface/\vK a W b o k i (c+y f) (m+1) n (uD o.aT<|f.map<|jl<|(o.aT:U)+1) (λaa=>ft aa<|im n e (f.map<|jl<|(o.aT:U)+1)::bY j p r s):=(JD n h X O N P F Q S q K L).mono<|λ_ _⟨D,V,v,T,w,A,B,C,u,t,E,_⟩=>⟨D,V,v,T,w,A,B,C,u,t,E⟩
section
open Conc.Locks
theorem IJ{a:pS}(h:lz a=0):(∀x∈a,1<=x.key.size/\x.key.size<=8)/\∀x∈a,x.del=bj->x.val.size<=16:=by
 induction a with
 |nil=>simp
 |cons c r b=>
  unfold lz at h;grind
def rl{a:pS}(h:fJ a=0):y a<=8/\(∀x∈a,1<=x.key.size/\x.key.size<=8)/\∀x∈a,x.del=bj->x.val.size<=16:=by
 unfold fJ at h;grind[IJ]
def Gv(h:cf a b o k):cD aZ 37 #[aA b,.nilIface] a λf e=>f=aJ .nilIface/\Below (z<|G<|cA a (R b 6) .nilIface) (cA a (R b 6) .nilIface) e:=by
 have g:=cf.cellAt h 6 rfl;have i:a.frozen? (R b 6)=bj:=h.free;have d:=Gp<|cA a (R b 6) .nilIface;clear h;go_in
 go_wp2_with fail
 apply d.mono;rintro f e⟨rfl,c⟩;have HB:=Y c;clear c d;go_wp2;go_ret;exact⟨rfl,HB⟩
def UU(r:ab)(g:Bool)(h:cf a b o 0)(m:o.closed=ci):cD aZ 15 #[aA b,r,aK g] a λn l=>n=aJ (pO 6)/\cf l b o 0/\I (λw=>w=b) a l:=by
 have q:=cf.cellAt h 0 rfl;have t:a.frozen? (R b 0)=bj:=h.free;have k:=h.lN 1;have c:=mi k;rw[m]at c;simp only[lk]at c;have p:=Y<|λi j=>zA (W2:=i) k (iV b a) j;clear h k m;rw[Iw]at c|-;go_enter_defers func15,ntmps15
 go_wp2_with fail
 apply(lock_free (R b 0) _ q t).mono;rintro n l⟨rfl,rfl⟩;go_wp2_with fail
 apply c.mono;rintro n i⟨rfl,j⟩;obtain⟨s,u,d⟩:=p i j;have e:=Y d;clear d j c;go_wp2;refine jp (f:=34) (args:=#[aA b]) (by simp) (by simp[go_sem]) ?_;apply(unlock_deferred (R b 0) .returning _ s u).mono;rintro n x v⟨rfl,rfl,rfl⟩;exact⟨_,jP rfl _ _ _,rfl,e⟩
def mj(a:pS):M:=if fJ a=0 then y a else 0
def zQ(n:M)(a:pS):M:=if fJ a=0 then uD n (a.map<|jl<|(n:U)+1)else n
def yn(c:gv)(m:cI)(a:dJ)(n:U)(b:pS)(t:U):ae->Option ae:=if fJ b=0 then ft t (im c m (b.map<|jl n)::a)else ft t (m::a)
def EL.fin{E:gv}{D:U->ae->Option ae}{t:SR}(h:EL a f b o 1 i c g E m D t L e j p r s x l)(u:Below (z<|G<|cA f (R b 6) .nilIface) (cA f (R b 6) .nilIface) B):aS B (R b 0)=H (lU 1)/\B.frozen? (R b 0)=bj/\EL a (cA B (R b 0)<|lU 0) b o 0 i c g E m D t L e j p r s x l:=by
 have n:¬L.aO o.aM b:=by have:=h.inv.st.yO;rw[h.same.1]at this;exact this
 have C:=ar h.box;have v:cf (cA f (R b 6) .nilIface) b t 1:=(aL h.box).trans rfl;have d:cf B b t 1:=v.ap (I.aQ (S:=az) u) id;have k:=h.fE.set n 6 .nilIface;have w:=(k.trans<|vG (sbqq:=b) k.ok u).set n 0<|lU 0;have q:=(gq.refl h.inv.st.aM (sbqq:=b)).set h.inv.st.yO 6 .nilIface;have A:gq f (cA B (R b 0)<|lU 0) t.aM b L L:=(q.trans<|vG (sbqq:=b) q.ok u).set h.inv.st.yO 0<|lU 0;exact⟨d.cell rfl,d.free,d.lN 0,h.inv.fE C A rfl (ai _) rfl h.inv.loose,h.uy,w,h.same,h.Bw,h.tid⟩
def wk(T:gv){k:pS}(t:Bool)(h:cf a b o 0)(hV:Inv a b o i e j p r s c g m l T)(hT:Aw o j p r)(aF:o.closed=bj)(hc:∀bi,I (λbg=>bg=b) a bi->Cz bi d k)(hz:∀bf∈k,bf.key.size<=140737488351232/\bf.val.size<=140737488351232)(hr:y k<=1000000000)(hC:c+mj k<=1000000)(hN:m+1<=100000000):cD aZ 15 #[aA b,d,aK t] a λal D=>al=aJ (pO<|fJ k)/\CB a D b o 0 i (c+mj k) (m+1) T (zQ o.aT k) (yn T e (bY j p r s) ((o.aT:U)+1) k) (λs' W v u X b' c' d'=>fJ k=0->VY o i t g l (k.map<|jl<|(o.aT:U)+1) j p r s s' W v u X b' c' d'):=by
 have aV:=ar h;have c0:=cf.cellAt h 0 rfl;have f0:a.frozen? (R b 0)=bj:=h.free;have N:=xO hV.st.aM hV.st.yO 1;have h1:=h.lN 1;have C:=hV.fE aV N rfl (ai _) rfl hV.loose;have au:I (λbg=>bg=b) a (cA a (R b 0)<|lU 1):=(iV b a);have L:Cz (cA a (R b 0)<|lU 1) d k:=hc _ au;generalize hW:cA a (R b 0) (lU 1)=S at N h1 C au L;have Q:=mi h1;rw[aF]at Q;have ad:cD aZ 35 #[aA b] S λal D=>al=aJ .nilIface/\Below (z<|G S) S D:=Q;have w:∀Wr,I az S Wr->cD aZ 36 #[d] Wr λal D=>al=aJ (pO<|fJ k)/\I az Wr D:=λWr a=>Ti (L.ap a<|λ_ _=>id) (by omega) hz;have O:fJ k=0->∀B,I az S B->cD aZ 38 #[aA b,d,aK t] B λal D=>al=aJ .nilIface/\CB a D b o 1 i (c+mj k) (m+1) T (zQ o.aT k) (yn T e (bY j p r s) ((o.aT:U)+1) k) (λs' W v u X b' c' d'=>fJ k=0->VY o i t g l (k.map<|jl<|(o.aT:U)+1) j p r s s' W v u X b' c' d'):=λx B n=>by obtain⟨q1,q2,q3⟩:=rl x;have ac:gq S B o.aM b i i:=⟨C.st.aM.ap n<|λ_ _=>id,n.mono cC,λ_ q=>.inl q⟩;have aD:=C.fE (ar h1) ac rfl (ai _) rfl C.loose;have F:cf B b o 1:=(n.block b (ar h1) id).trans h1;(have ax:mj k=y k:=by unfold mj;rw[dV x]);(have ba:yn T e (bY j p r s) ((o.aT:U)+1) k=λbh=>ft bh (im T e (k.map<|jl<|(o.aT:U)+1)::bY j p r s):=by funext bh;unfold yn;rw[dV x]);(have aU:zQ o.aT k=uD o.aT (k.map<|jl<|(o.aT:U)+1):=by unfold zQ;rw[dV x]);rw[ax,ba,aU];refine(JD T t F aD hT (L.ap n<|λ_ _=>id) q1 q2 q3 (λbf hx=>(hz bf hx).2) (by rw[<-ax];exact hC) hN).mono ?_;rintro al D⟨rfl,s',W,m',X,b',c',d',v,u,E,hx⟩;exact⟨rfl,s',W,m',X,b',c',d',v,u,⟨E.box,E.inv,E.uy,(N.trans ac).trans E.fE,E.same,E.Bw,E.tid⟩,λ_=>hx⟩
 have P:fJ k≠0->∀B,I az S B->aS B (R b 0)=H (lU 1)/\B.frozen? (R b 0)=bj/\CB a (cA B (R b 0)<|lU 0) b o 0 i (c+mj k) (m+1) T (zQ o.aT k) (yn T e (bY j p r s) ((o.aT:U)+1) k) (λs' W v u X b' c' d'=>fJ k=0->VY o i t g l (k.map<|jl<|(o.aT:U)+1) j p r s s' W v u X b' c' d'):=λx B n=>by have ac:gq S B o.aM b i i:=⟨C.st.aM.ap n<|λ_ _=>id,n.mono cC,λ_ q=>.inl q⟩;have F:cf B b o 1:=(n.block b (ar h1) id).trans h1;have ax:=(N.trans ac).set hV.st.yO 0<|lU 0;refine⟨F.cell rfl,F.free,o,i,e,j,p,r,s,g,l,⟨F.lN 0,(hV.fE aV ax rfl (ai _) rfl hV.loose).mono (by omega) hC (by omega) hN,λbh _ q=>by unfold yn;rw[eI x],ax,⟨rfl,rfl,rfl,rfl,rfl,rfl⟩,by unfold zQ;rw[eI x],hT⟩,λq=>absurd q x⟩
 obtain⟨cx,cc,bc⟩:=xN L;subst bc;obtain⟨an,ao,HW,V⟩:=fX O P hW w;clear h hV hT N h1 C aF hW O P hc L au hz Q w;by_cases x:fJ k=0;(.have O:=an x;(have aa:pO (fJ k)=.nilIface:=by rw[x];rfl);rw[aa]at V|-;clear an ao x;(go_enter_defers func15,ntmps15);(go_wp2_with fail);apply(lock_free (R b 0) _ c0 f0).mono;rintro al D⟨rfl,av⟩;rw[af HW]at av;subst D;(go_wp2_with fail);apply ad.mono;rintro al Wr⟨rfl,K⟩;have A:I az S Wr:=I.aQ K;have w:=V Wr A;clear K ad;(go_wp2_with fail);apply w.mono;rintro al w2⟨rfl,n⟩;have hd:=O w2<|A.bW n;clear O w n A;(go_wp2_with fail);apply hd.mono;rintro al w3⟨rfl,s',W,m',X,b',c',d',v,u,E,hx⟩;have aU:=Gv E.box;have HO:=Y E;have bb:=Y hx;clear E hd hx;(go_wp2_with fail);apply aU.mono;rintro al w4⟨rfl,aD⟩;obtain⟨d0,g0,ax⟩:=HO.fin aD;have ba:=Y ax;clear ax aD aU;go_wp2;refine jp (f:=34) (args:=#[aA b]) (by simp) (by simp[go_sem]) ?_;apply(unlock_deferred (R b 0) .returning _ d0 g0).mono;rintro al u' bd⟨rfl,rfl,rfl⟩;exact⟨_,jP rfl _ _ _,rfl,s',W,m',X,b',c',d',v,u,ba,bb⟩);have P:=ao x;obtain⟨ax,hn⟩:∃ax,fJ k=ax:=⟨_,rfl⟩;(have aa:pO (fJ k)=.iface 44 (aq ax):=by unfold pO;rw[eI x,hn]);rw[aa]at V|-;clear an ao x hn aa;(go_enter_defers func15,ntmps15);(go_wp2_with fail);apply(lock_free (R b 0) _ c0 f0).mono;rintro al D⟨rfl,av⟩;rw[af HW]at av;subst D;(go_wp2_with fail);apply ad.mono;rintro al Wr⟨rfl,K⟩;have A:I az S Wr:=I.aQ K;have w:=V Wr A;clear K ad;(go_wp2_with fail);apply w.mono;rintro al w2⟨rfl,n⟩;obtain⟨d0,g0,hP⟩:=P w2<|A.bW n;have HP:=Y hP;clear P w n A hP;go_wp2;refine jp (f:=34) (args:=#[aA b]) (by simp) (by simp[go_sem]) ?_;apply(unlock_deferred (R b 0) .returning _ d0 g0).mono;rintro al u' bd⟨rfl,rfl,rfl⟩;exact⟨_,jP rfl _ _ _,rfl,HP⟩
def Mg(k:gv){f:pS}(h:Bool)(V:cf a b o 0)(K:Inv a b o i e j p r s c g m l k)(F:Aw o j p r)(n:o.closed=bj)(L:∀W,I (λX=>X=b) a W->Cz W d f)(O:∀T∈f,T.key.size<=140737488351232/\T.val.size<=140737488351232)(N:y f<=1000000000)(D:c+mj f<=1000000)(E:m+1<=100000000):cD aZ 15 #[aA b,d,aK h] a λB S=>B=aJ (pO<|fJ f)/\vK a S b o 0 i (c+mj f) (m+1) k (zQ o.aT f) (yn k e (bY j p r s) ((o.aT:U)+1) f):=(wk k h V K F n L O N D E).mono<|λ_ _⟨B,Q,u,P,v,w,x,A,t,q,C,_⟩=>⟨B,Q,u,P,v,w,x,A,t,q,C⟩
end
section
open Shelf
attribute [local go_sem] Oper.semAt_some
def FA(n:U)(c:ou a):cD aZ 11 #[pO n] a λe b=>e=aJ (aq n)/\Below (z<|G a) a b:=by
 unfold pO;grind[kr,Mn]
def Yt(w:Z)(c:GL):EO (cG w<|ay #[am c.key,am c.val,aK c.del] 57) (aY (z<|G w) 0 1 1) [c]:=by
 have h:(cG w<|ay #[am c.key,am c.val,aK c.del] 57).heap[z<|G w]?=H (ay #[am c.key,am c.val,aK c.del] 57 (0,0)):=aH _ rfl;refine⟨rfl,.inr ⟨z<|G w,0,1,rfl,ai _,λj u a=>?_⟩⟩;rw[bV h,dr];simpa[iE,rk]using a
end
def ou.ap{S:eT}{w w':Z}(h:ou w)(c:I S w w')(a:¬S 0):ou w':=by
 unfold ou at*;exact c.cell h a<|cW _ _ h
def Inv.reads{q:gv}(x:Inv a b o i e j p r s c g m l q)(h:b<z (G a))(w:LP a f b o i e j p r s c):∃d,gq a f o.aM b i d/\d.files=i.files/\(∀A,d.aO o.aM A->i.aO o.aM A)/\cf f b o 0/\Inv f b o d e j p r s c g m l q:=by
 obtain⟨d,n,k,t,u,v,_⟩:=w;exact⟨d,n,k,u,v,x.fE h n (by rw[k]) (by rw[t];grind) rfl x.loose⟩
def oJ{b sbqq:M}(d:cH a b i)(c:I az a f):gq a f b sbqq i i:=⟨d.ap c<|λ_ _=>id,c.mono cC,λ_ q=>.inl q⟩
def Rq(e:cH a b i)(g:¬i.aO b c)(d:I (λk=>k=c) a f):gq a f b c i i:=⟨e.ap d<|λ_ q h=>g<|h▸q,d.mono<|λ_ q=>.inl<|.inr q,λ_ q=>.inl q⟩
def NF(s:SR)(b c d:cN)(j:M)(a:Bool):Prop:=a=bj->(s.fS:U)<s.mem/\(1<=j->jS s.nN 0 (y b)=bj)/\(2<=j->jS s.nN 1 (y c)=bj)/\(3<=j->jS s.nN 2 (y d)=bj)
def NF.tt:NF o j p r b ci:=λq=>by cases q
def NF.nx{a b d:cN}(h:NF o a b d c bj)(g:c=0->K=jS o.nN 0 (y a))(i:c=1->K=jS o.nN 1 (y b))(j:c=2->K=jS o.nN 2 (y d)):NF o a b d (c+1) K:=λq=>by
 obtain⟨x,e,f,u⟩:=h rfl;grind
def NF.tid(h:NF o j p r 4 bj):Aw o j p r:=by
 obtain⟨x,a,b,u⟩:=h rfl;have a:=a (by omega);have b:=b (by omega);have u:=u (by omega);simp[jS]at a b u;exact⟨x,by omega,by omega,by omega⟩
def My(sn:gv)(h:cf a b o k)(x:Inv a b o i e j p r s c g m l sn)(hN:m+1<=100000000):cD aZ 27 #[aA b] a λC A=>C=aJ .nilIface/\vK a A b o k i c (m+1) sn o.aT (λbg=>ft bg<|e::bY j p r s):=by
 have al:=ar h;have k3:=cf.cellAt h 3 rfl;have k8:=cf.cellAt h 8 rfl;have HH:=Y h;have HV:=Y x;clear h x;go_in
 go_wp2;go_quiet(fail)
 rename_i KK B;show KK _ _;apply B;clear B;have K:I az a (a.drewN nq):=(I.refl az a).of_heap rfl;generalize a.drewN nq=f at K|-;obtain⟨w,F⟩:∃w,decide (o.mem<=(o.fS:U))=w:=⟨_,rfl⟩;have aD:=Y (show NF o j p r 0 w fromλq=>by rw[q]at F;exact⟨by simpa using F,λr=>absurd r (by omega),λr=>absurd r (by omega),λr=>absurd r<|by omega⟩);rw[F];clear F;have h:=af HH;have x:=af HV;have n:cf f b o k:=(K.block b al id).trans h;have D:=oJ (sbqq:=b) x.st.aM K;have u:=x.fE al D rfl (ai _) rfl x.loose;obtain⟨mx,mc,E⟩:=bN x.st.mem;obtain⟨O,L,an⟩:=bN x.st.l0.row;obtain⟨P,c1,ao⟩:=bN x.st.l1.row;obtain⟨Q,c2,au⟩:=bN x.st.l2.row;obtain⟨S,c3,av⟩:=bN x.st.l3.row;have bp:aS f (R b 10)=H (J O (y j) L):=by rw[<-an];exact n.cell rfl
 have bq:aS f (R b 11)=H (J P (y p) c1):=by rw[<-ao];exact n.cell rfl
 have br:aS f (R b 12)=H (J Q (y r) c2):=by rw[<-au];exact n.cell rfl
 have bs:aS f (R b 13)=H (J S (y s) c3):=by rw[<-av];exact n.cell rfl
 have q7:aS f (R b 7)=H (J mx (y e) mc):=by rw[<-E];exact n.cell rfl
 have q9:=cf.cellAt n 9 rfl;have bh:∀X,(Instr.index 93 (dD #[J O (y j) L,J P (y p) c1,J Q (y r) c2,J S (y s) c3])<|aq 0).run aZ X=.ok (J O (y j) L) X:=λ_=>by kernel_rfl
 have bi:∀X,(Instr.index 93 (dD #[J O (y j) L,J P (y p) c1,J Q (y r) c2,J S (y s) c3])<|aq 1).run aZ X=.ok (J P (y p) c1) X:=λ_=>by kernel_rfl
 have bk:∀X,(Instr.index 93 (dD #[J O (y j) L,J P (y p) c1,J Q (y r) c2,J S (y s) c3])<|aq 2).run aZ X=.ok (J Q (y r) c2) X:=λ_=>by kernel_rfl
 have bl:∀X,(Instr.index 93 (dD #[J O (y j) L,J P (y p) c1,J Q (y r) c2,J S (y s) c3])<|aq 3).run aZ X=.ok (J S (y s) c3) X:=λ_=>by kernel_rfl
 have ba:cD aZ 61 #[aA b,aq 0,J O (y j) L] f λC A=>C=aJ (aK<|jS o.nN 0<|y j)/\A=f:=mJ 0 (y j) O L n (by omega);have bb:cD aZ 61 #[aA b,aq 1,J P (y p) c1] f λC A=>C=aJ (aK<|jS o.nN 1<|y p)/\A=f:=mJ 1 (y p) P c1 n (by omega);have bc:cD aZ 61 #[aA b,aq 2,J Q (y r) c2] f λC A=>C=aJ (aK<|jS o.nN 2<|y r)/\A=f:=mJ 2 (y r) Q c2 n (by omega);have bd:cD aZ 61 #[aA b,aq 3,J S (y s) c3] f λC A=>C=aJ (aK<|jS o.nN 3<|y s)/\A=f:=mJ 3 (y s) S c3 n (by omega);have N:∀t,I az f t->cD aZ 62 #[aA b,J mx (y e) mc,aE o.aT] t λC A=>C=aJ .nilIface/\vK a A b o k i c (m+1) sn o.aT (λbg=>ft bg<|e::bY j p r s):=λt hX=>by have T:=oJ (sbqq:=b) u.st.aM hX;have d:=u.fE (ar n) T rfl (ai _) rfl u.loose;have ac:cf t b o k:=(hX.block b (ar n) id).trans n;have aV:=d.Bw;(have ad:y e<=100:=by have:=d.WW;omega);have aU:=Dg (J mx (y e) mc) c o.aT ac d.st d.Fb d.pr (by rw[<-E];exact d.st.mem) (λq b=>(d.st.vp q (by rw[E];exact b)).lt) d.st.mh d.XA d.st.iH ad (λx a=>(d.RS x a).1) (λx a=>(d.RS x a).2) (by omega) (by have:=d.st.qp;omega) d.st.oO d.zh.2.2.1 d.oa d.JJ.1 (by have:=d.bn;have:=d.oO;omega) (by have:=d.nx;have:=d.oO;omega) (by have:=d.dM;have:=d.oO;omega) sn d.BK;apply aU.mono;rintro C A⟨rfl,v0,v1,v2,v3,K',num,a',b',c',d',V,aa⟩;exact⟨rfl,_,K',[],a',b',c',d',o.aT,[],V.box,V.inv d.zh d.nx (by have:=d.bn;omega) hN d.BK d.UZ<|ai _,λbg a q=>by rw[lW];exact V.uy bg (a.imp_right (λC=>by rw[C];grind)) q,(D.trans T).trans V.fE,⟨rfl,rfl,rfl,rfl,rfl,rfl⟩,rfl,by have:=d.zh.1;show((0:M):U)<o.mem;omega,aa⟩
 have aF:=Y<|show NF o j p r 4 bj->vK a f b o k i c (m+1) sn o.aT (λbg=>ft bg<|e::bY j p r s)fromλq=>⟨o,i,e,j,p,r,s,g,l,n,u.mono (ai _) u.st.oO (by omega) hN,λ_ _ _=>rfl,D,⟨rfl,rfl,rfl,rfl,rfl,rfl⟩,rfl,q.tid⟩;have W:=Y N;clear h x n D u N E an ao au av K k3 k8;go_wp2;go_loopw [3,20] (λa bm wr=>∃(ax:M)(w:Bool),ax<=4/\bm=aq ax/\a=aK w/\NF o j p r ax w/\wr=f) (λ_ bm _=>4-(intOf bm).toNat)
 case atStart=>exact⟨0,w,by omega,by go_num,rfl,aD,rfl⟩
 (case round=>obtain⟨ax,w,hj,rfl,rfl,ad,bo⟩:=hrel;subst wr;have V:=Y ad;clear ad;(have bf:ax=0\/ax=1\/ax=2\/ax=3\/ax=4:=by omega);rcases bf with rfl|rfl|rfl|rfl|rfl;(.cases w;(·(go_wp2_with(go_at_call 61;refine ba.mono ?_;rintro C T⟨rfl,hw⟩;subst T));go_roundw;(case rel=>exact⟨1,_,by omega,by go_num,rfl,V.nx (λ_=>rfl) (λr=>absurd r<|by omega) (λr=>absurd r<|by omega),trivial⟩);case measure=>simp[intOf]);(.go_wp2;go_roundw;(case rel=>exact⟨1,_,by omega,by go_num,rfl,NF.tt,trivial⟩);case measure=>simp[intOf]));(.cases w;(·(go_wp2_with(go_at_call 61;refine bb.mono ?_;rintro C T⟨rfl,hw⟩;subst T));go_roundw;(case rel=>exact⟨2,_,by omega,by go_num,rfl,V.nx (λr=>absurd r<|by omega) (λ_=>rfl) (λr=>absurd r<|by omega),trivial⟩);case measure=>simp[intOf]);(.go_wp2;go_roundw;(case rel=>exact⟨2,_,by omega,by go_num,rfl,NF.tt,trivial⟩);case measure=>simp[intOf]));(.cases w;(·(go_wp2_with(go_at_call 61;refine bc.mono ?_;rintro C T⟨rfl,hw⟩;subst T));go_roundw;(case rel=>exact⟨3,_,by omega,by go_num,rfl,V.nx (λr=>absurd r<|by omega) (λr=>absurd r<|by omega)<|λ_=>rfl,trivial⟩);case measure=>simp[intOf]);(.go_wp2;go_roundw;(case rel=>exact⟨3,_,by omega,by go_num,rfl,NF.tt,trivial⟩);case measure=>simp[intOf]));(.cases w;(·(go_wp2_with(go_at_call 61;refine bd.mono ?_;rintro C T⟨rfl,hw⟩;subst T));go_roundw;(case rel=>exact⟨4,_,by omega,by go_num,rfl,V.nx (λr=>absurd r<|by omega) (λr=>absurd r<|by omega) (λr=>absurd r<|by omega),trivial⟩);case measure=>simp[intOf]);(.go_wp2;go_roundw;(case rel=>exact⟨4,_,by omega,by go_num,rfl,NF.tt,trivial⟩);case measure=>simp[intOf]));(.cases w;(.go_wp2;go_ret;exact⟨rfl,aF V⟩);(·(go_wp2_with fail);rename_i KK B;have aV:aS f.drew (R b 7)=H (J mx (y e) mc)/\aS f.drew (R b 9)=H (aE o.aT):=⟨q7,q9⟩;refine kG (λ(t:Z)=>aS t (R b 7)=H (J mx (y e) mc)/\aS t (R b 9)=H (aE o.aT)) 9 (by kernel_rfl) ?_;refine lT 0 ?_;(iterate 9 (refine yG (v:=?_) aV rfl (by kernel_rfl) ma rfl ?_ ?_;rotate_left;(focus(rintro t⟨z7,z9⟩;go_simp;try rfl));simp only[Act.put,eF,Nat.reduceAdd]));apply qo;refine gH (i:=9) rfl rfl (by kernel_rfl) ?_;intro K9 aa;go_simp;apply(W f.drew<|cR _ f).mono;rintro C w7⟨rfl,ac⟩;have aU:=Y ac;refine aa _ _ (λq=>by omega) ?_;clear ac aa;(try simp only[Act.put,eF]);refine gH (i:=10) rfl rfl (by kernel_rfl) ?_;intro bn d;go_simp;refine d _ _ (λq=>by omega) ?_;refine kH (by kernel_rfl) ?_ _;show KK _ _;apply B;clear B d;go_wp2;go_ret;exact⟨rfl,aU⟩)))
def SR.lD(s:SR)(u0 u1 u2 u3:ab)(next log a:M)(b:Bool):SR:={s with l0:=u0,l1:=u1,l2:=u2,l3:=u3,next:=next,log:=log,aT:=a,iW:=b}
def OD{Xqq:Prop}(bE:Z)(a:M)(s:SR)(bT:U)(next l b nf:M)(ds cE:Z->ab->ab->ab->ab->Prop)(t:eT)(h:cf bE a s bT)(bp:∀q,t q->q<z (G bE))(cn:¬t a)(hL:cD aZ 51 #[aA s.aM] bE λbf n=>(∃E A w F B c1 K C c2 L D c3,bf=aJ (dd #[dD #[aE next,aE l,aE b,J E A w,J F B c1,J K C c2,J L D c3],.nilIface])/\ds n (J E A w) (J F B c1) (J K C c2) (J L D c3)/\I t bE n)\/Xqq/\∃q,bf=aJ (dd #[dD #[aE 0,aE 0,aE 0,aw,aw,aw,aw],ot q])/\vL n q/\I t bE n)(hO:∀W1 cv v0 v1 v2 v3,ds W1 v0 v1 v2 v3->I az W1 cv->cD aZ 52 #[aA s.aM,dD #[v0,v1,v2,v3]] cv λbf n=>∃E A w F B c1 K C c2 L D c3 ev,bf=aJ (dd #[dD #[J E A w,J F B c1,J K C c2,J L D c3],ev])/\((ev=.nilIface/\cE n (J E A w) (J F B c1) (J K C c2) (J L D c3))\/(Xqq/\∃q,ev=ot q/\vL n q))/\I t cv n)(hS:∀cv u0 u1 u2 u3,cE cv u0 u1 u2 u3->∀W',I (λq=>q=a) cv W'->cE W' u0 u1 u2 u3/\cD aZ 7 #[aA s.aM] W' λbf n=>∃dx u,bf=aJ (J dx nf u)/\I az W' n):cD aZ 24 #[aA a] bE λbf n=>(bf=aJ .nilIface/\∃u0 u1 u2 u3,cf n a (s.lD u0 u1 u2 u3 next l b<|decide<|0<nf) bT/\cE n u0 u1 u2 u3/\I (λq=>t q\/q=a) bE n)\/Xqq/\∃q,bf=aJ (ot q)/\vL n q/\I (λq=>t q\/q=a) bE n:=by
 have cp:=ar h;have k2:=cf.cellAt h 2 rfl;obtain⟨HH,HF,HO,HS⟩:=fX h bp hO hS;clear h bp hO hS;go_in
 go_wp2_with fail
 apply hL.mono;rintro bf e(⟨E,A,w,F,B,c1,K,C,c2,L,D,c3,rfl,bq,x⟩|⟨hX,q,rfl,hq,x⟩);rotate_left;(.obtain⟨HQ,ce⟩:=And.intro (Y hq) (Y x);clear hq x hL;go_wp2;go_ret;exact .inr ⟨hX,q,rfl,HQ.ap (cK az e) cC,(ce.mono<|λ_ u=>.inl<|.inl u).alloc _⟩);obtain⟨g,aa⟩:∃g,cG e (ay #[aE next,aE l,aE b,J E A w,J F B c1,J K C c2,J L D c3] 126)=g:=⟨_,rfl⟩;have S:I az e g:=by rw[<-aa];exact(cK az e)
 have d:g.heap[z<|G e]?=H (ay #[aE next,aE l,aE b,J E A w,J F B c1,J K C c2,J L D c3] 126 (0,0)):=by rw[<-aa];exact aH _ rfl
 have bb:I t bE g:=x.bW S;have Q:cf g a s bT:=(bb.block a cp cn).trans HH;have dm:=x.size;obtain⟨cj,bk,cc,ch,W,p⟩:=kY aa S bq bb Q d;clear bq x bb Q d aa S hL;go_wp2_with fail
 rw[af cj];rename_i KK aF;have Q:=af W;have d:=af p;have aV:aS g.drew (R a 2)=H (aA s.aM)/\aS g.drew (R (z<|G e) 3)=H (J E A w)/\aS g.drew (R (z<|G e) 4)=H (J F B c1)/\aS g.drew (R (z<|G e) 5)=H (J K C c2)/\aS g.drew (R (z<|G e) 6)=H (J L D c3):=⟨Q.cell rfl,by show aS g _=_;rw[bV d];rfl,by show aS g _=_;rw[bV d];rfl,by show aS g _=_;rw[bV d];rfl,by show aS g _=_;rw[bV d];rfl⟩;clear Q d;have cd:=Y (show∀Xqq:Z,(∀q,q=a\/q=z (G e)->Xqq.heap[q]?=g.heap[q]?)->aS Xqq (R a 2)=H (aA s.aM)/\aS Xqq (R (z<|G e) 3)=H (J E A w)/\aS Xqq (R (z<|G e) 4)=H (J F B c1)/\aS Xqq (R (z<|G e) 5)=H (J K C c2)/\aS Xqq (R (z<|G e) 6)=H (J L D c3)fromλXqq hX=>by have hb:cf Xqq a s bT:=(hX a<|.inl rfl).trans W;have hs:=(hX _<|.inr rfl).trans p;exact⟨hb.cell rfl,by rw[bV hs];rfl,by rw[bV hs];rfl,by rw[bV hs];rfl,by rw[bV hs];rfl⟩);refine dL (λ(Xqq:Z)=>aS Xqq (R a 2)=H (aA s.aM)/\aS Xqq (R (z<|G e) 3)=H (J E A w)/\aS Xqq (R (z<|G e) 4)=H (J F B c1)/\aS Xqq (R (z<|G e) 5)=H (J K C c2)/\aS Xqq (R (z<|G e) 6)=H (J L D c3)) 14 (by kernel_rfl) ?_;refine eR 0 ?_;iterate 7 (refine iC (v:=?_) aV rfl (by kernel_rfl) ma rfl ?_ ?_;rotate_left;(focus(rintro Xqq⟨z2,y3,y4,y5,y6⟩;go_simp;try rfl));simp only[Act.put,eF,Nat.reduceAdd])
 apply ig;refine bC (i:=7) rfl rfl (by kernel_rfl) ?_;intro K7 aD;go_simp;apply(HO e g.drew _ _ _ _ cc<|bk.bW<|cR az g).mono;rintro bf w3⟨z0,l0,d0,z1,l1,d1,z2,l2,d2,z3,l3,d3,ev,rfl,co,bc⟩;have m:I t g w3:=(cR t g).trans bc<|λ_ u=>.inl u;have cx:=ar p
 have f:∀q,q=a\/q=z (G e)->w3.heap[q]?=g.heap[q]?:=λq hq=>m.block q (by have:=ar W;rcases hq with u|u<;>omega) (λu=>by
  rcases hq with dv|dv
  .grind
  .have:=HF q u;omega)
 have X:=cd w3 f;refine aD _ _ (λ_=>X) ?_;try simp only[Act.put,eF]
 refine eR 8 ?_;iterate 5 (refine iC (v:=?_) X rfl (by kernel_rfl) ma rfl ?_ ?_;rotate_left;(focus(rintro Xqq⟨z2,y3,y4,y5,y6⟩;go_simp;try rfl));simp only[Act.put,eF,Nat.reduceAdd])
 apply ig;refine bC (i:=13) rfl rfl (by kernel_rfl) ?_;intro cM N;have j:cf w3 a s bT:=(f a<|.inl rfl).trans W;have fz:∀ca,w3.frozen? (R a ca)=bj:=λca=>j.free;have bl:=cf.cellAt j 10 rfl;have bm:=cf.cellAt j 11 rfl;have bn:=cf.cellAt j 12 rfl;have bo:=cf.cellAt j 13 rfl;go_simp;obtain⟨o,P⟩:∃o,cA (cA (cA (cA w3 (R a 10)<|J z0 l0 d0) (R a 11)<|J z1 l1 d1) (R a 12)<|J z2 l2 d2) (R a 13) (J z3 l3 d3)=o:=⟨_,rfl⟩;have k:cf o a {s with l0:=J z0 l0 d0,l1:=J z1 l1 d1,l2:=J z2 l2 d2,l3:=J z3 l3 d3} bT:=by rw[<-P];exact(aL<|aL<|aL<|aL j).trans rfl
 have i:I (λq=>q=a) w3 o:=by rw[<-P];exact(((iV a w3).setCell a 11 _<|.inl rfl).setCell a 12 _<|.inl rfl).setCell a 13 _<|.inl rfl
 have c:o.heap[z<|G e]?=H (ay #[aE next,aE l,aE b,J E A w,J F B c1,J K C c2,J L D c3] 126 (0,0)):=(i.block _ (by have:=m.size;omega)<|by omega).trans<|(f _<|.inr rfl).trans p;rw[P];have aU:aS o (R a 2)=H (aA s.aM)/\aS o (R (z<|G e) 3)=H (J E A w)/\aS o (R (z<|G e) 4)=H (J F B c1)/\aS o (R (z<|G e) 5)=H (J K C c2)/\aS o (R (z<|G e) 6)=H (J L D c3):=⟨k.cell rfl,by rw[bV c];rfl,by rw[bV c];rfl,by rw[bV c];rfl,by rw[bV c];rfl⟩;refine N _ _ (λ_=>aU) ?_;try simp only[Act.put,eF]
 refine bC (i:=14) rfl rfl (by kernel_rfl) ?_;intro cT O;go_simp;refine O _ _ Fc ?_;refine eN (by kernel_rfl) ?_ _;show KK _ _;apply aF;have s0:=cellAt c 0 rfl;have s1:=cellAt c 1 rfl;have s2:=cellAt c 2 rfl;have v9:=cf.cellAt k 9 rfl;have cs:=cf.cellAt k 14 rfl;have cu:=cf.cellAt k 17 rfl;have cm:∀ca,o.frozen? (R a ca)=bj:=λca=>k.free;have cB:z (G e)≠a:=by omega
 have dk:=ar k;have dc:=ar c;have r:I (λq=>t q\/q=a) bE o:=((ch.mono (T:=λq=>t q\/q=a)<|λ_ u=>.inl<|.inl u).trans m<|λ_ u=>.inl<|.inl u).trans i<|λ_ u=>.inl<|.inr u;rcases co with⟨rfl,br⟩|⟨hX,q,rfl,hq⟩;rotate_left;(.obtain⟨HQ,ax⟩:=And.intro (Y<|hq.ap i j.sep) (Y r);clear aF aD N O aU X aV j k i c fz bl bm bn bo f m bc P r k2 hq;go_wp2;go_ret;exact .inr ⟨hX,q,rfl,HQ,ax⟩);obtain⟨bi,cb,an,ax⟩:=fX (HS w3 _ _ _ _ br) k i r;clear aF aD N O aU X aV j k i c fz bl bm bn bo f m bc br P r k2;go_wp2_with fail
 rename_i cl au;apply Fk cl;(.intro ce;(go_region);all_goals exact ce);refine au _ _ ?_;clear au;obtain⟨W6,ac⟩:∃W6,(cA (cA (cA o (R a 14)<|aE next) (R a 17)<|aE l) (R a 9)<|aE b).drew=W6:=⟨_,rfl⟩;have V:I (λq=>q=a) o W6:=by rw[<-ac];exact(((iV a o).setCell a 17 _<|.inl rfl).setCell a 9 _<|.inl rfl).trans (cR (λq=>q=a) _)<|λ_ u=>.inl u
 have ba:cf W6 a (s.lD (J z0 l0 d0) (J z1 l1 d1) (J z2 l2 d2) (J z3 l3 d3) next l b s.iW) bT:=by rw[<-ac];exact Eq.trans (show _=_ from aL<|aL<|aL cb) rfl
 have bu:=bi W6<|an.trans V<|λ_ u=>.inl u;have r2:=cf.cellAt ba 2 rfl;have bt:=bu.2;obtain⟨bg,ao,ck⟩:=dz ba V ac;clear ba V ac bu s0 s1 s2 v9 cs cu cm;rw[af ck];go_wp2_with fail
 apply bt.mono;rintro bf w7⟨x7,c7,rfl,al⟩;have ad:cf w7 a (s.lD (J z0 l0 d0) (J z1 l1 d1) (J z2 l2 d2) (J z3 l3 d3) next l b s.iW) bT:=(al.block a (ar bg) id).trans bg;have dn:=cf.cellAt ad 21 rfl;have db:w7.frozen? (R a 21)=bj:=ad.free;have bd:I (λq=>q=a) w7 (cA w7 (R a 21)<|aK<|decide<|0<nf):=(iV a w7);have bs:cf (cA w7 (R a 21)<|aK<|decide<|0<nf) a (s.lD (J z0 l0 d0) (J z1 l1 d1) (J z2 l2 d2) (J z3 l3 d3) next l b<|decide<|0<nf) bT:=(aL ad).trans rfl;have av:=((an.trans ao<|λ_ u=>.inl u).bW al).trans bd<|λ_ u=>.inl u;have bv:=(bi _ av).1;have bx:I (λq=>t q\/q=a) bE (cA w7 (R a 21)<|aK<|decide<|0<nf):=((ax.trans ao<|λ_ u=>.inl<|.inr u).bW al).trans bd<|λ_ u=>.inl<|.inr u;have bh:=Y<|And.intro bs (And.intro bv bx);have cw:decide ((0:U)<(nf:U))=decide (0<nf):=by simp
 clear ad bd bs av bv bx al bt;go_wp2;go_ret;exact .inl ⟨rfl,J z0 l0 d0,J z1 l1 d1,J z2 l2 d2,J z3 l3 d3,bh⟩
def wG(h:cf a b o k)(f:cH a o.aM i)(u:Pow a)(w:o.log<18446744073709551616)(t:dB (vw i.files) (fD o.log)=none):cD aZ 25 #[aA b] a λn m=>n=aJ .nilIface/\I az a m:=by
 have c:=tE o.log w u;have B:=cf.cellAt h 17 rfl
 have j:∀W,I az a W->aS W (R b 2)=H (aA o.aM)/\cD aZ 54 #[aA o.aM,am<|fD o.log] W λn m=>n=aJ (dd #[aw,.iface 202<|aA<|z<|G W])/\m=cG W (ay #[am<|fD o.log,aq 10] 204):=λW s=>
  ⟨cf.cell ((s.block b (ar h) id).trans h) rfl,FR (db:=o.aM) (K:=i) (fD o.log) (w:=W) (f.ap s<|λ_ _=>id) t⟩
 have g:∀(W:Z),cD aZ 55 #[.iface 202<|aA<|z<|G W,.iface 44<|aq 10] (cG W<|ay #[am<|fD o.log,aq 10] 204) λn m=>n=aJ (aK ci)/\m=cG W (ay #[am<|fD o.log,aq 10] 204):=λW=>OF (z<|G W) 10 _ (by have:(cG W<|ay #[am<|fD o.log,aq 10] 204).heap[z<|G W]?=H (ay #[am<|fD o.log,aq 10] 204 (0,0)):=aH _ rfl;rw[bV this];rfl);clear h f u t;generalize fD o.log=l at*;go_in
 go_wp2_with fail
 apply c.mono;rintro n q⟨rfl,e⟩;have d:I az a q:=I.aQ e;obtain⟨C,x⟩:=j q d;have v:=g q;have p:=Y<|d.alloc<|ay #[am l,aq 10] 204;clear j g d e c;go_wp2_with fail
 apply x.mono;rintro n r⟨rfl,A⟩;subst r;go_wp2_with fail
 apply v.mono;rintro n r⟨rfl,A⟩;subst r;go_wp2;go_ret;exact⟨rfl,p⟩
def SR.qy(s:SR)(a:ab)(j n:M):SR:={s with memory:=a,fS:=n,aT:=s.aT+j}
def Kb(s:SR)(a:s.memory=aw)(b:s.fS=0):s.qy aw 0 0=s:=by
 cases s;simp_all[SR.qy]
def Jt{lsqq:dJ}(j:M):((lsqq.take j).map y).sum<=(lsqq.map y).sum:=by
 grind[take_append_drop]
def kQ(a:dJ):cI:=a.foldl (λm l=>im [] m l) []
theorem yR(a:dJ)(l:cI):kQ (a++[l])=im [] (kQ a) l:=by simp[kQ]
def Qk(l:cI):∀(p:Option E)(a:ae),(∀q,p=H q->q.key=a)->(p=none->∀e∈l,e.key≠a)->lJ [] p l=mT a l:=by
 induction l with
 |nil=>intro p a _ _;rfl
 |cons e r f=>
  intro p a i d;rw[lJ,mT];cases p with
  |none=>
   have b:oZ [] none e=ci:=rfl;rw[dV b,eI (d rfl e<|by simp),f (H e) e.key (λq c=>by cases c;rfl)<|λg=>by cases g]
  |some q=>
   have c:=i q rfl;by_cases g:e.key=a
   .have b:oZ [] (H q) e=bj:=by simp[oZ,c,g]
    rw[eI (by rw[b];simp),dV g,f (H e) e.key (λx d=>by cases d;rfl)<|λh=>by cases h]
   .have b:oZ [] (H q) e=ci:=by simp[oZ,c];grind
    rw[dV b,eI g,f (H e) e.key (λx d=>by cases d;rfl)<|λh=>by cases h]
def Tb(h:gJ e)(b:∀x∈e,x.bJ<=k):dG [] e=jO k e:=by
 unfold dG jO;rw[fW.2<|λx a=>by grind];exact Qk e none ⟨#[]⟩ (λq a=>by cases a)<|λ_=>h.key
def Vj(u:vI k l):∀j,j<=y l->kQ (l.take j)=gp [] (l.take j).flatten/\gJ (kQ<|l.take j)/\(∀x∈kQ (l.take j),x.bJ<=k+j-1)/\jO (k+j-1) (kQ<|l.take j)=kQ (l.take j):=by
 intro j;induction j with
 |zero=>intro _;exact⟨rfl,gJ.nil,by simp[kQ],rfl⟩
 |succ j t=>
  intro v;obtain⟨g,h,p,q⟩:=t (by omega);have a:j<y l:=by omega
  have s:=u.iH l[j]<|ak a;have r:∀x∈l[j],x.bJ=(k+j-1)+1:=λx b=>by rw[u.num j a x b];omega
  have i:∀e∈l[j],e.key≠⟨#[]⟩:=λe a=>tH<|s e a;have m:kQ (l.take<|j+1)=im [] (kQ<|l.take j) l[j]:=by rw[aj a,yR]
  have d:gJ (fB (kQ<|l.take j) l[j]):=h.fB i;have c:∀x∈fB (kQ<|l.take j) l[j],x.bJ<=(k+j-1)+1:=λx b=>by
   grind[wP]
  have n:=Tb d c;have e:jO ((k+j-1)+1) (im [] (kQ<|l.take j) l[j])=im [] (kQ<|l.take j) l[j]:=by
   show jO _ (dG [] _)=dG [] _;rw[Au d<|.inr c,n]
  have f:=Fw h p i r [];rw[e,q,g]at f;have o:k+((j+1:M):U)-1=(k+j-1)+1:=by grind
  rw[m,o];refine⟨?_,d.sub<|ut [] _ _,λx b=>c x<|(ut [] _ _).subset b,e⟩;rw[g,f,aj a,eK,yq];simp
def TT(a:dJ):∀m,dK m->dK (a.foldl (λm l=>im [] m l) m):=by
 induction a with
 |nil=>grind
 |cons l r b=>grind[AI]
theorem FU(a:dJ):dK (kQ a):=TT a [] dK.nil
def TU(a:dJ):∀m:cI,y (a.foldl (λm l=>im [] m l) m)<=y m+(a.map y).sum:=by
 induction a with
 |nil=>intro m;simp
 |cons l r b=>
  grind[AJ]
def FV(a:dJ):y (kQ a)<=(a.map y).sum:=by
 have:=TU a [];simpa[kQ]using this
def Dv(c:dJ)(h:cf a b o k)(aU:cH a o.aM i)(ad:¬i.aO o.aM b)(hp:Pow a)(hT:Steps a)(br:1≠b/\¬i.aO o.aM 1)(hl:o.log<18446744073709551616)(aV:vI ((o.aT:U)+1) c)(n:dB (vw i.files) (fD o.log)=H (jg ((o.aT:U)+1) c))(cj:0<y (jg ((o.aT:U)+1) c))(dm:y (jg ((o.aT:U)+1) c)<=200000)(hm:o.memory=aw)(bE:o.fS=0)(el:o.aT<=1000000000)(ds:Jf a i b o []):cD aZ 25 #[aA b] a λbm s=>bm=aJ .nilIface/\∃S l,cf s b {o.qy S (y c) (c.map y).sum with fa:=ci,vT:=bj,iQ:=ci} k/\s.ownsRow (z<|G a) 170 4 S (y<|kQ c) (aI<|kQ c)/\gq a s o.aM b i l/\l.files=i.files/\l.dM=i.dM/\(∀k,l.aO o.aM k->i.aO o.aM k):=by
 have dn:=ar h;have ac:=tE o.log hl hp;have dx:=cf.cellAt h 17 rfl;have ev:IntKind.u64.wrap ((o.aT:U)+1)=(o.aT:U)+1:=by rw[fi];omega
 obtain⟨rb,K⟩:∃rb,jg ((o.aT:U)+1) c=rb:=⟨_,rfl⟩;have cl:∀W,I az a W->aS W (R b 2)=H (aA o.aM)/\cD aZ 54 #[aA o.aM,am<|fD o.log] W λbm s=>∃c V,bm=aJ (dd #[aY c 0 (y rb) V,.nilIface])/\eE s (z<|G W) (aY c 0 (y rb) V) rb/\y rb<=V/\V<=9223372036854775807/\cf s b o k/\Steps s/\∃l,gq a s o.aM b i l/\l.files=i.files/\l.dM=i.dM/\∀k,l.aO o.aM k->i.aO o.aM k:=λW e=>by have d:cf W b o k:=(e.block b dn id).trans h;refine⟨d.cell rfl,?_⟩;refine(zG (db:=o.aM) (K:=i) (fD o.log) rb (w:=W) (aU.ap e<|λ_ _=>id) (by rw[<-K];exact n) (by rw[<-K];omega)).mono ?_;rintro bm s⟨v',rfl,B,l,hd,e1,e2,e3⟩;have m:=(oJ (sbqq:=b) aU e).trans<|gq.of hd;have g:cf s b o k:=(hd.ap.block b (ar d) ad).trans d;have f:Steps s:=λq a=>hd.ap.cell (e.cell (hT q a) id<|cW _ _<|hT q a) br.2<|ah (cW _ _<|hT q a) e.size;have w:=B;obtain⟨q1,⟨q2,q0⟩|⟨x,D,E,q2,L,O,p,r,A⟩⟩:=w;rw[K]at cj;omega;subst q2;exact⟨x,D,rfl,B,p,by unfold maxLen at r;omega,g,f,l,m,e1,e2,e3⟩
 obtain⟨HH,cx,bo,au,HM⟩:=jk h cl aV K<|And.intro hm bE;have ej:=aV.sum;clear h aU hp hT br n cj dm cl aV K hm bE hl;generalize fD o.log=ek at*;go_in
 go_wp2_with fail
 apply ac.mono;rintro bm w1⟨rfl,bt⟩;have bg:I az a w1:=I.aQ bt;obtain⟨k2,hr⟩:=cx w1 bg;have eo:=bg.size;clear bg bt ac;go_wp2_with fail
 apply hr.mono;rintro bm w2⟨rx,rc,rfl,F,bv,bx,aD,bq,ax⟩;have q9:=cf.cellAt aD 9 rfl;have eq:z (G w1)<=rx:=(F.lt rx rfl).1;have ba:=Ia rx 0 rc bq bo (by rw[af au];exact bv) bx (F.lt rx rfl).2 (by rw[af au];exact eE.bytes F);rw[af au]at ba;have cb:=Ik 10 w2;have ei:=(F.lt rx rfl).2;obtain⟨bn,cu,cE⟩:=dz aD ax (show∃l,Jf w2 l b o []from by obtain⟨l,hd,_⟩:=ax;exact⟨l,ds.fE hd⟩);clear aD ax hr F bv bx bq k2 dx;go_wp2_with fail
 apply cb.mono;rintro bm ec⟨rfl,hw⟩;subst ec;go_wp2_with fail
 apply ba.mono;rintro bm w3⟨x3,c3,vs,rfl,bb,aF,bh⟩;obtain⟨t,v⟩:∃t,cG w3 (ay #[J x3 (y c) c3,aK bj] 137)=t:=⟨_,rfl⟩;have bi:I az w2 t:=by rw[<-v];exact bh.alloc _
 have N:I az w3 t:=by rw[<-v];exact(cK az w3)
 have er:=bh.size;have bd:z (G t)=z (G w3)+1:=by rw[<-v];simp
 have C:t.heap[z<|G w3]?=H (ay #[J x3 (y c) c3,aK bj] 137 (0,0)):=by rw[<-v];exact aH _ rfl
 have bu:cf t b o k:=(bi.block b (ar bn) id).trans bn;have bp:Row t 1 (J x3 (y c) c3) (y c) vs:=dE<|N.own bb<|λ_ _ V=>V;have bs:∀j(a:j<y vs)(b:j<y c),t.ownsRow (z (G w2)+2) 170 4 vs[j] (y c[j]) (aI c[j]):=λj a b=>N.own (aF.2 j a b)<|λ_ _ V=>V;have aa:∀x,cz (J x3 (y c) c3)=H x->z (G w2)+2<=x/\x<z (G w3):=λx n=>bb.lt x n;have ef:=cellAt C 0 rfl;obtain⟨cT,cw,cM,cs,cv,cp,av,cB,dc⟩:=wY aF.1 bp bs aa C bu bi bd v;clear bb aF bh N C bu bp bs aa bi bd ba cb q9 v;go_wp2;rw[af dc];go_loopw [47] (λbl wr=>∃(j:M)(S:ab),j<=y c/\bl=aq j/\cf wr b (o.qy S j ((c.take j).map y).sum) k/\wr.ownsRow (z<|G a) 170 4 S (y<|kQ<|c.take j) (aI<|kQ<|c.take j)/\I (λk=>k=b) t wr) (λbl _=>y c-(intOf bl).toNat)
 (case atStart=>have bm:=Kb o HM.1 HM.2;refine⟨0,aw,bG _,by go_num,?_,cO _ _ _ _,I.refl _ _⟩;show cf t b (o.qy aw 0 0) k;rw[bm];exact cp)
 case round=>
  obtain⟨j,S,hj,rfl,d,f,g⟩:=hrel;have bd:=af cB;have es:=g.size;obtain⟨A,E⟩:∃A,o.aT+j=A:=⟨_,rfl⟩;obtain⟨r,m⟩:∃r,((c.take j).map y).sum=r:=⟨_,rfl⟩;have bf:=Jt (lsqq:=c) j;have cc:y c<=(c.map y).sum:=yK<|λl hl=>(bo.one l hl).1;have eg:y c<=31:=by omega
  have ca:y (c.take j).flatten=r:=by rw[<-m,rE]
  have bc:=FV<|c.take j;rw[m]at bc;rw[m]at bf;obtain⟨mx,mc,ce⟩:=aC f;have dT:=cf.cellAt d 7 rfl;have ea:aS wr (R b 8)=H (aq r):=by rw[<-m];exact d.cell rfl
  have eb:aS wr (R b 9)=H (aE A):=by rw[<-E];exact d.cell rfl
  by_cases D:j<y c
  .have e1:(j:U)<(y c:U):=by omega
   have e2:(0:U)<=(j:U):=by omega
   have cd:j<y vs:=by rw[af cT];exact D
   have X:=cM j cd D;have bk:∀x,cz vs[j]=H x->z (G w2)+2<=x/\x<z (G t):=λx n=>X.lt x n;have cn:=g.own X (λx n V=>by have:=(bk x n).1;omega);have bT:∃b a,x3=H (R b a)/\aS wr (R b<|a+j)=H vs[j]:=by
    obtain⟨q1,⟨q2,q0⟩|⟨x,B,ed,q2,en,hc⟩⟩:=af cw
    .omega
    .cases q2;have em:=cs x rfl;exact⟨x,B,rfl,g.cell (hc j _<|aN cd) (by omega)<|by omega⟩
   obtain⟨b3,o3,dv,bT⟩:=bT;subst dv;have W:((c.take<|j+1).map y).sum=r+y c[j]:=by rw[aj D,aR,iO,m];simp
   have L:=Jt (lsqq:=c)<|j+1;rw[W]at L;have ck:im [] (kQ<|c.take j) c[j]=kQ (c.take<|j+1):=by rw[aj D,yR]
   obtain⟨Kx,cm⟩:=af cE;obtain⟨mb,m1,m2,m3⟩:=cm.ex;have m4:kN wr mb (Vc []):=m2.di<|((g.block mb (by have:=av.size;have:=m3.lt;omega) m3.ne).trans<|av.block mb m3.lt id);have an:=AG b (o.qy S j ((c.take j).map y).sum) k [] vs[j] c[j] d m1 m4 (by simp) (dE f) (λx n=>(f.lt x n).2) (dE cn) (λx n=>by have:=(bk x n).2;omega) (FU _) (by omega);have co:cD aZ 58 #[aA b,vs[j]] wr λbm s=>∃v',bm=aJ v'/\s.ownsRow (z<|G wr) 170 4 v' (y<|kQ<|c.take<|j+1) (aI<|kQ<|c.take<|j+1)/\I az wr s:=by rw[<-ck];exact an
   clear an m1 m2 m3 m4 cm;obtain⟨xj,eA,al⟩:=aC X;obtain⟨Q,dk⟩:∃Q,y c[j]=Q:=⟨_,rfl⟩;rw[dk]at al W L;generalize vs[j]=vj at*;have et:IntKind.i64.wrap ((r:U)+(Q:U))=(r:U)+(Q:U):=by rw[bS];omega
   have eu:IntKind.u64.wrap ((A:U)+1)=(A:U)+1:=by rw[fi];omega
   have HF:=Y (show∀p e,I az wr p->p.ownsRow (z<|G wr) 170 4 e (y<|kQ<|c.take<|j+1) (aI<|kQ<|c.take<|j+1)->(aS p (R b 7)=H S/\aS p (R b 8)=H (aq r)/\aS p (R b 9)=H (aE A)/\∀bl,p.frozen? (R b bl)=bj)/\cf (cA (cA (cA p (R b 7) e) (R b 8)<|aq<|(r:U)+Q) (R b 9)<|aE<|(A:U)+1) b (o.qy e (j+1) ((c.take<|j+1).map y).sum) k/\(cA (cA (cA p (R b 7) e) (R b 8)<|aq<|(r:U)+Q) (R b 9)<|aE<|(A:U)+1).ownsRow (z<|G a) 170 4 e (y<|kQ<|c.take<|j+1) (aI<|kQ<|c.take<|j+1)/\I (λk=>k=b) t (cA (cA (cA p (R b 7) e) (R b 8)<|aq<|(r:U)+Q) (R b 9)<|aE<|(A:U)+1)fromλp e O w=>by
    have B:cf p b (o.qy S j ((c.take j).map y).sum) k:=(O.block b (ar d) id).trans d;have P:I (λk=>k=b) p (cA (cA (cA p (R b 7) e) (R b 8)<|aq<|(r:U)+Q) (R b 9)<|aE<|(A:U)+1):=((iV b p).setCell b 8 _<|.inl rfl).setCell b 9 _<|.inl rfl;refine⟨⟨B.cell rfl,by rw[<-m];exact B.cell rfl,by rw[<-E];exact B.cell rfl,λbl=>B.free⟩,?_,?_,(g.bW O).trans P<|λ_ V=>.inl V⟩
    .have hx:=aL (i:=9) (u:=aE<|(A:U)+1)<|aL (i:=8) (u:=aq<|(r:U)+Q)<|aL (i:=7) (u:=e) B;have e9:((A:U)+1)=((o.aT+(j+1):M):U):=by rw[<-E];grind
     have e8:((r:U)+Q)=((((c.take<|j+1).map y).sum:M):U):=by rw[W];grind
     rw[e9,e8]at hx|-;exact hx.trans rfl
    .exact fM (P.own w (λx n V=>by have:=(w.lt x n).1;have:=ar d;omega)) (by omega))
   clear d f g X bk cn W L ck bc ca bf cc E m;subst ce;subst al;go_wp2_with fail
   apply co.mono;rintro bm p⟨e,rfl,w,O⟩;obtain⟨ey,ex,ch⟩:=aC w;obtain⟨⟨y7,y8,y9,fz⟩,hF⟩:=HF p e O w;have ao:=Y hF;clear hF O w co;subst ch;go_wp2;go_roundw;case rel=>exact⟨j+1,_,D,by go_num,ao.1,ao.2.1,ao.2.2⟩
   case measure=>simp[intOf];omega
  .have e1:¬(j:U)<(y c:U):=by omega
   have e:j=y c:=by omega
   have p:=(g.block _ (by omega)<|by omega).trans cv;have y1:=cellAt p 1 rfl;have fz:∀bl,wr.frozen? (R b bl)=bj:=λbl=>d.free;have bk:=cf.cellAt d 18 rfl;have bT:=cf.cellAt d 19 rfl;have cd:=cf.cellAt d 20 rfl;have al:=ar p;have an:=ar d;have ao:z (G w3)≠b:=by omega
   obtain⟨B,O,Q,L⟩:=fX d f g e;clear d f g p e bf cc ca bc E m dT ea eb ce;go_wp2_with fail
   rename_i KK w;apply Fk KK
   .intro X;go_region
    all_goals exact X
   apply w;clear w;go_wp2;go_ret;have e:=af L;subst e;have d:=af B;have f:=af O;rw[bL]at d f;obtain⟨l,hd,e3,e4,e5⟩:=af cu;have P:I (λk=>k=b) wr ((cA (cA (cA wr (R b 18)<|aK ci) (R b 19)<|aK bj) (R b 20)<|aK ci).drew):=(((iV b wr).setCell b 19 _<|.inl rfl).setCell b 20 _<|.inl rfl).trans (cR _ _)<|λ_ V=>.inl V;have W:=((av.mono (T:=λk=>k=b) cC).trans Q<|λ_ V=>.inl V).trans P<|λ_ V=>.inl V;refine⟨rfl,S,l,?_,P.own f (λx n V=>by have:=(f.lt x n).1;omega),hd.trans<|Rq hd.ok (λq=>ad<|e5 _ q) W,e3,e4,e5⟩;have hx:=aL (i:=20) (u:=aK ci)<|aL (i:=19) (u:=aK bj)<|aL (i:=18) (u:=aK ci) d;exact Eq.trans (show _=_ from hx) rfl
structure OU(fs:Fs)(W:Z)(db sb:M)(K K2:DK)(u0 u1 u2 u3:ab)(a b c d a' b' c' d':cN):Prop where
 aM:cH W db K2
 same:K2.files=K.files/\K2.dM=K.dM/\∀k,K2.aO db k->K.aO db k
 l0:GI fs W K2 db sb u0 a'
 l1:GI fs W K2 db sb u1 b'
 l2:GI fs W K2 db sb u2 c'
 l3:GI fs W K2 db sb u3 d'
 k0:jF a a'
 k1:jF b b'
 k2:jF c c'
 k3:jF d d'
 Fb:((a'++b'++c'++d').map bw.tb).Nodup
def OU.ap{n:Fs}{d:DK}{u0 u1 u2 u3:ab}{s b j t k b' l m:cN}(h:OU n a c g L d u0 u1 u2 u3 s b j t k b' l m)(p:I (λq=>q=g) a B)(r:¬L.aO c g):OU n B c g L d u0 u1 u2 u3 s b j t k b' l m:=by
 have o:=h.aM.ap p<|λa j e=>r<|h.same.2.2 _<|e▸j;have e:gq a B c g d d:=⟨o,p.mono<|λ_ j=>.inl<|.inr j,λ_ j=>.inl j⟩;exact⟨o,h.same,h.l0.fE e<|λ_ _=>rfl,h.l1.fE e<|λ_ _=>rfl,h.l2.fE e<|λ_ _=>rfl,h.l3.fE e<|λ_ _=>rfl,h.k0,h.k1,h.k2,h.k3,h.Fb⟩
def nZ.of{t:bw}(h:EH t):t.nZ:=by
 refine⟨h.num,by have:=h.small;omega,?_⟩;rw[h.ks];have b:=kR (ks:=bI 0 t.cs)<|λk a=>(h.idx.can k a).fits;have a:=h.idx.len;unfold eO;rw[ag,bU];omega
def Tk:fD 1=⟨#[108,111,103,45,49]⟩:=by unfold fD;rw[OM];decide
theorem uA(i:Row a b d c A):∃x h,d=J x c h:=by
 obtain⟨k,⟨g,j⟩|⟨l,f,e,g,_⟩⟩:=i;grind
 grind
def Cr.Xa{o sbqq:M}{K C w:DK}{u0 u1 u2 u3:ab}{D:cS cN}(v:Cr a f o C w b c A [u0,u1,u2,u3] D)(Q:oR D=oR [j,p,r,s])(d:C.files=K.files/\C.dM=K.dM/\∀u,C.aO o u->K.aO o u)(ac:sbqq<z (G a))(L:∀t∈j++p++r++s,EH t)(hf:∀t∈j++p++r++s,dB F (gu t.num)=H (kS t.cs)):∃h i k l,OU F f o sbqq K w u0 u1 u2 u3 j p r s h i k l:=by
 have N:=v.CT;obtain⟨h,i,k,l,rfl⟩:∃h i k l,D=[h,i,k,l]:=by rcases D with _|⟨m,_|⟨O,_|⟨T,_|⟨v3,_|⟨v4,aa⟩⟩⟩⟩⟩<;>simp at N;grind
 simp only[oR,cr,gQ,oz,vZ]at Q;obtain⟨s0,s1,s2,s3⟩:=Q;have S:jF j h:=s0;have V:jF p i:=s1;have W:jF r k:=s2;have X:jF s l:=s3;have P:=v.ord;have q:jF (j++p++r++s) (h++i++k++l):=((S.append V).append W).append X;have x:=q.Wd L;have g:∀u,c<u->u<z (G f)->Aside f w o sbqq u:=λu e d=>⟨d,λr=>by have:=v.low u<|v.same.2.2 u r;omega,by omega⟩;have B:∀t∈h++i++k++l,qF f o F (Aside f w o sbqq) t:=λt e=>by obtain⟨O,m,E,T,g2,g3,g4,_⟩:=v.xY t (by simpa using e);obtain⟨q1,q2,q3,q4,q5⟩:=x t e;refine⟨⟨O,0,m,E,g O g3 g4⟩,g t.tb T g2,q1,q5,q2,q3,q4,?_⟩;obtain⟨ad,hu,aa⟩:=q.mem e;rw[<-wA aa,<-zC aa];exact hf ad hu
 have n:∀(O:M)(aa:ab)(T:cN),[u0,u1,u2,u3][O]?=H aa->[h,i,k,l][O]?=H T->(∀t∈T,t∈h++i++k++l)->GI F f w o sbqq aa T:=λO aa T m hT E=>
  ⟨dE<|v.rows O aa T m hT,λu c=>g u (v.own m c).1 (v.own m c).2,λt e=>B t<|E t e⟩
 refine⟨h,i,k,l,v.aM,⟨v.same.1.trans d.1,v.same.2.1.trans d.2.1,λu r=>d.2.2 u<|v.same.2.2 u r⟩,n 0 _ _ rfl rfl (λt e=>by simp[e]),n 1 _ _ rfl rfl (λt e=>by simp[e]),n 2 _ _ rfl rfl (λt e=>by simp[e]),n 3 _ _ rfl rfl (λt e=>by simp[e]),S,V,W,X,?_⟩;have:=v.Fb;grind
def Yy(K:DK)(c:Fs):Prop:=∀n b,dB (vw K.files) n=H b->∃a,dB c n=H a
def DX{lg:M}{ao:dJ}(bf:cf a c o k)(hs:o.aM=b)(an:¬i.aO b c)(hX:CA Q i F)(hN:Yy i F)(f:rK F a b i j p r s g m x O lg K ao):cD aZ 24 #[aA c] a λC t=>(C=aJ .nilIface/\∃u0 u1 u2 u3,cf t c (o.lD u0 u1 u2 u3 O lg m<|decide<|0<y i.files) k/\(∃T V W X d',OU F t b c i T u0 u1 u2 u3 j p r s V W X d')/\I (λq=>i.aO b q\/q=c) a t)\/Q/\∃q,C=aJ (ot q)/\vL t q/\I (λq=>i.aO b q\/q=c) a t:=by
 subst hs;have v:=f.aM;have P:=ar bf;have ba:=f.count;have av:O<18446744073709551616:=by have:=f.nx;have:=f.AM;omega
 have aF:m<18446744073709551616:=by have:=f.bn;have:=f.AM;omega
 have ad:y i.files<=100000000:=by
  have w:=v.nodup;have e:=rZ (l:=(vw i.files).map (·.1)) (m:=fm::fD lg::(j++p++r++s).map (λau=>gu au.num)) w (λbc hx=>by
   obtain⟨E,h⟩:=ly hx;obtain⟨E,h⟩:=hN bc E h;rcases f.oa.names bc E h with C|⟨C,_⟩|⟨au,u,C⟩
   .simp[C]
   .simp[C]
   grind)
  have e1:y ((vw i.files).map (·.1))=y i.files:=by simp[vw]
  rw[e1]at e;grind
 refine OD a c o k O lg m (y i.files) (λt v0 v1 v2 v3=>∃D,cH t o.aM D/\(D.files=i.files/\D.dM=i.dM/\∀q,D.aO o.aM q->i.aO o.aM q)/\I (i.aO o.aM) a t/\∀(L:M)(aa:ab)(ac:cN),[v0,v1,v2,v3][L]?=H aa->[j,p,r,s][L]?=H ac->Row t 4 aa (y ac) (dq ac)/\∀q,cz aa=H q->z (G a)<=q/\q<z (G t)) (λt u0 u1 u2 u3=>∃T V W X d',OU F t o.aM c i T u0 u1 u2 u3 j p r s V W X d') (i.aO o.aM) bf v.lt an ?_ ?_ ?_;(.rcases f.oa.state with w|⟨w,rfl,rfl,rfl,rfl,rfl,rfl,rfl⟩;(.obtain⟨fl,al,e⟩:=hX _ _ w;(have B:dB (vw i.files) fm=H fl.bytes:=by rw[rV,al];rfl);rcases e with e|⟨hx,e⟩;rotate_left;refine(Tl v f.steps f.eL B (e.broken<|Gk _ _ _ _) ?_).mono ?_;(rw[e.len];unfold iq;rw[fC];simp[bU,nD];grind);rintro C t⟨q,rfl,n,u⟩;exact .inr ⟨hx,q,rfl,n,u⟩;rw[e]at B;apply(Qr O lg m [j,p,r,s] v f.steps f.eL rfl av f.oa.lt aF (by grind) (λau u=>nZ.of<|f.oa.iH au<|by simpa using u) (by simpa using f.oa.yS) (λau u=>f.oa.low au<|by simpa using u) B).mono;rintro C t⟨x0,n0,c0,x1,n1,c1,x2,n2,c2,x3,n3,c3,rfl,d,D,hd,e1,e2,e3⟩;exact .inl ⟨x0,n0,c0,x1,n1,c1,x2,n2,c2,x3,n3,c3,rfl,⟨D,hd.ok,⟨e1,e2,e3⟩,hd.ap,λL aa ac A N=>⟨dE<|d L aa ac A N,λq n=>(d L aa ac A N).lt q n⟩⟩,hd.ap⟩);(have B:dB (vw i.files) fm=none:=by rcases n:dB (vw i.files) fm with _|E;rfl;obtain⟨b0,e⟩:=hN _ _ n;rw[w]at e;cases e);refine(Ge v ad f.pow (λaV hf=>?_) B).mono ?_;(have e:aV∈(vw i.files).map (·.1):=by simpa[vw]using hf);obtain⟨E,h⟩:=ly e;obtain⟨E,h⟩:=hN aV E h;rcases f.oa.names aV E h with C|⟨C,_⟩|⟨au,u,C⟩;rw[C,w]at h;cases h;rw[C,Tk];simp at u;rintro C t⟨rfl,u⟩;have S:I (i.aO o.aM) a t:=u.mono cC;refine .inl ⟨none,0,0,none,0,0,none,0,0,none,0,0,rfl,⟨i,v.ap u<|λ_ _=>id,⟨rfl,rfl,λ_ r=>r⟩,S,λL aa ac A N=>?_⟩,S⟩;(have C:aa=aw/\ac=[]:=by rcases L with _|_|_|_|L<;>simp at A N<;>exact⟨A.symm,N⟩);rw[C.1,C.2];exact⟨⟨rfl,.inl ⟨rfl,rfl⟩⟩,λq n=>by cases n⟩);(.rintro W1 bd v0 v1 v2 v3⟨D,al,e,aD,d⟩w;obtain⟨x0,c0,e0⟩:=uA (d 0 _ _ rfl rfl).1;obtain⟨x1,c1,e1⟩:=uA (d 1 _ _ rfl rfl).1;obtain⟨x2,c2,e2⟩:=uA (d 2 _ _ rfl rfl).1;obtain⟨x3,c3,e3⟩:=uA (d 3 _ _ rfl rfl).1;subst e0 e1 e2 e3;have B:I (i.aO o.aM) a bd:=aD.bW w;refine(DF (db:=o.aM) (K:=D) [j,p,r,s] x0 x1 x2 x3 _ c0 _ c1 _ c2 _ c3 (al.ap w<|λ_ _=>id) (Steps.ap f.steps B f.eL) (f.pow.ap B f.lf) (λq=>f.eL<|e.2.2 _ q) (λq=>f.lf<|e.2.2 _ q) rfl (λL aa bb A hm=>w.row (d L aa bb A hm).1<|λq n=>⟨id,((d L aa bb A hm).2 q n).2⟩) (λL aa A q n=>?_) (λau u=>f.oa.iH au<|by simpa using u) (Xqq:=Q) (λau u=>by obtain⟨aV,hf,hb⟩:=hX _ _ (f.oa.xY au<|by simpa using u);exact⟨aV.bytes,by rw[e.1,rV,hf];rfl,hb⟩) (λL bb hj hm=>?_)<|by grind).mono ?_;(have hj:∃ac,[j,p,r,s][L]?=H ac:=by rcases L with _|_|_|_|L;simp_all;simp_all;simp_all;simp_all;simp at A);obtain⟨ac,N⟩:=hj;have hh:=(d L aa ac A N).2 q n;exact⟨ah hh.2 w.size,λa=>by have:=v.lt q<|e.2.2 q a;omega⟩;(grind[rK.s1,rK.s2,rK.s3]);(.rintro C t(⟨y0,m0,d0,y1,m1,d1,y2,m2,d2,y3,m3,d3,rfl,T,Ts,hI,ax⟩|⟨hx,q,rfl,n,aU⟩);rotate_left;exact⟨none,0,0,none,0,0,none,0,0,none,0,0,_,rfl,.inr ⟨hx,q,rfl,n⟩,aU.mono<|λq r=>.inl<|e.2.2 q r⟩;refine⟨y0,m0,d0,y1,m1,d1,y2,m2,d2,y3,m3,d3,_,rfl,.inl ⟨rfl,?_⟩,hI.ap.mono<|λq r=>.inl<|e.2.2 q r⟩;obtain⟨V,W,X,d',n⟩:=hI.Xa (sbqq:=c) (K:=i) ax e (ah P B.size) f.oa.iH f.oa.xY;grind));rintro bd u0 u1 u2 u3⟨T,V,W,X,d',n⟩W' u;have e:=n.ap u an;refine⟨⟨T,V,W,X,d',e⟩,?_⟩;refine(wR e.aM (by rw[n.same.1];exact ad)).mono ?_;rintro C t⟨v',ns,rfl,hp,B,S⟩;obtain⟨bc,cc,A⟩:=aC B;(have w:y ns=y i.files:=by have:=hp.length_eq;rw[n.same.1]at this;grind);rw[A,w];grind
def Qs{f:M}(h:cf a c o k)(B:o.aM=b)(e:¬i.aO b c)(A:xz a b i j p r s g m x O f K l):cD aZ 24 #[aA c] a λC d=>C=aJ .nilIface/\∃u0 u1 u2 u3,cf d c (o.lD u0 u1 u2 u3 O f m<|decide<|0<y i.files) k/\(∃n t u v w,OU (vw i.files) d b c i n u0 u1 u2 u3 j p r s t u v w)/\I (λq=>i.aO b q\/q=c) a d:=(DX h B e (CA.refl False i) (λ_ _ h=>⟨_,h⟩) A).mono<|λC d h=>h.elim id<|λr=>r.1.elim
