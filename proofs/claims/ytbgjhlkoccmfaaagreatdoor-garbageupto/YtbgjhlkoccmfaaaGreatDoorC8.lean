import Derived.Test.YtbgjhlkoccmfaaaGreatDoorC7
open _root_ renaming List.length→y,Option.some→M,Array.size→G,Go.World.heap→H,Go.Value.ownBlock→cN,Go.World.cell?→bA,Go.World.setCell→cP,Go.World.alloc→dw,Bool.false→bD,Bool.true→cz,Nat→R,Int→Y,List→cy,Go.Calls→cR,Go.undef→jn,Go.Proofs.Tryz.prog→bN,Go.Value.slice→am,Go.Value.string→aw,Go.Value.bool→aO,Go.Value.tuple→de,Go.Value.agg→ef,Go.World.frozen?→iI,Go.World.ownsRow→fE,Go.Value.nilIface→ic,Go.Act.put→ii,Nat.reduceAdd→ke,Go.RowKit.Below→gD,Bool→eN,Option.none→dE,rfl→z,Or.inl→J,Or.inr→bu
namespace Go.Proofs.YtbgjhlkoccmfaaaGreatDoor
open ChangeShapes WideShapes RowKit Proofs.Tryz List
set_option maxHeartbeats 16000000
set_option linter.all false
set_option maxRecDepth 100000
variable{a e:Z}{b c k n T:R}{d w:ae}{f x:DK}{i:dB}{l v C F:dI}{m:eD}{o:SR}{W:fC}{r:Y}{B:af}{K:Prop}{N:Fs}{S:E}{V:eN}
structure MP(w w':Z)(sb:R)(s:SR)(k:Y)(n C:R)(K:DK)(T0:dI)(v0 v1 v2 v3:ae)(K':DK)(dz:R)(a' b' c' d':dI):Prop where
 g:cU w' sb (s.pW v0 v1 v2 v3 n dz) k
 st:ST w' sb (s.pW v0 v1 v2 v3 n dz) K' [] a' b' c' d' C
 i:((a'++b'++c'++d').map cH.tb).Nodup
 nl:dz<18446744073709551616
 lN:∃(KR:DK)(nw:dI),mu (ly nw) K KR/\mu (vt (Ra dz n [a',b',c',d'])++(oe s T0<|a'++b'++c'++d').map .rm) KR K'/\y nw<=3000000000/\(∀u∈nw,NwT u)/\(∀t∈a'++b'++c'++d',(∃u∈T0,u.cK=t.cK/\u.ks=t.ks)\/∃u∈nw,u.cK=t.cK/\u.ks=t.ks)/\∀u∈nw,∃t∈a'++b'++c'++d',u.cK=t.cK
 qP:y T0<=3000000000
 eQ:gl w w' s.f sb K K'
def Do:qG->R
 | .inr (.inl (n,a))=>if n=fm\/n=kF then y a else 0
 |_=>0
def Mq:qG->R
 |Sum.inl _=>1
 | .inr (.inr<|.inr<|.inl _)=>1
 |_=>0
def R8(c:eN):qG->eN
 | .inl n=>c||decide (n=kF)
 |_=>c
def Z5(c:eN):qG->Prop
 | .inr (.inl (n,_))=>n≠fm/\(n=kF->c=cz)
 |_=>True
def Dr:eN->cy qG->Prop
 |_,[]=>True
 |c,o::l=>Z5 c o/\Dr (R8 c o) l
def Dr.up{l:cy qG}:∀{c a:eN},(c=cz->a=cz)->Dr c l->Dr a l:=by
 induction l with
 |nil=>intros;trivial
 |cons o l f=>
  rintro c a e⟨b,d⟩;refine⟨?_,f ?_ d⟩
  .obtain _|⟨_,_⟩|_|_|_|_:=o<;>simp[Z5]at b|-;exact⟨b.1,λa=>e<|b.2 a⟩
  .obtain _|⟨_,_⟩|_|_|_|_:=o<;>simp[R8]<;>grind
def Dr.Fa{l m:cy qG}:∀{d:eN},Dr d l->Dr bD m->Dr d (l++m):=by
 induction l with
 |nil=>exactλ_ h=>h.up ar
 |cons o l c=>exactλ⟨a,b⟩h=>⟨a,c b h⟩
def Dr.ph{l m:cy qG}:∀{e:eN},Dr e (l++m)->Dr e l:=by
 induction l with
 |nil=>intros;trivial
 |cons o l d=>exactλ⟨a,c⟩=>⟨a,d c⟩
def ZD(a:cy af):Dr bD (a.map .rm):=by
 induction a with
 |nil=>trivial
 |cons n a b=>exact⟨trivial,b⟩
structure MS(l:cy qG)(B:R):Prop where
 dL:y l<=13000000000
 nm:∀n,.cr n∈l->Nm n
 ap:(l.map Do).sum<=B
 rn:∀x g9,.rn x g9∈l->x=kF/\g9=fm
 L:(l.map Mq).sum<=4000000000
 f:Dr bD l
def MS.ph{l m:cy qG}(h:MS m c)(f:l<+:m):MS l c:=by
 obtain⟨r,rfl⟩:=f;have a:=h.dL;have d:=h.ap;rw[ai]at a;rw[bz,eY]at d;have e:=h.L;rw[bz,eY]at e;exact⟨U,λn d=>h.nm n<|gY _ d,U,λx a e=>h.rn x a<|gY _ e,U,h.f.ph⟩
def Xq(K a:DK)(B:R):Prop:=∃l,mu l K a/\MS l B
def Y2(h:∀u∈l,NwT u):(∀n,.cr n∈ly l->Nm n)/\((ly l).map Do).sum=0/\(∀x a,.rn x a∉ly l)/\((ly l).map Mq).sum=y l:=by
 induction l with
 |nil=>simp[ly]
 |cons u r i=>
  let⟨b,c,d,e⟩:=i (λv a=>h v<|by simp[a]);rw[(by simp[ly]:ly (u::r)=tM u.cK u.cs++ly r)];refine⟨λn f=>?_,?_,λx a g=>?_,by rw[bz,eY,e];simp[tM,Mq];omega⟩
  .obtain q|q:=aP.1 f
   .simp[tM]at q;rw[q];exact zN (h u ar).cK
   .exact b n q
  .rw[bz,eY,c];simp[tM,Do,ux,By]
  .obtain q|q:=aP.1 g
   .simp[tM]at q
   .exact d x a q
def Y4(a:dI):Dr bD (ly a):=by
 induction a with
 |nil=>trivial
 |cons u r b=>
  rw[(by simp[ly]:ly (u::r)=tM u.cK u.cs++ly r)];refine Dr.Fa ?_ b;simp[tM,Dr,Z5,R8,ux,By]
def Q2.dk(h:Q2 o f x b):Xq f x (20*b+44):=by
 let⟨D,w,A,a,c,r,B,s,C,g,i⟩:=h;refine⟨D,r,MS.ph ?_ c⟩;let⟨j,k,l,m⟩:=Y2 s
 have e:((a.map qG.rm).map Do).sum=0:=by
  clear c g i;induction a with
  |nil=>rfl
  |cons v a d=>simpa[Do]using d
 have p:((a.map qG.rm).map Mq).sum=0:=by
  clear c g i e;induction a with
  |nil=>rfl
  |cons v a d=>simpa[Mq]using d
 refine⟨?_,λv t=>?_,?_,λE n u=>?_,by rw[bz,eY,bz,eY,m,p];simp[vt,Mq];omega,(Y4 w).Fa<|Dr.Fa (by simp[vt,Dr,Z5,R8];decide)<|ZD a⟩;rw[ai,ai,Y3,cS];simp[vt];omega;obtain q|q:=aP.1 t;exact j v q;obtain q|q:=aP.1 q;simp[vt]at q;rw[q];exact Si;simp at q;rw[bz,eY,bz,eY,k,e];simp[vt,Do];omega;obtain q|q:=aP.1 u;exact absurd q<|l E n;obtain q|q:=aP.1 q;simpa[vt]using q;simp at q
structure MK(w w':Z)(sb:R)(s:SR)(k:Y)(K K':DK)(N:R)(v:ae):Prop where
 eQ:gl w w' s.f sb K K'
 g:∃s',cU w' sb s' k/\s'.d=s.d/\s'.f=s.f
 f:∃q,v=eW q/\tD w' q
 lN:Xq K K' (20*N+44)
def Xn.pK{f:Fg}(h:Xn f r):1<=r:=by
 obtain⟨rfl,_⟩|⟨rfl|rfl|rfl,_⟩:=h<;>decide
def Q2.aT{K a:DK}(h:Q2 o K a c)(s:c<=k):Q2 o K a k:=by
 let⟨l,q,d,p,e,g,j,m,r,n⟩:=h;exact⟨l,q,d,p,e,g,j,m,U,n⟩
def Q2.ph{a:DK}(h:Q2 o x a c)(j:wS f x):Q2 o f a c:=by
 let⟨m,l,d,k,e,g,i⟩:=h;exact⟨m,l,d,k,e,g.ph j,i⟩
def Xq.YG(h:wS f x):Xq f x c:=⟨[],h,ar,ar,ar,ar,ar,trivial⟩
def Gj(lb:R)(ao aD:R)(wr:Z)(A B D E:ae)(aU b an aV:dI)(ps:cy NT)(h:SV a c o r lb f (l++v++C++F) ao wr A B D E aU b an aV ps)(h0:cU a c o r)(d:ST a c o f i l v C F k)(hn:aD<18446744073709551616)(ad:o.t<18446744073709551616)(aa:o.l<18446744073709551616)(ac:y f.l<=100000000000)(al:qu f.fx):cR bN 133 #[aJ c,ef #[A,B,D,E],bw aD] wr λap t=>(ap=aN ic/\∃j dz L N O P,MP a t c o r aD ao f (l++v++C++F) A B D E j dz L N O P)\/∃ax j,ap=aN ax/\MK a t c o r f j ao ax:=by
 let⟨K,S,W,p,e3,Q⟩:=h.ls.X1;let⟨e1,_,e2⟩:=id p;have av:=d.A;have w:y (l++v++C++F)<=3000000000:=by have x:=d.FX;have h2:=d.v;have:=jf<|λba s=>(d.l0.bZ ba s).p;have:=jf d.s1.p;have:=jf d.s2.p;have:=jf d.s3.p;simp only[ai];omega
 have V:y (aU++b++an++aV)<=ao:=by have:=h.ls.FX;let⟨x,l1,l2,l3⟩:=h.ls.t;have:=jf<|λba s=>h.ls.p<|h.ls.x0 ba s;have:=jf h.ls.s1.p;have:=jf h.ls.s2.p;have:=jf h.ls.s3.p;simp only[ai];omega
 have ab:Fw wr c 10 [(o.l0,l),(o.l1,v),(o.l2,C),(o.l3,F)]:=by refine(d.lvm h0).aA h.aA d.l<|λx hi e g=>?_;have:x=0\/x=1\/x=2\/x=3:=aI;obtain rfl|rfl|rfl|rfl:=this;exact(d.l0.l e g).j;exact(d.l1.l e g).j;exact(d.l2.l e g).j;exact(d.l3.l e g).j
 have:=h.ls.B;refine(Tg (G<|H a) ao aD ps A B D E aU b an aV l v C F h.g S ab W (λq=>d.l<|e3 c q) hn ad aa (e2▸ac) w ?_ ?_<|Q.D al).mono ?_;let⟨x,an,ap⟩:=cG d.D;exact⟨_,_,_,ap⟩;have x:∀e,Aside a f o.f c e->MT o.f c (G<|H a) K e:=λe q=>⟨q.lt,λg=>q.j<|e3 e g,q.ne⟩;rintro ax(rfl|rfl|rfl|rfl)e g;exact x _<|d.l0.l e g;exact x _<|d.l1.l e g;exact x _<|d.l2.l e g;exact x _<|d.l3.l e g;have:=h.aA.D
 have hT:∀{t:Z},I (λr=>Wr o.f K ps r\/r=c) wr t->I (λe=>f.j o.f e\/e=c) a t:=λs=>(h.aA.aT (T:=λe=>f.j o.f e\/e=c) aI).aj s (λe q=>by
  obtain(q|⟨bb,x,q⟩)|q:=q
  .grind
  .refine .inr ?_;obtain q|q:=q
   .exact((h.ls.S bb x).1.lt e<|.inl q).1
   .exact((h.ls.S bb x).1.lt e<|.inr<|.inr q).1
  grind)
 have u:∀{j:DK},(∀r,j.j o.f r->K.j o.f r\/G (H wr)<=r)->∀r,j.j o.f r->f.j o.f r\/G (H a)<=r:=aI;rintro ap t(⟨rfl,j,dz,L,N,O,P,m,s⟩|⟨ax,j,rfl,n⟩);refine .inl ⟨z,j,dz,L,N,O,P,m.g,m.st,m.i,m.nl,?_,w,⟨m.st.f,hT s,u m.j,Q.aj m.fx⟩⟩;let⟨x,nw,o1,o2⟩:=m.lN;exact⟨x,nw,o1.ph p,o2⟩;let⟨q,an,x,r2,r3⟩:=n.f;exact .inr ⟨ax,j,z,⟨n.ok,hT n.aA,u n.j,Q.aj n.fx⟩,n.g,⟨q,x,an,r2,r3.pK⟩,((n.lN.ph p).aT V).dk⟩
def MQ.DC{ao wr:Z}{sn:gJ}(hS:MQ ao c o r k f v n wr)(ad:G (H ao)<=k)(al:¬f.j o.f c)(W:MO ao f c o sn)(an:2<=o.ub)(aa:R)(hi:aa<4):∃(s t u w:Option Addr)(n0 n1 n2 n3 x A B C:R)(aD:Option Addr)(g9 m9:R)(ax:eN),wr.heap[k]?=M (aK #[am s n0 x,am t n1 A,am u n2 B,am w n3 C] 108 (0,0))/\(#[am s n0 x,am t n1 A,am u n2 B,am w n3 C]:Array ae)[aa]?=M (am aD g9 m9)/\(cR bN 77 #[aJ c,ay (aa:R),am aD g9 m9] wr λK w2=>K=aN (aO ax)/\w2=wr)/\(ax=cz->∀(j:Z)(P:Option Addr)(N:R)(l:eD),I aC wr j->j.ownsRow (G<|H wr) 104 1 (am P (y l) N) (y l) (l.map<|Value.int .u64)->l.Perm (Gi sn)->cR bN 132 #[ef #[am s n0 x,am t n1 A,am u n2 B,am w n3 C],ay (aa:R),am P (y l) N] j λK w2=>(∃(r0 r1 r2 r3:Option Addr)(m0 m1 m2 m3 t0 t1 t2 t3:R),K=aN (de #[ef #[am r0 m0 t0,am r1 m1 t1,am r2 m2 t2,am r3 m3 t3],ic])/\w2.heap[k]?=M (aK #[am s n0 x,am t n1 A,am u n2 B,am w n3 C] 108 (0,0))/\MQ ao c o r k f v n (cP (cP (cP (cP w2 (X k 0)<|am r0 m0 t0) (X k 1)<|am r1 m1 t1) (X k 2)<|am r2 m2 t2) (X k 3)<|am r3 m3 t3)/\xO (cP (cP (cP (cP w2 (X k 0)<|am r0 m0 t0) (X k 1)<|am r1 m1 t1) (X k 2)<|am r2 m2 t2) (X k 3)<|am r3 m3 t3) k aa<xO wr k aa/\∀ab,ab<aa->xO (cP (cP (cP (cP w2 (X k 0)<|am r0 m0 t0) (X k 1)<|am r1 m1 t1) (X k 2)<|am r2 m2 t2) (X k 3)<|am r3 m3 t3) k ab=xO wr k ab)\/Et (nX o.f f) j w2 (f.j o.f) K bL/\w2.heap[k]?=M (aK #[am s n0 x,am t n1 A,am u n2 B,am w n3 C] 108 (0,0)))/\ax=qe o.ub aa (xO wr k aa)/\∀ac,I aC wr ac->cR bN 95 #[aJ c] ac λK w2=>∃O,∃l:eD,K=aN O/\l.Perm (Gi sn)/\fE w2 (G<|H wr) 104 1 O (y l) (l.map<|Value.int .u64)/\I aC wr w2:=by
 let⟨v0,v1,O,v3,av,b,ap,aU,ps,d⟩:=hS;obtain⟨s,x,rfl⟩:=cG d.ls.r0;obtain⟨t,A,rfl⟩:=cG d.ls.r1;obtain⟨u,B,rfl⟩:=cG d.ls.r2;obtain⟨w,C,rfl⟩:=cG d.ls.r3;have L:∀ac,I aC wr ac->cR bN 95 #[aJ c] ac λK w2=>∃O,∃l:eD,K=aN O/\l.Perm (Gi sn)/\fE w2 (G<|H wr) 104 1 O (y l) (l.map<|Value.int .u64)/\I aC wr w2:=λac hW=>by let⟨mb,m1,m2,m3⟩:=(W.j d.aA).ex;go_call wy (b:=mb) sn ((hW.A c (az d.g) id).trans d.g) m1 (m2.dU<|hW.A _ m3.lt id) W.dL as K w2⟨O,l,rfl,l1,l2,l3⟩;exact⟨O,l,z,l1,fj l2 hW.D,hW.t l3⟩
 have h4:∀l:eD,l.Perm (Gi sn)->y l<=4:=λl F=>by have:=F.length_eq;rw[qN]at this;have:=W.dL;omega
 have Q:=λ(j w2:Z)(l:eD)(u0 u1 u2 u3:ae)(g i c' k:dI)(a:cy NT)(p:I aC wr j)(_:l.Perm (Gi sn))(m:LS w2 o.f c (G<|H ao) f v a n u0 u1 u2 u3 g i c' k)(e:I (f.j o.f) j w2)=>d.gL ad al m<|(p.aT (T:=f.j o.f) cY).aj e<|λ_ q=>.inl q;have:∀(j w2:Z)(K:Ending),I aC wr j->Et (nX o.f f) j w2 (f.j o.f) K bL->w2.heap[k]?=wr.heap[k]?:=λj w2 K p hB=>by let⟨_,_,_,_,_,e⟩:=hB;exact(e.A k (au (az d.lb) p.D)<|λq=>bP<|d.ls.j k q).trans<|p.A k (az d.lb) id
 have a:∀{ac:Z}{u0 u1 u2 u3:ae}(ab:R)(e:Option Addr)(m t:R),ac.heap[k]?=M (aK #[u0,u1,u2,u3] 108 (0,0))->#[u0,u1,u2,u3][ab]?=M (am e m t)->xO ac k ab=m:=λab e m t c d=>YZ (x:=e) (c:=t)<|(cE c).trans d;obtain rfl|rfl|rfl|rfl:=(show aa=0\/aa=1\/aa=2\/aa=3 by omega);(.refine⟨s,t,u,w,_,_,_,_,x,A,B,C,s,y av,x,_,d.lb,z,tT 0 (y av) s x d.g U,λS j P N l p ho F=>?_,by rw[a 0 _ _ _ d.lb rfl],L⟩;(have g:0<y av:=by unfold qe at S;grind);have D:=d.ls.Y6 p ho;go_call D.1.zck g l P N D.2.1 D.2.2 (h4 l F)as K w2(⟨x',n',c',tm,i,rfl,m,e⟩|hB);rotate_left;(grind[SV.lb]);let⟨x1,E⟩:=Q j w2 l _ _ _ _ _ _ _ _ i p F m e;exact .inl ⟨_,_,_,_,_,_,_,_,_,_,_,_,z,x1,⟨_,_,_,_,_,_,_,_,i,E⟩,by rw[a 0 _ _ _ E.lb rfl,a 0 _ _ _ d.lb rfl];omega,λab hj=>U⟩);(.refine⟨s,t,u,w,_,_,_,_,x,A,B,C,t,y b,A,_,d.lb,z,tT 1 (y b) t A d.g U,λS j P N l p ho F=>?_,by rw[a 1 _ _ _ d.lb rfl],L⟩;(have g:0<y b:=by unfold qe at S;grind);have D:=d.ls.Y6 p ho;go_call D.1.zcj g l P N D.2.1 D.2.2 (h4 l F)as K w2(⟨xl,nl,cl,x',n',c',b2,c2,i,rfl,m,V,e⟩|hB);rotate_left;(grind[SV.lb]);let⟨x1,E⟩:=Q j w2 l _ _ _ _ _ _ _ _ i p F m e;let⟨_,_,K⟩:=cG m.r1;cases K;exact .inl ⟨_,_,_,_,_,_,_,_,_,_,_,_,z,x1,⟨_,_,_,_,_,_,_,_,i,E⟩,by rw[a 1 _ _ _ E.lb rfl,a 1 _ _ _ d.lb rfl];omega,λab hj=>by obtain rfl:ab=0:=U;rw[a 0 _ _ _ E.lb rfl,a 0 _ _ _ d.lb rfl]⟩);(.refine⟨s,t,u,w,_,_,_,_,x,A,B,C,u,y ap,B,_,d.lb,z,tT 2 (y ap) u B d.g U,λS j P N l p ho F=>?_,by rw[a 2 _ _ _ d.lb rfl],L⟩;(have g:0<y ap:=by unfold qe at S;grind);have D:=d.ls.Y6 p ho;go_call D.1.zci g l P N D.2.1 D.2.2 (h4 l F)as K w2(⟨xl,nl,cl,x',n',c',c2,d2,i,rfl,m,V,e⟩|hB);rotate_left;(grind[SV.lb]);let⟨x1,E⟩:=Q j w2 l _ _ _ _ _ _ _ _ i p F m e;let⟨_,_,K⟩:=cG m.r2;cases K;exact .inl ⟨_,_,_,_,_,_,_,_,_,_,_,_,z,x1,⟨_,_,_,_,_,_,_,_,i,E⟩,by rw[a 2 _ _ _ E.lb rfl,a 2 _ _ _ d.lb rfl];omega,λab hj=>by obtain rfl|rfl:=(show ab=0\/ab=1 by omega);(rw[a 0 _ _ _ E.lb rfl,a 0 _ _ _ d.lb rfl]);(rw[a 1 _ _ _ E.lb rfl,a 1 _ _ _ d.lb rfl])⟩);refine⟨s,t,u,w,_,_,_,_,x,A,B,C,w,y aU,C,_,d.lb,z,tT 3 (y aU) w C d.g U,λS=>?_,by rw[a 3 _ _ _ d.lb rfl],L⟩;simp[qe]at S
def P8(w c:Z)(b:R)(s:SR)(n:Y)(o C:R)(K:DK)(d:dI)(m:Ending):Prop:=(m=aN ic/\∃i j k l a dz e f g h,MP w c b s n o C K d i j k l a dz e f g h)\/∃v a,m=aN v/\MK w c b s n K a C v
def Gk{K:dB}(mv:ae)(cc gj:R)(h:cU a b o r)(k:ST a b o f i l v C F c)(bL:((l++v++C++F).map cH.tb).Nodup)(hm:lG a mv K)(fs:∀r,cN mv=M r->r<G (H a))(em:gG K)(et:sq 5 K)(ej:∀hh∈K,hh.Good)(fu:y K<=100)(hC:im l+im v+im C+im F+y K<=cc)(fd:cc<=3000000000)(er:2<=o.ub)(hn:gj<18446744073709551616)(fL:o.t<18446744073709551616)(fr:o.l<18446744073709551616)(fv:y f.l<=100000000000)(sn:gJ)(gc:MO a f b o sn)(gb:qu f.fx):cR bN 78 #[aJ b,mv,bw gj] a λex w'=>P8 a w' b o r gj cc f (l++v++C++F) ex:=by
 have cB:=az h;have bd:=k.zbp (C':=cc) cB bL U fd;have ec:=λd wr v0 v1 v2 v3 a1 b1 c1 d1 b a=>Gj d cc gj wr v0 v1 v2 v3 a1 b1 c1 d1 b a h k hn fL fr fv gb;let⟨y0,z0,cp⟩:=cG k.l0.bV;let⟨y1,z1,cr⟩:=cG k.l1.bV;let⟨y2,z2,cs⟩:=cG k.l2.bV;let⟨y3,z3,cu⟩:=cG k.l3.bV;have hc:bA a (X b 10)=M (am y0 (y l) z0):=cp▸h.u z;have hd:bA a (X b 11)=M (am y1 (y v) z1):=cr▸h.u z;have he:bA a (X b 12)=M (am y2 (y C) z2):=cs▸h.u z;have hg:bA a (X b 13)=M (am y3 (y F) z3):=cu▸h.u z;rw[cp,cr,cs,cu]at bd;let⟨B,cm⟩:∃B,dw a (aK #[am y0 (y l) z0,am y1 (y v) z1,am y2 (y C) z2,am y3 (y F) z3] 108)=B:=⟨_,rfl⟩;have ab:I aC a B:=cm▸(cI _ _);have ds:B.heap[G<|H a]?=M (aK #[am y0 (y l) z0,am y1 (y v) z1,am y2 (y C) z2,am y3 (y F) z3] 108 (0,0)):=cm▸aQ _ z;have m:=bd.aA (ab.aT cY)<|(nX o.f f).l bd.D ab cY;have ck:cU B b o r:=(ab.A b cB id).trans h;have co:=k.f.lt;have ca:=k.l;let⟨mx,mc,fx⟩:=cG hm;have gt:G (H B)=G (H a)+1:=by rw[<-cm];simp
 clear bL bd cp cr cs cu;subst fx;let⟨d,ed⟩:∃d,G (H a)=d:=⟨_,rfl⟩;have eg:G (H a)<=d:=U;by_cases hz:y K=0;(case' pos=>have bx:¬(0:Y)<(y K:Y):=U;have j:K=[]:=bG hz;have D:=ak<|show MQ a b o r d f (l++v++C++F) cc B from⟨_,_,_,_,l,v,C,F,[],m,by rw[<-ed];exact ds,ck,ab.aT cY⟩;clear j;(go_in);go_wp21;let⟨W7,E⟩:∃W7,B=W7:=⟨_,rfl⟩;rw[E];rw[E]at D;clear E)
 case' neg=>
  have bx:(0:Y)<(y K:Y):=U;let⟨mg,mo,en,ek,P⟩:∃ev L,mx=M (X ev L)/\y K<=mc/\∀db gv,(bj K)[db]?=M gv->bA a (X ev<|L+db)=M gv:=by
   obtain⟨_,⟨q1,q2⟩|⟨ev,L,ha,q1,q2,q3⟩⟩:=hm
   .grind
   grind
  subst en;have fz:K≠[]:=aI;have cv:mg<G (H a):=fs mg z;have ba:I aC a B.drew:=ab.t<|cf aC B;have bE:=Gb K mg mo mc B.drew (λdb hj=>ba.u (k.t.o db hj) id k.t.i.lt) (bP ba.D) (λdb gv hj=>ba.u (P db gv hj) id cv) ek U ej em (λq hq=>aR (et.Hm q hq) U) U;clear P;go_in
  go_wp21;rename_i QQ KK ax ga;have hS:B.drew.heap[d]?=M (aK #[am y0 (y l) z0,am y1 (y v) z1,am y2 (y C) z2,am y3 (y F) z3] 108 (0,0)):=by rw[<-ed];exact ds
  refine cX (λ(j4:Z)=>j4.heap[d]?=M (aK #[am y0 (y l) z0,am y1 (y v) z1,am y2 (y C) z2,am y3 (y F) z3] 108 (0,0))) 8 z ?_;refine dH 0 ?_;iterate 3 (refine vg (v:=?_) hS z aH wP z ?_ ?_;rotate_left;(focus(intro j4 hX;have x0:bA j4 (X d 0)=M (am y0 (y l) z0):=(by rw[cE hX];rfl);go_simp;try rfl));simp only[ii,eh,ke])
  apply eS;refine aW 3 ?_;intro K3 an;go_simp;go_call bE as ex g⟨j8,j,gs,N,xb,O,rfl,hf⟩;let⟨eo,bi,br⟩:=ZG hf fz ej em fu;have W:=(hf.aA.A d (az hS) id).trans hS;refine an _ _ (λ_=>W) ?_;clear an bE;try simp only[ii,eh]
  refine aW 4 ?_;intro K4 ao;go_simp;have cM:I aC g (dw g<|aK #[aJ j8] 235):=(cI _ _);have dv:=(cM.A d (az W) id).trans W;refine ao _ _ (λ_=>dv) ?_;clear ao;try simp only[ii,eh]
  refine aW 5 ?_;intro K5 ap;go_simp;let⟨W5,aD⟩:∃W5,dw (dw g<|aK #[aJ j8] 235) (aK #[am y0 (y l) z0,bX (G<|H g) 0 1 1] 106)=W5:=⟨_,rfl⟩;have bl:I aC g W5:=by rw[<-aD];exact cM.aE _
  have bf:=(bl.A d (az W) id).trans W;have bs:W5.heap[G<|H g]?=M (aK #[aJ j8] 235 (0,0)):=by rw[<-aD];grind[gy,aQ]
  have aU:W5.heap[G (H g)+1]?=M (aK #[am y0 (y l) z0,bX (G<|H g) 0 1 1] 106 (0,0)):=by rw[<-aD];exact aQ _ ar
  rw[aD];refine ap _ _ (λ_=>bf) ?_;clear ap aD;try simp only[ii,eh]
  refine aW 6 ?_;intro K6 V;go_simp;have A:I aC B W5:=((cf aC B).t hf.aA).t bl;have bv:=vN (G (H g)+1) 0 2 [((am y0 (y l) z0:ae),l),(bX (G<|H g) 0 1 1,[⟨j8,dK 0 j,j,0⟩])] W5 (by
   intro ac hi;have:ac=0\/ac=1:=aI;obtain rfl|rfl:=this<;>(rw[cE aU];rfl)) (az aU) (by
    intro ac hi;have:ac=0\/ac=1:=aI;obtain rfl|rfl:=this
    .exact A.bV m.r0<|λr a=>⟨id,(m.b0 r a).1⟩
    .refine⟨z,bu ⟨G (H g),0,1,z,aq _,λdb gv hj=>?_⟩⟩;rw[cE bs,ez];simpa[cH.D]using hj) (by
    intro ac hi;have:ac=0\/ac=1:=aI;obtain rfl|rfl:=this
    .exactλr a=>au (m.b0 r a).1 A.D
    .exactλr a=>by cases a;grind) ar (by have:=m.A;simp[nC];omega)
  go_call bv as ex w6⟨v6,rfl,bk,bm⟩;have aa:=(bm.A d (az bf) id).trans bf;have bp:nC [((am y0 (y l) z0:ae),l),(bX (G<|H g) 0 1 1,[⟨j8,dK 0 j,j,0⟩])]=y (l++[(⟨j8,dK 0 j,j,0⟩:cH)]):=by simp[nC]
  have bo:rY [((am y0 (y l) z0:ae),l),(bX (G<|H g) 0 1 1,[⟨j8,dK 0 j,j,0⟩])]=(l++[(⟨j8,dK 0 j,j,0⟩:cH)]).map cH.D:=by simp[rY]
  rw[bp,bo]at bk;obtain⟨x6,c6,ge⟩:=aM bk;subst ge;refine V _ _ (λ_=>aa) ?_;clear V bv;try simp only[ii,eh]
  refine aW 7 ?_;intro K7 w;go_simp;refine w _ _ (λ_=>aa) ?_;clear w;try simp only[ii,eh]
  refine aW 8 ?_;intro K8 x;have x0:=aX aa 0;have gn:=cV (i:=0) aa;go_simp;have S:I aC B w6:=A.t bm;have cb:I aC g w6:=bl.t bm;have bT:NT.Ok w6 (G<|H B) ⟨⟨j8,dK 0 j,j,0⟩,gs,N,xb,O⟩:=NT.Ok.aA eo cb<|λ_ _ q=>q;have dr:=m.zan (p:=⟨⟨j8,dK 0 j,j,0⟩,gs,N,xb,O⟩) S bT bi (fj bk A.D) (by
   have L:qD (dK 0 j)=y K:=by rw[Lo bi.p.dL bi.p.l];exact cD y br
   show _+qD (dK 0 j)<=cc;omega)
  have u:I (λq=>q=d) w6 (cP w6 (X d 0)<|am x6 (y<|l++[(⟨j8,dK 0 j,j,0⟩:cH)]) c6):=(iQ d w6);have bq:=dr.dN u<|λq hq=>aI;have D:=ak<|show MQ a b o r d f (l++v++C++F) cc (cP w6 (X d 0)<|am x6 (y<|l++[(⟨j8,dK 0 j,j,0⟩:cH)]) c6)from⟨_,_,_,_,_,v,C,F,_,bq,(aY aa).trans z,(u.A b aI<|λq=>U).trans<|(S.A b (az ck) id).trans ck,((ab.t S).aT (T:=f.j o.f) cY).aj u aI⟩;refine x _ _ (λq=>(q z).elim) ?_;refine dG z ?_ _;show KK _ _;apply ax;clear ax x bq dr u bT cb S aa bk bm bs aU bf bl dv cM W eo bi br hf hS x0 gn A bp bo;have bn:y (l++[(⟨j8,dK 0 j,j,0⟩:cH)])=y l+1:=ar;rw[bn]at D;let⟨W7,E⟩:∃W7,cP w6 (X d 0) (am x6 (y l+1) c6)=W7:=⟨_,rfl⟩;rw[E];rw[E]at D;clear E bn;go_wp21
 (all_goals clear bx;(go_loopw [25] (λe wr=>∃(ac:R)(eA:Y),ac<=4/\eA=ac/\e=ay eA/\MQ a b o r d f (l++v++C++F) cc wr) (λe _=>4-(intOf e).toNat));exact⟨0,0,U,z,z,D⟩;(.obtain⟨ac,eA,hi,hI,rfl,cl⟩:=hrel;by_cases h4:ac<4;(.have D:=ak cl;have cj:=ak<|λ(wr:Z)(h:MQ a b o r d f (l++v++C++F) cc wr)=>h.DC eg ca gc er ac h4;let⟨me,ei⟩:∃me:Z->R,∀W,me W=xO W d ac:=⟨_,λ_=>rfl⟩;have dd:=ak ei;clear cl ei;obtain⟨rfl,rfl⟩|⟨rfl,rfl⟩|⟨rfl,rfl⟩|⟨rfl,rfl⟩:=(show(ac=0/\eA=0)\/(ac=1/\eA=1)\/(ac=2/\eA=2)\/(ac=3/\eA=3)by omega);(all_goals clear hI;go_wp21;(go_loopw [9] (λ_ wr=>MQ a b o r d f (l++v++C++F) cc wr) (λ_ wr=>me wr));exact D;(.have HR:=ak hrel;have cd:=ak (show cU wr b o r/\I (f.j o.f) a wr from by let⟨_,_,_,_,_,_,_,_,_,dT⟩:=hrel;exact⟨dT.g,dT.aA⟩);let⟨p0,p1,p2,p3,n0,n1,n2,n3,q0,q1,q2,q3,hh,g9,m9,hk,n,hx,s,cn,fl,el⟩:=cj wr hrel;cases iL hx;have g0:=aX n 0;have g1:=aX n 1;have g2:=aX n 2;have g3:=aX n 3;have dk:=ak el;have bc:=ak n;clear el n hx hrel fl;cases hk;(.clear cn dk bc;go_wp21;go_call s as ex g⟨rfl,gg⟩;subst g;clear s g0 g1 g2 g3;go_wp2;go_roundw;(first|exact⟨1,1,U,z,z,HR⟩|exact⟨2,2,U,z,z,HR⟩|exact⟨3,3,U,z,z,HR⟩|exact⟨4,4,U,z,z,HR⟩);simp[intOf]);(.have ce:=ak<|cn z;clear cn;go_wp21;go_call s as ex g⟨rfl,gg⟩;subst g;clear s;(go_wp2_with fail);rename_i QQ KK ax;have hS:wr.drew.heap[d]?=M (aK #[am p0 n0 q0,am p1 n1 q1,am p2 n2 q2,am p3 n3 q3] 108 (0,0)):=ag bc;refine kG (λ(j4:Z)=>j4.heap[d]?=M (aK #[am p0 n0 q0,am p1 n1 q1,am p2 n2 q2,am p3 n3 q3] 108 (0,0))) 6 z ?_;refine lX 0 ?_;(iterate 3 (refine QN (v:=?_) hS z aH wP z ?_ ?_;rotate_left;(focus(intro j4 hX;have x0:bA j4 (X d 0)=M (am p0 n0 q0):=(by rw[cE hX];rfl);have x1:bA j4 (X d 1)=M (am p1 n1 q1):=(by rw[cE hX];rfl);have x2:bA j4 (X d 2)=M (am p2 n2 q2):=(by rw[cE hX];rfl);have x3:bA j4 (X d 3)=M (am p3 n3 q3):=(by rw[cE hX];rfl);go_simp;try rfl));simp only[ii,eh,ke]));apply qj;refine gO 3 ?_;intro K3 an;go_simp;apply(dk wr.drew<|cf _ _).mono;rintro ex wm⟨vm,lm,rfl,eq,cx,bb⟩;obtain⟨gr,fb,gf⟩:=aM cx;subst gf;have aV:=ce wm gr fb lm bb cx eq;have dx:wm.heap[d]?=M (aK #[am p0 n0 q0,am p1 n1 q1,am p2 n2 q2,am p3 n3 q3] 108 (0,0)):=(bb.A d (az bc) id).trans bc;refine an _ _ (λ_=>dx) ?_;(try simp only[ii,eh]);refine gO 4 ?_;intro K4 ao;go_simp;go_call aV as ex g Q;(obtain⟨r0,r1,r2,r3,m0,m1,m2,m3,t0,t1,t2,t3,ey,rfl,e,Q⟩:∃(r0 r1 r2 r3:Option Addr)(m0 m1 m2 m3 t0 t1 t2 t3:R)(ey:ae),ex=aN (de #[ef #[am r0 m0 t0,am r1 m1 t1,am r2 m2 t2,am r3 m3 t3],ey])/\g.heap[d]?=M (aK #[am p0 n0 q0,am p1 n1 q1,am p2 n2 q2,am p3 n3 q3] 108 (0,0))/\((ey=ic/\MQ a b o r d f (l++v++C++F) cc (cP (cP (cP (cP g (X d 0)<|am r0 m0 t0) (X d 1)<|am r1 m1 t1) (X d 2)<|am r2 m2 t2) (X d 3)<|am r3 m3 t3)/\xO (cP (cP (cP (cP g (X d 0)<|am r0 m0 t0) (X d 1)<|am r1 m1 t1) (X d 2)<|am r2 m2 t2) (X d 3)<|am r3 m3 t3) d _<xO wr d _/\∀db,db<_->xO (cP (cP (cP (cP g (X d 0)<|am r0 m0 t0) (X d 1)<|am r1 m1 t1) (X d 2)<|am r2 m2 t2) (X d 3)<|am r3 m3 t3) d db=xO wr d db)\/∃q,ey=eW q/\P8 a (cP (cP (cP (cP g (X d 0)<|am r0 m0 t0) (X d 1)<|am r1 m1 t1) (X d 2)<|am r2 m2 t2) (X d 3)<|am r3 m3 t3) b o r gj cc f (l++v++C++F) (aN<|eW q)):=by obtain⟨r0,r1,r2,r3,m0,m1,m2,m3,t0,t1,t2,t3,rfl,e,bg,t,bh⟩|⟨⟨hX,q,rfl,hq,ff,es⟩,e⟩:=Q;exact⟨r0,r1,r2,r3,m0,m1,m2,m3,t0,t1,t2,t3,_,z,e,J ⟨z,bg,t,bh⟩⟩;refine⟨dE,dE,dE,dE,0,0,0,0,0,0,0,0,eW q,z,e,bu ⟨q,z,?_⟩⟩;have u:I (λq=>q=d) g (cP (cP (cP (cP g (X d 0) aF) (X d 1) aF) (X d 2) aF) (X d 3) aF):=(((iQ d g).aL _ _ _<|J z).aL _ _ _<|J z).aL _ _ _<|J z;have fn:¬f.j o.f d:=λev=>bP<|co d ev;have fe:=(nX o.f f).l ff u (λk j=>by rw[j];exact fn);let⟨_,K3,dn,fg,fk,gi⟩:=fe;have hb:b<G (H a):=cB;have eb:=(bb.A b (az cd.1) id).trans cd.1;have ea:=(es.A b (az eb) ca).trans eb;have fi:=(u.A b (az ea)<|λev=>U).trans ea;have gd:I (f.j o.f) a g:=(cd.2.t bb).aj es<|λ_ ev=>J ev;refine bu ⟨_,K3,z,⟨⟨dn,(gd.aT (T:=λk=>f.j o.f k\/k=b)<|λ_ ev=>J<|J ev).aj u<|λk j=>bu U,λk j=>J<|fk k j,gi⟩,⟨o,fi,z,z⟩,⟨q,z,hq.aA u (λk j _=>by rw[j];exact⟨_,108,_,e,cg⟩)⟩,Xq.YG fg⟩⟩);have g0:=aX e 0;have f0:=cV (i:=0) e;have g1:=aX e 1;have f1:=cV (i:=1) e;have g2:=aX e 2;have f2:=cV (i:=2) e;have g3:=aX e 3;have f3:=cV (i:=3) e;have al:=ak Q;clear Q;refine ao _ _ (λ_=>e) ?_;(try simp only[ii,eh]);refine gO 5 ?_;intro K5 ap;go_simp;refine ap _ _ (λ_=>e) ?_;(try simp only[ii,eh]);clear an ao ap;apply PT KK;(.intro cT;refine FU (i:=6) (j:=7) z z z z aH ?_ ?_;(.intro K6 V;go_simp;refine V _ _ (λC=>U) ?_;(try simp only[ii,eh]);refine FU (i:=7) (j:=8) z z z z aH ?_ ?_;(.intro K7 w;go_simp;refine w _ _ (λC=>U) ?_;(try simp only[ii,eh]);refine gO 8 ?_;intro K8 x;go_simp;refine x _ _ (λC=>U) ?_;(try simp only[ii,eh]);refine gO 9 ?_;intro K9 av;go_simp;refine av _ _ (λC=>U) ?_;(try simp only[ii,eh]);refine kS z ?_ _;exact cT);intro K8 x;go_simp;refine x _ _ (λC=>U) ?_;(try simp only[ii,eh]);refine gO 7 ?_;intro K7 w;go_simp;refine w _ _ (λC=>U) ?_;(try simp only[ii,eh]);refine gO 9 ?_;intro K9 av;go_simp;refine av _ _ (λC=>U) ?_;(try simp only[ii,eh]);refine kS z ?_ _;exact cT);intro K7 w;go_simp;refine w _ _ (λC=>U) ?_;(try simp only[ii,eh]);refine gO 6 ?_;intro K6 V;go_simp;refine V _ _ (λC=>U) ?_;(try simp only[ii,eh]);refine gO 8 ?_;intro K8 x;go_simp;refine x _ _ (λC=>U) ?_;(try simp only[ii,eh]);refine gO 9 ?_;intro K9 av;go_simp;refine av _ _ (λC=>U) ?_;(try simp only[ii,eh]);refine kS z ?_ _;exact cT);apply ax;clear ax hS dx cx bb eq e aV;obtain⟨rfl,bg,t,bh⟩|⟨q,rfl,bt⟩:=ag al;(.let⟨eB,ch,gE⟩:=eU bg t bh;clear bg t bh al;go_wp2;go_roundw;exact eB;rw[ag dd,ag dd];exact ch);have dc:=ak bt;clear bt al;go_wp2;go_ret;exact dc))));obtain⟨rfl,rfl⟩:ac=4/\eA=4:=U;clear hI;let⟨v0,v1,v2,v3,a1,b1,c1,d1,gk,hV⟩:=cl;obtain⟨p0,q0,rfl⟩:=cG hV.ls.r0;obtain⟨p1,q1,rfl⟩:=cG hV.ls.r1;obtain⟨p2,q2,rfl⟩:=cG hV.ls.r2;obtain⟨p3,q3,rfl⟩:=cG hV.ls.r3;have g0:=aX hV.lb 0;have g1:=aX hV.lb 1;have g2:=aX hV.lb 2;have g3:=aX hV.lb 3;have ad:=ak<|ec d wr _ _ _ _ a1 b1 c1 d1 gk hV;clear hV;go_wp21;go_call ad as ex g(⟨rfl,K',dz,a',b',c',d',hO⟩|⟨gx,K',rfl,hE⟩);(.have HP:=ak<|show P8 a g b o r gj cc f (l++v++C++F) (aN ic)from J ⟨z,_,_,_,_,K',dz,a',b',c',d',hO⟩;clear hO ad;go_wp2;go_ret;exact HP);have HP:=ak<|show P8 a g b o r gj cc f (l++v++C++F) (aN gx)from bu ⟨gx,K',z,hE⟩;clear hE ad;go_wp2;go_ret;exact HP))
def sE.Ap{s:SR}{j k:dI}(h:sE N a b s x i C F j k c)(d:Fs):sE d a b s x i (C.map<|jb eX.choose d) (F.map<|jb eX.choose d) (j.map<|jb eX.choose d) (k.map<|jb eX.choose d) c where
 D:=h.D
 L:=h.L
 l0:=h.l0.Ap d
 l1:=h.l1.Ap d
 l2:=h.l2.Ap d
 l3:=h.l3.Ap d
 f:=h.f
 l:=h.l
 t:=h.t
 zb:=by rw[tO,tO,tO,tO];exact h.zb
 v:=h.v
 o:=h.o
 S:=h.S
 s1:=pX (λg e=>(h.l1.bZ g e).jW) h.s1.fq
 s2:=pX (λg e=>(h.l2.bZ g e).jW) h.s2.fq
 s3:=pX (λg e=>(h.l3.bZ g e).jW) h.s3.fq
def sE.Yl{s s':SR}{d:dB}{w A:dI}{u C':R}(h:sE N a b s x i C F w A u)(E:s'.f=s.f/\s'.l0=s.l0/\s'.l1=s.l1/\s'.l2=s.l2/\s'.l3=s.l3)(p:lG a s'.L d)(e:∀B,cN s'.L=M B->Aside a x s.f b B)(q:gG d)(n:∀O∈d,O.Good)(K:y d+u<=C'+y i)(r:C'<=3000000000):sE N a b s' x d C F w A C':=by
 let⟨c,g,j,k,m⟩:=E;refine{D:=p,L:=c▸e,l0:=c▸g▸h.l0,l1:=c▸j▸h.l1,l2:=c▸k▸h.l2,l3:=c▸m▸h.l3,f:=c▸h.f,l:=c▸h.l,t:=c▸h.t,zb:=bP h.zb,v:=r,o:=q,S:=n,s1:=h.s1,s2:=h.s2,s3:=h.s3}
def sE.vI{s s':SR}(h:sE N a b s f i l v C F c)(e:s'.f=s.f/\s'.l0=s.l0/\s'.l1=s.l1/\s'.l2=s.l2/\s'.l3=s.l3)(d:s'.L=s.L):sE N a b s' f i l v C F c:=h.Yl e (d▸h.D) (d▸h.L) h.o h.S U h.v
def QB(a:Fs)(b:cy af)(c:Option R)(T:dI):Prop:=∀n d,fp a n=M d->n∈b\/n=fm\/(∃l,c=M l/\n=gX l)\/∃t∈T,n=jg t.cK
def SR.Xg(s:SR):Option R:=if s.i then M s.l else dE
def Xa(a:Fs)(e f g h:dI):Prop:=((∃d c b:R,(d<18446744073709551616/\c<18446744073709551616/\b<18446744073709551616)/\fp a fm=M (mj d c b [e,f,g,h]))\/(fp a fm=dE/\e++f++g++h=[]))/\∀t∈e++f++g++h,∃i,fp a (jg t.cK)=M i/\(i.drop<|jN t.ks).take (y<|iE t.ks)=iE t.ks
def Xk(a:Fs):Prop:=∀n b,fp a n=M b->Nm n
def QB.dL{K:DK}{a:cy af}{e:Option R}{T:dI}{w:Z}{db:R}(h:QB (vw K.ah) a e T)(j:cJ w db K):y K.ah<=y a+y T+2:=by
 have g:=JE (m:=a++(T.map (λt=>jg t.cK)++[fm,gX<|e.getD 0])) j.kh (λx k=>by
  let⟨b,i⟩:=rB k;obtain q|q|⟨l,c,d⟩|⟨t,c,d⟩:=h x b i
  .simp[q]
  .simp[q]
  .simp[c,d]
  .exact oQ _ (gY _ (cC.2 ⟨t,c,d.symm⟩)))
 simp only[cS,ai,bK,eE,vw]at g;omega
def Sd(h:mu [.cr B,.ap B m,.sy B] f x):vw x.ah=vw f.ah++[(B,m)]/\fp (vw f.ah) B=dE:=by
 have a:fp (vw f.ah) B=dE:=by let⟨c,⟨_,_,_,_,_,b⟩,_⟩:=h;rw[nI,b];rfl
 exact⟨(H9 h a).1,a⟩
def Sf:∀{K a:DK},mu (ly l) K a->(∀n b,fp (vw K.ah) n=M b->fp (vw a.ah) n=M b)/\(∀u∈l,fp (vw a.ah) (jg u.cK)=M (Ab u.cs))/\(∀n b,fp (vw a.ah) n=M b->fp (vw K.ah) n=M b\/∃u∈l,n=jg u.cK)/\y a.l<=y K.l+y l:=by
 induction l with
 |nil=>
  intro K a h;let⟨c,_,d⟩:=h;exact⟨c▸λ_ _=>id,ar,c▸λ_ _=>J,by rw[d];simp⟩
 |cons u w o=>
  intro K a h;rw[(by simp[ly]:ly (u::w)=tM u.cK u.cs++ly w)]at h;let⟨g,c,m⟩:=nR h;let⟨f,v⟩:=Sd c;have B:=Ov c;let⟨i,j,k,A⟩:=o m;have p:fp (vw g.ah) (jg u.cK)=M (Ab u.cs):=by rw[f,og,v];simp[fp]
  refine⟨λn b d=>i n b<|(λn b d=>by rw[f,og,d];rfl:∀n b,fp (vw K.ah) n=M b->fp (vw g.ah) n=M b) n b d,λt e=>?_,λn b d=>?_,by rw[bK];omega⟩
  .obtain rfl|e:=dy.1 e
   .exact i _ _ p
   .exact j t e
  .obtain q|⟨t,r,s⟩:=k n b d
   .rw[f,og]at q;cases hq:fp (vw K.ah) n with
    |some x=>rw[hq]at q;exact J q
    |none=>
     rw[hq,Option.none_or]at q;have:=Ac q;simp only[bY,jt]at this;exact bu ⟨u,ar,this.1⟩
   .exact bu ⟨t,by simp[r],s⟩
def QV(h:mu (vt m) f x):vw x.ah=pt (vw f.ah) (fm,m)/\x.l=[]:=by
 obtain⟨q,o,r,⟨e,_,g⟩,i,_,j⟩:=nR (l:=[.cr kF,.ap kF m,.sy kF]++[.rn kF fm]) h;let⟨d,p,s,⟨F,t,k,c1,_,_⟩,n,_,_⟩:=nR (l:=[.cr kF,.ap kF m,.sy kF]) o;let⟨c,b⟩:=Sd p;refine⟨?_,j.trans g⟩;have a:fp (vw d.ah) kF=M m:=by rw[c,og,b];simp[fp]
 rw[i,e,n,c1,ql,vq,c,Wq m b];have:F.bB=m:=by rw[nI,k]at a;simpa using a
 simp[this]
theorem SI{f:af×eD}(h:B∈(pt N f).map (·.1)):B=f.1\/B∈N.map (·.1):=by
 induction N with
 |nil=>left;simpa[pt]using h
 |cons g r a=>
  by_cases e:g.1=f.1
  .simp only[pt,fW e,bO,dy]at h|-;grind
  .simp only[pt,fN e,bO,dy]at h|-;grind
def Hr{f:af×eD}(h:(N.map (·.1)).Nodup):((pt N f).map (·.1)).Nodup:=by
 induction N with
 |nil=>simp[pt]
 |cons g r a=>
  rw[bO,kR]at h;by_cases e:g.1=f.1
  .simp only[pt,fW e,bO,kR];rwa[<-e]
  .simp only[pt,fN e,bO,kR];grind[SI]
def Oz:∀{K a:DK},mu (ly l) K a->((vw K.ah).map (·.1)).Nodup->((vw a.ah).map (·.1)).Nodup:=by
 induction l with
 |nil=>
  intro K a h c;rwa[h.1]
 |cons u r j=>
  intro K a h c;have e:ly (u::r)=tM u.cK u.cs++ly r:=by simp[ly]
  rw[e]at h;let⟨n,f,g⟩:=nR h;let⟨k,m⟩:=Sd f;apply j g;rw[k,bz,rO];refine⟨c,ar,λx i o d e=>?_⟩;simp only[bO,gB,bY]at d;let⟨p,b⟩:=rB i;rw[e,d,m]at b;cases b
def Zz(h:o.i=cz):gX o.l∈oe o l v:=by
 unfold oe;rw[h,fW rfl];simp
def Zw{s:SR}{a T:dI}{t:cH}(h:t∈a):jg t.cK∈oe s a T\/∃u∈T,u.cK=t.cK:=by
 by_cases q:T.any (λu=>u.cK==t.cK)=cz;let⟨u,b,e⟩:=nM.1 q;exact bu ⟨u,b,dV e⟩;refine J<|oQ _<|cC.2 ⟨t,lR.2 ⟨h,sO⟩,z⟩
def Zy{t:cH}(h:t∈v):jg t.cK∉oe o l v:=by
 intro q;unfold oe at q;obtain g|g:=aP.1 q;split at g;exact FZ _ _<|bY.1 g;simp at g;let⟨u,b,e⟩:=cC.1 g;have a:=(lR.1 b).2;have:v.any (λa=>a.cK==u.cK)=cz:=nM.2 ⟨t,h,by simp[(No e)]⟩;rw[this]at a;simp at a
def SF:fm∉oe o l v:=by
 intro q;unfold oe at q;obtain g|g:=aP.1 q;split at g;exact sa _ (bY.1 g).symm;simp at g;let⟨u,a,e⟩:=cC.1 g;exact ux _ e
structure SoP(s:SR)(K K':DK)(T0 T a b c d:dI)(dz n:R):Prop where
 lN:∃(KR:DK)(nw:dI),mu (ly nw) K KR/\mu (vt (Ra dz n [a,b,c,d])++(oe s T0 T).map .rm) KR K'/\y nw<=3000000000/\(∀u∈nw,NwT u)/\(∀t∈T,(∃u∈T0,u.cK=t.cK/\u.ks=t.ks)\/∃u∈nw,u.cK=t.cK/\u.ks=t.ks)/\∀u∈nw,∃t∈T,u.cK=t.cK
def NA{n aa:dI}{dz ab:R}{u:cy af}(h:SoP o f x l v C F n aa dz ab)(hd:cJ a b x)(e:((vw f.ah).map (·.1)).Nodup)(P:QB (vw f.ah) u o.Xg l):QB (vw x.ah) u dE v:=by
 let⟨KR,nw,A,B,_,_,_,s⟩:=h.lN;let⟨N,O,r,_⟩:=Sf A;let⟨L,D,E⟩:=nR B;let⟨k,_⟩:=QV D;let⟨K,_⟩:=GM E;have g:((vw L.ah).map (·.1)).Nodup:=by rw[k];apply Hr;clear B D E k K N O r s;exact Oz A e
 intro S m t;rw[K]at t;let⟨w,i⟩:=BY g t;rw[k,uM]at i;by_cases q:fm=S;exact bu<|J q.symm;rw[fN q]at i;obtain j|⟨V,T,j⟩:=r S m i;obtain p|p|⟨ac,c,d⟩|⟨W,c,d⟩:=P S m j;exact J p;exact absurd p.symm q;exfalso;unfold SR.Xg at c;split at c;rename_i Q;cases c;exact w<|d▸Zz Q;cases c;obtain n|⟨V,Q,n⟩:=Zw (s:=o) (T:=v) c;exact absurd (d▸n) w;exact bu<|bu<|bu ⟨V,Q,by rw[d,n]⟩;let⟨W,c,p⟩:=s V T;exact bu<|bu<|bu ⟨W,c,by rw[j,p]⟩
def Ny{j k:dI}{dz K:R}(h:SoP o f x l v C F j k dz K)(A:v=C++F++j++k)(E:K<18446744073709551616)(D:dz<18446744073709551616)(B:∀t∈l,∃i,fp (vw f.ah) (jg t.cK)=M i/\(i.drop<|jN t.ks).take (y<|iE t.ks)=iE t.ks):Xa (vw x.ah) C F j k:=by
 let⟨S,W,L,N,_,s,w,V⟩:=h.lN;let⟨p,r,T,_⟩:=Sf L;let⟨Q,O,P⟩:=nR N;let⟨e,_⟩:=QV O;let⟨g,_⟩:=GM P;refine⟨J ⟨(dz+1) %18446744073709551616,dz,K,⟨ol _ cg,D,E⟩,?_⟩,λt d=>?_⟩;rw[g,vJ SF,e,uM,fW rfl];rfl;rw[<-A]at d;rw[g,vJ<|Zy d,e,uM,fN<|λq=>ux _ q.symm];obtain⟨u,a,b,c⟩|⟨u,a,b,c⟩:=w t d;let⟨i,m,n⟩:=B u a;exact⟨i,b▸p _ _ m,c▸n⟩;refine⟨Ab u.cs,b▸r u a,?_⟩;rw[<-c,(s u a).ks,yj];unfold Ab;rw[pz,cQ]
def Nz{E K:dI}{dz Q:R}(h:SoP o f x l v C F E K dz Q)(a:((vw f.ah).map (·.1)).Nodup)(m:Xk (vw f.ah)):Xk (vw x.ah)/\y x.l<=y (oe o l v):=by
 let⟨D,S,g,p,_,k,O,P⟩:=h.lN;let⟨L,N,j,_⟩:=Sf g;let⟨B,r,s⟩:=nR p;let⟨i,w⟩:=QV r;let⟨u,A⟩:=GM s;refine⟨λn d e=>?_,by rw[A,w];simp⟩;rw[u]at e;let⟨_,b⟩:=BY (i▸Hr (Oz g a)) e;rw[i,uM]at b;by_cases q:fm=n;rw[<-q];exact tQ;rw[fN q]at b;obtain c|⟨T,t,c⟩:=j n d b;exact m n d c;rw[c];exact zN (k T t).cK
structure Inv(j5:Prop)(j4:cy af)(w:Z)(sb:R)(s:SR)(K:DK)(m:dB)(a b c d:dI)(C N:R)(sn:gJ):Prop where
 st:ST w sb s K m a b c d C
 k:sq 5 m
 x:y m<=s.o
 L:s.o<=31
 f:MO w K sb s sn
 i:((a++b++c++d).map cH.tb).Nodup
 nx:s.t<18446744073709551616
 lg:s.l<18446744073709551616
 bt:s.S<18446744073709551616
 o:1<=s.D/\s.D<=32/\2<=s.ub/\s.ub<=6
 l:y K.l+y K.ah<=20000000000+2*N
 S:s.v<=N/\∀p∈sn,p.1<=s.v
 A:Xk (vw K.ah)
 n:QB (vw K.ah) j4 s.Xg (a++b++c++d)
 pH:j5->Xa (vw K.ah) a b c d
 v:N<=1000000000
 B:y j4<=12500000000
def rS(a:cy dj):y (vw a)=y a:=by simp[vw]
def IT{b c:eD}(h:fp N B=M b):y (pt N (B,c))=y N:=by
 induction N with
 |nil=>cases h
 |cons g r a=>
  by_cases e:g.1=B
  .simp[pt,e]
  .have:fp r B=M b:=by simpa[fp,e]using h
   simp[pt,e,a this]
def xF{a:cy dj}{F j5:dj}(h:ij a B=M F)(b:j5.dA=B):y (po a j5)=y a:=by
 have:=IT (c:=j5.bB) (by rw[nI,h];rfl:fp (vw a) B=M F.bB);rwa[<-b,<-ql,rS,rS]at this
def Me{fs:Fs}{n:af}{b:eD}(h:fp fs n=M b):y (sk fs n)+1=y fs:=by
 induction fs with
 |nil=>cases h
 |cons g r a=>
  by_cases e:g.1=n
  .simp[sk,e]
  .have:fp r n=M b:=by simpa[fp,e]using h
   simp[sk,e,a this]
def RZ{a:cy af}(h:mu (a.map .rm) f x):y x.l+y x.ah=y f.l+y f.ah:=by
 induction a generalizing f with
 |nil=>rw[h.1,h.2.2]
 |cons n r j=>
  let⟨c,⟨F,l,d,e,k,g⟩,i⟩:=h;rw[j i,g,<-rS c.ah,e,vq];have:=Me (fs:=vw f.ah) (n:=n) (b:=F.bB) (by rw[nI,d];rfl);rw[rS]at this;simp;omega
def kT(b:gJ)(m a:dB):dB:=gw (Gi b)<|jL m a
def Dx(b:gJ)(m a:dB):(kT b m a).Sublist (jL m a):=oF _ _
theorem AC(b:gJ)(m a:dB):y (kT b m a)<=y m+y a:=aR (Dx b m a).length_le<|zx m a
def AB{b:gJ}{a:dB}(h:S∈kT b i a):S∈i\/S∈a:=OJ<|(Dx b i a).subset h
theorem AA(h:gG i)(b:gJ)(a:dB):gG (kT b i a):=(h.jL a).kE<|Dx b i a
def Az{b:gJ}(h:gG i)(c:y b<=4)(a:dB):sq 5 (kT b i a):=(AD<|(h.jL a).imp<|λq=>nh q).aT (by rw[qN];omega)
def Xa.Ap(a:Fs)(h:Xa N l v C F):Xa N (l.map<|jb eX.choose a) (v.map<|jb eX.choose a) (C.map<|jb eX.choose a) (F.map<|jb eX.choose a):=by
 have g:∀b:dI,uD (b.map<|jb eX.choose a)=uD b:=λb=>by unfold uD;rw[cS,xw];rfl
 have b:l.map (jb eX.choose a)++v.map (jb eX.choose a)++C.map (jb eX.choose a)++F.map (jb eX.choose a)=(l++v++C++F).map (jb eX.choose a):=ar;refine⟨h.1.imp (λ⟨k,j,d,q,m⟩=>⟨k,j,d,q,by rw[m];simp[mj,g]⟩)<|λ⟨e,f⟩=>⟨e,by rw[b,f];rfl⟩,λt c=>?_⟩;rw[b]at c;obtain⟨u,i,rfl⟩:=cC.1 c;exact h.2 u i
def QB.Ap{b:cy af}{c:Option R}(a:Fs)(h:QB N b c (l++v++C++F)):QB N b c (l.map (jb eX.choose a)++v.map (jb eX.choose a)++C.map (jb eX.choose a)++F.map (jb eX.choose a)):=by
 intro n d e;rw[(ar:l.map (jb eX.choose a)++v.map (jb eX.choose a)++C.map (jb eX.choose a)++F.map (jb eX.choose a)=(l++v++C++F).map (jb eX.choose a))];exact(h n d e).imp id<|.imp id<|.imp id<|λ⟨t,f,g⟩=>⟨jb eX.choose a t,cC.2 ⟨t,f,z⟩,g⟩
def MP.A{Q:cy af}{s:SR}{ad ac:R}{t:DK}{W b aa ab:dI}{v2 v3:ae}{u:DK}{dz:R}{j m:dI}{V:gJ}(h:MP a e c s r T ad t (W++b++aa++ab) d w v2 v3 u dz C F j m)(q:1<=s.D/\s.D<=32/\2<=s.ub/\s.ub<=6)(p:cJ a s.f t)(hn:T<18446744073709551616)(hg:s.v<=ac/\∀al∈V,al.1<=s.v)(hN:ac<=1000000000)(hX:y Q<=12500000000)(O:MO a t c s V)(N:Xk (vw t.ah))(E:QB (vw t.ah) Q s.Xg (W++b++aa++ab))(P:K->Xa (vw t.ah) W b aa ab):Inv K Q e c (s.pW d w v2 v3 T dz) u [] C F j m ad ac V:=by
 have D:SoP s t u (W++b++aa++ab) (C++F++j++m) C F j m dz T:=⟨h.lN⟩;let⟨p1,p2⟩:=Nz D p.kh N;have:=Pr s (W++b++aa++ab) (C++F++j++m) h.qP;have g:=NA D h.eQ.ok p.kh E;have:=g.dL h.eQ.ok;have:=jf<|λt g=>(h.st.l0.bZ t g).p;have:=jf h.st.s1.p;have:=jf h.st.s2.p;have:=jf h.st.s3.p;have:=h.st.FX;have:=h.st.v;have:y (C++F++j++m)<=3000000000:=by simp only[ai];omega
 exact{st:=h.st,k:=sq.km _,x:=aq _,L:=by show(0:R)<=31;omega,f:=(O.eQ h.eQ).vI ⟨z,z⟩,i:=h.i,nx:=ol _ cg,lg:=h.nl,bt:=hn,o:=q,l:=U,S:=hg,A:=p1,n:=g,pH:=λj=>Ny D z hn h.nl (P j).2,v:=hN,B:=hX}
def SR.p(s:SR)(c:ae)(a:R)(b:eN):SR:={s with L:=c,o:=s.o+a,S:=(s.S+1) %18446744073709551616,i:=cz,k:=cz,x:=b}
def L4(h:∀x∈i,x.Good)(c:y i<=8):kj (zj r i):=by
 have a:kj (oJ r i):=by unfold oJ;apply(kj.le 8 _).jO;intro x b;obtain q|q:=dy.1 b;rw[q];constructor<;>omega;exact Zr h x q
 unfold zj ik;exact((((kj.le 4 _).jO<|kj.le 4 _).jO<|kj.le 4 _)).jO a
def Ak(s:SR):cy qG:=if s.i then []else [.cr<|gX s.l]
def qC(s:SR)(a:eD):cy qG:=Ak s++[.ap (gX s.l) a]
def Jc(f:Fg):Prop:=qu f\/0<f.bd
def Xn.Y8{f:Fg}(h:Xn f r):Jc f:=h.elim (λg=>bu g.2)<|λg=>J g.2
def Yn(s:SR)(a:dB):eD:=zj (((s.S+1) %18446744073709551616:R):Y) a
def zat(i:Prop)(h:cy af)(w e:Z)(c:R)(s:SR)(k:Y)(K:DK)(p:dB)(l m n o:dI)(C N:R)(g:gJ)(b:dB)(j:Ending):Prop:=(j=aN ic/\∃f d a,cU e c (s.p f (y b) d) k/\Inv i h e c (s.p f (y b) d) a (kT g p b) (l.map<|jb eX.choose<|vw a.ah) (m.map<|jb eX.choose<|vw a.ah) (n.map<|jb eX.choose<|vw a.ah) (o.map<|jb eX.choose<|vw a.ah) (C+y b) (N+1) g/\gl w e s.f c K a/\mu (qC s<|Yn s b) K a/\((s.i=bD->d=cz)/\(s.i=cz->d=s.x)))\/∃v a,j=aN v/\MK w e c s k K a C v/\Jc K.fx
def RR{bs:eD}{l:cy qG}{B:R}(c:o.l<18446744073709551616)(h:l<+:qC o bs):MS l B:=by
 refine MS.ph ?_ h;unfold qC Ak;refine⟨by split<;>simp,λn a=>?_,?_,λx d b=>?_,by split<;>simp[Mq],by split<;>simp[Dr,Z5,R8,sa,yB]⟩;split at a<;>simp at a;rw[a];exact wL c;split<;>simp[Do,sa,yB];split at b<;>simp at b
def X5(h:mu (qC o m) f x):(∀n,n≠gX o.l->fp (vw x.ah) n=fp (vw f.ah) n)/\y x.l+y x.ah<=y f.l+y f.ah+2:=by
 unfold qC at h;let⟨d,a,v,⟨F,O,g,i,B,j⟩,k,C,l⟩:=nR h;have s:=(eM g).1;have e:∀n,n≠gX o.l->fp (vw x.ah) n=fp (vw d.ah) n:=λn b=>by rw[k,i,ql,uM,fN];show¬F.dA=n;rw[s];exactλq=>b q.symm
 have c:y x.ah=y d.ah:=k▸i▸xF (j5:={F with A:=O,bB:=F.bB++m}) g s;unfold Ak at a;split at a;exact⟨λn b=>by rw[e n b,a.1],by rw[l,j,a.2.2,c,a.1];omega⟩
 .let⟨w,⟨D,N,p,E,t,K⟩,r,L,u⟩:=a;refine⟨λn b=>?_,by rw[l,j,u,t,c,r,p];simp;omega⟩;rw[e n b,r,p,show vw (f.ah++[(⟨gX o.l,D,aF,[],0⟩:dj)])=vw f.ah++[(gX o.l,[])]by simp[vw],og];cases fp (vw f.ah) n with
  |some P=>rfl
  |none=>simp[fp,FA b]
def Oe{j4:cy af}{s:SR}{Q:DK}{bL:dB}{fv fx:dI}{fu:R}(sn:gJ){e:dB}(h:cU a b s r)(p:Inv K j4 a b s Q bL C F fv fx c fu sn)(he:lG a d e)(fe:∀r,cN d=M r->Aside a Q s.f b r)(cm:0<y e)(h8:y e<=8)(hg:∀ej∈e,ej.Good)(hb:∀ej∈e,ej.f=(((s.S+1) %18446744073709551616:R):Y))(gn:s.o+y e<32)(hC:c+y e<=3000000000)(hN:fu+1<=1000000000)(co:qu Q.fx\/fw Q.ah<=999999000/\(s.i=cz->ij Q.ah (gX s.l)≠dE)/\(s.i=bD->ij Q.ah (gX s.l)=dE)):cR bN 107 #[aJ b,d] a λbv w'=>zat K j4 a w' b s r Q bL C F fv fx c fu sn e bv:=by
 have dT:=p.st;have aD:=az h;have j:s.l<18446744073709551616:=p.lg;let⟨eb,eo,el,ff,cl,bl⟩:∃cu w bn,d=bX cu w (y e) bn/\y e<=bn/\∀cs ei,(bj e)[cs]?=M ei->bA a (X cu<|w+cs)=M ei:=by obtain⟨_,⟨q1,q2⟩|⟨cu,w,bn,q1,q4,q3⟩⟩:=he;omega;grind
 subst ff;have ac:=fe eb z;let⟨mx,mc,fg⟩:=cG dT.D;have gg:=cU.bW h 17 z;let⟨V,HH,HE,HG,HB,cM,ca⟩:=zY p h bl hg hb (AN s.l j dT.t.x) fg;let⟨lg,t⟩:∃lg,s.i=lg:=⟨_,rfl⟩;have ge:∀(ej:eN)(a:Z),(Op.unary .not<|aO ej).run bN a=.ok (aO<|!ej) a:=λ_ _=>rfl;go_in
 go_wp21;go_call cM as bv w1⟨rfl,eB⟩;have cp:I aC a w1:=I.p eB;have bk:gl a w1 s.f b Q Q:=⟨V.st.f.aA cp<|λ_ _=>id,cp.aT cY,λ_ q=>J q,Fx.bI _⟩;have g:cU w1 b s r:=(cp.A b aD id).trans HH;have fn:bA w1 (X b 18)=M (aO lg):=t▸g.u z;have k2:=cU.bW g 2 z;have fr:=cU.bW g 21 z;have ex:iI w1 (X b 18)=bD:=g.bS;have ey:iI w1 (X b 21)=bD:=g.bS;cases lg;(case' true=>go_wp21;let⟨W,O⟩:∃W,w1=W:=⟨_,rfl⟩;let⟨N,av⟩:∃N,s.x=N:=⟨_,rfl⟩;have HX:=ak (show∃u,gl a W s.f b Q u/\(ij u.ah (gX s.l)=dE->qu Q.fx)/\fw u.ah=fw Q.ah/\(mu (Ak s) Q u/\((s.i=bD->N=cz)/\(s.i=cz->N=s.x)))/\cU W b {s with i:=cz,x:=N} r from by refine⟨Q,O▸bk,λq=>co.elim id<|λcu=>absurd q<|cu.2.1 t,z,⟨by unfold Ak;rw[t];exact⟨z,z,z⟩,⟨λq=>(by rw[t]at q;cases q),λ_=>av.symm⟩⟩,?_⟩;rw[<-O,<-av];have:=g;rw[<-(by rw[<-t]:s={s with i:=cz,x:=s.x})];exact this);rw[O])
 case' false=>
  have fd:=Eh (gX s.l) bk.ok (λq=>co.elim id<|λcu=>absurd (cu.2.2 t) q) (gW V.l V.v)<|wL j;go_wp21;go_call fd as bv w2⟨v2,u,rfl,bn⟩;obtain⟨rfl,o2⟩|⟨l2,q2,c2,r1,r2,rfl,r3,r4⟩:=bn.d;rotate_left
  .have bo:¬Q.j s.f b:=V.st.l;have hE:MK a w2 b s r Q u c (eW q2):=⟨bk.aj<|gl.of bn.D,⟨s,(bn.D.aA.A b (az g) bo).trans g,z,z⟩,⟨q2,z,c2,r3,r4.pK⟩,l2,r2,RR (bs:=[]) j (by unfold qC Ak;rw[t];exact r1.trans<|qK _ _)⟩;go_wp2;go_ret;exact ak<|show zat K j4 a w2 b s r Q bL C F fv fx c fu sn e (aN<|eW q2)from bu ⟨_,u,z,hE,r4.Y8⟩
  have cj:=bn.D;let⟨gf,⟨g2,y2,f1,f2,f3⟩,f4,f5,f6⟩:=o2;have fi:=f5.trans f2;have bo:¬Q.j s.f b:=V.st.l;have w:cU w2 b s r:=(cj.aA.A b (az g) bo).trans g;have fn:bA w2 (X b 18)=M (aO bD):=by rw[<-t];exact w.u z
  have k2:=cU.bW w 2 z;have fr:=cU.bW w 21 z;have ex:iI w2 (X b 18)=bD:=w.bS;have ey:iI w2 (X b 21)=bD:=w.bS;let⟨cB,eq,bT,es,br⟩:=oa w cj (f4.trans f1:u.ah=Q.ah++[⟨gX s.l,g2,aF,[],0⟩]) (f6.trans f3.1) (cj.D bo (az g):¬u.j s.f b);go_wp21;let⟨W,O⟩:∃W,cP (cP w2 (X b 18)<|aO cz) (X b 21) (aO cz)=W:=⟨_,rfl⟩;let⟨N,av⟩:∃N,cz=N:=⟨_,rfl⟩;have HX:=ak (show∃u,gl a W s.f b Q u/\(ij u.ah (gX s.l)=dE->qu Q.fx)/\fw u.ah=fw Q.ah/\(mu (Ak s) Q u/\((s.i=bD->N=cz)/\(s.i=cz->N=s.x)))/\cU W b {s with i:=cz,x:=N} r from by
   refine⟨u,?_,λq=>?_,by rw[ag bT];simp[fw],⟨by unfold Ak;rw[t];exact mu.pK ⟨_,_,bT,(ak fi),ag es,ag<|ak f3.2⟩,⟨λ_=>av.symm,λq=>by rw[t]at q;cases q⟩⟩,?_⟩
   .rw[<-O];exact((bk.aj<|gl.of eq).gu br _ _).gu br _ _
   .exfalso;have h1:fp (vw u.ah) (gX s.l)=dE:=by rw[nI,q];rfl
    rw[ag bT,show vw (Q.ah++[(⟨gX s.l,g2,aF,[],0⟩:dj)])=vw Q.ah++[(gX s.l,[])]by simp[vw],og]at h1;cases h2:fp (vw Q.ah) (gX s.l)with
    |some F=>rw[h2]at h1;cases h1
    |none=>rw[h2]at h1;simp[fp]at h1
   .rw[<-O,<-av];exact(aY (aY cB)).trans z)
  rw[O];clear O av
 (all_goals let⟨u,ao,eg,bh,bc,ce⟩:=ag HX;have aa:=ak bc;clear bc;have bg:=sE.eQ V.st aD ao;have aV:=ac.eQ ao;have ba:∀cs ei,(bj e)[cs]?=M ei->bA W (X eb<|eo+cs)=M ei:=λcs ei hj=>ac.u ao<|HE cs ei hj;have bd:=RK e eb eo el W.drew (λcs hj=>bg.t.o cs hj) aV.lt ba cm HG h8;rw[(HB _ (aB cm):(e[0]'cm).f=(((s.S+1) %18446744073709551616:R):Y))]at bd;have k2:=cU.bW ce 2 z;let⟨ad,ev,cd⟩:=eU ao eg bh;let⟨cv,ga,dc,cT,fL,fz⟩:=nU ce bg (ao.sb V.st.l aD:¬u.j s.f b) bd ba aV;clear ao eg bh ce bg bd ba aV;rename_i QQ KK dn;refine cX (λ(j4:Z)=>bA j4 (X b 2)=M (aJ s.f)) 8 aH ?_;apply dH 0;(iterate 6 (refine vg (v:=?_) (k2:bA W.drew (X b 2)=M (aJ s.f)) z aH wP z ?_ ?_;rotate_left;(focus(intro j4 hX;go_simp;try rfl));simp only[ii,eh,ke]));apply eS;refine aW 6 ?_;intro K6 eA;go_simp;go_call cT as bv w4⟨v4,rfl,bm,ec⟩;have E:I aC W w4:=(cf aC W).t ec;apply eA _ _<|λ_=>(E.u k2 id (so k2):bA w4 (X b 2)=M (aJ s.f));let⟨bs,an⟩:∃bs,zj (((s.S+1) %18446744073709551616:R):Y) e=bs:=⟨_,rfl⟩;rw[an]at bm;(have fb:y bs<=400:=by rw[<-an];exact zK HG h8);let⟨vb,vc,fk,ed,bE,_⟩:=vy bm (by rw[<-an];unfold zj;rw[ai,iB];omega:0<y bs);subst fk;have ds:=Kp (db:=s.f) (K:=u) (gX s.l) vb 0 vc bs (w0:=w4) (ad.ok.aA E<|λ_ _=>id) (λq=>ad.fx.D<|ag ev q) (by rw[ag cd];exact co.imp ad.fx.D<|λq=>bP q.1) U (by rw[<-an];exact L4 HG h8) (λcs ei hj=>by have:=rk bm cs ei hj;rwa[dS]at this) bE (λbv=>by have h1:=ad.ok.lt s.f<|J z;have h2:G (H W.drew)=G (H W):=rfl;omega)<|wL j;refine aW 7 ?_;intro K7 dd;go_simp;go_call ds as bv w5⟨v5,K5,rfl,cn⟩;have ap:=cn.D;have ch:cU w4 b {s with i:=cz,x:=N} r:=(E.A b (az cv) id).trans cv;have al:cU w5 b {s with i:=cz,x:=N} r:=(ap.aA.A b (az ch) dc).trans ch;apply dd _ _<|λ_=>al.u z;clear dd ds;(try simp only[ii,eh]);refine aW 8 ?_;intro K8 dk;go_simp;apply dk _ _<|λq=>(q z).elim;refine dG aH ?_ _;show KK _ _;apply dn;clear dn dk;have ab:gl a w5 s.f b Q K5:=ad.aj ⟨ap.ok,(E.aT (T:=λr=>u.j s.f r\/r=b) cY).aj ap.aA aI,λr q=>(ap.j r q).imp id<|λcu=>aR E.D cu,ap.fx⟩;obtain⟨rfl,o5⟩|⟨l5,q5,c5,r1,r2,rfl,r3,r4⟩:=cn.d;rotate_left;(.have hE:MK a w5 b s r Q K5 c (eW q5):=⟨ab,⟨_,al,z,z⟩,⟨q5,z,c5,r3,r4.pK⟩,_,mu.Fa aa.1 r2,RR (bs:=bs) j (by unfold qC;exact(iw _).2 r1)⟩;go_wp2;go_ret;exact ak<|show zat K j4 a w5 b s r Q bL C F fv fx c fu sn e (aN<|eW q5)from bu ⟨_,K5,z,hE,(ad.fx.A V.st.f.L r4).Y8⟩);have cb:=ak<|show mu (qC s<|Yn s e) Q K5/\((s.i=bD->N=cz)/\(s.i=cz->N=s.x))from⟨by unfold Yn;rw[an];exact mu.Fa aa.1 o5,aa.2⟩;clear cn o5;have bf:¬K5.j s.f b:=ab.sb V.st.l aD;have gv:=cU.bW al 20 z;have gi:iI w5 (X b 20)=bD:=al.bS;let⟨W6,dr⟩:∃W6,cP w5 (X b 20) (aO cz)=W6:=⟨_,rfl⟩;(have bi:cU W6 b {s with i:=cz,x:=N,k:=cz} r:=by rw[<-dr];exact(aY al).trans z);(have m:gl a W6 s.f b Q K5:=by rw[<-dr];exact ab.gu bf _ _);have D:=sE.eQ V.st aD m;have bx:=ac.eQ m;have bb:=D.D;rw[ag ca]at bb;let⟨mb,m1,m2,m3⟩:=(V.f.eQ m).ex;have bp:=Dw b {s with i:=cz,x:=N,k:=cz} r sn (bX eb eo (y e) el) e bi m1 m2 V.f.dL D.D (λr a=>(D.L r a).lt) ⟨ie e,bu ⟨eb,eo,el,rfl,cl,λcs ei hj=>ac.u m<|HE cs ei hj⟩⟩ (λr a=>by cases a;exact bx.lt) D.o (gW V.x V.L);have bp:cR bN 74 #[aJ b,bX eb eo (y e) el] W6 λbv w'=>∃a,bv=aN a/\fE w' (G<|H W6) 223 4 a (y<|kT sn bL e) (bj<|kT sn bL e)/\I aC W6 w':=bp;(have k7:bA W6 (X b 7)=M (am mx (y bL) mc):=by rw[<-ag ca];exact bi.u z);let⟨cx,er,gb,aU⟩:=js bi m D bf;clear ab ch al ap bm ec E bi m D bx bb bf an fb ed bE;go_wp21;go_call bp as bv w7⟨v7,rfl,ax,cr⟩;obtain⟨x7,c7,fl⟩:=aM ax;subst fl;have P:cU w7 b {s with i:=cz,x:=N,k:=cz} r:=(cr.A b (az cx) id).trans cx;(have k7:bA w7 (X b 7)=M (am mx (y bL) mc):=by rw[<-ag ca];exact P.u z);have k8:=cU.bW P 8 z;have k9:=cU.bW P 9 z;have f7:iI w7 (X b 7)=bD:=P.bS;have f8:iI w7 (X b 8)=bD:=P.bS;have f9:iI w7 (X b 9)=bD:=P.bS;have gj:s.S<18446744073709551616:=V.bt;(have gr:IntKind.i64.wrap ((s.o:Y)+(y e:Y))=(s.o:Y)+(y e:Y):=by rw[bR];omega);let⟨ek,dv⟩:∃ek,(s.S+1) %18446744073709551616=ek:=⟨_,rfl⟩;(have gs:IntKind.u64.wrap ((s.S:Y)+1)=(ek:Y):=by rw[dY];omega);have en:=ak dv;clear dv;let⟨em,et,cc⟩:=eU P ax cr;clear P ax cr bp;go_wp2;go_ret;have p:=ag V;have m:=ag er;have gd:=AC sn bL e;have n1:∀ej∈kT sn bL e,ej.Good:=λej a=>(AB a).elim (p.st.S ej)<|ag HG ej;(have ck:gl a (cP (cP (cP w7 (X b 7)<|am x7 (y<|kT sn bL e) c7) (X b 8)<|ay<|(s.o:Y)+(y e:Y)) (X b 9)<|bw ek) s.f b Q K5:=by have h1:gl a w7 s.f b Q K5:=m.aj ⟨m.ok.aA cc<|λ_ _=>id,cc.aT cY,λ_ q=>J q,Fx.bI _⟩;exact((h1.gu aU _ _).gu aU _ _).gu aU _ _);have ea:=sE.eQ p.st aD ck;let⟨bq,gx⟩:=X5 (ag cb).1;have ax:=ag et;have gc:=cc.D;have gt:G (H a)<=G (H W6):=m.aA.D;have dx:∀q,cN (am x7 (y<|kT sn bL e) c7)=M q->G (H W6)<=q/\q<G (H w7):=λq hq=>ax.lt q hq;have gk:=m.ok.lt;refine J ⟨z,am x7 (y<|kT sn bL e) c7,N,K5,?_,?_,ck,(ag cb).1,(ag cb).2⟩;unfold SR.p;rw[ag en];exact(aY<|aY<|aY em).trans z;refine{st:=?_,k:=Az p.st.o p.f.dL e,x:=?_,L:=?_,f:=(p.f.eQ ck).vI ⟨z,z⟩,i:=?_,nx:=p.nx,lg:=p.lg,bt:=ol _ cg,o:=p.o,l:=?_,S:=?_,A:=?_,n:=QB.Ap _ ?_,pH:=λcu=>Xa.Ap _ ?_,v:=hN,B:=p.B};(refine(sE.Yl (C':=c+y e) ea (s':=s.p (am x7 (y<|kT sn bL e) c7) (y e) N) ⟨z,z,z,z,z⟩ ?_ ?_ (AA p.st.o sn e) n1 U hC).Ap _;show Row _ 4 (am x7 (y<|kT sn bL e) c7) _ _;refine dQ ((((ax.kept (eG _ _ _ _) ?_).kept (eG _ _ _ _) ?_).kept (eG _ _ _ _) ?_))<;>exact aI;intro q hq;have h1:=dx q hq;refine⟨?_,λcu=>?_,U⟩;simp_all;grind);have:=p.x;show y (kT sn bL e)<=s.o+y e;omega;show s.o+y e<=31;omega;have bv:C.map (jb eX.choose<|vw K5.ah)++F.map (jb eX.choose<|vw K5.ah)++fv.map (jb eX.choose<|vw K5.ah)++fx.map (jb eX.choose<|vw K5.ah)=(C++F++fv++fx).map (jb eX.choose<|vw K5.ah):=ar;rw[bv,iW];exact p.i;have:=p.l;omega;refine⟨?_,p.S.2⟩;show s.v<=fu+1;have:=p.S.1;omega;intro fs bs hb;by_cases q:fs=gX s.l;rw[q];exact wL j;rw[bq fs q]at hb;exact p.A fs bs hb;intro fs bs hb;by_cases q:fs=gX s.l;exact bu<|bu<|J ⟨s.l,z,q⟩;rw[bq fs q]at hb;obtain bv|bv|⟨ha,e1,e2⟩|bv:=p.n fs bs hb;exact J bv;exact bu<|J bv;exfalso;unfold SR.Xg at e1;by_cases hl:s.i=cz;rw[fW hl]at e1;cases e1;exact q e2;rw[fN hl]at e1;cases e1;exact bu<|bu<|bu bv;let⟨e1,e2⟩:=p.pH cu;refine⟨?_,λgE ht=>?_⟩;rwa[bq _<|λq=>sa _ q.symm];rw[bq _<|FZ _ _];exact e2 gE ht)
def Inv.aT{j:Prop}{g:cy af}{w:Z}{K:DK}{q:dB}{m b n p:dI}{C a N N':R}{k:gJ}(h:Inv j g w c o K q m b n p C N k)(r:C<=a)(d:a<=3000000000)(s:N<=N')(e:N'<=1000000000):Inv j g w c o K q m b n p a N' k:={h with st:={h.st with zb:=bP h.st.zb,v:=d},l:=bP h.l,S:=⟨bP h.S.1,h.S.2⟩,v:=e}
def Inv.eQ{t:Prop}{r:cy af}{w C:Z}{s s':SR}{K a:DK}{O:dB}{D b E F:dI}{N:R}{u:gJ}(h:Inv t r w c s K O D b E F T N u)(j:c<G (H w))(q:gl w C s.f c K a)(g:vw a.ah=vw K.ah)(P:y a.l<=y K.l)(e:s'={s with k:=s'.k,x:=s'.x,d:=s'.d}):Inv t r C c s' a O D b E F T N u:=by
 have m:=(h.st.eQ j q g).vI (s':=s') (by rw[e];grind) (by rw[e]);have p:s'.o=s.o:=by rw[e]
 have:y a.ah=y K.ah:=by simpa[vw]using cD y g
 exact{st:=m,k:=h.k,x:=p▸h.x,L:=p▸h.L,f:=(h.f.eQ q).vI (by rw[e];grind:s'.f=s.f/\s'.n=s.n),i:=h.i,nx:=(by rw[e]:s'.t=s.t)▸h.nx,lg:=(by rw[e]:s'.l=s.l)▸h.lg,bt:=(by rw[e]:s'.S=s.S)▸h.bt,o:=(by rw[e]:s'.D=s.D)▸(by rw[e]:s'.ub=s.ub)▸h.o,l:=bP h.l,S:=(by rw[e]:s'.v=s.v)▸h.S,A:=g▸h.A,n:=g▸(by rw[e];rfl:s'.Xg=s.Xg)▸h.n,pH:=g▸h.pH,v:=h.v,B:=h.B}
def Yx{l:cy qG}(h:l<+:pa o)(d:mu l f x):vw x.ah=vw f.ah/\y x.l<=y f.l:=by
 have e:∀l:cy qG,(∀k∈l,(∃t,k=.sy t)\/k=.sd)->∀f,mu l f x->vw x.ah=vw f.ah/\y x.l<=y f.l:=by
  intro l;induction l with
  |nil=>
   rintro _ f⟨c,_,a⟩;rw[c,a];exact⟨z,aq _⟩
  |cons k l s=>
   rintro j f⟨m,c,r⟩;let⟨i,b⟩:=s (λx a=>j x<|iA _ a) m r;obtain⟨t,rfl⟩|rfl:=j k iV
   .let⟨F,a,n,_,p⟩:=c;refine⟨?_,p▸b⟩;rw[i,n,ql];simp only[(eM a).1];rw[JR (by rw[nI,a];rfl:fp (vw f.ah) t=M F.bB)]
   .let⟨a,_,n⟩:=c;refine⟨by rw[i,a],?_⟩;rw[n]at b;simp at b;rw[b];simp
 refine e l (λk d=>?_) f d;have:=h.subset d;unfold pa at this;simp only[aP]at this;obtain q|q:=this;by_cases g:o.k=cz;rw[fW g]at q;exact J ⟨_,bY.1 q⟩;rw[fN g]at q;cases q;by_cases g:o.x=cz;rw[fW g]at q;exact bu<|bY.1 q;rw[fN g]at q;cases q
def KT{l:cy qG}{B:R}(h:l<+:pa o):MS l B:=by
 refine MS.ph ?_ h;unfold pa;refine⟨by split<;>split<;>simp,λn a=>?_,?_,λx d c=>?_,by split<;>split<;>simp[Mq],by split<;>split<;>simp[Dr,Z5,R8]⟩;split at a<;>split at a<;>simp at a;split<;>split<;>simp[Do];split at c<;>split at c<;>simp at c
def SfP(e:Prop)(d:cy af)(w c:Z)(b:R)(s:SR)(h:Y)(K:DK)(o:dB)(i j m n:dI)(C N:R)(f:gJ)(g:Ending):Prop:=(g=aN ic/\∃a,gl w c s.f b K a/\cU c b {s with k:=bD,x:=bD} h/\Inv e d c b {s with k:=bD,x:=bD} a o i j m n C N f/\mu (pa s) K a)\/∃v a,g=aN v/\MK w c b s h K a C v/\Jc K.fx/\∃l,l<+:pa s/\mu l K a
def Inv.D{s:cy af}{E b v L:dI}{t:gJ}(h:Inv K s a c o x i E b v L k n t)(l:cU a c o r)(D:qu x.fx\/(o.k=cz->ij x.ah (gX o.l)≠dE)):cR bN 62 #[aJ c] a λN u=>SfP K s a u c o r x i E b v L k n t N:=by
 refine(CJ l h.st.f h.st.l h.st.t.x h.lg (λq P=>D.elim id<|λm9=>absurd P<|m9 q)<|gW h.l h.v).mono ?_;rintro N u⟨T,j,Q,S,rfl,g,d,B⟩;obtain⟨rfl,e⟩|⟨O,q,v,p,e,rfl,C,m⟩:=g.d;obtain⟨rfl,rfl⟩:=B rfl;let⟨w,A⟩:=Yx (sS _) e;exact J ⟨z,j,g.D,d,h.eQ (az l) g.D w A z,e⟩;exact bu ⟨_,j,z,⟨g.D,⟨_,d,z,z⟩,⟨q,z,v,C,m.pK⟩,O,e,KT p⟩,m.Y8,O,p,e⟩
theorem SP{c:MZ}(a:1<=c.D.size/\c.D.size<=8)(f:c.dP=bD->c.l.size<=16)(b:0<=r)(d:r<18446744073709551616):(qf r c).Good:=by
 refine⟨a.1,a.2,?_,?_,b,d⟩
 .unfold qf;cases q:c.dP with
  |true=>simp[ByteArray.size]
  |false=>grind
 intro q;have e:c.dP=cz:=q;simp[qf,e]
def SR.A(s:SR):R:=(s.S+1) %18446744073709551616
structure Fh(j5:Prop)(j4:cy af)(w w':Z)(sb:R)(s:SR)(k:Y)(K:DK)(C N:R)(sn:gJ)(s':SR)(K':DK)(m':dB)(a' b' c' d':dI):Prop where
 g:cU w' sb s' k
 A:Inv j5 j4 w' sb s' K' m' a' b' c' d' C N sn
 eQ:gl w w' s.f sb K K'
 bM:s'.f=s.f/\s'.d=s.d/\s'.D=s.D/\s'.ub=s.ub/\s'.v=s.v/\s'.n=s.n
def LvX(s:SR)(K:DK)(m:dB)(T:dI)(l:gJ)(a:dB)(d:eN)(j:SR)(f:DK)(i:dB)(h:dI):Prop:=0<y a->(s.o:Y)+(y a:Y)<s.D->s.my=bD->∃g c e b,((s.i=bD->c=cz)/\(s.i=cz->c=s.x))/\j={s.p g (y a) c with k:=e,x:=b}/\i=kT l m a/\y h=y T/\if d then e=bD/\b=bD/\mu (qC s (Yn s a)++pa (s.p g (y a) c)) K f else e=cz/\b=c/\mu (qC s<|Yn s a) K f
def DoP(m:Prop)(l:cy af)(w n:Z)(k:R)(s:SR)(o:Y)(K:DK)(p:dB)(T:dI)(C N:R)(i:gJ)(j:dB)(a:eN):Prop:=∃h b g c d e f,Fh m l w n k s o K C N i h b g c d e f/\LvX s K p T i j a h b g (c++d++e++f)
def gl.t{w w1 w':Z}{db a:R}{K c:DK}(h:gl w1 w' db a K c)(d:I aC w w1):gl w w' db a K c:=⟨h.ok,(d.aT (T:=λk=>K.j db k\/k=a) cY).aj h.aA<|λ_ q=>J q,λk q=>(h.j k q).imp id<|λg=>aR d.D g,h.fx⟩
def MK.aA{w w1 w':Z}{K a:DK}(h:MK w1 w' c o r K a k d)(e:I aC w w1):MK w w' c o r K a k d:=⟨h.eQ.t e,h.g,h.f,h.lN⟩
def MK.aT{w g:Z}{K e:DK}(h:MK w g c o r K e k d)(m:k<=n):MK w g c o r K e n d:=⟨h.eQ,h.g,h.f,by obtain⟨l,j,a⟩:=h.lN;exact⟨l,j,a.dL,a.nm,bP a.ap,a.rn,a.L,a.f⟩⟩
def Xo(g:Prop)(f:cy af)(w c:Z)(b:R)(s:SR)(k:Y)(K:DK)(m:dB)(T:dI)(C N:R)(h:gJ)(e:dB)(a:eN)(v:ae):Prop:=(v=ic/\DoP g f w c b s k K m T C N h e a)\/∃d,MK w c b s k K d C v/\Jc K.fx
def Xo.aA{m:Prop}{j:cy af}{w w1 w':Z}{K:DK}{B:dB}{T:dI}{p:gJ}{e:dB}(h:Xo m j w1 w' c o r K B T k n p e V d)(g:I aC w w1):Xo m j w w' c o r K B T k n p e V d:=h.imp (λ⟨q,A,a,x,s,b',c',t,h,v⟩=>⟨q,A,a,x,s,b',c',t,⟨h.g,h.A,h.eQ.t g,h.bM⟩,v⟩)<|λ⟨a,u,h⟩=>⟨a,u.aA g,h⟩
def Mn:∀l:cy qG,(l.map Mq).sum<=y l
 |[]=>aq _
 |o::l=>by
  have:=Mn l;have:Mq o<=1:=by obtain _|_|_|_|_|_:=o<;>simp[Mq]
  rw[bO,ft,bK];omega
def MS.Fa{l m:cy qG}(a:MS l b)(d:MS m c)(f:y l+y m<=1000)(h:b+c<=k):MS (l++m) k:=⟨by rw[ai];omega,λn f=>(aP.1 f).elim (a.nm n)<|d.nm n,by rw[bz,eY];have:=a.ap;have:=d.ap;omega,λx e g=>(aP.1 g).elim (a.rn x e)<|d.rn x e,by rw[bz,eY];have:=Mn l;have:=Mn m;omega,a.f.Fa d.f⟩
def Fx.Y8{f g:Fg}(b:Fx f g)(a:f.ok)(h:Jc g):Jc f:=h.imp b.t<|b.p a
def X4(s:SR)(a:eD):y (qC s a)<=2:=by
 unfold qC Ak;split<;>simp
def V0(s:SR):y (pa s)<=2:=by
 unfold pa;split<;>split<;>simp
def X3{s:SR}(h:mu (qC s m) f x):ij x.ah (gX s.l)≠dE:=by
 unfold qC at h;let⟨d,l,e,⟨F,n,a,b,g,i⟩,c,j,k⟩:=nR h;have:fp (vw x.ah) (gX s.l)≠dE:=by rw[c,b,ql,uM,fW<|by exact(eM a).1];simp
 rw[nI]at this;intro q;rw[q]at this;exact this z
def G2{O:cy af}(t:gJ){W:vX}(u:eN)(h:cU a b o r)(hV:Inv K O a b o f i l v C F c k t)(hc:FN a d W)(h8:y W<=8)(hk:∀aV∈W,1<=aV.D.size/\aV.D.size<=8)(hv:∀aV∈W,aV.dP=bD->aV.l.size<=16)(ca:∀aV∈W,aV.l.size<=140737488351232)(hC:c+y W<=3000000000)(hN:k+1<=1000000000)(av:qu f.fx\/fw f.ah<=999999000/\(o.o:Y)+(y W:Y)<o.D/\o.my=bD/\(o.i=cz->ij f.ah (gX o.l)≠dE)/\(o.i=bD->ij f.ah (gX o.l)=dE)/\(o.k=cz->o.i=cz)):cR bN 52 #[aJ b,d,aO u] a λbp w'=>∃cr,bp=aN cr/\Xo K O a w' b o r f i (l++v++C++F) (c+y W) (k+1) t (W.map<|qf (o.A:Y)) u cr:=by
 have bT:=az h;have cB:=hV.bt;have ac:o.A<18446744073709551616:=ol _ cg;have Q:=ZT (o.A:Y) hc U<|λaV hx=>⟨bP<|(hk aV hx).2,ca aV hx⟩;let⟨e,ad⟩:∃e,W.map (qf (o.A:Y))=e:=⟨_,rfl⟩;rw[ad]at Q|-;have bn:y e=y W:=by rw[<-ad];simp
 have al:∀aV∈e,aV.Good:=λaV hx=>by rw[<-ad]at hx;grind[SP]
 have bh:∀aV∈e,aV.f=(o.A:Y):=λaV hx=>by rw[<-ad]at hx;obtain⟨g,j,rfl⟩:=cC.1 hx;rfl
 let⟨dr,dn,ch⟩:=sZ hc;subst ch;rw[<-bn]at Q hC h8 av|-;have k9:=cU.bW h 9 z;have dk:IntKind.u64.wrap ((o.S:Y)+1)=(o.A:Y):=by rw[dY];unfold SR.A;omega
 let⟨HH,HV,HG,cb⟩:=js h hV al bh;have cT:y W=y e:=bn.symm;clear h hV al bh hc hk hv ca ad bn;go_in
 go_wp21;go_call Q as bp P⟨v1,rfl,bb,aU⟩;obtain⟨x1,c1,cm⟩:=aM bb;subst cm;have bm:gl a P o.f b f f:=⟨HV.st.f.aA aU<|λ_ _=>id,aU.aT cY,λ_ q=>J q,Fx.bI _⟩;have ac:cU P b o r:=(aU.A b bT id).trans HH;have bs:Inv K O P b o f i l v C F c k t:=HV.eQ bT bm z (aq _) z;have hA1:∀q,cN (am x1 (y e) c1)=M q->Aside P f o.f b q:=λq hq=>by have g:=bb.lt q hq;exact⟨g.2,λa=>bP<|HV.st.f.lt q a,U⟩
 let⟨br,aa,p,w,bq,cu⟩:=nU bb aU ac bs hA1 bm;clear bb aU ac bs hA1 bm Q HV HH;by_cases hz:y e=0
 .have j:e=[]:=bG hz;have cj:¬(0:Y)<(y e:Y):=U;cases u with
  |true=>
   have N:=w.D p<|av.imp id<|λq m9=>q.2.2.2.1<|q.2.2.2.2.2 m9;go_wp21;go_call N as bp w2(⟨rfl,K2,x,D,V,g⟩|⟨v2,K2,rfl,L,an,_⟩)
   .have S:=ak<|show Xo K O P w2 b o r f i (l++v++C++F) (c+y e) (k+1) t e cz ic from J ⟨z,_,K2,i,l,v,C,F,⟨D,V.aT U hC U hN,x,⟨z,z,z,z,z,z⟩⟩,λq=>absurd q U⟩;clear x g D V N;go_wp2;go_ret;exact⟨_,z,S.aA aa⟩
   .obtain⟨q2,rfl,r3⟩:=L.f;have S:=ak<|show Xo K O P w2 b o r f i (l++v++C++F) (c+y e) (k+1) t e cz (eW q2)from bu ⟨K2,L.aT U,an⟩;clear L r3 N;go_wp2;go_ret;exact⟨_,z,S.aA aa⟩
  |false=>
   have S:=ak<|show Xo K O P P b o r f i (l++v++C++F) (c+y e) (k+1) t e bD ic from J ⟨z,o,f,i,l,v,C,F,⟨p,w.aT U hC U hN,gl.bI w.st.f,⟨z,z,z,z,z,z⟩⟩,λq=>absurd q U⟩;go_wp2;go_ret;exact⟨_,z,S.aA aa⟩
 .have cj:(0:Y)<(y e:Y):=U;have k8:=cU.bW p 8 z;have k3:=cU.bW p 3 z;have bd:=cU.bW p 19 z;have k7:∃mx mc,o.L=am mx (y i) mc:=by
   let⟨aV,C,bp⟩:=cG w.st.D;grind
  let⟨mx,mc,bL⟩:=k7;have k7:bA P (X b 7)=M (am mx (y i) mc):=by rw[<-bL];exact p.u z
  have k9:=cU.bW p 9 z;have cM:o.o<32:=bP<|(ag w).L;have dd:IntKind.i64.wrap ((o.o:Y)+(y e:Y))=(o.o:Y)+(y e:Y):=by rw[bR];omega
  clear bL;by_cases n:o.D<=(o.o:Y)+(y e:Y)\/o.my=cz
  .have ck:o.D<=(o.o:Y)+(y e:Y)\/¬o.D<=(o.o:Y)+(y e:Y)/\o.my=cz:=by
    by_cases q:o.D<=(o.o:Y)+(y e:Y)
    .exact J q
    .exact bu ⟨q,n.resolve_left q⟩
   have bi:qu f.fx:=av.elim id<|λq=>n.elim (λm9=>absurd q.2.1 U) (λm9=>by rw[q.2.2.1]at m9;cases m9);have bl:=ak n;clear n;obtain bo|⟨bo,bc⟩:=ck;case' inr=>
    rw[bc]at bd;clear bc
   all_goals
    go_wp21;go_quiet(fail)
    go_wp21;let⟨j,hU⟩:∃j,P.drewN nq=j:=⟨_,rfl⟩;have s:I aC P j:=by rw[<-hU];exact gP _ _ _
    have E:gl P j o.f b f f:=⟨w.st.f.aA s<|λ_ _=>id,s.aT cY,λ_ q=>J q,Fx.bI _⟩;have A:cU j b o r:=(s.A b (az p) id).trans p;have m:Inv K O j b o f i l v C F c k t:=w.eQ (az p) E z (aq _) z;have ab:∀q,cN (am x1 (y e) c1)=M q->Aside j f o.f b q:=λq hq=>(bq q hq).eQ E;have ap:=s.aZ br<|λ_ _ q=>q;have T:=ak<|aa.t s;rw[hU];clear hU;have db:=m.x;have cs:=m.L;have bE:gl j j.drew o.f b f f:=qV m.st.f<|below_drewN (Below.refl _ j) 1;let⟨mb,m1,m2,m3⟩:=(m.f.eQ bE).ex;have bk:=Dw b o r t (am x1 (y e) c1) e (by exact A) m1 m2 m.f.dL (by exact m.st.D) (λq hq=>(m.st.L q hq).lt) (dQ<|by exact ap) (λq hq=>(ab q hq).lt) m.st.o U;have co:cR bN 74 #[aJ b,am x1 (y e) c1] j.drew λbp w'=>∃a,bp=aN a/\fE w' (G<|H j) 223 4 a (y<|kT t i e) (bj<|kT t i e)/\I aC j.drew w':=bk;clear bk m1 m2 m3 bE;have n:∀w6 v6,fE w6 (G<|H j) 223 4 v6 (y<|kT t i e) (bj<|kT t i e)->I aC j.drew w6->cR bN 78 #[aJ b,v6,bw (o.A:Y)] w6 λbp w'=>∃cr,bp=aN cr/\Xo K O w6 w' b o r f i (l++v++C++F) (c+y e) (k+1) t e u cr:=λw6 v6 ao aD=>by
     have ax:I aC j w6:=(cf aC j).t aD;have bx:gl j w6 o.f b f f:=⟨m.st.f.aA ax<|λ_ _=>id,ax.aT cY,λ_ q=>J q,Fx.bI _⟩;have g:=m.eQ (s':=o) (az A) bx z (aq _) z;have ce:cU w6 b o r:=(ax.A b (az A) id).trans A;have dc:=AC t i e;have cl:=Gk v6 (c+y e) o.A ce g.st g.i (dQ ao) (λq hq=>(ao.lt q hq).2) (AA g.st.o t e) (Az g.st.o g.f.dL e) (λaV hx=>(AB hx).elim (g.st.S aV)<|HG aV) U (bP g.st.zb) hC g.o.2.2.1 ac g.nx g.lg (gW g.l g.v) t g.f bi;go_call cl as bp w'(⟨rfl,v0,v1,v2,v3,K',dz,a',b',c',d',hO⟩|⟨cr,K',rfl,hs⟩)
     .exact⟨_,z,J ⟨z,_,K',[],a',b',c',d',⟨hO.g,hO.A g.o g.st.f ac ⟨bP g.S.1,g.S.2⟩ hN g.B g.f g.A g.n g.pH,hO.eQ,⟨z,z,z,z,z,z⟩⟩,λ_ a q2=>absurd (ag bl) (by rw[q2];simp;omega)⟩⟩
     .exact⟨_,z,bu ⟨K',hs,J bi⟩⟩
    have cp:=cU.bW A 9 z;clear ab ap E s k7 k8 k9 k3 bd;rename_i KK bv;have ba:bA j.drew (X b 9)=M (bw o.S):=cp;refine kG (λ(O:Z)=>bA O (X b 9)=M (bw o.S)) 9 aH ?_;refine lX 0 ?_;iterate 3 (refine zv ba ?_;simp only[ii,eh,ke])
    apply qj;refine lX 4 ?_;iterate 5 (refine zv ba ?_;simp only[ii,eh,ke])
    apply qj;refine gO 3 ?_;intro K6 bt;go_simp;apply co.mono;rintro bp w6⟨v6,rfl,ao,aD⟩;obtain⟨x6,c6,cn⟩:=aM ao;subst cn;have cd:bA w6 (X b 9)=M (bw o.S):=aD.u ba id<|so ba;refine bt _ _ (λ_=>cd) ?_;clear bt;try simp only[ii,eh]
    refine gO 9 ?_;intro cv bf;go_simp;go_call n w6 _ ao aD as bp w7⟨v7,rfl,cc⟩;refine bf _ _ (λq=>U) ?_;clear bf;try simp only[ii,eh]
    refine gO 10 ?_;intro cx bg;go_simp;refine bg _ _ (λq=>U) ?_;refine kS aH ?_ _;show KK _ _;apply bv;clear bv bg;go_wp2;go_ret;exact⟨_,z,cc.aA<|(T.t<|cf aC j).t aD⟩
  .have:¬o.D<=(o.o:Y)+(y e:Y):=λq=>n<|J q;have bc:o.my=bD:=by
    cases q:o.my with
    |false=>rfl
    |true=>exact absurd (bu q) n
   rw[bc]at bd;clear n;go_wp21;go_quiet(fail)
   go_wp21;let⟨j,hU⟩:∃j,P.drewN nq=j:=⟨_,rfl⟩;have s:I aC P j:=hU▸gP _ _ _;have E:gl P j o.f b f f:=⟨w.st.f.aA s<|λ_ _=>id,s.aT cY,λ_ q=>J q,Fx.bI _⟩;have A:cU j b o r:=(s.A b (az p) id).trans p;have m:Inv K O j b o f i l v C F c k t:=w.eQ (az p) E z (aq _) z;have ab:∀q,cN (am x1 (y e) c1)=M q->Aside j f o.f b q:=λq hq=>(bq q hq).eQ E;have ap:=s.aZ br<|λ_ _ q=>q;have T:=ak<|aa.t s;rw[hU];clear hU;have ba:=Oe t A m (dQ ap) ab U h8 HG cb (bP m.o) hC hN<|av.imp id<|λq=>⟨q.1,q.2.2.2.1,q.2.2.2.2.1⟩;clear A ab ap E s k7 k8 k9 k3 bd;go_call ba as bp w2(⟨rfl,bi,bf,K2,D,V,x,ax,g⟩|⟨v2,K2,rfl,L,an⟩)
   .cases u with
    |true=>
     have N:=V.D D<|av.imp x.fx.D<|λ_ _=>X3 (s:=o) ax;clear ba D;go_wp21;go_call N as bp w3(⟨rfl,K3,bl,bk,bo,ao⟩|⟨v3,K3,rfl,aD,an,l3,bg,ao⟩)
     .have S:=ak<|show Xo K O j w3 b o r f i (l++v++C++F) (c+y e) (k+1) t e cz ic from J ⟨z,_,K3,_,_,_,_,_,⟨bk,bo,x.aj bl,⟨z,z,z,z,z,z⟩⟩,λ_ _ _=>⟨bi,bf,bD,bD,g,z,z,ar,z,z,ax.Fa ao⟩⟩;clear bl ao bk bo N;go_wp2;go_ret;exact⟨_,z,S.aA T⟩
     .obtain⟨q3,rfl,r3⟩:=aD.f;have S:=ak<|show Xo K O j w3 b o r f i (l++v++C++F) (c+y e) (k+1) t e cz (eW q3)from bu ⟨K3,⟨x.aj aD.eQ,aD.g,aD.f,qC o (Yn o e)++l3,ax.Fa ao,(RR (B:=0) m.lg<|sS _).Fa (KT (B:=0) bg) (Lu (X4 o<|Yn o e) (V0<|o.p bi (y e) bf) bg.length_le) U⟩,x.fx.Y8 m.st.f.L an⟩;clear aD r3 N bg ao;go_wp2;go_ret;exact⟨_,z,S.aA T⟩
    |false=>
     have S:=ak<|show Xo K O j w2 b o r f i (l++v++C++F) (c+y e) (k+1) t e bD ic from J ⟨z,_,K2,_,_,_,_,_,⟨D,V,x,⟨z,z,z,z,z,z⟩⟩,λ_ _ _=>⟨bi,bf,cz,bf,g,z,z,ar,z,z,ax⟩⟩;clear ba D V x ax g;go_wp2;go_ret;exact⟨_,z,S.aA T⟩
   .obtain⟨q2,rfl,r3⟩:=L.f;have S:=ak<|show Xo K O j w2 b o r f i (l++v++C++F) (c+y e) (k+1) t e u (eW q2)from bu ⟨K2,L.aT U,an⟩;clear L r3 ba;go_wp2;go_ret;exact⟨_,z,S.aA T⟩
section
open Conc.Locks
theorem My{a:vX}(h:mq a=0):(∀x∈a,1<=x.D.size/\x.D.size<=8)/\∀x∈a,x.dP=bD->x.l.size<=16:=by
 induction a with
 |nil=>simp
 |cons c r b=>
  unfold mq at h;grind
def rD{a:vX}(h:gT a=0):y a<=8/\(∀x∈a,1<=x.D.size/\x.D.size<=8)/\∀x∈a,x.dP=bD->x.l.size<=16:=by
 unfold gT at h;grind[My]
def JY(h:cU a b o r):cR bN 51 #[aJ b,ic] a λe c=>e=aN ic/\gD (G<|H<|cP a (X b 6) ic) (cP a (X b 6) ic) c:=by
 have:=cU.bW h 6 z;have:iI a (X b 6)=bD:=h.bS;go_in
 go_wp21;go_call(JP<|cP a (X b 6) ic)as e c⟨rfl,d⟩;go_wp2;go_ret;exact⟨z,d⟩
def vL(a:vX):R:=if gT a=0 then y a else 0
def Fh.Hx{n:Prop}{m:cy af}{w g b:Z}{j3:R}{s:SR}{K:DK}{r N:R}{p:gJ}{K':DK}(h:Fh n m w g j3 s 1 K r N p o K' i l v C F)(j:gD (G<|H<|cP g (X j3 6) ic) (cP g (X j3 6) ic) b):bA b (X j3 0)=M (iD 1)/\iI b (X j3 0)=bD/\Fh n m w (cP b (X j3 0)<|iD 0) j3 s 0 K r N p o K' i l v C F:=by
 have e:¬K'.j s.f j3:=by have:=h.A.st.l;rwa[h.bM.1]at this
 have k:cU (cP g (X j3 6) ic) j3 o 1:=(aY h.g).trans z;have a:cU b j3 o 1:=k.aA (I.p (S:=aC) j) id;have d:=h.eQ.gu e 6 ic;have f:=(gl.bI h.A.st.f (j3:=j3)).gu h.A.st.l 6 ic;exact⟨a.u z,a.bS,a.jh 0,h.A.eQ (az h.g) ((f.aj<|qV (j3:=j3) f.ok j).gu h.A.st.l 0 (iD 0):gl g (cP b (X j3 0)<|iD 0) o.f j3 K' K') z (aq _) z,((d.aj<|qV (j3:=j3) d.ok j).gu e 0<|iD 0),h.bM⟩
structure QA(w w':Z)(sb:R)(s:SR)(K K':DK)(N:R)(v:ae):Prop where
 eQ:gl w w' s.f sb K K'
 ex:∃s' q0 q1 c,v=eW q1/\rE w' q1 c/\vY w' sb s' 0 q0/\rE w' q0 c/\s'.d=bD/\s'.f=s.f/\1<=c
 lN:Xq K K' (20*N+44)
def MK.Hx{w w3 w4:Z}{j3 q q1 N:R}{s:SR}{K K':DK}{c:Y}(k:¬K.j s.f j3)(u:j3<G (H w))(j:s.d=bD)(h:gl w w3 s.f j3 K K')(v:∃i,cU w3 j3 i 1/\i.d=s.d/\i.f=s.f)(n:rE w3 q c)(r:1<=c)(t:Xq K K' (20*N+44))(m:gD (G<|H<|cP w3 (X j3 6)<|eW q) (cP w3 (X j3 6)<|eW q) w4)(l:rE w4 q1 c):bA w4 (X j3 0)=M (iD 1)/\iI w4 (X j3 0)=bD/\QA w (cP w4 (X j3 0)<|iD 0) j3 s K K' N (eW q1):=by
 let⟨i,b,o,p⟩:=v;have f:¬K'.j s.f j3:=λg=>(h.j j3 g).elim k<|λg=>U;have g:I aC (cP w3 (X j3 6)<|eW q) w4:=I.p m;have a:=(b.Z7 q).aA g id;have d:=h.gu f 6<|eW q;have e:rE w4 q c:=(n.aA (iQ j3 w3)<|n.pL (j3:=j3) b).aA g id;exact⟨a.bW 0 z,a.bS,((d.aj<|qV (j3:=j3) d.ok m).gu f 0<|iD 0),⟨i,q,q1,c,z,l.aA (iQ j3 w4)<|l.pL (j3:=j3) a,a.jh 0,e.aA (iQ j3 w4)<|e.pL (j3:=j3) a,o.trans j,p,r⟩,t⟩
def WrF(w c:Z)(b:R)(s:SR)(K:DK)(N:R)(e:Ending):Prop:=∃v a,e=aN v/\QA w c b s K a N v
def WrP(m:Prop)(l:cy af)(w n:Z)(k:R)(s:SR)(o:Y)(K:DK)(p:dB)(T:dI)(C N:R)(j:gJ)(f:vX)(a:eN):Prop:=∃i b h c d e g,Fh m l w n k s o K C N j i b h c d e g/\(gT f=0->LvX s K p T j (f.map<|qf (s.A:Y)) a i b h (c++d++e++g))
def Bq{j4:cy af}(sn:gJ){e:vX}(j:eN)(h:cU a b o 0)(P:Inv K j4 a b o f i l v C F c k sn)(ac:o.d=bD)(hc:∀bk,I (λbi=>bi=b) a bk->FN bk d e)(hz:∀bl∈e,bl.D.size<=140737488351232/\bl.l.size<=140737488351232)(hr:y e<=1000000000)(hC:c+vL e<=3000000000)(hN:k+1<=1000000000)(hE:∀bk,I (λbi=>f.j o.f bi\/bi=b) a bk->jP bk)(bf:qu f.fx\/fw f.ah<=999999000/\(o.o:Y)+(y e:Y)<o.D/\o.my=bD/\(o.i=cz->ij f.ah (gX o.l)≠dE)/\(o.i=bD->ij f.ah (gX o.l)=dE)/\(o.k=cz->o.i=cz)):cR bN 15 #[aJ b,d,aO j] a λE p=>(E=aN (uf<|gT e)/\WrP K j4 a p b o 0 f i (l++v++C++F) (c+vL e) (k+1) sn e j)\/(gT e=0/\WrF a p b o f (c+vL e) E/\Jc f.fx):=by
 have V:=az h;have c0:=cU.bW h 0 z;have f0:iI a (X b 0)=bD:=h.bS;have s:=lQ P.st.f P.st.l 1;have A:=h.jh 1;have B:=P.eQ (s':=o) V s z (aq _) z;have al:I (λbi=>bi=b) a (cP a (X b 0)<|iD 1):=(iQ b a);have D:FN (cP a (X b 0)<|iD 1) d e:=hc _ al;generalize hW:cP a (X b 0) (iD 1)=u at s A B al D;have L:=mY A;rw[ac]at L;have ad:cR bN 49 #[aJ b] u λE p=>E=aN ic/\gD (G<|H u) u p:=L;have ba:∀Wr,I aC u Wr->cR bN 50 #[d] Wr λE p=>E=aN (uf<|gT e)/\I aC Wr p:=λWr a=>YP (D.aA a<|λ_ _=>id) U hz;have T:gT e=0->∀r,I aC u r->cR bN 52 #[aJ b,d,aO j] r λE p=>∃ab,E=aN ab/\(ab=ic/\WrP K j4 a p b o 1 f i (l++v++C++F) (c+vL e) (k+1) sn e j\/∃m,MK a p b o 1 f m (c+vL e) ab/\Jc f.fx):=λw r g=>by let⟨q1,q2,q3⟩:=rD w;have n:gl u r o.f b f f:=⟨B.st.f.aA g<|λ_ _=>id,g.aT cY,λ_ q=>J q,Fx.bI _⟩;(have O:vL e=y e:=by unfold vL;rw[fW w]);rw[O];apply(G2 sn j ((g.A b (az A) id).trans A:cU r b o 1) (B.eQ (s':=o) (az A) n z (aq _) z) (D.aA g<|λ_ _=>id) q1 q2 q3 (λbl hx=>(hz bl hx).2) (O▸hC) hN bf).mono;rintro E p⟨ab,rfl,hz⟩;refine⟨ab,z,?_⟩;obtain⟨rfl,s',m,m',a',b',c',d',N,hx⟩|⟨m,Q,hr⟩:=hz;exact J ⟨z,s',m,m',a',b',c',d',⟨N.g,N.A,(s.aj n).aj N.eQ,N.bM⟩,λ_=>hx⟩;exact bu ⟨m,⟨(s.aj n).aj Q.eQ,Q.g,Q.f,Q.lN⟩,hr⟩
 have W:gT e≠0->∀r,I aC u r->bA r (X b 0)=M (iD 1)/\iI r (X b 0)=bD/\WrP K j4 a (cP r (X b 0)<|iD 0) b o 0 f i (l++v++C++F) (c+vL e) (k+1) sn e j:=λw r g=>by have n:cU r b o 1:=(g.A b (az A) id).trans A;have O:=(s.aj (⟨B.st.f.aA g<|λ_ _=>id,g.aT cY,λ_ q=>J q,Fx.bI _⟩:gl u r o.f b f f)).gu P.st.l 0<|iD 0;exact⟨n.u z,n.bS,o,f,i,l,v,C,F,⟨n.jh 0,(P.eQ (s':=o) V O z (aq _) z).aT U hC U hN,O,⟨z,z,z,z,z,z⟩⟩,λq=>absurd q w⟩
 let⟨cx,cc,bb⟩:=sZ D;subst bb;let⟨ao,ax,HW,x,av,HE⟩:=nU T W hW ba (λw3 w4 m q q1 C(d:gl a w3 o.f b f m)hx hq hf i g A=>MK.Hx (w:=a) (w3:=w3) (w4:=w4) (j3:=b) (q:=q) (q1:=q1) (s:=o) (K:=f) (K':=m) (c:=C) (N:=c+vL e) P.st.l V ac d hx hq hf i g A) hE;have aD:=ak P.st.l;by_cases w:gT e=0;(.have T:=ao w;rw[(by rw[w];rfl:uf (gT e)=ic)]at x|-;(go_enter_defers func15,ntmps15);go_wp21;go_call ng (X b 0) _ c0 f0 as E p⟨rfl,aa⟩;rw[ag HW]at aa;subst p;go_wp21;go_call ad as E Wr⟨rfl,S⟩;have t:I aC u Wr:=I.p S;go_wp21;go_call(x Wr t)as E w2⟨rfl,g⟩;go_wp21;go_call(T w2<|t.t g)as E w3⟨v3,rfl,bh⟩;obtain⟨rfl,s',m,m',a',b',c',d',N,hx⟩|⟨m,n,bd⟩:=bh;(.have ab:=JY N.g;go_wp21;go_call ab as E w4⟨rfl,Q⟩;obtain⟨d0,g0,O⟩:=N.Hx Q;go_wp2;exact fD d0 g0 ⟨_,gH z _ _ _,J ⟨z,s',m,m',a',b',c',d',O,hx⟩⟩);obtain⟨q,rfl,cc,hq,hf⟩:=n.f;let⟨s',aV,e1,e2⟩:=n.g;have bg:¬m.j o.f b:=λg=>(n.eQ.j b g).elim aD<|λg=>U;let⟨an,HQ,ap,aU,ab⟩:=oa n.eQ hq hf n.g<|And.intro n.lN bd;(go_wp2_with fail);apply(JZ aV hq<|HE _ (n.eQ.gu bg 6<|eW q).aA).mono;rintro E w4⟨q1,rfl,bc,Q⟩;obtain⟨d0,g0,O⟩:=av w3 w4 m q q1 cc an aU HQ ap ab.1 Q bc;have HP:=ak<|And.intro O ab.2;go_wp2;refine fD d0 g0 ?_;refine⟨_,gH z _ _ _,?_⟩;exact bu ⟨w,⟨eW q1,m,z,HP.1⟩,HP.2⟩);have W:=ax w;let⟨Q,O⟩:∃Q,gT e=Q:=⟨_,rfl⟩;rw[(by unfold uf;rw[fN w,O]:uf (gT e)=.iface 47 (ay Q))]at x|-;(go_enter_defers func15,ntmps15);(go_wp2_with fail);apply(ng (X b 0) _ c0 f0).mono;rintro E p⟨rfl,aa⟩;rw[ag HW]at aa;subst p;(go_wp2_with fail);apply ad.mono;rintro E Wr⟨rfl,S⟩;have t:I aC u Wr:=I.p S;(go_wp2_with fail);apply(x Wr t).mono;rintro E w2⟨rfl,g⟩;obtain⟨d0,g0,n⟩:=W w2<|t.t g;go_wp2;exact fD d0 g0 ⟨_,gH z _ _ _,J ⟨z,n⟩⟩
end
section
open Conc.Locks
def SR.p8(s:SR)(k:Y)(f:ae):Array ae:=#[iD k,eI 0,aJ s.f,ay s.D,ay s.ub,aO s.d,f,s.L,ay s.o,bw s.S,s.l0,s.l1,s.l2,s.l3,bw s.t,ay s.v,.map s.n,bw s.l,aO s.i,aO s.my,aO s.k,aO s.x]
def oW(w:Z)(j3:R)(s:SR)(k:Y)(f:ae):Prop:=w.heap[j3]?=M (aK (s.p8 k f) 110 (0,0))
structure zd(w:Z)(sb:R)(s:SR)(k:Y)(f:ae):Prop where
 g:oW w sb s k f
 l:s.d=cz\/∃q c,f=eW q/\rE w q c/\1<=c
def Q1(w:Z)(v:ae):Prop:=(∃t x,v=.iface t x)/\(v=uf 6\/∃q,v=eW q/\tD w q)
structure Tt(w w':Z)(sb:R)(s:SR)(f v:ae):Prop where
 ev:Q1 w' v
 G7:zd w' sb s 0 f
 aA:I (λk=>k=sb) w w'
section
variable{w w':Z}{j3:R}{s:SR}{k:Y}{f:ae}
def oW.bW(h:oW w j3 s k f)(i:R){v:ae}(e:(s.p8 k f).toList[i]?=M v):bA w (X j3 i)=M v:=by
 rw[cE h];rw[<-e];simp
def oW.bS{i:R}(h:oW w j3 s k f):iI w (X j3 i)=bD:=cV h
def oW.aA{S:fC}(h:oW w j3 s k f)(c:I S w w')(a:¬S j3):oW w' j3 s k f:=(c.A j3 (az h) a).trans h
def oW.jh(h:oW w j3 s k f)(n:Y):oW (cP w (X j3 0)<|iD n) j3 s n f:=(aY h).trans rfl
def zd.D{i:R}{u:ae}{a:SR}{c:Y}(h:zd w j3 s k f)(e:oW (cP w (X j3 i) u) j3 a c f)(g:s.d=cz->a.d=cz):zd (cP w (X j3 i) u) j3 a c f:=⟨e,h.l.imp g<|λ⟨q,j,l,b,d⟩=>⟨q,j,l,b.aA (iQ j3 w)<|b.pL (j3:=j3) h.g,d⟩⟩
def zd.BO(h:zd w j3 s k f)(n:Y):zd (cP w (X j3 0)<|iD n) j3 s n f:=h.D (h.g.jh n) id
def zd.A{S:fC}(h:zd w j3 s k f)(g:I S w w')(d:¬S j3)(e:∀q c,rE w q c->rE w' q c):zd w' j3 s k f:=⟨h.g.aA g d,h.l.imp id<|λ⟨q,c,i,b,a⟩=>⟨q,c,i,e q c b,a⟩⟩
def zd.t(h:zd w j3 s k f)(a:I aC w w'):zd w' j3 s k f:=h.A a id<|λ_ _ q=>q.aA a id
def cU.G7(h:cU w j3 s k)(a:s.d=cz):zd w j3 s k ic:=⟨h,J a⟩
def vY.G7{q:R}{c:Y}(h:vY w j3 s k q)(b:rE w q c)(a:1<=c):zd w j3 s k (eW q):=⟨h,bu ⟨q,c,rfl,b,a⟩⟩
def tD.XA{S:fC}{q:R}(h:tD w q)(d:I S w w')(b:¬S q):tD w' q:=by
 let⟨e,c,a⟩:=h;exact⟨e,c.aA d b,a⟩
def Q1.xA{v:ae}(h:Q1 w v){b:Array ae}(c:w.heap[j3]?=M (aK b 110 (0,0)))(u:ae)(i:R):Q1 (cP w (X j3 i) u) v:=⟨h.1,h.2.imp id<|λ⟨q,e,a⟩=>⟨q,e,a.XA (iQ j3 w) (by let⟨d,a,_⟩:=a;exact a.pL (j3:=j3) c)⟩⟩
def Ob(h:zd w j3 s k f)(e:jP w):cR bN 49 #[aJ j3] w λj w'=>∃v,j=aN v/\Q1 w' v/\gD (G<|H w) w w':=by
 by_cases a:s.d=cz;(·(have:bA w (X j3 5)=M (aO cz):=by rw[<-a];exact h.g.bW 5 z);clear h a;(go_in);go_wp2;go_ret;exact⟨uf 6,z,⟨⟨_,_,z⟩,J z⟩,Below.refl _ _⟩);obtain q|⟨q,l,rfl,g,d⟩:=h.l;exact absurd q a;have b:vY w j3 s k q:=h.g;go_call Oc b (dV a) g e as j w'⟨i,rfl,c,b⟩;exact⟨_,z,⟨⟨_,_,z⟩,bu ⟨i,z,l,c,d⟩⟩,b⟩
def G6{b a:Z}{v:ae}(h:zd w j3 s 0 f)(d:cP w (X j3 0) (iD 1)=b)(e:gD (G<|H b) b a)(g:Q1 a v):bA a (X j3 0)=M (iD 1)/\iI a (X j3 0)=bD/\Tt w (cP a (X j3 0)<|iD 0) j3 s f v:=by
 have c:zd a j3 s 1 f:=(d▸h.BO 1:zd b j3 s 1 f).t<|I.p e;exact⟨c.g.bW 0 z,c.g.bS,g.xA c.g _ _,c.BO 0,((d▸iQ j3 w:I (λk=>k=j3) w b).aj (I.p (S:=λk=>k=j3) e)<|λ_ a=>J a).aL j3 0 _<|J z⟩
def zI(h:zd w j3 s 0 f)(i:jP w)(c:j3≠0):cR bN 49 #[aJ j3] (cP w (X j3 0)<|iD 1) λe w'=>∃a b,e=aN (.iface a b)/\bA w' (X j3 0)=M (iD 1)/\iI w' (X j3 0)=bD/\Tt w (cP w' (X j3 0)<|iD 0) j3 s f (.iface a b):=by
 go_call Ob (h.BO 1) (i.aA (iQ j3 w)<|λe=>c e.symm)as e w'⟨v,rfl,d,g⟩;obtain⟨a,b,rfl⟩:=id d.1;exact⟨a,b,z,G6 h z g d⟩
def BK(n:Y)(h:zd w j3 s 0 f)(g:jP w)(c:j3≠0):cR bN 93 #[aJ j3,ay n] (cP w (X j3 0)<|iD 1) λi w'=>∃d e,i=aN (de #[bw 0,.iface d e])/\bA w' (X j3 0)=M (iD 1)/\iI w' (X j3 0)=bD/\Tt w (cP w' (X j3 0)<|iD 0) j3 s f (.iface d e):=by
 have a:=zI h g c;clear h g c;generalize cP w (X j3 0) (iD 1)=j at a;go_in
 go_wp21;go_call a as i l⟨d,e,rfl,b⟩;clear a;go_wp2;go_ret2
 exact⟨d,e,z,b⟩
def M2(d:af)(h:zd w j3 s 0 f)(e:jP w)(b:j3≠0):cR bN 17 #[aJ j3,aw d] w λj w'=>∃v,j=aN (de #[aw ⟨#[]⟩,aO bD,v])/\Tt w w' j3 s f v:=by
 have g:=h.g.bW 0 z;have l:iI w (X j3 0)=bD:=h.g.bS;have c:=zI h e b;clear h e b;go_enter_defers func17,ntmps17
 go_wp21;go_call ng (X j3 0) _ g l as j w'⟨rfl,rfl⟩;go_wp21;go_call c as j p⟨n,o,rfl,i,m,a⟩;clear c;go_wp2;exact fD i m ⟨_,lA z _ _ _,.iface n o,z,a⟩
def Us(i:ae)(d:eN)(h:zd w j3 s 0 f)(e:jP w)(b:j3≠0):cR bN 15 #[aJ j3,i,aO d] w λl w'=>∃v,l=aN (v)/\Tt w w' j3 s f v:=by
 have g:=h.g.bW 0 z;have m:iI w (X j3 0)=bD:=h.g.bS;have c:=zI h e b;clear h e b;go_enter_defers func15,ntmps15
 go_wp21;go_call ng (X j3 0) _ g m as l w'⟨rfl,rfl⟩;go_wp21;go_call c as l q⟨o,p,rfl,j,n,a⟩;clear c;go_wp2;exact fD j n ⟨_,gH z _ _ _,.iface o p,z,a⟩
def Yg(o n:af)(a:Y)(h:zd w j3 s 0 f)(e:jP w)(c:j3≠0):cR bN 59 #[aJ j3,aw o,aw n,ay a] w λj w'=>∃v,j=aN (de #[aF,v])/\Tt w w' j3 s f v:=by
 have g:=h.g.bW 0 z;have l:iI w (X j3 0)=bD:=h.g.bS;have d:=zI h e c;clear h e c;go_enter_defers func59,ntmps59
 go_wp21;go_call ng (X j3 0) _ g l as j w'⟨rfl,rfl⟩;go_wp21;go_call d as j r⟨p,q,rfl,i,m,b⟩;clear d;go_wp2;exact fD i m ⟨_,jx z _ _ _,.iface p q,z,b⟩
def KQ(h:zd w j3 s 0 f)(d:jP w)(b:j3≠0):cR bN 40 #[aJ j3] w λi w'=>∃v,i=aN (de #[ay 0,v])/\Tt w w' j3 s f v:=by
 have e:=h.g.bW 0 z;have j:iI w (X j3 0)=bD:=h.g.bS;have c:=zI h d b;clear h d b;go_enter_defers func40,ntmps40
 go_wp21;go_call ng (X j3 0) _ e j as i w'⟨rfl,rfl⟩;go_wp21;go_call c as i o⟨m,n,rfl,g,l,a⟩;clear c;go_wp2;exact fD g l ⟨_,jx z _ _ _,.iface m n,z,a⟩
def UX(h:zd w j3 s 0 f)(d:jP w)(b:j3≠0):cR bN 33 #[aJ j3] w λi w'=>∃v,i=aN (de #[aF,v])/\Tt w w' j3 s f v:=by
 have e:=h.g.bW 0 z;have j:iI w (X j3 0)=bD:=h.g.bS;have c:=zI h d b;clear h d b;go_enter_defers func33,ntmps33
 go_wp21;go_call ng (X j3 0) _ e j as i w'⟨rfl,rfl⟩;go_wp21;go_call c as i o⟨m,n,rfl,g,l,a⟩;clear c;go_wp2;exact fD g l ⟨_,jx z _ _ _,.iface m n,z,a⟩
def Mw(h:zd w j3 s 0 f)(d:jP w)(b:j3≠0):cR bN 44 #[aJ j3] w λi w'=>∃v,i=aN (v)/\Tt w w' j3 s f v:=by
 have e:=h.g.bW 0 z;have j:iI w (X j3 0)=bD:=h.g.bS;have c:=zI h d b;clear h d b;go_enter_defers func44,ntmps44
 go_wp21;go_call ng (X j3 0) _ e j as i w'⟨rfl,rfl⟩;go_wp21;go_call c as i o⟨m,n,rfl,g,l,a⟩;clear c;go_wp2;exact fD g l ⟨_,gH z _ _ _,.iface m n,z,a⟩
def Wh(p:Y)(d:af)(h:zd w j3 s 0 f)(e:jP w)(b:j3≠0):cR bN 88 #[aJ j3,ay p,aw d] w λj w'=>∃v,j=aN (de #[aw ⟨#[]⟩,aO bD,v])/\Tt w w' j3 s f v:=by
 have g:=h.g.bW 0 z;have l:iI w (X j3 0)=bD:=h.g.bS;have c:=BK p h e b;clear h e b;go_enter_defers func88,ntmps88
 go_wp21;go_call ng (X j3 0) _ g l as j w'⟨rfl,rfl⟩;go_wp21;go_call c as j q⟨n,o,rfl,i,m,a⟩;clear c;go_wp2;exact fD i m ⟨_,lA z _ _ _,.iface n o,z,a⟩
def Rt(r:Y)(o n:af)(a:Y)(h:zd w j3 s 0 f)(e:jP w)(c:j3≠0):cR bN 90 #[aJ j3,ay r,aw o,aw n,ay a] w λj w'=>∃v,j=aN (de #[aF,v])/\Tt w w' j3 s f v:=by
 have g:=h.g.bW 0 z;have l:iI w (X j3 0)=bD:=h.g.bS;have d:=BK r h e c;clear h e c;go_enter_defers func90,ntmps90
 go_wp21;go_call ng (X j3 0) _ g l as j w'⟨rfl,rfl⟩;go_wp21;go_call d as j t⟨p,q,rfl,i,m,b⟩;clear d;go_wp2;exact fD i m ⟨_,jx z _ _ _,.iface p q,z,b⟩
def Oa(o:Y)(h:zd w j3 s 0 f)(d:jP w)(b:j3≠0):cR bN 42 #[aJ j3,ay o] w λi w'=>∃v,i=aN (v)/\Tt w w' j3 s f v:=by
 have e:=h.g.bW 0 z;have j:iI w (X j3 0)=bD:=h.g.bS;have c:=BK o h d b;clear h d b;go_enter_defers func42,ntmps42
 go_wp21;go_call ng (X j3 0) _ e j as i w'⟨rfl,rfl⟩;go_wp21;go_call c as i p⟨m,n,rfl,g,l,a⟩;clear c;go_wp2;exact fD g l ⟨_,gH z _ _ _,.iface m n,z,a⟩
def Uz(n m:af)(h:zd w j3 s 0 f)(d:jP w)(b:j3≠0):cR bN 206 #[aJ j3,aw n,aw m] w λi w'=>i=aN aF/\∃v,Tt w w' j3 s f v:=by
 have e:=h.g.bW 0 z;have j:iI w (X j3 0)=bD:=h.g.bS;have c:=zI h d b;clear h d b;go_enter_defers func206,ntmps206
 go_wp21;go_call ng (X j3 0) _ e j as i w'⟨rfl,rfl⟩;go_wp21;go_call c as i o⟨p,q,rfl,g,l,a⟩;clear c;go_wp2;exact fD g l ⟨_,gH z _ _ _,z,_,a⟩
def WK(h:oW w j3 s 0 f)(b:s.d=cz):cR bN 21 #[aJ j3] w λj w'=>j=aN (uf 6)/\oW w' j3 s 0 f/\I (λk=>k=j3) w w':=by
 have d:=h.bW 0 z;have g:iI w (X j3 0)=bD:=h.bS;have a:=h.jh 1;have:bA (cP w (X j3 0)<|iD 1) (X j3 5)=M (aO cz):=b▸a.bW 5 z;have e:=a.bW 0 z;have i:iI (cP w (X j3 0)<|iD 1) (X j3 0)=bD:=a.bS;have c:=ak<|show oW (cP (cP w (X j3 0)<|iD 1) (X j3 0)<|iD 0) j3 s 0 f/\I (λk=>k=j3) w (cP (cP w (X j3 0)<|iD 1) (X j3 0)<|iD 0)from⟨a.jh 0,(iQ j3 w).aL j3 0 _<|J z⟩;clear h a b;go_enter_defers func21,ntmps21
 go_wp2_with(go_at_call 47;refine(ng (X j3 0) _ d g).mono ?_;rintro j w'⟨rfl,rfl⟩)
 exact fD e i ⟨_,gH z _ _ _,z,c⟩
end
def WM{w:Z}{j3 q:R}{s:SR}{v:Y}(h:vY w j3 s 0 q)(r:s.d=bD)(o:rE w q v):cR bN 21 #[aJ j3] w λE w'=>E=aN (eW q)/\rE w' q v/\vY w' j3 s.BC 0 q/\I (λk=>k=j3) w w':=by
 have x:=h.bW 0 z;have B:iI w (X j3 0)=bD:=h.bS;let⟨b,e⟩:∃b,cP w (X j3 0) (iD 1)=b:=⟨_,rfl⟩;have a:vY b j3 s 1 q:=e▸h.jh 1;have l:I (λk=>k=j3) w b:=e▸(iQ j3 w);have:bA b (X j3 5)=M (aO bD):=r▸a.bW 5 z;have:=a.bW 6 z;have:=a.bW 7 z;have:=a.bW 10 z;have:=a.bW 11 z;have:=a.bW 12 z;have:=a.bW 13 z;have:=a.bW 16 z;have:iI b (X j3 16)=bD:=a.bS;have:iI b (X j3 5)=bD:=a.bS;have:iI b (X j3 7)=bD:=a.bS;have:iI b (X j3 10)=bD:=a.bS;have:iI b (X j3 11)=bD:=a.bS;have:iI b (X j3 12)=bD:=a.bS;have:iI b (X j3 13)=bD:=a.bS;let⟨d,c⟩:∃d,cP (cP (cP (cP (cP (cP (cP b (X j3 5)<|aO cz) (X j3 7) aF) (X j3 10) aF) (X j3 11) aF) (X j3 12) aF) (X j3 13) aF) (X j3 16) (.map dE)=d:=⟨_,rfl⟩;have j:vY d j3 s.BC 1 q:=by have C:=aY (i:=16) (u:=.map dE)<|aY (i:=13) (u:=aF)<|aY (i:=12) (u:=aF)<|aY (i:=11) (u:=aF)<|aY (i:=10) (u:=aF)<|aY (i:=7) (u:=aF)<|aY (i:=5) (u:=aO cz) a;rwa[c]at C
 have m:I (λk=>k=j3) w d:=by rw[<-c];exact((((((l.aL j3 5 _<|J z).aL j3 7 _<|J z).aL j3 10 _<|J z).aL j3 11 _<|J z).aL j3 12 _<|J z).aL j3 13 _<|J z).aL j3 16 _<|J z
 have g:=m.aL j3 0 (iD 0)<|J z;have t:=ak<|show rE (d.setCell (X j3 0)<|iD 0) q v/\vY (d.setCell (X j3 0)<|iD 0) j3 s.BC 0 q/\I (λk=>k=j3) w (d.setCell (X j3 0)<|iD 0)from⟨o.aA g<|o.pL (j3:=j3) h,j.jh 0,g⟩;have A:=j.bW 0 z;have D:iI d (X j3 0)=bD:=j.bS;have:=j.bW 6 z;have n:=ak c;clear h a l r o j m g c;go_enter_defers func21,ntmps21
 go_wp21;go_call ng (X j3 0) _ x B as E w'⟨rfl,p⟩;rw[e]at p;subst w';go_wp2;rw[ag n];exact fD A D ⟨_,gH z _ _ _,z,t⟩
def WJ{w:Z}{j3:R}{s:SR}{f:ae}(h:zd w j3 s 0 f):cR bN 21 #[aJ j3] w λg w'=>∃v,g=aN v/\Q1 w' v/\(∃l,zd w' j3 l 0 f)/\I (λk=>k=j3) w w':=by
 by_cases a:s.d=cz;(.go_call WK h.g a as g w'⟨rfl,b,e⟩;exact⟨_,z,⟨⟨_,_,z⟩,J z⟩,⟨s,b,J a⟩,e⟩);obtain q|⟨q,m,rfl,j,i⟩:=h.l;exact absurd q a;have b:vY w j3 s 0 q:=h.g;go_call WM b (dV a) j as g w'⟨rfl,d,c,e⟩;exact⟨_,z,⟨⟨_,_,z⟩,bu ⟨q,z,m,d,i⟩⟩,⟨s.BC,c,J z⟩,e⟩
def LQ{w:Z}{j3:R}{s:SR}{f:ae}(h:oW w j3 s 0 f):cR bN 208 #[aJ j3] w λi w'=>i=aN (aO s.d)/\oW w' j3 s 0 f/\I (λk=>k=j3) w w':=by
 have c:=h.bW 0 z;have e:iI w (X j3 0)=bD:=h.bS;have a:=h.jh 1;have:=a.bW 5 z;have d:=a.bW 0 z;have g:iI (cP w (X j3 0)<|iD 1) (X j3 0)=bD:=a.bS;have b:=ak<|show oW (cP (cP w (X j3 0)<|iD 1) (X j3 0)<|iD 0) j3 s 0 f/\I (λk=>k=j3) w (cP (cP w (X j3 0)<|iD 1) (X j3 0)<|iD 0)from⟨a.jh 0,(iQ j3 w).aL j3 0 _<|J z⟩;clear h a;go_enter_defers func208,ntmps208
 go_wp2_with(go_at_call 47;refine(ng (X j3 0) _ c e).mono ?_;rintro i w'⟨rfl,rfl⟩)
 exact fD d g ⟨_,gH z _ _ _,z,b⟩
end
section
open Conc.Locks
def wz{w:Z}{j3 b:R}{s:SR}{F:Y}(o:Y)(sn:gJ)(h:cU w j3 s F)(v:s.d=bD)(t:s.n=M b)(k:kP w b (Dn sn)):cR bN 93 #[aJ j3,.int .i64 o] w λr p=>r=.returned (match za sn o with|some D=>.tuple #[.int .u64 (D:Y),ic]|none=>.tuple #[.int .u64 0,uf 5])/\gD (G<|H w) w p:=by
 have l:=mY h;rw[v]at l;simp only[lj,mA]at l;let⟨E,j,n,x,A⟩:=cZ Ub
 have i:=ak (show∀e,gD (G<|H w) w e->bA e (X j3 16)=M (.map<|M b)/\(Instr.lookup 94 (.map<|M b) (ay o) cz).run bN e=.ok (de #[((za sn o).map (λb:R=>bw b)).getD<|bw 0,aO ((za sn o).map (λb:R=>bw b)).isSome]) e fromλe f=>by
  refine⟨?_,?_⟩
  .rw[<-t];exact(h.aA (I.p (S:=aC) f) id).u z
  .rw[<-TB];exact G3 underlying94 underlying3 j n (k.dU (f.block _ k.lt)) o)
 clear h t k;have g:cR bN 49 #[aJ j3] w λr p=>r=aN ic/\gD (G<|H w) w p:=l;have u:uf 5=.iface 47 (ay 5):=rfl;rw[u];cases hg:za sn o with
 |none=>
  rw[hg]at i;clear hg;go_in
  go_wp21;go_call g as r e⟨rfl,f⟩;let⟨B,q⟩:=i e f;simp only[Option.map_none,sR,Option.isSome_none]at q;go_wp2;go_ret2
  simp_all
 |some D=>
  rw[hg]at i;clear hg;go_in
  go_wp21;go_call g as r e⟨rfl,f⟩;let⟨B,q⟩:=i e f;simp only[Option.map_some,lf,Option.isSome_some]at q;go_wp2;go_ret2
  simp_all
def uc(w:Z)(v:ae):Prop:=v=ic\/(∃n:Y,1<=n/\n<=100/\v=uf n)\/∃q,v=eW q/\tD w q
def Xm(j5:Prop)(j4:cy af)(w f:Z)(j3:R)(s:SR)(K:DK)(m:dB)(a b c d:dI)(C N:R)(sn:gJ):Prop:=∃e,gl w f s.f j3 K e/\wS K e/\cU f j3 s 0/\Inv j5 j4 f j3 s e m a b c d C N sn
def Au.J7{j5:Prop}{j4:cy af}{w i:Z}{j3:R}{s:SR}{K:DK}{m:dB}{a b c d:dI}{C N:R}{sn:gJ}(h:Au w i j3 s K m a b c d C)(n:Inv j5 j4 w j3 s K m a b c d C N sn)(e:j3<G (H w)):Xm j5 j4 w i j3 s K m a b c d C N sn:=by
 let⟨j,f,k,g,o,l,p⟩:=h;exact⟨j,f,g.2,l,n.eQ (s':=s) e f (by rw[k]) (g.1▸aq _) rfl⟩
def uQ.km(w e:Z):uQ w e aF []:=ct _ _ _ _
def l9(g:af)(f:Y):∀(l e:kW),y (Ef g f e l)<=y e+y l:=by
 intro l;induction l with
 |nil=>intro e;simp[Ef]
 |cons p l h=>
  intro e;rw[Ef];split
  .simp
  .split
   .simp
   .have:=h<|e++[p];simp at this|-;omega
def DG(g:Y)(h i:af)(e:Y)(f:iG):y (Gs g h i e f)<=y f.flatten:=by
 have k:=l9 i e (((QH g h f).filter<|λj=>!j.dP).map BR) [];have:=gN (λj:E=>!j.dP)<|QH g h f;have:=Uk g h f;unfold Gs;simp at k;omega
section
variable{j5:Prop}{j4:cy af}{w:Z}{j3:R}{s:SR}{K:DK}{m:dB}{a b c d:dI}{C N:R}{sn:gJ}
def Ud(e:af)(f:Y)(m8:cy (ae×dB))(h:Z):∃x g v,SE e f m8=de #[aw x,aO g,v]/\uc h v:=by
 unfold SE;split
 .cases zD f e m8 with
  |none=>exact⟨_,_,_,z,J z⟩
  |some i=>exact⟨_,_,_,z,J z⟩
 exact⟨_,_,_,z,bu<|J ⟨3,cg,cg,z⟩⟩
def Pv(e:af)(h:cU w j3 s 0)(i:Inv j5 j4 w j3 s K m a b c d C N sn)(l:s.d=bD)(p:e.size<=140737488351232):cR bN 17 #[aJ j3,aw e] w λk f=>∃x g v,k=aN (de #[aw x,aO g,v])/\uc f v/\Xm j5 j4 w f j3 s K m a b c d C N sn:=by
 go_call Pt e h i.st l p as k f⟨rfl|⟨_,q,rfl,n⟩,j⟩;let⟨x,g,v,k,o⟩:=Ud e s.S (pI s m a b c d) f;exact⟨x,g,v,by rw[k],o,j.J7 i<|az h⟩;exact⟨_,_,_,z,bu<|bu ⟨q,z,n⟩,j.J7 i<|az h⟩
def Jn(j i:af)(e:Y)(h:cU w j3 s 0)(f:Inv j5 j4 w j3 s K m a b c d C N sn)(n:s.d=bD):cR bN 59 #[aJ j3,aw j,aw i,ay e] w λr g=>∃v,∃t:kW,∃k,r=aN (de #[v,k])/\uQ w g v t/\y t<=40000000000/\uc g k/\Xm j5 j4 w g j3 s K m a b c d C N sn:=by
 go_call UY j i e h f.st n as r g⟨⟨v,rfl,o⟩|⟨_,q,rfl,p⟩,l⟩;exact⟨v,_,_,z,o,Lu (DG s.S j i e<|m::lM a b c d) f.st.p f.st.v,J z,l.J7 f<|az h⟩;exact⟨_,[],_,z,uQ.km _ _,ar,bu<|bu ⟨q,z,p⟩,l.J7 f<|az h⟩
def XM(E A:af)(h:cU w j3 s 0)(S:Inv j5 j4 w j3 s K m a b c d C N sn)(hc:s.d=bD):cR bN 206 #[aJ j3,aw E,aw A] w λac o=>∃F,∃D:kW,ac=aN F/\uQ w o F D/\y D<=40000000000/\Au w o j3 s K m a b c d C:=by
 have u:=az h;have B:sE (vw K.ah) w j3 s K m a b c d C:=S.st;have t:=lQ B.f B.l 1;have Q:=h.jh 1;have aa:G (H<|cP w (X j3 0)<|iD 1)=G (H w):=gK;generalize hW:cP w (X j3 0) (iD 1)=j at t Q aa;have v:=mY Q;rw[hc]at v;have x:cR bN 49 #[aJ j3] j λac o=>ac=aN ic/\gD (G<|H j) j o:=v;have HX:=ak<|λe(n:gD (G<|H j) j e)=>tP (j4:=True) (W2:=e) Q B u t n;have HG:=ak (show∀e g F D,gD (G<|H j) j e->uQ e g F D->uQ w (cP g (X j3 0)<|iD 0) F D fromλe g F D n hg=>by have:uQ w g F D:=fj hg<|bP n.size;exact this.xA u);have HB:=ak<|show y (Gs s.S E A 0<|m::lM a b c d)<=40000000000 from Lu (DG s.S E A 0<|m::lM a b c d) S.st.p S.st.v;have L:=ak<|Qy.bI (j4:=True) B.f;go_enter_defers func206,ntmps206
 go_wp21;go_call ng (X j3 0) _ (cU.bW h 0 rfl) (h.bS:iI w (X j3 0)=bD)as ac o⟨rfl,ab⟩;rw[hW]at ab;subst o;go_wp21;go_call x as ac e⟨rfl,n⟩;let⟨r,W,i⟩:=HX e n;have V:=Ot E A 0 s.S L (λ_=>trivial) r W;have:=cU.bW r 9 z;have p:=ak<|λg F D=>HG e g F D n;go_wp21;go_call V as ac g(⟨v2,rfl,f,k,l⟩|⟨px,pc,ps,⟨hx,q,rfl,hq,k,l⟩,f,T⟩);(.obtain⟨px,pc,rfl⟩:=aM f;let⟨O,P,hF,_⟩:=i g k l;go_wp2;exact fD O P ⟨_,gH z _ _ _,am px _ pc,_,z,(ak<|p _ _ _ f),HB,hF.xD⟩);obtain⟨O,P,hF,hC⟩:=i g k l;go_wp2;exact fD O P ⟨_,gH z _ _ _,am px _ pc,ps,z,(ak<|p _ _ _ f),T,hF.xD⟩
def UZ(ad:Y)(lo W:af)(e:Y)(h:cU w j3 s 0)(A:Inv j5 j4 w j3 s K m a b c d C N sn)(hc:s.d=bD):cR bN 90 #[aJ j3,ay ad,aw lo,aw W,ay e] w λac u=>∃Q,∃P:kW,∃ev,ac=aN (de #[Q,ev])/\uQ w u Q P/\y P<=40000000000/\uc u ev/\Au w u j3 s K m a b c d C:=by
 have D:=az h;have E:sE (vw K.ah) w j3 s K m a b c d C:=A.st;have c0:=cU.bW h 0 z;have f0:iI w (X j3 0)=bD:=h.bS;have n:=lQ E.f E.l 1;have L:=h.jh 1;have ab:G (H<|cP w (X j3 0)<|iD 1)=G (H w):=gK;generalize hW:cP w (X j3 0) (iD 1)=F at n L ab;let⟨mb,q1,q2,q3⟩:=(A.f.eQ n).ex;have f:=wz ad sn L hc q1 q2;have HX:=ak<|λi(k:gD (G<|H F) F i)=>tP (j4:=True) (W2:=i) L E D n k;have HG:=ak (show∀i o Q P,gD (G<|H F) F i->uQ i o Q P->uQ w (cP o (X j3 0)<|iD 0) Q P fromλi o Q P k O=>by have:uQ w o Q P:=fj O<|bP k.size;exact this.xA D);have S:=ak<|Qy.bI (j4:=True) E.f;have T:=ak<|show y (m::lM a b c d).flatten<=3000000000 from gW A.st.p A.st.v;clear h A E n L q1 q2 q3;cases O:za sn ad with
 |none=>
  rw[O]at f;simp only at f;rw[SO]at f;go_enter_defers func90,ntmps90
  go_wp21;go_call ng (X j3 0) _ c0 f0 as ac u⟨rfl,t⟩;rw[hW]at t;subst u;go_wp21;go_call f as ac i⟨rfl,k⟩;let⟨l,j,g⟩:=HX i k;let⟨v,x,hF,_⟩:=g i j.GR<|I.bI _ _;clear l j g k f;go_wp2;exact fD v x ⟨_,jx z _ _ _,aF,[],_,z,uQ.km _ _,ar,bu<|J ⟨5,cg,cg,z⟩,hF.xD⟩
 |some al=>
  rw[O]at f;simp only at f;go_enter_defers func90,ntmps90
  go_wp21;go_call ng (X j3 0) _ c0 f0 as ac u⟨rfl,t⟩;rw[hW]at t;subst u;go_wp21;go_call f as ac i⟨rfl,k⟩;let⟨l,j,g⟩:=HX i k;have aa:=TG lo W e al S (λ_=>trivial) l j;have V:=ak<|λo Q P=>HG i o Q P k;clear l j k f;go_wp2_with fail
  apply aa.mono;rintro ac o(⟨v2,rfl,B,p,r⟩|⟨hx,q,rfl,hq,p,r⟩)
  .obtain⟨px,pc,rfl⟩:=aM B;obtain⟨v,x,hF,_⟩:=g o p r;go_wp2;exact fD v x ⟨_,jx z _ _ _,am px _ pc,_,_,z,(ak<|V _ _ _ B),gW (DG al lo W e<|m::lM a b c d)<|ag T,J z,hF.xD⟩
  .obtain⟨v,x,hF,hC⟩:=g o p r;go_wp2;exact fD v x ⟨_,jx z _ _ _,aF,[],_,z,uQ.km _ _,ar,bu<|bu ⟨q,z,(ak<|hC q hq)⟩,hF.xD⟩
def ZB(ab:Y)(o:af)(h:cU w j3 s 0)(A:Inv j5 j4 w j3 s K m a b c d C N sn)(hc:s.d=bD)(hz:o.size<=140737488351232):cR bN 88 #[aJ j3,ay ab,aw o] w λS u=>∃aa g9 Q,S=aN (de #[aw aa,aO g9,Q])/\uc u Q/\Au w u j3 s K m a b c d C:=by
 have D:=az h;have F:sE (vw K.ah) w j3 s K m a b c d C:=A.st;have c0:=cU.bW h 0 z;have f0:iI w (X j3 0)=bD:=h.bS;have n:=lQ F.f F.l 1;have O:=h.jh 1;have V:G (H<|cP w (X j3 0)<|iD 1)=G (H w):=gK;generalize hW:cP w (X j3 0) (iD 1)=L at n O V;let⟨mb,q1,q2,q3⟩:=(A.f.eQ n).ex;have e:=wz ab sn O hc q1 q2;have HX:=ak<|λg(j:gD (G<|H L) L g)=>tP (j4:=True) (W2:=g) O F D n j;have HG:=ak (show∀g k Q W,gD (G<|H L) L g->uQ g k Q W->uQ w (cP k (X j3 0)<|iD 0) Q W fromλg k Q W j P=>by have:uQ w k Q W:=fj P<|bP j.size;exact this.xA D);have T:=ak<|Qy.bI (j4:=True) F.f;have:=ak<|show y (m::lM a b c d).flatten<=3000000000 from gW A.st.p A.st.v;clear h A F n O q1 q2 q3;cases P:za sn ab with
 |none=>
  rw[P]at e;simp only at e;rw[SO]at e;go_enter_defers func88,ntmps88
  go_wp21;go_call ng (X j3 0) _ c0 f0 as S u⟨rfl,t⟩;rw[hW]at t;subst u;go_wp21;go_call e as S g⟨rfl,j⟩;let⟨l,i,f⟩:=HX g j;let⟨v,x,hF,_⟩:=f g i.GR<|I.bI _ _;clear l i f j e;go_wp2;exact fD v x ⟨_,lA z _ _ _,_,_,_,z,bu<|J ⟨5,cg,cg,z⟩,hF.xD⟩
 |some aa=>
  rw[P]at e;simp only at e;go_enter_defers func88,ntmps88
  go_wp21;go_call ng (X j3 0) _ c0 f0 as S u⟨rfl,t⟩;rw[hW]at t;subst u;go_wp21;go_call e as S g⟨rfl,j⟩;let⟨l,i,f⟩:=HX g j;let⟨B,rx,ry,rz,E⟩:=JT o aa T (λ_=>trivial) l i hz;rw[E]at B;have:=ak<|λk Q W=>HG g k Q W j;clear l i j e;go_wp21;apply B.mono;rintro S k(⟨rfl,p,r⟩|⟨hx,q,rfl,hq,p,r⟩)
  .obtain⟨v,x,hF,_⟩:=f k p r;go_wp2;refine fD v x ?_;obtain⟨x',y',v',S,hv⟩:=Ud o aa (pI s m a b c d)<|cP k (X j3 0)<|iD 0;exact⟨_,lA z _ _ _,x',y',v',by rw[<-S,E];rfl,hv,hF.xD⟩
  .obtain⟨v,x,hF,hC⟩:=f k p r;go_wp2;exact fD v x ⟨_,lA z _ _ _,_,_,_,z,bu<|bu ⟨q,z,(ak<|hC q hq)⟩,hF.xD⟩
end
end
section
open Shelf
attribute [local go_sem] Oper.semAt_some
def Wv(a:R)(s:SR)(f:ae):jv:=⟨λw=>oW w a s 0 f,λk=>k=a,λ{_ _ _}h d c=>(d.A a (az h)<|λe=>c _ e rfl).trans h,λ{_ _}h b=>by subst b;exact az h,False⟩
def Ul(p:KV):Array ae:=#[aw p.1,aw p.2]
def Kq(n0 cj:R)(l:R)(bo:SR)(bt:ae)(e:kW)(ab:fF a b d 55)(aa:fF a c (aJ l) 36)(hr:Row a 2 d (y e) (iS e))(h1:b≠l)(h2:c≠l)(h3:∀k,cN d=M k->k<G (H a)/\k≠l)(bT:l<n0)(ao:n0<=G (H a))(ca:y e<=40000000000):Uo Ul (Wv l bo bt) n0 cj 207 #[aJ b,aJ c] (if bo.d then []else e) (λk=>k=b\/k=c\/cN d=M k) a:=by
 intro lr cc Jx ce ch hs hD hJ W q ax hY;let⟨cb,F,hv⟩:=cG hr;have bE:bA ch (X b 0)=M d:=hs.u (J<|J z) ab.u;have C:∀k,(k=b\/k=c\/cN d=M k)->k<G (H a)/\k≠l:=by grind
 let⟨n,HB,HR,bx,HS,HJ⟩:=nU C aa hr h3 hs hJ;let⟨HD,bc,HY,N,O⟩:=oa hD W hY q ax;clear ab aa hr h3 hs hJ W q ax hY hD C h1;subst hv;let⟨P,ac⟩:∃P,bo.d=P:=⟨_,rfl⟩;rw[ac]at HY|-;let⟨bv,hl⟩:∃bv,(if P=cz then []else e)=bv:=⟨_,rfl⟩;rw[hl]at HY|-;have L:=ak hl;clear hl;refine th func207 z trivial ?_ z;simp only[ntmps207,gp,bK,eE,ke,Nat.reduceSub,fh,fc,gq,fH,ep,dt];gi_wp2;gi_loopw [8] (λi wr=>∃(r:R)(D:fC),i=ay (r:Y)/\r<=y e/\(P=cz->r=0)/\cc (e.take r) D wr/\oW wr l bo 0 bt/\(∀k,(k=b\/k=c\/cN (am cb (y e) F)=M k)->¬D k)/\la (Wv l bo bt) n0 (λk=>k=b\/k=c\/cN (am cb (y e) F)=M k) a wr) (λi _=>y e-(intOf i).toNat)
 exact⟨0,ce,dM,bQ _,λ_=>rfl,HJ,HD,bc,HS⟩
 .obtain⟨r,D,rfl,hj,al,V,u,B,f⟩:=hrel;have A:=ak B;clear B;by_cases q:r<y e
  .have e1:(r:Y)<(y e:Y):=U;have e2:(0:Y)<=(r:Y):=U;have hg:=pY e r q;have ad:∃br i,cb=M (X br i)/\bA wr (X br<|i+r*2)=M (aw e[r].1)/\bA wr (X br<|i+r*2+1)=M (aw e[r].2):=by
    obtain⟨q1,⟨q2,q0⟩|⟨aD,S,an,q2,ap,hc⟩⟩:=ag HR
    .omega
    .cases q2;exact⟨aD,S,z,f.u (J<|bu<|bu z)<|hc _ _ hg.1,f.u (J<|bu<|bu z) (by rw[bJ];grind)⟩
   let⟨br,i,hx,bk,bl⟩:=ad;subst hx;have bL:bA wr (X c 0)=M (aJ l):=f.u (J<|bu<|J z) HB.u;have av:l<G (H wr):=az u;have bp:c<G (H wr):=au (az HB) f.1;have x:=ak (show(e.take r++[e[r]])<+:e/\e.take r++[e[r]]=e.take (r+1)by
    rw[<-aG q];grind)
   let⟨K,aU,bd,aV⟩:=js V u f al;clear V u f hg al;generalize e[r]=pj at*;let⟨v,w⟩:=pj;simp only at bk bl;have HQ:=ak (show∀t,I (λk=>k=l) (dw wr<|aK #[aw v,aw w] 142) t->cc (e.take r) D t/\bA t (X (G<|H wr) 0)=M (aw v)/\bA t (X (G<|H wr) 1)=M (aw w)/\I (λk=>k=l) wr t fromλt g=>by
    have ap:I aC wr (dw wr (aK #[aw v,aw w] 142)):=(cI aC wr);have an:(dw wr (aK #[aw v,aw w] 142)).heap[G (H wr)]?=M (aK #[aw v,aw w] 142 (0,0)):=aQ _ z;have S:=(g.A _ (az an) U).trans an;refine⟨O _ _ _ _ _ (O _ _ _ _ _ K ap cY) g (λk j=>⟨λF=>?_,J j⟩),by rw[cE S];rfl,by rw[cE S];rfl,(ap.aT (T:=λk=>k=l) cY).aj g (λk j=>J j)⟩;have:=(N _ _ _ K k F).1;omega)
   have Q:oW (dw wr<|aK #[aw v,aw w] 142) l bo 0 bt:=(((I.bI aC wr).aE<|aK #[aw v,aw w] 142).A l av id).trans aU;have s:=LQ Q;rw[ac]at s;clear Q;cases P with
   |true=>
    have h0:r=0:=aV z;have HZ:=ak h0;clear h0;gi_wp2_with(refine⟨trivial,(λF=>(by cases F)),?_⟩;gi_at_call 208;refine(ew.2 s).mono ?_;rintro cd t⟨rfl,p,g⟩;let⟨o,k0,k1,m⟩:=HQ t g;have E:=ak o;have S:=ak p;clear o p m g)
    refine⟨λ_ h=>(by cases h),?_⟩;gi_wp2;refine ci (jc z _ _ _) z ?_;refine⟨⟨_,z⟩,J ⟨D,?_,S⟩⟩;rw[<-ag L];have:=ag E;rwa[ag HZ]at this
   |false=>
    have an:e=bv:=ag L;have bm:(e.take r++[(v,w)])<+:bv:=x.1.trans (by rw[an];grind);clear an;gi_wp2_with(refine⟨trivial,(λF=>(by cases F)),?_⟩;gi_at_call 208;refine(ew.2 s).mono ?_;rintro cd t⟨rfl,p,g⟩;let⟨o,k0,k1,m⟩:=HQ t g;let⟨fn,bq,aD,body,hy,hR⟩:=HY (e.take r) (v,w) D t bm o p;unfold Ul at hy;simp only at hy;have bb:=ak hR;have E:=ak o;have:=ak p;have bf:=ak m;clear o p m g hR)
    refine⟨(λF=>(by cases F)),bb.mono ?_⟩;rintro cd W3(⟨rfl,bh,B3,S,bi,bg⟩|⟨rfl,hx⟩)
    .have ba:=ak S;clear S;gi_wp2;go_roundw
     .have f:=ag bd;have m:=ag bf;have bn:=m.D;have ap:=f.1;refine⟨r+1,B3,dM,q,(λF=>(by cases F)),((ag x).2▸ba),bh,λk j bs=>?_,?_⟩
      .have:=(n k j).1;obtain bs|bs:=bg k bs
       .exact A k j bs
       .omega
      .refine f.aj<|(m.bM (aR ao ap) (λk j=>⟨bP<|(n k j).1,(n k j).2⟩)<|λk j _=>j).aj ?_;exact bi.bM (aR ao<|aR ap bn) (λk j=>⟨bP<|(n k j).1,A k j⟩)<|λk j a=>bP<|(N _ _ _ E k j).1
     .simp[intOf];omega
    .have HX:=ak hx;clear hx;gi_wp2;exact ci (jc z _ _ _) z ⟨⟨_,z⟩,bu ⟨_,HX⟩⟩
  .have:¬(r:Y)<(y e:Y):=U;have:r=y e:=U;clear f;gi_wp2;refine xW (jc z _ _ _) z ?_;refine⟨⟨_,z⟩,J ⟨⟨D,?_⟩,u⟩⟩;grind[ag,take_of_length_le]
structure Ku(w w':Z)(sb:R)(v:ae)(ps:kW)(bt bs:R):Prop where
 l:v=.func (.func 207) #[] #[aJ bt,aJ bs]
 bV:∃u,fF w' bt u 55/\uQ w w' u ps
 D:fF w' bs (aJ sb) 36
 ge:G (H w)<=bt/\G (H w)<=bs
def A8(w:Z)(c:R)(q o:af)(P:kW->Z->Prop)(p:∀W,I aC w W->G (H w)<G (H W)->cR bN 206 #[aJ c,aw q,aw o] W λs d=>∃r,∃a:kW,s=aN r/\uQ W d r a/\W.heap[G<|H w]?=d.heap[G<|H w]?/\P a d)(v:∀a W B,P a W->P a (dw W B)):cR bN 140 #[aJ c,aw q,aw o] w λs d=>∃A u t,∃a:kW,s=aN A/\Ku w d c A a u t/\P a d:=by
 have i:I aC w (dw w<|aK #[aJ c] 36):=(cI aC w);have j:=p _ i ar;have m:fF (dw w<|aK #[aJ c] 36) (G<|H w) (aJ c) 36:=aQ _ z;clear p i;go_in
 go_wp21;go_call j as s D⟨C,a,rfl,b,g,f⟩;let⟨x,c1,n⟩:=aM b;subst n;let⟨k,l,e⟩:=eU b f<|g.symm.trans m;clear b g f j;go_wp2;go_ret;refine⟨_,_,_,a,z,⟨z,⟨_,aQ _ z,?_⟩,?_,?_⟩,v _ _ _ l⟩;have:=ag k;unfold uQ at this|-;exact fj (bC this<|aK #[am x (y a) c1] 55) ar;exact fF.aE e _;have:=az e;omega
end
section
open Shelf
attribute [local go_sem] Oper.semAt_some
def CA(b:Z)(e:R)(d:fC)(a:Y)(c:kW)(B:fC)(W:Z):Prop:=Acc d b [(G<|H b,ay a,3)] (G (H b)+1) 55 142 2 e (y c) (iS c) B W
def EI(w:Z)(f:R)(bt:SR)(bL:ae)(lo hi:af)(a:Y)(dv:kW->Z->Prop)(E:fC)(dx:0<a)(dc:f<G (H w))(hF:∀k,E k->k<G (H w))(hA:∀W,I aC w W->G (H W)=G (H w)+2->cR bN 140 #[aJ f,aw lo,aw hi] W λea w'=>∃ca bE bx,∃i:kW,ea=aN ca/\Ku W w' f ca i bE bx/\I E W w'/\dv i w')(ei:E f)(bi:∀i W,dv i W->oW W f bt 0 bL/\(bt.d=cz->i=[])/\y i<=40000000000)(bk:∀i W W',dv i W->I (λk=>k=f\/k=G (H w)\/k=G (H w)+1) W W'->oW W' f bt 0 bL->dv i W'):cR bN 87 #[aJ f,aw lo,aw hi,ay a] w λea w'=>∃v',∃i:kW,ea=aN v'/\uQ w w' v' (i.take a.toNat)/\dv i w':=by
 let⟨i0,cM,dn,dr,ds⟩:=cZ zX;have e:I aC w (dw (dw w<|aK #[ay a] 3)<|aK #[aF] 55):=(cI aC w).aE _;have ab:fF (dw (dw w<|aK #[ay a] 3)<|aK #[aF] 55) (G<|H w) (ay a) 3:=fF.aE (aQ _ z) _;have ac:fF (dw (dw w<|aK #[ay a] 3)<|aK #[aF] 55) (G (H w)+1) aF 55:=aQ _ ar;have T:G (H<|dw (dw w<|aK #[ay a] 3)<|aK #[aF] 55)=G (H w)+2:=ar;have bm:=hA _ e T;have e0:¬a<=0:=U;let⟨HX,ch,bc,HF⟩:=js (And.intro e (And.intro ab (And.intro ac T))) bi bk hF;clear e ab ac T hA bi bk hF;refine(ew (n:=3)).1 ?_;refine callsIn_of_wp_marks func87 z trivial ?_ z;simp only[ntmps87,gp,bK,eE,ke,Nat.reduceSub,fh,fc,gq,fH,ep,dt];gi_wp2_with(refine⟨trivial,?_⟩;gi_at_call 140;refine(ew.2 bm).mono ?_;rintro ea p⟨v9,bE,bx,i,rfl,cB,t,bh⟩;let⟨dk,⟨u9,bo,O⟩,bn,bp⟩:=cB;subst dk;have bb:=ak bo;have cc:=ak O;have ba:=ak bn;have cd:=ak bp;have ck:=ak t;have ax:=ak bh;clear bo O bn bp t bh bm)
 let⟨cx,ab,ac,T⟩:=ag HX;let⟨bT,A⟩:∃bT,i.take a.toNat=bT:=⟨_,rfl⟩;let⟨cs,ek,dd⟩:=ch _ _ ax;have cT:(if bt.d=cz then []else i)=i:=by grind
 have t:=ag ck;have hF:=ag HF;have eq:=t.D;let⟨em,el⟩:=ag cd;have ej:fF p (G<|H w) (ay a) 3:=(t.A _ (az ab)<|λg=>bP<|hF _ g).trans ab;have cn:CA w (G<|H p) E a [] (λk=>k=G (H w)\/k=G (H w)+1) p:=by refine⟨λer hp=>?_,⟨aF,((t.A _ (az ac)<|λg=>bP<|hF _ g).trans ac:fF p (G (H w)+1) aF 55),ct _ _ _ _,λk=>?_⟩,λer hp=>?_,⟨U,U⟩,((cx.aT (T:=E) cY).aj t (λ_ g=>J g):I E w p)⟩;rw[bY]at hp;rwa[hp];simp[cN];omega;grind
 have O:=ag cc;have bq:∀k,cN u9=M k->G (H w)+2<=k/\k<G (H p):=λk c=>by have:=O.lt k c;rwa[T]at this
 have P:=Kq (G<|H w) 2 f bt bL i bb ba (dQ O) U U (λk c=>⟨(bq k c).2,bP<|(bq k c).1⟩) dc U dd;rw[cT]at P;refine Ev (m:=3) (V:=Wv f bt bL) (n0:=G<|H w) (gf:=207) (lb:=#[aJ bE,aJ bx]) (l:=i) (S:=λk=>k=bE\/k=bx\/cN u9=M k) ?geval (enters_of func207 aH z) (λ_=>rfl) P cs U ?slt (λb av W=>CA w (G<|H p) E a b av W/\I (λk=>k=f\/k=G (H w)\/k=G (H w)+1) p W/\(y b:Y)<a) (λg _ av W=>g=.exit 0/\CA w (G<|H p) E a bT av W/\I (λk=>k=f\/k=G (H w)\/k=G (H w)+1) p W/\oW W f bt 0 bL) (λk=>k=G (H w)\/k=G (H w)+1) ⟨cn,I.bI _ _,aI⟩ ?sb ?lt ?st ?xst ?body ?done ?stop;rfl;rintro k(g|g|g);rw[g];exact az bb;rw[g];exact az ba;grind
 grind
 rintro b av W⟨h,_⟩k c;exact h.lt k c;rintro b av W W' ec⟨h,s,v⟩ht hT;refine⟨h.gR ht<|λk c=>⟨(hT k c).1,?_⟩,s.aj ht<|λk c=>?_,v⟩;(obtain g|g:=(hT k c).2;left;rwa[show k=f from g];grind);obtain g|g:=(hT k c).2;exact J<|J g;exact bu g;rintro g b av W W' ec⟨v,x,B,s⟩ht hT;exact⟨v,x.gR ht<|λk c=>⟨(hT k c).1,bu<|bP<|(hT k c).2⟩,B.aj ht<|λk c=>bu (hT k c).2.1,(ht.A f (az s)<|λg=>bP<|(hT _ g).2).trans s⟩
 .rintro lr b es av W en cm dT ap⟨N,j,db⟩r;let⟨xk,xv⟩:=es;have:y b+1<=40000000000:=by
   have:=ap.length_le;grind
  unfold Ul;simp only;gi_wp2;refine⟨I.bI _ _,λW2 e=>?_⟩;have ad:CA w (G<|H p) E a b av W2:=N.gR e<|λk c=>aI;let⟨ca,hv,d,o⟩:=ad.bV;have cv:bA W2 (X (G (H w)+1) 0)=M ca:=hv.u;have:iI W2 (X (G (H w)+1) 0)=bD:=hv.bS;have:G (H w)+1<G (H W2):=az hv;let⟨L,K,aa⟩:=aM d;have:G (H p)<=G (H W2):=gW j.D e.D;let⟨bd,cb,HV,q,D,cj⟩:=nU (ad.l (G<|H w,ay a,3) ar) ad hv d o e;clear ad hv d o e;subst aa;by_cases hq:(y b:Y)+1=a;case' pos=>have eo:((y b:Y)+1==a)=cz:=dV hq
  case' neg=>have:((y b:Y)+1==a)=bD:=dV hq
  all_goals
   gi_wp2_with(first
    |(gi_at_builtin;refine gm _ z (.tmp 21) (.tmp 25) 55 z (G (H p)) 142 i0 (.agg #[.string ⟨#[]⟩,.string ⟨#[]⟩]) 2 32 underlying55 cM dn dr ds z cg (.slice L (y b) K) (y b) (iS b) z (bC q (.cells #[.string xk,.string xv] 142)) (X (G (H W2)) 0) 1 1 (sg (xk,xv)) z z (Sx _ (xk,xv) _) (X9 _) U U dW ?_;intro v2 w3 s C;obtain⟨x,v,rfl⟩:=aM s;have Q:∀ed,ed<=G (H w)+1->¬cN (Value.slice L (y b) K)=M ed:=(λed hb g=>bP ((q.lt _ g).1));have B:fF w3 (G (H w)+1) (.slice L (y b) K) 55:=(C.dF.block _ (az (HV.aE (.cells #[.string xk,.string xv] 142))) (λg=>Q _ (aq _) g.symm)).trans (HV.aE _);have an:fF w3 (G (H w)) (.int .i64 a) 3:=(C.dF.block _ (az (bd.aE (.cells #[.string xk,.string xv] 142))) (λg=>Q _ U g.symm)).trans (bd.aE _);have:=B.u;have:=B.bS;have:=an.u;have:=az B;clear B an Q;have ce:=ak s;have cl:=ak C;clear s C))
   have d:=ag q;have bs:=ag cl;have cu:cN (am x (y b+1) v)=cN (am L (y b) K)\/∃eb,cN (am x (y b+1) v)=M eb/\G (H W2)<=eb:=by
    obtain eg|⟨eb,eg,hg⟩:=bs.f
    .exact J eg
    .exact bu ⟨eb,eg,by simp at hg;omega⟩
   let⟨B',q1,q2,q3⟩:=cb.jl HV D d (((I.bI (λk=>cN (am L (y b) K)=M k) W2).aE<|aK #[aw xk,aw xv] 142).aj (I.eF (S:=λk=>cN (am L (y b) K)=M k) bs.dF<|λk c=>J c) (λk c=>J c):I (λk=>cN (am L (y b) K)=M k) W2 w3) cu ce;have co:CA w (G<|H p) E a (b++[(xk,xv)]) B' (cP w3 (X (G (H w)+1) 0)<|am x (y b+1) v):=by
    unfold CA;rwa[Hl,ai]
   have e:=ag cj;have al:I (λk=>av k\/k=lr) W (cP w3 (X (G (H w)+1) 0)<|am x (y b+1) v):=(e.aT (T:=λk=>av k\/k=lr)<|λk c=>J<|bu c).aj q2<|λk c=>J<|J c;have:∀k,av k->k=G (H w)\/k=G (H w)+1\/G (H p)<=k:=λk c=>by
    obtain⟨er,hp,g⟩|g|g:=(D k).1 c
    .rw[bY]at hp;rw[hp]at g;grind
    .exact bu<|J g
    .exact bu<|bu (d.lt k g).1
   have bl:I (λk=>k=f\/k=G (H w)\/k=G (H w)+1) p (cP w3 (X (G (H w)+1) 0)<|am x (y b+1) v):=j.aj al (λk c=>by
    grind)
   have br:∀k,(av k\/k=lr)->k≠f:=λk c g=>by
    grind
   have bg:oW (cP w3 (X (G (H w)+1) 0)<|am x (y b+1) v) f bt 0 bL:=(Wv f bt bL).l r al br;have ao:(cP w3 (X (G (H w)+1) 0)<|am x (y b+1) v).heap[lr]?=W2.heap[lr]?:=q2.A lr (bP e.D) cm;have bf:∀k,B' k->av k\/G (H W)<=k:=λk c=>(q3 k c).imp_right<|λg=>bP e.D
  .exact⟨bg,B',⟨co,bl,by simp;omega⟩,al,ao,bf⟩
  .refine⟨B',⟨z,?_,bl,bg⟩,al,ao,bf⟩;have cr:bT=b++[(xk,xv)]:=by
    let⟨et,hr⟩:=ap;rw[<-A,<-hr,jR dW,fB dW]
   rwa[cr]
 (.rintro bv av W cp⟨N,j,db⟩aU r hK;have N:CA w (G<|H p) E a bT av W:=(by rw[<-A];grind[take_of_length_le]:bT=i)▸N;let⟨ca,hv,d,o⟩:=N.bV;have cv:bA W (X (G (H w)+1) 0)=M ca:=hv.u;obtain⟨L,K,aa⟩:=aM d;let⟨HC,q,D,F,HK,aD⟩:=nU N d o r hK j;clear N hv d o r hK j;subst aa;gi_wp2;have s:¬cN (am L (y bT) K)=M bv:=λg=>aU<|((ag D) _).2<|bu<|bu g;have u:=iC W bv<|.deferred dE;have aV:bv≠f:=U;refine⟨ar,J ⟨_,_,z,run_takeDeferred HK,?_⟩⟩;refine⟨_,gH z _ _ _,_,i,z,A.symm▸?_,bc _ _ _ ax (aD.aj u<|λk c=>aI) ((u.A f (az F)<|λg=>aV g.symm).trans F:oW (W.putObj bv<|.deferred dE) f bt 0 bL)⟩;exact fj (u.aZ (ag q)<|λk c g=>sO) U);(case stop=>rintro bv g b av W cp⟨rfl,N,j,r⟩aU hK;obtain⟨ca,hv,d,o⟩:=N.bV;have:bA W (X (G (H w)+1) 0)=M ca:=hv.u;obtain⟨L,K,aa⟩:=aM d;let⟨HC,q,D,F,HK,aD⟩:=nU N d o r hK j;clear N hv d o r hK j;subst aa;gi_wp2;have:¬cN (am L (y bT) K)=M bv:=λg=>aU<|((ag D) _).2<|bu<|bu g;have u:=iC W bv<|.deferred dE;have aV:bv≠f:=U;refine⟨ar,J ⟨_,_,z,run_takeDeferred HK,?_⟩⟩;refine⟨_,gH z _ _ _,_,i,z,A.symm▸?_,bc _ _ _ ax (aD.aj u<|λk c=>aI) ((u.A f (az F)<|λg=>aV g.symm).trans F:oW (W.putObj bv<|.deferred dE) f bt 0 bL)⟩;exact fj (u.aZ (ag q)<|λk c g=>sO) U)
end
def ma.km:ma []:=⟨ar,gG.km,ar⟩
def Yw{t:cH}(h:qF a b N W t):Qv a t:=by
 let⟨f,d,c,e,_⟩:=h.D;exact⟨_,_,_,_,_,_,_,_,_,e⟩
def YH{t:cH}(h:B8 a b t):Qv a t:=by
 let⟨e,c,x,d,h⟩:=h;exact⟨_,_,_,_,_,_,_,_,_,h.D⟩
def Er.D(h:Er N a f c k d l)(g:y l<=20000000000):jY a d l:=⟨h.bV,λj e=>(h.l j e).lt,λt i=>Yw<|h.bZ t i,g⟩
def Hi(w:Z):jY w aF []:=⟨⟨rfl,J ⟨rfl,rfl⟩⟩,λk a=>(by cases a),ar,ar⟩
def LS.L1{O P T:ae}{V p:dI}(h:LS a b c k f l [] n d w O P v C F V)(A:I (f.j b) a e)(L:(nX b f).D e)(s:sF e (G<|H a) p)(q:p.map cH.dq=jq i)(t:gG i)(j:sq 5 i)(r:∀aa∈i,aa.Good)(x:fE e (G<|H a) 235 1 T (y p) (p.map cH.D))(W:y i<=n):∃u,LS e b c k f l u n aF aF aF T [] [] [] p:=by
 have h':=h.aA A L;let⟨u,q0,B,D,E,q4,N⟩:=h.JF A s q t j r;rw[ep]at B D E;have m:=pR q;have g:Row e 1 aF (y ([]:dI)) (([]:dI).map cH.D):=⟨z,J ⟨z,z⟩⟩;refine⟨u,{h' with S:=B,fq:=D,r0:=g,r1:=g,r2:=g,r3:=dQ x,b0:=λQ o=>(by cases o),b1:=λQ o=>(by cases o),b2:=λQ o=>(by cases o),b3:=yt x h.j h.B h.le,x0:=ar,x1:=ar,x2:=ar,x3:=E,kh:=dV N,s1:=ma.km,s2:=ma.km,s3:=AH q s.bZ t j r,FX:=?_}⟩;have K:=FG<|λg e=>(uL q s.bZ t j r g e).1;rw[m]at K;have:im ([]:dI)=0:=rfl;omega
section
open Conc.Locks
def Lt{P:Program}{r:Oper}{g:Act}{K:Act->Z->Prop}{Q:Exit->Act->Z->Prop}(i A j:Operand)(x:TypeId)(f:r.op=Op.mapUpdate x i A j)(v B:TypeId)(o:P.underlying x=M (.map v B))(m:P.underlying v=M (.int .i64))(k:R)(w:ia)(n:g.eval i=.map (M k))(h:kP a k w)(b:Y)(c:ae)(q:g.eval A=ay b)(p:g.eval j=c)(l:∀d,kP d k (w.gL b c)->a.grownBy d (M k)->G (H d)=G (H a)->K (g.put r.dst jn) d):Oper.wp P r g a K Q:=by
 let⟨d,e,s,t,u⟩:=ND o m h b c;unfold Oper.wp;simp[execOp,f,n,q,p,e,Result.andThen];exact l d s t u
def Z8:uf 2=.iface 47 (ay 2):=rfl
def IG(t:gJ)(h:cU a b o 0)(x:sE (vw f.ah) a b o f i l v C F c)(s:MO a f b o t)(O:o.d=bD)(h4:4<=y t):cR bN 40 #[aJ b] a λL u=>L=aN (de #[ay 0,uf 2])/\Au a u b o f i l v C F c:=by
 have D:=az h;have V:=cU.bW h 0 z;have f0:iI a (X b 0)=bD:=h.bS;have e:=lQ x.f x.l 1;have w:=h.jh 1;generalize N:cP a (X b 0) (iD 1)=k at e w;let⟨mb,Q,K,q3⟩:=(s.eQ e).ex;have d:=mY w;rw[O]at d;have q:cR bN 49 #[aJ b] k λL u=>L=aN ic/\gD (G<|H k) k u:=d;let⟨T,S,A⟩:=eU (λj(m:gD (G<|H k) k j)=>And.intro (tP (j4:=True) (W2:=j) w x D e m) (K.dU<|m.block _ K.lt)) N Q;clear h x e w O N s Q K q3 d;rw[Z8];go_enter_defers func40,ntmps40
 go_wp21;go_call ng (X b 0) _ V f0 as L u⟨rfl,E⟩;rw[ag S]at E;subst u;go_wp21;go_call q as L j⟨rfl,m⟩;let⟨⟨n,r,g⟩,p⟩:=T j m;have:bA j (X b 16)=M (.map<|M mb):=ag A▸n.u z;have B:=NE (P:=bN) underlying94 p 3;have hl:y (Dn t)=y t:=by simp[Dn]
 rw[hl]at B;have:decide ((4:Y)<=(y t:Y))=cz:=uV U;let⟨W,g0,hF,_⟩:=g j r.GR<|I.bI _ _;clear n r g m p q h4;go_wp2;exact fD W g0 ⟨_,jx z _ _ _,z,hF.xD⟩
end
section
open Shelf
attribute [local go_sem] Oper.semAt_some
def Jh(n:Y)(c:jP a):cR bN 11 #[uf n] a λe b=>e=aN (ay n)/\gD (G<|H a) a b:=by
 unfold uf;grind[oz,QT]
def N6(w:Z)(c:MZ):Cf (dw w<|aK #[aw c.D,aw c.l,aO c.dP] 66) (bX (G<|H w) 0 1 1) [c]:=by
 refine⟨z,bu ⟨G<|H w,0,1,z,aq _,λj u a=>?_⟩⟩;rw[cE (aQ _ rfl:(dw w<|aK #[aw c.D,aw c.l,aO c.dP] 66).heap[G<|H w]?=M (aK #[aw c.D,aw c.l,aO c.dP] 66 (0,0))),ez];simpa[gM,oI]using a
def LA(a:Z)(c:R)(b:kW)(B:fC)(W:Z):Prop:=Acc (λk=>k=c) a [] (G<|H a) 55 142 2 (G (H a)+1) (y b) (iS b) B W
def Vr(ad:Z)(e:R)(lo hi F K:af)(E:eN)(eg:kW->Z->Prop)(cr:kW->SR->ae->ae->Z->Prop)(F0:fC)(em:e<G (H ad))(hF:∀k,F0 k->k<G (H ad))(hA:∀W,I aC ad W->G (H W)=G (H ad)+1->cR bN 140 #[aJ e,aw lo,aw hi] W λbb q=>∃eb bt bs,∃f:kW,bb=aN eb/\Ku W q e eb f bt bs/\I F0 W q/\eg f q)(hW:∀f s W ck,eg f s->I aC s W->Cf W (bX ck 0 1 1) [⟨F,K,E⟩]->ck<G (H W)->ck≠e->cR bN 15 #[aJ e,bX ck 0 1 1,aO bD] W λbb q=>∃l g i,bb=aN l/\oW q e g 0 i/\I F0 W q/\cr f g i l q)(hQ:∀f g i l W O,cr f g i l W->I (λk=>k=e) W O->oW O e g 0 i->cr f g i l O)(hE:∀f g i l W,cr f g i l W->∃ea,∀O,I aC W O->cR bN 11 #[l] O λbb q=>bb=aN (ay ea)/\gD (G<|H O) O q)(cc:∀f W,eg f W->y f<=40000000000):cR bN 139 #[aJ e,aw lo,aw hi,ef #[aw F,aw K,aO E]] ad λbb q=>∃v' g i l ea,∃f bc:kW,bb=aN (de #[v',ay ea])/\uQ ad q v' bc/\y bc<=40000000000/\cr f g i l q:=by
 let⟨i0,db,ds,dv,dx⟩:=cZ zX;have T:I aC ad (dw ad<|aK #[aw F,aw K,aO E] 66):=(cI aC ad);have ba:(dw ad<|aK #[aw F,aw K,aO E] 66).heap[G<|H ad]?=M (aK #[aw F,aw K,aO E] 66 (0,0)):=aQ _ z;have v:G (H<|dw ad<|aK #[aw F,aw K,aO E] 66)=G (H ad)+1:=ar;have bv:=hA _ T v;let⟨cp,HX,HW,HQ,HE,HF⟩:=nU cc (And.intro T (And.intro ba v)) hW hQ hE hF;clear T ba v hA hW hQ hE cc hF;refine(ew (n:=3)).1 ?_;refine callsIn_of_wp_marks func139 z trivial ?_ z;simp only[ntmps139,gp,bK,eE,ke,Nat.reduceSub,fh,fc,gq,fH,ep,dt];gi_wp2_with(refine⟨trivial,?_⟩;gi_at_call 140;refine(ew.2 bv).mono ?_;rintro bb p⟨v2,bt,bs,f,rfl,cT,c,bp⟩;let⟨dr,⟨u2,ca,t⟩,bL,cd⟩:=cT;subst dr;have aa:=(c.A _ (az HX.2.1)<|λD=>bP<|HF _ D).trans HX.2.1;have k0:bA p (X (G<|H ad) 0)=M (aw F):=(by rw[cE aa];rfl);have k1:bA p (X (G<|H ad) 1)=M (aw K):=(by rw[cE aa];rfl);have k2:bA p (X (G<|H ad) 2)=M (aO E):=(by rw[cE aa];rfl);have bg:=ak ca;have cn:=ak t;have bf:=ak bL;have co:=ak cd;have bk:=ak c;have bh:=ak bp;clear ca t bL cd c bp bv aa)
 gi_wp2_with(refine⟨trivial,?_⟩;gi_at_call 15;refine(ew.2<|HW f p (dw p<|aK #[aw F,aw K,aO E] 66) (G<|H p) bh (cI aC p) (N6 p ⟨F,K,E⟩) ar<|gW bk.D HX.2.2).mono ?_;rintro bb d⟨l,g,i,rfl,bx,ch,bq⟩;have bd:=ak bx;have bm:=ak ch;have bi:=ak bq;clear bx ch bq k0 k1 k2)
 let⟨T,ba,v⟩:=ag HX;have c:=ag bk;have el:=c.D;have dk:=bm.D;simp at dk;let⟨ej,ei⟩:=ag co;have an:bt<G (H p)/\bs<G (H p):=⟨az bg,az bf⟩;have aU:∀k,G (H ad)<=k->¬F0 k:=λk b D=>bP<|(ag HF) k D;have t:=ag cn;have aD:∀k,cN u2=M k->G (H ad)+1<=k/\k<G (H p):=λk b=>by have:=t.lt k b;rwa[v]at this
 let⟨C,Q⟩:∃C,dw d (aK #[aF] 55)=C:=⟨_,rfl⟩;have x:I aC d C:=Q▸(cI aC d);have cM:fF C (G<|H d) aF 55:=Q▸aQ _ z;have:G (H C)=G (H d)+1:=by rw[<-Q];simp
 have w:I F0 p C:=(((I.bI F0 p).aE<|aK #[aw F,aw K,aO E] 66).aj bm (λ_ D=>J D):I F0 p d).t x;have cb:fF C bt u2 55:=(w.A _ an.1<|aU _ U).trans bg;have bT:fF C bs (aJ e) 36:=(w.A _ an.2<|aU _ U).trans bf;have dd:=dQ<|w.aZ t<|λk b D=>aU k (bP<|(aD k b).1) D;have cB:oW C e g 0 i:=(x.A e (az bd) id).trans bd;have cu:LA d e [] (λk=>k=G (H d)) C:=by refine⟨λp a=>by simp at a,⟨aF,cM,ct _ _ _ _,λk=>by simp[cN]⟩,λp a=>by simp at a,⟨aq _,U⟩,x.aT cY⟩
 have ce:=cp _ _ bh;have u:=Kq (G<|H d) 2 e g i f cb bT dd U U (λk b=>⟨bP<|(aD k b).2,bP<|(aD k b).1⟩) U U ce;let⟨bc,hl⟩:∃bc,(if g.d=cz then []else f)=bc:=⟨_,rfl⟩;have dc:y bc<=40000000000:=by rw[<-hl];split;exact bQ _;exact ce
 rw[hl]at u;rw[Q];refine Ev (m:=3) (V:=Wv e g i) (n0:=G<|H d) (gf:=207) (lb:=#[aJ bt,aJ bs]) (l:=bc) (S:=λk=>k=bt\/k=bs\/cN u2=M k) ?geval (enters_of func207 aH z) (λ_=>rfl) u cB U ?slt (LA d e) (λ_ _ _ _=>False) (λk=>k=G (H d)) cu ?sb ?lt ?st (λ_ _ _ _ _ _ h=>h.elim) ?body ?done ?stop;rfl;grind
 grind
 exactλa cl W h k b=>h.lt k b;intro a cl W O en h o n;refine h.gR o<|λk b=>⟨(n k b).1,?_⟩;obtain D|D:=(n k b).2;exact J D;grind
 (case stop=>grind)
 .intro lr a eo cl W ek cs ec ao hC P;let⟨xk,xv⟩:=eo;have:y a+1<=40000000000:=by
   have:=ao.length_le;grind
  clear ao;unfold Ul;simp only;gi_wp2;refine⟨I.bI _ _,λs c=>?_⟩;have av:LA d e a cl s:=hC.gR c<|λk b=>aI;let⟨eb,hv,j,A⟩:=av.bV;have ax:bA s (X (G<|H d) 0)=M eb:=hv.u;have:iI s (X (G<|H d) 0)=bD:=hv.bS;have al:G (H d)<G (H s):=az hv;obtain⟨N,L,aV⟩:=aM j;let⟨bE,HV,r,ap⟩:=js av hv j A;have bl:=ak c;clear av hv j A c;subst aV;gi_wp2_with(first
   |(gi_at_builtin;refine gm _ z (.tmp 26) (.tmp 30) 55 z (G (H d)+1) 142 i0 (.agg #[.string ⟨#[]⟩,.string ⟨#[]⟩]) 2 32 underlying55 db ds dv dx z cg (.slice N (y a) L) (y a) (iS a) z (bC r (.cells #[.string xk,.string xv] 142)) (X (G (H s)) 0) 1 1 (sg (xk,xv)) z z (Sx _ (xk,xv) _) (X9 _) U U dW ?_;intro v2 w3 n B;obtain⟨ac,ab,rfl⟩:=aM n;have o:fF w3 (G (H d)) (.slice N (y a) L) 55:=(B.dF.block _ (az (HV.aE (.cells #[.string xk,.string xv] 142))) (λD=>bP ((r.lt _ D.symm).1))).trans (HV.aE _);have:=o.u;have:=o.bS;have:=az o;clear o;have cj:=ak n;have cm:=ak B;clear n B))
  have j:=ag r;have br:=ag cm;have dn:I (λk=>cN (am N (y a) L)=M k) s w3:=((I.bI (λk=>cN (am N (y a) L)=M k) s).aE<|aK #[aw xk,aw xv] 142).aj (I.eF (S:=λk=>cN (am N (y a) L)=M k) br.dF<|λk b=>J b)<|λk b=>J b;have cx:cN (am ac (y a+1) ab)=cN (am N (y a) L)\/∃ed,cN (am ac (y a+1) ab)=M ed/\G (H s)<=ed:=by
   obtain dT|⟨ed,dT,hg⟩:=br.f
   .exact J dT
   .exact bu ⟨ed,dT,by simp at hg;omega⟩
  let⟨B',q1,q2,q3⟩:=bE.jl HV ap j dn cx cj;have cv:LA d e (a++[(xk,xv)]) B' (cP w3 (X (G<|H d) 0)<|am ac (y a+1) ab):=by
   unfold LA;rwa[Hl,ai]
  have c:=ag bl;have bn:I (λk=>cl k\/k=lr) W (cP w3 (X (G<|H d) 0)<|am ac (y a+1) ab):=(c.aT (T:=λk=>cl k\/k=lr)<|λk b=>J<|bu b).aj q2<|λk b=>J<|J b;have bo:∀k,(cl k\/k=lr)->k≠e:=λk b D=>by
   obtain dT|dT:=b
   .have:=(hC.lt k dT).1;omega
   .omega
  exact⟨(Wv e g i).l P bn bo,B',cv,bn,q2.A lr (bP c.D) cs,λk b=>(q3 k b).imp_right<|λD=>bP c.D⟩
 (case done=>intro cm cl W dn hC cs P hK;obtain⟨eb,hv,j,A⟩:=hC.bV;have ax:bA W (X (G<|H d) 0)=M eb:=hv.u;have al:=az hv;obtain⟨N,L,aV⟩:=aM j;let⟨HC,r,ap,B,HK⟩:=oa hC j A P hK;clear hC hv j A P hK;subst aV;have cx:cr f g i l W:=HQ f g i l d W bi HC.aA B;let⟨ea,ao⟩:=HE f g i l W cx;have cj:=ao W.drew<|cf aC W;have br:bA W.drew (X (G<|H d) 0)=M (am N (y bc) L):=ax;clear ao;(gi_wp2_with fail);rename_i QQ KK bo;refine wpIn_mono (Q:=Exit.then KK (λ_ _ _=>False)) ?_ (by intro bb a1 W1 hh;cases bb<;>first|exact hh|exact hh.elim);refine Du (λj4=>bA j4 (X (G<|H d) 0)=M (am N (y bc) L)) 4 aH aH (λdT ad h=>h) ?_;refine dH 0 ?_;(iterate 2 (refine fX br ?_;simp only[ii,eh,ke]));apply eS;refine aW 2 ?_;intro K2 av;go_simp;go_call cj as bb w5⟨rfl,bE⟩;have n:I aC W w5:=(cf aC W).t<|I.p (S:=aC) bE;have ab:=n.u ax id al;apply av _ _<|λ_=>ab;(try simp only[ii,eh]);refine aW 3 ?_;intro K3 bl;go_simp;apply bl _ _<|λ_=>ab;(try simp only[ii,eh]);refine aW 4 ?_;intro K4 bn;go_simp;apply bn _ _ wX;refine dG aH ?_ _;show KK _ _;apply bo;have o:oW w5 e g 0 i:=(n.A e (az B) id).trans B;clear bo av bl bn ab br cj bE;gi_wp2;have:¬cN (am N (y bc) L)=M cm:=λD=>cs<|((ag ap) _).2<|bu<|bu D;have ac:=iC w5 cm<|.deferred dE;have cv:cm≠e:=U;refine⟨ar,J ⟨_,_,z,run_takeDeferred ((n.A cm (az HK) id).trans HK:w5.heap[cm]?=M (.deferred<|M [])),?_⟩⟩;refine⟨_,jx z _ _ _,_,g,i,l,ea,f,bc,z,?_,dc,HQ f g i l d _ bi ((HC.aA.t n).aj ac (λk b=>aI):I (λk=>k=e) d (w5.putObj cm<|.deferred dE)) ((ac.A e (az o)<|λD=>cv D.symm).trans o:oW (w5.putObj cm<|.deferred dE) e g 0 i)⟩;exact fj (ac.aZ (n.aZ r<|λ_ _ D=>D)<|λk b D=>sO) U)
end
def Zl:(prog.info? 204).map (λi=>(i.zero,i.size,i.bytes))=M (M<|ef #[aO bD,aF],2,32):=aH
def Lg(pb:Option R){bL:kW}(g:cy uu)(h:tZ a b pb bL bD d)(hn:Qt a d g)(h4:xK g<4)(ho:fE a c 204 2 d (y g) (IH g))(O:c<=G (H a))(aU:cN d≠M b)(aD:yQ a d):cR bN 41 #[aJ b] a λac w'=>ac=aN (de #[ay<|(y g:Y)+1,ay 0])/\∃bx f,cN bx=pb/\mF a bx bL/\w'.heap[b]?=M (aK #[bx,f,aO bD] 54 (0,0))/\fE w' c 204 2 f (y<|g++[(⟨cz,bx,bL⟩:uu)]) (IH<|g++[(⟨cz,bx,bL⟩:uu)])/\I (λK=>K=b\/cN d=M K) a w'/\yQ w' f/\(cN f=cN d\/∃bg,cN f=M bg/\G (H a)<=bg):=by
 let⟨i0,bm,bs,bt,bv⟩:=cZ Zl;let⟨⟨bx,hh,hp,bb⟩,_,_⟩:=h;have ap:=aX hh 0;have av:=aX hh 1;have:=aX hh 2;have V:b<G (H a):=az hh;have:=hn.f;let⟨o,n,m,bq⟩:∃x a bE,bx=am x a bE:=by obtain ac|⟨bf,e,L,ac⟩:=hp.fS;(grind);grind
 let⟨A,x,bp⟩:=aM ho
 have HC:=ak (show∀bf e L,d=bX bf e (y g) L->∀bd(b:bd<y g),bA a (X bf<|e+bd*2)=M (aO g[bd].f)fromλbf e L ac bd b=>by
  obtain⟨q,_⟩|⟨b',bc,ab,q,bo,bl⟩:=hn.bV.2
  .rw[q]at ac;cases ac
  grind[Cv])
 have bi:=ak (show 0<y g->∃bf e,A=M (X bf e)fromλhp=>by
  obtain⟨_,q⟩|⟨b',bc,ab,q,bo,bl⟩:=hn.bV.2
  .omega
  grind)
 let⟨HH,HO,HP,HN,HK,bh⟩:=nU hh ho (And.intro bb hp) aU aD (show∀K,cN d=M K->K<G (H a)fromλK P=>(ho.lt K P).2);clear hh hp bb hn ho aU aD;subst bq bp;go_in
 go_wp2;go_loopw [4,5] (λbE bd wr=>∃B:R,B<=y g/\bd=ay B/\bE=ay (xK (g.take B):R)/\wr=a) (λ_ bd _=>y g-(intOf bd).toNat)
 exact⟨0,bQ _,z,z,z⟩
 .obtain⟨B,hj,rfl,rfl,cd⟩:=hrel;subst wr;by_cases u:B<y g
  .let⟨bf,e,j⟩:=bi U;have l:=HC bf e x (by rw[j]) B u;subst j;have i:=Hg (g.take B) g[B];rw[<-aG u]at i;have k:=Hh<|g.take B;have:(B:Y)<(y g:Y):=U;generalize xK (g.take B)=q at*;have:q<=1000000000:=by rw[dX]at k;omega
   have:IntKind.i64.wrap ((q:Y)+1)=(q:Y)+1:=by rw[bR];omega
   clear k;cases hl:g[B].f with
   |true=>
    rw[hl]at l i;go_wp2;go_roundw
    .exact⟨B+1,u,dM,by rw[i];simp,trivial⟩
    .simp[intOf];omega
   |false=>
    rw[hl]at l i;go_wp2;go_roundw
    .exact⟨B+1,u,dM,by rw[i];simp,trivial⟩
    .simp[intOf];omega
  .have bn:B=y g:=U;subst bn;rw[cQ]at*;have:¬((4:Y)<=(xK g:Y)):=U;go_wp21;rename_i QQ KK an;have ao:bA a.drew (X b 1)=M (am A (y g) x)/\bA a.drew (X b 0)=M (am o n m):=⟨av,ap⟩;refine cX (λj4=>bA j4 (X b 1)=M (am A (y g) x)/\bA j4 (X b 0)=M (am o n m)) 14 aH ?_;refine dH 0 ?_;iterate 10 (refine fX ao ?_;simp only[ii,eh,fU,ke])
   apply eS;refine aW 10 ?_;intro K1 ad;go_simp;let⟨W1,s⟩:∃W1,(dw a<|aK #[aO cz,am o n m] 204).drew=W1:=⟨_,rfl⟩;have i:I aC a W1:=s▸(cI aC a).df z;have aV:∀B bT,[aO cz,am o n m][B]?=M bT->bA W1 (((X (G<|H a) 0):Addr).add B)=M bT:=s▸Ko a [aO cz,am o n m] _;have ba:=i.aZ HO<|λ_ _ q=>q;have bk:c<=G (H W1):=aR O i.D;have:=i.D;rw[s];refine ad _ _ (λ_=>⟨i.u av id V,i.u ap id V⟩) ?_;try simp only[ii,eh,fU]
   clear ad s;refine aW 11 ?_;intro K2 al;try simp only[dl,cF,cO]
   refine xG (.tmp 35) (.tmp 41) 52 z c 204 i0 (ef #[aO bD,aF]) 2 32 underlying52 bm bs bt bv z cg (am A (y g) x) (y g) (IH g) z ba (X (G<|H a) 0) 1 1 [aO cz,am o n m] z z aV (by simp[Value.oneCell']) U U bk U (by intro bT hu;simp[Value.cells]at hu;obtain rfl|rfl:=hu;exact J ⟨_,z⟩;exact bu ⟨_,_,_,z⟩) (by intro bT hu;simp at hu;obtain rfl|rfl:=hu;exact J ⟨_,z⟩;exact bu ⟨_,_,_,z⟩) (HK.aA i (λ_ _=>id) bh) ?_;intro f p v w ax;have W:=I.fV w;have k:p.heap[b]?=M (aK #[am o n m,am A (y g) x,aO bD] 54 (0,0)):=(W.A b U HN).trans<|(i.A b V id).trans HH;have r:bA p (X b 1)=M (am A (y g) x)/\bA p (X b 0)=M (am o n m):=⟨by rw[cE k];rfl,by rw[cE k];rfl⟩;have:=cV (i:=1) k;have l:cN f≠M b:=λq=>by
    obtain ac|⟨bg,ac,hg⟩:=w.f
    .exact HN<|ac▸q
    grind
   have t:(cP p (X b 1) f).heap[b]?=M (aK #[am o n m,f,aO bD] 54 (0,0)):=(aY k).trans z;have Q:yQ (cP p (X b 1) f) f:=ax.aA (fK p b 1 f) (λK P bE=>l (by rw[P];grind))<|λK P=>(v.lt K P).2;have S:=(fK p b 1 f).aZ v<|λK P bE=>l (by rw[P];grind);have aa:I (λK=>K=b\/cN (am A (y g) x)=M K) a (cP p (X b 1) f):=((i.aT (T:=λK=>K=b\/cN (am A (y g) x)=M K) cY).aj W<|λ_ q=>J<|bu q).aj (fK p b 1 f)<|λ_ q=>J<|J q;have F:cN f=cN (am A (y g) x)\/∃bg,cN f=M bg/\G (H a)<=bg:=w.f.imp id<|λ⟨bg,ac,hg⟩=>⟨bg,ac,U⟩;let⟨x2,c2,br⟩:=aM v;subst br;let⟨W3,N⟩:∃W3,cP p (X b 1) (am x2 (y g+1) c2)=W3:=⟨_,rfl⟩;rw[N]at t S aa Q;have:=aX t 1;have j:=ak<|And.intro t (And.intro S (And.intro aa (And.intro Q F)));refine al _ _ (λ_=>r) ?_;try simp only[ii,eh,fU]
   clear al v w ax W k l t S aa Q F ao i aV ba;refine aW 12 ?_;intro ca C;go_simp;refine C _ _ (λ_=>r) ?_;try simp only[ii,eh,fU]
   clear C;refine aW 13 ?_;intro cb D;go_simp;refine D _ _ (λ_=>r) ?_;try simp only[ii,eh,fU]
   clear D;refine aW 14 ?_;intro cc E;go_simp;try rw[N]
   refine E _ _ wX ?_;try simp only[ii,eh,fU]
   clear E N r;refine dG aH ?_ _;show KK _ _;apply an;clear an;go_wp2;go_ret2
   refine⟨ar,am o n m,_,HP.1,HP.2,j.1,?_,j.2.2⟩;rw[XX,ai];exact j.2.1
