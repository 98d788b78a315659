import Derived.BigRegion
import Derived.Test.YtmnlcbeggagabaaGreatDoorC15
import Derived.Test.YtmnlcbeggagabaaGreatDoorC16
open _root_ renaming List.length→y,Option.some→H,Array.size→z,Go.World.heap→G,Go.Value.ownBlock→cz,Go.World.cell?→aS,Go.World.setCell→cA,Go.World.alloc→cG,Bool.false→bj,Bool.true→ci,Nat→M,Int→U,List→cS,Go.Calls→cD,Go.Proofs.Tryz.prog→aZ,Go.Value.slice→J,Go.Value.string→am,Go.Value.bool→aK,Go.Value.pointer→dF,Go.Value.tuple→dd,Go.Value.agg→dD
namespace Go.Proofs.YtmnlcbeggagabaaGreatDoor
open ChangeShapes WideShapes RowKit Proofs.Tryz List
set_option maxHeartbeats 16000000
set_option linter.all false
set_option maxRecDepth 100000
variable{a f B:Z}{b c g m x O:M}{d u P:ab}{e N:cI}{i L:DK}{l:dJ}{n:dN}{X:eT}{t:iL}{v:ae}{w:E}{A:iF}{C:ml}{Q:Prop}{W:Type}
def yM:∀(a:dJ)(p:M),sD (bI p a)=y (dw a)
 |[],_=>by simp[sD,bI,dw]
 |c::a,p=>by
  have h:=yM a<|p+(y (eZ c)+4);unfold sD at*;rw[bI,cr,tQ,h,oK,ag,fC];rfl
def Bu:∀(a:dJ)(p:M),rA (bI p a)=y a.flatten
 |[],_=>by simp[rA,bI]
 |c::a,p=>by
  have h:=Bu a<|p+(y (eZ c)+4);unfold rA at*;rw[bI,cr,tQ,h,bO,ag];rfl
def LD(n:M):∀(a:dJ)(p:M),(bI p a).take n=bI p (a.take n):=by
 induction n with
 |zero=>intro a p;simp[bI]
 |succ n b=>
  intro a p;cases a with
  |nil=>simp[bI]
  |cons c a=>rw[bI,rC,b,rC,bI]
def pQ.idx(k:pQ N l)(j:N≠[])(i:∀x∈N,x.Good)(w:dK N)(v:y N<=100):Jb (bI 0 l):=by
 have a:=k.nN j i w;have r:=k.length;have d:∀a∈l,∀x∈a,x∈N:=λa c x b=>by rw[<-k.flat];grind[mem_flatten]
 refine⟨?_,?_,?_,?_,?_,?_⟩;rw[a.len];exact a.ne;rw[a.len];omega;intro A u;obtain⟨m,q,rfl⟩:=dR u;(have c:m<y l:=by rw[<-a.len];exact q);have o:=a.DG m q c;have b:=ak c;have t:=k.fit _ b;have h:=i _<|d _ b _<|ak o.ne;have p:=i _ (d _ b _<|ak<|show y l[m]-1<y l[m]by omega);have g:dK l[m]:=a.mh.sub<|cV b;(have s:y l[m]<=y N:=by rw[<-k.flat];exact(cV b).length_le);refine⟨by rw[o.size];exact t.2,by rw[o.count];exact o.ne,by rw[o.count];omega,by rw[o.first];exact h.Tz,by rw[o.first];exact h.KN,by rw[o.last];exact p.Tz,by rw[o.last];exact p.KN,?_⟩;rw[o.first,o.last];exact g.CD o.ne<|ak _;rw[Bu,k.flat];exact v;intro n f;(have c:n<y l:=by rw[<-a.len];exact f);rw[LD,yM,a.pos n f]
 .intro n f;have c:n<y l:=by rw[<-a.len];exact f
  have o:=a.DG n f c;have h:=i _<|d _ (ak c) _<|ak o.ne;cases n with
  |zero=>
   rw[we];show iX ⟨#[]⟩ _=ci;rw[o.first];cases e:iX ⟨#[]⟩ (l[0][0]'o.ne).key with
   |true=>rfl
   |false=>
    have b:=nR e<|Ih _;have:=h.Tz;rw[<-b]at this;exact absurd this<|by decide
  |succ n=>
   have g:n<y (bI 0 l):=by omega
   have b:n<y l:=by omega
   rw[aj g,Eb];have m:=a.DG n g b;rw[m.last,o.first];exact(cJ.1 a.Cw n (n+1) b c<|by omega) _ (ak _) _<|ak _
def kS(a:dJ):dN:=dw a++eO (bI 0 a)
def WQ(h:a.ownsRow b c g d m A):∀k,cz d=H k->k<z (G a):=λk e=>(bK h k e).2
def Fk{β:Type}(K:W->β->Prop){a:W}{b:β}(h:K a b->Q)(k:K a b):Q:=h k
def UV{l m n o p k q a' b' c' d' e' g':ab}{t:TypeId}{c:M×M}(r:a.heap[b]?=H (ay #[l,m,n,o,p,k,q] t c)):(cA (cA (cA (cA (cA (cA a (R b 0) a') (R b 1) b') (R b 2) c') (R b 3) d') (R b 4) e') (R b 6) g').heap[b]?=H (ay #[a',b',c',d',e',k,g'] t c):=by
 have d:=aL (i:=0) (u:=a') r;have e:=aL (i:=1) (u:=b') d;have f:=aL (i:=2) (u:=c') e;have g:=aL (i:=3) (u:=d') f;have h:=aL (i:=4) (u:=e') g;have j:=aL (i:=6) (u:=g') h;rw[j];simp
def GV{e n D u:M}{P K Q m0:U}(o:lB a b (dF none) P K Q m0 x O e d (bI 0 l))(p:I (λk=>k=m) a f)(h:oA f B c i L)(hv:vw L.files=vw i.files++[(gu g,kS l)])(hn:y L.dM=y i.dM+1)(v:B.heap[b]?=H (ay #[dF none,aE P,dh K,dh Q,dh m0,aY x O (y<|bI 0 l) e,aY m 0 D n] 265 (0,0)))(aa:¬i.aO c b)(w:¬i.aO c x)(A:x≠b)(C:x≠m)(X:y (dw l)=D)(hL:y (eO<|bI 0 l)=u)(N:b<z (G a)):∃s,cH (cA (cA (cA (cA (cA (cA B (R b 0)<|aA c) (R b 1)<|aE g) (R b 2)<|dh D) (R b 3)<|dh u) (R b 4)<|dh<|kO<|eO<|bI 0 l) (R b 6) aw).drew c s/\I (λk=>i.aO c k\/k=b\/k=m) a (cA (cA (cA (cA (cA (cA B (R b 0)<|aA c) (R b 1)<|aE g) (R b 2)<|dh D) (R b 3)<|dh u) (R b 4)<|dh<|kO<|eO<|bI 0 l) (R b 6) aw).drew/\(∀k,s.aO c k->i.aO c k\/z (G a)<=k)/\vw s.files=vw i.files++[(gu g,kS l)]/\y s.dM=y i.dM+1/\lB (cA (cA (cA (cA (cA (cA B (R b 0)<|aA c) (R b 1)<|aE g) (R b 2)<|dh D) (R b 3)<|dh u) (R b 4)<|dh<|kO<|eO<|bI 0 l) (R b 6) aw).drew b (aA c) g (y<|dw l) (y<|eO<|bI 0 l) (kO<|eO<|bI 0 l) x O e aw (bI 0 l):=by
 have r:=p.size;have q:=UV (a':=aA c) (b':=aE g) (c':=dh D) (d':=dh u) (e':=dh<|kO<|eO<|bI 0 l) (g':=aw) v;have F:I (λk=>k=b) B (cA (cA (cA (cA (cA (cA B (R b 0)<|aA c) (R b 1)<|aE g) (R b 2)<|dh D) (R b 3)<|dh u) (R b 4)<|dh<|kO<|eO<|bI 0 l) (R b 6) aw):=((((((iV b B).setCell b 1 _<|.inl rfl).setCell b 2 _<|.inl rfl).setCell b 3 _<|.inl rfl).setCell b 4 _<|.inl rfl).setCell b 6 _<|.inl rfl);generalize(cA (cA (cA (cA (cA (cA B (R b 0)<|aA c) (R b 1)<|aE g) (R b 2)<|dh D) (R b 3)<|dh u) (R b 4)<|dh<|kO<|eO<|bI 0 l) (R b 6) aw)=wf at*;have j:I (λk=>k=b) B wf.drew:=F.of_heap rfl;have E:∀k,L.aO c k->i.aO c k\/z (G a)<=k:=λk t=>(h.aO k t).elim .inl (λb=>.inr<|by omega);refine⟨L,h.ok.ap j<|λk t S=>?_,?_,E,hv,hn,?_,?_,o.ne,o.le,o.small⟩;grind
 exact((p.mono (T:=λk=>i.aO c k\/k=b\/k=m)<|λk S=>.inl<|.inr<|.inr S).trans h.ap<|λk t=>.inl<|.inl t).trans j<|λk S=>.inl<|.inr<|.inl S;rw[X,hL];exact q;intro ac ad hj;have V:=p.cell (o.cells ac ad hj) C o.lt.2;have W:=h.ap.cell V w<|ah o.lt.2 r;exact j.cell W A<|ah o.lt.2<|aB r h.ap.size
def GW(bm:M)(hu:bm<18446744073709551616){n0 c0 s0 m0:U}(C d:M)(f:dJ)(h:lB a b (dF none) n0 c0 s0 m0 g m x (aY C 0 (y<|dw f) d) (bI 0 f))(hd:eE a O (aY C 0 (y<|dw f) d) (dw f))(hb:O<=z (G a))(hP:Jb (bI 0 f))(ce:jn (dw f))(hT:Steps a)(ad:Pow a)(eB:y (dw f)<=100000)(A:cH a c L)(hg:dB (vw L.files) (gu bm)=none)(hn:y L.dM<=1000000000000)(bf:ii (vw L.files)+200000<=1099511627776)(en:¬L.aO c C)(bh:¬L.aO c b)(ef:¬L.aO c g)(eg:g≠b)(ei:g≠C):cD aZ 174 #[aA b,aA c,aE bm] a λax w'=>ax=aJ .nilIface/\∃K',cH w' c K'/\I (λV=>L.aO c V\/V=b\/V=C) a w'/\(∀V,K'.aO c V->L.aO c V\/z (G a)<=V)/\vw K'.files=vw L.files++[(gu bm,kS f)]/\y K'.dM=y L.dM+1/\lB w' b (aA c) bm (y<|dw f) (y<|eO<|bI 0 f) (kO<|eO<|bI 0 f) g m x aw (bI 0 f):=by
 have o:∀V∈bI 0 f,V.Fits:=λV hk=>(hP.can V hk).fits;have et:=hP.len;have cm:=Hk (bI 0 f) g m x a h.lt.2 h.cells (by omega) o;have fb:y (eO<|bI 0 f)<=52004:=by have h1:=kR o;unfold eO;rw[ag,bU];omega
 have cd:0<y (eO<|bI 0 f):=by unfold eO;rw[ag,bU];omega
 have ac:jn (eO<|bI 0 f):=(jn.le 4 _).append<|CH o;have j:=h.box;have t0:=cellAt j 0 rfl;have t5:=cellAt j 5 rfl;have t6:=cellAt j 6 rfl;obtain⟨i0,ej,eo,eq,er⟩:=cU pL;obtain⟨D,W⟩:∃D,y (dw f)=D:=⟨_,rfl⟩;obtain⟨av,hL⟩:∃av,y (eO<|bI 0 f)=av:=⟨_,rfl⟩;have e1:=sA (n:=(D:M)) (by omega) (by omega);have e2:=sA (n:=(av:M)) (by omega) (by omega);have bu:=Y (show∀v1 l,eE l (z<|G a) v1 (eO<|bI 0 f)->I az a l->∃E xc,v1=aY E 0 av xc/\z (G a)<=E/\E<z (G l)/\aS l (R b 6)=H (aY C 0 D d)/\b<z (G l)/\(∀em,I az l em->cD aZ 153 #[aY E 0 av xc] em λax w'=>ax=aJ (dh<|kO<|eO<|bI 0 f)/\w'=em)from by intro v1 l ho ht;obtain⟨E,xc,rfl,a1,a2,_⟩:=oE ho cd;rw[<-hL,<-W];refine⟨E,xc,rfl,a1,a2,ht.cell t6 id<|ar j,ah (ar j) ht.size,λem hW=>?_⟩;have ek:=ht.bW hW;exact qt _ (eO<|bI 0 f) em (hT.below (ek.below (ai _) cC) hT.lt) (eE.bytes<|hW.own ho<|λ_ _ cw=>cw)<|by omega);have cB:=Y h;clear h;rw[W]at t6;go_in
 go_wp2_with fail
 apply cm.mono;rintro ax l⟨v1,rfl,bc,bg⟩;obtain⟨E,xc,rfl,y0,y1,y2,y3,B⟩:=bu v1 l bc bg;have bq:=Y bc;have au:=Y bg;have k:=ar j;have an:¬b=C:=λax=>by obtain⟨_,hc⟩:=fR hd (k:=C) rfl;grind
 clear bc bg t0 t5 cm;go_wp2_with fail
 rename_i QQ KK t;apply Fk KK
 .intro bl;go_region_held3(λs=>aS s (R b 6)=H (aY C 0 D d)) (first|assumption|go_keep) (first
   |(go_at_call 153;refine(B l.drew<|cR _ _).mono ?_;rintro ax w2⟨rfl,em⟩;subst w2;have ek:aS l.drew (R b 6)=H (aY C 0 D d):=y2)
   |(go_at_call 153;refine(B (cG l (.cells #[.int .u64 0,.int .u32 0,.int .u32 0,.int .u32 0] 188)).drew ((cK _ l).of_heap rfl)).mono ?_;rintro ax w2⟨rfl,em⟩;subst w2;have ek:aS (cG l (.cells #[.int .u64 0,.int .u32 0,.int .u32 0,.int .u32 0] 188)).drew (R b 6)=H (aY C 0 D d):=(by rw[bH,fo y3];exact y2)))
  all_goals exact bl
 apply t;clear t B;have K:∃F,(cG l<|ay #[aE bm,dh D,dh av,dh<|kO<|eO<|bI 0 f] 188).drew=F/\I az a F/\F.heap[z<|G l]?=H (ay #[aE bm,dh D,dh av,dh<|kO<|eO<|bI 0 f] 188 (0,0))/\eE F (z<|G a) (aY E 0 av xc) (eO<|bI 0 f):=⟨_,rfl,(au.alloc _).of_heap rfl,aH _ rfl,bq.alloc _⟩;obtain⟨F,K,p,aV,ck⟩:=K;rw[K];have fd:z (G a)<=z (G l):=au.size;generalize z (G l)=q at*;clear K bq au bu y2 y3;have ev:=p.size;have ed:=hT.below (p.below (ai _) cC) hT.lt;have hS:aS F.drew (R b 6)=H (aY C 0 D d):=by rw[bH];exact p.cell t6 id k
 go_wp2_with fail
 rename_i QQ KK t;refine dL (λs=>aS s (R b 6)=H (aY C 0 D d)) 10 (by kernel_rfl) ?_;refine eR 0 ?_;iterate 2 (refine iC (v:=?_) hS rfl (by kernel_rfl) ma rfl ?_ ?_;rotate_left;(focus(intro s hX;go_simp;try rfl));simp only[Act.put,eF,Nat.reduceAdd])
 apply ig;refine eR 3 ?_;iterate 5 (refine iC (v:=?_) hS rfl (by kernel_rfl) ma rfl ?_ ?_;rotate_left;(focus(intro s hX;go_simp;try rfl));simp only[Act.put,eF,Nat.reduceAdd])
 apply ig;refine bC (i:=2) rfl rfl (by kernel_rfl) ?_;intro K2 bv;go_simp;have hx:=WQ hd C rfl;have al:Pow F.drew:=ad.ap (p.of_heap rfl) id;apply(AO bm hu al).mono;rintro ax W3⟨rfl,u⟩;have N:I az a W3:=(p.of_heap (c:=F.drew) rfl).bW<|I.aQ (S:=az) u;have el:=u.size;have ff:z (G F)<=z (G W3):=el;have ca:aS W3 (R b 6)=H (aY C 0 D d):=N.cell t6 id k;have ba:W3.heap[q]?=H (ay #[aE bm,dh D,dh av,dh<|kO<|eO<|bI 0 f] 188 (0,0)):=(u.block q<|ar aV).trans aV;have cl:eE W3 (z<|G a) (aY E 0 av xc) (eO<|bI 0 f):=(I.aQ (S:=az) u).own ck<|λ_ _ cw=>cw;have cc:eE W3 O (aY C 0 D d) (dw f):=by rw[<-W];exact N.own hd<|λ_ _ cw=>cw
 refine bv _ _ (λ_=>ca) ?_;refine bC (i:=8) rfl rfl (by kernel_rfl) ?_;intro K8 bx;simp only[cQ,cq,cy];refine kg (.tmp 34) (.tmp 35) 75 rfl O 5 i0 (qV 0) 1 1 underlying75 ej eo eq er rfl (by decide) (aY C 0 D d) D ((dw f).map<|Value.int .u8) rfl (by have h0:=cc;unfold eE at h0;rw[W]at h0;exact h0) (R E 0) av xc ((eO<|bI 0 f).map<|Value.int .u8) rfl (by rw[df,hL,qT]) (sU cl.bytes) (by intro bm hu;simp only[bM]at hu;obtain⟨es,_,rfl⟩:=hu;rfl) (by omega) (by omega) (by omega) ?_;intro v4 w4 bd bi;have aU:eE w4 O v4 (kS f):=eE.of bd (by unfold kS;rw[ag,W,hL]) (by unfold kS;rw[aR]);have Q:=I.fy bi;obtain⟨yb,yc,rfl,g1,g2,g3⟩:=oE bd (by omega);have P:I (λV=>V=C) a w4:=(N.mono (T:=λV=>V=C) cC).trans Q (λV hk=>by simp[cz]at hk;grind);have aF:aS w4 (R b 6)=H (aY C 0 D d):=P.cell t6 (λax=>an ax) k;have ch:w4.heap[q]?=H (ay #[aE bm,dh D,dh av,dh<|kO<|eO<|bI 0 f] 188 (0,0)):=(Q.block q (ar ba) (λax=>by simp[cz]at ax;omega)).trans ba;have aa:cH w4 c L:=A.ap P<|λV hk ax=>en<|ax▸hk;have aD:D+av=y (kS f):=by unfold kS;rw[ag,W,hL]
 have co:¬L.aO c yb:=by intro cw;rcases bi.uj with ek|⟨es,ek,hy⟩;simp[cz]at ek;grind;simp[cz]at ek;subst ek;have:=A.lt _ cw;omega
 have bk:=Fv (db:=c) (K:=L) (gu bm) yb 0 yc (bs:=(kS f)) (w:=w4) aa hg hn (by omega) (ce.append ac) (Bytes.cells (by rw[<-aD];exact aU.bytes)) g2 co;rw[<-aD]at bk;obtain⟨cx,cM,ao,r⟩:=fX aU Q ch P;clear aD co bd bi aU Q ch P g1 g2 g3 cc cl ba ca u;refine bx _ _ (λ_=>aF) ?_;simp only[Act.put,eF];refine bC (i:=9) rfl rfl (by kernel_rfl) ?_;intro K9 bE;go_simp;apply bk.mono;rintro ax w5⟨rfl,K5,w,cn,cj⟩;have cb:aS w5 (R b 6)=H (aY C 0 D d):=w.ap.cell aF bh<|ah k r.size;refine bE _ _ (λ_=>cb) ?_;refine bC (i:=10) rfl rfl (by kernel_rfl) ?_;intro ey X;go_simp;refine X _ _ Fc ?_;refine eN (by kernel_rfl) ?_ _;show KK _ _;apply t;clear t bv bx bE X;have e:w5.heap[b]?=H (ay #[dF none,aE n0,dh c0,dh s0,dh m0,aY g m (y<|bI 0 f) x,aY C 0 D d] 265 (0,0)):=by rw[<-W];exact(w.ap.block b (ah k r.size) bh).trans<|(r.block b k an).trans j
 have bb:w5.heap[q]?=H (ay #[aE bm,dh D,dh av,dh<|kO<|eO<|bI 0 f] 188 (0,0)):=(w.ap.block q (ar ao) (λcw=>by have:=A.lt _ cw;omega)).trans ao;have hQ:(aS w5.drew (R q 0)=H (aE bm)/\aS w5.drew (R q 1)=H (dh D)/\aS w5.drew (R q 2)=H (dh av)/\aS w5.drew (R q 3)=H (dh<|kO<|eO<|bI 0 f)):=by simp only[bH];refine⟨?_,?_,?_,?_⟩<;>(rw[bV bb];rfl)
 obtain⟨br,cE,bn,bt,bp,ex⟩:=kY e bb w cn cj A;clear bb w cn cj A j hd hS aF cb t6 hg hn bf hT ad al ed p N aV ck bk aa ce ac hP;obtain⟨cp,cs,cu,cv⟩:=hQ;simp only[bH]at cp cs cu cv;have db:=cellAt e 0 rfl;have dc:=cellAt e 1 rfl;have dk:=cellAt e 2 rfl;have dm:=cellAt e 3 rfl;have dn:=cellAt e 4 rfl;have ds:=cellAt e 6 rfl;have dv:=cZ (i:=0) e;have dx:=cZ (i:=1) e;have dT:=cZ (i:=2) e;have ea:=cZ (i:=3) e;have eb:=cZ (i:=4) e;have ec:=cZ (i:=6) e;have fe:q≠b:=by omega
 have eu:b≠q:=by omega
 clear e;go_wp2_with fail
 rename_i eA cT bT;apply Fk cT;(.intro bl;(go_region);all_goals exact bl);refine bT _ _ ?_;have bo:=Y<|GV cB r bn bt bp br bh ef eg ei W hL k;clear db dc dk dm dn ds dv dx dT ea eb ec cp cs cu cv br cE bn bt bp r ao cx cM;go_wp2;go_ret;exact⟨rfl,bo⟩
def ER(l b d:M)(c:dN)(u D L k:U)(g:Steps a)(p:y c<=1000000)(i:kO c≠k)(j:Bytes a (aY l b (y c) d) c):cD aZ 149 #[aY l b (y c) d,dD #[aE u,dh D,dh L,dh k]] a λm f=>m=aJ (dd #[aw,aK bj])/\I az a f:=by
 have e:∀W,W.heap=(cG a<|ay #[aE u,dh D,dh L,dh k] 188).heap->cD aZ 153 #[aY l b (y c) d] W λm f=>m=aJ (dh<|kO c)/\f=W:=λW i=>qt _ c W ((g.alloc _).of_heap i) ((j.alloc _).of_heap i) (by omega);have o:(kO c !=k)=ci:=by simpa using i
 clear g j i;generalize kO c=n at*;generalize y c=N at*;go_in
 go_wp2_with fail
 go_quiet(first|(go_at_call 153;refine Calls.quiet_of_same (e _ rfl)))
 go_wp2;go_ret2
 exact⟨rfl,(cK az a).of_heap rfl⟩
def Jq(ac:M)(hu:ac<18446744073709551616)(d:dJ)(hP:Jb (bI 0 d))(hT:Steps a)(aa:Pow a)(bv:y (dw d)<=100000)(aV:¬i.aO b 1)(av:cH a b i)(hg:dB (vw i.files) (gu ac)=H n)(au:n=kS d\/Q/\iY n (kS d)):cD aZ 93 #[aA b,DV ac (y<|dw d) (y<|eO<|bI 0 d)<|kO<|eO<|bI 0 d] a λan r=>
 (∃e v c,an=aJ (dd #[aA e,.nilIface])/\lB r e (aA b) ac (y<|dw d) (y<|eO<|bI 0 d) (kO<|eO<|bI 0 d) v 0 c aw (bI 0 d)/\z (G a)<=e/\z (G a)<=v/\∃j,oA a r b i j/\j.files=i.files/\j.dM=i.dM/\∀bb,j.aO b bb->i.aO b bb)\/Q/\∃q,an=aJ (dd #[dF none,ot q])/\vL r q/\I (i.aO b) a r:=by
 have t:∀bb∈bI 0 d,bb.Fits:=λbb hk=>(hP.can bb hk).fits
 have bh:=hP.len
 have aF:=hP.ne
 have bx:y (eO<|bI 0 d)<=52004:=by
  have h1:=kR t;unfold eO;rw[ag,bU];omega
 have bg:0<y (eO<|bI 0 d):=by unfold eO;rw[ag,bU];omega
 have bi:=yM d 0
 have aD:y (kS d)=y (dw d)+y (eO<|bI 0 d):=by unfold kS;rw[ag]
 have hcut:((kS d).drop<|y<|dw d).take (y<|eO<|bI 0 d)=eO (bI 0 d):=by unfold kS;simp
 have W:y n=y (kS d):=au.elim (λp=>by rw[p])<|λp=>p.2.len
 obtain⟨N,u⟩:∃N,(n.drop<|y<|dw d).take (y<|eO<|bI 0 d)=N:=⟨_,rfl⟩
 have C:y N=y (eO<|bI 0 d):=by rw[<-u,dj,gX,W];omega
 have B:N=eO (bI 0 d)\/Q/\kO N≠kO (eO<|bI 0 d):=by
  have aD:iY N (eO<|bI 0 d)->kO N≠kO (eO<|bI 0 d):=λ⟨b,ca,a,s,e1,e2,E,e4⟩p=>by
   rw[e1,e2]at p;refine E<|Ev ?_ e4 p.symm;have hi:jn (eO<|bI 0 d):=(jn.le 4 _).append<|CH t;exact hi ca (by rw[e1];simp)
  rcases au with p|⟨hX,p⟩
  .rw[<-u,p,hcut];exact .inl rfl
  .rcases p.drop (y<|dw d)with p|p
   .rw[<-u,p,hcut];exact .inl rfl
   .rcases p.take (y<|eO<|bI 0 d)with p|p
    .rw[<-u,p,hcut];exact .inl rfl
    .rw[u,hcut]at p;exact .inr ⟨hX,aD p⟩
 obtain⟨cb,hF,V⟩:=gR hg
 obtain⟨bc,hD⟩:∃bc,y (dw d)=bc:=⟨_,rfl⟩
 obtain⟨P,hL⟩:∃P,y (eO<|bI 0 d)=P:=⟨_,rfl⟩
 obtain⟨p,hc⟩:∃p,kO (eO<|bI 0 d)=p:=⟨_,rfl⟩
 have e1:IntKind.i64.wrap (bc:U)=bc:=by rw[bS];omega
 have e2:IntKind.i64.wrap (P:U)=P:=by rw[bS];omega
 have br:=Y (show∀E,I az a E->cD aZ 97 #[aA b,am<|gu ac,aq bc,aq P] E λan r=>∃m o,an=aJ (dd #[aY m 0 P o,.nilIface])/\eE r (z<|G E) (aY m 0 P o) N/\I (i.aO b) E r/\∃j,oA a r b i j/\j.files=i.files/\j.dM=i.dM/\∀bb,j.aO b bb->i.aO b bb from by
  intro E L;have bf:=av.ap L (λ_ _=>id);refine(AV (gu ac) cb bc P bf hF (by rw[V,W];omega) (by rw[V,W];omega) (by omega)).mono ?_;rintro an r⟨v',rfl,ho,j,s,h1,h2,h3⟩;rw[V,<-hD,<-hL,u]at ho;obtain⟨m,o,rfl,a1,a2,_⟩:=oE ho (by omega);rw[C,hL]at ho|-;exact⟨m,o,rfl,ho,s.ap,j,⟨s.ok,(L.mono (T:=i.aO b) cC).trans s.ap (λ_ h=>.inl h),λbb hk=>.inl (h3 bb hk)⟩,h1,h2,h3⟩)
 have bs:=Y (show∀l m o e(j:DK),oA a l b i j->eE l e (aY m 0 P o) (eO<|bI 0 d)->cD aZ 149 #[aY m 0 P o,dD #[aE ac,dh bc,dh P,dh p]] l λan r=>
  ∃v c,an=aJ (dd #[aY v 0 (y<|bI 0 d) c,aK ci])/\z (G l)<=v/\lB (cG r<|ay #[aA b,aE ac,dh bc,dh P,dh p,aY v 0 (y<|bI 0 d) c,aw] 265) (z<|G r) (aA b) ac bc P p v 0 c aw (bI 0 d)/\I az l r from by
   intro l m o e j s ho;have K:Steps l:=λbb hk=>s.ap.cell (hT bb hk) aV hT.lt;have x:=eE.bytes ho;rw[<-hL]at x;have w:=CY m 0 o ac K hP x;rw[bi,hD,hL,hc]at w;apply w.mono;rintro an r⟨v',rfl,E,bf⟩;obtain⟨v,c,rfl,a1,a2,a3⟩:=oE E (by omega);refine⟨v,c,rfl,a1,⟨aH _ rfl,?_,by omega,a3,by omega⟩,bf⟩;intro bq bu hj;obtain⟨h1,⟨h2,h0⟩|⟨b',bn,bm,h2,_,bp⟩⟩:=dE<|aX E<|ay #[aA b,aE ac,dh bc,dh P,dh p,aY v 0 (y<|bI 0 d) c,aw] 265
   .omega
   grind)
 have bt:=Y (show∀l m o e(j:DK),oA a l b i j->eE l e (aY m 0 P o) N->kO N≠p->cD aZ 149 #[aY m 0 P o,dD #[aE ac,dh bc,dh P,dh p]] l λan r=>an=aJ (dd #[aw,aK bj])/\I az l r from by
  intro l m o e j s ho aF;have K:Steps l:=λbb hk=>s.ap.cell (hT bb hk) aV hT.lt;have x:=eE.bytes ho;rw[<-hL,<-C]at x|-;exact ER m 0 o N ac bc _ p K (by omega) aF x)
 have bT:∀(ca:Bool)(a:Z),(Op.unary .not<|aK ca).run aZ a=.ok (aK<|!ca) a:=λ_ _=>rfl
 have HPow:=Y aa
 have bl:=Y av
 unfold DV
 rw[hD,hL,hc]
 rw[hc]at B
 have bo:=Y B
 clear hP hT aa bv aV av hg t bx bg bi aD hcut hF V hD hL hc bh aF au W u C B
 generalize y (bI 0 d)=cc at*
 go_in
 go_wp2_with fail
 apply(AO ac hu<|HPow.ap (cK az a) id).mono
 rintro an w2⟨rfl,ao⟩
 have D:w2.heap[z<|G a]?=H (ay #[aE ac,dh bc,dh P,dh p] 188 (0,0)):=(ao.block _<|by simp).trans<|aH _ rfl
 have L:I az a w2:=(cK az a).bW<|I.aQ (S:=az) ao
 have c0:=cellAt D 0 rfl
 have c1:=cellAt D 1 rfl
 have c2:=cellAt D 2 rfl
 have bE:=br w2 L
 have bd:=Y D
 clear D L ao
 go_wp2_with fail
 apply bE.mono
 rintro an l⟨m,o,rfl,X,ba,K3,f,ax,F,A⟩
 have aU:¬i.aO b (z<|G a):=λp=>by have:=bl.lt _ p;omega
 have k:=(ba.block _ (ar bd) aU).trans bd
 have d0:=cellAt k 0 rfl
 have d1:=cellAt k 1 rfl
 have d2:=cellAt k 2 rfl
 have d3:=cellAt k 3 rfl
 have bk:=f.ap.size
 rcases af bo with hi|⟨hX,hi⟩
 .subst hi;have w:=bs l m o _ K3 f X;obtain⟨al,ad,bm,bq,bn⟩:=jk k f ax F A;clear k f ax F A X ba aU;go_wp2_with fail
  apply w.mono;rintro an w4⟨v,c,rfl,bu,bf,g⟩;have E:=(g.block _ (ar al) id).trans al;have g0:=cellAt E 0 rfl;have g1:=cellAt E 1 rfl;have g2:=cellAt E 2 rfl;have g3:=cellAt E 3 rfl;have bp:=Y bf;have O:=Y g;clear bf g E;go_wp2;go_ret2
  have f:=af ad;have g:=O.alloc<|ay #[aA b,aE ac,dh bc,dh P,dh p,aY v 0 cc c,aw] 265;refine .inl ⟨z<|G w4,v,c,rfl,bp,aB bk O.size,aB bk bu,K3,?_,bm,bq,bn⟩;exact⟨f.ok.ap g<|λ_ _=>id,f.ap.bW g,f.aO⟩
 .have w:=bt l m o _ K3 f X hi;obtain⟨al,ad⟩:=And.intro (Y k) (Y f);clear k f ax F A X ba aU;go_wp2_with(first
   |(go_at_call 149;refine w.mono ?_;rintro an w4⟨rfl,g⟩;have O:=Y g;clear g)
   |(go_at_call 57;refine(tJ (gu ac) w4).mono ?_;rintro an E⟨rfl,rfl⟩))
  go_ret2
  exact .inr ⟨hX,_,rfl,vL.new _ w4,(ad.ap.bW O).alloc _⟩
structure bw where
 tb:M
 ks:ml
 cs:dJ
 num:M
abbrev cN:=cS bw
variable{T:bw}
def bw.ptr(t:bw):ab:=aA t.tb
def bw.all(t:bw):cI:=t.cs.flatten
def iR(a:ml):ae:=(a.head?.map pV.first).getD ⟨#[]⟩
def Ec(h:0<y C):jj C=(C[y C-1]'(by omega)).last:=by
 unfold jj;rw[List.getLast?_eq_getElem?,aN<|by omega];rfl
def Bm(h:0<y C):iR C=(C[0]'h).first:=by
 unfold iR;cases C with
 |nil=>simp at h
 |cons k r=>rfl
def Me(w:Z)(t:bw):Prop:=∃h b cut c f g d a e,lB w t.tb h b cut c f g d a e t.ks
def Me.first{t:bw}(n:Me a t):cD aZ 151 #[t.ptr] a λm j=>m=aJ (am<|iR t.ks)/\j=a:=by
 obtain⟨l,c,cut,d,i,k,e,b,h,g⟩:=n;rw[Bm g.ne];exact QX g
def Me.last(m:Me a T):cD aZ 150 #[T.ptr] a λl i=>l=aJ (am<|jj T.ks)/\∃q,i=a.drewN q:=by
 obtain⟨k,c,cut,d,h,j,e,b,g,f⟩:=m;rw[Ec f.ne];exact Tt f
def lB.di{w w':Z}{a cut e f:U}(h:lB w c d a cut e f g m x u C)(i:w'.heap[c]?=w.heap[c]?)(j:w'.heap[g]?=w.heap[g]?):lB w' c d a cut e f g m x u C:=⟨i.trans h.box,λl n k=>(da (w:=w) j).trans<|h.cells l n k,h.ne,h.le,h.small⟩
def Me.of_heap{w w':Z}{t:bw}(n:Me w t)(m:w'.heap=w.heap):Me w' t:=by
 obtain⟨k,d,cut,e,i,j,g,b,h,l⟩:=n;exact⟨k,d,cut,e,i,j,g,b,h,l.di (by rw[m])<|by rw[m]⟩
def Me.below(m:Me a T)(j:Below (z<|G a) a f):Me f T:=by
 obtain⟨l,c,cut,d,i,k,e,b,g,h⟩:=m;exact⟨l,c,cut,d,i,k,e,b,g,h.di (j.block _ h.lt.1)<|j.block _ h.lt.2⟩
structure iK(w:Z)(v:ab)(ts:cS bw):Prop where
 row:Row w 1 v (y ts) (ts.map bw.ptr)
 lt:∀k,cz v=H k->k<z (G w)
 each:∀t∈ts,Me w t
 small:y ts<=1000000000
def iK.below{e:cS bw}(h:iK a d e)(b:Below (z<|G a) a f):iK f d e:=by
 refine⟨(I.aQ (S:=az) b).row h.row<|λk c=>⟨id,h.lt k c⟩,λk c=>ah (h.lt k c) b.size,λt g=>(h.each t g).below b,h.small⟩
def Az(a:cS bw):Prop:=a.Pairwise<|λb c=>iX (jj b.ks) (jj c.ks)=ci
def Ks{k bk:M}{c:cS bw}(f:ae)(h:iK a d c)(m:eG a k d 91)(l:eG a bk (am f) 9)(i:M)(t:i<y c):cD aZ 246 #[aq i,aA k,aA bk] a λp j=>p=aJ (aK<|!iX (jj c[i].ks) f)/\∃q,j=a.drewN q:=by
 obtain⟨g,⟨_,B⟩|⟨w,e,o,rfl,_,r⟩⟩:=h.row;omega;have u:aS a (R w<|e+i)=H c[i].ptr:=by simp_all
 have b:∀W,W.heap=a.heap->cD aZ 150 #[c[i].ptr] W λp j=>p=aJ (am<|jj c[i].ks)/\∃q,j=W.drewN q:=λW e=>((h.each _<|ak t).of_heap e).last;have c1:=m.cell;have c2:=l.cell;have s:=Ir;have v:=h.small;have x:(i:U)<(y c:U):=by omega
 have A:(0:U)<=(i:U):=by omega
 unfold iX;unfold bw.ptr at u b;generalize jj c[i].ks=C at*;generalize c[i].tb=n at*;clear h m l g r;go_in
 go_wp2_with fail
 go_quiet(first|(go_at_call 150;refine Calls.quiet_of (b _ rfl)))
 go_wp2;go_ret;exact⟨rfl,nq,rfl⟩
variable{j:cN}
def tg.Yo(h:tg C l):0<y C:=by rw[h.len];exact h.ne
def tg.wU(h:tg C l):∃x∈l.flatten,x.key=jj C:=by
 have b:=h.Yo;have a:y C-1<y l:=by have:=h.len;omega
 have o:=h.DG (y C-1) (by omega) a;have n:=o.ne;exact⟨_,bB.2 ⟨_,ak a,ak<|show y l[y C-1]-1<y l[y C-1]by omega⟩,by rw[Ec b,o.last]⟩
def tg.Gs(h:tg C l):∃x∈l.flatten,x.key=iR C:=by
 have b:=h.Yo;have a:0<y l:=by have:=h.len;omega
 have o:=h.DG 0 (by omega) a;exact⟨_,bB.2 ⟨_,ak a,ak o.ne⟩,by rw[Bm b,o.first]⟩
def tg.CE(h:tg C l)(f:w∈l.flatten):iX (jj C) w.key=bj:=by
 have e:=h.Yo;have b:y C-1<y l:=by have:=h.len;omega
 have o:=h.DG (y C-1) (by omega) b;obtain⟨j,c,a⟩:=bB.1 f;obtain⟨i,d,rfl⟩:=dR c;rw[Ec e,o.last];rcases gA i (y C-1)with g|g;exact lj<|cJ.1 h.Cw i _ d b g w a _<|ak (by have:=o.ne;omega);(have:i=y C-1:=by have:=h.len;omega);subst this;exact dK.CD (h.mh.sub<|cV<|ak b) o.ne a
def tg.wZ(h:tg C l)(g:w∈l.flatten):iX w.key (iR C)=bj:=by
 have f:=h.Yo;have b:0<y l:=by have:=h.len;omega
 have o:=h.DG 0 (by omega) b;obtain⟨j,c,a⟩:=bB.1 g;obtain⟨i,e,rfl⟩:=dR c;rw[Bm f,o.first];rcases gm i with d|d;subst d;exact dK.wZ (h.mh.sub<|cV<|ak b) o.ne a;exact lj<|cJ.1 h.Cw 0 i b e d _ (ak o.ne) w a
def bZ(a:cN):cI:=(a.map bw.all).flatten
def xW(t:bw)(a:cN):bZ (t::a)=t.all++bZ a:=by simp[bZ]
theorem fF(a b:cN):bZ (a++b)=bZ a++bZ b:=by simp[bZ]
theorem lY:w∈bZ j↔∃t∈j,w∈t.all:=by
 unfold bZ;grind
structure jV(ts:cN):Prop where
 pure:∀t∈ts,tg t.ks t.cs
 mh:dK (bZ ts)
 Cw:(ts.map bw.all).Pairwise gS
def jV.pair(i:jV j)(e:b<y j)(f:c<y j)(d:b<c){a:E}(g:w∈j[b].all)(h:a∈j[c].all):iX w.key a.key=ci:=by
 exact cJ.1 i.Cw b c (by simpa using e) (by simpa using f) d w (by simpa using g) a<|by simpa using h
def jV.zZ(h:jV j):Az j:=by
 refine cJ.2<|λk l b c a=>?_;obtain⟨x,f,d⟩:=(h.pure _<|ak b).wU;obtain⟨i,g,e⟩:=(h.pure _<|ak c).wU;rw[<-d,<-e];exact h.pair b c a f g
def jV.each(h:jV j){t:bw}(a:t∈j):dK t.all:=h.mh.sub<|cV<|bM.2 ⟨t,a,rfl⟩
structure pP(ts:cN)(key:ae)(k:M):Prop where
 le:k<=y ts
 low:∀i(hi:i<y ts),i<k->iX (jj ts[i].ks) key=ci
 uI:∀i(hi:i<y ts),k<=i->iX (jj ts[i].ks) key=bj
def jV.Bk(o:jV j)(c:ae)(k:pP j c b):(((j.drop b).map bw.all).map<|fO c).flatten=fO c (bZ j):=by
 have e:bZ j=bZ (j.take b)++bZ (j.drop b):=by rw[<-fF,bX]
 have f:fO c (bZ<|j.take b)=[]:=by unfold fO;rw[iB];intro x m;obtain⟨t,l,d⟩:=lY.1 m;obtain⟨n,p,rfl⟩:=dR l;rw[jY]at d;(have a:n<b/\n<y j:=by grind);have h:=k.low n a.2 a.1;have i:=(o.pure _<|ak a.2).CE d;rw[wV i h];simp
 have g:∀l:dJ,(l.map<|fO c).flatten=fO c l.flatten:=by
  intro l;induction l with
  |nil=>rfl
  |cons d r a=>simp only[cr,bO,a];unfold fO;rw[mw]
 rw[g,e];unfold fO at*;rw[mw,f,de];rfl
def jV.Ak(l:jV j)(g:pP j v b)(x:E)(n:x∈bZ j)(c:x.key=v):∃r:b<y j,x∈j[b].all:=by
 obtain⟨t,h,d⟩:=lY.1 n;obtain⟨q,f,rfl⟩:=dR h;have e:=(l.pure _ h).CE d;rcases mY q b with i|i|i;have:=wV e<|g.low q f i;rw[c,fN]at this;cases this;grind
 (have a:b<y j:=by omega);obtain⟨p,o,k⟩:=(l.pure _<|ak a).wU;have m:=g.uI b a<|ai _;have:=l.pair a f i o d;rw[k,c,m]at this;cases this
def jV.xS(h:jV j)(b:pP j v (y j))(d:U):ir d (bZ j) v=none:=by
 refine qO<|λx c a=>?_;obtain⟨e,_⟩:=h.Ak b x c a;omega
def jV.Bn(h:jV j)(e:pP j v b)(d:b<y j)(c:U):ir c (bZ j) v=ir c j[b].all v:=by
 have:=Al (cs:=j.map bw.all) (k:=v) (i:=b) (by simpa using d) (λx f a=>by obtain⟨_,g⟩:=h.Ak e x f a;grind) h.Cw c;unfold bZ;grind
def yW(b:ae)(h:iK a d j)(Q:Az j):cD aZ 219 #[d,am b] a λN W=>∃n:M,N=aJ (aq n)/\pP j b n/\Below (z<|G a) a W:=by
 have C:Below (z<|G a) a (cG (cG a<|ay #[d] 91)<|ay #[am b] 9):=((Below.refl _ a).alloc (ai _) _).alloc (by simp) _;have P:=h.below C;have F:=h.small
 have v:=yN (f:=246) #[aA<|z<|G a,aA<|z (G a)+1] (y j) (λi=>if c:i<y j then !iX (jj j[i].ks) b else ci) (cG (cG a<|ay #[d] 91)<|ay #[am b] 9) (enters_of func246 (by kernel_rfl) rfl) (by omega) (by
  intro aa S B u T;have t:aa<y j:=by omega
  simp only[u,t,zj]at T|-;rcases mq B with ac|ac
  .have l:=cJ.1 Q aa S t u ac;grind[li]
  grind)
  (by
   intro i c X l;have A:=P.below l;have D:eG X (z (G a)) d 91:=(l.block _ (by simp;omega)).trans (eG.alloc (aH _ rfl) _);have E:eG X (z (G a)+1) (am b) 9:=(l.block _ (by simp)).trans (aH _ (by simp));apply(Ks b A D E i c).mono;rintro N W'⟨rfl,q,rfl⟩;simp only[c,zj];exact⟨trivial,below_drewN (Below.refl _ _) _⟩)
 have o:=Y v;have HB:=Y C;have V:=h.row.2;clear v P C h Q;have K:(d=aw/\y j=0)\/∃S e p,d=aY S e (y j) p:=by grind
 clear V;have k:∀(N:Ending)(L:Z)(n:M),n<=y j->(∀i,i<n->(if c:i<y j then !iX (jj j[i].ks) b else ci)=bj)->(∀i,n<=i->i<y j->(if c:i<y j then !iX (jj j[i].ks) b else ci)=ci)->pP j b n:=by intro N L n g m r;refine⟨g,λi c l=>?_,λi c l=>?_⟩;(have:=m i l;grind);grind
 rcases K with⟨rfl,O⟩|⟨S,e,p,rfl⟩;(.obtain rfl:j=[]:=aP O;clear k O F;(go_in);(go_wp2_with(go_at_call 206;refine o.mono ?_;rintro N L⟨n,rfl,g,m,r,s⟩;have w:=Y g;have x:=Y s;clear g m r s));go_ret;have g:=af w;refine⟨n,rfl,⟨g,λi c=>absurd c<|gC i,λi c=>absurd c<|gC i⟩,HB.trans<|x.mono HB.size⟩);(go_in);(go_wp2_with(go_at_call 206;refine o.mono ?_;rintro N L⟨n,rfl,g,m,r,s⟩;have w:=Y g;have l:=Y m;have t:=Y r;have x:=Y s;clear g m r s));go_ret;exact⟨n,rfl,k (aJ .nilIface) a n w l t,HB.trans<|x.mono HB.size⟩
structure rB(V:iL)(n0:M)(v:ab)(ts:cN)(w:Z):Prop where
 row:Row w 1 v (y ts) (ts.map bw.ptr)
 loc:∀k,cz v=H k->k<n0/\¬V.F k
 each:∀t∈ts,mV V n0 t.tb t.ks t.cs w
 side:jV ts
 small:y ts<=1000000000
def mV.Sg(l:mV t b T.tb T.ks T.cs a):Me a T:=by
 obtain⟨j,d,cut,e,h,i,f,c,g,k,_⟩:=l.mem;exact⟨j,d,cut,e,h,i,f,c,g,k⟩
def rB.mem(h:rB t c d j a)(f:c<=z (G a)):iK a d j:=⟨h.row,λk e=>ah (h.loc k e).1 f,λi g=>(h.each i g).Sg,h.small⟩
def Row.same{V:iL}{n0:M}{S:eT}(p:Row a b d c A)(l:kw V n0 S a f)(m:∀n,cz d=H n->n<n0/\¬V.F n):Row f b d c A:=by
 obtain⟨j,h⟩:=p;refine⟨j,?_⟩;rcases h with h|⟨o,e,g,rfl,i,k⟩;exact .inl h;exact .inr ⟨o,e,g,rfl,i,λj u h=>l.cell (.inr<|m o rfl)<|k j u h⟩
def rB.same{V:iL}{n0:M}(h:rB V n0 d j a)(b:kw V n0 az a f):rB V n0 d j f:=⟨h.row.same b h.loc,h.loc,λt c=>(h.each t c).same b,h.side,h.small⟩
def rB.cell{V:iL}{k b c d o:M}(l:rB V k (aY b c o d) j a){i:M}(n:i<y j):aS a (R b<|c+i)=H j[i].ptr:=by
 obtain⟨_,⟨g,_⟩|⟨b',h,e,g,_,m⟩⟩:=l.row;cases g;grind
def rB.shape(h:rB t b d j a):(d=aw/\j=[])\/∃f c e,d=aY f c (y j) e:=by
 rcases h.row.2 with⟨g,i⟩|⟨f,c,e,g,_⟩;grind
 grind
def KH(k:M)(n:ae)(h:rB t b d j a)(L:eG a c d 91)(x:eG a g (aq k) 3)(B:eG a m (am n) 9)(Q:t.D a)(s:b<=z (G a))(hF:∀k,t.F k->k<b)(F:b<=c)(D:b<=g)(E:b<=m)(o:M)(A:k+o<y j):cD aZ 303 #[aq o,aA c,aA g,aA m] a λP f=>(∃v p,P=aJ (dd #[v,.nilIface])/\iT t b v (fO n j[k+o].all) p f/\t.D f/\I t.F a f/\(∀k,p k->z (G a)<=k))\/∃ad,RX t a f t.F P (λd=>dd #[ad,d]):=by
 rcases h.shape with⟨_,h0⟩|⟨O,e,q,rfl⟩;grind
 have c1:=L.cell;have c2:=x.cell;have c3:=B.cell;have K:=h.cell A;have T:=(h.loc O rfl);have ac:=h.small;have r:cD aZ 304 #[j[k+o].ptr,am n] a.drew λP f=>∃v p,P=aJ v/\iT t b v (fO n j[k+o].all) p f/\t.D f/\I t.F a.drew f/\(∀k,p k->z (G a)<=k):=BH (n0:=b) (tbqq:=j[k+o].tb) (ks:=j[k+o].ks) (cs:=j[k+o].cs) n ((h.each _<|ak A).same ⟨ai _,λ_ _=>rfl⟩) (t.eQ Q (cR az a) cC) s hF
 have w:=Y (show∀f,I t.F a.drew f->aS f (R c 0)=H (aY O e (y j) q)/\aS f (R g 0)=H (aq k)/\aS f (R O<|e+(k+o))=H j[k+o].ptr/\aS f (R m 0)=H (am n)from by
  intro f i;have C:∀x,b<=x->¬t.F x:=λx c a=>by have:=hF x a;omega
  exact⟨i.cell c1 (C _ F) (ar L),i.cell c2 (C _ D) (ar x),i.cell K T.2 (ah T.1 s),i.cell c3 (C _ E) (ar B)⟩)
 have hW:I t.F a a.drew:=cR _ _;generalize j[k+o]=tt at*;obtain⟨u,V⟩:∃u,k+o=u:=⟨_,rfl⟩;rw[V]at K w A;have S:(k:U)+(o:U)=(u:U):=by omega
 have e1:(u:U)<(y j:U):=by omega
 have e2:(0:U)<=(u:U):=by omega
 have e3:u<1000000000:=by omega
 have e4:IntKind.i64.wrap (u:U)=(u:U):=by rw[bS];omega
 have e5:wrap64 (u:U)=(u:U):=by unfold wrap64;omega
 unfold bw.ptr at K w r;generalize tt.all=al at*;generalize tt.tb=l at*;clear h L x B Q hF V;go_in
 go_wp2_with fail
 go_region_held3(λa=>aS a (R c 0)=H (aY O e (y j) q)/\aS a (R g 0)=H (aq k)/\aS a (R O<|e+u)=H (aA l)/\aS a (R m 0)=H (am n)) (first|assumption|go_keep) (first
  |(go_at_call 304;refine r.mono ?_;rintro P w1⟨v1,S1,rfl,W,X,N,r4⟩;have aa:=w w1 N;have R1:=Y W;have R2:=Y X;have R3:=Y N;have R4:=Y r4;clear W X N r4))
 go_wp2;go_ret2
 exact .inl ⟨v1,S1,rfl,R1,R2,hW.trans R3<|λ_ c=>.inl c,R4⟩
def Tn(V:iL)(b:M)(v:ab)(h e g m:M)(o:cN)(n:ae):yy V b (((o.drop m).map bw.all).map<|fO n)where
 f:=303
 cb:=#[aA h,aA e,aA g]
 inv:=λW=>rB V b v o W/\(eG W h v 91/\eG W e (aq m) 3/\eG W g (am n) 9)/\(b<=h/\b<=e/\b<=g)/\b<=z (G W)/\∀m,V.F m->m<b
 S:=λx=>x=h\/x=e\/x=g
 RT:=enters_of func303 (by kernel_rfl) rfl
 call:=by
  rintro r q w⟨l,⟨i,j,k⟩,c,a,hF⟩p;have d:m+r<y o:=by simp at q;omega
  rw[kL,kL,pA];exact KH m n l i j k p a hF c.1 c.2.1 c.2.2 r d
 eQ:=by
  rintro W p⟨l,⟨i,j,k⟩,c,a,hF⟩d;exact⟨l.same<|d.mono cC,⟨i.same d<|.inl rfl,j.same d<|.inr<|.inl rfl,k.same d<|.inr<|.inr rfl⟩,c,aB a d.1,hF⟩
 lt:=by
  grind
def QB{V:iL}(g:ae)(h:rB V b d j a)(hD:V.D a)(i:b<=z (G a))(hF:∀k,V.F k->k<b):cD aZ 300 #[d,am g] a λB o=>∃s p,B=aJ s/\iT V b s (fO g<|bZ j) p o/\V.D o/\I V.F a o/\(∀k,p k->z (G a)<=k):=by
 have q:Below (z<|G a) a (cG (cG a<|ay #[d] 91)<|ay #[am g] 9):=((Below.refl _ a).alloc (ai _) _).alloc (by simp) _;have u:=yW g ((h.mem i).below q) h.side.zZ;have ad:=h.small;have N:=h.shape
 have W:=Y (show∀(e:Z)(k:M),Below (z<|G<|cG (cG a<|ay #[d] 91)<|ay #[am g] 9) (cG (cG a<|ay #[d] 91)<|ay #[am g] 9) e->pP j g k->cD aZ 302 #[aq ((y j-k:M):U),.func (.func 303) #[] #[aA<|z<|G a,aA<|z<|G e,aA<|z (G a)+1]] (cG e<|ay #[aq k] 3) λB o=>∃s p,B=aJ s/\iT V b s (fO g<|bZ j) p o/\V.D o/\I V.F a o/\(∀k,p k->z (G a)<=k)from by
  intro e k c m;have r:=c.size;simp at r;have l:I az a (cG e<|ay #[aq k] 3):=(((I.aQ (S:=az) q).bW<|I.aQ (S:=az) c).alloc _);have O:eG e (z<|G a) d 91:=(c.block _ (by simp;omega)).trans<|eG.alloc (aH _ rfl) _;have P:eG e (z (G a)+1) (am g) 9:=(c.block _<|by simp).trans (aH _<|by simp);have L:rB V b d j (cG e<|ay #[aq k] 3):=h.same<|l.same i cC cC;have f:=GD (Tn V b d (z<|G a) (z<|G e) (z (G a)+1) k j g) (cG e<|ay #[aq k] 3) ⟨L,⟨O.alloc _,aH _ rfl,P.alloc _⟩,⟨i,by omega,by omega⟩,aB i l.size,hF⟩ (aB i l.size) hF (by simp;omega);have hl:y (((j.drop k).map bw.all).map<|fO g)=y j-k:=by simp
  rw[hl]at f;apply f.mono;rintro B o⟨s,p,rfl,hg,hb,hS⟩;rw[h.side.Bk g m]at hg;have n:=l.bW (I.aQ (S:=az) hb);refine⟨s,p,rfl,hg,V.eQ hD n cC,n.mono cC,λan hx=>?_⟩;have al:=l.size;rcases hS an hx with(aa|aa|aa)|aa<;>omega)
 have X:=Y (show∀e,Below (z<|G<|cG (cG a<|ay #[d] 91)<|ay #[am g] 9) (cG (cG a<|ay #[d] 91)<|ay #[am g] 9) e->aS e (R (z<|G a) 0)=H d/\z (G a)<z (G e)from by intro e c;have r:=c.size;simp at r;exact⟨eG.cell (t:=91)<|(c.block _ (by simp;omega)).trans<|eG.alloc (aH _ rfl) _,by omega⟩);clear h hD hF q;rcases N with⟨rfl,rfl⟩|⟨ao,Q,ac,rfl⟩;(·(go_in);(go_wp2_with fail);apply u.mono;rintro B e⟨k,rfl,m,c⟩;obtain rfl:k=0:=Nat.le_zero.1 m.le;have f:=W e 0 c m;obtain⟨y1,y2⟩:=X e c;clear m c;(go_wp2_with fail);apply f.mono;rintro B w2⟨T,K,rfl,v,w,x,A⟩;have C:=Y v;have D:=Y w;have E:=Y x;have F:=Y A;clear v w x A;go_wp2;go_ret;exact⟨T,K,rfl,C,D,E,F⟩);(go_in);(go_wp2_with fail);apply u.mono;rintro B e⟨k,rfl,m,c⟩;have L:=m.le;have f:=W e k c m;obtain⟨y1,y2⟩:=X e c;obtain⟨l,n⟩:∃l,y j-k=l:=⟨_,rfl⟩;rw[n]at f;(have O:(y j:U)-(k:U)=(l:U):=by omega);(have P:l<=1000000000:=by omega);(have q6:IntKind.i64.wrap (l:U)=(l:U):=by rw[bS];omega);clear m c n;(go_wp2_with fail);apply f.mono;rintro B w2⟨T,K,rfl,v,w,x,A⟩;have C:=Y v;have D:=Y w;have E:=Y x;have F:=Y A;clear v w x A;go_wp2;go_ret;exact⟨T,K,rfl,C,D,E,F⟩
def Mq(h:pP j v b)(a:pP j v c):b=c:=by
 rcases mY b c with e|e|e;have f:=a.low b (by have:=a.le;omega) e;have d:=h.uI b (by have:=a.le;omega)<|ai _;rw[f]at d;cases d;exact e;have f:=h.low c (by have:=h.le;omega) e;have d:=a.uI c (by have:=h.le;omega)<|ai _;rw[f]at d;cases d
def Dd:∀{f:cN},Az f->∀b,∃k,pP f b k
 |[],_,_=>⟨0,ai _,λi a=>absurd a<|gC i,λi a=>absurd a<|gC i⟩
 |t::f,h,b=>by
  obtain⟨j,g⟩:=bA.1 h;cases e:iX (jj t.ks) b with
  |true=>
   obtain⟨k,d⟩:=Dd g b;refine⟨k+1,Nat.succ_le_succ d.le,λi a c=>?_,λi a c=>?_⟩
   .cases i with
    |zero=>exact e
    |succ i=>exact d.low i (by simpa using a)<|by omega
   .cases i with
    |zero=>omega
    |succ i=>exact d.uI i (by simpa using a)<|by omega
  |false=>
   refine⟨0,bG _,λi a c=>absurd c<|gC i,λi a _=>?_⟩;grind[getElem_mem,li]
def QC(g:ae)(x:U)(h:rB t b d j a)(hD:t.D a)(r:b<=z (G a))(hF:∀w,t.F w->w<b):cD aZ 299 #[d,am g,aE x] a λaa N=>OX t a N (ir x (bZ j) g) aa:=by
 obtain⟨w,u⟩:=Dd h.side.zZ g;have m:Below (z<|G a) a (cG a<|ay #[am ⟨#[]⟩,am ⟨#[]⟩,aK bj,aE 0] 170):=(Below.refl _ a).alloc (ai _) _;have av:=h.small;have F:cD aZ 219 #[d,am g] (cG a<|ay #[am ⟨#[]⟩,am ⟨#[]⟩,aK bj,aE 0] 170) λaa N=>aa=aJ (aq w)/\Below (z<|G a) a N/\iG N (z<|G a) zE:=by apply(yW g ((h.mem r).below m) h.side.zZ).mono;rintro aa N⟨o,rfl,A,l⟩;obtain rfl:w=o:=Mq u A;exact⟨rfl,m.trans<|l.mono m.size,(l.block _<|by simp).trans<|aH _ rfl⟩
 have v:∀ac,b<=ac->¬t.F ac:=λac V a=>by have:=hF ac a;omega
 obtain⟨P,C,e⟩:=dz v (λW(s:Below (z<|G a) a W)=>t.eQ hD (I.aQ (S:=az) s) cC)<|λW(s:Below (z<|G a) a W)=>h.same<|(I.aQ (S:=az) s).same r cC cC;by_cases p:w<y j;(.rcases h.shape with⟨_,h0⟩|⟨ax,L,ao,rfl⟩;(grind);rw[h.side.Bn u p x];have HC:=Y<|λW(s:Below (z<|G a) a W)=>(e W s).cell p;have o:=Y<|λW(s:Below (z<|G a) a W)=>BI (n0:=b) (tbqq:=j[w].tb) (ks:=j[w].ks) (cs:=j[w].cs) g x ((e W s).each _<|ak p) (C W s) (aB r s.size) hF;have A:∀W,Below (z<|G a) a W->cD aZ 301 #[aA<|j[w].tb,am g,aE x] W λaa N=>OX t W N (ir x j[w].all g) aa:=af o;(have e1:((w:U)==(y j:U))=bj:=by simp;omega);(have e2:(w:U)<(y j:U):=by omega);(have e3:(0:U)<=(w:U):=by omega);clear o h u hD hF v m e;unfold bw.ptr at HC;generalize ir x j[w].all g=fe at*;generalize j[w].tb=X at*;have o:=Y A;clear A;(go_in);(go_wp2_with(go_at_call 219;refine F.mono ?_;rintro aa B⟨rfl,f,c⟩;have hc:=HC B f;have au:=o B f;have n:=Y c;have k:=Y f;clear c f));refine au.mono ?_;rintro aa w2⟨⟨xk,xv,xd,xb⟩,ok,ev,rfl,T,Q,K⟩;have l:=n.ap K<|P _ r;obtain⟨z0,z1,z2,z3⟩:=l.cells;have y0:=l.free (i:=0);have y1:=l.free (i:=1);have y2:=l.free (i:=2);have y3:=l.free (i:=3);obtain⟨O,ad,an,al⟩:=fX l Q K T;clear l Q K T;unfold E.value;simp only;go_wp2;refine cg (fp rfl _ _ (z<|G a) ⟨xk,xv,xd,xb⟩ _ _ rfl<|O.put ⟨xk,xv,xd,xb⟩) rfl ?_;have D:=iD w2 (z<|G a) ⟨xk,xv,xd,xb⟩;exact⟨⟨xk,xv,xd,xb⟩,ok,ev,rfl,al.imp id<|λ⟨a,b,c,q,d,e⟩=>⟨a,b,c,q,d,e.ap D O.sep⟩,t.eQ ad D (λac V=>by subst V;exact P _ r),((I.aQ (S:=t.F) k).trans an<|λw u=>.inl u).trans D<|λac V=>.inr<|by omega⟩);(have A:w=y j:=by have:=u.le;omega);subst A;have l:=h.side.xS u x;rw[l];rcases h.shape with⟨rfl,rfl⟩|⟨ax,L,ao,rfl⟩;(.clear h u hD hF v m l p e;(go_in);(go_wp2_with(go_at_call 219;refine F.mono ?_;rintro aa B⟨rfl,f,c⟩;obtain⟨z0,z1,z2,z3⟩:=c.cells;have y0:=c.free (i:=0);have y1:=c.free (i:=1);have y2:=c.free (i:=2);have y3:=c.free (i:=3);have n:=Y c;have k:=Y f;clear c f));refine cg (fp rfl _ _ (z<|G a) zE _ _ rfl<|n.put zE) rfl ?_;have o:Below (z<|G a) a (uB B (z<|G a) zE):=k.trans ((iD B (z<|G a) zE).below k.size<|λac V=>by omega);exact⟨zE,bj,.nilIface,rfl,.inl rfl,C _ o,I.aQ o⟩);clear h u hD hF v m l p e;(go_in);(go_wp2_with(go_at_call 219;refine F.mono ?_;rintro aa B⟨rfl,f,c⟩;obtain⟨z0,z1,z2,z3⟩:=c.cells;have y0:=c.free (i:=0);have y1:=c.free (i:=1);have y2:=c.free (i:=2);have y3:=c.free (i:=3);have n:=Y c;have k:=Y f;clear c f));refine cg (fp rfl _ _ (z<|G a) zE _ _ rfl<|n.put zE) rfl ?_;have o:Below (z<|G a) a (uB B (z<|G a) zE):=k.trans ((iD B (z<|G a) zE).below k.size<|λac V=>by omega);exact⟨zE,bj,.nilIface,rfl,.inl rfl,C _ o,I.aQ o⟩
def GX{w:Z}(t:bw)(h:Me w t)(A:rA t.ks<=1000000000):cD aZ 234 #[t.ptr] w λW Q=>W=aJ (aq (rA t.ks:M))/\Below (z<|G w) w Q:=by
 obtain⟨V,k,cut,o,P,q,b,i,x,f⟩:=h;obtain⟨u,a,T,num⟩:=t;simp only at A f|-;unfold bw.ptr;simp only;have B:=cellAt f.box 5 rfl;have m:=f.lt;have D:=f.small;have v:=Y f.cells;clear f;go_in
 go_wp2;go_loopw [3,11] (λc i wr=>∃n:M,n<=y a/\i=aq n/\c=aq (rA (a.take n):M)/\Below (z<|G w) w wr) (λ_ i _=>y a-(intOf i).toNat)
 case atStart=>exact⟨0,bG _,rfl,rfl,Below.refl _ _⟩
 (case round=>obtain⟨n,X,rfl,rfl,d⟩:=hrel;have C:=Br a n;have c:=Br a<|n+1;by_cases j:n<y a;(.have e:∀c i,c<5->(pV.cells a[n])[c]?=H i->aS wr (R q<|b+n*5+c)=H i:=λc i f g=>(d.cell (p:=(R q<|b+n*5+c)) m.2).trans (by rw[bF];exact v _ _<|(iw a n c j f).trans g);rw[aj j,Bt]at c;have g:=Y (show rA (a.take<|n+1)=rA (a.take n)+a[n].count by rw[aj j,Bt]);generalize a[n]=aa at*;obtain⟨pos,s,l,first,r⟩:=aa;have F:=e 0 _ (by omega) rfl;have K:=e 1 _ (by omega) rfl;have L:=e 2 _ (by omega) rfl;have N:=e 3 _ (by omega) rfl;have O:=e 4 _ (by omega) rfl;clear e;simp only[lq]at F K L N O;simp only at c g;generalize rA (a.take n)=S at*;have HB:=Y d;have E:=d.size;clear d;go_wp2;go_roundw;(case rel=>exact⟨n+1,j,by go_num,by rw[af g];go_num,HB.alloc E _⟩);case measure=>simp[intOf];omega);(have e:n=y a:=by omega);subst e;rw[bL];have HB:=Y d;clear d;go_wp2;go_ret;exact⟨rfl,HB⟩)
def jT(a:cN):M:=(a.map<|λt=>rA t.ks).sum
def GB(a:cN)(t:bw):jT (a++[t])=jT a+rA t.ks:=by simp[jT]
def GA(a:cN)(n:M):jT (a.take n)<=jT a:=by
 have h:=bQ (λl=>(l.map (λt:bw=>rA t.ks)).sum)<|bX n a;simp only[aR,iO]at h;unfold jT;omega
def Uw(h:T∈j):rA T.ks<=jT j:=by
 induction j with
 |nil=>cases h
 |cons b r a=>
  unfold jT at*;grind
def iK.cell{b c d n:M}(k:iK a (aY b c n d) j){i:M}(m:i<y j):aS a (R b<|c+i)=H j[i].ptr:=by
 obtain⟨_,⟨g,_⟩|⟨b',h,e,g,_,l⟩⟩:=k.row;cases g;grind
def iK.shape(h:iK a d j):(d=aw/\j=[])\/∃e b c,d=aY e b (y j) c/\y j<=c:=by
 rcases h.row.2 with⟨f,g⟩|⟨e,b,c,f,g,_⟩;grind
 grind
def yX(h:iK a d j)(B:jT j<=1000000000):cD aZ 195 #[d] a λx w=>x=aJ (aq (jT j:M))/\Below (z<|G a) a w:=by
 have v:=h.small;rcases h.shape with⟨rfl,rfl⟩|⟨E,m,s,rfl,_⟩;(.clear h;(go_in);go_wp2;(go_loopw [3,8] (λr o wr=>o=aq 0/\r=aq 0/\wr=a) (λ_ _ _=>0));(case atStart=>grind);(case round=>obtain⟨rfl,rfl,rfl⟩:=hrel;go_wp2;go_ret;exact⟨rfl,Below.refl _ _⟩));(.have q:=Y h;clear h;(go_in);go_wp2;(go_loopw [3,8] (λr o wr=>∃n:M,n<=y j/\o=aq n/\r=aq (jT (j.take n):M)/\Below (z<|G a) a wr) (λ_ o _=>y j-(intOf o).toNat));(case atStart=>exact⟨0,bG _,rfl,rfl,Below.refl _ _⟩);(case round=>obtain⟨n,C,rfl,rfl,e⟩:=hrel;have t:=GA j n;have g:=GA j<|n+1;by_cases c:n<y j;(.have b:=q.below e;have u:=b.cell c;rw[aj c,GB]at g;have l:=Y (show jT (j.take<|n+1)=jT (j.take n)+rA j[n].ks by rw[aj c,GB]);have i:=GX (w:=wr) j[n] (b.each _<|ak c) (by have:=Uw<|ak c;omega);clear b;unfold bw.ptr at u i;generalize rA j[n].ks=F at*;generalize j[n].tb=p at*;generalize jT (j.take n)=A at*;have HB:=Y e;clear e;(go_wp2_with fail);apply i.mono;rintro x D⟨rfl,f⟩;have k:=Y f;clear f;go_wp2;go_roundw;(case rel=>exact⟨n+1,c,by go_num,by rw[af l];go_num,HB.trans<|k.mono HB.size⟩);case measure=>simp[intOf];omega);(have b:n=y j:=by omega);subst b;rw[bL];have HB:=Y e;clear e;go_wp2;go_ret;exact⟨rfl,HB⟩))
section
open Shelf
attribute [local go_sem] Oper.semAt_some
def nX(v:ab):M->dJ->iF
 |_,[]=>[]
 |n,p::a=>yL v n (y p)::nX v (n+y p) a
def EX(v:ab):∀(n:M)(a:dJ),y (nX v n a)=y a
 |_,[]=>rfl
 |n,p::a=>by rw[nX,aW,aW,EX]
def BT(v:ab)(p:cI):∀(n:M)(a:dJ),nX v n (a++[p])=nX v n a++[yL v (n+y a.flatten)<|y p]
 |_,[]=>by simp[nX]
 |n,q::a=>by
  rw[dl,nX,BT,nX,dl,bO,ag,bF]
structure Cx(W:Z)(base N1:M)(v pv:ab)(ps:dJ)(t:M):Prop where
 p:eG W N1 pv 347
 f:eG W (N1+1) (aq<|y ps.flatten) 3
 to:eG W (N1+2) (aq t) 3
 o:W.ownsRow base 88 1 pv (y ps) (nX v 0 ps)
 Xx:∀k,cz pv=H k->k<N1\/N1+4<=k
 size:N1+4<=z (G W)
 bs:base<=N1
def IU(a:M)(b:ab)(k:M):Prop:=(a<=k/\k<a+3)\/cz b=H k
def Cx.ap{T:eT}(j:Cx a c g d u l m)(e:I T a B)(h:∀k,IU g u k->¬T k):Cx B c g d u l m:=⟨j.p.ap e<|h _<|.inl ⟨by omega,by omega⟩,j.f.ap e<|h _<|.inl ⟨by omega,by omega⟩,j.to.ap e<|h _<|.inl ⟨by omega,by omega⟩,e.own j.o<|λk n=>h k<|.inr n,j.Xx,aB j.size e.size,j.bs⟩
def Cx.at(h:Cx a c g d u l m)(n:M):Cx (cA a (R (g+2) 0)<|aq n) c g d u l n:=⟨h.p.other _ (by omega),h.f.other _ (by omega),h.to.set _,(io a _ 0 _).own h.o (λk e j=>by have:=h.Xx k e;omega),h.Xx,by rw[gN];exact h.size,h.bs⟩
def Cx.more{p:cI}(r:Cx a b c d u l g)(t:eC a f u P)(B:g=y l.flatten+y p)(w:f.ownsRow b 88 1 P (y l+1) (nX d 0 l++[yL d (y l.flatten)<|y p])):(aS f (R c 0)=H u/\f.frozen? (R c 0)=bj)/\(aS (cA f (R c 0) P) (R (c+1) 0)=H (aq<|y l.flatten)/\(cA f (R c 0) P).frozen? (R (c+1) 0)=bj)/\aS (cA f (R c 0) P) (R (c+2) 0)=H (aq g)/\Cx (cA (cA f (R c 0) P) (R (c+1) 0)<|aq g) b c d P (l++[p]) g/\I (IU c u) a (cA (cA f (R c 0) P) (R (c+1) 0)<|aq g)/\∀k,IU c P k->IU c u k\/z (G a)<=k:=by
 have e:=I.fy t;have C:=r.size;have h:∀x,c<=x->x<c+3->¬(cz u=H x):=λx e g m=>by have:=r.Xx x m;omega
 have n:=r.p.ap e (h _ (by omega)<|by omega);have o:=(r.f.ap e<|h _ (by omega)<|by omega).other (b':=c) (i:=0) P (by omega);have v:=(r.to.ap e<|h _ (by omega)<|by omega).other (b':=c) (i:=0) P (by omega);have j:∀k,cz P=H k->k<c\/c+4<=k:=by intro k s;rcases t.uj with m|⟨x,m,A⟩;exact r.Xx k<|m▸s;grind
 refine⟨⟨n.cell,n.free⟩,⟨o.cell,o.free⟩,v.cell,⟨(n.set P).other _ (by omega),?_,v.other _ (by omega),?_,j,?_,r.bs⟩,?_,?_⟩;have:=o.set<|aq g;rw[B]at this|-;rw[eK,ag];grind
 rw[ag,BT,dr];refine(io _ _ 0 _).own ((io _ _ 0 _).own w ?_) ?_;(grind);grind
 rw[gN,gN];have:=e.size;omega;exact((e.mono (T:=IU c u)<|λk s=>.inl<|.inr s).setCell _ 0 _<|.inl<|.inl ⟨by omega,by omega⟩).setCell _ 0 _<|.inl<|.inl ⟨by omega,by omega⟩;rintro k(m|m);exact .inl<|.inl m;rcases t.uj with q|⟨x,q,A⟩;exact .inl<|.inr<|q▸m;grind
structure Cq(w:Z)(N1:M)(v:ab)(n L:M)(pre:cS (M×cI))(B:eT)(W:Z):Prop where
 ex:∃ps cur pv,Cx W (z (G w)+2) N1 v pv ps (y<|ie pre)/\ie pre=ps.flatten++cur/\(∀rest,kp n L 0 0 [] (pre.map (·.2)++rest)=ps++kp n L (y ps) (y<|ie pre) cur rest)/\∀k,B k↔IU N1 pv k
 l:eG W (z<|G w) v 88
 n:eG W (z (G w)+1) (aq n) 3
 ap:I az w W
def Cq.lt{h:cS (M×cI)}(o:Cq a c d g m h X B):∀k,X k->z (G a)+2<=k/\k<z (G B):=by
 obtain⟨p,i,q,e,_,_,j⟩:=o.ex;intro k l;have:=e.bs;have:=e.size;rcases(j k).1 l with n|n;grind
 have:=bK e.o k n;grind
def Cq.stays{e:cS (M×cI)}{T:eT}(p:Cq a b d c g e X f)(i:I T f B)(h:∀k,T k->¬X k/\b+3<=k):Cq a b d c g e X B:=by
 obtain⟨s,j,t,o,q,r,n⟩:=p.ex;have:=o.bs;exact⟨⟨s,j,t,o.ap i<|λk l m=>(h k m).1<|(n k).2 l,q,r,n⟩,p.l.ap i (λm=>by have:=(h _ m).2;omega),p.n.ap i (λm=>by have:=(h _ m).2;omega),p.ap.trans i<|λk l=>.inr (by have:=(h k l).2;omega)⟩
def Mr{gg:cI}{d:dJ}(h:∀a,kp b c 0 0 [] (l++a)=d++kp b c (y d) g e a):((y d+1)*c/b<=g+y gg->∀a,kp b c 0 0 [] (l++[gg]++a)=(d++[e++gg])++kp b c (y<|d++[e++gg]) (g+y gg) [] a)/\(¬(y d+1)*c/b<=g+y gg->∀a,kp b c 0 0 [] (l++[gg]++a)=d++kp b c (y d) (g+y gg) (e++gg) a):=by
 constructor;intro f a;rw[bz,h,dl,de,oP,dV f];simp;intro f a;rw[bz,h,dl,de,oP,eI f]
def TE:(prog.info? 88).map (λi=>(i.zero,i.size,i.bytes))=H (H aw,1,24):=by kernel_rfl
def Pt(h:jU a d e)(hs:dK e)(hl:y e<=1000000)(v:∀k,cz d=H k->k<z (G a)):cD aZ 220 #[d] a λen w'=>∃v',en=aJ v'/\w'.ownsRow (z<|G a) 88 1 v' (y<|gL e) (nX d 0<|gL e)/\I az a w':=by
 obtain⟨i0,cj,cx,cB,cE⟩:=cU TE;obtain⟨bn,o,cw⟩:=bN h;have eg:=Ab d bn (y e) o cw;obtain⟨N,hN⟩:∃N,ub (y e)=N:=⟨_,rfl⟩;have es:N<=10418:=by unfold ub at hN;omega
 have bT:0<y e->0<N:=by unfold ub at hN;omega
 have e1:Int.tdiv ((y e:U)+96-1) 96=(N:U):=by(have:((y e:U)+96-1)=((y e+95:M):U):=by omega);rw[this,<-hN];unfold ub;grind
 unfold gL;rw[hN];obtain⟨HN,ds,HH,HV⟩:=fX hN bT h v;clear h v hN bT;subst cw;refine(dS (n:=3)).1 ?_;refine callsIn_of_wp_marks func220 rfl trivial ?_ rfl;simp only[ntmps220,ga,aW,eD,Nat.reduceAdd,Nat.reduceSub,eX,eW,gd,fq,de,dl]
 gi_wp2_with(first
  |(gi_at_make;go_loud(refine wpListIn_make_own _ rfl _ _ 347 rfl (z (G a)+2) 88 i0 aw 1 underlying347 cj cx cB _ _ _ N rfl rfl (by omega) (by rw[cE];omega) (by unfold maxLen;omega) (by simp) ?_;intro g co x;have W:eG g (z<|G a) (.slice bn (y e) o) 88:=(x.block _ (by simp<;>omega)<|by simp).trans<|eG.alloc (aH _ rfl) _;have X:eG g (z (G a)+1) (.int .i64 N) 3:=(x.block _ (by simp<;>omega)<|by simp).trans (aH _<|by simp);have y0:=W.cell;have y1:=X.cell;have y2:=ar W;have y3:=ar X;have y4:z (G a)<z (G g)+1:=(by omega);have y5:z (G a)<z (G g)+1+1:=(by omega);have db:=Y W;have dc:=Y X;have ba:Hid (g.ownsRow (z (G a)+2) 88 1 (aY (z (G a)+1+1) 0 0 N) 0 []):=Y (by simp_all);have dm:=Y x;clear co x W X))
  |(refine⟨trivial,?_⟩;gi_at_call 159;refine(dS.2 (eg _)).mono ?_;rintro en w1⟨rfl,rfl⟩))
 obtain⟨W0,u⟩:∃W0,(cG (cG (cG (cG g<|ay #[aY (z (G a)+1+1) 0 0 N] 347)<|ay #[aq 0] 3)<|ay #[aq 0] 3)<|ay #[J bn (y e) o] 88)=W0:=⟨_,rfl⟩;have fe:z (G W0)=z (G g)+4:=by rw[<-u];simp
 have ek:I az a g:=(((I.refl az a).alloc<|ay #[J bn (y e) o] 88).alloc<|ay #[aq N] 3).bW (I.dW (S:=az) dm<|by simp);have A:I az g W0:=by rw[<-u];exact(((cK az g).alloc _).alloc _).alloc _
 have cs:I az a W0:=ek.bW A;have ed:eG W0 (z (G g)+3) (J bn (y e) o) 88:=by rw[<-u];exact aH _<|by simp
 have bt:jU W0 (J bn (y e) o) e:=HH.ap cs<|λk b=>⟨id,HV k b⟩;have hA0:Cq a (z<|G g) (J bn (y e) o) N (y e) [] (IU (z<|G g)<|aY (z (G a)+1+1) 0 0 N) W0:=by refine⟨⟨[],[],_,⟨?_,?_,?_,?_,?_,by omega,by omega⟩,rfl,λP=>rfl,λk=>qH⟩,db.ap A id,dc.ap A id,cs⟩;rw[<-u];grind[eG.alloc,aH];rw[<-u];exact eG.alloc (eG.alloc (aH _<|by simp) _) _;rw[<-u];exact eG.alloc (aH _<|by simp) _;exact A.own ba<|λ_ _ o=>o;intro k b;have:=(ba.lt k b).2;exact .inl this
 clear y0 y1 y4 y5;rw[u];refine oN (m:=3) (arg:=Fo<|J bn (y e) o) (V:=Am) (n0:=z<|G a) (gf:=211) (lb:=#[aA<|z (G g)+3]) (l:=nz 0<|ic e) (S:=λk=>k=z (G g)+3) ?geval (enters_of func211 (by kernel_rfl) rfl) (λ_=>rfl) (vr (z<|G a) 2 ed bt HV (by omega)<|by omega) trivial (by omega) (λk b=>by omega) (λj aD bs=>Cq a (z<|G g) (J bn (y e) o) N (y e) j aD bs) (λ_ _ _ _=>False) _ hA0 (λk b o=>by rcases o with⟨_,o⟩|o;omega;have:=(ba.lt k o).2;omega) (λj aD bs E k b=>⟨by have:=(E.lt k b).1;omega,(E.lt k b).2⟩) ?st (λ_ _ _ _ _ _ h=>h.elim) ?body ?done ?stop;case geval=>rfl
 (case st=>intro j aD bs f T E ht c;refine E.stays ht<|λk b=>⟨(c k b).1,?_⟩;rcases(c k b).2 with o|o|o;omega;exact o.elim;omega);(case stop=>grind)
 case body=>
  rintro lr j⟨aF,n⟩aD bs eA eb cm L E _;obtain⟨hn,fk,b⟩:=Ii hs L;have ev:0<y n:=gB.2 b.ne;have ey:aF+y n+y fk=y e:=by rw[b.all,hn];simp;omega
  obtain⟨cM,c,er,hx,ex⟩:=bt.some (by omega);cases hx;have ef:∀q∈j.map (·.2),q≠[]:=by
   obtain⟨_,ax,en⟩:=xQ _ _ _ _ _ L;exactλq hq=>CG e q (by rw[<-en];simp[hq])
  unfold Fo yL;simp only;have K:=hn.symm;have HA:=Y E;clear E L b hn;gi_wp2;refine⟨I.refl _ _,λT bk=>?_⟩;have hA2:=HA.stays bk (λk b=>by grind);obtain⟨l,B,pv,v,hcut,s,hB⟩:=hA2.ex;rw[K]at v s;have eB:y l<=aF:=by
   have h1:=s [];rw[dO]at h1;have h2:l=kp N (y e) 0 0 [] (j.map (·.2)):=by rw[h1];simp[kp]
   have h3:=Ca (ps:=l) (by rw[h2];exact Jy _ _ _ _ ef);have h4:=bQ y hcut;rw[K,ag]at h4;omega
  have ce:y l.flatten+y B=aF:=by rw[<-K,hcut,ag]
  obtain⟨px,pc,bh⟩:=aC v.o;have z0:=v.to.cell;have z1:=v.to.free;have cv:=v.at (aF+y n);have ac:I aD T (cA T (R (z (G g)+2) 0)<|aq ((aF+y n:M):U)):=(I.refl aD T).setCell _ 0 _<|.inl<|(hB _).2<|.inl ⟨by omega,by omega⟩;have ck:=hA2.l.ap ac (λo=>by have:=(HA.lt _ o).1;omega);have cn:=hA2.n.ap ac (λo=>by have:=(HA.lt _ o).1;omega);obtain⟨q,hq⟩:∃q,(y l+1)*y e/N=q:=⟨_,rfl⟩;obtain⟨cT,hp⟩:∃cT,(y l+1)*y e=cT:=⟨_,rfl⟩;have fb:cT<=1000001*1000000:=by rw[<-hp];exact Nat.mul_le_mul (by omega) hl
  have a1:((y l:U)+1)*(y e:U)=(cT:U):=by rw[<-hp];grind
  have a2:Int.tdiv (cT:U) (N:U)=(q:U):=by rw[<-hq,hp];grind
  have et:=ds (by omega);have bi:=Mr (gg:=n) s;rw[hq]at bi;have b1:((N:U)==0)=bj:=by simp;omega
  have b2:IntKind.i64.wrap (cT:U)=(cT:U):=by rw[bS];omega
  have fd:q<=cT:=by rw[<-hq,hp];exact Nat.div_le_self _ _
  have b3:IntKind.i64.wrap (q:U)=(q:U):=by rw[bS];omega
  have dT:¬((N:U)=0):=by omega
  have ea:¬(N=0):=by omega
  obtain⟨bc,HB,bb,Q,bq,an⟩:=kY cv hB ac bk bi hcut;obtain⟨aV,dv,bo,bp,aU⟩:=jk ce K ck cn hA2;clear cv hB ac bk bi hcut K ck cn s v hq hp hA2 ce;subst bh;gi_wp2_with fail
  rw[show z (G g)+1+1=z (G g)+2 from rfl,show z (G g)+2+1=z (G g)+3 from rfl,show((aF:U)+(y n:U))=((aF+y n:M):U)by push_cast;rfl];generalize ec:cA T (R (z (G g)+2) 0) (aq ((aF+y n:M):U))=W3 at*;clear ec;have s0:=bc.to.cell;have s1:=bc.p.cell;have s2:=bo.cell;have s3:=bp.cell;obtain⟨ax,O⟩:∃ax,aF+y n=ax:=⟨_,rfl⟩;rw[O]at s0|-;rename_i QQ KK bE;refine AD (by kernel_rfl) (by kernel_rfl) (by kernel_rfl) (λfg a h=>h) ?_;repeat(quiet_step (fail))
  refine wpQuiet_nil ?_;rintro _⟨nq,rfl⟩;show KK _ _;apply bE;clear bE;have b4:IntKind.i64.wrap ((y l:U)+1)=(y l:U)+1:=by rw[bS];omega
  rw[b4,a1,b2,a2,b3];obtain⟨r,bd⟩:∃r,W3.drewN nq=r:=⟨_,rfl⟩;have p:I az W3 r:=by rw[<-bd];exact je _ W3 nq
  rw[bd];have bl:=bc.ap p<|λ_ _=>id;have ff:I (λk=>aD k\/k=lr) bs r:=((Q.mono<|λk b=>.inl<|.inr b).trans bb<|λk b=>.inl<|.inl b).bW p;have aa:=bo.ap p id;have ei:=bp.ap p id;have cu:I az a r:=(aU.ap.trans bb<|λk b=>.inr (by have:=(aU.lt k b).1;omega)).bW p;have av:I aD T r:=bb.bW p;have cl:lr<z (G T):=ah cm.1 Q.size;have eu:z (G bs)<=z (G T):=Q.size;have w:=Y (show∀(F:Z)(pf:ab)(f:dJ)(ad:cI),Cx F (z (G a)+2) (z<|G g) (aY cM c (y e) o) pf f (aF+y n)->ie j++n=f.flatten++ad->(∀P,kp N (y e) 0 0 [] (j.map (·.2)++[n]++P)=f++kp N (y e) (y f) (aF+y n) ad P)->I aD r F->(∀k,IU (z<|G g) pf k->aD k\/z (G r)<=k)->AW Am (λj aD bs=>Cq a (z<|G g) (aY cM c (y e) o) N (y e) j aD bs) (λ_ _ _ _=>False) (j++[(aF,n)]) aD bs T lr .normal ⟨#[],[]⟩ F fromλF pf f ad h1 h2 h3 h4 h5=>by
   have e1:ie (j++[(aF,n)])=ie j++n:=sP _ _ _;have e2:y (ie<|j++[(aF,n)])=aF+y n:=by rw[e1,ag,af dv]
   have C:∀k,aD k->z (G a)+2<=k:=λk b=>(aU.lt k b).1;have t:I aD T F:=av.trans h4 (λk b=>.inl b);refine⟨trivial,IU (z (G g)) pf,⟨⟨f,ad,pf,by rw[e2];exact h1,by rw[e1];exact h2,by rw[e2,aR];exact h3,λk=>qH⟩,aa.ap h4 (λo=>by have:=C _ o;omega),ei.ap h4 (λo=>by have:=C _ o;omega),cu.trans h4 (λk b=>.inr (by have:=C k b;omega))⟩,(Q.mono (λk b=>.inl (.inr b))).trans t (λk b=>.inl (.inl b)),t.block lr cl eb,λk b=>(h5 k b).imp_right (λo=>by have:=av.size;omega)⟩)
  clear bd s0 s1 s2 s3 a1 a2 b1 b2 b3 b4 dT ea z0 z1;have ch:y l.flatten<=ax/\y l.flatten<ax:=by have:=af aV;omega
  by_cases cp:q<=ax
  .have ej:(q:U)<=(ax:U):=by omega
   have F:∀f:Z,I az r f->Cx f (z (G a)+2) (z<|G g) (aY cM c (y e) o) (J px (y l) pc) l ax:=λf ht=>O▸bl.ap ht (λ_ _=>id);have dk:=Y F;have dn:=Y aa;obtain⟨al,hf⟩:∃al,y l.flatten=al:=⟨_,rfl⟩;have br:=Y (show∀f:Z,I az r f->aS f (R (z<|G g) 0)=H (J px (y l) pc)/\aS f (R (z<|G a) 0)=H (aY cM c (y e) o)/\aS f (R (z (G g)+1) 0)=H (aq (al:U))/\aS f (R (z (G g)+2) 0)=H (aq (ax:U))fromλf ht=>⟨(F f ht).p.cell,(aa.ap ht id).cell,hf▸(F f ht).f.cell,(F f ht).to.cell⟩);rw[hf]at ch;have Hf:=Y hf;have ca:=br r.drew<|cR _ r;have b4:(al:U)<=(ax:U):=by omega
   have b5:(ax:U)<=(o:U):=by omega
   have b6:¬(o-al=0):=by omega
   have b7:(0:U)<=(al:U):=by omega
   have eq:¬(o=al):=by omega
   clear F aa hf;gi_wp2_with fail
   rename_i eo dx ao;refine tB (λf=>aS f (R (z<|G g) 0)=H (J px (y l) pc)/\aS f (R (z<|G a) 0)=H (aY cM c (y e) o)/\aS f (R (z (G g)+1) 0)=H (aq (al:U))/\aS f (R (z (G g)+2) 0)=H (aq (ax:U))) 7 (by kernel_rfl) (by kernel_rfl) (λfg a h=>h) ?_;refine eR 0 ?_;iterate 5 (refine iC (v:=?_) ca rfl (by kernel_rfl) ma rfl ?_ ?_;rotate_left;(focus(rintro f⟨z0,z1,z2,z3⟩;go_simp;try rfl));simp only[Act.put,eF,Nat.reduceAdd])
   apply ig;refine bC (i:=5) rfl rfl (by kernel_rfl) ?_;intro K5 bu;go_simp;have C:I az r (cG r<|ay #[aY cM (c+al*4) (ax-al)<|o-al] 88).drew:=(cK _ r).of_heap rfl;have t:=dk _ C;have em:=t.size;refine bu _ _ (λ_=>br _ C) ?_;try simp only[Act.put,eF]
   refine bC (i:=6) rfl rfl (by kernel_rfl) ?_;intro K6 bv;simp only[cQ,cq,cy];refine kg (.tmp 32) (.tmp 37) 347 rfl (z (G a)+2) 88 i0 aw 1 24 underlying347 cj cx cB cE rfl (by decide) (J px (y l) pc) (y l) (nX (aY cM c (y e) o) 0 l) rfl t.o (R (z<|G r) 0) 1 1 [aY cM (c+al*4) (ax-al)<|o-al] rfl rfl (pq _ _ _) (by simp[Value.oneCell']) (by omega) (by omega) (by grind) ?_;intro v6 w6 bg bm;obtain⟨x6,c6,el⟩:=aC bg;subst el;obtain⟨⟨y0,y1⟩,⟨y4,y5⟩,y6,cd,cc,cb⟩:=t.more (p:=B++n) bm (by rw[ag];have:=af aV;omega) (by
    have en:yL (aY cM c (y e) o) (y l.flatten) (y<|B++n)=aY cM (c+al*4) (ax-al) (o-al):=by
     unfold yL;simp only;rw[af Hf,show y (B++n)=ax-al by rw[ag];have:=af aV;have:=af Hf;omega]
    rw[en];exact bg)
   have ad:=I.fy bm;have bf:∀bn,z (G g)<=bn->bn<z (G g)+3->¬(cz (J px (y l) pc)=H bn):=λbn h1 h2 q=>by have:=t.Xx bn q;omega
   refine bv _ _ (λ_=>⟨y0,((dn.ap C id).ap ad (λq=>by have:=(bK t.o _ q).1;omega)).cell,Hf▸(t.f.ap ad<|bf _ (by omega)<|by omega).cell,(t.to.ap ad<|bf _ (by omega)<|by omega).cell⟩) ?_;try simp only[Act.put,eF]
   have au:=w _ _ _ [] (O▸cd) (by rw[af an];simp) (bq.1 (by rw[O];exact cp)) (((I.refl az r).bW C|>.mono cC).trans cc<|λk b=>.inl<|(HB k).2 b)<|λk b=>(cb k b).imp (λo=>(HB k).2 o) (λo=>by have:=C.size;omega);have D:=Y au;rw[af Hf]at y4;clear au cd cc cb t bg bm ad bf C em w;refine bC (i:=7) rfl rfl (by kernel_rfl) ?_;intro K7 bx;go_simp;refine bx _ _ (λq=>(q rfl).elim) ?_;refine eN (by kernel_rfl) ?_ _;show dx _ _;refine ao _ _ ?_;clear ao bu bv bx ca;gi_wp2;exact D
  .have ej:¬((q:U)<=(ax:U)):=by omega
   have D:=Y<|w r _ l (B++n) bl (by rw[af an,bz]) (bq.2 (by rw[O];exact cp)) (I.refl _ _)<|λk b=>.inl<|(HB k).2 b;clear w bl;gi_wp2;exact D
 (case done=>intro D aD bs K E p _ t;obtain⟨l,B,pv,v,hcut,s,hB⟩:=E.ex;rw[Aj]at hcut v s;(have c:kp N (y e) 0 0 [] (ic e)=l:=by have:=s [];rw[Bg,dO]at this;rw[this];simp[kp]);have n:=Y c;obtain⟨px,pc,bh⟩:=aC v.o;have O:=v.p.cell;have r:cz pv≠H D:=λq=>p<|(hB D).2<|.inr q;obtain⟨C,w,F⟩:=dz v.o t E.ap;have L:=ar t;clear E v hcut s hB t c;subst bh;gi_wp2;have f:=gZ bs D<|.deferred none;refine⟨by simp,.inl ⟨_,_,rfl,run_takeDeferred w,?_⟩⟩;refine⟨_,jP rfl _ _ _,?_⟩;exact⟨_,rfl,by rw[af n];exact fM (f.own C<|λk b q=>r (by rw[<-q];exact b)) (by omega),F.trans f<|λk b=>.inr (by subst b;omega)⟩)
end
