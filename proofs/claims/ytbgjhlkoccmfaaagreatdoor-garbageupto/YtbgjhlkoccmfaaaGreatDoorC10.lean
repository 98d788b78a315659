import Derived.Laws.StructEq
import Derived.Test.YtbgjhlkoccmfaaaGreatDoorC9
open _root_ renaming List.length→y,Option.some→M,Array.size→G,Go.World.heap→H,Go.Value.ownBlock→cN,Go.World.cell?→bA,Go.World.setCell→cP,Go.World.alloc→dw,Bool.false→bD,Bool.true→cz,Nat→R,Int→Y,List→cy,Go.Calls→cR,Go.undef→jn,Go.Proofs.Tryz.prog→bN,Go.Value.slice→am,Go.Value.string→aw,Go.Value.bool→aO,Go.Value.pointer→ee,Go.Value.tuple→de,Go.Value.agg→ef,Go.World.frozen?→iI,Go.World.ownsRow→fE,Go.Value.nilIface→ic,Go.Act.put→ii,Nat.reduceAdd→ke,Go.RowKit.Below→gD,Bool→eN,Option.none→dE,rfl→z,Or.inl→J,Or.inr→bu
namespace Go.Proofs.YtbgjhlkoccmfaaaGreatDoor
open ChangeShapes WideShapes RowKit Proofs.Tryz List
set_option maxHeartbeats 16000000
set_option linter.all false
set_option maxRecDepth 100000
variable{a e P:Z}{b c k n T:R}{d:ae}{f x:DK}{i:dB}{l v C F:dI}{m:eD}{o:SR}{r:Y}{B:af}{K:Prop}{N:Fs}{V:eN}
def Ey{P:Program}{d:Array Oper}{Q:Exit->Act->Z->Prop}{e:Region.Mode}{S:Z->Prop}{i m:R}{o:Oper}{c:Array eN}{k:Act}(n:d[i]?=M o)(p:Region.wanted o (yielded d k.tmps)=cz)(l:Region.ready e d c=[i])(h:∀K:Act->Z->Prop,(∀g f,(i<m->S f)->oU P e d Q S m b (c.setIfInBounds i cz) g f->K g f)->Oper.wp P o k a K Q):oU P e d Q S m (b+1) c k a:=by
 refine⟨aI,λq j=>?_⟩;rw[l]at j;obtain rfl:q=i:=dV j;unfold wpOp;grind
def AF(a c:cy dI)(j:R):Prop:=∀i,i<j->y (a.getD i [])=y (c.getD i [])/\lU (a.getD i [])=lU (c.getD i [])
def AF.nx{a d:cy dI}(h:AF a d c)(f:y (a.getD c [])=y (d.getD c []))(g:lU (a.getD c [])=lU (d.getD c [])):AF a d (c+1):=λi e=>by
 obtain q|rfl:=Nat.lt_succ_iff_lt_or_eq.1 e;exact h i q;grind
def MG(ac:Z)(n o:R)(p0 p1 p2 p3 q0 q1 q2 q3:ae)(C D E F K L N O:dI)(d:∀W,I aC ac W->(bA W (X n 10)=M p0/\bA W (X n 11)=M p1/\bA W (X n 12)=M p2/\bA W (X n 13)=M p3)/\(bA W (X o 0)=M q0/\bA W (X o 1)=M q1/\bA W (X o 2)=M q2/\bA W (X o 3)=M q3)/\(jY W p0 C/\jY W p1 D/\jY W p2 E/\jY W p3 F)/\(jY W q0 K/\jY W q1 L/\jY W q2 N/\jY W q3 O))(hc:lU C<=20000000000/\lU D<=20000000000/\lU E<=20000000000/\lU F<=20000000000/\lU K<=20000000000/\lU L<=20000000000/\lU N<=20000000000/\lU O<=20000000000):cR bN 150 #[ee<|M<|X n 10,aJ o] ac λax w'=>∃aV,ax=aN (aO aV)/\(aV=cz->AF [C,D,E,F] [K,L,N,O] 4)/\I aC ac w':=by
 have one:∀(k j:R)(f q:ae)(e b:dI),(∀W,I aC ac W->(bA W (X n k)=M f/\bA W (X o j)=M q)/\jY W f e/\jY W q b)->lU e<=20000000000->lU b<=20000000000->∃(ab:Z->Prop)(an m:Option Addr)(ad al:R)(A B:dI),(∀W,I aC ac W->ab W/\jY W (am an (y A) ad) A/\jY W (am m (y B) al) B)/\(∀c,ab c->bA c (X n k)=M (am an (y A) ad)/\bA c (X o j)=M (am m (y B) al))/\lU A<=20000000000/\lU B<=20000000000/\A=e/\B=b:=by intro k j f q e b h aU aD;let⟨_,s,t⟩:=h ac<|I.bI _ ac;obtain⟨an,ad,rfl⟩:=cG s.bV;obtain⟨m,al,rfl⟩:=cG t.bV;exact⟨_,an,m,ad,al,e,b,h,λc h=>h,aU,aD,z,z⟩
 have p:∀j,j<4->∃(ab:Z->Prop)(an m:Option Addr)(ad al:R)(A B:dI),(∀W,I aC ac W->ab W/\jY W (am an (y A) ad) A/\jY W (am m (y B) al) B)/\(∀c,ab c->bA c (X n<|10+j)=M (am an (y A) ad)/\bA c (X o j)=M (am m (y B) al))/\lU A<=20000000000/\lU B<=20000000000/\A=[C,D,E,F].getD j []/\B=[K,L,N,O].getD j []:=by let⟨e,f,g,i,m0,m1,m2,m3⟩:=hc;intro j hj;obtain rfl|rfl|rfl|rfl:=(show j=0\/j=1\/j=2\/j=3 by omega);exact one 10 0 _ _ _ _ (λW a=>⟨⟨(d W a).1.1,(d W a).2.1.1⟩,(d W a).2.2.1.1,(d W a).2.2.2.1⟩) e m0;exact one 11 1 _ _ _ _ (λW a=>⟨⟨(d W a).1.2.1,(d W a).2.1.2.1⟩,(d W a).2.2.1.2.1,(d W a).2.2.2.2.1⟩) f m1;exact one 12 2 _ _ _ _ (λW a=>⟨⟨(d W a).1.2.2.1,(d W a).2.1.2.2.1⟩,(d W a).2.2.1.2.2.1,(d W a).2.2.2.2.2.1⟩) g m2;exact one 13 3 _ _ _ _ (λW a=>⟨⟨(d W a).1.2.2.2,(d W a).2.1.2.2.2⟩,(d W a).2.2.1.2.2.2,(d W a).2.2.2.2.2.2⟩) i m3
 clear d hc one;generalize [C,D,E,F]=As at p|-;generalize [K,L,N,O]=Bs at p|-;go_in
 go_wp2;go_loopw [6] (λav wr=>∃j:R,j<=4/\av=ay j/\AF As Bs j/\I aC ac wr) (λav _=>4-(intOf av).toNat)
 exact⟨0,U,dM,λav a=>U,I.bI _ _⟩;(.obtain⟨j,hj,rfl,k,ht⟩:=hrel;by_cases h4:j<4;(.let⟨ab,an,m,ad,al,A,B,a,w,aU,aD,eA,eB⟩:=p j h4;have ao:=ak<|show y A=y B->lU A=lU B->AF As Bs (j+1)fromλa c=>k.nx (eA▸eB▸a)<|eA▸eB▸c;clear k eA eB;have u:=ht.t<|cf aC wr;let⟨g,hL,_⟩:=a wr.drew u;have r:=BQ hL aU;have HQ:=ak<|λW(c:I aC ac W)=>And.intro (a W c).1 (BQ (a W c).2.2 aD);clear ht a hL;obtain rfl|rfl|rfl|rfl:=(show j=0\/j=1\/j=2\/j=3 by omega);(all_goals simp only[ke]at w;by_cases i:y A=y B;(.have el:((y A:Y)!=(y B:Y))=bD:=aI;have x:=ak i;clear i;let⟨eb,ec⟩:∃eb,((lU A:Y)!=(lU B:Y))=eb:=⟨_,rfl⟩;go_wp21;rename_i QQ KK f;refine kG ab 28 aH ?_;refine lX 0 ?_;(iterate 19 (refine vi (v:=?_) g z aH (λ_ _ _ h=>h) (J ⟨by rfl,?_⟩) ?_;rotate_left;(focus(intro c l;let⟨z0,z1⟩:=w c l;go_simp;try with_reducible rfl));simp only[ii,ke,dC,eZ,eO,dl,cF,cO]));apply qj;refine lX 20 ?_;(iterate 5 (refine vi (v:=?_) g z aH (λ_ _ _ h=>h) (J ⟨by rfl,?_⟩) ?_;rotate_left;(focus(intro c l;let⟨z0,z1⟩:=w c l;go_simp;try with_reducible rfl));simp only[ii,ke,dC,eZ,eO,dl,cF,cO]));apply qj;refine Ey (i:=19) z (by rfl) aH ?_;intro K1 P;go_simp;go_call r as ax W1⟨rfl,T⟩;have s:=u.t<|I.p (S:=aC) T;let⟨S,aa⟩:=HQ W1 s;have ap:=ak s;refine P _ _ (λ_=>S) ?_;(try simp only[ii,dC,eZ,eO,dl,cF,cO]);clear P T s r g S;refine Ey (i:=25) z (by rfl) aH ?_;intro K2 Q;go_simp;go_call aa as ax W2⟨rfl,V⟩;have t:=ap.t<|I.p (S:=aC) V;have g:=(HQ W2 t).1;have e:=ak t;refine Q _ _ (λ_=>g) ?_;(try simp only[ii,dC,eZ,eO,dl,cF,cO]);clear Q V t aa;refine lX 26 ?_;(iterate 2 (refine vi (v:=?_) g z aH (λ_ _ _ h=>h) (J ⟨by rfl,?_⟩) ?_;rotate_left;(focus(intro c l;let⟨z0,z1⟩:=w c l;go_simp;try with_reducible rfl));simp only[ii,ke,dC,eZ,eO,dl,cF,cO]));apply qj;refine kS aH ?_ _;show KK _ _;apply f;clear f g;cases eb;(.have HN:=ak<|ao x<|bP<|bne_eq_false_iff_eq.1 ec;go_wp2;go_roundw;(first|exact⟨1,U,dM,HN,e⟩|exact⟨2,U,dM,HN,e⟩|exact⟨3,U,dM,HN,e⟩|exact⟨4,U,dM,HN,e⟩);simp[intOf]);go_wp2;go_ret;exact⟨bD,z,(λq=>by cases q),e⟩);(.have el:((y A:Y)!=(y B:Y))=cz:=Bp.2 U;clear i;go_wp21;rename_i QQ KK f;refine kG ab 28 aH ?_;refine lX 0 ?_;(iterate 14 (refine vi (v:=?_) g z aH (λ_ _ _ h=>h) (J ⟨by rfl,?_⟩) ?_;rotate_left;(focus(intro c l;let⟨z0,z1⟩:=w c l;go_simp;try with_reducible rfl));simp only[ii,ke,dC,eZ,eO,dl,cF,cO]));apply qj;refine lX 14 ?_;(iterate 13 (refine vi (v:=jn) g z aH (λ_ _ _ h=>h) (bu ⟨by rfl,z⟩) ?_;simp only[ii,ke,dC,eZ,eO,dl,cF,cO]));apply qj;refine lX 27 ?_;(iterate 1 (refine vi (v:=?_) g z aH (λ_ _ _ h=>h) (J ⟨by rfl,?_⟩) ?_;rotate_left;(focus(intro c l;let⟨z0,z1⟩:=w c l;go_simp;try with_reducible rfl));simp only[ii,ke,dC,eZ,eO,dl,cF,cO]));apply qj;refine kS aH ?_ _;show KK _ _;apply f;clear f g r;go_wp2;go_ret;exact⟨bD,z,(λq=>by cases q),u⟩)));obtain rfl:j=4:=U;have f:=ak ht;have e:=ak k;clear ht k;go_wp2;go_ret;exact⟨cz,z,(λ_=>e),f⟩)
def sE.TJ{g b j l:dI}(h:sE N a c o f i g b j l k):∀r∈i::lM g b j l,gG r:=by
 intro r d;unfold lM at d;simp only[dy,aP,pU,cC,lh,uS]at d;obtain rfl|⟨t,e,rfl⟩|rfl|rfl|rfl:=d;exact h.o;exact((h.l0.bZ t e).p).o;exact h.s1.o;exact h.s2.o;exact h.s3.o
structure T8(j5:Prop)(j4:cy af)(w W:Z)(sb lb:R)(s:SR)(k:Y)(K:DK)(m:dB)(a b c d:dI)(C N:R)(sn:gJ)(v3:ae)(tm:dI)(qs:cy NT):Prop where
 sv:SV w sb s k lb K (a++b++c++d) C W aF aF aF v3 [] [] [] tm qs
 qP:∃K',gl w W s.f sb K K'/\wS K K'/\Inv j5 j4 W sb s K' m a b c d C N sn
 f:jY W v3 tm
 MX:lU tm<=3000000000
def T8.aA{L:Prop}{E:cy af}{w ab C:Z}{K:DK}{an:dB}{ac b ad al:dI}{aa:R}{O:gJ}{N:cy NT}(h:T8 L E w ab c k o r K an ac b ad al n aa O d v N)(a:I aC ab C):T8 L E w C c k o r K an ac b ad al n aa O d v N:=by
 let⟨P,W,x,D⟩:=h.qP;have p:=nk (j3:=c) D.st.f a;refine⟨⟨h.sv.ls.aA (a.aT cY)<|(nX o.f K).l h.sv.ls.D a cY,(a.A k (az h.sv.lb) id).trans h.sv.lb,(a.A c (az h.sv.g) id).trans h.sv.g,h.sv.aA.t a⟩,⟨P,W.aj p,x,D.eQ (az h.sv.g) p z (aq _) z⟩,⟨a.bV h.f.bV<|λr t=>⟨id,h.f.lt r t⟩,λr t=>au (h.f.lt r t) a.D,λao A=>?_,h.f.f⟩,h.MX⟩;let⟨V,g,q,j,B,Q,m,e,s,u⟩:=h.f.bZ ao A;exact⟨V,g,q,j,B,Q,m,e,s,u.dU (a.A _ u.lt.1 id)<|a.A _ u.lt.2 id⟩
def Z9{j4:cy af}{W:Z}{k:Y}{F b L N:dI}{ad:R}{t:gJ}(h:cU a c o k)(j:Inv K j4 a c o f i F b L N T ad t)(hp:m.Perm (Gi t))(O:(nX o.f f).D e)(C:I (f.j o.f) a e)(ab:I aC e P)(ho:fE P (G<|H e) 235 1 d (y l) (l.map cH.D))(r:l.map cH.dq=jq (kN<|gw m<|eL<|i::lM F b L N))(hn:sF P (G<|H e) l)(V:I aC P W)(hl:W.heap[n]?=M (aK #[aF,aF,aF,d] 108 (0,0))):∃qs,T8 K j4 a W c n o k f i F b L N T ad t d l qs:=by
 rw[BH hp]at r;have s:=az h;have v:yP (eL<|i::lM F b L N):=wA _ j.st.TJ;have B:=(nV<|gw (Gi t)<|eL<|i::lM F b L N).trans<|oF (Gi t)<|eL<|i::lM F b L N;have:∀x∈eL (i::lM F b L N),x.Good:=λx a=>j.st.Hu x<|(kw _).mem_iff.1 a;have ac:sq 5 (kN<|gw (Gi t)<|eL<|i::lM F b L N):=((AD v).kE<|nV _).aT (by rw[qN];have:=j.f.dL;omega);have w:y (kN<|gw (Gi t)<|eL<|i::lM F b L N)<=T:=aR B.length_le<|(kw _).length_eq▸j.st.p;have aa:=pR r;have:=j.st.zb;have E:=j.st.v;have D:I aC e W:=ab.t V;have g:I (f.j o.f) a W:=C.t D;have u:(nX o.f f).D W:=(nX o.f f).l O D cY;have x:sF W (G<|H e) l:=hn.aA V;have p:fE W (G<|H e) 235 1 d (y l) (l.map cH.D):=V.aZ ho<|λ_ _ q=>q;have S:=j.st.zbp (C':=T) s j.i U E;have A:=C.D;let⟨qs,Q⟩:=S.L1 g u (x.pQ A) r ((zQ v _).kE<|nV _) ac aI (fj p A) w;let⟨K',hd,e1,e2,e3⟩:=RM (j3:=c) (gl.bI j.st.f) u g;have hb:cU W c o k:=(g.A c s j.st.l).trans h;refine⟨qs,⟨Q,hl,hb,g⟩,⟨K',hd,e2.2,j.eQ s hd (by rw[e1]) (by rw[e2.1];grind) z⟩,⟨dQ p,λk hk=>(p.lt k hk).2,λal ht=>YH<|x.bZ al ht,?_⟩,?_⟩;have h1:=jf Q.s3.p;rw[aa]at h1;omega;have:=vO l;have:=Q.FX;omega
def Qp{m b n p:dI}(j:ST a c o f i m b n p k)(e:Z)(t:ae)(s:I aC a e)(r:fE e (G<|H a) 221 1 t (y (qB (o.l0,m) (o.l1,b) (o.l2,n) (o.l3,p))+1) (zF o.L (o.l0,m) (o.l1,b) (o.l2,n) (o.l3,p))):cR bN 148 #[t,aw ⟨#[]⟩] e λA u=>∃w v,A=aN w/\kA (nX o.f f) (G<|H a) w (eL<|i::lM m b n p) v u/\(nX o.f f).D u/\I (nX o.f f).F e u/\(∀l,v l->G (H e)<=l):=by
 have hF:∀l,(nX o.f f).F l->l<G (H a):=j.f.lt;have d:la (nX o.f f) (G<|H a) aC a e:=s.bM (aq _) cY cY;have h:y (pI o i m b n p)=y (qB (o.l0,m) (o.l1,b) (o.l2,n) (o.l3,p))+1:=by have:=cD y<|AI o i m b n p;rw[cS]at this;rw[this];simp[zF]
 have:=j.A;have x:=DJ (G<|H a) (pI o i m b n p) t ⟨#[]⟩ (by rw[AI,h];exact dQ r) (λl e=>⟨(r.lt l e).2,λq=>gW (hF l q)<|(r.lt l e).1⟩) (by simp only[pI,bK,ai,List.length_reverse,cS,eE];omega) (λi a=>(j.Ma _<|aB a).bM d) ((nX o.f f).l j.GR s cY) s.D hF;rwa[xE,qh (g:=id)<|λl _=>Py l,wg]at x
def CpZ(j:Prop)(i:cy af)(w d:Z)(c:R)(s:SR)(n:Y)(K:DK)(C N:R)(m:gJ)(v:ae):Prop:=(v=ic/\∃l a k e f g h,Fh j i w d c s n K C N m l a k e f g h)\/∃a,MK w d c s n K a C v
def PX{m:cy af}{Q b N S:dI}(D:gJ)(h:cU a c o r)(e:Inv K m a c o f i Q b N S k n D)(hN:n+1<=1000000000)(bn:qu f.fx):cR bN 97 #[aJ c] a λO x=>∃ad,O=aN ad/\CpZ K m a x c o r f k (n+1) D ad:=by
 let⟨mx,mc,ck⟩:=cG e.st.D;have cn:=Gt (o.l0,Q) (o.l1,b) (o.l2,N) (o.l3,S) h mx (y i) mc ck<|e.st.lvm h;have bh:=Qp e.st;have bd:yP (eL<|i::lM Q b N S):=wA _ e.st.TJ;have cb:=e.st.p;have bq:=e.st.v;have aV:y (eL<|i::lM Q b N S)<=3000000000:=bP<|(kw<|i::lM Q b N S).length_eq;have bo:=az h;let⟨mb,q1,q2,q3⟩:=e.f.ex;have h4:=e.f.dL
 have cj:∀g,I (f.j o.f) a g->cR bN 95 #[aJ c] g λO x=>∃d,∃w:eD,O=aN d/\w.Perm (Gi D)/\fE x (G<|H g) 104 1 d (y w) (w.map<|Value.int .u64)/\I aC g x:=λg ht=>
  wy (b:=mb) D ((ht.A c bo e.st.l).trans h) q1 (q2.dU<|ht.A _ q2.lt q3.j) h4
 have bk:∀g A ad c(w:eD),I (f.j o.f) a g->I aC g A->w.Perm (Gi D)->fE g (G<|H a) 223 4 ad (y<|eL<|i::lM Q b N S) (bj<|eL<|i::lM Q b N S)->fE A (G<|H g) 104 1 c (y w) (w.map<|Value.int .u64)->cR bN 149 #[ad,c] A λO x=>∃j,∃d:dI,O=aN (ef #[aF,aF,aF,j])/\fE x (G<|H A) 235 1 j (y d) (d.map cH.D)/\d.map cH.dq=jq (kN<|gw w<|eL<|i::lM Q b N S)/\sF x (G<|H A) d/\I aC A x:=λg A ad c w t l hp ab L=>by have B:=l.aZ ab<|λ_ _ q=>q;exact VM w (dQ B) (dQ L) bd (λx a=>e.st.Hu x<|(kw _).mem_iff.1 a) aV (by have:=hp.length_eq;rw[qN]at this;omega) (λq hq=>(B.lt q hq).2) (λq hq=>(L.lt q hq).2) (Steps.aA e.st.t.o (t.t l) e.st.t.i.j)<|au e.st.t.i.lt (t.t l).D
 have bg:∀W u j d p,T8 K m a W c u o r f i Q b N S k n D j d p->cR bN 133 #[aJ c,ef #[aF,aF,aF,j],bw o.S] W λO x=>∃ad,O=aN ad/\CpZ K m a x c o r f k (n+1) D ad:=λW u j d p F=>by refine(Gj u k o.S W _ _ _ _ [] [] [] d p F.sv h e.st e.bt e.nx e.lg (gW e.l e.v) bn).mono ?_;rintro O x(⟨rfl,P,dz,a',b',c',d',V⟩|⟨ad,P,rfl,hs⟩);exact⟨_,z,J ⟨z,_,P,[],a',b',c',d',⟨V.g,V.A e.o e.st.f e.bt ⟨bP e.S.1,e.S.2⟩ hN e.B e.f e.A e.n e.pH,V.eQ,⟨z,z,z,z,z,z⟩⟩⟩⟩;exact⟨ad,z,bu ⟨P,hs⟩⟩
 have ao:∀W u j d p,AF [Q,b,N,S] [[],[],[],d] 4->T8 K m a W c u o r f i Q b N S k n D j d p->cR bN 62 #[aJ c] W λO x=>∃ad,O=aN ad/\CpZ K m a x c o r f k (n+1) D ad:=λW u j d p bc F=>by let⟨K1,aa,V,C⟩:=F.qP;go_call C.D F.sv.g (J<|aa.fx.D bn)as O x(⟨rfl,P,hd,hb,hI,ho⟩|⟨ad,P,rfl,hs,_,br,hp,ho⟩);exact⟨_,z,J ⟨z,_,P,i,Q,b,N,S,⟨hb,hI.aT (aq _) bq U hN,aa.aj hd,⟨z,z,z,z,z,z⟩⟩⟩⟩;exact⟨_,z,bu ⟨P,aa.aj hs.eQ,hs.g,hs.f,br,ho.ph V,KT hp⟩⟩
 have bf:∀W u j d p,T8 K m a W c u o r f i Q b N S k n D j d p->cR bN 150 #[ee<|M<|X c 10,aJ u] W λO x=>∃cx,O=aN (aO cx)/\(cx=cz->AF [Q,b,N,S] [[],[],[],d] 4)/\I aC W x:=λW u j d p F=>by have:=e.st.A;have:=e.st.zb;refine MG W c u o.l0 o.l1 o.l2 o.l3 aF aF aF j Q b N S [] [] [] d (λm hX=>?_) ⟨bP<|vO Q,bP<|vO b,bP<|vO N,bP<|vO S,by simp[lU],by simp[lU],by simp[lU],bP F.MX⟩;have V:=F.aA hX;let⟨K1,aa,_,C⟩:=V.qP;have hb:=V.sv.g;have hl:=V.sv.lb;exact⟨⟨hb.u z,hb.u z,hb.u z,hb.u z⟩,⟨by rw[cE hl];rfl,by rw[cE hl];rfl,by rw[cE hl];rfl,by rw[cE hl];rfl⟩,⟨C.st.l0.D U,C.st.l1.D U,C.st.l2.D U,C.st.l3.D U⟩,⟨Hi _,Hi _,Hi _,V.f⟩⟩
 have ac:=ak<|λ(g A v W:Z)(u:R)(j:ae)(d:dI)(w:eD)(hp:w.Perm (Gi D))(E:(nX o.f f).D g)(t:I (f.j o.f) a g)(l:I aC g A)(av:I aC A v)(ho:fE v (G<|H A) 235 1 j (y d) (d.map cH.D))(an:d.map cH.dq=jq (kN<|gw w<|eL<|i::lM Q b N S))(c:sF v (G<|H A) d)(hW:I aC v W)(hl:W.heap[u]?=M (aK #[aF,aF,aF,j] 108 (0,0)))=>Z9 (k:=r) h e hp E t (l.t av) (fj ho l.D) an (c.pQ l.D) hW hl;have ax:=ak (show∀g q3,(nX o.f f).Xp->tD g q3->(nX o.f f).D g->I (f.j o.f) a g->CpZ K m a g c o r f k (n+1) D (eW q3)fromλg q3 hX hq hD ht=>by let⟨P,hd,e1,V,e3⟩:=RM (j3:=c) (gl.bI e.st.f) hD ht;exact bu ⟨P,hd,⟨o,(ht.A c bo e.st.l).trans h,z,z⟩,⟨q3,z,hq⟩,Xq.YG V.2⟩);have aD:=ak (show∀W u j d p,T8 K m a W c u o r f i Q b N S k n D j d p->bA W (X c 8)=M (ay o.o)/\bA W (X c 9)=M (bw o.S)/\W.heap[u]?=M (aK #[aF,aF,aF,j] 108 (0,0))fromλW u j d p F=>⟨F.sv.g.u z,F.sv.g.u z,F.sv.lb⟩);let⟨ML,ba⟩:∃ML,eL (i::lM Q b N S)=ML:=⟨_,rfl⟩;rw[ba]at bh bk ac aV;go_in
 go_wp21;go_call cn as O w1⟨v1,rfl,bl,ap⟩;have hf:=bh w1 v1 ap bl;let⟨y1,e1,cr⟩:=aM bl;subst cr;go_wp21;apply hf.mono;rintro O w2⟨v2,S2,rfl,cc,bs,bp,bb⟩;have:=ap.D;have:=bp.D;have bT:=ER cc bs U;have aU:=ak<|(ap.aT (T:=f.j o.f) cY).aj bp<|λ_ q=>J q;go_wp2_with fail
 apply bT.mono;rintro O g(⟨j,rfl,ab,E,t⟩|⟨bL,q3,rfl,cm,E,t⟩);rotate_left;(.have s:I (f.j o.f) a g:=aU.aj t<|λq hq=>hq.elim (λcB=>bu<|bP<|bb q cB) J;have V:=ak<|ax g q3 bL cm E s;go_wp2;go_ret;exact⟨_,z,V⟩);have s:I (f.j o.f) a g:=aU.aj t<|λq hq=>hq.elim (λcB=>bu<|bP<|bb q cB) J;have B:fE g (G<|H a) 223 4 j (y ML) (bj ML):=fj ab U;obtain⟨y3,e3,cs⟩:=aM ab;subst cs;have ch:=cj g s;go_wp2_with fail
 apply ch.mono;rintro O A⟨v4,w,rfl,hp,L,l⟩;have cd:=bk g A _ v4 w s l hp B L;obtain⟨y4,e4,cu⟩:=aM L;subst cu;go_wp2_with fail
 apply cd.mono;rintro O v⟨v5,d,rfl,bm,an,cl,av⟩;obtain⟨y5,e5,cv⟩:=aM bm;subst cv;let⟨W,hW⟩:∃W,dw v (aK #[aF,aF,aF,am y5 (y d) e5] 108)=W:=⟨_,rfl⟩;have bE:W.heap[G<|H v]?=M (aK #[aF,aF,aF,am y5 (y d) e5] 108 (0,0)):=hW▸aQ _ z;have cp:I aC v W:=hW▸(cI aC v);let⟨p,hC⟩:=ac g A v W (G<|H v) _ d w hp E s l av bm an cl cp bE;let⟨b8,b9,ce⟩:=aD W _ _ d p hC;by_cases cM:o.o=0;(case' pos=>have ca:decide ((o.o:Y)=0)=cz:=uV U;go_wp21;go_call bf W _ _ d p hC as O W8⟨cx,rfl,bc,co⟩;have V:=hC.aA co;let⟨c8,c9,bi⟩:=aD W8 _ _ d p V;have al:=ak V;cases cx;rotate_left;go_wp21;go_call ao W8 _ _ d p (bc trivial) al as O w9⟨v9,rfl,hP⟩;have br:=ak hP;go_wp2;go_ret;exact⟨_,z,br⟩);(case' neg=>have ca:decide ((o.o:Y)=0)=bD:=aI;obtain⟨W8,rfl⟩:∃W8,W8=W:=⟨_,rfl⟩;have al:=hC;have bi:=ce;have c9:=b9);(all_goals go_wp21;rename_i QQ KK bx;have hS:W8.drew.heap[G<|H v]?=M (aK #[aF,aF,aF,am y5 (y d) e5] 108 (0,0))/\bA W8.drew (X c 9)=M (bw o.S):=⟨bi,c9⟩;refine kG (λm=>m.heap[G<|H v]?=M (aK #[aF,aF,aF,am y5 (y d) e5] 108 (0,0))/\bA m (X c 9)=M (bw o.S)) 6 z ?_;refine lX 0 ?_;(iterate 6 (refine QN (v:=?_) hS z aH wP z ?_ ?_;rotate_left;(focus(rintro m⟨z0,z1⟩;have x0:bA m (X (G<|H v) 0)=M aF:=(by rw[cE z0];rfl);have x1:bA m (X (G<|H v) 1)=M aF:=(by rw[cE z0];rfl);have x2:bA m (X (G<|H v) 2)=M aF:=(by rw[cE z0];rfl);have x3:bA m (X (G<|H v) 3)=M (am y5 (y d) e5):=(by rw[cE z0];rfl);go_simp;try rfl));simp only[ii,eh,fU,ke]));apply qj;refine gO 6 ?_;intro K6 bt;go_simp;go_call bg _ _ _ d p (al.aA<|cf aC _)as O w9⟨v9,rfl,hP⟩;refine bt _ _ (λN=>U) ?_;refine gO 7 ?_;intro K7 bv;go_simp;refine bv _ _ (λN=>U) ?_;refine kS z ?_ _;show KK _ _;apply bx;go_wp2;go_ret;exact⟨_,z,hP⟩)
section
open Conc.Locks
def Bk{j4:cy af}(sn:gJ)(h:cU a b o 0)(D:Inv K j4 a b o f i l v C F c k sn)(x:o.d=bD)(hN:k+1<=1000000000)(hE:∀aV,I (λba=>f.j o.f ba\/ba=b) a aV->jP aV)(ax:qu f.fx):cR bN 44 #[aJ b] a λE r=>(E=aN ic/\∃t e m' O P Q S,Fh K j4 a r b o 0 f c (k+1) sn t e m' O P Q S)\/WrF a r b o f c E:=by
 have aa:=az h;have c0:=cU.bW h 0 z;have f0:iI a (X b 0)=bD:=h.bS;have j:=lQ D.st.f D.st.l 1;have s:=h.jh 1;have p:=D.eQ (s':=o) aa j z (aq _) z;generalize hW:cP a (X b 0) (iD 1)=L at j s p;have n:=mY s;rw[x]at n;have ab:cR bN 49 #[aJ b] L λE r=>E=aN ic/\gD (G<|H L) L r:=n;have V:∀N,I aC L N->cR bN 97 #[aJ b] N λE r=>∃ao,E=aN ao/\CpZ K j4 a r b o 1 f c (k+1) sn ao:=λN B=>by have A:gl L N o.f b f f:=⟨p.st.f.aA B<|λ_ _=>id,B.aT cY,λ_ q=>J q,Fx.bI _⟩;have ad:=p.eQ (s':=o) (az s) A z (aq _) z;have al:cU N b o 1:=(B.A b (az s) id).trans s;go_call PX sn al ad hN ax as E r⟨ao,rfl,hz⟩;refine⟨ao,z,?_⟩;obtain⟨rfl,t,e,m',O,P,Q,S,u⟩|⟨e,hs⟩:=hz;exact J ⟨z,t,e,m',O,P,Q,S,⟨u.g,u.A,(j.aj A).aj u.eQ,u.bM⟩⟩;exact bu ⟨e,⟨(j.aj A).aj hs.eQ,hs.g,hs.f,hs.lN⟩⟩
 have W:=λw3 w4 e q q1 C(d:gl a w3 o.f b f e)m hq hf j g s=>MK.Hx (w:=a) (w3:=w3) (w4:=w4) (j3:=b) (q:=q) (q1:=q1) (s:=o) (K:=f) (K':=e) (c:=C) (N:=c) D.st.l aa x d m hq hf j g s;let⟨ac,HW,an,HE,ap⟩:=oa V hW W hE D.st.l;clear h D j s p x hW V n W hE;go_enter_defers func44,ntmps44
 go_wp21;go_call ng (X b 0) _ c0 f0 as E r⟨rfl,aD⟩;rw[ag HW]at aD;subst r;go_wp21;go_call ab as E Wr⟨rfl,T⟩;have hd:=ac Wr<|I.p T;clear T ab;go_wp21;go_call hd as E w3⟨v3,rfl,aU⟩;obtain⟨rfl,t,e,m',O,P,Q,S,u⟩|⟨e,d⟩:=aU;(.have m:=JY u.g;clear hd;go_wp21;go_call m as E w4⟨rfl,g⟩;let⟨d0,g0,w⟩:=u.Hx g;clear g m;go_wp2;exact fD d0 g0 ⟨_,gH z _ _ _,J ⟨z,t,e,m',O,P,Q,S,w⟩⟩);obtain⟨q,rfl,cc,hq,hf⟩:=d.f;let⟨t,A,e1,e2⟩:=d.g;have N:¬e.j o.f b:=λg=>(d.eQ.j b g).elim ap<|λg=>U;have m:=JZ A hq<|HE _ (d.eQ.gu N 6<|eW q).aA;let⟨ad,HQ,al,av,ao⟩:=oa d.eQ hq hf d.g d.lN;clear d hq hf A e1 e2 N hd;go_wp21;go_call m as E w4⟨q1,rfl,B,g⟩;obtain⟨d0,g0,w⟩:=an w3 w4 e q q1 cc ad av HQ al ao g B;clear g B m;go_wp2;refine fD d0 g0 ?_;refine⟨_,gH z _ _ _,?_⟩;exact bu ⟨eW q1,e,z,w⟩
end
def Aside.D{W W':Z}{K:DK}{db j3 k:R}(h:Aside W K db j3 k)(e:G (H W)<=G (H W')):Aside W' K db j3 k:=⟨au h.lt e,h.j,h.ne⟩
def QI(W:Z)(x:R):Prop:=∃e t i,W.heap[x]?=M (aK e t i)/\(t≠323/\t≠157)/\((∀u,Value.string u∉e.toList)\/∀k n,Value.int k n∉e.toList)/\∀q,Value.pointer (M<|X q 0)∈e.toList->∃f h g,W.heap[q]?=M (aK f h g)/\h≠323
def QI.lt{W:Z}{x:R}(h:QI W x):x<G (H W):=by
 let⟨_,_,_,e,_⟩:=h;exact az e
def Jp{S:fC}{w q:Z}{e ac:R}{v:ae}{g:iF}(O:I S w q)(E:Row w e v ac g)(D:∀ab,cN v=M ab->ab<G (H w))(l:0<y g->∀al,S al->∃j ad n,w.heap[al]?=M (aK j ad n)/\∃(Q:R)(u:ae),g[Q]?=M u/\u∉j.toList):Row q e v ac g:=by
 obtain⟨p,⟨h,T⟩|⟨r,f,i,h,k,o⟩⟩:=E;exact⟨p,J ⟨h,T⟩⟩;refine⟨p,bu ⟨r,f,i,h,k,λaa u A=>?_⟩⟩;(have t:¬S r:=by intro L;(have B:aa<y g:=by grind);let⟨j,ad,n,P,Q,V,x,hu⟩:=l U r L;have:=o Q V x;rw[cE P]at this;grind);exact O.u (o aa u A) t<|D r (by rw[h];rfl)
def Ww{m:dB}{f:Array ae}(e:(∀u,Value.string u∉f.toList)\/∀k n,Value.int k n∉f.toList)(g:0<y (bj m)):∃(i:R)(u:ae),(bj m)[i]?=M u/\u∉f.toList:=by
 obtain _|⟨h,m⟩:=m;simp[bj]at g;obtain e|e:=e;exact⟨0,aw h.D,by simp[bj,E.bU],e _⟩;exact⟨3,bw h.f,by simp[bj,E.bU],e _ _⟩
def Vn{ts:dI}{e:Array ae}(g:∀t∈ts,t.D∉e.toList)(f:0<y (ts.map cH.D)):∃(i:R)(u:ae),(ts.map cH.D)[i]?=M u/\u∉e.toList:=by
 obtain _|⟨t,ts⟩:=ts;simp at f;exact⟨0,t.D,ar,g t ar⟩
def QU{S:fC}{Q E:Z}{r:R}{x:ae}{f n g t:Y}{l j e:R}{o:ae}{i:ld}(h:mR Q r x f n g t l j e o i)(D:I S Q E)(B:∀T,S T->QI Q T):mR E r x f n g t l j e o i:=by
 have p:¬S r:=λk=>by let⟨L,aa,O,w,P,_⟩:=B r k;exact lk h.g w (λi=>P.1 i.symm) z
 have u:=h.ne;have A:(fM i)[3]?=M (aw (i[0]'u).eJ):=by obtain _|⟨V,i⟩:=i;simp at u;simp[fM,pw.bU]
 have q:¬S l:=λk=>by let⟨L,aa,O,w,_,k,_⟩:=B l k;(have P:(fM i)[0]?=M (ay (i[0]'u).p):=by obtain _|⟨V,i⟩:=i;simp at u;simp[fM,pw.bU]);obtain k|k:=k;(have:=h.bU 3 _ A;rw[cE w]at this;grind);have:=h.bU 0 _ P;rw[cE w]at this;grind
 exact h.dU (D.A r (az h.g) p)<|D.A l (cA _ _<|h.bU 3 _ A) q
section
variable{W W':Z}{j5:Prop}{j4:cy af}{db j3:R}{s:SR}{K:DK}{m:dB}{a b c d:dI}{C N:R}{S F:fC}{v:ae}{ts:dI}{sn:gJ}
def Er.mC{q:Fs}(h:Er q W K db j3 v ts)(i:I S W W')(r:∀x,S x->QI W x):Er q W' K db j3 v ts where
 bV:=Jp i h.bV (λP j=>(h.l P j).lt) (λB x L=>by
  let⟨t,Q,w,O,_,_,D⟩:=r x L;exact⟨t,Q,w,O,Vn (λo g c=>by
   let⟨p,f,e,k,_⟩:=(h.bZ o g).D;let⟨u,T,A,E,n⟩:=D _ c;exact lk k.g E (λe=>n e.symm) z) B⟩)
 l:=λP j=>(h.l P j).D i.D
 bZ:=λo g=>by
  let⟨⟨p,f,e,k,n⟩,t,u,w,A⟩:=h.bZ o g;exact⟨⟨p,f,e,QU k i r,n.D i.D⟩,t.D i.D,u,w,A⟩
def Inv.mC(h:Inv j5 j4 W j3 s K m a b c d C N sn)(e:I S W W')(u:∀x,S x->Aside W K s.f j3 x)(g:∀x,S x->QI W x)(o:¬S 1/\¬S 2):Inv j5 j4 W' j3 s K m a b c d C N sn:={h with
 st:={h.st with
  D:=Jp e h.st.D (λk i=>(h.st.L k i).lt) (λq x r=>by
   let⟨l,A,n,j,_,i,_⟩:=g x r;exact⟨l,A,n,j,Ww i q⟩)
  L:=λk i=>(h.st.L k i).D e.D
  l0:=h.st.l0.mC e g
  l1:=h.st.l1.mC e g
  l2:=h.st.l2.mC e g
  l3:=h.st.l3.mC e g
  f:=h.st.f.aA e<|λk c p=>(u k p).j c
  t:=⟨Steps.aA h.st.t.o e o.1,h.st.t.x.aA e o.2,h.st.t.i.D e.D,h.st.t.n.D e.D⟩}
 f:=by
  let⟨b,q,k,r⟩:=h.f.ex;refine⟨⟨b,q,k.dU (e.A b k.lt (λp=>?_)),r.D e.D⟩,h.f.dL⟩;let⟨l,A,n,j,_⟩:=g b p;let⟨B,i,w,_⟩:=k;rw[w]at j;cases j}
def Bc(s:SR)(K:DK)(j3:R):fC:=λk=>(K.j s.f k\/k=j3)\/s.n=M k
def Bb(j5:Prop)(j4:cy af)(W:Z)(db j3 C N:R)(F:fC):Prop:=(∃s K m a b c d sn,F=Bc s K j3/\s.f=db/\s.d=bD/\qu K.fx/\cU W j3 s 0/\Inv j5 j4 W j3 s K m a b c d C N sn)\/∃s f,F=(λk=>k=j3)/\zd W j3 s 0 f
def rE.mC{q:R}{c:Y}(h:rE W q c)(k:I S W W')(i:∀x,S x->QI W x):rE W' q c:=by
 refine h.aA k<|λm9=>?_;let⟨f,j,_⟩:=h;let⟨l,t,n,e,⟨_,g⟩,_⟩:=i q m9;rw[j]at e;cases e;exact g z
def Bb.mC(h:Bb j5 j4 W db j3 C N F)(e:I S W W')(hF:∀x,S x->¬F x)(g:∀x,S x->QI W x)(o:¬S 1/\¬S 2):Bb j5 j4 W' db j3 C N F:=by
 obtain⟨s,K,m,a,b,c,d,sn,rfl,i,f,k,l,n⟩|⟨s,j,rfl,f⟩:=h;refine J ⟨s,K,m,a,b,c,d,sn,z,i,f,k,l.aA e<|λm9=>hF j3 m9<|J<|bu z,n.mC e (λx j=>⟨(g x j).lt,λm9=>hF x j<|J<|J m9,λm9=>hF x j<|J<|bu m9⟩) g o⟩;exact bu ⟨s,j,z,f.A e (λm9=>hF j3 m9 z)<|λq c i=>i.mC e g⟩
def FO(j5:Prop)(j4:cy af)(W W':Z)(db j3 C N:R)(F:fC):Prop:=∃e,Bb j5 j4 W' db j3 C N e/\I F W W'/\∀k,e k->F k\/G (H W)<=k
def Tt.Ar{f u:ae}(h:Tt W W' j3 s f u)(hF:F j3):FO j5 j4 W W' db j3 C N F:=⟨_,bu ⟨s,f,z,h.G7⟩,h.aA.aT<|λk e=>J (by rw[show k=j3 from e];exact hF),λk e=>J (by rw[show k=j3 from e];exact hF)⟩
def Q1.ev(h:Q1 W v):uc W v:=by
 obtain e|⟨q,e,f⟩:=h.2;exact bu<|J ⟨6,cg,cg,e⟩;exact bu<|bu ⟨q,e,f⟩
def gl.Ar(j:s.f=db){e:SR}{h:DK}{t:dB}{o p q r:dI}{g:gJ}{l n:R}(i:gl W W' s.f j3 K h)(A:qu K.fx)(w:cU W' j3 e 0)(x:e.d=bD)(u:Inv j5 j4 W' j3 e h t o p q r l n g)(k:e.f=s.f/\e.n=s.n):FO j5 j4 W W' db j3 l n (Bc s K j3):=by
 refine⟨_,J ⟨e,h,t,o,p,q,r,g,z,k.1.trans j,x,i.fx.D A,w,u⟩,i.aA.aT<|λB f=>J<|J f,λB f=>?_⟩;unfold Bc at f|-;rw[k.1,k.2]at f;obtain(f|f)|f:=f;exact(i.j B f).imp (λm9=>J<|J m9) id;exact J<|J<|bu f;exact J<|bu f
def Xm.Ar(e:s.f=db)(h:Xm j5 j4 W W' j3 s K m a b c d C N sn)(k:qu K.fx)(i:s.d=bD):FO j5 j4 W W' db j3 C N (Bc s K j3):=by
 let⟨l,j,_,g,f⟩:=h;exact gl.Ar e j k g i f ⟨z,z⟩
def QA.Ar{g:DK}{u:ae}{o f i:R}(h:QA W W' j3 s K g o u):uc W' u/\FO j5 j4 W W' db j3 f i (Bc s K j3):=by
 obtain⟨r,p,q,c,rfl,k,l,n,j,t,e⟩:=h.ex;exact⟨bu<|bu ⟨q,z,c,k,e⟩,_,bu ⟨r,eW p,z,l.G7 n e⟩,h.eQ.aA.aT<|λt j=>J<|J j,λt j=>J<|J<|bu j⟩
def Bb.j(h:Bb j5 j4 W db j3 C N F):F j3:=by
 obtain⟨s,K,m,a,b,c,d,sn,rfl,_⟩|⟨s,f,rfl,_⟩:=h;exact J<|bu z;rfl
def E3(e:af)(h:Bb j5 j4 W db j3 C N F)(r:jP W)(k:j3≠0)(u:e.size<=140737488351232):cR bN 17 #[aJ j3,aw e] W λn g=>∃x i v,n=aN (de #[aw x,aO i,v])/\uc g v/\FO j5 j4 W g db j3 C N F:=by
 obtain⟨s,K,m,a,b,c,d,sn,rfl,j,f,o,p,q⟩|⟨s,w,rfl,f⟩:=h;(.go_call Pv e p q f u as n g⟨x,i,v,rfl,t,l⟩;exact⟨x,i,v,z,t,Xm.Ar j l o f⟩);go_call M2 e f r k as n g⟨v,rfl,l⟩;exact⟨_,_,v,z,l.ev.ev,l.Ar z⟩
def XO(o l:af)(e:Y)(h:Bb j5 j4 W db j3 C N F)(x:jP W)(n:j3≠0):cR bN 59 #[aJ j3,aw o,aw l,ay e] W λq f=>∃v,∃p:kW,∃g,q=aN (de #[v,g])/\uQ W f v p/\y p<=40000000000/\uc f g/\FO j5 j4 W f db j3 C N F:=by
 obtain⟨s,K,m,a,b,c,d,sn,rfl,j,i,r,t,u⟩|⟨s,D,rfl,i⟩:=h;(.go_call Jn o l e t u i as q f⟨v,p,g,rfl,k,A,B,w⟩;exact⟨v,p,g,z,k,A,B,Xm.Ar j w r i⟩);go_call Yg o l e i x n as q f⟨v,rfl,k⟩;exact⟨aF,[],v,z,uQ.km _ _,ar,k.ev.ev,k.Ar z⟩
def UF(w:Y)(e:af)(h:Bb j5 j4 W db j3 C N F)(r:jP W)(k:j3≠0)(u:e.size<=140737488351232):cR bN 88 #[aJ j3,ay w,aw e] W λp g=>∃x i v,p=aN (de #[aw x,aO i,v])/\uc g v/\FO j5 j4 W g db j3 C N F:=by
 obtain⟨s,K,m,a,b,c,d,sn,rfl,j,f,q,l,n⟩|⟨s,A,rfl,f⟩:=h;(.go_call ZB w e l n f u as p g⟨x,i,v,rfl,t,o⟩;exact⟨x,i,v,z,t,Xm.Ar j (o.J7 n<|az l) q f⟩);go_call Wh w e f r k as p g⟨v,rfl,o⟩;exact⟨_,_,v,z,o.ev.ev,o.Ar z⟩
def QX(D:Y)(o l:af)(e:Y)(h:Bb j5 j4 W db j3 C N F)(x:jP W)(n:j3≠0):cR bN 90 #[aJ j3,ay D,aw o,aw l,ay e] W λt f=>∃v,∃r:kW,∃g,t=aN (de #[v,g])/\uQ W f v r/\y r<=40000000000/\uc f g/\FO j5 j4 W f db j3 C N F:=by
 obtain⟨s,K,m,a,b,c,d,sn,rfl,j,i,u,p,q⟩|⟨s,E,rfl,i⟩:=h;(.go_call UZ D o l e p q i as t f⟨v,r,g,rfl,k,A,B,w⟩;exact⟨v,r,g,z,k,A,B,Xm.Ar j (w.J7 q<|az p) u i⟩);go_call Rt D o l e i x n as t f⟨v,rfl,k⟩;exact⟨aF,[],v,z,uQ.km _ _,ar,k.ev.ev,k.Ar z⟩
def Nr(h:Bb j5 j4 W db j3 C N F)(t:N+1<=1000000000)(n:jP W)(k:j3≠0)(j:¬F 0):cR bN 44 #[aJ j3] W λp g=>∃v,p=aN v/\uc g v/\FO j5 j4 W g db j3 C (N+1) F:=by
 obtain⟨s,K,m,a,b,c,d,sn,rfl,i,e,l,q,r⟩|⟨s,P,rfl,e⟩:=h;(.go_call Bk sn q r e t (λV i=>n.aA i<|λm9=>j<|J m9) l as p g(⟨rfl,O,o,L,A,B,D,E,f⟩|⟨v,o,rfl,hF⟩);let⟨u,w,_,_,_,x⟩:=f.bM;exact⟨_,z,J z,gl.Ar i f.eQ l f.g (w.trans e) f.A ⟨u,x⟩⟩;exact⟨v,z,hF.Ar⟩);go_call Mw e n k as p g⟨v,rfl,f⟩;exact⟨v,z,f.ev.ev,f.Ar z⟩
end
section
variable{W W':Z}{j5:Prop}{j4:cy af}{db j3 C N:R}{F:fC}
def FO.aT{a N':R}(h:FO j5 j4 W W' db j3 C N F)(r:C<=a)(c:a<=3000000000)(s:N<=N')(d:N'<=1000000000):FO j5 j4 W W' db j3 a N' F:=by
 let⟨F',n,o,p⟩:=h;refine⟨F',?_,o,p⟩;obtain⟨D,K,B,u,b,v,x,t,A,e,g,j,k,m⟩|q:=n;exact J ⟨D,K,B,u,b,v,x,t,A,e,g,j,k,m.aT r c s d⟩;exact bu q
def Bl:∀a:vX,0<=mq a/\mq a<=100
 |[]=>by simp[mq]
 |c::r=>by
  have:=Bl r;unfold mq;grind
def Dh(a:vX):0<=gT a/\gT a<=100:=by
 have:=Bl a;unfold gT;grind
def Jj{f:ae}{cs:vX}(a:eN)(h:Bb j5 j4 W db j3 C N F)(t:∀V,I (λQ=>Q=j3) W V->FN V f cs)(w:∀E∈cs,E.D.size<=140737488351232/\E.l.size<=140737488351232)(d:y cs<=1000000000)(s:C+8<=3000000000)(l:N+1<=1000000000)(m:jP W)(j:j3≠0)(i:¬F 0):cR bN 15 #[aJ j3,f,aO a] W λo e=>∃v,o=aN v/\uc e v/\FO j5 j4 W e db j3 (C+8) (N+1) F:=by
 obtain⟨T,aa,ao,ab,ac,ad,al,D,rfl,g,b,k,p,r⟩|⟨T,an,rfl,b⟩:=h;(·(have u:vL cs<=8:=by unfold vL;split;rename_i q;exact(rD q).1;omega);go_call Bq D a p r b t w d U l (λV f=>m.aA f<|λm9=>i<|J m9) (J k)as o e(⟨rfl,s',n,S,K,L,O,P,c,_⟩|⟨_,⟨v,n,rfl,hF⟩,_⟩);let⟨x,A,_,_,_,B⟩:=c.bM;refine⟨_,z,?_,(gl.Ar g c.eQ k c.g (A.trans b) c.A ⟨x,B⟩).aT U s (aq _) l⟩;have:=Dh cs;by_cases q:gT cs=0;rw[q];exact J z;exact bu<|J ⟨gT cs,U,this.2,z⟩;exact⟨v,z,hF.Ar⟩);go_call Us f a b m j as o e⟨v,rfl,d⟩;exact⟨v,z,d.ev.ev,d.Ar z⟩
def OU{s:SR}(b:s.f=db){K:DK}{a:SR}{r:dB}{n o p q:dI}{e:gJ}{d:R}(l:s.n=M d)(m:I (λk=>(K.j s.f k\/k=j3)\/k=d) W W')(j:qu K.fx)(h:cU W' j3 a 0)(i:a.d=bD)(g:Inv j5 j4 W' j3 a K r n o p q C N e)(c:a.f=s.f/\a.n=s.n):FO j5 j4 W W' db j3 C N (Bc s K j3):=by
 refine⟨_,J ⟨a,K,r,n,o,p,q,e,z,c.1.trans b,i,j,h,g⟩,m.aT (λk f=>J<|f.imp id<|λm9=>by rw[l,m9]),λk f=>J ?_⟩;unfold Bc at f|-;rwa[c.1,c.2]at f
def KI(h:Bb j5 j4 W db j3 C N F)(j:N+1<=1000000000)(o:jP W)(f:j3≠0):cR bN 40 #[aJ j3] W λl d=>∃s v,l=aN (de #[ay s,v])/\uc d v/\FO j5 j4 W d db j3 C (N+1) F:=by
 obtain⟨t,K,D,u,w,x,A,g,rfl,c,a,i,e,b⟩|⟨t,B,rfl,a⟩:=h;(.let⟨r,k,_⟩:=b.f.ex;by_cases q:y g<4;(.go_call IF g r e b a q j k as l d⟨rfl,n,m,p⟩;exact⟨_,_,z,J z,OU c k p i n a m ⟨z,z⟩⟩);go_call IG g e b.st b.f a U as l d⟨rfl,m⟩;exact⟨_,_,z,bu<|J ⟨2,cg,cg,z⟩,((Xm.Ar c (m.J7 b<|az e) i a)).aT (aq _) b.st.v U j⟩);go_call KQ a o f as l d⟨v,rfl,k⟩;exact⟨_,v,z,k.ev.ev,k.Ar z⟩
def Nq(n:Y)(h:Bb j5 j4 W db j3 C N F)(o:jP W)(f:j3≠0):cR bN 42 #[aJ j3,ay n] W λk d=>∃v,k=aN v/\uc d v/\FO j5 j4 W d db j3 C N F:=by
 obtain⟨u,K,E,w,x,A,B,g,rfl,c,a,i,e,b⟩|⟨u,D,rfl,a⟩:=h
 .let⟨r,j,_⟩:=b.f.ex;cases q:za g n with
  |some s=>
   go_call Ld g n r s e b a q j as k d⟨rfl,t,m,l,p⟩;exact⟨_,z,J z,OU c j p i m a l ⟨z,z⟩⟩
  |none=>
   go_call Le g n e b.st b.f a q as k d⟨rfl,l⟩;exact⟨_,z,bu<|J ⟨5,cg,cg,z⟩,(Xm.Ar c (l.J7 b<|az e) i a)⟩
 go_call Oa n a o f as k d⟨v,rfl,j⟩;exact⟨v,z,j.ev.ev,j.Ar z⟩
def UD(h:Bb j5 j4 W db j3 C N F)(n:jP W)(e:j3≠0):cR bN 33 #[aJ j3] W λk a=>∃v b,k=aN (de #[v,b])/\uc a b/\((b=ic/\∃g,P6 W a g v/\y g=4)\/(v=aF/\∃t x,b=.iface t x))/\FO j5 j4 W a db j3 C N F:=by
 obtain⟨s,K,A,p,q,r,u,o,rfl,d,c,l,i,j⟩|⟨s,w,rfl,c⟩:=h;(.go_call Rp i j.st c as k a⟨v,rfl,f,m⟩;exact⟨v,_,z,J z,J ⟨z,_,f,z⟩,(Xm.Ar d (m.J7 j<|az i) l c)⟩);go_call UX c n e as k a⟨v,rfl,f⟩;exact⟨_,v,z,f.ev.ev,bu ⟨z,f.ev.1⟩,f.Ar z⟩
def UG(h:Bb j5 j4 W db j3 C N F):cR bN 21 #[aJ j3] W λe d=>∃v,e=aN v/\uc d v/\FO j5 j4 W d db j3 C N F:=by
 obtain⟨u,K,E,A,B,g,D,w,rfl,m,f,i,j,a⟩|⟨u,r,rfl,f⟩:=h;(have b:∀{v:ae}{a n:R}{d:iF},Row W a v n d->∃x n g,v=am x n g:=λc=>by let⟨x,g,e⟩:=cG c;exact⟨x,_,g,e⟩);refine(Km j f (b a.st.D) (b a.st.l0.bV) (b a.st.l1.bV) (b a.st.l2.bV) (b a.st.l3.bV) a.st.f a.st.l a.st.t.x (λe=>a.st.t.n.ne e.symm) a.lg (λ_ _=>i)<|gW a.l a.v).mono ?_;rintro e d⟨v,p,s,t,rfl,c,k,_⟩;refine⟨v,z,?_,_,bu ⟨_,_,z,k.G7 z⟩,c.D.aA.aT<|λo e=>J<|J e,λo e=>J<|J<|bu e⟩;obtain⟨rfl,_⟩|⟨_,q,g,_,_,rfl,n,l⟩:=c.d;exact J z;exact bu<|bu ⟨q,z,g,n,l.pK⟩;go_call WJ f as e d⟨v,rfl,k,⟨l,b⟩,c⟩;exact⟨v,z,k.ev,_,bu ⟨l,r,z,b⟩,c.aT<|λo e=>J e,λo e=>J e⟩
end
def IM(w:Z)(j3:R)(d c:af)(a:Y)(g:a<=0):cR bN 87 #[aJ j3,aw d,aw c,ay a] w λf e=>f=aN aF/\I aC w e:=by
 have b:I aC w (dw (dw w<|aK #[ay a] 3)<|aK #[aF] 55):=(cI aC w).aE _;go_in
 go_wp2;go_ret;exact⟨z,b⟩
section
variable{W:Z}{j5:Prop}{j4:cy af}{db j3 C N:R}{F:fC}
def T1(W b:Z)(j3:R)(s:SR)(K:DK)(c:kW):Prop:=y c<=40000000000/\∃a,gl W b s.f j3 K a/\a.ah=K.ah/\a.l=K.l/\(∀k,a.j s.f k->K.j s.f k)/\cU b j3 s 0
def T1.aA{w' a:Z}{s:SR}{K:DK}{m:kW}{S:fC}(h:T1 W w' j3 s K m)(j:I S w' a)(g:∀k,S k->k=j3\/G (H W)<=k)(u:cU a j3 s 0)(e:∀k,K.j s.f k->k<G (H W))(v:¬K.j s.f j3):T1 W a j3 s K m:=by
 let⟨p,n,c,r,t,d,x⟩:=h;refine⟨p,n,⟨c.ok.aA j<|λk q o=>?_,c.aA.aj j<|λk o=>(g k o).elim (λm9=>J<|bu m9) bu,c.j,c.fx⟩,r,t,d,u⟩;obtain m9|m9:=g k o;exact v<|m9▸d k q;have:=e k<|d k q;omega
def Qo(j g:af){s:SR}{K:DK}{ab:dB}{P Q S T:dI}{E:gJ}(h:cU W j3 s 0)(a:Inv j5 j4 W j3 s K ab P Q S T C N E)(x:s.d=bD):cR bN 140 #[aJ j3,aw j,aw g] W λL e=>∃v o n,∃d:kW,L=aN v/\Ku W e j3 v d o n/\T1 W e j3 s K d:=by
 have c:=az h;refine A8 W j3 j g (λd e=>T1 W e j3 s K d) (λV k i=>?_)<|λd V O f=>f.aA ((I.bI aC V).aE O) cY ((((I.bI aC V).aE O).A j3 (az f.2.choose_spec.2.2.2.2) id).trans f.2.choose_spec.2.2.2.2) a.st.f.lt a.st.l;have l:=nk (j3:=j3) a.st.f k;have u:=a.eQ (s':=s) c l z (aq _) z;go_call XM j g ((k.A j3 c id).trans h) u x as L e⟨v,aa,rfl,A,B,m,b,p,r,t,w,D⟩;refine⟨v,aa,z,A,(b.aA.A _ i ?_).symm,B,m,l.aj b,p,r.1,t,w⟩;rintro(q|q);have:=a.st.f.lt _ q;omega;omega
def T1.Ar{d:Z}{s:SR}{K:DK}{u:dB}{o p q r:dI}{m:gJ}{l:kW}(h:T1 W d j3 s K l)(a:cU W j3 s 0)(i:Inv j5 j4 W j3 s K u o p q r C N m)(j:s.d=bD)(k:qu K.fx)(b:s.f=db):FO j5 j4 W d db j3 C N (Bc s K j3):=by
 let⟨_,n,c,e,f,t,g⟩:=h;exact gl.Ar b c k g j (i.eQ (s':=s) (az a) c (by rw[e]) (f▸aq _) rfl) ⟨rfl,rfl⟩
def RcP(W a:Z)(j3:R)(s:SR)(f:ae)(b:kW):Prop:=b=[]/\oW a j3 s 0 f/\I (λk=>k=j3) W a
def RcP.G7{c:Z}{s:SR}{f:ae}{e:kW}(h:RcP W c j3 s f e)(a:zd W j3 s 0 f):zd c j3 s 0 f:=⟨h.2.1,a.l.imp id<|λ⟨q,g,i,b,d⟩=>⟨q,g,i,b.aA h.2.2<|b.pL (j3:=j3) a.g,d⟩⟩
def Um(j e:af){s:SR}{m:ae}(h:zd W j3 s 0 m)(n:jP W)(g:j3≠0):cR bN 140 #[aJ j3,aw j,aw e] W λo b=>∃v l k,∃a:kW,o=aN v/\Ku W b j3 v a l k/\RcP W b j3 s m a:=by
 have:=az h.g;refine A8 W j3 j e (λa b=>RcP W b j3 s m a) (λV d f=>?_)<|λa V u c=>⟨c.1,c.2.1.aA ((I.bI aC V).aE u) id,c.2.2.aE u⟩;go_call Uz j e (h.t d) (n.aA d id) g as o b⟨rfl,v,i⟩;exact⟨aF,[],z,uQ.km _ _,(i.aA.A _ f U).symm,z,i.G7.g,(d.aT (T:=λa=>a=j3) cY).aj i.aA<|λ_ q=>J q⟩
def Ns(p n:af)(a:Y)(h:Bb j5 j4 W db j3 C N F)(hg:jP W)(B:j3≠0):cR bN 87 #[aJ j3,aw p,aw n,ay a] W λe f=>∃K,∃ab:kW,e=aN K/\uQ W f K ab/\y ab<=40000000000/\FO j5 j4 W f db j3 C N F:=by
 by_cases i:0<a;(.obtain⟨t,aa,ao,ac,ad,al,an,sn,rfl,x,j,S,w,l⟩|⟨t,Q,rfl,j⟩:=h;(.have d:=az w;refine(EI W j3 t ic p n a (λc f=>T1 W f j3 t aa c) (λo=>aa.j t.f o\/o=j3) i d ?_ (λV m _=>?_) (bu z) (λc V b=>⟨b.2.choose_spec.2.2.2.2,(λq=>by rw[j]at q;cases q),b.1⟩)<|λc V P b g r=>b.aA g (λo e=>by obtain e|e|e:=e;exact J e;all_goals exact bu U) r l.st.f.lt l.st.l).mono ?_;rintro o(q|q);exact l.st.f.lt _ q;omega;(.have L:=nk (j3:=j3) l.st.f m;have hI:=l.eQ (s':=t) d L z (aq _) z;go_call Qo p n ((m.A j3 d id).trans w) hI j as e f⟨K,v,u,c,rfl,A,D,O,s,q1,q2,q3,q4⟩;exact⟨K,v,u,c,z,A,s.aA,D,O,L.aj s,q1,q2,q3,q4⟩);rintro e f⟨E,c,rfl,k,b⟩;exact⟨E,_,z,k,by have:=b.1;rw[dX];omega,b.Ar w l j S x⟩);(.have d:=az j.g;refine(EI W j3 t Q p n a (λc f=>RcP W f j3 t Q c) (λo=>o=j3) i d (λo q=>U) (λV m _=>?_) z (λc V b=>⟨b.2.1,λ_=>b.1,by rw[b.1];simp⟩)<|λc V P b g r=>⟨b.1,r,b.2.2.aj g (λo e=>by obtain e|e|e:=e;exact J e;all_goals exact bu U)⟩).mono ?_;(.go_call Um p n (j.t m) (hg.aA m id) B as e f⟨K,v,u,c,rfl,A,D,r,g⟩;exact⟨K,v,u,c,z,A,g,D,r,(m.aT (T:=λo=>o=j3) cY).aj g<|λ_ q=>J q⟩);rintro e f⟨E,c,rfl,k,b⟩;refine⟨E,_,z,k,by rw[b.1];simp,_,bu ⟨t,Q,rfl,b.G7 j⟩,b.2.2.aT<|λo e=>J e,λo e=>J e⟩));go_call IM W j3 p n a U as e f⟨rfl,g⟩;exact⟨aF,[],z,uQ.km _ _,ar,F,h.mC g cY cY ⟨id,id⟩,g.aT cY,λo e=>J e⟩
end
def kM{W:Z}{c:ae}(h:uc W c)(d:jP W):∃n:Y,0<=n/\(n=0↔c=ic)/\∀a,I aC W a->cR bN 11 #[c] a λj g=>j=aN (ay n)/\gD (G<|H a) a g:=by
 obtain rfl|⟨n,e,k,rfl⟩|⟨q,rfl,i,f,e⟩:=h;exact⟨0,U,ar,λa _=>oz a⟩;refine⟨n,U,?_,λa b=>Jh n<|d.aA b id⟩;unfold uf;rw[fN U];simp;omega;exact⟨i,U,by simp[eW];omega,λa b=>XK (f.aA b id)<|d.aA b id⟩
section
variable{W:Z}{j5:Prop}{j4:cy af}{db j3 C N:R}{F:fC}
def StX(j5:Prop)(j4:cy af)(W:Z)(db j3 C N:R)(F:fC)(s:SR)(f:ae):Prop:=(∃K m b c d e a,F=Bc s K j3/\s.f=db/\f=ic/\s.d=bD/\qu K.fx/\cU W j3 s 0/\Inv j5 j4 W j3 s K m b c d e C N a)\/(F=(λk=>k=j3)/\zd W j3 s 0 f)
def StX.Cs{s:SR}{f:ae}(h:StX j5 j4 W db j3 C N F s f):Bb j5 j4 W db j3 C N F:=by
 obtain⟨K,m,c,d,g,i,b,e,a,_,h⟩|⟨e,h⟩:=h;exact J ⟨s,K,m,c,d,g,i,b,e,a,h⟩;exact bu ⟨s,f,e,h⟩
def Bb.stx(h:Bb j5 j4 W db j3 C N F):∃s f,oW W j3 s 0 f/\StX j5 j4 W db j3 C N F s f:=by
 obtain⟨s,K,n,j,k,l,m,i,e,a,c,d,b,g⟩|⟨s,f,e,h⟩:=h;exact⟨s,ic,b,J ⟨K,n,j,k,l,m,i,e,a,z,c,d,b,g⟩⟩;exact⟨s,f,h.g,bu ⟨e,h⟩⟩
def StX.BO{a:Z}{s:SR}{j:ae}(h:StX j5 j4 W db j3 C N F s j)(g:I (λr=>r=j3) W a)(f:oW a j3 s 0 j):StX j5 j4 a db j3 C N F s j:=by
 obtain⟨K,t,n,o,i,p,m,e,d,rfl,b,k,l,c⟩|⟨e,h⟩:=h;exact J ⟨K,t,n,o,i,p,m,e,d,z,b,k,f,c.eQ (s':=s) (az l) (Kf c.st.f c.st.l g) z (aq _) z⟩;exact bu ⟨e,f,h.l.imp id<|λ⟨q,i,e,c,b⟩=>⟨q,i,e,c.aA g<|c.pL (j3:=j3) h.g,b⟩⟩
def uc.BO{a:Z}{s:SR}{j b:ae}(h:uc W b)(f:oW W j3 s 0 j)(g:I (λk=>k=j3) W a):uc a b:=by
 obtain e|e|⟨q,e,i,c,d⟩:=h;exact J e;exact bu<|J e;exact bu<|bu ⟨q,e,i,c.aA g<|c.pL (j3:=j3) f,d⟩
def E4(m k:af)(h:Bb j5 j4 W db j3 C N F)(u:jP W)(l:j3≠0):cR bN 140 #[aJ j3,aw m,aw k] W λe f=>∃v c b,∃a:kW,e=aN v/\Ku W f j3 v a c b/\y a<=40000000000/\∃o,Bb j5 j4 f db j3 C N o/\I F W f/\∀n,o n->F n:=by
 obtain⟨s,T,S,K,L,O,P,E,rfl,i,d,t,p,q⟩|⟨s,Q,rfl,d⟩:=h;(.go_call Qo m k p q d as e f⟨v,c,b,a,rfl,j,w,r,g,x,A,B,D⟩;refine⟨v,c,b,a,z,j,w,_,J ⟨s,r,S,K,L,O,P,E,z,i,d,g.fx.D t,D,q.eQ (s':=s) (az p) g (by rw[x]) (A▸aq _) rfl⟩,g.aA.aT<|λn e=>J<|J e,λn e=>?_⟩;obtain(e|e)|e:=e;exact J<|J<|B n e;exact J<|bu e;exact bu e);go_call Um m k d u l as e f⟨v,c,b,a,rfl,j,g⟩;exact⟨v,c,b,a,z,j,by rw[g.1];simp,_,bu ⟨s,Q,rfl,g.G7 d⟩,g.2.2,λn e=>e⟩
def UE(lo hi u v:af)(L:eN)(h:Bb j5 j4 W db j3 C N F)(hz:u.size<=140737488351232/\v.size<=140737488351232)(hC:C+8<=3000000000)(hN:N+1<=1000000000)(D:jP W)(t:j3≠0)(g:¬F 0)(s:∀k,F k->k<G (H W)):cR bN 139 #[aJ j3,aw lo,aw hi,ef #[aw u,aw v,aO L]] W λj b=>∃ad al,∃ao:kW,j=aN (de #[ad,ay al])/\uQ W b ad ao/\y ao<=40000000000/\FO j5 j4 W b db j3 (C+8) (N+1) F:=by
 have ac:=s j3 h.j;have ap:0<G (H W):=cA _ _ D;refine(Vr W j3 lo hi u v L (λc b=>y c<=40000000000/\∃a,Bb j5 j4 b db j3 C N a/\I F W b/\∀k,a k->F k) (λc i e w b=>uc b w/\oW b j3 i 0 e/\∃a,StX j5 j4 b db j3 (C+8) (N+1) a i e/\I F W b/\∀k,a k->F k\/G (H W)<=k) F ac s (λan S av=>?_) (λc W2 W3 K P d V r aa=>?_) (λc i e w an V' Q d p=>?_) (λc i e w an Q=>?_)<|λc an P=>P.1).mono ?_;(.go_call E4 lo hi (h.mC S cY cY ⟨id,id⟩) (D.aA S id) t as j b⟨ad,l,f,c,rfl,E,hp,a,q1,m,n⟩;exact⟨ad,l,f,c,z,E,m,hp,a,q1,(S.aT (T:=F) cY).aj m<|λ_ q=>J q,n⟩);let⟨hp,a,q1,m,n⟩:=P;have ab:jP W3:=(D.aA m g).aA d id;(have f:∀k,cN (bX K 0 1 1)=M k->k=K:=λk l=>by(have:K=k:=by simpa[cN]using l);exact this.symm);refine(Jj (cs:=[⟨u,v,L⟩]) bD (q1.mC d cY cY ⟨id,id⟩) (λan hV=>J ⟨hV.bV V<|λk l=>⟨λj=>aa<|(f k l).symm.trans j,f k l▸r⟩,λk l=>f k l▸au r hV.D⟩) (dV hz) ar hC hN ab t<|λm9=>g<|n _ m9).mono ?_;rintro j b⟨ad,rfl,hv,E,g1,g2,g3⟩;let⟨i,e,p,hx⟩:=g1.stx;have:=aR m.D d.D;exact⟨ad,i,e,z,p,g2.aT<|λk j=>J<|n k j,hv,p,E,hx,(m.t d).aj g2<|λk j=>J<|n k j,λk j=>(g3 k j).imp (n k)<|λm9=>U⟩;let⟨x,O,a,A,o,B⟩:=Q;exact⟨x.BO O d,p,a,A.BO d p,o.aj d<|λk j=>J (by rw[show k=j3 from j];exact h.j),B⟩;let⟨x,O,a,A,o,B⟩:=Q;let⟨al,_,_,f⟩:=kM x<|D.aA o g;exact⟨al,f⟩;rintro j b⟨E,i,e,w,al,c,ao,rfl,f,l,x,O,a,A,o,B⟩;exact⟨E,al,ao,z,f,l,a,A.Cs,o,B⟩
end
abbrev Sns:=cy<|Option kW
def uu.D(x:uu):Option kW:=if x.f then M x.l else dE
abbrev LC:=kW×Sns
abbrev PB:=Option R×ae
theorem tZ.aA{S:fC}{w w':Z}{c:R}{a:Option R}{l:kW}{g:eN}{u:ae}(h:tZ w c a l g u)(o:I S w w')(D:¬S c)(E:∀A,a=M A->¬S A):tZ w' c a l g u:=by
 let⟨⟨V,q,P,p⟩,k,j⟩:=h;exact⟨⟨V,(o.A c (az q) D).trans q,o.bV P<|λQ t=>⟨E Q<|p▸t,j Q<|p▸t⟩,p⟩,k,λA L=>au (j A L) o.D⟩
def Xc(a:PB)(e:cy uu)(k:R):Prop:=a.1=M k\/cN a.2=M k\/∃x∈e,x.f=cz/\cN x.v=M k
structure Fv(n0:R)(W:Z)(c:R)(a:PB)(l:LC)(d:eN)(e:cy uu):Prop where
 eK:tZ W c a.1 l.1 d a.2
 f:Qt W a.2 e
 aZ:fE W n0 204 2 a.2 (y e) (IH e)
 L:yQ W a.2
 D:e.map uu.D=l.2
 dL:∀x∈e,y x.l<=1000000
 nZ:∀k,cN a.2=M k->k≠c/\a.1≠M k/\∀x∈e,x.f=cz->cN x.v≠M k
section
variable{n0 c:R}{W W':Z}{a:PB}{l:LC}{d r:eN}{e:cy uu}{S:fC}
theorem Fv.re{t:Option R}{s:kW}(h:Fv n0 W c a l d e)(g:I S W W')(p:tZ W' c t s r a.2)(j:∀k,(cN a.2=M k\/∃x∈e,x.f=cz/\cN x.v=M k)->¬S k)(o:t=a.1\/∀u,t=M u->G (H W)<=u):Fv n0 W' c (t,a.2) (s,l.2) r e where
 eK:=p
 f:=⟨g.bV h.f.bV<|λk b=>⟨j k<|J b,(h.aZ.lt k b).2⟩,λx p o=>⟨g.bV (h.f.bZ x p o).1<|λk b=>⟨j k<|bu ⟨x,p,o,b⟩,(h.f.bZ x p o).2 k b⟩,λu w=>au ((h.f.bZ x p o).2 u w) g.D⟩,h.f.fS,h.f.f⟩
 aZ:=g.aZ h.aZ<|λk b=>j k<|J b
 L:=h.L.aA g (λk b=>j k<|J b)<|λk b=>(h.aZ.lt k b).2
 D:=h.D
 dL:=h.dL
 nZ:=λk b=>⟨(h.nZ k b).1,λg=>o.elim (λq=>(h.nZ k b).2.1<|q▸g)<|λq=>gW (q k g)<|(h.aZ.lt k b).2,(h.nZ k b).2.2⟩
theorem Fv.aA(h:Fv n0 W c a l d e)(j:I S W W')(o:¬S c)(g:∀k,Xc a e k->¬S k):Fv n0 W' c a l d e:=h.re j (h.eK.aA j o<|λt p=>g t<|J p) (λk q=>g k<|bu q)<|J z
theorem Fv.lt(h:Fv n0 W c a l d e)(k:R)(g:Xc a e k):k<G (H W):=by
 obtain q|q|⟨x,o,j,q⟩:=g;exact h.eK.lt k q;exact(h.aZ.lt k q).2;exact(h.f.bZ x o j).2 k q
end
def IsS(g:ae):Prop:=∃x f b,g=am x f b
structure LG(j5:Prop)(j4:cy af)(w0 W:Z)(n db sb c:R)(a:PB)(m i:ae)(O:cy (R×Obj))(F:fC)(C N:R)(e:cy uu)(l:LC)(d:eN):Prop where
 g:W.heap[n]?=M (aK #[aJ db,aJ sb,aJ c,ay 0,ay 0,m,i] 57 (0,0))
 eK:Fv (G<|H w0) W c a l d e
 Cs:Bb j5 j4 W db sb C N F
 cK:y l.2<=N
 S:IsS m/\IsS i
 aA:I aC w0 W
 da:(∀k,F k->G (H w0)<=k/\k<G (H W))/\G (H w0)<=c/\G (H w0)<=n
 o:¬F n
 L:¬F c
 f:∀k,Xc a e k->¬F k/\k≠n/\k≠c
 oE:∀p∈O,W.heap[p.1]?=M p.2/\¬F p.1/\p.1≠n/\p.1≠c/\¬Xc a e p.1
 ne:n≠c
 g0:Steps w0/\Pow w0/\jP w0
section
variable{j5:Prop}{j4:cy af}{w0 W W':Z}{n db j3 c x:R}{a v:PB}{m i out' want':ae}{O:cy (R×Obj)}{F S:fC}{C C' N N':R}{e B:cy uu}{l s:LC}{d r:eN}
theorem LG.nW(h:LG j5 j4 w0 W n db j3 c a m i O F C N e l d):jP W:=h.g0.2.2.aA h.aA id
theorem LG.D(h:LG j5 j4 w0 W n db j3 c a m i O F C N e l d):j3≠0/\¬F 0:=by
 have:0<G (H w0):=cA _ _ h.g0.2.2;have:=(h.da.1 j3 h.Cs.j).1;exact⟨U,λb=>bP<|(h.da.1 _ b).1⟩
theorem Bb.lt(h:Bb j5 j4 W db j3 C N F):∀k,F k->k<G (H W):=by
 obtain⟨D,K,V,L,b,P,Q,E,rfl,t,g,A,o,j⟩|⟨D,f,rfl,g⟩:=h;rintro k((q|q)|q);exact j.st.f.lt k q;rw[q];exact az o;let⟨b,u,_,p⟩:=j.f.ex;rw[u]at q;cases q;exact p.lt;rintro k q;rw[q];exact az g.g
theorem LG.Ar(h:LG j5 j4 w0 W n db j3 c a m i O F C N e l d)(D:FO j5 j4 W W' db j3 C' N' F)(A:N<=N'):∃F',LG j5 j4 w0 W' n db j3 c a m i O F' C' N' e l d:=by
 let⟨F',o,g,p⟩:=D;have b:∀k,k<G (H W)->¬F k->W'.heap[k]?=W.heap[k]?/\¬F' k:=λk b f=>⟨g.A k b f,λm9=>(p k m9).elim f<|λq=>U⟩;have t:=b n (az h.g) h.o;have L:=b c (by obtain⟨⟨V,E,_⟩,_⟩:=h.eK.eK;exact az E) h.L;refine⟨F',t.1.trans h.g,h.eK.aA g h.L<|λk q=>(h.f k q).1,o,aR h.cK A,h.S,h.aA.aj g<|λk q=>bu (h.da.1 k q).1,⟨λk q=>⟨?_,o.lt k q⟩,h.da.2⟩,t.2,L.2,λk q=>⟨(b k (h.eK.lt k q) (h.f k q).1).2,(h.f k q).2⟩,λw K=>?_,h.ne,h.g0⟩;exact(p k q).elim (λm9=>(h.da.1 k m9).1)<|λm9=>bP h.aA.D;let⟨j,u,P,Q,T⟩:=h.oE w K;(have f:w.1<G (H W):=by by_cases q:w.1<G (H W);exact q;rw[jJ U]at j;cases j);exact⟨(b w.1 f u).1.trans j,(b w.1 f u).2,P,Q,T⟩
end
def zct(W:Z)(x:R):Prop:=∃g t h,W.heap[x]?=M (aK g t h)/\t≠157
section
variable{j5:Prop}{j4:cy af}{w0 W W':Z}{d db j3 e x:R}{f m:PB}{c a out' want':ae}{O:cy (R×Obj)}{F S:fC}{C C' N N':R}{i n:cy uu}{l o:LC}{b k:eN}
theorem Bb.zbo(h:Bb j5 j4 W db j3 C N F)(r:I S W W')(hF:∀x,S x->¬F x)(u:∀x,S x->zct W x)(v:∀w K,cJ W db K->cU W j3 w 0->∀x,S x->QI W x)(E:¬S 1/\¬S 2):Bb j5 j4 W' db j3 C N F:=by
 obtain⟨w,K,ac,Q,T,P,aa,L,rfl,j,s,t,A,B⟩|⟨w,ab,rfl,s⟩:=h;have p:=v w K (j▸B.st.f) A;exact J ⟨w,K,ac,Q,T,P,aa,L,z,j,s,t,A.aA r<|λm9=>hF j3 m9<|J<|bu z,B.mC r (λx g=>⟨(p x g).lt,λm9=>hF x g<|J<|J m9,λm9=>hF x g<|J<|bu m9⟩) p E⟩;refine bu ⟨w,ab,z,s.A r (λm9=>hF j3 m9 z)<|λq P p=>p.aA r<|λm9=>?_⟩;let⟨D,p,_⟩:=p;let⟨V,ad,fr,g,t⟩:=u q m9;rw[p]at g;cases g;exact t z
theorem LG.t(h:LG j5 j4 w0 W d db j3 e f c a O F C N i l b)(g:∀x,S x->G (H w0)<=x):¬S 1/\¬S 2:=by
 have:=h.g0.1.lt;have:=h.g0.2.1.lt;exact⟨λm9=>bP<|g _ m9,λm9=>bP<|g _ m9⟩
theorem LG.bH(h:LG j5 j4 w0 W d db j3 e f c a O F C N i l b)(j:I aC W W'):LG j5 j4 w0 W' d db j3 e f c a O F C N i l b:=by
 have:=j.D;refine{h with g:=(j.A _ (az h.g) id).trans h.g,eK:=h.eK.aA j id<|λ_ _=>id,Cs:=h.Cs.mC j cY cY ⟨id,id⟩,aA:=h.aA.t j,da:=⟨λv q=>⟨(h.da.1 v q).1,bP<|(h.da.1 v q).2⟩,h.da.2⟩,oE:=λu s=>?_};let⟨r,t⟩:=h.oE u s;have p:u.1<G (H W):=by by_cases q:u.1<G (H W);exact q;rw[jJ U]at r;cases r
 exact⟨(j.A _ p id).trans r,t⟩
theorem LG.wbO(h:LG j5 j4 w0 W d db j3 e f c a O F C N i l b):zct W d/\∀D K,cJ W db K->cU W j3 D 0->QI W d:=by
 refine⟨⟨_,_,_,h.g,cg⟩,λD K t s=>⟨_,_,_,h.g,⟨cg,cg⟩,J λE q=>?_,λq p=>?_⟩⟩;let⟨⟨A,v,c1,g⟩,B,w,c2,j⟩:=h.S;rw[g,j]at q;simp at q;let⟨⟨A,v,c1,g⟩,B,w,c2,j⟩:=h.S;rw[g,j]at p;simp at p;obtain⟨⟨L,u,_⟩,_⟩:=h.eK.eK;obtain r|r|r:=p;rw[r];exact⟨_,_,_,t.S,cg⟩;rw[r];exact⟨_,_,_,s,cg⟩;rw[r];exact⟨_,_,_,u,cg⟩
theorem LG.zel(h:LG j5 j4 w0 W d db j3 e f c a O F C N i l b)(p:I (λr=>r=d) W W')(A:W'.heap[d]?=M (aK #[aJ db,aJ j3,aJ e,ay 0,ay 0,out',want'] 57 (0,0)))(t:IsS out'/\IsS want'):LG j5 j4 w0 W' d db j3 e f out' want' O F C N i l b:=by
 have T:=p.D;have v:=h.wbO;refine{h with g:=A,S:=t,eK:=h.eK.aA p (λj=>h.ne j.symm)<|λr q j=>(h.f r q).2.1 j,Cs:=h.Cs.zbo p (λx j=>by rw[show x=d from j];exact h.o) (λx j=>by rw[show x=d from j];exact v.1) (λV Q L P x j=>by rw[show x=d from j];exact v.2 V Q L P)<|h.t (λx j=>by rw[show x=d from j];exact h.da.2.2),aA:=h.aA.aj p<|λr j=>bu (by rw[show r=d from j];exact h.da.2.2),da:=⟨λr q=>⟨(h.da.1 r q).1,bP<|(h.da.1 r q).2⟩,h.da.2⟩,oE:=λK B=>?_};let⟨u,D,w,E⟩:=h.oE K B;have s:K.1<G (H W):=by by_cases q:K.1<G (H W);exact q;rw[jJ U]at u;cases u
 exact⟨(p.A _ s w).trans u,D,w,E⟩
theorem LG.pO{g:cy (R×Obj)}(h:LG j5 j4 w0 W d db j3 e f c a O F C N i l b)(q:∀p∈g,p∈O):LG j5 j4 w0 W d db j3 e f c a g F C N i l b:={h with oE:=λp j=>h.oE p (q p j)}
theorem LG.sP(h:LG j5 j4 w0 W d db j3 e f c a O F C N i l b)(s:I aC W W'){g:R}{t:Obj}(u:G (H W)<=g)(q:W'.heap[g]?=M t):LG j5 j4 w0 W' d db j3 e f c a ((g,t)::O) F C N i l b:=by
 have h':=h.bH s;refine{h' with oE:=λv r=>?_};obtain j|j:=dy.1 r;rw[j];obtain⟨⟨w,p,_⟩,_⟩:=h.eK.eK;have:=az h.g;have:=az p;exact⟨q,λm9=>bP<|(h.da.1 g m9).2,U,U,λm9=>bP<|h.eK.lt g m9⟩;exact h'.oE v j
end
section
variable{j5:Prop}{j4:cy af}{w0 W W':Z}{m db j3 a x:R}{d f:PB}{e c out' want':ae}{O:cy (R×Obj)}{F S:fC}{C C' N N':R}{n k:cy uu}{l o:LC}{i b:eN}
theorem Fv.R5{A:R}(h:Fv A W a d l i n)(j:x=a\/cN d.2=M x):QI W x:=by
 obtain rfl|j:=j;let⟨⟨L,t,v,w⟩,_,_⟩:=h.eK;have p:=v.fS;let⟨E,D,r⟩:=aM h.aZ;rw[r]at t;refine⟨_,_,_,t,⟨cg,cg⟩,J λK q=>?_,λq u=>?_⟩;obtain rfl|⟨g,B,s,rfl⟩:=p<;>simp at q;grind
 let⟨w,r⟩:=gh h.aZ j;have t:=h.L _ _ _ _ j r;refine⟨_,_,_,r,⟨cg,cg⟩,J λK q=>?_,λq u=>?_⟩;obtain⟨g,p⟩|⟨v,g,s,p⟩:=t _ q<;>cases p;obtain⟨g,p⟩|⟨v,g,s,p⟩:=t _ u<;>cases p
theorem LG.RI(h:LG j5 j4 w0 W m db j3 a d e c O F C N n l i)(s:I (λp=>p=a\/cN d.2=M p) W W')(P:Fv (G<|H w0) W' a f o b k)(w:∀p,Xc f k p->Xc d n p\/G (H W)<=p)(E:y o.2<=N):LG j5 j4 w0 W' m db j3 a f e c O F C N k o b:=by
 have:=s.D;obtain⟨⟨aa,K,_⟩,_⟩:=h.eK.eK;have D:=az h.g;have:=az K;have u:¬(m=a\/cN d.2=M m):=λj=>j.elim h.ne<|λj=>(h.f m<|bu<|J j).2.1 z;have r:∀p,(p=a\/cN d.2=M p)->G (H w0)<=p:=λp j=>j.elim (λj=>j▸h.da.2.1)<|λj=>(h.eK.aZ.lt p j).1;refine{h with g:=(s.A _ D u).trans h.g,eK:=P,Cs:=h.Cs.mC s (λx j=>j.elim (λj=>j▸h.L)<|λj=>(h.f x<|bu<|J j).1) (λx j=>h.eK.R5 j)<|h.t r,cK:=E,aA:=h.aA.aj s<|λp j=>bu<|r p j,da:=⟨λp q=>⟨(h.da.1 p q).1,bP<|(h.da.1 p q).2⟩,h.da.2⟩,f:=λp q=>?_,oE:=λV L=>?_};obtain j|j:=w p q;exact h.f p j;exact⟨λm9=>bP<|(h.da.1 p m9).2,U,U⟩;let⟨v,Q,T,A,B⟩:=h.oE V L;(have t:V.1<G (H W):=by by_cases q:V.1<G (H W);exact q;rw[jJ U]at v;cases v);exact⟨(s.A _ t<|λj=>j.elim A<|λj=>B<|bu<|J j).trans v,Q,T,A,λm9=>(w _ m9).elim B<|λq=>U⟩
theorem LG.zbt{j:Option R}{t:kW}(h:LG j5 j4 w0 W m db j3 a d e c O F C N n l i)(v:W.grownBy W' (M a))(w:tZ W' a j t b d.2)(g:j=d.1\/∀A,j=M A->G (H W)<=A):LG j5 j4 w0 W' m db j3 a (j,d.2) e c O F C N n (t,l.2) b:=by
 have s:I (λr=>r=a) W W':=gI v;refine h.RI (s.aT<|λr p=>J<|J p) (h.eK.re s w (λr q p=>?_) g) (λr q=>?_) h.cK;have u:r=a:=p;exact(h.f r<|bu q).2.2 u;obtain q|q:=q;obtain p|p:=g;exact J<|J<|p▸q;exact bu<|p r q;exact J<|bu q
end
def Zp:(prog.info? 123).map (λi=>(i.zero,i.size,i.bytes))=M (M aF,1,24):=aH
def AY(a:R)(bv d:ae):fC:=λk=>k=a\/cN bv=M k\/cN d=M k
structure HB(n0:R)(W:Z)(a:R)(bv d:ae)(c:iF)(l:kW)(b:Y)(e:eN):Prop where
 g:W.heap[a]?=M (aK #[bv,ay b,aO e,d] 76 (0,0))
 aZ:fE W n0 123 1 bv (y c) c
 L:yQ W bv
 pr:mF W d l
 f:∀k,cN d=M k->n0<=k/\k<G (H W)/\k≠a/\cN bv≠M k
 S:cN bv≠M a
 L8:n0<=a
section
variable{n0 a:R}{W W':Z}{bv d:ae}{c:iF}{l:kW}{b:Y}{e:eN}{S:fC}
def HB.lt(h:HB n0 W a bv d c l b e){k:R}(g:AY a bv d k):n0<=k/\k<G (H W):=by
 obtain rfl|q|q:=g;exact⟨h.L8,az h.g⟩;exact h.aZ.lt k q;exact⟨(h.f k q).1,(h.f k q).2.1⟩
def HB.aA(h:HB n0 W a bv d c l b e)(j:I S W W')(m:∀k,AY a bv d k->¬S k):HB n0 W' a bv d c l b e where
 g:=(j.A a (az h.g)<|m a<|J z).trans h.g
 aZ:=j.aZ h.aZ<|λk q=>m k<|bu<|J q
 L:=h.L.aA j (λk q=>m k<|bu<|J q)<|λk q=>(h.aZ.lt k q).2
 pr:=j.bV h.pr<|λk q=>⟨m k<|bu<|bu q,(h.f k q).2.1⟩
 f:=λk q=>⟨(h.f k q).1,au (h.f k q).2.1 j.D,(h.f k q).2.2⟩
 S:=h.S
 L8:=h.L8
def HB.R5(h:HB n0 W a bv d c l b e){r:R}(i:r=a\/cN bv=M r):QI W r:=by
 obtain rfl|i:=i;let⟨s,p,j⟩:=aM h.aZ;have m:=h.g;have f:=h.pr.fS;rw[j]at m;refine⟨_,_,_,m,⟨cg,cg⟩,J λu q=>?_,λq n=>?_⟩;obtain rfl|⟨g,o,k,rfl⟩:=f<;>simp at q;grind
 let⟨p,m⟩:=gh h.aZ i;have f:=h.L _ _ _ _ i m;refine⟨_,_,_,m,⟨cg,cg⟩,J λu q=>?_,λq n=>?_⟩;obtain⟨g,j⟩|⟨o,g,k,j⟩:=f _ q<;>cases j;obtain⟨g,j⟩|⟨o,g,k,j⟩:=f _ n<;>cases j
def HB.D{n:Y}{i:eN}(h:HB n0 W a bv d c l b e)(j:I (λk=>k=a) W W')(m:W'.heap[a]?=M (aK #[bv,ay n,aO i,d] 76 (0,0))):HB n0 W' a bv d c l n i where
 g:=m
 aZ:=j.aZ h.aZ<|λk q o=>h.S (by rw[q];grind)
 L:=h.L.aA j (λk q o=>h.S (by rw[q];grind))<|λk q=>(h.aZ.lt k q).2
 pr:=j.bV h.pr<|λk q=>⟨(h.f k q).2.2.1,(h.f k q).2.1⟩
 f:=λk q=>⟨(h.f k q).1,au (h.f k q).2.1 j.D,(h.f k q).2.2⟩
 S:=h.S
 L8:=h.L8
def Zu(h:W.heap[a]?=M (aK #[aF,ay 0,aO bD,aF] 76 (0,0)))(f:n0<=a):HB n0 W a aF aF [] [] 0 bD:=⟨h,ct _ _ _ _,λk _ _ _ g=>(by cases g),⟨rfl,J ⟨rfl,rfl⟩⟩,λk q=>(by cases q),λq=>(by cases q),f⟩
end
def Ea{n0 a:R}{W:Z}{bv d:ae}{c:iF}{l:kW}{b:Y}{e:eN}(h:HB n0 W a bv d c l b e)(cv:ae)(r:vX)(sf:eN)(bh:FN W cv r)(hr:y l+y r<=1000000000)(hB:y c<=1000000000)(cc:n0<=G (H W)):cR bN 57 #[aJ a,cv,aO sf] W λN W'=>N=aN (de #[])/\∃o j ce n,HB n0 W' a o j (c++[ce]) (WD l r) n e/\I (λk=>k=a\/cN bv=M k) W W'/\∀k,AY a o j k->AY a bv d k\/G (H W)<=k:=by
 have bs:=Ty U bh;go_in
 go_wp21;go_call bs as N u⟨v1,rfl,C,bc⟩;have D:I aC W u:=I.p bc;let⟨O,c1,bt⟩:=aM C;subst bt;have f:=h.aA D<|λ_ _=>id;have:=aX f.g 0;have bk:a<G (H u):=az f.g;have:=D.D;let⟨i0,bl,bE,aD,aU⟩:=cZ Zp;have aa:=f.S;have ab:=f.g
 go_wp2_with(first
  |(at_builtin;go_loud(refine Br _ z (.tmp 13) (.tmp 15) 74 z n0 123 i0 aF 1 24 underlying74 bl bE aD aU z cg bv (y c) c z (bC f.aZ (aK #[am O (y r) c1] 123)) (X (G (H u)) 0) 1 1 [am O (y r) c1] z z (pP _ _ _) (by simp[Value.oneCell']) U U dW U (by intro ch hu;simp[Value.cells]at hu;subst hu;exact bu ⟨_,_,_,z⟩) (by intro ch hu;simp at hu;subst hu;exact bu ⟨_,_,_,z⟩) (f.L.aA (cI aC u) (λ_ _=>id) (λk q=>(f.aZ.lt k q).2)) ?_;intro o W3 al ax bm;let⟨t,c3,bx⟩:=aM al;subst bx;have av:=I.fV ax;have g:=(av.A a dW aa).trans (((cI aC u).A a bk id).trans ab);have:=aX g 0;have k1:=aX g 1;have k3:=aX g 3;have:=cV (i:=0) g;have f1:=cV (i:=1) g;have f3:=cV (i:=3) g;have P:=ak al;have Q:=ak ax;have aV:=ak bm;have ba:=ak av)))
 let⟨p,s⟩:∃p,cP W3 (X a 0) (am t (y c+1) c3)=p:=⟨_,rfl⟩;have ad:cN (am t (y c+1) c3)≠M a:=λq=>by obtain N|⟨cb,N,hg⟩:=Q.f;(grind);rw[q]at N;cases N;simp at hg;omega
 have v:I (λk=>k=a\/cN bv=M k) u p:=by rw[<-s];exact(((cI aC u).aT (T:=λk=>k=a\/cN bv=M k) cY).aj ba aI).aj (fK W3 a 0 _) ar
 have an:fE p n0 123 1 (am t (y c+1) c3) (y c+1) (c++[am O (y r) c1]):=by rw[<-s];exact(fK W3 a 0 _).aZ P aI
 have bn:yQ p (am t (y c+1) c3):=by rw[<-s];exact aV.aA (fK W3 a 0 _) aI<|λk f=>(P.lt k f).2
 have ac:p.heap[a]?=M (aK #[am t (y c+1) c3,ay b,aO e,d] 76 (0,0)):=by rw[<-s];exact(aY g).trans z
 have A:∀k,cN (am t (y c+1) c3)=M k->cN bv=M k\/G (H u)<k:=λk q=>by obtain N|⟨cb,N,hg⟩:=Q.f;(grind);rw[q]at N;cases N;simp at hg;grind
 have B:∀k,cN (am O (y r) c1)=M k->G (H W)<=k/\k<G (H u):=λk q=>C.lt k q;have:a<G (H W):=az h.g;have ca:∀k,cN bv=M k->k<G (H W):=λk q=>(h.aZ.lt k q).2;have bp:mF p d l:=v.bV f.pr<|λk q=>⟨λbb=>bb.elim (f.f k q).2.2.1 (f.f k q).2.2.2,(f.f k q).2.1⟩;have bg:Cf p (am O (y r) c1) r:=v.bV (dQ C)<|λk q=>⟨λbb=>zZ<|(B k q).1,(B k q).2⟩;have bL:=v.D;have bi:=ZW r bp (λcb q=>au (f.f cb q).2.1 bL) bg aI U;rw[s];go_call bi as N W5⟨j,rfl,ao,bo,cd,bd⟩;have E:I aC p W5:=I.p bd;let⟨px,pn,pc,br⟩:∃x n bb,j=am x n bb:=by obtain N|⟨K,w,F,N⟩:=ao.fS<;>exact⟨_,_,_,N⟩
 have m:=(E.A a U id).trans ac;have:=aX m 1;have:=aX m 3;have:=cV (i:=1) m;have:=cV (i:=3) m;have x:∀w K,w.heap[a]?=M (aK #[am t (y c+1) c3,ay K,aO e,j] 76 (0,0))->I (λk=>k=a) W5 w->∃o j ce n,HB n0 w a o j (c++[ce]) (WD l r) n e/\I (λk=>k=a\/cN bv=M k) W w/\∀k,AY a o j k->AY a bv d k\/G (H W)<=k:=λw K bf F=>by have L:I (λk=>k=a) p w:=(E.aT (T:=λk=>k=a) cY).aj F<|λ_ q=>J q;have bT:I (λk=>k=a\/cN bv=M k) W w:=((D.aT (T:=λk=>k=a\/cN bv=M k) cY).aj v<|λ_ q=>J q).aj L ar;have:=E.D;have:=F.D;have ap:∀k,cN j=M k->cN d=M k\/G (H p)<=k:=aI;have V:∀k,cN (am t (y c+1) c3)=M k->k<G (H p):=λk q=>(an.lt k q).2;(have bq:∀k,cN j=M k->n0<=k/\k<G (H w)/\k≠a/\cN (am t (y c+1) c3)≠M k:=λk q=>by have:=bo k q;obtain q|q:=ap k q;have h1:=h.f k q;exact⟨h1.1,U,h1.2.2.1,λbb=>(A k bb).elim h1.2.2.2<|λbb=>U⟩;grind);refine⟨am t (y c+1) c3,j,am O (y r) c1,K,⟨bf,ai▸L.aZ an aI,bn.aA L aI V,F.bV ao aI,bq,ad,h.L8⟩,bT,λk q=>?_⟩;obtain q|q|q:=q;exact J<|J q;exact(A k q).elim (λq=>J<|bu<|J q) aI;exact(ap k q).elim (λq=>J<|bu<|bu q) aI
 subst br;cases sf;(.go_wp2;go_end0;exact⟨z,x _ b ((aY m).trans z)<|fK _ _ _ _⟩);go_wp2;go_end0;exact⟨z,x _ _ ((aY<|aY m).trans z)<|(fK _ _ _ _).aj (fK _ _ _ _)<|λ_ q=>J q⟩
def Oo{n0 a:R}{W:Z}{v:ae}{i:kW}(h:HB n0 W a aF aF [] [] 0 bD)(m:mF W v i)(j:y i<=1000000000000):cR bN 56 #[aJ a,v] W λo W'=>o=aN (aO<|decide<|i=[])/\I aC W W':=by
 let⟨x,u,s,n⟩:∃x u s,v=am x u s:=by obtain o|⟨q,f,k,o⟩:=m.fS<;>exact⟨_,_,_,o⟩
 subst n;have:=aX h.g 0;have:=aX h.g 1;have g:=ni m (show mF W aF []from⟨z,J ⟨z,z⟩⟩) j ar;generalize decide (i=[])=p at g|-;clear h m;go_in
 go_wp2;go_loopw [5,6] (λf i wr=>f=aF/\((i=ay 0/\wr=W)\/(i=ay 1/\p=bD/\∃t,wr=W.drewN t))) (λ_ i _=>2-(intOf i).toNat)
 exact⟨z,J ⟨z,z⟩⟩;obtain⟨rfl,⟨rfl,rfl⟩|⟨rfl,rfl,t,rfl⟩⟩:=hrel;(.cases p;(.go_wp21;go_call g as o q⟨rfl,r,f⟩;subst f;go_wp2;go_roundw;exact⟨z,bu ⟨dM,by first|rfl|trivial,_,z⟩⟩;simp[intOf]);go_wp21;go_call g as o q⟨rfl,r,f⟩;have k:I aC wr q:=f▸gP _ _ _;clear f;go_wp2;go_ret;exact⟨z,k⟩);go_wp2;go_ret;exact⟨z,gP _ _ _⟩
def iO(g A B:Y)(S T:af)(L:ae):Obj:=aK #[ay g,ay A,ay B,aw S,aw T,L] 60 (0,0)
def zc(g A B:Y)(S T:af)(L:ae):ae:=ef #[ay g,ay A,ay B,aw S,aw T,L]
def Jd(j5:Prop)(j4:cy af)(w0 W:Z)(d db j3 e:R)(f:PB)(b a:ae)(O:cy (R×Obj))(C N:R)(l:LC)(c:eN):Prop:=∃F g,LG j5 j4 w0 W d db j3 e f b a O F C N g l c
theorem uc.bH{W W':Z}{i:ae}(h:uc W i)(m:I aC W W'):uc W' i:=by
 obtain g|g|⟨q,g,n,k,j⟩:=h;exact J g;exact bu<|J g;exact bu<|bu ⟨q,g,n,k.aA m id,j⟩
section
variable{j5:Prop}{j4:cy af}{w0 W W':Z}{d db j3 e:R}{f:PB}{b a:ae}{O:cy (R×Obj)}{C N C' N':R}{l:LC}{c:eN}
theorem Jd.g(h:Jd j5 j4 w0 W d db j3 e f b a O C N l c):W.heap[d]?=M (aK #[aJ db,aJ j3,aJ e,ay 0,ay 0,b,a] 57 (0,0)):=by
 let⟨F,g,h⟩:=h;exact h.g
theorem Jd.oE(h:Jd j5 j4 w0 W d db j3 e f b a O C N l c){p:R×Obj}(g:p∈O):W.heap[p.1]?=M p.2:=by
 let⟨F,i,h⟩:=h;exact(h.oE p g).1
theorem Jd.eK(h:Jd j5 j4 w0 W d db j3 e f b a O C N l c):tZ W e f.1 l.1 c f.2:=by
 let⟨F,g,h⟩:=h;exact h.eK.eK
theorem Jd.nW(h:Jd j5 j4 w0 W d db j3 e f b a O C N l c):jP W:=by
 let⟨F,g,h⟩:=h;exact h.nW
theorem Jd.bH(h:Jd j5 j4 w0 W d db j3 e f b a O C N l c)(g:I aC W W'):Jd j5 j4 w0 W' d db j3 e f b a O C N l c:=by
 let⟨F,i,h⟩:=h;exact⟨F,i,h.bH g⟩
theorem Jd.sP(h:Jd j5 j4 w0 W d db j3 e f b a O C N l c)(j:I aC W W'){k:R}{o:Obj}(g:G (H W)<=k)(i:W'.heap[k]?=M o):Jd j5 j4 w0 W' d db j3 e f b a ((k,o)::O) C N l c:=by
 let⟨F,m,h⟩:=h;exact⟨F,m,h.sP j g i⟩
theorem Jd.pO{g:cy (R×Obj)}(h:Jd j5 j4 w0 W d db j3 e f b a O C N l c)(i:∀p∈g,p∈O):Jd j5 j4 w0 W d db j3 e f b a g C N l c:=by
 let⟨F,j,h⟩:=h;exact⟨F,j,h.pO i⟩
theorem Jd.jd(h:Jd j5 j4 w0 W d db j3 e f b a O C N l c):bA W (X d 0)=M (aJ db)/\bA W (X d 1)=M (aJ j3)/\bA W (X d 2)=M (aJ e)/\bA W (X d 5)=M b/\bA W (X d 6)=M a:=by
 have g:=h.g;refine⟨?_,?_,?_,?_,?_⟩<;>(rw[cE g];rfl)
theorem Jd.eT{g:R}{i A B:Y}{S T:af}{L:ae}(h:Jd j5 j4 w0 W d db j3 e f b a ((g,iO i A B S T L)::O) C N l c):bA W (X g 0)=M (ay i)/\bA W (X g 1)=M (ay A)/\bA W (X g 2)=M (ay B)/\bA W (X g 3)=M (aw S)/\bA W (X g 4)=M (aw T)/\bA W (X g 5)=M L:=by
 have j:W.heap[g]?=M (iO i A B S T L):=h.oE (p:=(g,iO i A B S T L))<|iV ..;unfold iO at j;refine⟨?_,?_,?_,?_,?_,?_⟩<;>(rw[cE j];rfl)
end
def jZ(j5:Prop)(j4:cy af)(w0 W:Z)(a db j3 b:R)(O:cy (R×Obj))(C N n5:R):Prop:=∃f d c F g l e,y l.1<=n5/\LG j5 j4 w0 W a db j3 b f d c O F C N g l e
def T7(W W':Z):Prop:=∀c,uc W c->uc W' c
theorem T7.of{W W':Z}{S:fC}(g:I S W W')(d:∀x,S x->QI W x):T7 W W':=λj h=>by
 obtain e|e|⟨q,e,i,f,c⟩:=h;exact J e;exact bu<|J e;exact bu<|bu ⟨q,e,i,f.mC g d,c⟩
section
variable{j5:Prop}{j4:cy af}{w0 W W':Z}{a db j3 b:R}{O:cy (R×Obj)}{C N n5 C' N':R}
theorem jZ.bH(h:jZ j5 j4 w0 W a db j3 b O C N n5)(g:I aC W W'):jZ j5 j4 w0 W' a db j3 b O C N n5:=by
 let⟨i,d,c,F,j,l,e,f,h⟩:=h;exact⟨i,d,c,F,j,l,e,f,h.bH g⟩
theorem jZ.sP(h:jZ j5 j4 w0 W a db j3 b O C N n5)(k:I aC W W'){l:R}{o:Obj}(g:G (H W)<=l)(j:W'.heap[l]?=M o):jZ j5 j4 w0 W' a db j3 b ((l,o)::O) C N n5:=by
 let⟨m,d,c,F,n,p,e,i,h⟩:=h;exact⟨m,d,c,F,n,p,e,i,h.sP k g j⟩
theorem jZ.pO{f:cy (R×Obj)}(h:jZ j5 j4 w0 W a db j3 b O C N n5)(i:∀p∈f,p∈O):jZ j5 j4 w0 W a db j3 b f C N n5:=by
 let⟨j,d,c,F,k,l,e,g,h⟩:=h;exact⟨j,d,c,F,k,l,e,g,h.pO i⟩
theorem jZ.Bi{p:R×Obj}(h:jZ j5 j4 w0 W a db j3 b (p::O) C N n5):jZ j5 j4 w0 W a db j3 b O C N n5:=h.pO<|λ_ c=>iA _ c
theorem jZ.oE(h:jZ j5 j4 w0 W a db j3 b O C N n5){p:R×Obj}(d:p∈O):W.heap[p.1]?=M p.2:=by
 let⟨i,e,c,F,j,l,f,g,h⟩:=h;exact(h.oE p d).1
theorem jZ.nW(h:jZ j5 j4 w0 W a db j3 b O C N n5):jP W:=by
 let⟨g,d,c,F,i,l,e,f,h⟩:=h;exact h.nW
theorem jZ.aA(h:jZ j5 j4 w0 W a db j3 b O C N n5):I aC w0 W:=by
 let⟨j,d,c,F,k,l,e,g,h⟩:=h;exact h.aA
theorem jZ.g(h:jZ j5 j4 w0 W a db j3 b O C N n5):∃d c,W.heap[a]?=M (aK #[aJ db,aJ j3,aJ b,ay 0,ay 0,d,c] 57 (0,0)):=by
 let⟨g,d,c,F,i,l,e,f,h⟩:=h;exact⟨d,c,h.g⟩
theorem jZ.QD(h:jZ j5 j4 w0 W a db j3 b O C N n5):a<G (H W)/\b<G (H W):=by
 let⟨i,e,c,F,j,l,f,g,h⟩:=h;obtain⟨⟨v,d,_⟩,_⟩:=h.eK.eK;exact⟨az h.g,az d⟩
theorem jZ.XY(h:jZ j5 j4 w0 W a db j3 b O C N n5):j3<G (H W):=by
 let⟨g,d,c,F,i,l,e,f,h⟩:=h;exact(h.da.1 j3 h.Cs.j).2
theorem jZ.jd(h:jZ j5 j4 w0 W a db j3 b O C N n5):bA W (X a 0)=M (aJ db)/\bA W (X a 1)=M (aJ j3)/\bA W (X a 2)=M (aJ b):=by
 let⟨e,c,d⟩:=h.g;refine⟨?_,?_,?_⟩<;>(rw[cE d];rfl)
theorem jZ.Q9(h:jZ j5 j4 w0 W a db j3 b O C N n5):∃c,bA W (X b 2)=M (aO c):=by
 let⟨i,f,d,F,j,l,c,g,h⟩:=h;obtain⟨⟨v,e,_⟩,_⟩:=h.eK.eK;exact⟨c,aX e 2⟩
theorem jZ.eT{c:R}{d A B:Y}{S T:af}{L:ae}(h:jZ j5 j4 w0 W a db j3 b ((c,iO d A B S T L)::O) C N n5):bA W (X c 0)=M (ay d)/\bA W (X c 1)=M (ay A)/\bA W (X c 2)=M (ay B)/\bA W (X c 3)=M (aw S)/\bA W (X c 4)=M (aw T)/\bA W (X c 5)=M L:=by
 have e:W.heap[c]?=M (iO d A B S T L):=h.oE (p:=(c,iO d A B S T L))<|iV ..;unfold iO at e;refine⟨?_,?_,?_,?_,?_,?_⟩<;>(rw[cE e];rfl)
theorem jZ.X7{out' want':ae}(h:jZ j5 j4 w0 W a db j3 b O C N n5)(f:IsS out'/\IsS want'):jZ j5 j4 w0 (cP (cP W (X a 5) out') (X a 6) want') a db j3 b O C N n5:=by
 let⟨i,g,d,F,j,l,c,e,h⟩:=h;exact⟨i,out',want',F,j,l,c,e,h.zel ((iQ a W).aL _ _ _<|J z) ((aY<|aY h.g).trans z) f⟩
theorem jZ.C9{O':cy (R×Obj)}{k:R}{ac:Obj}{d:Array ae}(h:jZ j5 j4 w0 W a db j3 b O C N n5)(r:G (H w0)<=k)(F:(k,ac)∈O)(E:W.heap[k]?=M (aK d 66 (0,0)))(o:∀T∈d.toList,(∃ad,T=aw ad)\/∃aa,T=aO aa)(c:I (λx=>x=k) W W')(D:∀p∈O',p∈O/\p.1≠k):jZ j5 j4 w0 W' a db j3 b O' C N n5:=by
 let⟨P,l,i,V,S,ab,n,K,h⟩:=h;let⟨o1,s,t,u,v⟩:=h.oE _ F;simp only at s t u v;have hz:=c.D;have f:∀x,(x=k)->QI W x:=λx e=>by rw[e];refine⟨_,_,_,E,⟨cg,cg⟩,bu λq al w=>?_,λq w=>?_⟩;obtain⟨_,e⟩|⟨_,e⟩:=o _ w<;>cases e;obtain⟨_,e⟩|⟨_,e⟩:=o _ w<;>cases e
 refine⟨P,l,i,V,S,ab,n,K,{h with g:=(c.A _ (az h.g)<|λe=>t e.symm).trans h.g,eK:=h.eK.aA c (λe=>u e.symm)<|λx q e=>v (by rw[<-show x=k from e];exact q),Cs:=h.Cs.mC c (λx e=>by rw[show x=k from e];exact s) f<|h.t (λx e=>by rw[show x=k from e];exact r),aA:=h.aA.aj c<|λx e=>bu (by rw[show x=k from e];exact r),da:=⟨λx q=>⟨(h.da.1 x q).1,bP<|(h.da.1 x q).2⟩,h.da.2⟩,oE:=λp L=>?_}⟩;let⟨A,B⟩:=D p L;let⟨m,Q⟩:=h.oE p A;have j:p.1<G (H W):=by by_cases q:p.1<G (H W);exact q;rw[jJ U]at m;cases m
 exact⟨(c.A _ j B).trans m,Q⟩
theorem jZ.aT{C' N' k:R}(h:jZ j5 j4 w0 W a db j3 b O C N n5)(p:C<=C')(d:C'<=3000000000)(m:N<=N')(e:N'<=1000000000)(r:n5<=k):jZ j5 j4 w0 W a db j3 b O C' N' k:=by
 let⟨t,g,c,F,u,l,j,s,h⟩:=h;have n:FO j5 j4 W W db j3 C N F:=⟨F,h.Cs,I.bI _ _,λc q=>J q⟩;let⟨F',o⟩:=h.Ar (n.aT p d m e) m;exact⟨t,g,c,F',u,l,j,aR s r,o⟩
theorem LG.A{F:fC}{f:PB}{d c:ae}{g:cy uu}{n:LC}{e:eN}(h:LG j5 j4 w0 W a db j3 b f d c O F C N g n e)(m:y n.1<=n5)(l:FO j5 j4 W W' db j3 C' N' F)(k:N<=N'):jZ j5 j4 w0 W' a db j3 b O C' N' n5:=by
 let⟨i,j⟩:=h.Ar l k;exact⟨f,d,c,i,g,n,e,m,j⟩
theorem LG.p{F S:fC}{f:PB}{d c:ae}{j:cy uu}{l:LC}{e:eN}(h:LG j5 j4 w0 W a db j3 b f d c O F C N j l e)(i:I S W W')(g:∀x,S x->x=b\/cN f.2=M x):T7 W W':=T7.of i<|λx q=>h.eK.R5<|g x q
end
section
variable{j5:Prop}{j4:cy af}{w0 W W':Z}{b db j3 a:R}{O:cy (R×Obj)}{C N n5 C' N':R}
theorem Z0(h:jZ j5 j4 w0 W b db j3 a O C N n5)(c:af)(j:c.size<=140737488351232):cR bN 17 #[aJ j3,aw c] W λm W'=>∃x d v,m=aN (de #[aw x,aO d,v])/\uc W' v/\jZ j5 j4 w0 W' b db j3 a O C N n5:=by
 let⟨n,k,e,F,o,p,l,g,h⟩:=h;go_call E3 c h.Cs h.nW h.D.1 j as m W'⟨x,d,v,rfl,i,f⟩;exact⟨x,d,v,z,i,h.A g f<|aq _⟩
theorem YT(h:jZ j5 j4 w0 W b db j3 a O C N n5)(n:Y)(c:af)(j:c.size<=140737488351232):cR bN 88 #[aJ j3,ay n,aw c] W λm W'=>∃x d v,m=aN (de #[aw x,aO d,v])/\uc W' v/\jZ j5 j4 w0 W' b db j3 a O C N n5:=by
 let⟨o,k,e,F,p,q,l,g,h⟩:=h;go_call UF n c h.Cs h.nW h.D.1 j as m W'⟨x,d,v,rfl,i,f⟩;exact⟨x,d,v,z,i,h.A g f<|aq _⟩
theorem J4(h:jZ j5 j4 w0 W b db j3 a O C N n5)(i g:af)(c:Y):cR bN 59 #[aJ j3,aw i,aw g,ay c] W λs W'=>∃x k d,∃l:kW,s=aN (de #[am x (y l) k,d])/\uQ W W' (am x (y l) k) l/\y l<=40000000000/\uc W' d/\jZ j5 j4 w0 W' b db j3 a O C N n5:=by
 let⟨t,q,j,F,u,l,r,n,h⟩:=h;go_call XO i g c h.Cs h.nW h.D.1 as s W'⟨v,p,d,rfl,f,e,o,m⟩;obtain⟨x,k,rfl⟩:=aM f;exact⟨x,k,d,p,z,f,e,o,h.A n m<|aq _⟩
theorem VI(h:jZ j5 j4 w0 W b db j3 a O C N n5)(t:Y)(i g:af)(c:Y):cR bN 90 #[aJ j3,ay t,aw i,aw g,ay c] W λs W'=>∃x k d,∃l:kW,s=aN (de #[am x (y l) k,d])/\uQ W W' (am x (y l) k) l/\y l<=40000000000/\uc W' d/\jZ j5 j4 w0 W' b db j3 a O C N n5:=by
 let⟨u,q,j,F,v,l,r,n,h⟩:=h;go_call QX t i g c h.Cs h.nW h.D.1 as s W'⟨w,p,d,rfl,f,e,o,m⟩;obtain⟨x,k,rfl⟩:=aM f;exact⟨x,k,d,p,z,f,e,o,h.A n m<|aq _⟩
theorem He(h:jZ j5 j4 w0 W b db j3 a O C N n5)(g f:af)(c:Y):cR bN 87 #[aJ j3,aw g,aw f,ay c] W λq W'=>∃x j,∃l:kW,q=aN (am x (y l) j)/\uQ W W' (am x (y l) j) l/\y l<=40000000000/\jZ j5 j4 w0 W' b db j3 a O C N n5:=by
 let⟨r,o,i,F,s,l,p,m,h⟩:=h;go_call Ns g f c h.Cs h.nW h.D.1 as q W'⟨v,n,rfl,e,d,k⟩;obtain⟨x,j,rfl⟩:=aM e;exact⟨x,j,n,z,e,d,h.A m k<|aq _⟩
theorem YS(h:jZ j5 j4 w0 W b db j3 a O C N n5)(j i c d:af)(f:eN)(s:c.size<=140737488351232/\d.size<=140737488351232)(n:C+8<=3000000000)(o:N+1<=1000000000):cR bN 139 #[aJ j3,aw j,aw i,ef #[aw c,aw d,aO f]] W λA W'=>∃x m u,∃l:kW,A=aN (de #[am x (y l) m,ay u])/\uQ W W' (am x (y l) m) l/\y l<=40000000000/\jZ j5 j4 w0 W' b db j3 a O (C+8) (N+1) n5:=by
 let⟨B,v,k,F,D,l,w,r,h⟩:=h;go_call UE j i c d f h.Cs s n o h.nW h.D.1 h.D.2 (λk q=>(h.da.1 k q).2)as A W'⟨E,u,t,rfl,g,e,p⟩;obtain⟨x,m,rfl⟩:=aM g;exact⟨x,m,u,t,z,g,e,h.A r p U⟩
theorem Sr(h:jZ j5 j4 w0 W b db j3 a O C N n5)(d:N+1<=1000000000):cR bN 44 #[aJ j3] W λk W'=>∃v,k=aN v/\uc W' v/\jZ j5 j4 w0 W' b db j3 a O C (N+1) n5:=by
 let⟨l,i,c,F,m,n,j,f,h⟩:=h;go_call Nr h.Cs d h.nW h.D.1 h.D.2 as k W'⟨v,rfl,g,e⟩;exact⟨v,z,g,h.A f e U⟩
theorem OO(h:jZ j5 j4 w0 W b db j3 a O C N n5)(k:N+1<=1000000000):cR bN 40 #[aJ j3] W λq W'=>∃p v,q=aN (de #[ay p,v])/\uc W' v/\∃f d c F g l e,y l.1<=n5/\y l.2<=N/\LG j5 j4 w0 W' b db j3 a f d c O F C (N+1) g l e:=by
 let⟨f,d,c,F,g,l,e,n,h⟩:=h;go_call KI h.Cs k h.nW h.D.1 as q W'⟨p,v,rfl,o,m⟩;let⟨i,j⟩:=h.Ar m U;exact⟨p,v,z,o,f,d,c,i,g,l,e,n,h.cK,j⟩
theorem Sq(h:jZ j5 j4 w0 W b db j3 a O C N n5)(n:Y):cR bN 42 #[aJ j3,ay n] W λj W'=>∃v,j=aN v/\uc W' v/\jZ j5 j4 w0 W' b db j3 a O C N n5:=by
 let⟨k,g,c,F,l,m,i,e,h⟩:=h;go_call Nq n h.Cs h.nW h.D.1 as j W'⟨v,rfl,f,d⟩;exact⟨v,z,f,h.A e d<|aq _⟩
theorem YR(h:jZ j5 j4 w0 W b db j3 a O C N n5):cR bN 33 #[aJ j3] W λm W'=>∃v c,m=aN (de #[v,c])/\uc W' c/\((c=ic/\∃d,P6 W W' d v/\y d=4)\/(v=aF/\∃t x,c=.iface t x))/\jZ j5 j4 w0 W' b db j3 a O C N n5:=by
 let⟨n,k,e,F,o,p,l,g,h⟩:=h;go_call UD h.Cs h.nW h.D.1 as m W'⟨v,c,rfl,j,i,f⟩;exact⟨v,c,z,j,i,h.A g f<|aq _⟩
theorem YU(h:jZ j5 j4 w0 W b db j3 a O C N n5):cR bN 21 #[aJ j3] W λj W'=>∃v,j=aN v/\uc W' v/\jZ j5 j4 w0 W' b db j3 a O C N n5:=by
 let⟨k,g,c,F,l,m,i,e,h⟩:=h;go_call UG h.Cs as j W'⟨v,rfl,f,d⟩;exact⟨v,z,f,h.A e d<|aq _⟩
theorem Hc(h:jZ j5 j4 w0 W b db j3 a O C N n5){cv:ae}{cs:vX}(c:eN)(i:∀V,I (λq=>q=j3) W V->FN V cv cs)(m:∀x∈cs,x.D.size<=140737488351232/\x.l.size<=140737488351232)(k:y cs<=1000000000)(e:C+8<=3000000000)(f:N+1<=1000000000):cR bN 15 #[aJ j3,cv,aO c] W λp W'=>∃v,p=aN v/\uc W' v/\jZ j5 j4 w0 W' b db j3 a O (C+8) (N+1) n5:=by
 let⟨r,n,d,F,s,t,o,j,h⟩:=h;go_call Jj c h.Cs i m k e f h.nW h.D.1 h.D.2 as p W'⟨v,rfl,l,g⟩;exact⟨v,z,l,h.A j g U⟩
theorem V8(h:jZ j5 j4 w0 W b db j3 a O C N n5)(n:n5<=1000000)(c:af)(i:c.size<=140737488351232):cR bN 84 #[aJ a,aw c] W λm l=>∃x f p,m=aN (de #[aw x,aO f,ay p])/\l=W:=by
 let⟨k,j,e,F,q,r,d,o,h⟩:=h;go_call RJ k.1 c h.eK.eK U i as m W'⟨rfl,g⟩;cases d<;>exact⟨_,_,_,z,g⟩
theorem Yi(h:jZ j5 j4 w0 W b db j3 a O C N n5)(n:Y)(c:af)(j:c.size<=140737488351232):cR bN 89 #[aJ a,ay n,aw c] W λp o=>∃x f n,p=aN (de #[aw x,aO f,ay n])/\o=W:=by
 let⟨l,k,e,F,m,r,d,q,h⟩:=h;refine(Li l.1 m n c h.eK.eK h.eK.f (λx i=>bP<|h.eK.dL x i) j).mono ?_;rintro p W'⟨rfl,g⟩;cases d<;>exact⟨_,_,_,z,g⟩
theorem FC(h:jZ j5 j4 w0 W b db j3 a O C N n5)(q:n5<=1000000)(e d:af)(c:Y):cR bN 85 #[aJ a,aw e,aw d,ay c] W λp g=>∃x j s,∃l:kW,p=aN (de #[am x (y l) j,ay s])/\qE g (G<|H W) (am x (y l) j) l/\y l<=1000000/\gD (G<|H W) W g:=by
 let⟨n,m,i,F,t,l,o,r,h⟩:=h;go_call Od n.1 e d c h.eK.eK U as p W'⟨u,rfl,f,k⟩;obtain⟨x,j,rfl⟩:=aM f;have:=An l.1 e d c;exact⟨x,j,_,_,z,f,aI,k⟩
theorem Vc(h:jZ j5 j4 w0 W b db j3 a O C N n5)(n:Y)(e d:af)(c:Y):cR bN 91 #[aJ a,ay n,aw e,aw d,ay c] W λu k=>∃x o n,∃l:kW,u=aN (de #[am x (y l) o,ay n])/\qE k (G<|H W) (am x (y l) o) l/\y l<=1000000/\gD (G<|H W) W k:=by
 let⟨t,s,m,F,j,l,f,v,h⟩:=h;refine(IK t.1 j n e d c h.eK.eK h.eK.f<|λx r=>bP<|h.eK.dL x r).mono ?_;rintro u W'⟨w,rfl,i,p⟩;obtain⟨x,o,rfl⟩:=aM i;refine⟨x,o,_,_,z,i,?_,p⟩;cases f with
 |true=>simp
 |false=>
  cases q:MF j n with
  |none=>simp
  |some g=>
   have:=h.eK.dL g (FM q).1;have:=An g.l e d c;simp;omega
theorem Yj(h:jZ j5 j4 w0 W b db j3 a O C N n5):cR bN 45 #[aJ a] W λm f=>∃n,m=aN (ay n)/\T7 W f/\jZ j5 j4 w0 f b db j3 a O C N n5:=by
 let⟨j,d,c,F,l,o,k,g,h⟩:=h;go_call Lj j.1 h.eK.eK as m W'⟨rfl,i,e⟩;exact⟨_,z,h.p (show I (λk=>k=a) W W' from gI e)<|λ_ q=>J q,_,d,c,F,l,_,cz,g,h.zbt e i<|J z⟩
theorem Cx(h:jZ j5 j4 w0 W b db j3 a O C N n5)(u:n5<=1000000){v:ae}{c:vX}(m:Cf W v c)(f:∀t,cN v=M t->t<G (H W))(x:y c<=1000000000):cR bN 39 #[aJ a,v] W λs k=>∃B,s=aN (ay B)/\T7 W k/\jZ j5 j4 w0 k b db j3 a O C N (n5+8)/\W.grownBy k (M a):=by
 let⟨o,j,e,F,r,n,d,w,h⟩:=h;go_call Lf o.1 h.eK.eK m f U as s W'⟨rfl,⟨p,l,i⟩,g⟩;refine⟨_,z,h.p (show I (λA=>A=a) W W' from gI g)<|λ_ q=>J q,⟨_,j,e,F,r,_,d,?_,h.zbt g l i⟩,g⟩;show y (if d=bD/\gT c=0 then WD n.1 c else n.1)<=_;split;rename_i q;have:=(rD q.2).1;have:=yK n.1 c;omega;omega
theorem NI{i:PB}{j e:ae}{P:fC}{l:cy uu}{u:LC}{r:eN}(h:LG j5 j4 w0 W b db j3 a i j e O P C N l u r)(d:y u.1<=n5)(S:n5<=1000000)(hN:y u.2+1<=N)(T:N<=1000000000):cR bN 41 #[aJ a] W λt L=>∃k aa,t=aN (de #[ay k,ay aa])/\T7 W L/\jZ j5 j4 w0 L b db j3 a O C N n5:=by
 cases r with
 |true=>
  go_call Gz i.1 h.eK.eK as t W'⟨rfl,rfl⟩;exact⟨_,_,z,λ_ q=>q,i,j,e,P,l,u,cz,d,h⟩
 |false=>
  have:y l=y u.2:=by rw[<-h.eK.D];simp
  by_cases Q:4<=xK l
  .go_call Lh i.1 l h.eK.eK h.eK.f Q as t W'⟨rfl,rfl⟩;exact⟨_,_,z,λ_ q=>q,i,j,e,P,l,u,bD,d,h⟩
  .have w:cN i.2≠M a:=λq=>(h.eK.nZ a q).1 z;go_call Lg i.1 l h.eK.eK h.eK.f U h.eK.aZ h.aA.D w h.eK.L as t W'⟨rfl,K,s,B,E,hh,D,p,c,V⟩;obtain⟨⟨v0,v,_⟩,_⟩:=h.eK.eK;have:=az v;have m:∀g,cN K=M g->g<G (H W)/\g≠a/\cN i.2≠M g:=λg n=>by
    rw[B]at n;exact⟨h.eK.eK.lt g n,(h.f g<|J n).2.2,λq=>(h.eK.nZ g q).2.1 n⟩
   have o:∀k,cN s=M k->cN i.2=M k\/G (H W)<=k:=λk q=>by
    grind
   have A:mF W' K u.1:=p.bV E<|λk c=>⟨λq=>q.elim (m k c).2.1 (m k c).2.2,(m k c).1⟩;have F:=p.D;refine⟨_,_,z,h.p p<|λ_ q=>q,(i.1,s),j,e,P,l++[(⟨cz,K,u.1⟩:uu)],(u.1,(l++[(⟨cz,K,u.1⟩:uu)]).map uu.D),bD,d,h.RI p ⟨⟨⟨K,hh,A,B⟩,h.eK.eK.ne,λg n=>au (h.eK.eK.lt g n) F⟩,⟨dQ D,?_,?_,by rw[ai];simp;omega⟩,D,c,z,?_,?_⟩ ?_ dW⟩
   .intro x f d;obtain q|q:=aP.1 f
    .have g:=h.eK.f.bZ x q d;exact⟨p.bV g.1<|λk c=>⟨λe=>e.elim (h.f k<|bu<|bu ⟨x,q,d,c⟩).2.2<|λe=>(h.eK.nZ k e).2.2 x q d c,g.2 k c⟩,λk c=>au (g.2 k c) F⟩
    grind
   .intro x f;obtain q|q:=aP.1 f
    .exact h.eK.f.fS x q
    .rw[bY.1 q];let⟨x0,c0,e0⟩:=cG E;grind
   .intro x f;obtain q|q:=aP.1 f
    .exact h.eK.dL x q
    .rw[bY.1 q];exact aR d S
   .intro k c;obtain q|q:=o k c
    .refine⟨(h.eK.nZ k q).1,(h.eK.nZ k q).2.1,λx f d t=>?_⟩;obtain g|g:=aP.1 f
     .exact(h.eK.nZ k q).2.2 x g d t
     grind
    .refine⟨U,λt=>bP<|h.eK.eK.lt k t,λx f d t=>?_⟩;obtain g|g:=aP.1 f
     .have:=(h.eK.f.bZ x g d).2 k t;omega
     grind
   .intro k c;obtain q|q|⟨x,f,d,q⟩:=c
    .exact J<|J q
    .exact(o k q).imp (λq=>bu<|J q) id
    .obtain g|g:=aP.1 f
     .exact J<|bu<|bu ⟨x,g,d,q⟩
     .rw[bY.1 g]at q;exact J<|J<|B▸q
theorem O4{c:cy uu}{n:Y}{x:uu}(h:MF c n=M x):∃j:R,n=(j:Y)+1/\j<y c:=by
 unfold MF at h;by_cases d:n<1;rw[fW d]at h;cases h;rw[fN d]at h;refine⟨(n-1).toNat,U,?_⟩;by_cases e:(n-1).toNat<y c;exact e;rw[mI U]at h;cases h
theorem Rw(h:jZ j5 j4 w0 W b db j3 a O C N n5)(P:Y):cR bN 43 #[aJ a,ay P] W λx v=>∃l,x=aN (ay l)/\T7 W v/\jZ j5 j4 w0 v b db j3 a O C N n5:=by
 let⟨o,n,j,Q,i,L,k,e,h⟩:=h;by_cases u:k=cz\/MF i P=dE;(.go_call IL o.1 i P h.eK.eK h.eK.f u as x W'⟨rfl,rfl⟩;exact⟨_,z,λ_ q=>q,o,n,j,Q,i,L,k,e,h⟩);let⟨A,B⟩:=not_or.1 u;obtain rfl:k=bD:=dV A;let⟨S,r⟩:=uW.1 B;obtain⟨w,rfl,E⟩:=O4 r;go_call GA o.1 i w S h.eK.eK h.eK.f r E h.eK.aZ h.eK.L as x W'⟨rfl,t,D,F⟩;have m:I (λl=>cN o.2=M l) W W':=I.eF D<|λ_ q=>J q;have g:∀c∈i.set w Dc,c.f=cz->c∈i:=λc f e=>(jM f).elim id (λq=>by rw[q]at e;cases e);(have K:y i=y L.2:=by rw[<-h.eK.D];simp);refine⟨_,z,h.p m<|λ_ q=>bu q,o,n,j,Q,i.set w Dc,(L.1,(i.set w Dc).map uu.D),bD,e,h.RI (m.aT<|λ_ q=>J<|bu q) ⟨h.eK.eK.aA m (λq=>(h.eK.nZ a q).1 z)<|λs p q=>(h.eK.nZ s q).2.1 p,⟨dQ t,λc f e=>?_,λc f=>?_,by rw[gA];exact h.eK.f.f⟩,t,F,z,λc f=>?_,λl d=>⟨(h.eK.nZ l d).1,(h.eK.nZ l d).2.1,λc f e=>(h.eK.nZ l d).2.2 c (g c f e) e⟩⟩ (λl q=>J ?_) (by have:=h.cK;simp;omega)⟩;have s:=h.eK.f.bZ c (g c f e) e;exact⟨m.bV s.1<|λl d=>⟨λq=>(h.eK.nZ l q).2.2 c (g c f e) e d,s.2 l d⟩,λl d=>au (s.2 l d) m.D⟩;obtain q|q:=jM f;exact h.eK.f.fS c q;rw[q];exact⟨dE,0,0,z⟩;obtain q|q:=jM f;exact h.eK.dL c q;rw[q];exact bQ _;obtain q|q|⟨c,f,e,q⟩:=q;exact J q;exact bu<|J q;exact bu<|bu ⟨c,g c f e,e,q⟩
end
theorem wO:(prog.info? 66).map (λi=>(i.zero,i.size,i.bytes))=M (M<|ef #[aw ⟨#[]⟩,aw ⟨#[]⟩,aO bD],3,40):=aH
theorem zaa(k v:af)(d:eN)(w:Z):(binOp .neq 66 (ef #[aw k,aw v,aO d])<|ef #[aw k,aw v,aO d]).run bN w=.ok (aO bD) w:=by
 rw[run_neq_struct,show(10000:R)=9999+1 from rfl,run_equalIn_agg w 9999 _ _ _ (aH:prog.underlying 66=M (.struct<|prog.fieldsOf 66)) (aH:prog.stoodInHeld 66=bD)];simp only[Program.fieldsOf,underlying66];go_simp
theorem Ik(c:vX):y (gM c)=y c*3:=by
 induction c with
 |nil=>rfl
 |cons e c d=>
  unfold gM at*;rw[dR,ai,d,bK];simp only[oI,bK,eE];omega
theorem Cm{P:Program}(w:Z){g:Array Oper}{e:cy Oper}{p:Oper}{q:Act}{Q:Exit->Act->Z->Prop}(m:p.guard=dE)(S V:Operand)(t:TypeId)(A:p.op=.call {callee:=.builtin .append,args:=#[S,V],argTypes:=#[t,t]})(r:TypeId)(o:TypeInfo)(m9:ae)(D:P.underlying t=M (.slice r))(v:P.info? r=M o)(F:o.zero=M m9)(B:q.eval S=aF)(i:Addr)(n K:R)(c:iF)(E:q.eval V=am (M i) n K)(x:y c=n*o.size)(f:∀L T,c[L]?=M T->bA w (i.add L)=M T)(s:0<n)(k:n<=maxLen)(l:(n:Y)<=9223372036854775807)(j:n*o.bytes<=281474976710656)(h:∀d,n<=d->d<=maxLen->wpList P g Q e (q.put p.dst<|bX (G<|H w) 0 n d) (dw w.drew<|aK (c.toArray++Builtin.zeroCells m9.cells (d-n)) r)):wpList P g Q (p::e) q w:=by
 refine lz m λaa u=>?_;unfold Oper.wp execOp;simp only[A,resolve,invoke,builtin,jy,rJ,kI,List.map_toArray,bO,gB,B,E,(run_append_nil w t p.type r o m9 D v F i n K c x f s l j)];exact u _ _<|h _ (grownCap_ge _ _ _ _)<|uU _ _ _ _ k
def Ih(c:vX)(m:R):Array ae:=(gM c).toArray++Builtin.zeroCells #[aw ⟨#[]⟩,aw ⟨#[]⟩,aO bD] m
theorem WG(d:vX)(m:R):∀u∈(Ih d m).toList,(∃s,u=aw s)\/∃f,u=aO f:=by
 intro u c;unfold Ih at c;rw[nG,aP]at c;obtain c|c:=c;unfold gM at c;obtain⟨g,_,e⟩:=pV.1<|dV c;simp only[oI,dy,lh,uS]at e;grind
 unfold Builtin.zeroCells at c;grind
theorem Df(c:vX)(m j:R)(u:ae)(h:(gM c)[j]?=M u):(Ih c m)[j]?=M u:=by
 have d:j<y (gM c):=by grind
 unfold Ih;rw[pF<|dV d];simpa using h
section
variable{j5:Prop}{j4:cy af}{w0 W:Z}{a db j3 b:R}{O:cy (R×Obj)}{C N n5:R}
theorem Gd(h:jZ j5 j4 w0 W a db j3 b O C N n5)(hM:n5<=1000000)(cl cm:Y)(cn co:af)(T c n an:R)(d:vX)(hn:n=y d)(bm:0<n)(cM:n<=an)(cB:n<=1000000000)(bh:T<G (H w0))(al:∀s ao,(gM d)[s]?=M ao->bA w0 (X T<|c+s)=M ao)(hz:∀dd∈d,dd.D.size<=140737488351232/\dd.l.size<=140737488351232)(hC:C+8<=3000000000)(hN:N+1<=1000000000):cR bN 13 #[aJ a,zc 1 cl cm cn co<|bX T c n an] W λbt w'=>∃dn,bt=aN (aO dn)/\jZ j5 j4 w0 w' a db j3 b O (C+8) (N+1) (n5+8):=by
 let⟨i0,ca,ce,ch,cj⟩:=cZ wO;let⟨g,K⟩:∃g,G (H W)=g:=⟨_,rfl⟩;let⟨l,ad⟩:∃l,dw W (iO 1 cl cm cn co<|bX T c n an)=l:=⟨_,rfl⟩;have h1:jZ j5 j4 w0 l a db j3 b ((g,iO 1 cl cm cn co<|bX T c n an)::O) C N n5:=by rw[<-ad];exact h.sP (cI _ W) U<|aQ _ K.symm
 have bo:j3<G (H W):=h.XY;have av:=ak (show∀bv∈O,bv.1<g fromλbv hp=>bP<|az<|h.oE hp);have L:G (H l)=g+1:=by rw[<-ad,<-K];simp
 have cT:=h.aA.D;have j:∀j4,I aC w0 j4->∀s ao,(gM d)[s]?=M ao->bA j4 (X T<|c+s)=M ao:=λj4 hX s ao hj=>hX.u (al s ao hj) id bh;have hL:∀j4,I aC w0 j4->Cf j4 (bX T c n an) d:=λj4 hX=>⟨Ik d,bu ⟨T,c,an,by rw[hn],U,j j4 hX⟩⟩;have dc:=h.QD.1;let⟨bE,ax,cr,HL,AY,S⟩:=nU h1 ad al hL j K;have aa:y (gM d)=n*3:=by rw[Ik,hn]
 have k:=ak hn;have HZ:=ak hz;unfold zc;have c5:bA l (X g 5)=M (bX T c n an):=h1.eT.2.2.2.2.2;have bl:∀s ao,(gM d)[s]?=M ao->bA l (((X T c):Addr).add s)=M ao:=λs ao hj=>by rw[dS];exact j l h1.aA s ao hj
 let⟨bL,m,bx⟩:=eU bl L aa;clear h h1 j hL al hz hn bl aa K L;go_in
 unfold iO at ax
 go_wp2_with(first
  |(at_builtin;rw[ag ax];go_loud(refine Cm _ z (.tmp 40) (.tmp 42) 58 z 66 i0 (.agg #[.string ⟨#[]⟩,.string ⟨#[]⟩,.bool bD]) underlying58 ca ce z (X T c) n an (gM d) z (by rw[ch];exact bx) bL bm (by unfold maxLen;omega) U (by rw[cj];omega) ?_;intro i cx cp)))
 let⟨e,E⟩:∃e,G (H l)=e:=⟨_,rfl⟩;have L:=ag m;let⟨t,o⟩:∃t,(dw l<|aK (Ih d<|i-n) 66).drew=t:=⟨_,rfl⟩;have p:I aC l t:=o▸(cI aC l).df z;have B:t.heap[e]?=M (aK (Ih d<|i-n) 66 (0,0)):=o▸aQ (w:=l) _ E.symm;have h2:jZ j5 j4 w0 t a db j3 b ((e,aK (Ih d<|i-n) 66 (0,0))::(g,iO 1 cl cm cn co<|bX T c n an)::O) C N n5:=bE.sP p U B;have aD:jZ j5 j4 w0 t a db j3 b ((g,iO 1 cl cm cn co<|bX T c n an)::(e,aK (Ih d<|i-n) 66 (0,0))::O) C N n5:=h2.pO (λbv hp=>by grind);have A:=aD.bH<|cf aC t;have:=p.D;have ab:e<G (H t):=az B;have bf:Cf t.drew (bX e 0 n i) d:=⟨Ik d,bu ⟨e,0,i,by rw[ag k],by rwa[<-ag k],λs ao hj=>by rw[cL,ez,cE B];exact Df d _ s ao hj⟩⟩
 have br:=λc=>Hc A (cv:=bX e 0 n i) (cs:=d) c (λV r=>J ⟨r.bV bf (λap hk=>by
  have f:e=ap:=iL hk;have:=bo;have:=ag S;exact⟨λbt=>by have:ap=j3:=bt;omega,f▸ab⟩),λap hk=>by
   have f:e=ap:=iL hk;rw[<-f];exact au ab r.D⟩) HZ (by rwa[<-ag k]) hC hN
 have bb:=And.intro A.jd.2.1 A.eT.2.1;let⟨v,cs⟩:Hid _/\Hid _:=⟨E,o⟩;have ck:=ag S;clear L;have V:(dw l<|aK ((gM d).toArray++Builtin.zeroCells #[aw ⟨#[]⟩,aw ⟨#[]⟩,aO bD] (i-n)) 66).drew=t:=o;rw[E,V];clear p h2 aD A bf c5 o V E B;try rw[ck]
 rename_i QQ KK aV;refine cX (λj4=>bA j4 (X a 1)=M (aJ j3)/\bA j4 (X g 1)=M (ay cl)) 10 aH ?_;refine dH 0 ?_;iterate 9 (refine fX bb ?_;simp only[ii,eh,fU,ke])
 apply eS;refine aW 9 ?_;intro KC aU;go_simp;go_call br _ as bt W3⟨se,rfl,bg,h3⟩;have bc:=And.intro h3.jd.2.1 h3.eT.2.1;refine aU _ _ (λ_=>bc) ?_;try simp only[ii,eh,fU]
 refine aW 10 ?_;intro KL ba;go_simp;refine ba _ _ wX ?_;refine dG aH ?_ _;show KK _ _;apply aV;have y5:bA W3 (X g 5)=M (bX T c n an):=h3.eT.2.2.2.2.2;have bp:=yg d (bX T c n an) W3 (by rw[<-ag k];omega) (HL W3 h3.aA) (λap hk=>by cases hk;exact au bh h3.aA.D);clear bb bc br aU ba aV;go_wp21;go_call bp as bt W4⟨v4,rfl,F,D⟩;have h4:=h3.bH<|I.p D;have:=D.size;have:e<G (H W3):=az<|h3.oE<|iA _<|iV ..;have bn:=Cx h4 hM (dQ F) (λap hk=>(aS F ap hk).2) (by rw[<-ag k];omega);have Q:=ak<|uc.bH bg<|I.p D;let⟨dx,dk,cd⟩:=aM F;subst cd;have y2:bA W4 (X a 2)=M (aJ b):=h4.jd.2.2;clear F D bp y5 bg;go_wp21;go_call bn as bt W5⟨fn,rfl,bi,h5,bT⟩;let⟨wn,_,_,ac⟩:=kM (bi _<|ag Q) h5.nW;have bq:=ac _<|I.bI aC _;clear bn bT y2 bi Q ac;go_wp21;go_call bq as bt W6⟨rfl,bd⟩;have h6:=h5.bH<|I.p bd;have bs:W6.heap[e]?=M (aK (Ih d<|i-n) 66 (0,0)):=h6.oE (p:=(e,aK (Ih d<|i-n) 66 (0,0)))<|iA _<|iV ..;clear bd bq;go_wp21;go_loopw [10] (λc wr=>∃(u:R)(x:Array ae),u<=n/\c=ay u/\wr.heap[e]?=M (aK x 66 (0,0))/\(∀s,u*3<=s->x[s]?=(Ih d<|i-n)[s]?)/\I (λap=>ap=e) W6 wr) (λc _=>n-(intOf c).toNat)
 exact⟨0,_,bQ _,z,bs,λ_ _=>rfl,I.bI _ _⟩;obtain⟨u,x,hi,rfl,hx,f,r⟩:=hrel;by_cases cb:u<n;(·(have bk:u<y d:=by rwa[<-ag k]);let⟨q0,q1,q2⟩:=np d u bk;have P:I aC w0 wr:=h6.aA.aj r<|λap bt=>bu (by have:ap=e:=bt;have:=ag v;have:=ag m;omega);have a0:=AY wr P _ _ q0;have a1:=AY wr P _ _ q1;have a2:=AY wr P _ _ q2;have b0:bA wr (X e<|u*3)=_:=(cE hx).trans<|(f _ U).trans<|Df d (i-n) _ _ q0;have b1:bA wr (X e<|u*3+1)=_:=(cE hx).trans<|(f _ U).trans<|Df d (i-n) _ _ q1;have b2:bA wr (X e<|u*3+2)=_:=(cE hx).trans<|(f _ U).trans<|Df d (i-n) _ _ q2;have:bA wr (X g 5)=M (bX T c n an):=r.u (h6.eT.2.2.2.2.2:bA W6 (X g 5)=M (bX T c n an)) (gW (ag v) (ag m):g≠e) (az (h6.oE<|iV ..):g<G (H W6));(have:∀s,iI wr (X e s)=bD:=λs=>by simp[World.frozen?,hx]);rw[<-bJ]at a1 a2;have cc:=zaa d[u].D d[u].l d[u].dP;generalize d[u]=cu at*;let⟨xk,xv,xd⟩:=cu;simp only at a0 a1 a2 b0 b1 b2 cc;have e1:(u:Y)<(n:Y):=U;have:(0:Y)<=(u:Y):=U;clear P q0 q1 q2;go_wp21;(go_quiet(fail));go_wp2;go_roundw;have hd:(wr.drewN nq).heap[e]?=M (aK x 66 (0,0)):=hx;refine⟨u+1,_,cb,dM,aY<|aY<|aY hd,λs hj=>?_,?_⟩;rw[kY U,kY U,kY U];exact f s U;exact(((r.aj (gP (λap=>ap=e) wr nq)<|λ_ q=>J q).aL _ _ _<|J z).aL _ _ _<|J z).aL _ _ _<|J z;simp[intOf];omega);have bk:u=n:=U;subst bk;have:¬((u:Y)<(u:Y)):=U;have P:=h6.C9 (O':=O) (gW (ag v)<|ag m) (iA _<|iV ..) bs (WG _ _) r<|λbv hp=>⟨iA _<|iA _ hp,Lu ((av:∀bv∈O,bv.1<g) bv hp) (ag v)<|ag m⟩;clear hx f r;go_wp21;go_call mJ wn _ as bt W9⟨rfl,cc⟩;subst W9;go_wp2;go_ret;exact⟨_,z,P⟩
end
section
variable{j5:Prop}{j4:cy af}{w0 W:Z}{a db j3 b:R}{O:cy (R×Obj)}{C N n5:R}
theorem VN(h:jZ j5 j4 w0 W a db j3 b O C N n5)(hM:n5<=1000000)(bb bc:Y)(av aV:af)(s c aU ax:R)(u v:af)(L:eN)(hn:0<aU)(bk:aU<=ax)(bi:aU<=1000000000000)(k:s<G (H w0))(r0:bA w0 (X s c)=M (aw u))(r1:bA w0 (X s<|c+1)=M (aw v))(r2:bA w0 (X s<|c+2)=M (aO L))(hz:u.size<=140737488351232/\v.size<=140737488351232)(hC:C+8<=3000000000)(hN:N+1<=1000000000):cR bN 86 #[aJ a,zc 4 bb bc av aV<|bX s c aU ax] W λaD w'=>∃bm,aD=aN (aO bm)/\jZ j5 j4 w0 w' a db j3 b O (C+8) (N+1) (n5+8):=by
 let⟨l,E⟩:∃l,G (H W)=l:=⟨_,rfl⟩;have d:=(h.sP (cI _ W) U (aQ _ E.symm):jZ j5 j4 w0 (dw W<|iO 4 bb bc av aV<|bX s c aU ax) a db j3 b ((l,iO 4 bb bc av aV<|bX s c aU ax)::O) C N n5).bH<|cf aC _;have j:=YS d av aV u v L hz hC hN;have p:∀j4,I aC w0 j4->bA j4 (X s c)=M (aw u)/\bA j4 (X s<|c+1)=M (aw v)/\bA j4 (X s<|c+2)=M (aO L):=λj4 d=>⟨d.u r0 id k,d.u r1 id k,d.u r2 id k⟩;have w:=And.intro d.jd.2.1 (And.intro d.eT.2.2.2.1 (And.intro d.eT.2.2.2.2.1 (And.intro d.eT.2.2.2.2.2 (p _ d.aA))));have:=h.QD.1;have:=h.QD.2;have an:∀m,I aC w0 m->cR bN 38 #[bX s c 1 ax] m λaD w'=>∃d,aD=aN d/\MR w' (G<|H m) d [⟨u,v,L⟩]/\gD (G<|H m) m w':=λm V=>by refine yg [⟨u,v,L⟩] _ m ar ⟨z,bu ⟨s,c,ax,z,aI,λbl bn hj=>?_⟩⟩ (λt D=>by cases D;exact au k V.D);let⟨q0,q1,q2⟩:=p m V;obtain _|_|_|bl:=bl;cases hj;exact q0;cases hj;exact q1;cases hj;exact q2;simp[gM,oI]at hj
 let⟨Q,AY⟩:Hid _/\Hid _:=⟨an,p⟩;have:(0:Y)<(aU:Y):=U;have:(1:Y)<=(ax:Y):=U;have:G (H W)=l:=E;unfold zc;unfold iO at j w;clear h d an p r0 r1 r2 k;go_in
 go_wp21;try rw[E]
 rename_i QQ KK g;refine cX (λj4=>bA j4 (X a 1)=M (aJ j3)/\bA j4 (X l 3)=M (aw av)/\bA j4 (X l 4)=M (aw aV)/\bA j4 (X l 5)=M (bX s c aU ax)/\bA j4 (X s c)=M (aw u)/\bA j4 (X s<|c+1)=M (aw v)/\bA j4 (X s<|c+2)=M (aO L)) 17 aH ?_;apply dH 0;iterate 12 (refine fX w ?_;simp only[ii,eh,fU,ke])
 apply eS;refine aW 12 ?_;intro KC f;go_simp;go_call j as aD K⟨bf,bd,wn,m8,rfl,aa,hR,d⟩;have n:=d.bH<|cf aC K;have x:=And.intro d.jd.2.1 (And.intro d.eT.2.2.2.1 (And.intro d.eT.2.2.2.2.1 (And.intro d.eT.2.2.2.2.2 (ag AY _ d.aA))));have e:=ak n;apply f _ _<|λ_=>x;try simp only[ii,eh,fU]
 apply dH 13;iterate 4 (refine fX x ?_;simp only[ii,eh,fU,ke])
 apply eS;refine aW 17 ?_;intro KL i;go_simp;apply i _ _ wX;refine dG aH ?_ _;show KK _ _;apply g;have T:=And.intro e.jd.2.2 (And.intro e.eT.2.2.2.1 e.eT.2.2.2.2.1);have:G (H W)<G (H K):=by have:=az<|d.oE<|iV ..;grind
 clear w x j d n f i g;go_wp21;rename_i KK g;refine cX (λj4=>bA j4 (X a 2)=M (aJ b)/\bA j4 (X l 3)=M (aw av)/\bA j4 (X l 4)=M (aw aV)) 13 aH ?_;apply dH 0;iterate 8 (refine fX T ?_;simp only[ii,eh,fU,ke])
 apply eS;refine aW 8 ?_;intro KC f;go_simp;go_call(FC e hM av aV 0)as aD W3⟨bx,bg,gn,R3,rfl,ac,bh,B⟩;have n:=e.bH<|I.p B;have A:=And.intro n.jd.2.2 (And.intro n.eT.2.2.2.1 n.eT.2.2.2.2.1);have:=B.size;have:bA W3 (X l 5)=M (bX s c aU ax):=n.eT.2.2.2.2.2;apply f _ _<|λ_=>A;try simp only[ii,eh,fU]
 apply dH 9;iterate 4 (refine fX A ?_;simp only[ii,eh,fU,ke])
 apply eS;refine aW 13 ?_;intro KL i;go_simp;apply i _ _ wX;refine dG aH ?_ _;show KK _ _;apply g;clear T A f i g;go_wp21;go_call(ag Q _ n.aA)as aD W4⟨v4,rfl,r,o⟩;have h4:=n.bH<|I.p o;have:=o.size;have:G (H K.drew)=G (H K):=rfl;have ap:=Cx h4 hM (dQ r) (λt D=>(aS r t D).2) ar;let⟨dx,dc,ba⟩:=aM r;subst ba;have:bA W4 (X a 2)=M (aJ b):=h4.jd.2.2;clear r Q;go_wp21;go_call ap as aD S⟨fn,rfl,_,h5,ab⟩;have t5:I (λt=>t=b) W4 S:=gI ab;have ad:mF S (am bf (y m8) bd) m8:=((((cf (λt=>t=b) K).t<|I.p (S:=aC) B).t<|I.p (S:=aC) o).aj t5 (λ_ q=>J q):I (λt=>t=b) K S).bV (dQ aa) (λt D=>by have V:=aS aa t D;simp at V;grind);have al:mF S (am bx (y R3) bg) R3:=((I.p (S:=λt=>t=b) o).aj t5 (λ_ q=>J q):I (λt=>t=b) W3 S).bV (qE.Ou ac) (λt D=>by have:=aS ac t D;grind);have F:=ni ad al U U;generalize decide (m8=R3)=bq at F;clear ad al t5 ab ap;go_wp21;go_call F as aD W6⟨rfl,kq,ao⟩;have P:=ak (h5.bH (W':=W6)<|ao▸gP _ _ _).Bi;clear F ao;cases bq;(.go_wp2;go_ret;exact⟨_,z,P⟩);go_wp21;go_call mJ wn _ as aD V⟨rfl,bl⟩;subst V;go_wp2;go_ret;exact⟨_,z,P⟩
theorem RO(h:jZ j5 j4 w0 W a db j3 b O C N n5)(t:n5<=1000000)(A B:Y)(S T:af)(g c n q:R)(e f:af)(l:eN)(K:A<0)(v:0<n)(k:n<=q)(i:n<=1000000000000)(j:g<G (H w0))(m:bA w0 (X g c)=M (aw e))(o:bA w0 (X g<|c+1)=M (aw f))(p:bA w0 (X g<|c+2)=M (aO l))(w:e.size<=140737488351232/\f.size<=140737488351232)(s:C+8<=3000000000)(u:N+1<=1000000000):cR bN 37 #[aJ a,zc 4 A B S T<|bX g c n q] W λD x=>∃E,D=aN (aO E)/\jZ j5 j4 w0 x a db j3 b O (C+8) (N+1) (n5+8):=by
 have d:=VN (h.bH<|(I.bI aC W).aE<|iO 4 A B S T<|bX g c n q) t A B S T g c n q e f l v k i j m o p w s u;have:(0:Y)<(n:Y):=U;unfold zc at d|-;unfold iO at d;clear h m o p;go_in
 go_wp21;go_call d as D F⟨E,rfl,r⟩;clear d;go_wp2;go_ret;exact⟨_,z,r⟩
theorem uI(c A B:Y)(S T:af)(x:Option Addr)(n g:R)(P:Z->Prop)(j:c=2\/c=3\/c=4\/c=8\/c=9)(d:cR bN 37 #[aJ a,zc c A B S T<|am x n g] (dw W<|iO c A B S T<|am x n g) λf e=>∃r,f=aN (aO r)/\P e):cR bN 13 #[aJ a,zc c A B S T<|am x n g] W λf e=>∃r,f=aN (aO r)/\P e:=by
 unfold zc at d|-;unfold iO at d;obtain rfl|rfl|rfl|rfl|rfl:=j;(all_goals(go_in);go_wp21;go_call d as f k⟨r,rfl,i⟩;clear d;go_wp2;go_ret;exact⟨_,z,i⟩)
theorem UK(c A B:Y)(S T:af)(x:Option Addr)(n f:R)(d:c<1\/11<c):cR bN 13 #[aJ a,zc c A B S T<|am x n f] W λg e=>∃r,g=aN (aO r)/\I aC W e:=by
 have:¬c=1:=U;have:¬c=2:=U;have:¬c=3:=U;have:¬c=4:=U;have:¬c=5:=U;have:¬c=6:=U;have:¬c=7:=U;have:¬c=8:=U;have:¬c=9:=U;have:¬c=10:=U;have:¬c=11:=U;unfold zc;clear d;go_in
 go_wp2;go_ret;exact⟨_,z,cI _ W⟩
theorem UJ(h:jZ j5 j4 w0 W a db j3 b O C N n5)(A:n5<=1000000)(Q S:Y)(T V:af)(ac:Option Addr)(ab aa:R)(u:N+1<=1000000000):cR bN 13 #[aJ a,zc 7 Q S T V<|am ac ab aa] W λs P=>∃an,s=aN (aO an)/\jZ j5 j4 w0 P a db j3 b O C (N+1) n5:=by
 have t:=h.bH<|(I.bI aC W).aE<|iO 7 Q S T V<|am ac ab aa;have d:=OO t u;have:bA W (X a 1)=M (aJ j3):=h.jd.2.1;have:=h.QD.1;unfold iO at d;unfold zc;clear h t;go_in
 go_wp21;go_call d as s r⟨D,se,rfl,i,F,p,k,ad,K,al,q,n,o,l⟩;have f:jZ j5 j4 w0 r a db j3 b O C (N+1) n5:=⟨F,p,k,ad,K,al,q,n,l⟩;have:bA r (X a 2)=M (aJ b):=f.jd.2.2;have w:=NI l n A U u;clear d l f o n;go_wp21;go_call w as s W3⟨E,gn,rfl,v,m⟩;let⟨L,_,_,c⟩:=kM (v _ i) m.nW;have j:=c _<|I.bI aC _;clear w v c i;go_wp21;go_call j as s W4⟨rfl,g⟩;have e:=ak<|m.bH<|I.p g;clear g j m;by_cases B:D=E;(.subst B;go_wp21;go_call mJ L _ as s x⟨rfl,hw⟩;subst x;go_wp2;go_ret;exact⟨_,z,e⟩);go_wp2;go_ret;exact⟨_,z,e⟩
theorem KM(h:jZ j5 j4 w0 W a db j3 b O C N n5)(A B:Y)(S T:af)(aa:Option Addr)(Q L:R):cR bN 13 #[aJ a,zc 10 A B S T<|am aa Q L] W λw w'=>∃ab,w=aN (aO ab)/\jZ j5 j4 w0 w' a db j3 b O C N n5:=by
 let⟨s,q⟩:∃s,G (H W)=s:=⟨_,rfl⟩;have g:=(h.sP (cI _ W) U (aQ _ q.symm):jZ j5 j4 w0 (dw W<|iO 10 A B S T<|am aa Q L) a db j3 b ((s,iO 10 A B S T<|am aa Q L)::O) C N n5).bH<|cf aC _;have f:=Sq g A;have l:=And.intro g.jd.2.1 g.eT.2.1;have:=h.QD.1;unfold zc;unfold iO at f l;clear h g;go_in
 go_wp21;try rw[q]
 rename_i F u d;refine cX (λj4=>bA j4 (X a 1)=M (aJ j3)/\bA j4 (X s 1)=M (ay A)) 7 aH ?_;apply dH 0;iterate 6 (refine fX l ?_;simp only[ii,eh,fU,ke])
 apply eS;refine aW 6 ?_;intro D c;go_simp;go_call f as w v⟨se,rfl,p,g⟩;have i:=g.bH<|cf aC v;have m:=ak<|p.bH<|cf aC v;have k:=ak i;apply c _ _<|λ_=>(And.intro g.jd.2.1 g.eT.2.1);try simp only[ii,eh,fU]
 refine aW 7 ?_;intro E e;go_simp;apply e _ _ wX;refine dG aH ?_ _;show u _ _;apply d;have n:=And.intro k.jd.2.2 (k.eT.2.1);clear l f g i c e d p;go_wp21;rename_i F u d;refine cX (λj4=>bA j4 (X a 2)=M (aJ b)/\bA j4 (X s 1)=M (ay A)) 7 aH ?_;apply dH 0;iterate 6 (refine fX n ?_;simp only[ii,eh,fU,ke])
 apply eS;refine aW 6 ?_;intro D c;go_simp;go_call(Rw k A)as w W3⟨gn,rfl,x,i⟩;apply c _ _<|λ_=>(And.intro i.jd.2.2 i.eT.2.1);try simp only[ii,eh,fU]
 refine aW 7 ?_;intro E e;go_simp;refine e _ _ wX ?_;refine dG aH ?_ _;show u _ _;apply d;let⟨V,_,_,j⟩:=kM (ag<|ak<|x _<|ag m) i.nW;have r:=j _<|I.bI aC _;clear n c e d j x m;go_wp21;go_call r as w W4⟨rfl,o⟩;have t:=ak (i.bH<|I.p o).Bi;clear o r i;go_wp21;go_call mJ V _ as w K⟨rfl,P⟩;subst K;go_wp2;go_ret;exact⟨_,z,t⟩
theorem KN(h:jZ j5 j4 w0 W a db j3 b O C N n5)(A B:Y)(S T:af)(E:Option Addr)(D x:R)(v:N+1<=1000000000):cR bN 13 #[aJ a,zc 11 A B S T<|am E D x] W λq w=>∃L,q=aN (aO L)/\jZ j5 j4 w0 w a db j3 b O C (N+1) n5:=by
 have d:=Sr (h.bH<|(I.bI aC W).aE<|iO 11 A B S T<|am E D x) v;have:bA W (X a 1)=M (aJ j3):=h.jd.2.1;have:=h.QD.1;unfold iO at d;unfold zc;clear h;go_in
 go_wp21;go_call d as q F⟨P,rfl,i,l⟩;let⟨f,m,n,c⟩:=kM i l.nW;have j:=c _<|I.bI aC _;clear d c i m n;go_wp21;go_call j as q t⟨rfl,g⟩;have e:=l.bH<|I.p g;have:bA t (X a 2)=M (aJ b):=e.jd.2.2;let⟨p,Q⟩:=e.Q9;clear g j l;go_wp21;go_call mJ f _ as q u⟨rfl,K⟩;subst u;by_cases r:f=0;(.subst r;cases p;(.go_wp2;go_ret;exact⟨_,z,e⟩);go_wp21;go_call mJ 0 _ as q k⟨rfl,o⟩;subst k;go_wp2;go_ret;exact⟨_,z,e⟩);have:(f==0)=bD:=dV r;go_wp21;go_call mJ f _ as q k⟨rfl,o⟩;subst k;by_cases s:f=6;(.subst s;go_wp2;go_ret;exact⟨_,z,e⟩);have:(f==6)=bD:=dV s;go_wp2;go_ret;exact⟨_,z,e⟩
theorem QY(h:jZ j5 j4 w0 W a db j3 b O C N n5)(A B:Y)(S T:af)(x:Option Addr)(u t:R):cR bN 13 #[aJ a,zc 5 A B S T<|am x u t] W λl s=>∃F,l=aN (aO F)/\jZ j5 j4 w0 s a db j3 b O C N n5:=by
 have m:=h.bH<|(I.bI aC W).aE<|iO 5 A B S T<|am x u t;have d:=YU m;have:bA W (X a 1)=M (aJ j3):=h.jd.2.1;have:=h.QD.1;unfold iO at d;unfold zc;clear h m;go_in
 go_wp21;go_call d as l p⟨K,rfl,f,j⟩;have:bA p (X a 2)=M (aJ b):=j.jd.2.2;have o:=Yj j;clear d j;go_wp21;go_call o as l v⟨D,rfl,n,k⟩;let⟨r,_,_,c⟩:=kM (n _ f) k.nW;have g:=c _<|I.bI aC _;clear o n c f;go_wp21;go_call g as l w⟨rfl,e⟩;have i:=ak<|k.bH<|I.p e;clear e g k;go_wp21;go_call mJ r _ as l q⟨rfl,E⟩;subst q;go_wp2;go_ret;exact⟨_,z,i⟩
end
section
variable{j5:Prop}{j4:cy af}{w0 W:Z}{a db j3 b:R}{O:cy (R×Obj)}{C N n5:R}
theorem Vl(h:jZ j5 j4 w0 W a db j3 b O C N n5)(hM:n5<=1000000)(al ba:Y)(ao ap:af)(bh:Option Addr)(bg bb:R):cR bN 37 #[aJ a,zc 3 al ba ao ap<|am bh bg bb] W λaV w'=>∃bi,aV=aN (aO bi)/\jZ j5 j4 w0 w' a db j3 b O C N n5:=by
 let⟨o,P⟩:∃o,G (H W)=o:=⟨_,rfl⟩;have h1:jZ j5 j4 w0 (dw W<|iO 3 al ba ao ap<|am bh bg bb) a db j3 b ((o,iO 3 al ba ao ap<|am bh bg bb)::O) C N n5:=h.sP (cI _ W) U<|aQ _ P.symm;have v:=h1.bH<|cf aC _;have k:=J4 v ao ap al;have r:=And.intro v.jd.2.1 (And.intro v.eT.2.2.2.1 (And.intro v.eT.2.2.2.2.1 v.eT.2.1));have:=h.QD.1;unfold zc;unfold iO at k r;clear h h1 v;go_in
 go_wp21;try rw[P]
 rename_i QQ KK g;refine cX (λj4=>bA j4 (X a 1)=M (aJ j3)/\bA j4 (X o 3)=M (aw ao)/\bA j4 (X o 4)=M (aw ap)/\bA j4 (X o 1)=M (ay al)) 15 aH ?_;refine dH 0 ?_;iterate 10 (refine fX r ?_;simp only[ii,eh,fU,ke])
 apply eS;refine aW 10 ?_;intro KC f;go_simp;go_call k as aV W2⟨ax,ad,se,m8,rfl,K,hR,F,d⟩;have h3:=d.bH<|cf aC W2;have s:=And.intro d.jd.2.1 (And.intro d.eT.2.2.2.1 (And.intro d.eT.2.2.2.2.1 d.eT.2.1));let⟨l,x,c⟩:=eU K (F.bH<|cf aC W2) h3;clear F;refine f _ _ (λ_=>s) ?_;try simp only[ii,eh,fU]
 refine dH 11 ?_;iterate 4 (refine fX s ?_;simp only[ii,eh,fU,ke])
 apply eS;refine aW 15 ?_;intro KL i;go_simp;refine i _ _ wX ?_;refine dG aH ?_ _;show KK _ _;apply g;have T:=FC c hM ao ap al;have B:=And.intro c.jd.2.2 (And.intro c.eT.2.2.2.1 (And.intro c.eT.2.2.2.2.1 c.eT.2.1));clear r s k K d h3 f i g;go_wp21;rename_i QQ KK g;refine cX (λj4=>bA j4 (X a 2)=M (aJ b)/\bA j4 (X o 3)=M (aw ao)/\bA j4 (X o 4)=M (aw ap)/\bA j4 (X o 1)=M (ay al)) 15 aH ?_;refine dH 0 ?_;iterate 10 (refine fX B ?_;simp only[ii,eh,fU,ke])
 apply eS;refine aW 10 ?_;intro KC f;go_simp;go_call T as aV W3⟨bx,bc,gn,R3,rfl,L,bd,D⟩;have t3:I aC W2.drew W3:=I.p D;have e:=c.bH t3;have t:=And.intro e.jd.2.2 (And.intro e.eT.2.2.2.1 (And.intro e.eT.2.2.2.2.1 e.eT.2.1));have aD:mF W3 (am ax (y m8) ad) m8:=t3.bV ((cf aC W2).bV (dQ l)<|λw m=>⟨id,(aS l w m).2⟩)<|λw m=>⟨id,(aS l w m).2⟩;have av:∀w,cN (am ax (y m8) ad)=M w->w<G (H W3):=λw m=>au (aS l w m).2 t3.D;have p:=ak<|uc.bH (ag x) t3;refine f _ _ (λ_=>t) ?_;try simp only[ii,eh,fU]
 refine dH 11 ?_;iterate 4 (refine fX t ?_;simp only[ii,eh,fU,ke])
 apply eS;refine aW 15 ?_;intro KL i;go_simp;refine i _ _ wX ?_;refine dG aH ?_ _;show KK _ _;apply g;let⟨tn,_,_,q⟩:=kM (ag p) e.nW;have aa:=q _<|I.bI aC _;clear T B t f i g D t3 q x p;go_wp21;go_call aa as aV W4⟨rfl,E⟩;have n:I aC W3 W4:=I.p E;have an:=ak<|e.bH n;have Q:mF W4 (am ax (y m8) ad) m8:=n.bV aD<|λw m=>⟨id,av w m⟩;have S:mF W4 (am bx (y R3) bc) R3:=n.bV (qE.Ou L)<|λw m=>⟨id,(aS L w m).2⟩;have u:=ni Q S U U;generalize decide (m8=R3)=bq at u;clear E aa n Q S;go_wp21;go_call u as aV W5⟨rfl,kq,ab⟩;have V:I aC W4 W5:=ab▸gP _ _ _;have h5:=an.bH V;let⟨aU,ac,j⟩:=h5.g;have:bA W5 (X a 5)=M aU:=(cE j).trans z;have:bA W5 (X a 6)=M ac:=(cE j).trans z;have:∀i,iI W5 (X a i)=bD:=λi=>by simp[World.frozen?,j]
 have h6:=h5.X7 (out':=am ax (y m8) ad) (want':=am bx (y R3) bc) ⟨⟨_,_,_,z⟩,_,_,_,z⟩;have A:=ak h6.Bi;have:=az j;clear h5 h6 j V u ab;cases bq;(.go_wp2;go_ret;exact⟨_,z,A⟩);go_wp21;go_call mJ tn _ as aV W7⟨rfl,bf⟩;subst W7;go_wp2;go_ret;exact⟨_,z,A⟩
theorem Og(h:jZ j5 j4 w0 W a db j3 b O C N n5)(aa ab:Y)(ad al:af)(bb:Option Addr)(ba aD:R):cR bN 37 #[aJ a,zc 9 aa ab ad al<|am bb ba aD] W λav w'=>∃bd,av=aN (aO bd)/\jZ j5 j4 w0 w' a db j3 b O C N n5:=by
 let⟨k,L⟩:∃k,G (H W)=k:=⟨_,rfl⟩;have h1:jZ j5 j4 w0 (dw W<|iO 9 aa ab ad al<|am bb ba aD) a db j3 b ((k,iO 9 aa ab ad al<|am bb ba aD)::O) C N n5:=h.sP (cI _ W) U<|aQ _ L.symm;have q:=h1.bH<|cf aC _;have j:=VI q aa ad al ab;have r:=And.intro q.jd.2.1 (And.intro q.eT.2.1 (And.intro q.eT.2.2.2.1 (And.intro q.eT.2.2.2.2.1 q.eT.2.2.1)));have:=h.QD.1;unfold zc;unfold iO at j r;clear h h1 q;go_in
 go_wp21;try rw[L]
 rename_i QQ KK g;refine cX (λj4=>bA j4 (X a 1)=M (aJ j3)/\bA j4 (X k 1)=M (ay aa)/\bA j4 (X k 3)=M (aw ad)/\bA j4 (X k 4)=M (aw al)/\bA j4 (X k 2)=M (ay ab)) 17 aH ?_;refine dH 0 ?_;iterate 12 (refine fX r ?_;simp only[ii,eh,fU,ke])
 apply eS;refine aW 12 ?_;intro KC f;go_simp;go_call j as av W2⟨ax,an,se,m8,rfl,F,hR,E,d⟩;have h3:=d.bH<|cf aC W2;have s:=And.intro d.jd.2.1 (And.intro d.eT.2.1 (And.intro d.eT.2.2.2.1 (And.intro d.eT.2.2.2.2.1 d.eT.2.2.1)));let⟨l,w,c⟩:=eU F (E.bH<|cf aC W2) h3;clear E;refine f _ _ (λ_=>s) ?_;try simp only[ii,eh,fU]
 refine dH 13 ?_;iterate 4 (refine fX s ?_;simp only[ii,eh,fU,ke])
 apply eS;refine aW 17 ?_;intro KL i;go_simp;refine i _ _ wX ?_;refine dG aH ?_ _;show KK _ _;apply g;have S:=Vc c aa ad al ab;have A:=And.intro c.jd.2.2 (And.intro c.eT.2.1 (And.intro c.eT.2.2.2.1 (And.intro c.eT.2.2.2.2.1 (c.eT.2.2.1))));clear r s j F d h3 f i g;go_wp21;rename_i KK g;refine cX (λj4=>bA j4 (X a 2)=M (aJ b)/\bA j4 (X k 1)=M (ay aa)/\bA j4 (X k 3)=M (aw ad)/\bA j4 (X k 4)=M (aw al)/\bA j4 (X k 2)=M (ay ab)) 17 aH ?_;refine dH 0 ?_;iterate 12 (refine fX A ?_;simp only[ii,eh,fU,ke])
 apply eS;refine aW 12 ?_;intro KC f;go_simp;go_call S as av W3⟨bx,bc,gn,R3,rfl,K,aU,B⟩;have t3:I aC W2.drew W3:=I.p B;have e:=c.bH t3;have t:=And.intro e.jd.2.2 (And.intro e.eT.2.1 (And.intro e.eT.2.2.2.1 (And.intro e.eT.2.2.2.2.1 e.eT.2.2.1)));have ap:mF W3 (am ax (y m8) an) m8:=t3.bV ((cf aC W2).bV (dQ l)<|λv m=>⟨id,(aS l v m).2⟩)<|λv m=>⟨id,(aS l v m).2⟩;have ao:∀v,cN (am ax (y m8) an)=M v->v<G (H W3):=λv m=>au (aS l v m).2 t3.D;have o:=ak<|uc.bH (ag w) t3;refine f _ _ (λ_=>t) ?_;try simp only[ii,eh,fU]
 refine dH 13 ?_;iterate 4 (refine fX t ?_;simp only[ii,eh,fU,ke])
 apply eS;refine aW 17 ?_;intro KL i;go_simp;refine i _ _ wX ?_;refine dG aH ?_ _;show KK _ _;apply g;let⟨tn,_,_,p⟩:=kM (ag o) e.nW;have T:=p _<|I.bI aC _;clear S A t f i g B t3 p w o;go_wp21;go_call T as av W4⟨rfl,D⟩;have n:I aC W3 W4:=I.p D;have ac:=ak<|e.bH n;have P:mF W4 (am ax (y m8) an) m8:=n.bV ap<|λv m=>⟨id,ao v m⟩;have Q:mF W4 (am bx (y R3) bc) R3:=n.bV (qE.Ou K)<|λv m=>⟨id,(aS K v m).2⟩;have u:=ni P Q U U;generalize decide (m8=R3)=bq at u;clear D T n P Q;go_wp21;go_call u as av W5⟨rfl,kq,V⟩;have x:=ak (ac.bH (W':=W5)<|V▸gP _ _ _).Bi;clear u V;cases bq;(.go_wp2;go_ret;exact⟨_,z,x⟩);go_wp21;go_call mJ tn _ as av W7⟨rfl,aV⟩;subst W7;go_wp2;go_ret;exact⟨_,z,x⟩
end
section
variable{j5:Prop}{j4:cy af}{w0 W:Z}{a db j3 b:R}{O:cy (R×Obj)}{C N n5:R}
theorem yZ(h:jZ j5 j4 w0 W a db j3 b O C N n5)(hM:n5<=1000000)(bf bg:Y)(bh bi:af)(n:Addr)(ap:R)(hC:C+8<=3000000000)(hN:N+1<=1000000000):cR bN 13 #[aJ a,zc 1 bf bg bh bi<|am (M n) 0 ap] W λaa w'=>∃bl,aa=aN (aO bl)/\jZ j5 j4 w0 w' a db j3 b O (C+8) (N+1) (n5+8):=by
 let⟨i0,aD,aV,ba,bb⟩:=cZ wO;let⟨q,i⟩:∃q,G (H W)=q:=⟨_,rfl⟩;let⟨l,o⟩:∃l,dw W (iO 1 bf bg bh bi<|am (M n) 0 ap)=l:=⟨_,rfl⟩;have h1:jZ j5 j4 w0 l a db j3 b ((q,iO 1 bf bg bh bi<|am (M n) 0 ap)::O) C N n5:=by rw[<-o];exact h.sP (cI _ W) U<|aQ _ i.symm
 have L:G (H l)=q+1:=by rw[<-o,<-i];simp
 have:=h.QD.1;let⟨ab,s,k,al,r⟩:=oa h1 o i L h.XY;unfold zc;have c5:bA l (X q 5)=M (am (M n) 0 ap):=h1.eT.2.2.2.2.2;clear h h1 i L;go_in
 unfold iO at s
 go_wp2_with(first
  |(at_builtin;rw[ag s];go_loud(refine cq _ z (.tmp 40) (.tmp 42) 58 z (G (H l)) 66 i0 (.agg #[.string ⟨#[]⟩,.string ⟨#[]⟩,.bool bD]) 3 40 underlying58 aD aV ba bb z cg aF 0 [] z (ct _ _ _ _) n 0 ap [] z z ar ar U U (aq _) ?_;intro v2 t c S;obtain⟨ax,ao,rfl⟩:=aM c;have ad:=ak c;have an:=ak S;clear c S)))
 have d:I aC l t:=I.eF an.dF (λV e=>by cases e);have c:fE t (G<|H l) 66 3 (am ax 0 ao) 0 []:=ag ad;have f:=(ab.bH d).bH<|cf aC t;have:=d.D;have D:Cf t.drew (am ax 0 ao) []:=(cf aC t).bV (dQ c)<|λV e=>⟨id,(aS c V e).2⟩;have T:=λd=>Hc f (cv:=(am ax 0 ao)) (cs:=[]) d (λi g=>J ⟨g.bV D<|λV e=>⟨λaa=>by have:V=j3:=aa;have:=(aS c V e).1;have:=ag r;have:=ag k;have:=ag al;omega,(aS c V e).2⟩,λV e=>au (aS c V e).2 g.D⟩) ar ar hC hN;have x:=And.intro f.jd.2.1 f.eT.2.1;have bc:=ag k;clear d c f D c5;try rw[bc]
 rename_i QQ KK v;refine cX (λj4=>bA j4 (X a 1)=M (aJ j3)/\bA j4 (X q 1)=M (ay bf)) 10 aH ?_;refine dH 0 ?_;iterate 9 (refine fX x ?_;simp only[ii,eh,fU,ke])
 apply eS;refine aW 9 ?_;intro KC u;go_simp;go_call T _ as aa W3⟨se,rfl,E,h3⟩;have A:=And.intro h3.jd.2.1 h3.eT.2.1;refine u _ _ (λ_=>A) ?_;try simp only[ii,eh,fU]
 refine aW 10 ?_;intro KL w;go_simp;refine w _ _ wX ?_;refine dG aH ?_ _;show KK _ _;apply v;have y5:bA W3 (X q 5)=M (am (M n) 0 ap):=h3.eT.2.2.2.2.2;have P:=EA (M n) ap W3;clear x A T u w v;go_wp21;go_call P as aa W4⟨v4,rfl,g,p⟩;have h4:=h3.bH<|I.p p;have K:=Cx h4 hM (dQ g) (λV e=>(aS g V e).2) ar;have j:=ak<|uc.bH E<|I.p p;let⟨dx,dc,aU⟩:=aM g;subst aU;have y2:bA W4 (X a 2)=M (aJ b):=h4.jd.2.2;clear g p P y5 E;go_wp21;go_call K as aa W5⟨fn,rfl,F,h5,av⟩;let⟨wn,_,_,m⟩:=kM (F _<|ag j) h5.nW;have Q:=m _<|I.bI aC _;clear K av y2 F j m;go_wp21;go_call Q as aa W6⟨rfl,B⟩;have ac:=ak<|h5.bH<|I.p B;clear B Q;go_wp21;go_loopw [10] (λc wr=>c=ay 0/\wr=W6) (λ_ _=>0)
 grind
 obtain⟨rfl,bd⟩:=hrel;subst wr;go_wp21;go_call mJ wn _ as aa W9⟨rfl,bk⟩;subst W9;go_wp2;go_ret;exact⟨_,z,ac.Bi⟩
theorem Ge(h:jZ j5 j4 w0 W a db j3 b O C N n5)(hM:n5<=1000000)(av ax:Y)(aD aU:af)(hC:C+8<=3000000000)(hN:N+1<=1000000000):cR bN 13 #[aJ a,zc 1 av ax aD aU aF] W λaa w'=>∃bf,aa=aN (aO bf)/\jZ j5 j4 w0 w' a db j3 b O (C+8) (N+1) (n5+8):=by
 let⟨i0,aV,bb,bc,bd⟩:=cZ wO;let⟨q,i⟩:∃q,G (H W)=q:=⟨_,rfl⟩;let⟨l,o⟩:∃l,dw W (iO 1 av ax aD aU aF)=l:=⟨_,rfl⟩;have h1:jZ j5 j4 w0 l a db j3 b ((q,iO 1 av ax aD aU aF)::O) C N n5:=by rw[<-o];exact h.sP (cI _ W) U<|aQ _ i.symm
 have L:G (H l)=q+1:=by rw[<-o,<-i];simp
 have:=h.QD.1;let⟨ab,s,k,ad,r⟩:=oa h1 o i L h.XY;unfold zc;have c5:bA l (X q 5)=M aF:=h1.eT.2.2.2.2.2;clear h h1 i L;go_in
 unfold iO at s;go_wp21;rw[ag s];let⟨n,A⟩:∃n,l=n:=⟨_,rfl⟩;have d:I aC l n:=A▸I.bI _ _;have c:fE n (G<|H l) 66 3 aF 0 []:=ct _ _ _ _;rw[A];have f:=(ab.bH d).bH<|cf aC n;have:=d.D;have D:Cf n.drew aF []:=(cf aC n).bV (dQ c)<|λT e=>⟨id,(aS c T e).2⟩;have S:=λd=>Hc f (cv:=aF) (cs:=[]) d (λV g=>J ⟨g.bV D<|λT e=>⟨λaa=>by have:T=j3:=aa;have:=(aS c T e).1;have:=ag r;have:=ag k;have:=ag ad;omega,(aS c T e).2⟩,λT e=>au (aS c T e).2 g.D⟩) ar ar hC hN;have w:=And.intro f.jd.2.1 f.eT.2.1;have ao:=ag k;clear d c f D c5;try rw[ao]
 rename_i QQ KK u;refine cX (λj4=>bA j4 (X a 1)=M (aJ j3)/\bA j4 (X q 1)=M (ay av)) 10 aH ?_;refine dH 0 ?_;iterate 9 (refine fX w ?_;simp only[ii,eh,fU,ke])
 apply eS;refine aW 9 ?_;intro KC t;go_simp;go_call S _ as aa W3⟨se,rfl,E,V⟩;have x:=And.intro V.jd.2.1 V.eT.2.1;refine t _ _ (λ_=>x) ?_;try simp only[ii,eh,fU]
 refine aW 10 ?_;intro KL v;go_simp;refine v _ _ wX ?_;refine dG aH ?_ _;show KK _ _;apply u;have y5:bA W3 (X q 5)=M aF:=V.eT.2.2.2.2.2;have P:=yg [] aF W3 ar ⟨z,J ⟨z,z⟩⟩ (λT e=>by cases e);clear w x S t v u;go_wp21;go_call P as aa W4⟨v4,rfl,g,p⟩;have h4:=V.bH<|I.p p;have K:=Cx h4 hM (dQ g) (λT e=>(aS g T e).2) ar;have j:=ak<|uc.bH E<|I.p p;let⟨dx,dc,an⟩:=aM g;subst an;have y2:bA W4 (X a 2)=M (aJ b):=h4.jd.2.2;clear g p P y5 E;go_wp21;go_call K as aa W5⟨fn,rfl,F,h5,al⟩;let⟨wn,_,_,m⟩:=kM (F _<|ag j) h5.nW;have Q:=m _<|I.bI aC _;clear K al y2 F j m;go_wp21;go_call Q as aa W6⟨rfl,B⟩;have ac:=ak<|h5.bH<|I.p B;clear B Q;go_wp21;go_loopw [10] (λc wr=>c=ay 0/\wr=W6) (λ_ _=>0)
 grind
 obtain⟨rfl,ap⟩:=hrel;subst wr;go_wp21;go_call mJ wn _ as aa W9⟨rfl,ba⟩;subst W9;go_wp2;go_ret;exact⟨_,z,ac.Bi⟩
end
section
variable{j5:Prop}{j4:cy af}{w0 W:Z}{a db j3 b:R}{O:cy (R×Obj)}{C N n5:R}
theorem DL(h:jZ j5 j4 w0 W a db j3 b O C N n5)(hM:n5<=1000000)(A P:Y)(S T:af)(al:Option Addr)(ad aa:R)(e2:¬A<=0):cR bN 37 #[aJ a,zc 4 A P S T<|am al ad aa] W λL w'=>∃an,L=aN (aO an)/\jZ j5 j4 w0 w' a db j3 b O C N n5:=by
 let⟨j,s⟩:∃j,G (H W)=j:=⟨_,rfl⟩;have K:jZ j5 j4 w0 (dw W<|iO 4 A P S T<|am al ad aa) a db j3 b ((j,iO 4 A P S T<|am al ad aa)::O) C N n5:=h.sP (cI _ W) U<|aQ _ s.symm;have d:=K.bH<|cf aC _;have i:=He d S T A;have m:=And.intro d.jd.2.1 (And.intro d.eT.2.2.2.1 (And.intro d.eT.2.2.2.2.1 d.eT.2.1));have:=h.QD.1;unfold zc;unfold iO at i m;clear h K d;have:¬A<0:=U;go_in
 go_wp21;try rw[s]
 rename_i QQ w f;refine cX (λj4=>bA j4 (X a 1)=M (aJ j3)/\bA j4 (X j 3)=M (aw S)/\bA j4 (X j 4)=M (aw T)/\bA j4 (X j 1)=M (ay A)) 11 aH ?_;refine dH 0 ?_;iterate 10 (refine fX m ?_;simp only[ii,eh,fU,ke])
 apply eS;refine aW 10 ?_;intro Q e;go_simp;go_call i as L x⟨ax,ac,m8,rfl,o,hR,d⟩;have k:=d.bH<|cf aC x;have p:=And.intro d.jd.2.1 (And.intro d.eT.2.2.2.1 (And.intro d.eT.2.2.2.2.1 d.eT.2.1));have c:=ak k;refine e _ _ (λ_=>p) ?_;try simp only[ii,eh,fU]
 refine aW 11 ?_;intro V g;go_simp;refine g _ _ wX ?_;refine dG aH ?_ _;show w _ _;apply f;have t:=FC c hM S T A;have q:=And.intro c.jd.2.2 (And.intro c.eT.2.2.2.1 (And.intro c.eT.2.2.2.2.1 c.eT.2.1));clear m p i d k e g f;go_wp21;rename_i QQ w f;refine cX (λj4=>bA j4 (X a 2)=M (aJ b)/\bA j4 (X j 3)=M (aw S)/\bA j4 (X j 4)=M (aw T)/\bA j4 (X j 1)=M (ay A)) 15 aH ?_;refine dH 0 ?_;iterate 10 (refine fX q ?_;simp only[ii,eh,fU,ke])
 apply eS;refine aW 10 ?_;intro Q e;go_simp;go_call t as L B⟨bx,bc,gn,R3,rfl,E,ab,r⟩;have F:I aC x.drew B:=I.p r;have k:=c.bH F;have n:=And.intro k.jd.2.2 (And.intro k.eT.2.2.2.1 (And.intro k.eT.2.2.2.2.1 k.eT.2.1));have D:mF B (am ax (y m8) ac) m8:=F.bV ((cf aC x).bV (dQ o)<|λk c=>⟨id,(aS o k c).2⟩)<|λk c=>⟨id,(aS o k c).2⟩;have:bA B (X j 1)=M (ay A):=k.eT.2.1;refine e _ _ (λ_=>n) ?_;try simp only[ii,eh,fU]
 refine dH 11 ?_;iterate 4 (refine fX n ?_;simp only[ii,eh,fU,ke])
 apply eS;refine aW 15 ?_;intro V g;go_simp;refine g _ _ wX ?_;refine dG aH ?_ _;show w _ _;apply f;have l:=ni D (qE.Ou E) U U;clear t q n e g f r F;go_wp21;go_call l as L W5⟨rfl,kq,u⟩;have v:=ak (k.bH (W':=W5)<|u▸gP _ _ _).Bi;clear l u;go_wp2;go_ret;exact⟨_,z,v⟩
theorem Fo(h:jZ j5 j4 w0 W a db j3 b O C N n5)(hM:n5<=1000000)(A V:Y)(S T:af)(al:Option Addr)(Q aa:R)(e2:A<=0)(L:A<0->Q=0):cR bN 37 #[aJ a,zc 4 A V S T<|am al Q aa] W λP w'=>∃an,P=aN (aO an)/\jZ j5 j4 w0 w' a db j3 b O C N n5:=by
 let⟨j,t⟩:∃j,G (H W)=j:=⟨_,rfl⟩;have K:jZ j5 j4 w0 (dw W<|iO 4 A V S T<|am al Q aa) a db j3 b ((j,iO 4 A V S T<|am al Q aa)::O) C N n5:=h.sP (cI _ W) U<|aQ _ t.symm;have d:=K.bH<|cf aC _;have i:=He d S T A;have n:=And.intro d.jd.2.1 (And.intro d.eT.2.2.2.1 (And.intro d.eT.2.2.2.2.1 d.eT.2.1));have:=h.QD.1;unfold zc;unfold iO at i n;clear h K d;by_cases e1:A<0;case' pos=>obtain rfl:=L e1
 (all_goals clear L;(go_in);go_wp21;(try rw[t]);rename_i QQ B f;refine cX (λj4=>bA j4 (X a 1)=M (aJ j3)/\bA j4 (X j 3)=M (aw S)/\bA j4 (X j 4)=M (aw T)/\bA j4 (X j 1)=M (ay A)) 11 aH ?_;refine dH 0 ?_;(iterate 10 (refine fX n ?_;simp only[ii,eh,fU,ke]));apply eS;refine aW 10 ?_;intro KC e;go_simp;go_call i as P D⟨ax,ac,m8,rfl,p,hR,d⟩;have k:=d.bH<|cf aC D;have q:=And.intro d.jd.2.1 (And.intro d.eT.2.2.2.1 (And.intro d.eT.2.2.2.2.1 d.eT.2.1));have c:=ak k;refine e _ _ (λ_=>q) ?_;(try simp only[ii,eh,fU]);refine aW 11 ?_;intro KL g;go_simp;refine g _ _ wX ?_;refine dG aH ?_ _;show B _ _;apply f;have u:=FC c hM S T A;have r:=And.intro c.jd.2.2 (And.intro c.eT.2.2.2.1 (And.intro c.eT.2.2.2.2.1 c.eT.2.1));clear n q i d k e g f;go_wp21;rename_i QQ B f;refine cX (λj4=>bA j4 (X a 2)=M (aJ b)/\bA j4 (X j 3)=M (aw S)/\bA j4 (X j 4)=M (aw T)/\bA j4 (X j 1)=M (ay A)) 15 aH ?_;refine dH 0 ?_;(iterate 10 (refine fX r ?_;simp only[ii,eh,fU,ke]));apply eS;refine aW 10 ?_;intro KC e;go_simp;go_call u as P w⟨bx,bc,gn,R3,rfl,ad,ab,s⟩;have F:I aC D.drew w:=I.p s;have k:=c.bH F;have o:=And.intro k.jd.2.2 (And.intro k.eT.2.2.2.1 (And.intro k.eT.2.2.2.2.1 k.eT.2.1));have E:mF w (am ax (y m8) ac) m8:=F.bV ((cf aC D).bV (dQ p)<|λk c=>⟨id,(aS p k c).2⟩)<|λk c=>⟨id,(aS p k c).2⟩;have:bA w (X j 1)=M (ay A):=k.eT.2.1;refine e _ _ (λ_=>o) ?_;(try simp only[ii,eh,fU]);refine dH 11 ?_;(iterate 4 (refine fX o ?_;simp only[ii,eh,fU,ke]));apply eS;refine aW 15 ?_;intro KL g;go_simp;refine g _ _ wX ?_;refine dG aH ?_ _;show B _ _;apply f;have l:=ni (m:=([]:kW)) E (show mF w aF []from⟨z,J ⟨z,z⟩⟩) U ar;clear u r o e g f s F;go_wp21;go_call l as P W5⟨rfl,kq,v⟩;have x:=ak (k.bH (W':=W5)<|v▸gP _ _ _).Bi;clear l v;go_wp2;go_ret;exact⟨_,z,x⟩)
theorem Lk(h:jZ j5 j4 w0 W a db j3 b O C N n5)(d:n5<=1000000)(A B:Y)(S T:af)(x:Option Addr)(n e:R)(f:A<0->n=0):cR bN 37 #[aJ a,zc 4 A B S T<|am x n e] W λi g=>∃r,i=aN (aO r)/\jZ j5 j4 w0 g a db j3 b O C N n5:=by
 by_cases c:A<=0;exact Fo h d A B S T x n e c f;exact DL h d A B S T x n e c
end
section
variable{j5:Prop}{j4:cy af}{w0 W:Z}{a db j3 b:R}{O:cy (R×Obj)}{C N n5:R}
theorem RP(h:jZ j5 j4 w0 W a db j3 b O C N n5)(A Q:Y)(S aa:af)(an:Option Addr)(al ab:R)(L:S.size<=140737488351232):cR bN 37 #[aJ a,zc 8 A Q S aa<|am an al ab] W λx w'=>∃ao,x=aN (aO ao)/\jZ j5 j4 w0 w' a db j3 b O C N n5:=by
 let⟨o,s⟩:∃o,G (H W)=o:=⟨_,rfl⟩;have E:jZ j5 j4 w0 (dw W<|iO 8 A Q S aa<|am an al ab) a db j3 b ((o,iO 8 A Q S aa<|am an al ab)::O) C N n5:=h.sP (cI _ W) U<|aQ _ s.symm;have c:=E.bH<|cf aC _;have g:=YT c A S L;have m:=And.intro c.jd.2.1 (And.intro c.eT.2.1 c.eT.2.2.2.1);have:=h.QD.1;unfold zc;unfold iO at g m;clear h E c;go_in
 go_wp21;try rw[s]
 rename_i QQ v e;refine cX (λj4=>bA j4 (X a 1)=M (aJ j3)/\bA j4 (X o 1)=M (ay A)/\bA j4 (X o 3)=M (aw S)) 15 aH ?_;refine dH 0 ?_;iterate 8 (refine fX m ?_;simp only[ii,eh,fU,ke])
 apply eS;refine aW 8 ?_;intro T d;go_simp;go_call g as x w⟨P,sy,se,rfl,r,c⟩;have l:=c.bH<|cf aC w;have p:=ak<|r.bH<|cf aC w;clear r;have n:=And.intro c.jd.2.1 (And.intro c.eT.2.1 c.eT.2.2.2.1);refine d _ _ (λ_=>n) ?_;try simp only[ii,eh,fU]
 refine dH 9 ?_;iterate 6 (refine fX n ?_;simp only[ii,eh,fU,ke])
 apply eS;refine aW 15 ?_;intro V f;go_simp;refine f _ _ wX ?_;refine dG aH ?_ _;show v _ _;apply e;have t:=Yi l A S L;have i:=And.intro l.jd.2.2 (And.intro l.eT.2.1 (l.eT.2.2.2.1));clear m n g c d f e;go_wp21;rename_i QQ v e;refine cX (λj4=>bA j4 (X a 2)=M (aJ b)/\bA j4 (X o 1)=M (ay A)/\bA j4 (X o 3)=M (aw S)) 15 aH ?_;refine dH 0 ?_;iterate 8 (refine fX i ?_;simp only[ii,eh,fU,ke])
 apply eS;refine aW 8 ?_;intro T d;go_simp;go_call t as x W3⟨D,B,gn,rfl,ac⟩;subst W3;refine d _ _ (λ_=>i) ?_;try simp only[ii,eh,fU]
 refine dH 9 ?_;iterate 6 (refine fX i ?_;simp only[ii,eh,fU,ke])
 apply eS;refine aW 15 ?_;intro V f;go_simp;refine f _ _ wX ?_;refine dG aH ?_ _;show v _ _;apply e;let⟨tn,_,_,j⟩:=kM (ag p) l.nW;have u:=j _<|I.bI aC _;clear t i d f e j p;go_wp21;go_call u as x W4⟨rfl,q⟩;have k:=ak (l.bH<|I.p q).Bi;clear q u l;by_cases F:P=D;(.subst F;by_cases K:sy=B;(.subst K;go_wp21;go_call mJ tn _ as x W5⟨rfl,ad⟩;subst W5;go_wp2;go_ret;exact⟨_,z,k⟩);have:(sy==B)=bD:=dV K;go_wp2;go_ret;exact⟨_,z,k⟩);(.have:decide (P=D)=bD:=dV F;go_wp2;(all_goals go_ret;exact⟨_,z,k⟩))
theorem Ym(h:jZ j5 j4 w0 W a db j3 b O C N n5)(hM:n5<=1000000)(P Q:Y)(S aa:af)(an:Option Addr)(al ab:R)(K:S.size<=140737488351232):cR bN 37 #[aJ a,zc 2 P Q S aa<|am an al ab] W λx w'=>∃ao,x=aN (aO ao)/\jZ j5 j4 w0 w' a db j3 b O C N n5:=by
 let⟨u,r⟩:∃u,G (H W)=u:=⟨_,rfl⟩;have D:jZ j5 j4 w0 (dw W<|iO 2 P Q S aa<|am an al ab) a db j3 b ((u,iO 2 P Q S aa<|am an al ab)::O) C N n5:=h.sP (cI _ W) U<|aQ _ r.symm;have g:=D.bH<|cf aC _;have f:=Z0 g S K;have l:=And.intro g.jd.2.1 g.eT.2.2.2.1;have:=h.QD.1;unfold zc;unfold iO at f l;clear h D g;go_in
 go_wp21;try rw[r]
 rename_i QQ v d;refine cX (λj4=>bA j4 (X a 1)=M (aJ j3)/\bA j4 (X u 3)=M (aw S)) 13 aH ?_;refine dH 0 ?_;iterate 6 (refine fX l ?_;simp only[ii,eh,fU,ke])
 apply eS;refine aW 6 ?_;intro T c;go_simp;go_call f as x w⟨L,sy,se,rfl,q,g⟩;have n:=g.bH<|cf aC w;have o:=ak<|q.bH<|cf aC w;clear q;have m:=And.intro g.jd.2.1 g.eT.2.2.2.1;refine c _ _ (λ_=>m) ?_;try simp only[ii,eh,fU]
 refine dH 7 ?_;iterate 6 (refine fX m ?_;simp only[ii,eh,fU,ke])
 apply eS;refine aW 13 ?_;intro V e;go_simp;refine e _ _ wX ?_;refine dG aH ?_ _;show v _ _;apply d;have s:=V8 n hM S K;have i:=And.intro n.jd.2.2 n.eT.2.2.2.1;clear l m f g c e d;go_wp21;rename_i QQ v d;refine cX (λj4=>bA j4 (X a 2)=M (aJ b)/\bA j4 (X u 3)=M (aw S)) 13 aH ?_;refine dH 0 ?_;iterate 6 (refine fX i ?_;simp only[ii,eh,fU,ke])
 apply eS;refine aW 6 ?_;intro T c;go_simp;go_call s as x W3⟨B,A,gn,rfl,ac⟩;subst W3;refine c _ _ (λ_=>i) ?_;try simp only[ii,eh,fU]
 refine dH 7 ?_;iterate 6 (refine fX i ?_;simp only[ii,eh,fU,ke])
 apply eS;refine aW 13 ?_;intro V e;go_simp;refine e _ _ wX ?_;refine dG aH ?_ _;show v _ _;apply d;let⟨tn,_,_,j⟩:=kM (ag o) n.nW;have t:=j _<|I.bI aC _;clear s i c e d j o;go_wp21;go_call t as x W4⟨rfl,p⟩;have k:=ak (n.bH<|I.p p).Bi;clear p t n;by_cases E:L=B;(.subst E;by_cases F:sy=A;(.subst F;go_wp21;go_call mJ tn _ as x W5⟨rfl,ad⟩;subst W5;go_wp2;go_ret;exact⟨_,z,k⟩);have:(sy==A)=bD:=dV F;go_wp2;go_ret;exact⟨_,z,k⟩);(.have:decide (L=B)=bD:=dV E;go_wp2;(all_goals go_ret;exact⟨_,z,k⟩))
end
structure Fy(K:DK)(L n5:R):Prop where
 dq:∀p∈vw K.ah,Nm p.1/\((p.1=fm\/p.1=kF)->y p.2<=L)
 l:y K.ah<=n5
def vD{f p:af×eD}(h:p∈pt N f):p=f\/p∈N:=by
 induction N with
 |nil=>left;simpa[pt]using h
 |cons g r a=>
  by_cases e:g.1=f.1
  .simp only[pt,fW e,dy]at h|-;grind
  .simp only[pt,fN e,dy]at h|-;grind
def CI{p:af×eD}(h:p∈sk N B):p∈N:=by
 unfold sk at h;induction N with
 |nil=>exact h
 |cons g r a=>grind[sk]
def Pz(a:Fs)(f:af×eD):y (pt a f)<=y a+1:=by
 induction a with
 |nil=>simp[pt]
 |cons g r b=>
  by_cases e:g.1=f.1
  .simp[pt,fW e]
  .simp[pt,fN e];omega
def CW(a:Fs)(n:af):y (sk a n)<=y a:=by
 have:=(Ia a n).length_le;simpa using this
def yG{a:cy dj}{F:dj}(h:ij a B=M F):(B,F.bB)∈vw a:=Ac (by rw[nI,h];rfl)
def E0{s:qG}(h:Qs s f x)(v:∀n,s=.cr n->Nm n)(w:∀t l,s=.rn t l->t=kF/\l=fm)(m:Fy f b c):Fy x (b+Do s) (c+Mq s):=by
 have e:∀p∈vw f.ah,Nm p.1/\((p.1=fm\/p.1=kF)->y p.2<=b+Do s):=λp d=>⟨(m.dq p d).1,λq=>bP<|(m.dq p d).2 q⟩;have C:=m.l;obtain n|⟨n,o⟩|n|⟨t,l⟩|n|_:=s;let⟨B,l,a,j,k,u⟩:=h;refine⟨λp d=>?_,by rw[a];simp[Mq];omega⟩;rw[a,show vw (f.ah++[(⟨n,B,aF,[],0⟩:dj)])=vw f.ah++[(n,[])]by simp[vw]]at d;obtain q|q:=aP.1 d;exact e p q;rw[bY.1 q];exact⟨v n z,λ_=>bQ _⟩;let⟨F,t,i,a,j,k⟩:=h;have hF:=yG i;have g:=(eM i).1;refine⟨λp d=>?_,?_⟩;rw[a,ql]at d;obtain q|q:=vD d;rw[q];have:=m.dq _ hF;refine⟨by show Nm F.dA;rw[g];exact this.1,λm9=>?_⟩;have u:n=fm\/n=kF:=g▸m9;have B:y F.bB<=b:=this.2 u;show y (F.bB++o)<=b+Do (.ap n o);rw[ai,Do,fW u];omega;exact e p q;rw[a,xF (j5:={F with A:=t,bB:=F.bB++o}) i g];omega;let⟨F,i,a,j,k⟩:=h;have hF:=yG i;have g:=(eM i).1;refine⟨λp d=>?_,?_⟩;rw[a,ql]at d;obtain q|q:=vD d;rw[q];exact e (F.dA,F.bB)<|g▸hF;exact e p q;rw[a,xF (j5:={F with D:=y F.bB}) i g];omega;let⟨F,m9,i,a,j,k⟩:=h;obtain⟨rfl,rfl⟩:=w t l rfl;have hF:=yG i;refine⟨λp d=>?_,?_⟩;rw[a,ql,vq]at d;obtain q|q:=vD d;rw[q];exact⟨tQ,λ_=>by have:y F.bB<=b:=(m.dq _ hF).2<|bu z;show y F.bB<=_;omega⟩;exact e p<|CI q;have:=Pz (sk (vw f.ah) kF) (fm,F.bB);have r:=CW (vw f.ah) kF;rw[<-rS x.ah,a,ql,vq];rw[rS]at r;show y (pt (sk (vw f.ah) kF) (fm,F.bB))<=c+1;omega;let⟨F,m9,i,a,j,k⟩:=h;refine⟨λp d=>?_,?_⟩;rw[a,vq]at d;exact e p<|CI d;have r:=CW (vw f.ah) n;rw[<-rS x.ah,a,vq];rw[rS]at r;omega;let⟨a,j,k⟩:=h;exact⟨a▸e,by rw[a];omega⟩
def I3{l:cy qG}:∀{K b:DK}{L e:R},mu l K b->(∀n,.cr n∈l->Nm n)->(∀x a,.rn x a∈l->x=kF/\a=fm)->Fy K L e->Fy b (L+(l.map Do).sum) (e+(l.map Mq).sum):=by
 induction l with
 |nil=>
  intro K b L e h _ _ d;let⟨c,_,f⟩:=h;exact⟨by rw[c];simpa using d.dq,c▸d.l⟩
 |cons o l j=>
  intro K b L e h f g d;let⟨k,c,i⟩:=h;have:=j i (λn q=>f n<|by simp[q]) (λx a q=>g x a<|by simp[q])<|E0 c (λn q=>f n<|by simp[q]) (λx a q=>g x a<|by simp[q]) d;rw[bO,ft,bO,ft];exact⟨λp a=>⟨(this.dq p a).1,λq=>by have:=(this.dq p a).2 q;omega⟩,by have:=this.l;omega⟩
structure DkC(K:DK)(c:eN)(A L n5:R):Prop where
 dq:∀p∈vw K.ah,Nm p.1/\(p.1=fm->y p.2<=max L A)/\(p.1=kF->y p.2<=if c then A else L)
 l:y K.ah<=n5
def D9{u:qG}(h:Qs u f x)(P:∀n,u=.cr n->Nm n)(Q:∀C o,u=.rn C o->C=kF/\o=fm)(O:Z5 V u)(i:DkC f V b c k):DkC x (R8 V u) (b+Do u) c (k+Mq u):=by
 have S:=i.l;obtain n|⟨n,r⟩|n|⟨C,o⟩|n|_:=u;let⟨N,o,a,j,l,K⟩:=h;refine⟨λp e=>?_,by rw[a];simp[Mq];omega⟩;rw[a,show vw (f.ah++[(⟨n,N,aF,[],0⟩:dj)])=vw f.ah++[(n,[])]by simp[vw]]at e;obtain q|q:=aP.1 e;let⟨s,t,m⟩:=i.dq p q;refine⟨s,λm9=>by have:=t m9;simp only[Do];omega,λm9=>?_⟩;(have B:n≠kF:=λL=>by let⟨T,E⟩:=rB<|cC.2 ⟨p,q,rfl⟩;rw[m9,<-L,nI,K]at E;cases E);have:=m m9;simpa[R8,B,Do]using this;rw[bY.1 q];exact⟨P n z,λ_=>bQ _,λ_=>bQ _⟩;let⟨F,C,g,a,j,l⟩:=h;let⟨E,K⟩:=O;have hF:=yG g;have d:=(eM g).1;refine⟨λp e=>?_,?_⟩;rw[a,ql]at e;obtain q|q:=vD e;rw[q];let⟨s,t,m⟩:=i.dq _ hF;refine⟨by show Nm F.dA;rwa[d],λm9=>absurd (d.symm.trans m9) E,λm9=>?_⟩;have B:n=kF:=d.symm.trans m9;have w:=m B;have N:=K B;subst N;show y (F.bB++r)<=b+Do (.ap n r);rw[ai,Do,fW<|bu B];have T:y F.bB<=b:=dV w;omega;let⟨s,t,m⟩:=i.dq p q;refine⟨s,λm9=>bP<|t m9,λm9=>?_⟩;have:=m m9;show y p.2<=if V then b+Do (.ap n r)else c;cases V<;>simp at this|-<;>omega;rw[a,xF (j5:={F with A:=C,bB:=F.bB++r}) g d];omega;let⟨F,g,a,j,l⟩:=h;have hF:=yG g;have d:=(eM g).1;refine⟨λp e=>?_,?_⟩;rw[a,ql]at e;obtain q|q:=vD e;rw[q];exact i.dq (F.dA,F.bB)<|d▸hF;exact i.dq p q;rw[a,xF (j5:={F with D:=y F.bB}) g d];omega;let⟨F,m9,g,a,j,l⟩:=h;obtain⟨rfl,rfl⟩:=Q C o rfl;have hF:=yG g;refine⟨λp e=>?_,?_⟩;rw[a,ql,vq]at e;obtain q|q:=vD e;rw[q];have w:y F.bB<=if V then b else c:=(i.dq _ hF).2.2 z;refine⟨tQ,λ_=>?_,λL=>absurd (show fm=kF from L) cg⟩;show y F.bB<=max c (b+0);cases V<;>simp at w|-<;>omega;exact i.dq p<|CI q;have:=Pz (sk (vw f.ah) kF) (fm,F.bB);have v:=CW (vw f.ah) kF;rw[<-rS x.ah,a,ql,vq];rw[rS]at v;show y (pt (sk (vw f.ah) kF) (fm,F.bB))<=k+1;omega;let⟨F,m9,g,a,j,l⟩:=h;refine⟨λp e=>?_,?_⟩;rw[a,vq]at e;exact i.dq p<|CI e;have v:=CW (vw f.ah) n;rw[<-rS x.ah,a,vq];rw[rS]at v;omega;let⟨a,j,l⟩:=h;exact⟨a▸i.dq,by rw[a];omega⟩
def I1{l:cy qG}:∀{K b:DK}{f:eN}{A L n5:R},mu l K b->(∀n,.cr n∈l->Nm n)->(∀x a,.rn x a∈l->x=kF/\a=fm)->Dr f l->DkC K f A L n5->∃e,DkC b e (A+(l.map Do).sum) L (n5+(l.map Mq).sum):=by
 induction l with
 |nil=>
  intro K b f A L n5 h _ _ _ d;let⟨c,_,g⟩:=h;exact⟨f,by rw[c];simpa using d.dq,c▸d.l⟩
 |cons r l o=>
  intro K b f A L n5 h j k i d;let⟨p,c,m⟩:=h;let⟨e,g⟩:=o m (λn q=>j n<|by simp[q]) (λx a q=>k x a<|by simp[q]) i.2<|D9 c (λn q=>j n<|by simp[q]) (λx a q=>k x a<|by simp[q]) i.1 d;rw[bO,ft,bO,ft,<-bJ,<-bJ];exact⟨e,g⟩
def Fy.lN{l:cy qG}(e:Fy f b c)(h:mu l f x)(d:MS l k):Fy x (max b k) (c+4000000000):=by
 let⟨m,g⟩:=I1 h d.nm d.rn d.f (A:=0) (L:=b) (n5:=c) ⟨λp a=>⟨(e.dq p a).1,λi=>bP<|(e.dq p a).2<|J i,λi=>dV<|(e.dq p a).2<|bu i⟩,e.l⟩;have n:=d.ap;have o:=d.L;refine⟨λp a=>⟨(g.dq p a).1,λq=>?_⟩,bP g.l⟩;let⟨_,i,j⟩:=g.dq p a;obtain q|q:=q;have:=i q;omega;have:=j q;cases m<;>simp at this<;>omega
def Fy.aT{K:DK}{a:R}(h:Fy K c k)(e:c<=n)(g:k<=a):Fy K n a:=⟨λp d=>⟨(h.dq p d).1,λq=>bP<|(h.dq p d).2 q⟩,bP h.l⟩
def Fy.A(h:Fy f c k):Xk (vw f.ah):=λn b a=>(h.dq _<|Ac a).1
def Fy.dL{K:DK}(h:Fy K c k):∀bs,fp (vw K.ah) fm=M bs->y bs<=c:=λbs a=>(h.dq _<|Ac a).2<|J rfl
def WX{K:DK}(e:af)(al:Addr)(x:R)(f:eD)(h0:cJ a b K)(hx:ij K.ah e=dE->qu K.fx)(ba:qu K.fx\/fw K.ah+y f<=1000000000)(bl:y f<=1099511627776)(aD:kj f)(ao:∀w,I (λV=>V=b) a w->∀bk aa,(f.map<|Value.int .u8)[bk]?=M aa->bA w (al.add bk)=M aa)(m:Nm e):cR bN 25 #[aJ b,aw e,am (M al) (y f) x] a λW w'=>wU a w' b K [.ap e f] W:=by
 obtain⟨i0,hi,bc,bd,bf⟩:=cZ pN;have hf:=tA e h0 m;have:=h0.v;go_in
 go_wp2_with fail
 apply hf.mono;rintro W w⟨n,vT,bb,⟨F,s,rfl⟩|⟨h1,q,rfl,hq⟩|⟨hb,q,rfl,hq⟩⟩;rotate_left;(.obtain⟨o,HQ,HB⟩:=eU vT hq<|hx h1;go_wp2;go_ret;exact⟨_,_,z,vU.A o ⟨z,z,z⟩ (ag HQ)<|bu ⟨bu<|J z,ag HB⟩⟩);(.obtain⟨o,HQ,HB⟩:=eU vT hq hb;go_wp2;go_ret;exact⟨_,_,z,vU.A o ⟨z,z,z⟩ (ag HQ)<|J ⟨z,ag HB⟩⟩);obtain⟨m,L,bi⟩:=eM s;subst m;have h:=vT.ok;have av:n.d=K.fx.d:=vT.fx.d;have:fw K.ah<=4611686018427387904:=h.d;have:=sW s;have:=aX h.S 0;obtain⟨o,v,HB⟩:=eU (λ(wr:Z)(l:I aC w wr)=>h.aA l<|λ_ _=>id) h.l<|λ(wr:Z)(l:I aC w wr)bk aa(a:(f.map<|Value.int .u8)[bk]?=M aa)=>ao wr (bb.t l) bk aa a;have:=ak s
 go_wp2_with(first
  |(at_range;refine oK _ z _ 86 z 9 90 underlying86 K.nb _ z v ?_;intro a E ax bp;have ad:=ak E;have u:=ak ax))
 go_frame
 go_loopw [9] (λaa wr=>∃(bg:cy dj)(c:R),(∀n∈bg,n∈K.ah)/\aa=ay c/\c+fw bg=fw K.ah/\qg wr K.nb (G<|H w) (K.ah.map dj.nm) (bg.map dj.nm)/\I aC w wr) (λ_ wr=>wr.rangeLeft K.nb<|G<|H w)
 case atStart=>exact⟨K.ah,0,λ_ h=>h,rfl,ar,ad,I.eF u ar⟩
 case round=>
  obtain⟨bg,c,hL,rfl,P,D,l⟩:=hrel;go_wp2_with(first
   |(at_next;refine ot _ z _ z K.nb (G (H w)) _ _ z D ?_ ?_))
  .intro aU;obtain rfl:bg=[]:=dV aU;have:c=fw K.ah:=by simpa[fw]using P
   have C:=o wr l;have hF:=C.ah F L;have ap:=aX C.S 3;have B:=aX hF.1 0;simp only at ap;have:IntKind.i64.wrap (n.d-(c:Y))=n.d-c:=by rw[bR];omega
   by_cases bo:(fw K.ah:Y)+y f<=n.d
   .have aV:cN F.A≠M F.l:=ue hF.2.1 hF.1 cg;have g:∀j k,fE k 0 5 1 j (y F.bB+y f) (F.bB.map (Value.int .u8)++f.map (Value.int .u8))->fo wr k F.A j->bA k (X F.l 0)=M F.A/\iI k (X F.l 0)=bD/\∃a,pT w (cP k (X F.l 0) j) b {K with fx:=n} a/\Qs (.ap F.dA f) {K with fx:=n} a:=by
     intro j k O r;have d:k.heap[F.l]?=M (aK #[F.A,ay F.D] 93 (0,0)):=(r.dF.block F.l (az hF.1)<|λW=>aV W.symm).trans hF.1;have N:cN j≠M F.l:=ue O d cg;refine⟨by rw[cE d];rfl,cV d,_,(o w<|I.bI _ _).t (F:=F) (F':={F with A:=j,bB:=F.bB++f}) s rfl ?_ ⟨?_,?_,hF.2.2.1.jO aD,hF.2.2.2.1,by have:=hF.2.2.2.2.1;simp;omega,by simp;omega⟩ ?_ ?_,F,j,s,z,z,z⟩
     .exact((l.aT (T:=λV=>V=F.l\/cN F.A=M V) cY).aj (I.eF (S:=λV=>cN F.A=M V) r.dF<|λV W=>J W) aI).aL F.l 0 j<|J<|J z
     .show(cP k (X F.l 0) j).heap[F.l]?=_;rw[aY d];rfl
     .exact fA.of (qI O (eG k F.l 0 j)<|bu N) ar ar
     .intro V W;obtain e'|⟨an,e',bn⟩:=r.f
      .grind
      .have:an=V:=by
        have e2:cN j=M V:=W;rw[e']at e2;simpa using e2
       exact bu<|bP l.D
     grind[uG,length_append]
    have t:=ak g;have HO:=ak hF.2.1;obtain⟨br,bq,p⟩:=fA.fS hF.2.1;have bh:¬((n.d-c:Y)<y f):=U;generalize F.A=fd at*;subst p;have ab:=ak<|HB wr l;go_wp2_with(first
     |(at_builtin;go_loud(refine cq _ z (.tmp 54) (.tmp 55) 31 z 0 5 i0 (.int .u8 0) 1 1 underlying31 hi bc bd bf z cg _ (y F.bB) (F.bB.map (Value.int .u8)) z HO al (y f) x (f.map (Value.int .u8)) z ar ab (by intro aa hu;simp only[cC]at hu;obtain⟨g9,_,rfl⟩:=hu;rfl) U U (bQ _) ?_;intro v2 k i Q;obtain⟨bm,av,g⟩:=t v2 k i Q;obtain⟨x2,c2,rfl⟩:=aM i;have ac:=ak g)))
    go_ret;obtain⟨K2,h2,h3⟩:=ag ac;exact⟨_,K2,z,vT.aj h2,J ⟨z,mu.ph ⟨z,z,z⟩<|mu.pK h3⟩⟩
   .have:(n.d-c:Y)<y f:=U;go_wp2;go_ret;exact⟨_,_,z,vU.A (vT.bH<|l.aE _) ⟨z,z,z⟩ (rE.lY _ _ m)<|bu ⟨J z,ag<|ak<|show qu K.fx from ba.elim id<|λq=>bu U⟩⟩
  .intro aU pk pv C N r g k ap ac;obtain⟨O,n,Q,rfl,rfl,t,rfl⟩:=zO r;simp only[dj.nm,lq,jt]at t;obtain⟨rfl,rfl⟩:=t;have i:I aC w N:=l.aj (gI k) aI;have hF:=(o N i).ah n (hL n ar:n∈K.ah);have B:=aX hF.1 0;let⟨br,bq,p⟩:=fA.fS hF.2.1;rw[p]at B;have:fw (O++n::Q)=fw (O++Q)+y n.bB:=by simp[fw];omega
   let⟨ab,d,j⟩:=eU (show(λan=>an∈K.ah)=(λan=>an∈K.ah)from rfl) g i;go_wp2;go_roundw
   .exact⟨O++Q,c+y n.bB,λan s=>hL an aI,dM,U,dV<|ag d,j⟩
   .rw[(ag d).oO,D.oO];simp
def append_nil{K:DK}(d:af)(V:cJ a b K)(hx:ij K.ah d=dE->qu K.fx)(Q:qu K.fx)(e:Nm d):cR bN 25 #[aJ b,aw d,aF] a λac w'=>wU a w' b K [.ap d []] ac:=by
 obtain⟨i0,hi,aD,aU,aV⟩:=cZ pN;have:=V.v;go_in
 go_wp2_with fail
 apply(tA d V e).mono;rintro ac x⟨f,vT,ax,⟨F,i,rfl⟩|⟨h1,q,rfl,N⟩|⟨hb,q,rfl,N⟩⟩;rotate_left;(.obtain⟨g,C,HB⟩:=eU vT N<|hx h1;go_wp2;go_ret;exact⟨_,_,z,vU.A g ⟨z,z,z⟩ (ag C)<|bu ⟨bu<|J z,ag HB⟩⟩);(.obtain⟨g,C,HB⟩:=eU vT N hb;go_wp2;go_ret;exact⟨_,_,z,vU.A g ⟨z,z,z⟩ (ag C)<|J ⟨z,ag HB⟩⟩);obtain⟨e,u,ab⟩:=eM i;subst e;have h:=vT.ok;have:f.d=K.fx.d:=vT.fx.d;have:fw K.ah<=4611686018427387904:=h.d;have:=sW i;have:=aX h.S 0;obtain⟨g,o⟩:=And.intro (ak<|λ(wr:Z)(k:I aC x wr)=>h.aA k<|λ_ _=>id) (ak h.l);have:=ak i
 go_wp2_with(first
  |(at_range;apply oK _ z _ 86 z 9 90 underlying86 K.nb _ z o;intro a t E ap;have B:=ak t;have n:=ak E))
 go_frame
 go_loopw [9] (λu wr=>∃(S:cy dj)(c:R),(∀f∈S,f∈K.ah)/\u=ay c/\c+fw S=fw K.ah/\qg wr K.nb (G<|H x) (K.ah.map dj.nm) (S.map dj.nm)/\I aC x wr) (λ_ wr=>wr.rangeLeft K.nb<|G<|H x)
 case atStart=>exact⟨K.ah,0,λ_ h=>h,rfl,ar,B,I.eF n ar⟩
 case round=>
  obtain⟨S,c,W,rfl,v,s,k⟩:=hrel;go_wp2_with(first
   |(at_next;refine ot _ z _ z K.nb (G (H x)) _ _ z s ?_ ?_))
  .intro D;obtain rfl:S=[]:=dV D;have:c=fw K.ah:=by simpa[fw]using v
   have m:=g wr k;have hF:=m.ah F u;have w:=aX m.S 3;have p:=aX hF.1 0;simp only at w;have:IntKind.i64.wrap (f.d-(c:Y))=f.d-c:=by rw[bR];omega
   by_cases ad:(fw K.ah:Y)<=f.d
   .have L:cN F.A≠M F.l:=ue hF.2.1 hF.1 cg;have r:∃a,pT x (cP wr (X F.l 0) F.A) b {K with fx:=f} a/\Qs (.ap F.dA []) {K with fx:=f} a:=by
     refine⟨_,(g x<|I.bI _ _).t (F:=F) (F':={F with A:=F.A,bB:=F.bB++[]}) i rfl ?_ ⟨?_,?_,dV hF.2.2.1,hF.2.2.2.1,dV hF.2.2.2.2.1,dV hF.2.2.2.2.2⟩ (λal ac=>J ac) ?_,F,F.A,i,rfl,rfl,rfl⟩
     .exact(k.aT (T:=λal=>al=F.l\/cN F.A=M al) cY).aL F.l 0 F.A<|J<|J z
     .show(cP wr (X F.l 0) F.A).heap[F.l]?=_;rw[aY hF.1];rfl
     .rw[eu];exact fA.of (qI hF.2.1 (eG wr F.l 0 F.A)<|bu L) ar ar
     .apply aR<|uG K.ah {F with A:=F.A,bB:=F.bB++[]};have O:=sW i;show fw (mK K.ah F.dA)+y (F.bB++[])<=_;rw[eu];omega
    have HO:=ak hF.2.1;obtain⟨bc,bb,j⟩:=fA.fS hF.2.1;have aa:¬((f.d-c:Y)<0):=U;have:iI wr (X F.l 0)=bD:=cV hF.1;generalize F.A=fd at*;subst j;go_wp2_with(at_builtin;apply Lib.wpList_append_run _ z _ _ _ _ z _ _ z z _ _<|(λa=>zf (P:=bN) wr 0 31 a 5 i0 1 underlying31 hi _ _ _<|ag HO) _)
    go_ret;obtain⟨K2,h2,O⟩:=r;exact⟨_,K2,z,vT.aj h2,J ⟨z,mu.ph ⟨z,z,z⟩<|mu.pK O⟩⟩
   .have:(f.d-c:Y)<0:=U;go_wp2;go_ret;exact⟨_,_,z,vU.A (vT.bH<|k.aE _) ⟨z,z,z⟩ (rE.lY _ _ e)<|bu ⟨J z,Q⟩⟩
  .intro ba pk pv aa w1 O r L av ao;obtain⟨ad,f,al,rfl,rfl,hp,rfl⟩:=zO O;simp only[dj.nm,lq,jt]at hp;obtain⟨rfl,rfl⟩:=hp;have w:I aC x w1:=k.aj (gI L) aI;have hF:=(g w1 w).ah f (W f ar:f∈K.ah);have p:=aX hF.1 0;let⟨bc,bb,j⟩:=fA.fS hF.2.1;rw[j]at p;have:fw (ad++f::al)=fw (ad++al)+y f.bB:=by simp[fw];omega
   let⟨an,m,D⟩:=eU (show(λa=>a∈K.ah)=(λa=>a∈K.ah)from rfl) r w;go_wp2;go_roundw
   .exact⟨ad++al,c+y f.bB,λa i=>W a aI,dM,U,dV<|ag m,D⟩
   .rw[(ag m).oO,s.oO];simp
def ZK(g:af)(F:dj)(j:R)(h:cJ a b f)(w:ij f.ah g=M F)(hr:y F.bB<=1099511627776)(O:0<y F.bB)(hb:j<18446744073709551616):cR bN 26 #[aJ b,aw g,bw j] a λL w'=>(∃ac,L=aN ac)/\∃r m,y r=y F.bB/\pT a w' b f m/\m.ah=po f.ah {F with bB:=r}/\m.l=f.l:=by
 let⟨o,l,k⟩:=eM w;have hF:=h.ah F l;let⟨P,Q,p,T,g2,V⟩:=vy hF.2.1 O;let⟨v,C⟩:∃v,y F.bB=v:=⟨_,rfl⟩;let⟨u,A⟩:∃u,j% (8*v)=u:=⟨_,rfl⟩;have B:u<8*v:=A▸ol _ U;let⟨i,N⟩:∃i,u/8=i:=⟨_,rfl⟩;have n:i<y F.bB:=U;let⟨K,D⟩:∃K,u%8=K:=⟨_,rfl⟩;have t:=h.l;have c0:=aX h.S 0;have S:=aX hF.1 0;rw[p,C]at S;have c:=hF.2.1;rw[p]at c;have hx:bA a (X P i)=M (sC F.bB[i]):=by rw[World.ownsRow.cellAt c i U];simp[n]
 have W:iI a (X P i)=bD:=World.ownsRow.frozenAt c i;have aa:=hF.2.2.1 F.bB[i]<|aB n;let⟨i0,x,E,_,_⟩:=cZ ru;have s:=rh underlying86 underlying9 x E t g;rw[k]at s;simp only[lf,lq]at s
 have q:=ak (show∀e,(0<=e/\e<256)->∃r m,y r=y F.bB/\pT a (cP a (X P i)<|sC e) b f m/\m.ah=po f.ah {F with bB:=r}/\m.l=f.l fromλe hy=>by
  have d:y (F.bB.set i e)=y F.bB:=gA;refine⟨F.bB.set i e,_,d,h.t (F:=F) (F':={F with bB:=F.bB.set i e}) (by rw[show({F with bB:=F.bB.set i e}:dj).dA=F.dA from rfl,o];exact w) z ((I.bI _ a).aL P i _<|J<|bu (by rw[p];rfl)) ⟨?_,?_,?_,hF.2.2.2.1,by show F.D<=_;rw[d];exact hF.2.2.2.2.1,by show y (F.bB.set i e)<=_;rw[d];exact hF.2.2.2.2.2⟩ (λu L=>J L) ?_,z,z⟩
  .exact(kV _<|λL=>ue hF.2.1 hF.1 cg<|p▸cD M L.symm).trans hF.1
  .have:=tF c i<|sC e;unfold fA;rw[p,gA,uw];exact this.1
  .intro m9 hz;obtain ab|rfl:=jM hz
   .exact hF.2.2.1 m9 ab
   .exact hy
  .apply aR (uG f.ah {F with bB:=F.bB.set i e});have:=h.d;have:=sW w;show fw (mK f.ah F.dA)+y (F.bB.set i e)<=_;rw[d,o];omega)
 clear t hF c k o l w h p T V;generalize F.bB[i]=ad at*;rw[C]at hr O n;clear C;have:IntKind.u64.wrap (8*(v:Y))=((8*v:R):Y):=by rw[dY];omega
 have:IntKind.i64.wrap (8*(v:Y))=((8*v:R):Y):=by rw[bR];omega
 have:(j:Y) % (8*(v:Y))=(u:Y):=by rw[<-A];simp
 have:(u:Y).tdiv 8=(i:Y):=by rw[<-N];simp
 have:IntKind.u64.wrap (i:Y)=(i:Y):=by rw[dY];omega
 have er:(u:Y).tmod 8=(K:Y):=by rw[vf U];exact(U:(u:Y) %8=(K:Y))
 have:K<8:=U;have:(i:Y)<(v:Y):=U;have:(0:Y)<=(i:Y):=U;clear A N D B;go_in
 go_wp2;go_end0;refine⟨⟨_,z⟩,q _ ?_⟩;have:=bounds_u8<|wf_bits .xor .u8 ad<|2^K%256;omega
def M4(c:af)(l:R)(h:cJ a b f)(m:∀F,ij f.ah c=M F->F.bB=[]):cR bN 26 #[aJ b,aw c,bw l] a λs r=>(∃v,s=aN v)/\r=a:=by
 have j:=h.l;have:=aX h.S 0;let⟨t,n,p,_,_⟩:=cZ ru;have d:=rh underlying86 underlying9 n p j c;cases hF:ij f.ah c with
 |none=>
  rw[AR hF]at d;simp only[sR]at d;clear j h m hF;go_in
  go_wp2;go_end0;exact⟨⟨_,z⟩,z⟩
 |some F=>
  let⟨o,g,e⟩:=eM hF;have i:=h.ah F g;have q:=aX i.1 0;let⟨x,u,k⟩:=fA.fS i.2.1;rw[k,(m F hF)]at q;rw[e]at d;simp only[lf,lq]at d;clear j h m hF i e o g k;go_in
  go_wp2;go_end0;exact⟨⟨_,z⟩,z⟩
structure Dp(w W:Z)(db:R)(K K':DK)(B n:R):Prop where
 D:pT w W db K K'
 t:∀L n5,Fy K L n5->Fy K' (L+B) (n5+n)
 l:y K'.l<=y K.l+n
def Dp.aj{w W V:Z}{db:R}{K d a:DK}{e:R}(h:Dp w W db K d c k)(g:Dp W V db d a n e):Dp w V db K a (c+n) (k+e):=⟨h.D.aj g.D,λL i q=>by have:=g.t _ _<|h.t L i q;rwa[bJ,bJ]at this,gW h.l g.l⟩
def Dp.aT{w W:Z}{db:R}{K a:DK}{d:R}(h:Dp w W db K a c k)(g:c<=n)(j:k<=d):Dp w W db K a n d:=⟨h.D,λL e q=>(h.t L e q).aT U U,bP h.l⟩
def Dp.bI{w:Z}{db:R}{K:DK}(h:cJ w db K):Dp w w db K K 0 0:=⟨pT.bI h,λ_ _ q=>q,aq _⟩
def Dp.bH(h:Dp a e b f x c k)(d:I aC e P):Dp a P b f x c k:=⟨h.D.bH d,h.t,h.l⟩
def Dp.A{w W:Z}{db:R}{K a:DK}(h:Dp w W db K a c k)(e:n<G (H w))(d:¬K.j db n):W.heap[n]?=w.heap[n]?:=h.D.aA.A n e d
def Dp.p(h:Dp a e b f x c k)(g:n<G (H a))(d:¬f.j b n):n<G (H e)/\¬x.j b n:=⟨au g h.D.aA.D,λi=>(h.D.j n i).elim d<|λq=>U⟩
def FD{o:qG}(h:vU a e b f x [o] d)(t:∀r,o=.cr r->Nm r)(u:∀n k,o≠ .rn n k):Dp a e b f x (Do o) 1:=by
 have j:∀l,l<+:[o]->mu l f x->Dp a e b f x (Do o) 1:=λl p g=>by have m:∀n,n∈l->n=o:=λn i=>bY.1<|p.subset i;have c:=p.length_le;(have s:(l.map Do).sum<=Do o:=by obtain _|⟨v,_|⟨A,B⟩⟩:=l;simp;rw[m v ar];simp;simp at c);refine⟨h.D,λL w q=>?_,by have:=AL g;simp at c;omega⟩;have:=I3 g (λr i=>t r (m _ i).symm) (λn k i=>absurd (m _ i).symm<|u n k) q;exact this.aT U (by have:=Mn l;simp at c;omega)
 obtain⟨_,g⟩|⟨l,_,_,i,g,_⟩:=h.d;exact j _ (sS _) g;exact j l i g
def ZL(c:af)(d:R)(h:cJ a b f)(l:d<18446744073709551616):cR bN 26 #[aJ b,aw c,bw d] a λj o=>(∃B,j=aN B)/\∃i,Dp a o b f i 0 0:=by
 by_cases q:∃F,ij f.ah c=M F/\F.bB≠[];(.let⟨F,e,m⟩:=q;have g:=(eM e).2.1;go_call ZK c F d h e (h.dL g) (ja.2 m) l as j o⟨n,p,i,v,u,s,w⟩;refine⟨n,i,u,λL x k=>⟨λA t=>?_,?_⟩,w▸aq _⟩;rw[s,ql]at t;obtain j|j:=vD t;rw[j];have r:=k.dq (F.dA,F.bB)<|(eM e).1▸yG e;exact⟨r.1,λm9=>by show y p<=L;rw[v];exact r.2 m9⟩;exact k.dq A j;rw[s,xF (j5:={F with bB:=p}) e (eM e).1];exact k.l)
 .refine(M4 c d h (λF hF=>by
   cases l:F.bB with
   |nil=>rfl
   |cons x r=>exact absurd ⟨F,hF,by rw[l];simp⟩ q)).mono ?_
  rintro j o⟨n,rfl⟩;exact⟨n,f,Dp.bI h⟩
structure ByS(w:Z)(db:R)(K:DK)(v:ae)(bs:eD):Prop where
 S:∃x c,v=am x (y bs) c
 L:kj bs
 dL:y bs<=1048576
 f:∀x c,v=am (M x) (y bs) c->bs≠[]->(∀j u,(bs.map<|Value.int .u8)[j]?=M u->bA w (x.add j)=M u)/\∃b off,x=X b off/\b<G (H w)/\¬K.j db b
 l:v=am dE (y bs) 0\/∃x c,v=am (M x) (y bs) c
 o:v=am dE (y bs) 0->bs=[]
def ByS.aA{w W:Z}{db:R}{K e:DK}{bs:eD}{S:fC}(h:ByS w db K d bs)(m:I S w W)(o:∀k,S k->K.j db k\/G (H w)<=k)(p:∀k,e.j db k->K.j db k\/G (H w)<=k):ByS W db e d bs:=by
 refine{h with f:=λx s t c=>?_};obtain⟨n,b,a,rfl,g,j⟩:=h.f x s t c;refine⟨λu v r=>?_,b,a,z,au g m.D,λq=>(p b q).elim j<|λm9=>U⟩;have:=n u v r;rw[dS]at this|-;exact m.u this (λq=>(o b q).elim j<|λm9=>U) g
def Tn(c:af)(h:cJ a b f)(k:qu f.fx)(e:ByS a b f d m)(j:Nm c):cR bN 25 #[aJ b,aw c,d] a λl r=>∃u g,l=aN u/\Dp a r b f g (y m) 1:=by
 obtain l|⟨x,B,l⟩:=e.l;(.have i:=e.o l;subst i;subst l;go_call append_nil c h (λ_=>k) k j as l r⟨u,g,rfl,o⟩;exact⟨u,g,z,(FD o (λE q=>by cases q)<|λx s q=>by cases q).aT (by simp[Do])<|aq _⟩);subst l;refine(WX c x B m h (λ_=>k) (J k) (bP e.dL) e.L (λW A D u n=>?_) j).mono ?_;by_cases i:m=[];rw[i]at n;simp at n;obtain⟨t,C,p,rfl,v,w⟩:=e.f x B rfl i;have:=t D u n;rw[dS]at this|-;exact A.u this (λq=>w (by rw[show C=b from q];exact J z)) v;rintro l r⟨u,g,rfl,o⟩;refine⟨u,g,z,(FD o (λE q=>by cases q)<|λx s q=>by cases q).aT ?_<|aq _⟩;have:=e.dL;simp only[Do];split<;>omega
