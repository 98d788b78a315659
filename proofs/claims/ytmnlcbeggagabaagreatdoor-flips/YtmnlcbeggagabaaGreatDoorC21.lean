import Derived.Test.YtmnlcbeggagabaaGreatDoorC19
open _root_ renaming List.length→y,Option.some→H,Array.size→z,Go.World.heap→G,Go.Value.ownBlock→cz,Go.World.cell?→aS,Go.World.setCell→cA,Go.World.alloc→cG,Bool.false→bj,Bool.true→cq,Nat→M,Int→U,List→cS,Go.Calls→cD,Go.undef→iA,Go.Proofs.Tryz.prog→aZ,Go.Value.slice→J,Go.Value.string→am,Go.Value.bool→aK,Go.Value.tuple→dd,Go.Value.agg→dE
namespace Go.Proofs.YtmnlcbeggagabaaGreatDoor
open ChangeShapes WideShapes RowKit Proofs.Tryz List
set_option maxHeartbeats 16000000
set_option linter.all false
set_option maxRecDepth 100000
variable{a:Z}{b c g m:M}{d u P:ab}{e N:cI}{i:DK}{j p r s:cN}{k D:U}{l:dK}{n:dO}{t:iO}{w:E}{K:Bool}{W:Type}
def sG{c:Func}{E Q:Tmp}(S:c.results=#[.cell E 93,.tmp Q])(a:Array ab)(w:Z)(g:M)(e f h i:ab)(O:TypeId)(d:M×M)(r:a.getD E iA=aA g)(p:w.heap[g]?=H (ay #[e,f,h,i] O d))(j:∃x n k,e=J x n k)(l:∃x n k,f=J x n k)(m:∃x n k,h=J x n k)(o:∃x n k,i=J x n k):(results c a).run aZ w=.ok (dd #[dE #[e,f,h,i],a.getD Q iA]) w:=by
 obtain⟨F,A,s,rfl⟩:=j;obtain⟨K,B,t,rfl⟩:=l;obtain⟨L,C,u,rfl⟩:=m;obtain⟨N,D,v,rfl⟩:=o;have b:a[E]?.getD iA=aA g:=by simpa using r
 have q:=kq (P:=aZ) w g O 93 #[J F A s,J K B t,J L C u,J N D v] d _ p underlying93 rfl (by kernel_rfl);simp[results,S,b,asAddr,q,Result.andThen]
def Hy{e f g h a' b' c' d':ab}{t:TypeId}{c:M×M}(j:a.heap[b]?=H (ay #[e,f,g,h] t c)):(cA (cA (cA (cA a (R b 0) a') (R b 1) b') (R b 2) c') (R b 3) d').heap[b]?=H (ay #[a',b',c',d'] t c):=by
 have d:=aL (i:=3) (u:=d')<|aL (i:=2) (u:=c')<|aL (i:=1) (u:=b')<|aL (i:=0) (u:=a') j;rw[d];simp
def Rq(hX:¬t.Xp)(S g f:M)(x1 x A:Option Addr)(n1 v w c1 c2 c3:M)(d:cN)(O P:cN)(bv:Row a 1 (aY S g (y d) f) (y d) (d.map bw.ptr))(ba:S<b/\¬t.F S)(cl:∀en∈d,mY t b en.tb en.ks en.cs a)(h1:rD t b (J x1 n1 c1) j a)(ed:Row a 1 (J x v c2) (y O) (O.map bw.ptr))(ef:Row a 1 (J A w c3) (y P) (P.map bw.ptr))(dT:∀k,cz (J x v c2)=H k->k<b/\¬t.F k)(ea:∀k,cz (J A w c3)=H k->k<b/\¬t.F k)(hD:t.D a)(s:b<=z (G a))(hF:∀k,t.F k->k<b)(hT:Steps a)(cu:1<b/\¬t.F 1)(bi:y d+y j+y O+y P<=1000000)(p:dO)(mx:Option Addr)(mc:M)(hm:Row a 1 (J mx (y p) mc) (y p) (p.map<|Value.int .u64))(bd:∀k,cz (J mx (y p) mc)=H k->k<b/\¬t.F k)(cE:y p<=4)(c:Bool)(bl:c=(O.isEmpty&&P.isEmpty))(hs:dL (cL<|cf j::d.map bw.all))(hg:∀ex∈cL (cf j::d.map bw.all),ex.Good)(hl:y (cL<|cf j::d.map bw.all)<=1000000):cD aZ 111 #[dE #[aY S g (y d) f,J x1 n1 c1,J x v c2,J A w c3],aq 0,J mx (y p) mc] a λC K=>∃F bn B,∃e:cN,C=aJ (dd #[dE #[aw,J F bn B,J x v c2,J A w c3],.nilIface])/\K.ownsRow (z<|G a) 189 1 (J F bn B) (y e) (e.map bw.ptr)/\e.map bw.all=gP (ri p c d j)/\pV K (z<|G a) e/\t.D K/\I t.F a K:=by
 have V:I az a (cG (cG a<|ay #[aY S g (y d) f,J x1 n1 c1,J x v c2,J A w c3] 93)<|ay #[aw,aw,aw,aw] 93):=(cK _ a).alloc _;generalize bc:cG (cG a<|ay #[aY S g (y d) f,J x1 n1 c1,J x v c2,J A w c3] 93) (ay #[aw,aw,aw,aw] 93)=br at V;have bb:br.heap[z<|G a]?=H (ay #[aY S g (y d) f,J x1 n1 c1,J x v c2,J A w c3] 93 (0,0)):=by rw[<-bc];grind[eU,aH]
 have cm:br.heap[z (G a)+1]?=H (ay #[aw,aw,aw,aw] 93 (0,0)):=by rw[<-bc];exact aH _<|by simp
 have an:∀r,I az a r->kC t b az a r:=λr ht=>ht.same s cC cC;have bu:∀k,b<=k->¬t.F k:=λk o dk=>by have:=hF k dk;omega
 have cB:∀r,I t.F br r->Cz r (z<|G a) 0 [(aY S g (y d) f,d),(J x1 n1 c1,j),(J x v c2,O),(J A w c3,P)]:=by
  intro r ad;have bm:∀dc c,Row a 1 dc (y c) (c.map bw.ptr)->(∀k,cz dc=H k->k<b/\¬t.F k)->Row r 1 dc (y c) (c.map bw.ptr):=λdc c hr o=>
   ad.row (V.row hr<|λk C=>⟨id,ah (o k C).1 s⟩) (λk C=>⟨(o k C).2,ah (o k C).1<|aB s V.size⟩)
  have hz:z (G a)<=z (G r):=aB V.size ad.size;have bx:=(ad.block _ (ar bb)<|bu _ s).trans bb;have bt:∀au dc,(#[aY S g (y d) f,J x1 n1 c1,J x v c2,J A w c3]:Array ab)[au]?=H dc->aS r (R (z<|G a)<|0+au)=H dc:=by
   intro au dc hv;rw[bW bx,dr];exact hv
  refine⟨rfl,λau hi=>?_,λau hi=>?_,λau hi k o=>?_,by simp[lZ];omega⟩
  .match au,hi with
   |0,_=>grind
   |1,_=>grind
   |2,_=>grind
   |3,_=>grind
  .match au,hi with
   |0,_=>exact bm _ _ bv (λk C=>by cases C;exact ba)
   |1,_=>exact bm _ _ h1.row<|λk C=>h1.loc k C
   |2,_=>grind
   |3,_=>grind
  .match au,hi with
   |0,_=>cases o;grind
   |1,_=>exact ah (h1.loc k o).1<|aB s hz
   |2,_=>grind
   |3,_=>grind
 have D:∀r,I t.F br r->cD aZ 170 #[aA<|z<|G a,aq 2] r λC K=>C=aJ (aK c)/\K=r:=by intro r ad;have h:=BZ (w:=r) (lb:=z<|G a) (lo:=0) 2 _ (cB _ ad) (by omega);(have he:jJ [(aY S g (y d) f,d),(J x1 n1 c1,j),(J x v c2,O),(J A w c3,P)] 2=c:=by rw[bl];simp[jJ]);rw[he]at h;exact h
 have al:∀q,cD aZ 169 #[aY S g (y d) f,J x1 n1 c1] (br.drewN q) λC K=>∃c,C=aJ (dd #[c,.nilIface])/\K.ownsRow (z<|G br) 170 4 c (y<|cL<|cf j::d.map bw.all) (aI<|cL<|cf j::d.map bw.all)/\t.D K/\I t.F (br.drewN q) K:=by intro q;have bm:I az a (br.drewN q):=V.of_heap rfl;have bi:=an _ bm;refine DU hX b S g f (J x1 n1 c1) d j ?_ ba (λen ht=>(cl en ht).same bi) (by omega) (h1.same bi) (t.eQ hD bm cC) (aB s bm.size) hF hl;intro au hi;obtain⟨_,⟨dk,_⟩|⟨b',em,bx,dk,_,hc⟩⟩:=bv.same bi (λk C=>by cases C;exact ba);cases dk;grind
 have cn:=Ga (V:=t) (W:=br) (ms:=p) (mx:=mx) (mc:=mc) (cL<|cf j::d.map bw.all) (V.row hm<|λk C=>⟨id,ah (bd k C).1 s⟩) (λk C=>⟨ah (bd k C).1<|aB s V.size,(bd k C).2⟩) cE hs hl;have cp:∀r,I t.F br r->Steps r:=λr ht k o=>ht.cell (V.cell (hT k o) id hT.lt) cu.2<|ah hT.lt V.size;have cs:dL (ri p c d j)/\qF 5 (ri p c d j)/\(∀ex∈ri p c d j,ex.Good)/\y (ri p c d j)<=1000000:=sK hs hg hl cE;obtain⟨ca,cb,bo,dn,av,ce,aa,HW,bq⟩:=wZ bb cm D al cn cp cs V bu;have er:∀e:cN,e.map bw.all=gP (ri p c d j)->y e<=100000000:=by intro e h;have:=bR y h;rw[df]at this;have:=wJ<|ri p c d j;omega
 have dx:=Y bc;have eu:=V.size;have cM:ri p c d j=if c then gK (dH p<|cL<|cf j::d.map bw.all)else dH p (cL<|cf j::d.map bw.all):=rfl;have aD:=Y cM;clear bv ba cl h1 ed ef dT ea hD hF hT cu bl hg hl hs hm bd bb cm an cB D al cn cp cs V bu bc cM;generalize cL (cf j::d.map bw.all)=ML at*;generalize ri p c d j=ck at*;go_in
 go_wp2_with fail
 go_quiet(fail)
 rw[af dx];have al:=dn nq;go_wp2_with fail
 apply al.mono;rintro C Q⟨ej,rfl,u,ac,N⟩;have i:I t.F br Q:=(jg t.F br nq).trans N<|λ_ h=>.inl h;obtain⟨n,l,rfl⟩:=aC u;have cT:=av.1 Q _ n l i u;have X:=Y ac;have aU:=Y i;clear u ac N i al;go_wp2_with fail
 apply cT.mono;rintro C W⟨vn,rfl,bh,bE⟩;have ao:I t.F br W:=aU.bX bE;have co:=t.eQ X bE cC;obtain⟨xn,ek,rfl⟩:=aC bh;have D:=bo W ao;have bs:=av.2 W _ xn ek bh;have db:=aU.size;obtain⟨ax,L,bp⟩:=dz co ao bh;clear bh co ao bE cT;cases c;(case' false=>obtain rfl:ck=dH p ML:=af aD;clear bs av aD;(go_wp2_with fail);apply D.mono;rintro C bT⟨rfl,ei⟩;subst bT;clear D;obtain⟨aF,aV,cc⟩:=dz (fN (base':=z<|G a) bp<|by omega) L ax;clear L ax bp aU X bo;generalize W=w3 at*);(case' true=>obtain rfl:ck=gK (dH p ML):=af aD;(go_wp2_with fail);apply D.mono;rintro C bT⟨rfl,ei⟩;subst bT;(go_wp2_with fail);apply bs.mono;rintro C w3⟨vb,rfl,bm,bx⟩;obtain⟨xn,ek,rfl⟩:=aC bm;obtain⟨aF,aV,cc⟩:=dz (fN (base':=z<|G a) bm (by have:=L.size;omega)) (L.bX bx)<|t.eQ ax bx cC;clear bm bx D bs L ax bp aU X bo av aD db)
 all_goals
  have ec:=ub (dF aF) aa.1 aa.2.1 aa.2.2.1 aa.2.2.2 (λk o=>(aF.lt k o).2)<|ce w3 aV;clear aF ce aa;go_wp2_with fail
  apply ec.mono;rintro C Q⟨ej,e,rfl,u,cv,bf,N⟩;have i:I t.F br Q:=aV.bX N;have ac:=t.eQ cc N cC;have et:=aV.size;obtain⟨n,l,rfl⟩:=aC u;have cw:=(i.block _ (ar ca)<|bq _ s).trans ca;have cx:=(i.block _ (ar cb)<|bq _<|by omega).trans cb;have es:=i.size;have bf:=bf.base (base':=z<|G a) (by omega);have hC:cD aZ 109 #[aY (z<|G Q) 0 3 3] (cG Q<|ay #[aw,J n (y e) l,aw] 91) λC K=>∃v',C=aJ v'/\K.ownsRow (z<|G a) 189 1 v' (y e) (e.map bw.ptr)/\I az Q K:=by
   have bt:∀au dc,(#[J none 0 0,J n (y e) l,aw]:Array ab)[au]?=H dc->aS (cG Q<|ay #[aw,J n (y e) l,aw] 91) (R (z<|G Q)<|0+au)=H dc:=by
    simp_all
   have eg:Row (cG Q<|ay #[aw,J n (y e) l,aw] 91) 1 (J n (y e) l) (y e) (e.map bw.ptr):=dF<|aX u _;have h:=sV (z<|G Q) 0 3 [(J none 0 0,[]),(J n (y e) l,e),(J none 0 0,[])] (cG Q<|ay #[aw,J n (y e) l,aw] 91) ?_ (by simp) ?_ ?_ (by simp) (by simp[lZ];grind)
   .have e1:lZ [(J none 0 0,[]),(J n (y e) l,e),(J none 0 0,[])]=y e:=by simp[lZ]
    have e2:pK [(J none 0 0,[]),(J n (y e) l,e),(J none 0 0,[])]=e.map bw.ptr:=by simp[pK]
    rw[e1,e2]at h;apply h.mono;rintro C K⟨v',rfl,ho,ht⟩;exact⟨v',rfl,fN ho (by simp;omega),(cK az Q).bX ht⟩
   .grind
   .intro au hi;match au,hi with
    |0,_=>exact⟨rfl,.inl ⟨rfl,rfl⟩⟩
    |1,_=>exact eg
    |2,_=>exact⟨rfl,.inl ⟨rfl,rfl⟩⟩
   .intro au hi k o;match au,hi with
    |0,_=>cases o
    |1,_=>have:=(bM u k o).2;simp;omega
    |2,_=>cases o
  obtain⟨ds,X,dv,dm,ch,cj⟩:=lf bf ac i cv cw cx;clear u cv bf ac N i cw cx;go_wp2_with fail
  apply hC.mono;rintro C W⟨ev,rfl,bg,E⟩;obtain⟨F,B,rfl⟩:=aC bg;have Bj:=(E.block _ (ar ch) id).trans ch;have m:=(E.block _ (ar cj) id).trans cj;have p0:=cellAt Bj 0 rfl;have p1:=cellAt Bj 1 rfl;have p2:=cellAt Bj 2 rfl;have p3:=cellAt Bj 3 rfl;have f0:=cZ (i:=0) Bj;have f1:=cZ (i:=1) Bj;have q0:=cellAt m 0 rfl;have q1:=cellAt m 1 rfl;have q2:=cellAt m 2 rfl;have q3:=cellAt m 3 rfl;have g0:=cZ (i:=0) m;have g1:=cZ (i:=1) m;have g2:=cZ (i:=2) m;have g3:=cZ (i:=3) m;obtain⟨eq,L,eo⟩:=dz bg E m;have cd:=Y (show∀wf,wf=cA (cA (cA (cA (cA (cA W (R (z<|G a) 0) aw) (R (z<|G a) 1)<|J F (y e) B) (R (z (G a)+1) 0) aw) (R (z (G a)+1) 1)<|J F (y e) B) (R (z (G a)+1) 2)<|J x v c2) (R (z (G a)+1) 3) (J A w c3)->wf.heap[z (G a)+1]?=H (ay #[aw,J F (y e) B,J x v c2,J A w c3] 93 (0,0))/\wf.ownsRow (z<|G a) 189 1 (J F (y e) B) (y e) (e.map bw.ptr)/\pV wf (z<|G a) e/\t.D wf/\I t.F a wf from by
   rintro wf rfl;have hx:((cA (cA W (R (z<|G a) 0) aw) (R (z<|G a) 1)<|J F (y e) B)).heap[z (G a)+1]?=H (ay #[aw,aw,aw,aw] 93 (0,0)):=(iL _<|by omega).trans<|(iL _<|by omega).trans m;have bk:I (λk=>k=z (G a)\/k=z (G a)+1) W (cA (cA (cA (cA (cA (cA W (R (z<|G a) 0) aw) (R (z<|G a) 1)<|J F (y e) B) (R (z (G a)+1) 0) aw) (R (z (G a)+1) 1)<|J F (y e) B) (R (z (G a)+1) 2)<|J x v c2) (R (z (G a)+1) 3)<|J A w c3):=((((((I.refl _ W).setCell _ 0 _<|.inl<|.inl rfl).setCell _ 1 _<|.inl<|.inl rfl).setCell _ 0 _<|.inl<|.inr rfl).setCell _ 1 _<|.inl<|.inr rfl).setCell _ 2 _<|.inl<|.inr rfl).setCell _ 3 _<|.inl<|.inr rfl;have eb:=Hy (a':=aw) (b':=J F (y e) B) (c':=J x v c2) (d':=J A w c3) hx;generalize cA (cA (cA (cA (cA (cA W (R (z<|G a) 0) aw) (R (z<|G a) 1)<|J F (y e) B) (R (z (G a)+1) 0) aw) (R (z (G a)+1) 1)<|J F (y e) B) (R (z (G a)+1) 2)<|J x v c2) (R (z (G a)+1) 3) (J A w c3)=wf at*;have el:∀k,(k=z (G a)\/k=z (G a)+1)->∃b,W.heap[k]?=H (ay b 93 (0,0)):=by
    grind
   refine⟨eb,bk.own bg<|λk o dk=>?_,?_,t.eQ (t.eQ X E cC) bk<|λk o=>bq k (by rcases o with dk|dk<;>omega),?_⟩
   .grind[fS,lj]
   .refine((ds.ap E).other bk<|λk o=>?_).base (by omega);grind
   .exact(((HW.mono (T:=t.F) cC).trans dv (λ_ h=>.inl h)).bX E).trans bk (λk o=>.inr (by rcases o with dk|dk<;>omega)))
  clear bg E Bj m hC;go_wp2;obtain⟨r1,r2,r3,r4,r5⟩:=cd _ rfl;refine ci (sG rfl _ _ (z (G a)+1) aw (J F (y e) B) (J x v c2) (J A w c3) _ _ rfl r1 ⟨_,_,_,rfl⟩ ⟨_,_,_,rfl⟩ ⟨_,_,_,rfl⟩ ⟨_,_,_,rfl⟩) rfl ?_;exact⟨F,y e,B,e,rfl,r2,dm,r3,r4,r5⟩
theorem nJ{us ts:cN}(h:us.Sublist ts):(cf us).Sublist (cf ts):=by
 induction h with
 |slnil=>grind
 |cons x _ a=>rw[xX];grind
 |cons_cons x _ a=>rw[xX,xX];grind
def jY.sub(h:jY p)(a:j.Sublist p):jY j:=⟨λt b=>h.pure t<|a.subset b,h.mq.sub<|nJ a,h.Cx.sublist<|a.map _⟩
def Tn(i:iN a (aY b c (y j) g) j)(d:y j<=g)(f:m<=y j):iN a (J (if g=m then H (R b c)else H (R b<|c+m)) (y j-m)<|g-m) (j.drop m):=by
 by_cases h:g=m;(have e:y j=m:=by omega);rw[dW h,<-e,ga,zp,show g-y j=0 by omega];exact i.empty c;rw[eI h];exact i.drop m f
def VM{w1:Z}{ta tbqq:cN}(a:M)(f:iN w1 d ta)(g:iN w1 u tbqq)(s:y ta+y tbqq<=10000000)(t:a<=z (G w1))(T:TypeId):cD aZ 109 #[aY (z<|G w1) 0 2 2] ((cG w1<|ay #[d,u] T).drew) λq j=>∃e,q=aJ e/\j.ownsRow a 189 1 e (y<|ta++tbqq) ((ta++tbqq).map bw.ptr)/\I az w1 j:=by
 have b:I az w1 ((cG w1<|ay #[d,u] T).drew):=(cK _ w1).of_heap rfl;have h:∀k v,(#[d,u]:Array ab)[k]?=H v->aS ((cG w1<|ay #[d,u] T).drew) (R (z<|G w1)<|0+k)=H v:=by simp_all
 have r:=sV (z<|G w1) 0 2 [(d,ta),(u,tbqq)] ((cG w1<|ay #[d,u] T).drew) ?_ (by simp) ?_ ?_ (by simp) (by simp[lZ];omega);(have m:lZ [(d,ta),(u,tbqq)]=y (ta++tbqq):=by simp[lZ]);(have n:pK [(d,ta),(u,tbqq)]=(ta++tbqq).map bw.ptr:=by simp[pK]);rw[m,n]at r;apply r.mono;rintro q j⟨e,rfl,o,p⟩;exact⟨e,rfl,fN o (by simp;omega),b.bX p⟩;grind
 .intro k i;match k,i with
  |0,_=>exact b.row f.row<|λl c=>⟨id,f.lt l c⟩
  |1,_=>exact b.row g.row<|λl c=>⟨id,g.lt l c⟩
 .intro k i l c;match k,i with
  |0,_=>have:=f.lt l c;simp;omega
  |1,_=>have:=g.lt l c;simp;omega
def VL(e b f:cN)(c:M)(t:Row a 1 d (y e) (e.map bw.ptr))(i:∀k,cz d=H k->k<z (G a))(v:Row a 1 u (y b) (b.map bw.ptr))(j:∀k,cz u=H k->k<z (G a))(w:Row a 1 P (y f) (f.map bw.ptr))(l:∀k,cz P=H k->k<z (G a))(D:y e+y b+y f<=10000000)(E:c<=z (G a))(T:TypeId):cD aZ 109 #[aY (z<|G a) 0 3 3] (cG a<|ay #[d,u,P] T) λB p=>∃m,B=aJ m/\p.ownsRow c 189 1 m (y<|e++b++f) ((e++b++f).map bw.ptr)/\I az a p:=by
 have h:I az a (cG a<|ay #[d,u,P] T):=(cK _ a);have n:∀q v,(#[d,u,P]:Array ab)[q]?=H v->aS (cG a<|ay #[d,u,P] T) (R (z<|G a)<|0+q)=H v:=by simp_all
 have C:=sV (z<|G a) 0 3 [(d,e),(u,b),(P,f)] (cG a<|ay #[d,u,P] T) ?_ (by simp) ?_ ?_ (by simp) (by simp[lZ];omega);(have r:lZ [(d,e),(u,b),(P,f)]=y (e++b++f):=by simp[lZ]);(have s:pK [(d,e),(u,b),(P,f)]=(e++b++f).map bw.ptr:=by simp[pK]);rw[r,s]at C;apply C.mono;rintro B p⟨m,rfl,x,A⟩;exact⟨m,rfl,fN x (by simp;omega),h.bX A⟩;grind
 .intro q o;match q,o with
  |0,_=>exact h.row t<|λk g=>⟨id,i k g⟩
  |1,_=>exact h.row v<|λk g=>⟨id,j k g⟩
  |2,_=>exact h.row w<|λk g=>⟨id,l k g⟩
 .intro q o k g;match q,o with
  |0,_=>have:=i k g;simp;omega
  |1,_=>have:=j k g;simp;omega
  |2,_=>have:=l k g;simp;omega
def Et{hH:Array ab}{kl:cS (ab×cN)}{ei:ab->ab->Array ab}(hX:¬t.Xp)(cM e l:M)(W xa xd:Option Addr)(fs hD na db nd dc:M)(br aU:cN)(h1:rD t c (aY cM e (y j) l) j a)(hm:y j<=l)(jE:0<y j)(h2:rD t c (J W fs hD) p a)(hu:Row a 1 (J xa na db) (y br) (br.map bw.ptr))(hv:Row a 1 (J xd nd dc) (y aU) (aU.map bw.ptr))(es:∀f,cz (J xa na db)=H f->f<c/\¬t.F f)(ev:∀f,cz (J xd nd dc)=H f->f<c/\¬t.F f)(ko:t.D a)(r:c<=z (G a))(hF:∀f,t.F f->f<c)(kt:Steps a)(hf:1<c/\¬t.F 1)(ls:y j+y p+y br+y aU<=1000000)(jC:jW p<=1000000000)(d:Bool)(hi:(b=1/\k=1/\D=3/\hH=#[J xa na db,aY cM e (y j) l,J W fs hD,J xd nd dc]/\kl=[((J xa na db:ab),br),(aY cM e (y j) l,j),(J W fs hD,p),(J xd nd dc,aU)]/\ei=(λmd fs=>#[J xa na db,md,fs,J xd nd dc])/\d=aU.isEmpty)\/(b=2/\k=2/\D=4/\hH=#[J xa na db,J xd nd dc,aY cM e (y j) l,J W fs hD]/\kl=[((J xa na db:ab),br),(J xd nd dc,aU),(aY cM e (y j) l,j),(J W fs hD,p)]/\ei=(λmd fs=>#[J xa na db,J xd nd dc,md,fs])/\d=cq))(ky:∀o(hj:o<y j),∀ws:cN,ws.Sublist p->dL (cL<|cf ws::[j[o]].map bw.all)/\(∀me∈cL (cf ws::[j[o]].map bw.all),me.Good)/\y (cL<|cf ws::[j[o]].map bw.all)<=1000000)(Q:dO)(mx:Option Addr)(mc:M)(kv:Row a 1 (J mx (y Q) mc) (y Q) (Q.map<|Value.int .u64))(hr:∀f,cz (J mx (y Q) mc)=H f->f<c/\¬t.F f)(ho:y Q<=4):cD aZ 111 #[dE hH,aq k,J mx (y Q) mc] a λX s=>∃xl nl gs xm w gt,∃tm:cN,∃o,∃hj:o<y j,∃A q,X=aJ (dd #[dE<|ei (J xl nl gs)<|J xm w gt,.nilIface])/\yB p (iT j[o].ks) (jl j[o].ks) A q/\s.ownsRow (z<|G a) 189 1 (J xl nl gs) (y<|j.take o++j.drop (o+1)) ((j.take o++j.drop (o+1)).map bw.ptr)/\s.ownsRow (z<|G a) 189 1 (J xm w gt) (y<|p.take A++tm++p.drop q) ((p.take A++tm++p.drop q).map bw.ptr)/\tm.map bw.all=gP (ri Q d [j[o]]<|(p.drop A).take<|q-A)/\pV s (z<|G a) tm/\t.D s/\I t.F a s:=by
 have hW:I az a (cG (cG a<|ay hH 93)<|ay #[aw,aw,aw,aw] 93):=(cK _ a).alloc _;generalize cj:cG (cG a<|ay hH 93) (ay #[aw,aw,aw,aw] 93)=aV at hW;have aF:aV.heap[z<|G a]?=H (ay hH 93 (0,0)):=by rw[<-cj];grind[eU,aH]
 have gE:aV.heap[z (G a)+1]?=H (ay #[aw,aw,aw,aw] 93 (0,0)):=by rw[<-cj];exact aH _<|by simp
 have cp:∀f,c<=f->¬t.F f:=λf g gr=>by have:=hF f gr;omega
 have ex:∀m,I t.F aV m->Cz m (z<|G a) 0 kl:=by
  intro m O;have av:∀cE b,Row a 1 cE (y b) (b.map bw.ptr)->(∀f,cz cE=H f->f<c/\¬t.F f)->Row m 1 cE (y b) (b.map bw.ptr):=λcE b lp g=>
   O.row (hW.row lp<|λf X=>⟨id,ah (g f X).1 r⟩) (λf X=>⟨(g f X).2,ah (g f X).1<|aB r hW.size⟩)
  have hG:z (G a)<=z (G m):=aB hW.size O.size;have P:∀b cE,hH[b]?=H cE->aS m (R (z<|G a)<|0+b)=H cE:=by
   intro b cE jI;refine O.cell ?_ (cp _ r)<|ar aF;rw[bW aF,dr];exact jI
  rcases hi with⟨_,_,_,rfl,rfl,_⟩|⟨_,_,_,rfl,rfl,_⟩;all_goals
   refine⟨rfl,λb hi=>?_,λb hi=>?_,λb hi f g=>?_,by simp[lZ];omega⟩
   .match b,hi with
    |0,_|1,_|2,_|3,_=>exact P _ _ rfl
   .match b,hi with
    |0,_|1,_|2,_|3,_=>first|exact av _ _ hu es|exact av _ _ h1.row h1.loc|exact av _ _ h2.row h2.loc|exact av _ _ hv ev
   .match b,hi with
    |0,_|1,_|2,_|3,_=>first|exact ah (es f g).1 (aB r hG)|exact ah (h1.loc f g).1 (aB r hG)|exact ah (h2.loc f g).1 (aB r hG)|exact ah (ev f g).1<|aB r hG
 have jH:∃S1 S2:Z->Prop,(∀m,I t.F aV m->S1 m/\S2 m)/\(∀i,S1 i->aS i (R (z<|G a) b)=H (aY cM e (y j) l))/\∀i,S2 i->aS i (R (z<|G a)<|b+1)=H (J W fs hD):=by refine⟨_,_,λm O=>?_,λi h=>h,λi h=>h⟩;(have P:∀b cE,hH[b]?=H cE->aS m (R (z<|G a) b)=H cE:=by intro b cE jI;refine O.cell ?_ (cp _ r)<|ar aF;rw[bW aF];exact jI);rcases hi with⟨rfl,_,_,rfl,_⟩|⟨rfl,_,_,rfl,_⟩<;>exact⟨P _ _ rfl,P _ _ rfl⟩
 obtain⟨S1,S2,hE,er,ck⟩:=jH;have fk:=hW.size;have cd:∀m,I az aV m->kC t c az a m:=λm ht=>(hW.bX ht).same r cC cC;have hI:k=(b:M)/\D=(b+2:M)/\(b=1\/b=2)/\jJ kl (b+2)=d:=by rcases hi with⟨rfl,rfl,rfl,_,rfl,_,rfl⟩|⟨rfl,rfl,rfl,_,rfl,_,rfl⟩;exact⟨rfl,rfl,.inl rfl,by simp[jJ]⟩;exact⟨rfl,rfl,.inr rfl,by simp[jJ]⟩
 have bk:∀q,cD aZ 167 #[aA<|z<|G a,aq k] (aV.drewN q) λX s=>∃o:M,X=aJ (aq o)/\o<y j/\I az aV s:=by intro q;have av:=jg az aV q;have hG:=ex _<|av.mono cC;rw[hI.1];refine(Ic (w:=(aV.drewN q)) (z<|G a) 0 b (ts1:=j) (by omega) (by rw[dr];exact er _ (hE _<|av.mono cC).1) (by rw[dr];exact ck _ (hE _<|av.mono cC).2) hG.lt ((h1.same<|cd _ av).mem<|aB r fk) ((h2.same<|cd _ av).mem<|aB r fk) h2.side.Aa jE jC).mono ?_;rintro X s⟨o,rfl,hj,lp⟩;exact⟨o,rfl,hj,av.bX<|I.aR (S:=az) lp⟩
 have E:∀m,I t.F aV m->cD aZ 170 #[aA<|z<|G a,aq D] m λX s=>X=aJ (aK d)/\s=m:=by intro m O;have h:=BZ (b+2) kl (ex m O) (by omega);rw[hI.2.2.2]at h;rw[hI.2.1];exact h
 clear hI;obtain⟨eb,fu,hL,HC,hP,HW,bE,hV,bd⟩:=wZ aF gE E hE bk hW cp cj cd;obtain⟨H1,H2,HD,HF,HT,eg,hO,HM,ed⟩:=wZ h1 h2 ko hF kt hf ky kv hr;clear h1 h2 hu hv es ev ko hF kt hf ky kv hr aF gE ex bk hW cp cj cd E hE;rcases hi with⟨rfl,rfl,rfl,rfl,rfl,rfl,dT⟩|⟨rfl,rfl,rfl,rfl,rfl,rfl,dT⟩
 all_goals
  clear dT;simp only[Nat.reduceAdd]at ck;have gj:=Y er;have bx:=Y ck;clear er ck;go_in
  go_wp2_with fail
  go_quiet(fail)
  rw[af hV];have bk:=hP nq;go_wp2_with fail
  apply bk.mono;rintro X w1⟨o,rfl,hj,fe⟩;have jA:=gj w1 (HC w1<|fe.mono cC).1;have x:=Y fe;clear fe bk;obtain⟨j1,cn⟩:∃j1,o+1=j1:=⟨_,rfl⟩;have e1:(o:U)+1=(j1:U):=by omega
  have e2:(o:U)<=(j1:U):=by omega
  have e3:(j1:U)<=(l:U):=by omega
  have e4:(j1:U)<=(y j:U):=by omega
  have e5:(o:U)<=(l:U):=by omega
  have e6:¬(l=o):=by omega
  have e7:¬(l-o=0):=by omega
  have e8:IntKind.i64.wrap (j1:U)=(j1:U):=by rw[bS];omega
  have e9:(0:U)<=(o:U):=by omega
  have ln:(y j:U)<=(l:U):=by omega
  have lo:j1-o=1:=by omega
  have HJ:=Y cn;clear cn;have ks:S1 w1.drew:=(HC _<|(x.bX<|cR az w1).mono cC).1;go_wp2_with fail
  rename_i QQ KK hd;refine dM S1 21 (by kernel_rfl) ?_;refine eR 0 ?_;iterate 18 (refine iF (v:=?_) ks rfl (by kernel_rfl) mj rfl ?_ ?_;rotate_left;(focus(intro i hX;have z0:=gj i hX;go_simp;try rfl));simp only[Act.put,eF,Nat.reduceAdd])
  apply ik;refine bC (i:=18) rfl rfl (by kernel_rfl) ?_;intro hY aa;go_simp;have en:iN w1 (aY cM e (y j) l) j:=((H1.same<|bd w1 x).mem<|aB r<|aB fk x.size);have lr:=x.size;have L:=VM (w1:=w1) (ta:=(j.take o)) (tbqq:=(j.drop j1)) (z<|G a) (en.take o<|by omega) (Tn en hm (by have:=af HJ;omega)) (by simp;omega) (by omega) 91;refine aa _ _ (λ_=>?_) ?_
  .exact(HC _<|((x.alloc _).bX<|cR az _).mono cC).1
  refine bC (i:=19) rfl rfl (by kernel_rfl) ?_;intro hZ ac;go_simp;apply L.mono;rintro X u⟨vl,rfl,cu,cB⟩;obtain⟨nl,ey⟩:∃nl,y (j.take o++j.drop j1)=nl:=⟨_,rfl⟩;rw[ey]at cu;have hR:=Y ey;clear ey;obtain⟨xl,gs,rfl⟩:=aC cu;have eo:S1 u:=(HC _<|(x.bX cB).mono cC).1;refine ac _ _ (λ_=>eo) ?_;refine bC (i:=20) rfl rfl (by kernel_rfl) ?_;intro lg ds;go_simp;refine ds _ _ (λ_=>eo) ?_;refine bC (i:=21) rfl rfl (by kernel_rfl) ?_;intro ll dv;go_simp;refine dv _ _ Fe ?_;refine eN (by kernel_rfl) ?_ _;show KK _ _;apply hd;generalize(if l=j1 then H ((R cM e):Addr)else H (R cM<|e+j1))=zz at*;have v:I az aV u:=x.bX cB;have N:=Y v;have gg:=Y cu;have lv:=v.size;have bh:iN u (aY cM e (y j) l) j:=((H1.same<|bd u v).mem<|by omega);have ip:iN u (J W fs hD) p:=((H2.same<|bd u v).mem<|by omega);have jB:=bx u (HC u<|v.mono cC).2;have hp:=bh.cell hj;have cm:∀aV,aV.heap=u.heap->cD aZ 151 #[j[o].ptr] aV λX s=>X=aJ (am<|iT j[o].ks)/\s=aV:=λaV hW=>((bh.each _<|ak hj).of_heap hW).first;have co:∀aV,aV.heap=u.heap->cD aZ 150 #[j[o].ptr] aV λX s=>X=aJ (am<|jl j[o].ks)/\∃q,s=aV.drewN q:=λaV hW=>((bh.each _<|ak hj).of_heap hW).last;have hl:cM<z (G u):=bh.lt cM rfl;have ih:z (G a)<z (G u):=by have:=ar eb;omega
  have hcut:∀m,I az u m->cD aZ 168 #[J W fs hD,am<|iT j[o].ks,am<|jl j[o].ks] m λX s=>∃va vb vc,X=aJ (dd #[va,vb,vc])/\(∃A q,yB p (iT j[o].ks) (jl j[o].ks) A q/\iN s va (p.take A)/\iN s vb ((p.drop A).take<|q-A)/\iN s vc (p.drop q)/\(∀f,cz va=H f\/cz vb=H f\/cz vc=H f->cz (J W fs hD)=H f))/\I az u s/\S2 s/\aS s (R cM<|e+o)=H j[o].ptr:=by
   intro m eq;refine(KJ (iT j[o].ks) (jl j[o].ks) ((H2.same<|bd m<|v.bX eq).mem (by have:=eq.size;omega)) H2.side.Aa).mono ?_;rintro X s⟨A,q,va,vb,vc,rfl,a1,a2,a3,a4,a5,hk⟩;have fd:I az u s:=eq.bX<|I.aR (S:=az) hk;exact⟨va,vb,vc,rfl,⟨A,q,a1,a2,a3,a4,a5⟩,fd,(HC s<|(v.bX fd).mono cC).2,fd.cell hp id hl⟩
  clear hd aa ac ds dv L en bh ip ks eo jA cu cB v;unfold bw.ptr at hp cm co hcut;have gi:=Y (show∃s1 s2 al,iT j[o].ks=s1/\jl j[o].ks=s2/\j[o].tb=al from⟨_,_,_,rfl,rfl,rfl⟩);obtain⟨s1,s2,al,ca,cb,aD⟩:=af gi;rw[ca,cb,aD]at hcut;rw[ca,aD]at cm;rw[cb,aD]at co;rw[aD]at hp;obtain⟨hM,hN,kz⟩:=dz ca cb aD;clear ca cb aD gi;obtain⟨fx,bb,fv⟩:=dz cm co hcut;clear cm co hcut;have g1:IntKind.i64.wrap (2:U)=2:=by rw[bS];omega
  have g2:IntKind.i64.wrap (3:U)=3:=by rw[bS];omega
  have ch:S2 u.drew/\aS u.drew (R cM<|e+o)=H (aA al):=⟨(HC _<|(N.bX<|cR az u).mono cC).2,hp⟩;go_wp2_with fail
  rename_i Q6 K6;refine dM (λi=>S2 i/\aS i (R cM<|e+o)=H (aA al)) 19 (by kernel_rfl) ?_;refine eR 0 ?_;iterate 7 (refine iF (v:=?_) ch rfl (by kernel_rfl) mj rfl ?_ ?_;rotate_left;(focus(intro i hX;obtain⟨bs,z1⟩:=hX;have z0:=bx i bs;go_simp;try rfl));simp only[Act.put,eF,Nat.reduceAdd])
  apply ik;refine eR 8 ?_;iterate 3 (refine iF (v:=?_) ch rfl (by kernel_rfl) mj rfl ?_ ?_;rotate_left;(focus(intro i hX;obtain⟨bs,z1⟩:=hX;have z0:=bx i bs;go_simp;try rfl));simp only[Act.put,eF,Nat.reduceAdd])
  apply ik;refine bC (i:=7) rfl rfl (by kernel_rfl) ?_;intro K7 hc;go_simp;apply(fx u.drew rfl).mono;rintro X V⟨rfl,ka⟩;subst V;refine hc _ _ (λ_=>ch) ?_;refine bC (i:=11) rfl rfl (by kernel_rfl) ?_;intro lb dk;go_simp;apply(bb u.drew rfl).mono;rintro X V⟨rfl,qq,ka⟩;subst V;refine dk _ _ (λ_=>⟨(HC _<|((N.bX<|cR az u).bX<|jg az _ _).mono cC).2,hp⟩) ?_;refine bC (i:=12) rfl rfl (by kernel_rfl) ?_;intro lc dm;go_simp;apply(fv (u.drewN<|1+qq)<|jg _ _ _).mono;rintro X V⟨va,vb,vc,rfl,jD,ff,bm⟩;refine dm _ _ (λ_=>bm) ?_;refine eR 13 ?_;iterate 4 (refine iF (v:=?_) bm rfl (by kernel_rfl) mj rfl ?_ ?_;rotate_left;(focus(intro i hX;obtain⟨bs,z1⟩:=hX;have z0:=bx i bs;go_simp;try rfl));simp only[Act.put,eF,Nat.reduceAdd])
  apply ik;refine bC (i:=17) rfl rfl (by kernel_rfl) ?_;intro le dn;go_simp;refine dn _ _ (λ_=>bm) ?_;refine bC (i:=18) rfl rfl (by kernel_rfl) ?_;intro hY aa;go_simp;refine aa _ _ (λ_=>bm) ?_;refine bC (i:=19) rfl rfl (by kernel_rfl) ?_;intro hZ ac;go_simp;refine ac _ _ Fe ?_;refine eN (by kernel_rfl) ?_ _;show K6 _ _;apply QQ;obtain⟨A,q,ha,ek,cc,el,em⟩:=jD;clear QQ hc dk dm dn aa ac bm ch jB hp fx bb fv;obtain⟨kf,ia,hx⟩:=bO ek.row;obtain⟨fr,ej,hy⟩:=bO cc.row;obtain⟨kk,ib,hz⟩:=bO el.row;generalize y (p.take A)=kb at hx;generalize y ((p.drop A).take<|q-A)=fl at hy;generalize y (p.drop q)=kc at hz;subst hx;subst hy;subst hz;have C:I az aV V:=N.bX ff;have lx:=C.size;have bn:((p.drop A).take<|q-A).Sublist p:=(ni _ _).trans<|kh _ _;have ce:=bd V C;obtain⟨fb,hw,cw⟩:=hO o hj _ bn;have E:=λm(O:I t.F V m)=>hL m<|(C.mono (T:=t.F) cC).trans O<|λ_ h=>.inl h;have hq:cD aZ 169 #[aY cM (e+o) 1<|l-o,J fr fl ej] V λX s=>∃a,X=aJ (dd #[a,.nilIface])/\s.ownsRow (z<|G V) 170 4 a (y<|cL<|cf ((p.drop A).take<|q-A)::[j[o]].map bw.all) (aI<|cL<|cf ((p.drop A).take<|q-A)::[j[o]].map bw.all)/\t.D s/\I t.F V s:=by
   have he:=H1.same ce;have iu:=H2.same ce;refine DU hX c cM (e+o) (l-o) (J fr fl ej) [j[o]] ((p.drop A).take<|q-A) ?_ (H1.loc cM rfl) ?_ (by simp) ⟨cc.row,λf g=>H2.loc f<|em f<|.inr<|.inl g,λmg ht=>iu.each mg<|bn.subset ht,H2.side.sub bn,cc.small⟩ (t.eQ HD (HW.bX C) cC) (by omega) HF cw
   .intro b hi;obtain rfl:b=0:=by grind
    exact he.cell hj
   .intro mg ht;rw[dA]at ht;subst ht;exact he.each _<|ak hj
  have bq:I az a V:=HW.bX C;obtain⟨bt,gc,an,bc,ec⟩:=jm (Ga (V:=t) (W:=V) (ms:=Q) (mx:=mx) (mc:=mc) (cL<|cf ((p.drop A).take<|q-A)::[j[o]].map bw.all) (bq.row HM<|λf X=>⟨id,ah (ed f X).1 r⟩) (λf X=>⟨by have:=(ed f X).1;omega,(ed f X).2⟩) ho fb cw) (show∀m,I t.F V m->Steps m fromλm ht f g=>ht.cell ((HT.same ce eg) f g) eg.2 (by have:=eg.1;omega)) (show dL (ri Q d [j[o]]<|(p.drop A).take<|q-A)/\qF 5 (ri Q d [j[o]]<|(p.drop A).take<|q-A)/\(∀me∈ri Q d [j[o]] ((p.drop A).take<|q-A),me.Good)/\y (ri Q d [j[o]]<|(p.drop A).take<|q-A)<=1000000 from sK fb hw cw ho) (show ri Q d [j[o]] ((p.drop A).take<|q-A)=if d then gK (dH Q<|cL<|cf ((p.drop A).take<|q-A)::[j[o]].map bw.all)else dH Q (cL<|cf ((p.drop A).take<|q-A)::[j[o]].map bw.all)from rfl) E;clear E fb hw cw bq;generalize il:cL (cf ((p.drop A).take<|q-A)::[j[o]].map bw.all)=ML at*;clear il;obtain⟨bT,bi⟩:∃bT,ri Q d [j[o]] ((p.drop A).take<|q-A)=bT:=⟨_,rfl⟩;rw[bi]at an bc;have gf:=Y bi;clear bi;obtain⟨hK,bb,fL,hT,cT,hQ⟩:=lf ha ek el C (ff.own gg<|λ_ _ gr=>gr) em;clear ha ek cc el em C ce ff gg;go_wp2_with fail
  apply hq.mono;rintro X w1⟨kd,rfl,F,bg,K⟩;obtain⟨hB,gx,rfl⟩:=aC F;have hs:=bt.1 w1 _ hB gx K F;have ba:=Y bg;have x:=Y K;clear F bg K hq;go_wp2_with fail
  apply hs.mono;rintro X u⟨vn,rfl,cv,au⟩;have bo:I t.F V u:=x.bX au;have hb:=t.eQ ba au cC;obtain⟨xn,kn,rfl⟩:=aC cv;have E:=ec u bo;have et:=bt.2 u _ xn kn cv;have hA:=x.size;obtain⟨bu,N,ef⟩:=dz hb bo cv;clear cv hb bo au hs;cases d;case' false=>
   obtain rfl:bT=dH Q ML:=af bc;clear et bt bc;go_wp2_with fail
   apply E.mono;rintro X fn⟨rfl,jK⟩;subst fn;clear E;obtain⟨bv,bf,fw⟩:=dz (fN (base':=z<|G V) ef<|by omega) N bu;clear N bu ef x ba ec;generalize u=w5 at*
  case' true=>
   obtain rfl:bT=gK (dH Q ML):=af bc;go_wp2_with fail
   apply E.mono;rintro X fn⟨rfl,jK⟩;subst fn;go_wp2_with fail
   apply et.mono;rintro X w5⟨vb,rfl,eB,fg⟩;obtain⟨xn,kn,rfl⟩:=aC eB;obtain⟨bv,bf,fw⟩:=dz (fN (base':=z<|G V) eB (by have:=N.size;omega)) (N.bX fg)<|t.eQ bu fg cC;clear eB fg E et N bu ef x ba ec bt bc hA
  all_goals
   have jG:=ub (dF bv) an.1 an.2.1 an.2.2.1 an.2.2.2 (λf g=>(bv.lt f g).2)<|gc w5 bf;have it:=an.2.2.2;clear bv gc an;go_wp2_with fail
   apply jG.mono;rintro X w4⟨kd,tm,rfl,F,cl,cs,au⟩;have K:I t.F V w4:=bf.bX au;have bg:=t.eQ fw au cC;have cs:=cs.base (base':=z<|G V) bf.size;have F:=fN (base':=z<|G V) F bf.size;have cB:y tm<=1000000:=by
    have h1:=bR y cl;rw[df]at h1;rw[h1];exact aB (wJ _) it
   rw[<-af gf]at cl;clear au;have ax:I t.F aV w4:=(hT.mono (T:=t.F) cC).trans K<|λ_ h=>.inl h;obtain⟨hB,gx,rfl⟩:=aC F;have mb:=K.size;have hg:=(ax.block _ (ar eb)<|bE _ r).trans eb;have hh:=(ax.block _ (ar fu)<|bE _<|by omega).trans fu;have ad:∀f,cz (J kf kb ia)=H f\/cz (J fr fl ej)=H f\/cz (J kk kc ib)=H f->f<c/\¬t.F f:=λf g=>H2.loc f<|hQ f g;have L:=VL (p.take A) tm (p.drop q) (z<|G a) (K.row bb.row<|λf g=>⟨(ad f<|.inl g).2,bb.lt f g⟩) (λf g=>by have:=(ad f<|.inl g).1;omega) (dF F) (λf g=>(bM F f g).2) (K.row fL.row<|λf g=>⟨(ad f<|.inr<|.inr g).2,fL.lt f g⟩) (λf g=>by have:=(ad f<|.inr<|.inr g).1;omega) (by simp;omega) (by omega) 91;obtain⟨w,bl⟩:∃w,y (p.take A++tm++p.drop q)=w:=⟨_,rfl⟩;rw[bl]at L;have ge:=Y bl;have dx:=K.own cT<|λf g=>bE f (by have:=((bM cT) f g).1;omega);obtain⟨gb,hS,ba,hU,hJ,gk,gn⟩:=yu dx cs bg ax cl hg hh;clear F cl cs bg K ax hg hh bl dx ad;go_wp2_with fail
   apply L.mono;rintro X w5⟨v5,rfl,eA,ao⟩;obtain⟨xm,gt,rfl⟩:=aC eA;have Bj:=(ao.block _ (ar gk) id).trans gk;have B:=(ao.block _ (ar gn) id).trans gn;have p0:=cellAt Bj 0 rfl;have f0:=cZ (i:=0) Bj;have q0:=cellAt B 0 rfl;have k0:=cZ (i:=0) B;have p1:=cellAt Bj 1 rfl;have f1:=cZ (i:=1) Bj;have q1:=cellAt B 1 rfl;have k1:=cZ (i:=1) B;have p2:=cellAt Bj 2 rfl;have f2:=cZ (i:=2) Bj;have q2:=cellAt B 2 rfl;have k2:=cZ (i:=2) B;have p3:=cellAt Bj 3 rfl;have f3:=cZ (i:=3) Bj;have q3:=cellAt B 3 rfl;have k3:=cZ (i:=3) B;have fz:=Y (show∀(i1 i2:M)(z1 z2 u0 u1 u2 u3:ab)(wf:Z),wf=cA (cA (cA (cA (cA (cA w5 (R (z<|G a) i1) z1) (R (z<|G a) i2) z2) (R (z (G a)+1) 0) u0) (R (z (G a)+1) 1) u1) (R (z (G a)+1) 2) u2) (R (z (G a)+1) 3) u3->wf.heap[z (G a)+1]?=H (ay #[u0,u1,u2,u3] 93 (0,0))/\wf.ownsRow (z<|G a) 189 1 (J xl nl gs) nl ((j.take o++j.drop j1).map bw.ptr)/\wf.ownsRow (z<|G a) 189 1 (J xm w gt) w ((p.take A++tm++p.drop q).map bw.ptr)/\pV wf (z<|G a) tm/\t.D wf/\I t.F a wf from by
    rintro i1 i2 z1 z2 u0 u1 u2 u3 wf rfl;have lt:((cA (cA w5 (R (z<|G a) i1) z1) (R (z<|G a) i2) z2)).heap[z (G a)+1]?=H (ay #[aw,aw,aw,aw] 93 (0,0)):=(iL _<|by omega).trans<|(iL _<|by omega).trans B;have cx:I (λf=>f=z (G a)\/f=z (G a)+1) w5 (cA (cA (cA (cA (cA (cA w5 (R (z<|G a) i1) z1) (R (z<|G a) i2) z2) (R (z (G a)+1) 0) u0) (R (z (G a)+1) 1) u1) (R (z (G a)+1) 2) u2) (R (z (G a)+1) 3) u3):=((((((I.refl _ w5).setCell _ _ _<|.inl<|.inl rfl).setCell _ _ _<|.inl<|.inl rfl).setCell _ 0 _<|.inl<|.inr rfl).setCell _ 1 _<|.inl<|.inr rfl).setCell _ 2 _<|.inl<|.inr rfl).setCell _ 3 _<|.inl<|.inr rfl;have iv:=Hy (a':=u0) (b':=u1) (c':=u2) (d':=u3) lt;generalize cA (cA (cA (cA (cA (cA w5 (R (z<|G a) i1) z1) (R (z<|G a) i2) z2) (R (z (G a)+1) 0) u0) (R (z (G a)+1) 1) u1) (R (z (G a)+1) 2) u2) (R (z (G a)+1) 3) u3=wf at*;have ea:∀f,(f=z (G a)\/f=z (G a)+1)->∃hC,w5.heap[f]?=H (ay hC 93 (0,0)):=by
     rintro f(rfl|rfl)
     .exact⟨_,Bj⟩
     .exact⟨_,B⟩
    have bp:∀{cE n xs},w5.ownsRow (z<|G a) 189 1 cE n xs->wf.ownsRow (z<|G a) 189 1 cE n xs:=λkx=>cx.own kx (λf g gr=>by
     obtain⟨hC,eu⟩:=ea f gr;obtain⟨lm,hn⟩:=fS kx g;exact lj eu hn (by decide) rfl)
    refine⟨iv,bp<|ao.own gb<|λ_ _ gr=>gr,bp eA,?_,t.eQ (t.eQ ba ao cC) cx<|λf g=>bE f (by rcases g with gr|gr<;>omega),?_⟩
    .refine((hS.ap ao).other cx<|λf g=>?_).base (by omega);obtain⟨hC,eu⟩:=ea f g;exact⟨hC,_,_,eu,by decide,by decide,by decide⟩
    .exact(((HW.mono (T:=t.F) cC).trans hU (λ_ h=>.inl h)).bX ao).trans cx (λf g=>.inr (by rcases g with gr|gr<;>omega)))
   clear eA ao Bj B L;go_wp2;obtain⟨r1,r2,r3,r4,r5,r6⟩:=fz _ _ _ _ _ _ _ _ _ rfl;refine ci (sG rfl _ _ (z (G a)+1) _ _ _ _ _ _ rfl r1 ⟨_,_,_,rfl⟩ ⟨_,_,_,rfl⟩ ⟨_,_,_,rfl⟩ ⟨_,_,_,rfl⟩) rfl ?_;have cn:=af HJ;subst cn;refine⟨xl,nl,gs,xm,w,gt,tm,o,hj,A,q,rfl,?_,?_,?_,hJ,r4,r5,r6⟩
   .rw[af hM,af hN];exact hK
   .rw[af hR];exact r2
   .rw[af ge];exact r3
structure PR(n:M)(rs:dK):Prop where
 ph:jO rs
 mq:∀r∈rs,dL r
 iK:∀x∈rs.flatten,x.Good
 low:∀x∈rs.flatten,x.bL<=n
def tJ(h:w.Good):w.key≠⟨#[]⟩:=λe=>by
 have:=h.TA;rw[e]at this;simp[ByteArray.size]at this
def PR.keys(h:PR b l):∀x∈l.flatten,x.key≠⟨#[]⟩:=λx a=>tJ<|h.iK x a
def Lh{a D:dK}:w∈(l++a++D).flatten↔w∈l.flatten\/w∈a.flatten\/w∈D.flatten:=by
 grind
def PR.Yq{C a M' D:dK}(h:PR b (C++a++D))(g:jO M')(j:∀r∈M',dL r)(d:∀x∈M'.flatten,x∈a.flatten):PR b (C++M'++D):=by
 have f:∀x,x∈(C++M'++D).flatten->x∈(C++a++D).flatten:=by grind
 refine⟨Qi h.ph g d,λr i=>?_,λx c=>h.iK x<|f x c,λx c=>h.low x<|f x c⟩;rcases aE.1 i with e|e;rcases aE.1 e with e|e;exact h.mq r (by simp[e]);exact j r e;exact h.mq r<|by simp[e]
def PR.cons(i:PR b l)(t:b<=c)(n:dL e)(m:∀x∈e,x.Good)(g:∀x∈e,(b:U)<x.bL)(f:∀x∈e,x.bL<=c):PR c (e::l):=by
 refine⟨?_,?_,?_,?_⟩;unfold jO;rw[bA];refine⟨λr h o j p k _=>?_,i.ph⟩;have q:=i.low p<|bB.2 ⟨r,h,k⟩;have s:=g o j;omega;intro r h;rcases bD.1 h with rfl|d;exact n;exact i.mq r d;intro x a;rw[bP,aE]at a;rcases a with d|d;exact m x d;exact i.iK x d;intro x a;rw[bP,aE]at a;rcases a with d|d;exact f x d;have:=i.low x d;omega
theorem PR.Kg(h:PR b l):PR b ([]::l):=h.cons (ai _) dL.nil (by simp) (by simp)<|by simp
def EW(a:dK)(k:ae):seen ([]::a) k=seen a k:=by
 unfold seen;rw[pN,Re,lS]
def bZ(a b c d:cN):dK:=(a.map bw.all).reverse++[cf b,cf c,cf d]
def Dr(a b c d:cN)(t:bw):bZ (a++[t]) b c d=t.all::bZ a b c d:=by simp[bZ]
def lI(h:j.map bw.all=gP e):cf j=e:=by
 unfold cf;rw[h];exact vi e
theorem KP(h:j.isEmpty=cq):cf j=[]:=by
 rw[List.isEmpty_iff]at h;rw[h];rfl
def PR.row(h:PR b l):∀r∈l,gL r:=λr a=>⟨h.mq r a,λe c=>h.keys e<|bB.2 ⟨r,a,c⟩⟩
def fy(t:U)(a:dK)(k:ae):Option ae:=seen (a.map<|jR t) k
def xJ{C Mqq M' D:dK}(h:AB (Mqq.map<|jR k) (M'.map<|jR k) (D.map<|jR k))(a:ae):fy k (C++M'++D) a=fy k (C++Mqq++D) a:=by
 unfold fy;grind[map_append,Sx]
theorem ma(t:U)(a:dK)(k:ae):fy t ([]::a) k=fy t a k:=by
 unfold fy;rw[bV,show jR t []=[]from rfl];exact EW _ k
def OT(h:∀r∈l,r=[])(c:ae):rk (l.map<|jR k) c=none:=QS (λr a=>by obtain⟨s,b,rfl⟩:=bJ.1 a;rw[h s b];rfl) c
def NI{c:cN}(h:PR b (bZ j p r s))(g:c.map bw.all=gP (ri n (r.isEmpty&&s.isEmpty) j p)):dL (cL<|cf p::j.map bw.all)/\dL (ri n (r.isEmpty&&s.isEmpty) j p)/\PR b (bZ [] c r s)/\(∀t,(t∈n\/(b:U)<=t)->∀k,fy t (bZ [] c r s) k=fy t (bZ j p r s) k)/\y (cf c)<=y (cf j)+y (cf p):=by
 have C:cf c=ri n (r.isEmpty&&s.isEmpty) j p:=lI g;have a:bZ j p r s=[]++((j.map bw.all).reverse++[cf p])++[cf r,cf s]:=by simp[bZ]
 have d:bZ [] c r s=[]++[ri n (r.isEmpty&&s.isEmpty) j p]++[cf r,cf s]:=by simp[bZ,C]
 rw[a]at h;have v:∀m∈j.map bw.all,gL m:=λm a=>h.row m (by grind);have o:gL (cf p):=h.row _ (by simp);have u:jO ((j.map bw.all).reverse++[cf p]):=(bQ.1 h.ph).1;obtain⟨A,l,B⟩:=yF (ms:=n) (lowest:=r.isEmpty&&s.isEmpty) v o u;have e:∀x∈[ri n (r.isEmpty&&s.isEmpty) j p].flatten,x∈((j.map bw.all).reverse++[cf p]).flatten:=by intro x f;rw[bP,iD,dP]at f;have:=yW _ _ _ x f;rw[bP,aE]at this;rw[eK,aE,bP,iD,dP];grind[mem_flatten,mem_reverse]
 refine⟨A,l,?_,λt w k=>?_,?_⟩;rw[d];exact h.Yq (by unfold jO;simp) (by intro m a;simp only[bD,gZ,ol]at a;subst a;exact l) e;rw[a,d];refine xJ (B t [cf r,cf s] (w.imp_right<|λq x f=>uX (h.low x<|Lh.2<|.inr<|.inl f) q)<|λi k=>?_) k;rw[lW]at i;exact OT (by intro m a;simp only[bD,gZ,ol]at a;grind[KP]) k;rw[C];have D:=(sJ n (r.isEmpty&&s.isEmpty)<|cf p::j.map bw.all).length_le;have E:=(jj n<|cL<|cf p::j.map bw.all).length_le;have i:=(eH<|cf p::j.map bw.all).length_eq;rw[bP,ag]at i;have:(j.map bw.all).flatten=cf j:=rfl;rw[this]at i;unfold ri;omega
theorem Ru(l:cS W)(j:M)(h:j<y l):l=l.take j++[l[j]]++l.drop (j+1):=by
 rw[bz,jw,kF,bY]
theorem VI(l:cS W){p q:M}(h:p<=q):l=l.take p++(l.drop p).take (q-p)++l.drop q:=by
 have a:l.drop q=(l.drop p).drop (q-p):=by rw[List.drop_drop];congr 1;omega
 rw[bz,a,bY,bY]
def tN(h:((j++p).map bw.all).Pairwise gV):gV (cf j) (cf p):=by
 rw[aN,bQ]at h;intro x f c g;obtain⟨s,d,a⟩:=mh.1 f;obtain⟨t,e,b⟩:=mh.1 g;exact h.2.2 _ (nY d) _ (nY e) x a c b
def Kz{d c q:M}(hu:jY j)(i:jY p)(ho:Over (cf j) (cf p))(hg:∀x,x∈cf j\/x∈cf p->x.Good)(hj:d<y j)(hc:yB p (iT j[d].ks) (jl j[d].ks) c q)(w:r.map bw.all=gP (ri n K [j[d]]<|(p.drop c).take<|q-c)):dL (ri n K [j[d]]<|(p.drop c).take<|q-c)/\dL (cf<|p.take c++r++p.drop q)/\((p.take c++r++p.drop q).map bw.all).Pairwise gV/\(∀(g:U)(av:dK),(g∈n\/∀x,x∈cf j\/x∈cf p->x.bL<=g)->(K=cq->∀ax,rk (av.map<|jR g) ax=none)->AB ([cf j,cf p].map<|jR g) ([cf<|j.take d++j.drop (d+1),cf<|p.take c++r++p.drop q].map<|jR g) (av.map<|jR g))/\Over (cf<|j.take d++j.drop (d+1)) (cf<|p.take c++r++p.drop q)/\(∀x,x∈cf (j.take d++j.drop (d+1))\/x∈cf (p.take c++r++p.drop q)->x∈cf j\/x∈cf p)/\(∀x∈cf r,x∈cf j\/x∈cf p)/\y (cf<|j.take d++j.drop (d+1))+y (cf<|p.take c++r++p.drop q)<=y (cf j)+y (cf p):=by
 have A:cf r=gO n K [cf<|(p.drop c).take<|q-c,j[d].all]:=lI w;have h:cf [j[d]]=j[d].all:=by simp[cf]
 have D:cf j=cf (j.take d)++j[d].all++cf (j.drop<|d+1):=by grind[Ru,fG]
 have E:cf p=cf (p.take c)++cf ((p.drop c).take<|q-c)++cf (p.drop q):=by grind[VI,yB.le,fG]
 have hP:=hu.pure j[d]<|ak hj;have W:∀B∈cf (p.take c),∀g∈j[d].all,iZ B.key g.key=cq:=by intro B m g k;obtain⟨au,o,l⟩:=mh.1 m;obtain⟨al,hi,rfl⟩:=gQ.1 o;(have e:al<c/\al<y p:=by rw[dj]at hi;omega);rw[gM]at l;have F:=(i.pure p[al]<|ak e.2).CG l;have L:=hc.WG.low al e.2 e.1;have t:=hP.xe k;exact Np (wW F L) t
 have X:∀B∈j[d].all,∀g∈cf (p.drop q),iZ B.key g.key=cq:=by intro B m g k;obtain⟨au,o,l⟩:=mh.1 k;obtain⟨al,hi,rfl⟩:=gQ.1 o;(have e:q+al<y p:=by rw[ic]at hi;omega);rw[kg]at l;(have N:q<y p:=by omega);have F:=hc.behind N;have L:=hP.CG m;obtain⟨x,b,ad⟩:=(i.pure p[q]<|ak N).Gt;(have t:iZ g.key (iT p[q].ks)=bj:=by rcases gp al with rfl|ao;exact(i.pure p[q]<|ak N).xe l;rw[<-ad];exact lw<|i.pair N e (by omega) b l);exact Np (wW L F) t
 have O:((j.take d++([j[d]]++j.drop (d+1))).map bw.all).Pairwise gV:=by have:=hu.Cx;rw[Ru j d hj,bz]at this;exact this
 have Q:((p.take c++((p.drop c).take (q-c)++p.drop q)).map bw.all).Pairwise gV:=by have:=i.Cx;rw[VI p hc.le,bz]at this;exact this
 have C:=tN O;have T:=tN Q;rw[fG]at C T;rw[h]at C;have P:=(bQ.1 (by rw[aN]at O;exact O)).2.1;have S:=(bQ.1 (by rw[aN]at Q;exact Q)).2.1;have s:=tN P;have V:=tN S;rw[h]at s;have aa:gL (cf (j.take d)++j[d].all++cf (j.drop<|d+1)):=D▸⟨hu.mq,λA he=>tJ<|hg A<|.inl he⟩;have ac:gL (cf (p.take c)++cf ((p.drop c).take<|q-c)++cf (p.drop q)):=E▸⟨i.mq,λA he=>tJ<|hg A<|.inr he⟩;have u:=ho;rw[D,E]at u;obtain⟨r1,r2,r3,r4,r5,r6⟩:=Qg (ms:=n) (lowest:=K) aa ac u (λx b a f=>C x b a<|by simp[f]) (λx b a f=>C x b a<|by simp[f]) s (λx b a f=>T x b a<|by simp[f]) (λx b a f=>T x b a<|by simp[f]) V W X;have an:∀x∈gO n K [cf<|(p.drop c).take<|q-c,j[d].all],x∈j[d].all\/x∈cf ((p.drop c).take<|q-c):=by intro x b;have:=yW n K _ x b;grind
 have v:dL (gO n K [cf<|(p.drop c).take<|q-c,j[d].all]):=r2.mq.sub (by simp);refine⟨v,?_,?_,?_,?_,?_,?_,?_⟩;rw[fG,fG,A];exact r2.mq;rw[aN,aN,bQ,bQ];refine⟨⟨i.Cx.sublist<|(ni _ _).map _,by rw[w];exact DE v,λx b a f=>?_⟩,i.Cx.sublist<|(kh _ _).map _,λx b a f=>?_⟩;obtain⟨N,l,rfl⟩:=bJ.1 b;obtain⟨au,o,rfl⟩:=bJ.1 f;exactλB m g k=>r3 B (mh.2 ⟨N,l,m⟩) g (by rw[<-A];grind[mh]);obtain⟨au,o,rfl⟩:=bJ.1 f;rcases aE.1 b with b|b;(grind);obtain⟨N,l,rfl⟩:=bJ.1 b;exactλB m g k=>r4 B (by rw[<-A];grind[mh]) g<|mh.2 ⟨au,o,k⟩;intro g av k l;simp only[bV,gC];rw[fG,fG,fG,A,D,E];grind
 rw[fG,fG,fG,A];exact r5;grind[fG,mem_append]
 grind
 rw[fG,fG,fG,A,D,E];have F:=(sJ n K [cf<|(p.drop c).take<|q-c,j[d].all]).length_le;have L:=(jj n<|cL [cf<|(p.drop c).take<|q-c,j[d].all]).length_le;have t:=(eH [cf<|(p.drop c).take<|q-c,j[d].all]).length_eq;rw[bP,bP,iD,dP,ag]at t;grind
def Nc(h:Over e N):jO [e,N]:=by
 unfold jO;grind
def CD{C D:dK}(h:jO (C++[e,N]++D)):Over e N:=by
 have a:=(bQ.1 (bQ.1 h).1).2.1;grind
def NH{c:cN}{e h q:M}(i:PR b (bZ j p r s))(l:jY p)(o:jY r)(u:e<y p)(hcut:yB r (iT p[e].ks) (jl p[e].ks) h q)(g:c.map bw.all=gP (ri n s.isEmpty [p[e]]<|(r.drop h).take<|q-h)):PR b (bZ j (p.take e++p.drop (e+1)) (r.take h++c++r.drop q) s)/\(∀t,(t∈n\/(b:U)<=t)->∀k,fy t (bZ j (p.take e++p.drop (e+1)) (r.take h++c++r.drop q) s) k=fy t (bZ j p r s) k)/\dL (cf c)/\((r.take h++c++r.drop q).map bw.all).Pairwise gV/\(∀x∈cf c,x.Good)/\y (cf<|p.take e++p.drop (e+1))+y (cf<|r.take h++c++r.drop q)<=y (cf p)+y (cf r):=by
 have a:∀x d:cN,bZ j x d s=(j.map bw.all).reverse++[cf x,cf d]++[cf s]:=λx d=>by simp[bZ]
 rw[a]at i;have m:∀x,x∈cf p\/x∈cf r->x.Good:=λx d=>i.iK x (Lh.2<|.inr<|.inl<|by simpa using d);obtain⟨A,B,w,C,D,K,E,F⟩:=Kz l o (CD i.ph) m u hcut g;refine⟨?_,λt v k=>?_,by rw[lI g];exact A,w,λx d=>m x<|E x d,F⟩;rw[a];refine i.Yq (Nc D) (λL f=>?_)<|λx d=>?_;simp only[bD,gZ,ol]at f;rcases f with rfl|rfl;rw[fG];have:=l.mq.sub (nJ (us:=p.take e++p.drop (e+1)) (ts:=p)<|by grind[Ru,append_assoc,Sublist.refl,sublist_append_right]);rwa[fG]at this;exact B;grind
 rw[a,a];exact xJ (C t [cf s] (v.imp_right<|λq x d=>uX (i.low x<|Lh.2<|.inr<|.inl<|by simpa using d) q)<|λe k=>OT (by intro L a;simp only[bD,gZ,ol]at a;subst a;exact KP e) k) k
def NG{a:cN}{d h q:M}(i:PR b (bZ j p r s))(l:jY r)(o:jY s)(u:d<y r)(hcut:yB s (iT r[d].ks) (jl r[d].ks) h q)(f:a.map bw.all=gP (ri n cq [r[d]]<|(s.drop h).take<|q-h)):PR b (bZ j p (r.take d++r.drop (d+1))<|s.take h++a++s.drop q)/\(∀t,(t∈n\/(b:U)<=t)->∀k,fy t (bZ j p (r.take d++r.drop (d+1))<|s.take h++a++s.drop q) k=fy t (bZ j p r s) k)/\dL (cf a)/\((s.take h++a++s.drop q).map bw.all).Pairwise gV/\(∀x∈cf a,x.Good)/\y (cf<|r.take d++r.drop (d+1))+y (cf<|s.take h++a++s.drop q)<=y (cf r)+y (cf s):=by
 have g:∀x c:cN,bZ j p x c=((j.map bw.all).reverse++[cf p])++[cf x,cf c]++[]:=λx c=>by simp[bZ]
 rw[g]at i;have m:∀x,x∈cf r\/x∈cf s->x.Good:=λx c=>i.iK x (Lh.2<|.inr<|.inl<|by simpa using c);obtain⟨A,B,w,C,D,K,E,F⟩:=Kz l o (CD i.ph) m u hcut f;refine⟨?_,λt v k=>?_,by rw[lI f];exact A,w,λx c=>m x<|E x c,F⟩;rw[g];refine i.Yq (Nc D) (λL e=>?_)<|λx c=>?_;simp only[bD,gZ,ol]at e;rcases e with rfl|rfl;rw[fG];have:=l.mq.sub (nJ (us:=r.take d++r.drop (d+1)) (ts:=r)<|by grind[Ru,append_assoc,Sublist.refl,sublist_append_right]);rwa[fG]at this;exact B;grind
 rw[g,g];exact xJ (C t [] (v.imp_right<|λq x c=>uX (i.low x<|Lh.2<|.inr<|.inl<|by simpa using c) q)<|λd k=>xS k) k
def xN(s:j.map bw.all=gP e)(p:∀t∈j,UL a b t)(m:dL e)(g:qF 5 e)(o:∀x∈e,x.Good):∀t∈j,tj t.ks t.cs/\Jc (bK 0 t.cs)/\t.ks=bK 0 t.cs/\y t.all<=100:=by
 intro t q;obtain⟨r,h,x,i,k⟩:=p t q;have l:t.all∈gP e:=by rw[<-s];grind
 have n:=PV g _ l;have c:=Ba l;have f:=DF e _ l;have d:∀x∈t.all,x.Good:=λx e=>o x<|c.subset e;refine⟨?_,k.pieces.idx f d (m.sub c) n,k.ks,n⟩;rw[k.ks];exact k.pieces.nR f d<|m.sub c
def FH(h:j.map bw.all=gP e)(g:∀t∈j,UL a b t)(d:dL e)(c:qF 5 e)(f:∀x∈e,x.Good):jY j:=⟨λt i=>(xN h g d c f t i).1,by rw[lI h];exact d,by rw[h];exact DE d⟩
def qy{c:Func}{F S:Tmp}(T:c.results=#[.cell F 126,.tmp S])(a:Array ab)(w:Z)(g:M)(n A k:U)(e f h i:ab)(Q:TypeId)(d:M×M)(r:a.getD F iA=aA g)(p:w.heap[g]?=H (ay #[aG n,aG A,aG k,e,f,h,i] Q d))(j:∃x n k,e=J x n k)(l:∃x n k,f=J x n k)(m:∃x n k,h=J x n k)(o:∃x n k,i=J x n k):(results c a).run aZ w=.ok (dd #[dE #[aG n,aG A,aG k,e,f,h,i],a.getD S iA]) w:=by
 obtain⟨K,B,s,rfl⟩:=j;obtain⟨L,C,t,rfl⟩:=l;obtain⟨N,D,u,rfl⟩:=m;obtain⟨O,E,v,rfl⟩:=o;have b:a[F]?.getD iA=aA g:=by simpa using r
 have q:=kq (P:=aZ) w g Q 126 #[aG n,aG A,aG k,J K B s,J L C t,J N D u,J O E v] d _ p underlying126 rfl (by kernel_rfl);simp[results,T,b,asAddr,q,Result.andThen]
def YH:ab:=dE #[aG 2,aG 1,aG 0,aw,aw,aw,aw]
def MC{db:M}{K:DK}(h:cH a db K)(hn:y K.files<=100000000)(hp:Pow a)(g:∀au∈K.files.map cX.name,au=⟨#[108,111,103,45,49]⟩):cD aZ 91 #[aA db] a λad w'=>ad=aJ (dd #[YH,.nilIface])/\I az a w':=by
 have o:I az a (cG (cG a<|ay #[aG 0,aG 0,aG 0,aw,aw,aw,aw] 126)<|ay #[aG 2,aG 1,aG 0,aw,aw,aw,aw] 126):=(cK az a).alloc _;have B:(cG (cG a<|ay #[aG 0,aG 0,aG 0,aw,aw,aw,aw] 126)<|ay #[aG 2,aG 1,aG 0,aw,aw,aw,aw] 126).heap[z<|G a]?=H (ay #[aG 0,aG 0,aG 0,aw,aw,aw,aw] 126 (0,0)):=(eU _<|by simp).trans<|aH _ rfl;have C:(cG (cG a<|ay #[aG 0,aG 0,aG 0,aw,aw,aw,aw] 126)<|ay #[aG 2,aG 1,aG 0,aw,aw,aw,aw] 126).heap[z (G a)+1]?=H (ay #[aG 2,aG 1,aG 0,aw,aw,aw,aw] 126 (0,0)):=aH _ (by simp);have F:=wS (db:=db) (K:=K) (h.ap o<|λ_ _=>id) hn;obtain⟨V,q,r,HP,HA⟩:=jm o B C hp g;clear h hp g o B C;go_in
 go_wp2_with fail
 apply F.mono;rintro ad w3⟨v3,f,rfl,n,m,e⟩;obtain⟨x3,c3,X⟩:=aC m;subst X;have A:=V.bX e;have D:=(e.block _ (ar q) id).trans q;have E:=(e.block _ (ar r) id).trans r;have an:y f<=100000000:=by have:=n.length_eq;grind
 have L:∀x∈f,x=⟨#[108,111,103,45,49]⟩:=λx hx=>HA x<|n.mem_iff.1 hx;obtain⟨w,x,s,t,S⟩:=jm m A D E L;clear m e A D E L n F;go_wp2;go_loopw [13] (λj wr=>∃(P:M),P<=y f/\j=aq P/\I az w3 wr) (λj _=>y f-(intOf j).toNat)
 case atStart=>exact⟨0,bH _,by go_num,I.refl _ _⟩
 (case round=>obtain⟨P,hj,rfl,i⟩:=hrel;have d:=(i.block _ (ar s) id).trans s;have b:=(i.block _ (ar t) id).trans t;by_cases l:P<y f;(·(have e1:(P:U)<(y f:U):=by omega);(have e2:(0:U)<=(P:U):=by omega);have N:=Na<|HP.ap (x.bX i) id;(have k:∃ac c,x3=H (R ac c)/\aS wr (R ac<|c+P)=H (am ⟨#[108,111,103,45,49]⟩):=by obtain⟨q1,⟨q2,q0⟩|⟨ao,Q,aa,q2,al,hc⟩⟩:=dF w;omega;cases q2;refine⟨ao,Q,rfl,?_⟩;(have hg:(strs f)[P]?=H (am f[P]):=by simp[strs,l]);rw[(af S) _<|ak l]at hg;exact i.cell (hc _ _ hg) id (w.lt ao rfl).2);obtain⟨ac,c,hx,k⟩:=k;subst hx;obtain⟨T,u,v⟩:=dz i d b;clear i d b;(go_wp2_with fail);apply N.mono;rintro ad w4⟨rfl,p⟩;have O:=(p.block _ (ar v) id).trans v;have y0:=cellAt O 0 rfl;have W:=Y<|T.bX p;clear p O N k;go_wp2;go_roundw;(case rel=>exact⟨P+1,l,by go_num,W⟩);case measure=>simp[intOf];omega);(have e1:¬(P:U)<(y f:U):=by omega);have y0:=cellAt b 0 rfl;have O:=cellAt b 1 rfl;have Q:=cellAt b 2 rfl;have W:=cellAt b 3 rfl;have y4:=cellAt b 4 rfl;have y5:=cellAt b 5 rfl;have y6:=cellAt b 6 rfl;(have N:∀j,wr.frozen? (R (z<|G a) j)=bj:=λj=>by simp[World.frozen?,d]);(have c:∀j,j<7->∃p,aS wr (R (z<|G a) j)=H p:=λj b=>by rw[bW d];simp_all);obtain⟨u0,z0⟩:=c 0 (by omega);obtain⟨u1,z1⟩:=c 1 (by omega);obtain⟨u2,z2⟩:=c 2 (by omega);obtain⟨u3,z3⟩:=c 3 (by omega);obtain⟨u4,z4⟩:=c 4 (by omega);obtain⟨u5,z5⟩:=c 5 (by omega);obtain⟨u6,z6⟩:=c 6 (by omega);have T:=Y i;have u:=Y d;clear i d b c;go_wp2;have k:=aL (i:=6) (u:=aw)<|aL (i:=5) (u:=aw)<|aL (i:=4) (u:=aw)<|aL (i:=3) (u:=aw)<|aL (i:=2) (u:=aG 0)<|aL (i:=1) (u:=aG 1)<|aL (i:=0) (u:=aG 2) u;refine ci (qy rfl _ _ (z<|G a) 2 1 0 _ _ _ _ _ _ rfl k ⟨_,_,_,rfl⟩ ⟨_,_,_,rfl⟩ ⟨_,_,_,rfl⟩ ⟨_,_,_,rfl⟩) rfl ?_;refine⟨rfl,?_⟩;have v:=x.bX T;exact((((((v.setCell _ 0 _<|.inr<|ai _).setCell _ 1 _<|.inr<|ai _).setCell _ 2 _<|.inr<|ai _).setCell _ 3 _<|.inr<|ai _).setCell _ 4 _<|.inr<|ai _).setCell _ 5 _<|.inr<|ai _).setCell _ 6 _<|.inr<|ai _)
def Gf(h:cH a b i)(O:y i.files<=100000000)(F:Pow a)(l:∀S∈i.files.map cX.name,S=⟨#[108,111,103,45,49]⟩)(E:dB (vw i.files) fo=none):cD aZ 51 #[aA b] a λL Q=>L=aJ (dd #[YH,.nilIface])/\I az a Q:=by
 obtain⟨e,f⟩:∃e,cG a (ay #[aG 0,aG 0,aG 0,aw,aw,aw,aw] 126)=e:=⟨_,rfl⟩;obtain⟨m,d⟩:∃m,cG e (ay #[am fo,aq 10] 204)=m:=⟨_,rfl⟩;have o:I az a e:=by rw[<-f];exact(cK az a)
 have k:I az a m:=by rw[<-d];exact o.alloc _
 have C:e.heap[z<|G a]?=H (ay #[aG 0,aG 0,aG 0,aw,aw,aw,aw] 126 (0,0)):=by rw[<-f];exact aH _ rfl
 have s:m.heap[z<|G a]?=H (ay #[aG 0,aG 0,aG 0,aw,aw,aw,aw] 126 (0,0)):=by rw[<-d];grind[eU,ar]
 have t:aS m (R (z<|G e) 1)=H (aq 10):=by(have:m.heap[z<|G e]?=H (ay #[am fo,aq 10] 204 (0,0)):=by rw[<-d];exact aH _ rfl);rw[bW this];rfl
 have j:=FT (db:=b) (K:=i) fo (w:=e) (h.ap o<|λ_ _=>id) E;rw[d]at j;unfold fo at j;have u:=OG (z<|G e) 10 m t;have n:=MC (db:=b) (K:=i) (h.ap k<|λ_ _=>id) O (F.ap k id) l;unfold YH at n|-;obtain⟨A,r,B⟩:=dz k s f;clear h F l E o k C s f d t;go_in
 go_wp2_with fail
 rw[af B];apply j.mono;rintro L D⟨rfl,P⟩;subst D;go_wp2_with fail
 apply u.mono;rintro L D⟨rfl,P⟩;subst D;go_wp2_with fail
 apply n.mono;rintro L K⟨rfl,p⟩;have g:=(p.block _ (ar r) id).trans r;have T:∀q,K.frozen? (R (z<|G a) q)=bj:=λq=>by simp[World.frozen?,g]
 have c:∀q,q<7->∃w,aS K (R (z<|G a) q)=H w:=λq b=>by rw[bW g];simp_all
 obtain⟨u0,V⟩:=c 0 (by omega);obtain⟨u1,W⟩:=c 1 (by omega);obtain⟨u2,X⟩:=c 2 (by omega);obtain⟨u3,z3⟩:=c 3 (by omega);obtain⟨u4,z4⟩:=c 4 (by omega);obtain⟨u5,z5⟩:=c 5 (by omega);obtain⟨u6,z6⟩:=c 6 (by omega);have N:=Y<|A.bX p;have x:=Y g;clear p g c j u n;go_wp2;have v:=aL (i:=6) (u:=aw)<|aL (i:=5) (u:=aw)<|aL (i:=4) (u:=aw)<|aL (i:=3) (u:=aw)<|aL (i:=2) (u:=aG 0)<|aL (i:=1) (u:=aG 1)<|aL (i:=0) (u:=aG 2) x;refine ci (qy rfl _ _ (z<|G a) 2 1 0 _ _ _ _ _ _ rfl v ⟨_,_,_,rfl⟩ ⟨_,_,_,rfl⟩ ⟨_,_,_,rfl⟩ ⟨_,_,_,rfl⟩) rfl ?_;refine⟨rfl,?_⟩;exact((((((N.setCell _ 0 _<|.inr<|ai _).setCell _ 1 _<|.inr<|ai _).setCell _ 2 _<|.inr<|ai _).setCell _ 3 _<|.inr<|ai _).setCell _ 4 _<|.inr<|ai _).setCell _ 5 _<|.inr<|ai _).setCell _ 6 _<|.inr<|ai _
def II{c:cN}(k:PR b (e::bZ j p r s))(i:c.map bw.all=gP (gK<|dH n<|cL<|e::bZ j p r s)):PR b (bZ [] [] [] c)/\(∀t,(t∈n\/(b:U)<=t)->∀o,fy t (bZ [] [] [] c) o=fy t (e::bZ j p r s) o)/\y (cf c)<=y e+y (cf j)+y (cf p)+y (cf r)+y (cf s):=by
 obtain⟨A,K⟩:∃A,A=(e::((j.map bw.all).reverse++[cf p,cf r])).reverse:=⟨_,rfl⟩;have f:e::bZ j p r s=A.reverse++[cf s]:=by rw[K,List.reverse_reverse];simp[bZ]
 have L:(cf s::A).Perm (e::bZ j p r s):=by rw[f];grind[perm_append_comm,reverse_perm]
 have w:cL (cf s::A)=cL (e::bZ j p r s):=sL k.mq k.ph L;have a:=k.row;rw[f]at a;have m:=k.ph;rw[f]at m;obtain⟨Q,O,u⟩:=yF (A:=A) (b:=cf s) (ms:=n) (lowest:=cq) (λr b=>a r<|by simp[b]) (a _<|by simp) m;have B:gO n cq (cf s::A)=gK (dH n<|cL<|e::bZ j p r s):=by unfold gO;rw[dW rfl,w]
 rw[B]at O u;have v:cf c=gK (dH n<|cL<|e::bZ j p r s):=lI i;have h:∀x∈cf c,x∈(e::bZ j p r s).flatten:=λx d=>by rw[v]at d;exact(eH _).mem_iff.1<|(jj n _).subset<|(km _).subset d
 have g:bZ [] [] [] c=[[],[],cf c]:=by simp[bZ,cf]
 refine⟨?_,λt N o=>?_,?_⟩;rw[g];(have l:PR b ([]++(e::bZ j p r s)++[]):=by simpa using k);have E:=l.Yq (M':=[cf c]) (by unfold jO;simp) (by grind) (λx d=>h x<|by simpa using d);grind[PR.Kg]
 rw[g,ma,ma];have:=xJ (C:=[]) (Mqq:=A.reverse++[cf s]) (M':=[gK<|dH n<|cL<|e::bZ j p r s]) (D:=[]) (u t [] (N.imp_right<|λq x d=>uX (k.low x (by rw[f];exact d)) q)<|λ_ o=>rfl) o;rw[<-f,<-v]at this;grind
 rw[v];have l:=(km<|dH n<|cL<|e::bZ j p r s).length_le;have E:=(jj n<|cL<|e::bZ j p r s).length_le;have F:=(eH<|e::bZ j p r s).length_eq;(have P:y ((j.map bw.all).reverse).flatten=y (cf j):=by have:=((tz<|j.map bw.all).flatten).length_eq;rw[this];rfl);rw[bP,ag]at F;grind
