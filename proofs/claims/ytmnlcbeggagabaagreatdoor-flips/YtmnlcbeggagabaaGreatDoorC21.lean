import Derived.Test.YtmnlcbeggagabaaGreatDoorC19
open _root_ renaming List.length→y,Option.some→H,Array.size→z,Go.World.heap→G,Go.Value.ownBlock→cz,Go.World.cell?→aS,Go.World.setCell→cA,Go.World.alloc→cG,Bool.false→bj,Bool.true→ci,Nat→M,Int→U,List→cS,Go.Calls→cD,Go.undef→ix,Go.Proofs.Tryz.prog→aZ,Go.Value.slice→J,Go.Value.string→am,Go.Value.bool→aK,Go.Value.tuple→dd,Go.Value.agg→dD
namespace Go.Proofs.YtmnlcbeggagabaaGreatDoor
open ChangeShapes WideShapes RowKit Proofs.Tryz List
set_option maxHeartbeats 16000000
set_option linter.all false
set_option maxRecDepth 100000
variable{a:Z}{b c g m:M}{d u P:ab}{e N:cI}{i:DK}{j p r s:cN}{k D:U}{l:dJ}{n:dN}{t:iL}{w:E}{K:Bool}{W:Type}
def sE{c:Func}{E Q:Tmp}(S:c.results=#[.cell E 93,.tmp Q])(a:Array ab)(w:Z)(g:M)(e f h i:ab)(O:TypeId)(d:M×M)(r:a.getD E ix=aA g)(p:w.heap[g]?=H (ay #[e,f,h,i] O d))(j:∃x n k,e=J x n k)(l:∃x n k,f=J x n k)(m:∃x n k,h=J x n k)(o:∃x n k,i=J x n k):(results c a).run aZ w=.ok (dd #[dD #[e,f,h,i],a.getD Q ix]) w:=by
 obtain⟨F,A,s,rfl⟩:=j;obtain⟨K,B,t,rfl⟩:=l;obtain⟨L,C,u,rfl⟩:=m;obtain⟨N,D,v,rfl⟩:=o;have b:a[E]?.getD ix=aA g:=by simpa using r
 have q:=kj (P:=aZ) w g O 93 #[J F A s,J K B t,J L C u,J N D v] d _ p underlying93 rfl (by kernel_rfl);simp[results,S,b,asAddr,q,Result.andThen]
def Hx{e f g h a' b' c' d':ab}{t:TypeId}{c:M×M}(j:a.heap[b]?=H (ay #[e,f,g,h] t c)):(cA (cA (cA (cA a (R b 0) a') (R b 1) b') (R b 2) c') (R b 3) d').heap[b]?=H (ay #[a',b',c',d'] t c):=by
 have d:=aL (i:=3) (u:=d')<|aL (i:=2) (u:=c')<|aL (i:=1) (u:=b')<|aL (i:=0) (u:=a') j;rw[d];simp
def Rp(hX:¬t.Xp)(S g f:M)(x1 x A:Option Addr)(n1 v w c1 c2 c3:M)(d:cN)(O P:cN)(bv:Row a 1 (aY S g (y d) f) (y d) (d.map bw.ptr))(ba:S<b/\¬t.F S)(cl:∀en∈d,mV t b en.tb en.ks en.cs a)(h1:rB t b (J x1 n1 c1) j a)(ed:Row a 1 (J x v c2) (y O) (O.map bw.ptr))(ef:Row a 1 (J A w c3) (y P) (P.map bw.ptr))(dT:∀k,cz (J x v c2)=H k->k<b/\¬t.F k)(ea:∀k,cz (J A w c3)=H k->k<b/\¬t.F k)(hD:t.D a)(s:b<=z (G a))(hF:∀k,t.F k->k<b)(hT:Steps a)(cu:1<b/\¬t.F 1)(bi:y d+y j+y O+y P<=1000000)(p:dN)(mx:Option Addr)(mc:M)(hm:Row a 1 (J mx (y p) mc) (y p) (p.map<|Value.int .u64))(bd:∀k,cz (J mx (y p) mc)=H k->k<b/\¬t.F k)(cE:y p<=4)(c:Bool)(bl:c=(O.isEmpty&&P.isEmpty))(hs:dK (cL<|bZ j::d.map bw.all))(hg:∀ex∈cL (bZ j::d.map bw.all),ex.Good)(hl:y (cL<|bZ j::d.map bw.all)<=1000000):cD aZ 111 #[dD #[aY S g (y d) f,J x1 n1 c1,J x v c2,J A w c3],aq 0,J mx (y p) mc] a λC K=>∃F bn B,∃e:cN,C=aJ (dd #[dD #[aw,J F bn B,J x v c2,J A w c3],.nilIface])/\K.ownsRow (z<|G a) 189 1 (J F bn B) (y e) (e.map bw.ptr)/\e.map bw.all=gL (rf p c d j)/\pU K (z<|G a) e/\t.D K/\I t.F a K:=by
 have V:I az a (cG (cG a<|ay #[aY S g (y d) f,J x1 n1 c1,J x v c2,J A w c3] 93)<|ay #[aw,aw,aw,aw] 93):=(cK _ a).alloc _;generalize bc:cG (cG a<|ay #[aY S g (y d) f,J x1 n1 c1,J x v c2,J A w c3] 93) (ay #[aw,aw,aw,aw] 93)=br at V;have bb:br.heap[z<|G a]?=H (ay #[aY S g (y d) f,J x1 n1 c1,J x v c2,J A w c3] 93 (0,0)):=by rw[<-bc];grind[eU,aH]
 have cm:br.heap[z (G a)+1]?=H (ay #[aw,aw,aw,aw] 93 (0,0)):=by rw[<-bc];exact aH _<|by simp
 have an:∀r,I az a r->kw t b az a r:=λr ht=>ht.same s cC cC;have bu:∀k,b<=k->¬t.F k:=λk o dk=>by have:=hF k dk;omega
 have cB:∀r,I t.F br r->Cy r (z<|G a) 0 [(aY S g (y d) f,d),(J x1 n1 c1,j),(J x v c2,O),(J A w c3,P)]:=by
  intro r ad;have bm:∀dc c,Row a 1 dc (y c) (c.map bw.ptr)->(∀k,cz dc=H k->k<b/\¬t.F k)->Row r 1 dc (y c) (c.map bw.ptr):=λdc c hr o=>
   ad.row (V.row hr<|λk C=>⟨id,ah (o k C).1 s⟩) (λk C=>⟨(o k C).2,ah (o k C).1<|aB s V.size⟩)
  have hz:z (G a)<=z (G r):=aB V.size ad.size;have bx:=(ad.block _ (ar bb)<|bu _ s).trans bb;have bt:∀au dc,(#[aY S g (y d) f,J x1 n1 c1,J x v c2,J A w c3]:Array ab)[au]?=H dc->aS r (R (z<|G a)<|0+au)=H dc:=by
   intro au dc hv;rw[bV bx,dr];exact hv
  refine⟨rfl,λau hi=>?_,λau hi=>?_,λau hi k o=>?_,by simp[lV];omega⟩
  .match au,hi with
   |0,_=>grind
   |1,_=>grind
   |2,_=>grind
   |3,_=>grind
  .match au,hi with
   |0,_=>exact bm _ _ bv (λk C=>by cases C;exact ba)
   |1,_=>exact bm _ _ h1.row<|λk C=>h1.loc k C
   |2,_=>grind
   |3,_=>grind
  .match au,hi with
   |0,_=>cases o;grind
   |1,_=>exact ah (h1.loc k o).1<|aB s hz
   |2,_=>grind
   |3,_=>grind
 have D:∀r,I t.F br r->cD aZ 170 #[aA<|z<|G a,aq 2] r λC K=>C=aJ (aK c)/\K=r:=by intro r ad;have h:=BY (w:=r) (lb:=z<|G a) (lo:=0) 2 _ (cB _ ad) (by omega);(have he:jy [(aY S g (y d) f,d),(J x1 n1 c1,j),(J x v c2,O),(J A w c3,P)] 2=c:=by rw[bl];simp[jy]);rw[he]at h;exact h
 have al:∀q,cD aZ 169 #[aY S g (y d) f,J x1 n1 c1] (br.drewN q) λC K=>∃c,C=aJ (dd #[c,.nilIface])/\K.ownsRow (z<|G br) 170 4 c (y<|cL<|bZ j::d.map bw.all) (aI<|cL<|bZ j::d.map bw.all)/\t.D K/\I t.F (br.drewN q) K:=by intro q;have bm:I az a (br.drewN q):=V.of_heap rfl;have bi:=an _ bm;refine DT hX b S g f (J x1 n1 c1) d j ?_ ba (λen ht=>(cl en ht).same bi) (by omega) (h1.same bi) (t.eQ hD bm cC) (aB s bm.size) hF hl;intro au hi;obtain⟨_,⟨dk,_⟩|⟨b',em,bx,dk,_,hc⟩⟩:=bv.same bi (λk C=>by cases C;exact ba);cases dk;grind
 have cn:=FZ (V:=t) (W:=br) (ms:=p) (mx:=mx) (mc:=mc) (cL<|bZ j::d.map bw.all) (V.row hm<|λk C=>⟨id,ah (bd k C).1 s⟩) (λk C=>⟨ah (bd k C).1<|aB s V.size,(bd k C).2⟩) cE hs hl;have cp:∀r,I t.F br r->Steps r:=λr ht k o=>ht.cell (V.cell (hT k o) id hT.lt) cu.2<|ah hT.lt V.size;have cs:dK (rf p c d j)/\qE 5 (rf p c d j)/\(∀ex∈rf p c d j,ex.Good)/\y (rf p c d j)<=1000000:=sI hs hg hl cE;obtain⟨ca,cb,bo,dn,av,ce,aa,HW,bq⟩:=wY bb cm D al cn cp cs V bu;have er:∀e:cN,e.map bw.all=gL (rf p c d j)->y e<=100000000:=by intro e h;have:=bQ y h;rw[df]at this;have:=wI<|rf p c d j;omega
 have dx:=Y bc;have eu:=V.size;have cM:rf p c d j=if c then gI (dG p<|cL<|bZ j::d.map bw.all)else dG p (cL<|bZ j::d.map bw.all):=rfl;have aD:=Y cM;clear bv ba cl h1 ed ef dT ea hD hF hT cu bl hg hl hs hm bd bb cm an cB D al cn cp cs V bu bc cM;generalize cL (bZ j::d.map bw.all)=ML at*;generalize rf p c d j=ck at*;go_in
 go_wp2_with fail
 go_quiet(fail)
 rw[af dx];have al:=dn nq;go_wp2_with fail
 apply al.mono;rintro C Q⟨ej,rfl,u,ac,N⟩;have i:I t.F br Q:=(je t.F br nq).trans N<|λ_ h=>.inl h;obtain⟨n,l,rfl⟩:=aC u;have cT:=av.1 Q _ n l i u;have X:=Y ac;have aU:=Y i;clear u ac N i al;go_wp2_with fail
 apply cT.mono;rintro C W⟨vn,rfl,bh,bE⟩;have ao:I t.F br W:=aU.bW bE;have co:=t.eQ X bE cC;obtain⟨xn,ek,rfl⟩:=aC bh;have D:=bo W ao;have bs:=av.2 W _ xn ek bh;have db:=aU.size;obtain⟨ax,L,bp⟩:=dz co ao bh;clear bh co ao bE cT;cases c;(case' false=>obtain rfl:ck=dG p ML:=af aD;clear bs av aD;(go_wp2_with fail);apply D.mono;rintro C bT⟨rfl,ei⟩;subst bT;clear D;obtain⟨aF,aV,cc⟩:=dz (fM (base':=z<|G a) bp<|by omega) L ax;clear L ax bp aU X bo;generalize W=w3 at*);(case' true=>obtain rfl:ck=gI (dG p ML):=af aD;(go_wp2_with fail);apply D.mono;rintro C bT⟨rfl,ei⟩;subst bT;(go_wp2_with fail);apply bs.mono;rintro C w3⟨vb,rfl,bm,bx⟩;obtain⟨xn,ek,rfl⟩:=aC bm;obtain⟨aF,aV,cc⟩:=dz (fM (base':=z<|G a) bm (by have:=L.size;omega)) (L.bW bx)<|t.eQ ax bx cC;clear bm bx D bs L ax bp aU X bo av aD db)
 all_goals
  have ec:=ua (dE aF) aa.1 aa.2.1 aa.2.2.1 aa.2.2.2 (λk o=>(aF.lt k o).2)<|ce w3 aV;clear aF ce aa;go_wp2_with fail
  apply ec.mono;rintro C Q⟨ej,e,rfl,u,cv,bf,N⟩;have i:I t.F br Q:=aV.bW N;have ac:=t.eQ cc N cC;have et:=aV.size;obtain⟨n,l,rfl⟩:=aC u;have cw:=(i.block _ (ar ca)<|bq _ s).trans ca;have cx:=(i.block _ (ar cb)<|bq _<|by omega).trans cb;have es:=i.size;have bf:=bf.base (base':=z<|G a) (by omega);have hC:cD aZ 109 #[aY (z<|G Q) 0 3 3] (cG Q<|ay #[aw,J n (y e) l,aw] 91) λC K=>∃v',C=aJ v'/\K.ownsRow (z<|G a) 189 1 v' (y e) (e.map bw.ptr)/\I az Q K:=by
   have bt:∀au dc,(#[J none 0 0,J n (y e) l,aw]:Array ab)[au]?=H dc->aS (cG Q<|ay #[aw,J n (y e) l,aw] 91) (R (z<|G Q)<|0+au)=H dc:=by
    simp_all
   have eg:Row (cG Q<|ay #[aw,J n (y e) l,aw] 91) 1 (J n (y e) l) (y e) (e.map bw.ptr):=dE<|aX u _;have h:=sS (z<|G Q) 0 3 [(J none 0 0,[]),(J n (y e) l,e),(J none 0 0,[])] (cG Q<|ay #[aw,J n (y e) l,aw] 91) ?_ (by simp) ?_ ?_ (by simp) (by simp[lV];grind)
   .have e1:lV [(J none 0 0,[]),(J n (y e) l,e),(J none 0 0,[])]=y e:=by simp[lV]
    have e2:pJ [(J none 0 0,[]),(J n (y e) l,e),(J none 0 0,[])]=e.map bw.ptr:=by simp[pJ]
    rw[e1,e2]at h;apply h.mono;rintro C K⟨v',rfl,ho,ht⟩;exact⟨v',rfl,fM ho (by simp;omega),(cK az Q).bW ht⟩
   .grind
   .intro au hi;match au,hi with
    |0,_=>exact⟨rfl,.inl ⟨rfl,rfl⟩⟩
    |1,_=>exact eg
    |2,_=>exact⟨rfl,.inl ⟨rfl,rfl⟩⟩
   .intro au hi k o;match au,hi with
    |0,_=>cases o
    |1,_=>have:=(bK u k o).2;simp;omega
    |2,_=>cases o
  obtain⟨ds,X,dv,dm,ch,cj⟩:=kY bf ac i cv cw cx;clear u cv bf ac N i cw cx;go_wp2_with fail
  apply hC.mono;rintro C W⟨ev,rfl,bg,E⟩;obtain⟨F,B,rfl⟩:=aC bg;have Bi:=(E.block _ (ar ch) id).trans ch;have m:=(E.block _ (ar cj) id).trans cj;have p0:=cellAt Bi 0 rfl;have p1:=cellAt Bi 1 rfl;have p2:=cellAt Bi 2 rfl;have p3:=cellAt Bi 3 rfl;have f0:=cZ (i:=0) Bi;have f1:=cZ (i:=1) Bi;have q0:=cellAt m 0 rfl;have q1:=cellAt m 1 rfl;have q2:=cellAt m 2 rfl;have q3:=cellAt m 3 rfl;have g0:=cZ (i:=0) m;have g1:=cZ (i:=1) m;have g2:=cZ (i:=2) m;have g3:=cZ (i:=3) m;obtain⟨eq,L,eo⟩:=dz bg E m;have cd:=Y (show∀wf,wf=cA (cA (cA (cA (cA (cA W (R (z<|G a) 0) aw) (R (z<|G a) 1)<|J F (y e) B) (R (z (G a)+1) 0) aw) (R (z (G a)+1) 1)<|J F (y e) B) (R (z (G a)+1) 2)<|J x v c2) (R (z (G a)+1) 3) (J A w c3)->wf.heap[z (G a)+1]?=H (ay #[aw,J F (y e) B,J x v c2,J A w c3] 93 (0,0))/\wf.ownsRow (z<|G a) 189 1 (J F (y e) B) (y e) (e.map bw.ptr)/\pU wf (z<|G a) e/\t.D wf/\I t.F a wf from by
   rintro wf rfl;have hx:((cA (cA W (R (z<|G a) 0) aw) (R (z<|G a) 1)<|J F (y e) B)).heap[z (G a)+1]?=H (ay #[aw,aw,aw,aw] 93 (0,0)):=(iI _<|by omega).trans<|(iI _<|by omega).trans m;have bk:I (λk=>k=z (G a)\/k=z (G a)+1) W (cA (cA (cA (cA (cA (cA W (R (z<|G a) 0) aw) (R (z<|G a) 1)<|J F (y e) B) (R (z (G a)+1) 0) aw) (R (z (G a)+1) 1)<|J F (y e) B) (R (z (G a)+1) 2)<|J x v c2) (R (z (G a)+1) 3)<|J A w c3):=((((((I.refl _ W).setCell _ 0 _<|.inl<|.inl rfl).setCell _ 1 _<|.inl<|.inl rfl).setCell _ 0 _<|.inl<|.inr rfl).setCell _ 1 _<|.inl<|.inr rfl).setCell _ 2 _<|.inl<|.inr rfl).setCell _ 3 _<|.inl<|.inr rfl;have eb:=Hx (a':=aw) (b':=J F (y e) B) (c':=J x v c2) (d':=J A w c3) hx;generalize cA (cA (cA (cA (cA (cA W (R (z<|G a) 0) aw) (R (z<|G a) 1)<|J F (y e) B) (R (z (G a)+1) 0) aw) (R (z (G a)+1) 1)<|J F (y e) B) (R (z (G a)+1) 2)<|J x v c2) (R (z (G a)+1) 3) (J A w c3)=wf at*;have el:∀k,(k=z (G a)\/k=z (G a)+1)->∃b,W.heap[k]?=H (ay b 93 (0,0)):=by
    grind
   refine⟨eb,bk.own bg<|λk o dk=>?_,?_,t.eQ (t.eQ X E cC) bk<|λk o=>bq k (by rcases o with dk|dk<;>omega),?_⟩
   .grind[fR,ld]
   .refine((ds.ap E).other bk<|λk o=>?_).base (by omega);grind
   .exact(((HW.mono (T:=t.F) cC).trans dv (λ_ h=>.inl h)).bW E).trans bk (λk o=>.inr (by rcases o with dk|dk<;>omega)))
  clear bg E Bi m hC;go_wp2;obtain⟨r1,r2,r3,r4,r5⟩:=cd _ rfl;refine cg (sE rfl _ _ (z (G a)+1) aw (J F (y e) B) (J x v c2) (J A w c3) _ _ rfl r1 ⟨_,_,_,rfl⟩ ⟨_,_,_,rfl⟩ ⟨_,_,_,rfl⟩ ⟨_,_,_,rfl⟩) rfl ?_;exact⟨F,y e,B,e,rfl,r2,dm,r3,r4,r5⟩
theorem nG{us ts:cN}(h:us.Sublist ts):(bZ us).Sublist (bZ ts):=by
 induction h with
 |slnil=>grind
 |cons x _ a=>rw[xW];grind
 |cons_cons x _ a=>rw[xW,xW];grind
def jV.sub(h:jV p)(a:j.Sublist p):jV j:=⟨λt b=>h.pure t<|a.subset b,h.mh.sub<|nG a,h.Cw.sublist<|a.map _⟩
def Tm(i:iK a (aY b c (y j) g) j)(d:y j<=g)(f:m<=y j):iK a (J (if g=m then H (R b c)else H (R b<|c+m)) (y j-m)<|g-m) (j.drop m):=by
 by_cases h:g=m;(have e:y j=m:=by omega);rw[dV h,<-e,fZ,zo,show g-y j=0 by omega];exact i.empty c;rw[eI h];exact i.drop m f
def VL{w1:Z}{ta tbqq:cN}(a:M)(f:iK w1 d ta)(g:iK w1 u tbqq)(s:y ta+y tbqq<=10000000)(t:a<=z (G w1))(T:TypeId):cD aZ 109 #[aY (z<|G w1) 0 2 2] ((cG w1<|ay #[d,u] T).drew) λq j=>∃e,q=aJ e/\j.ownsRow a 189 1 e (y<|ta++tbqq) ((ta++tbqq).map bw.ptr)/\I az w1 j:=by
 have b:I az w1 ((cG w1<|ay #[d,u] T).drew):=(cK _ w1).of_heap rfl;have h:∀k v,(#[d,u]:Array ab)[k]?=H v->aS ((cG w1<|ay #[d,u] T).drew) (R (z<|G w1)<|0+k)=H v:=by simp_all
 have r:=sS (z<|G w1) 0 2 [(d,ta),(u,tbqq)] ((cG w1<|ay #[d,u] T).drew) ?_ (by simp) ?_ ?_ (by simp) (by simp[lV];omega);(have m:lV [(d,ta),(u,tbqq)]=y (ta++tbqq):=by simp[lV]);(have n:pJ [(d,ta),(u,tbqq)]=(ta++tbqq).map bw.ptr:=by simp[pJ]);rw[m,n]at r;apply r.mono;rintro q j⟨e,rfl,o,p⟩;exact⟨e,rfl,fM o (by simp;omega),b.bW p⟩;grind
 .intro k i;match k,i with
  |0,_=>exact b.row f.row<|λl c=>⟨id,f.lt l c⟩
  |1,_=>exact b.row g.row<|λl c=>⟨id,g.lt l c⟩
 .intro k i l c;match k,i with
  |0,_=>have:=f.lt l c;simp;omega
  |1,_=>have:=g.lt l c;simp;omega
def VK(e b f:cN)(c:M)(t:Row a 1 d (y e) (e.map bw.ptr))(i:∀k,cz d=H k->k<z (G a))(v:Row a 1 u (y b) (b.map bw.ptr))(j:∀k,cz u=H k->k<z (G a))(w:Row a 1 P (y f) (f.map bw.ptr))(l:∀k,cz P=H k->k<z (G a))(D:y e+y b+y f<=10000000)(E:c<=z (G a))(T:TypeId):cD aZ 109 #[aY (z<|G a) 0 3 3] (cG a<|ay #[d,u,P] T) λB p=>∃m,B=aJ m/\p.ownsRow c 189 1 m (y<|e++b++f) ((e++b++f).map bw.ptr)/\I az a p:=by
 have h:I az a (cG a<|ay #[d,u,P] T):=(cK _ a);have n:∀q v,(#[d,u,P]:Array ab)[q]?=H v->aS (cG a<|ay #[d,u,P] T) (R (z<|G a)<|0+q)=H v:=by simp_all
 have C:=sS (z<|G a) 0 3 [(d,e),(u,b),(P,f)] (cG a<|ay #[d,u,P] T) ?_ (by simp) ?_ ?_ (by simp) (by simp[lV];omega);(have r:lV [(d,e),(u,b),(P,f)]=y (e++b++f):=by simp[lV]);(have s:pJ [(d,e),(u,b),(P,f)]=(e++b++f).map bw.ptr:=by simp[pJ]);rw[r,s]at C;apply C.mono;rintro B p⟨m,rfl,x,A⟩;exact⟨m,rfl,fM x (by simp;omega),h.bW A⟩;grind
 .intro q o;match q,o with
  |0,_=>exact h.row t<|λk g=>⟨id,i k g⟩
  |1,_=>exact h.row v<|λk g=>⟨id,j k g⟩
  |2,_=>exact h.row w<|λk g=>⟨id,l k g⟩
 .intro q o k g;match q,o with
  |0,_=>have:=i k g;simp;omega
  |1,_=>have:=j k g;simp;omega
  |2,_=>have:=l k g;simp;omega
def Es{hH:Array ab}{kl:cS (ab×cN)}{ei:ab->ab->Array ab}(hX:¬t.Xp)(cM e l:M)(W xa xd:Option Addr)(fs hD na db nd dc:M)(br aU:cN)(h1:rB t c (aY cM e (y j) l) j a)(hm:y j<=l)(jE:0<y j)(h2:rB t c (J W fs hD) p a)(hu:Row a 1 (J xa na db) (y br) (br.map bw.ptr))(hv:Row a 1 (J xd nd dc) (y aU) (aU.map bw.ptr))(es:∀f,cz (J xa na db)=H f->f<c/\¬t.F f)(ev:∀f,cz (J xd nd dc)=H f->f<c/\¬t.F f)(ko:t.D a)(r:c<=z (G a))(hF:∀f,t.F f->f<c)(kt:Steps a)(hf:1<c/\¬t.F 1)(ls:y j+y p+y br+y aU<=1000000)(jC:jT p<=1000000000)(d:Bool)(hi:(b=1/\k=1/\D=3/\hH=#[J xa na db,aY cM e (y j) l,J W fs hD,J xd nd dc]/\kl=[((J xa na db:ab),br),(aY cM e (y j) l,j),(J W fs hD,p),(J xd nd dc,aU)]/\ei=(λmd fs=>#[J xa na db,md,fs,J xd nd dc])/\d=aU.isEmpty)\/(b=2/\k=2/\D=4/\hH=#[J xa na db,J xd nd dc,aY cM e (y j) l,J W fs hD]/\kl=[((J xa na db:ab),br),(J xd nd dc,aU),(aY cM e (y j) l,j),(J W fs hD,p)]/\ei=(λmd fs=>#[J xa na db,J xd nd dc,md,fs])/\d=ci))(ky:∀o(hj:o<y j),∀ws:cN,ws.Sublist p->dK (cL<|bZ ws::[j[o]].map bw.all)/\(∀me∈cL (bZ ws::[j[o]].map bw.all),me.Good)/\y (cL<|bZ ws::[j[o]].map bw.all)<=1000000)(Q:dN)(mx:Option Addr)(mc:M)(kv:Row a 1 (J mx (y Q) mc) (y Q) (Q.map<|Value.int .u64))(hr:∀f,cz (J mx (y Q) mc)=H f->f<c/\¬t.F f)(ho:y Q<=4):cD aZ 111 #[dD hH,aq k,J mx (y Q) mc] a λX s=>∃xl nl gs xm w gt,∃tm:cN,∃o,∃hj:o<y j,∃A q,X=aJ (dd #[dD<|ei (J xl nl gs)<|J xm w gt,.nilIface])/\yA p (iR j[o].ks) (jj j[o].ks) A q/\s.ownsRow (z<|G a) 189 1 (J xl nl gs) (y<|j.take o++j.drop (o+1)) ((j.take o++j.drop (o+1)).map bw.ptr)/\s.ownsRow (z<|G a) 189 1 (J xm w gt) (y<|p.take A++tm++p.drop q) ((p.take A++tm++p.drop q).map bw.ptr)/\tm.map bw.all=gL (rf Q d [j[o]]<|(p.drop A).take<|q-A)/\pU s (z<|G a) tm/\t.D s/\I t.F a s:=by
 have hW:I az a (cG (cG a<|ay hH 93)<|ay #[aw,aw,aw,aw] 93):=(cK _ a).alloc _;generalize cj:cG (cG a<|ay hH 93) (ay #[aw,aw,aw,aw] 93)=aV at hW;have aF:aV.heap[z<|G a]?=H (ay hH 93 (0,0)):=by rw[<-cj];grind[eU,aH]
 have gE:aV.heap[z (G a)+1]?=H (ay #[aw,aw,aw,aw] 93 (0,0)):=by rw[<-cj];exact aH _<|by simp
 have cp:∀f,c<=f->¬t.F f:=λf g gr=>by have:=hF f gr;omega
 have ex:∀m,I t.F aV m->Cy m (z<|G a) 0 kl:=by
  intro m O;have av:∀cE b,Row a 1 cE (y b) (b.map bw.ptr)->(∀f,cz cE=H f->f<c/\¬t.F f)->Row m 1 cE (y b) (b.map bw.ptr):=λcE b lp g=>
   O.row (hW.row lp<|λf X=>⟨id,ah (g f X).1 r⟩) (λf X=>⟨(g f X).2,ah (g f X).1<|aB r hW.size⟩)
  have hG:z (G a)<=z (G m):=aB hW.size O.size;have P:∀b cE,hH[b]?=H cE->aS m (R (z<|G a)<|0+b)=H cE:=by
   intro b cE jI;refine O.cell ?_ (cp _ r)<|ar aF;rw[bV aF,dr];exact jI
  rcases hi with⟨_,_,_,rfl,rfl,_⟩|⟨_,_,_,rfl,rfl,_⟩;all_goals
   refine⟨rfl,λb hi=>?_,λb hi=>?_,λb hi f g=>?_,by simp[lV];omega⟩
   .match b,hi with
    |0,_|1,_|2,_|3,_=>exact P _ _ rfl
   .match b,hi with
    |0,_|1,_|2,_|3,_=>first|exact av _ _ hu es|exact av _ _ h1.row h1.loc|exact av _ _ h2.row h2.loc|exact av _ _ hv ev
   .match b,hi with
    |0,_|1,_|2,_|3,_=>first|exact ah (es f g).1 (aB r hG)|exact ah (h1.loc f g).1 (aB r hG)|exact ah (h2.loc f g).1 (aB r hG)|exact ah (ev f g).1<|aB r hG
 have jH:∃S1 S2:Z->Prop,(∀m,I t.F aV m->S1 m/\S2 m)/\(∀i,S1 i->aS i (R (z<|G a) b)=H (aY cM e (y j) l))/\∀i,S2 i->aS i (R (z<|G a)<|b+1)=H (J W fs hD):=by refine⟨_,_,λm O=>?_,λi h=>h,λi h=>h⟩;(have P:∀b cE,hH[b]?=H cE->aS m (R (z<|G a) b)=H cE:=by intro b cE jI;refine O.cell ?_ (cp _ r)<|ar aF;rw[bV aF];exact jI);rcases hi with⟨rfl,_,_,rfl,_⟩|⟨rfl,_,_,rfl,_⟩<;>exact⟨P _ _ rfl,P _ _ rfl⟩
 obtain⟨S1,S2,hE,er,ck⟩:=jH;have fk:=hW.size;have cd:∀m,I az aV m->kw t c az a m:=λm ht=>(hW.bW ht).same r cC cC;have hI:k=(b:M)/\D=(b+2:M)/\(b=1\/b=2)/\jy kl (b+2)=d:=by rcases hi with⟨rfl,rfl,rfl,_,rfl,_,rfl⟩|⟨rfl,rfl,rfl,_,rfl,_,rfl⟩;exact⟨rfl,rfl,.inl rfl,by simp[jy]⟩;exact⟨rfl,rfl,.inr rfl,by simp[jy]⟩
 have bk:∀q,cD aZ 167 #[aA<|z<|G a,aq k] (aV.drewN q) λX s=>∃o:M,X=aJ (aq o)/\o<y j/\I az aV s:=by intro q;have av:=je az aV q;have hG:=ex _<|av.mono cC;rw[hI.1];refine(Ib (w:=(aV.drewN q)) (z<|G a) 0 b (ts1:=j) (by omega) (by rw[dr];exact er _ (hE _<|av.mono cC).1) (by rw[dr];exact ck _ (hE _<|av.mono cC).2) hG.lt ((h1.same<|cd _ av).mem<|aB r fk) ((h2.same<|cd _ av).mem<|aB r fk) h2.side.zZ jE jC).mono ?_;rintro X s⟨o,rfl,hj,lp⟩;exact⟨o,rfl,hj,av.bW<|I.aQ (S:=az) lp⟩
 have E:∀m,I t.F aV m->cD aZ 170 #[aA<|z<|G a,aq D] m λX s=>X=aJ (aK d)/\s=m:=by intro m O;have h:=BY (b+2) kl (ex m O) (by omega);rw[hI.2.2.2]at h;rw[hI.2.1];exact h
 clear hI;obtain⟨eb,fu,hL,HC,hP,HW,bE,hV,bd⟩:=wY aF gE E hE bk hW cp cj cd;obtain⟨H1,H2,HD,HF,HT,eg,hO,HM,ed⟩:=wY h1 h2 ko hF kt hf ky kv hr;clear h1 h2 hu hv es ev ko hF kt hf ky kv hr aF gE ex bk hW cp cj cd E hE;rcases hi with⟨rfl,rfl,rfl,rfl,rfl,rfl,dT⟩|⟨rfl,rfl,rfl,rfl,rfl,rfl,dT⟩
 all_goals
  clear dT;simp only[Nat.reduceAdd]at ck;have gj:=Y er;have bx:=Y ck;clear er ck;go_in
  go_wp2_with fail
  go_quiet(fail)
  rw[af hV];have bk:=hP nq;go_wp2_with fail
  apply bk.mono;rintro X w1⟨o,rfl,hj,fe⟩;have jA:=gj w1 (HC w1<|fe.mono cC).1;have x:=Y fe;clear fe bk;obtain⟨j1,cn⟩:∃j1,o+1=j1:=⟨_,rfl⟩;have e1:(o:U)+1=(j1:U):=by omega
  have e2:(o:U)<=(j1:U):=by omega
  have e3:(j1:U)<=(l:U):=by omega
  have e4:(j1:U)<=(y j:U):=by omega
  have e5:(o:U)<=(l:U):=by omega
  have e6:¬(l=o):=by omega
  have e7:¬(l-o=0):=by omega
  have e8:IntKind.i64.wrap (j1:U)=(j1:U):=by rw[bS];omega
  have e9:(0:U)<=(o:U):=by omega
  have ln:(y j:U)<=(l:U):=by omega
  have lo:j1-o=1:=by omega
  have HJ:=Y cn;clear cn;have ks:S1 w1.drew:=(HC _<|(x.bW<|cR az w1).mono cC).1;go_wp2_with fail
  rename_i QQ KK hd;refine dL S1 21 (by kernel_rfl) ?_;refine eR 0 ?_;iterate 18 (refine iC (v:=?_) ks rfl (by kernel_rfl) ma rfl ?_ ?_;rotate_left;(focus(intro i hX;have z0:=gj i hX;go_simp;try rfl));simp only[Act.put,eF,Nat.reduceAdd])
  apply ig;refine bC (i:=18) rfl rfl (by kernel_rfl) ?_;intro hY aa;go_simp;have en:iK w1 (aY cM e (y j) l) j:=((H1.same<|bd w1 x).mem<|aB r<|aB fk x.size);have lr:=x.size;have L:=VL (w1:=w1) (ta:=(j.take o)) (tbqq:=(j.drop j1)) (z<|G a) (en.take o<|by omega) (Tm en hm (by have:=af HJ;omega)) (by simp;omega) (by omega) 91;refine aa _ _ (λ_=>?_) ?_
  .exact(HC _<|((x.alloc _).bW<|cR az _).mono cC).1
  refine bC (i:=19) rfl rfl (by kernel_rfl) ?_;intro hZ ac;go_simp;apply L.mono;rintro X u⟨vl,rfl,cu,cB⟩;obtain⟨nl,ey⟩:∃nl,y (j.take o++j.drop j1)=nl:=⟨_,rfl⟩;rw[ey]at cu;have hR:=Y ey;clear ey;obtain⟨xl,gs,rfl⟩:=aC cu;have eo:S1 u:=(HC _<|(x.bW cB).mono cC).1;refine ac _ _ (λ_=>eo) ?_;refine bC (i:=20) rfl rfl (by kernel_rfl) ?_;intro lg ds;go_simp;refine ds _ _ (λ_=>eo) ?_;refine bC (i:=21) rfl rfl (by kernel_rfl) ?_;intro ll dv;go_simp;refine dv _ _ Fc ?_;refine eN (by kernel_rfl) ?_ _;show KK _ _;apply hd;generalize(if l=j1 then H ((R cM e):Addr)else H (R cM<|e+j1))=zz at*;have v:I az aV u:=x.bW cB;have N:=Y v;have gg:=Y cu;have lv:=v.size;have bh:iK u (aY cM e (y j) l) j:=((H1.same<|bd u v).mem<|by omega);have ip:iK u (J W fs hD) p:=((H2.same<|bd u v).mem<|by omega);have jB:=bx u (HC u<|v.mono cC).2;have hp:=bh.cell hj;have cm:∀aV,aV.heap=u.heap->cD aZ 151 #[j[o].ptr] aV λX s=>X=aJ (am<|iR j[o].ks)/\s=aV:=λaV hW=>((bh.each _<|ak hj).of_heap hW).first;have co:∀aV,aV.heap=u.heap->cD aZ 150 #[j[o].ptr] aV λX s=>X=aJ (am<|jj j[o].ks)/\∃q,s=aV.drewN q:=λaV hW=>((bh.each _<|ak hj).of_heap hW).last;have hl:cM<z (G u):=bh.lt cM rfl;have ih:z (G a)<z (G u):=by have:=ar eb;omega
  have hcut:∀m,I az u m->cD aZ 168 #[J W fs hD,am<|iR j[o].ks,am<|jj j[o].ks] m λX s=>∃va vb vc,X=aJ (dd #[va,vb,vc])/\(∃A q,yA p (iR j[o].ks) (jj j[o].ks) A q/\iK s va (p.take A)/\iK s vb ((p.drop A).take<|q-A)/\iK s vc (p.drop q)/\(∀f,cz va=H f\/cz vb=H f\/cz vc=H f->cz (J W fs hD)=H f))/\I az u s/\S2 s/\aS s (R cM<|e+o)=H j[o].ptr:=by
   intro m eq;refine(KI (iR j[o].ks) (jj j[o].ks) ((H2.same<|bd m<|v.bW eq).mem (by have:=eq.size;omega)) H2.side.zZ).mono ?_;rintro X s⟨A,q,va,vb,vc,rfl,a1,a2,a3,a4,a5,hk⟩;have fd:I az u s:=eq.bW<|I.aQ (S:=az) hk;exact⟨va,vb,vc,rfl,⟨A,q,a1,a2,a3,a4,a5⟩,fd,(HC s<|(v.bW fd).mono cC).2,fd.cell hp id hl⟩
  clear hd aa ac ds dv L en bh ip ks eo jA cu cB v;unfold bw.ptr at hp cm co hcut;have gi:=Y (show∃s1 s2 al,iR j[o].ks=s1/\jj j[o].ks=s2/\j[o].tb=al from⟨_,_,_,rfl,rfl,rfl⟩);obtain⟨s1,s2,al,ca,cb,aD⟩:=af gi;rw[ca,cb,aD]at hcut;rw[ca,aD]at cm;rw[cb,aD]at co;rw[aD]at hp;obtain⟨hM,hN,kz⟩:=dz ca cb aD;clear ca cb aD gi;obtain⟨fx,bb,fv⟩:=dz cm co hcut;clear cm co hcut;have g1:IntKind.i64.wrap (2:U)=2:=by rw[bS];omega
  have g2:IntKind.i64.wrap (3:U)=3:=by rw[bS];omega
  have ch:S2 u.drew/\aS u.drew (R cM<|e+o)=H (aA al):=⟨(HC _<|(N.bW<|cR az u).mono cC).2,hp⟩;go_wp2_with fail
  rename_i Q6 K6;refine dL (λi=>S2 i/\aS i (R cM<|e+o)=H (aA al)) 19 (by kernel_rfl) ?_;refine eR 0 ?_;iterate 7 (refine iC (v:=?_) ch rfl (by kernel_rfl) ma rfl ?_ ?_;rotate_left;(focus(intro i hX;obtain⟨bs,z1⟩:=hX;have z0:=bx i bs;go_simp;try rfl));simp only[Act.put,eF,Nat.reduceAdd])
  apply ig;refine eR 8 ?_;iterate 3 (refine iC (v:=?_) ch rfl (by kernel_rfl) ma rfl ?_ ?_;rotate_left;(focus(intro i hX;obtain⟨bs,z1⟩:=hX;have z0:=bx i bs;go_simp;try rfl));simp only[Act.put,eF,Nat.reduceAdd])
  apply ig;refine bC (i:=7) rfl rfl (by kernel_rfl) ?_;intro K7 hc;go_simp;apply(fx u.drew rfl).mono;rintro X V⟨rfl,ka⟩;subst V;refine hc _ _ (λ_=>ch) ?_;refine bC (i:=11) rfl rfl (by kernel_rfl) ?_;intro lb dk;go_simp;apply(bb u.drew rfl).mono;rintro X V⟨rfl,qq,ka⟩;subst V;refine dk _ _ (λ_=>⟨(HC _<|((N.bW<|cR az u).bW<|je az _ _).mono cC).2,hp⟩) ?_;refine bC (i:=12) rfl rfl (by kernel_rfl) ?_;intro lc dm;go_simp;apply(fv (u.drewN<|1+qq)<|je _ _ _).mono;rintro X V⟨va,vb,vc,rfl,jD,ff,bm⟩;refine dm _ _ (λ_=>bm) ?_;refine eR 13 ?_;iterate 4 (refine iC (v:=?_) bm rfl (by kernel_rfl) ma rfl ?_ ?_;rotate_left;(focus(intro i hX;obtain⟨bs,z1⟩:=hX;have z0:=bx i bs;go_simp;try rfl));simp only[Act.put,eF,Nat.reduceAdd])
  apply ig;refine bC (i:=17) rfl rfl (by kernel_rfl) ?_;intro le dn;go_simp;refine dn _ _ (λ_=>bm) ?_;refine bC (i:=18) rfl rfl (by kernel_rfl) ?_;intro hY aa;go_simp;refine aa _ _ (λ_=>bm) ?_;refine bC (i:=19) rfl rfl (by kernel_rfl) ?_;intro hZ ac;go_simp;refine ac _ _ Fc ?_;refine eN (by kernel_rfl) ?_ _;show K6 _ _;apply QQ;obtain⟨A,q,ha,ek,cc,el,em⟩:=jD;clear QQ hc dk dm dn aa ac bm ch jB hp fx bb fv;obtain⟨kf,ia,hx⟩:=bN ek.row;obtain⟨fr,ej,hy⟩:=bN cc.row;obtain⟨kk,ib,hz⟩:=bN el.row;generalize y (p.take A)=kb at hx;generalize y ((p.drop A).take<|q-A)=fl at hy;generalize y (p.drop q)=kc at hz;subst hx;subst hy;subst hz;have C:I az aV V:=N.bW ff;have lx:=C.size;have bn:((p.drop A).take<|q-A).Sublist p:=(mZ _ _).trans<|jZ _ _;have ce:=bd V C;obtain⟨fb,hw,cw⟩:=hO o hj _ bn;have E:=λm(O:I t.F V m)=>hL m<|(C.mono (T:=t.F) cC).trans O<|λ_ h=>.inl h;have hq:cD aZ 169 #[aY cM (e+o) 1<|l-o,J fr fl ej] V λX s=>∃a,X=aJ (dd #[a,.nilIface])/\s.ownsRow (z<|G V) 170 4 a (y<|cL<|bZ ((p.drop A).take<|q-A)::[j[o]].map bw.all) (aI<|cL<|bZ ((p.drop A).take<|q-A)::[j[o]].map bw.all)/\t.D s/\I t.F V s:=by
   have he:=H1.same ce;have iu:=H2.same ce;refine DT hX c cM (e+o) (l-o) (J fr fl ej) [j[o]] ((p.drop A).take<|q-A) ?_ (H1.loc cM rfl) ?_ (by simp) ⟨cc.row,λf g=>H2.loc f<|em f<|.inr<|.inl g,λmg ht=>iu.each mg<|bn.subset ht,H2.side.sub bn,cc.small⟩ (t.eQ HD (HW.bW C) cC) (by omega) HF cw
   .intro b hi;obtain rfl:b=0:=by grind
    exact he.cell hj
   .intro mg ht;rw[dA]at ht;subst ht;exact he.each _<|ak hj
  have bq:I az a V:=HW.bW C;obtain⟨bt,gc,an,bc,ec⟩:=jk (FZ (V:=t) (W:=V) (ms:=Q) (mx:=mx) (mc:=mc) (cL<|bZ ((p.drop A).take<|q-A)::[j[o]].map bw.all) (bq.row HM<|λf X=>⟨id,ah (ed f X).1 r⟩) (λf X=>⟨by have:=(ed f X).1;omega,(ed f X).2⟩) ho fb cw) (show∀m,I t.F V m->Steps m fromλm ht f g=>ht.cell ((HT.same ce eg) f g) eg.2 (by have:=eg.1;omega)) (show dK (rf Q d [j[o]]<|(p.drop A).take<|q-A)/\qE 5 (rf Q d [j[o]]<|(p.drop A).take<|q-A)/\(∀me∈rf Q d [j[o]] ((p.drop A).take<|q-A),me.Good)/\y (rf Q d [j[o]]<|(p.drop A).take<|q-A)<=1000000 from sI fb hw cw ho) (show rf Q d [j[o]] ((p.drop A).take<|q-A)=if d then gI (dG Q<|cL<|bZ ((p.drop A).take<|q-A)::[j[o]].map bw.all)else dG Q (cL<|bZ ((p.drop A).take<|q-A)::[j[o]].map bw.all)from rfl) E;clear E fb hw cw bq;generalize il:cL (bZ ((p.drop A).take<|q-A)::[j[o]].map bw.all)=ML at*;clear il;obtain⟨bT,bi⟩:∃bT,rf Q d [j[o]] ((p.drop A).take<|q-A)=bT:=⟨_,rfl⟩;rw[bi]at an bc;have gf:=Y bi;clear bi;obtain⟨hK,bb,fL,hT,cT,hQ⟩:=kY ha ek el C (ff.own gg<|λ_ _ gr=>gr) em;clear ha ek cc el em C ce ff gg;go_wp2_with fail
  apply hq.mono;rintro X w1⟨kd,rfl,F,bg,K⟩;obtain⟨hB,gx,rfl⟩:=aC F;have hs:=bt.1 w1 _ hB gx K F;have ba:=Y bg;have x:=Y K;clear F bg K hq;go_wp2_with fail
  apply hs.mono;rintro X u⟨vn,rfl,cv,au⟩;have bo:I t.F V u:=x.bW au;have hb:=t.eQ ba au cC;obtain⟨xn,kn,rfl⟩:=aC cv;have E:=ec u bo;have et:=bt.2 u _ xn kn cv;have hA:=x.size;obtain⟨bu,N,ef⟩:=dz hb bo cv;clear cv hb bo au hs;cases d;case' false=>
   obtain rfl:bT=dG Q ML:=af bc;clear et bt bc;go_wp2_with fail
   apply E.mono;rintro X fn⟨rfl,jK⟩;subst fn;clear E;obtain⟨bv,bf,fw⟩:=dz (fM (base':=z<|G V) ef<|by omega) N bu;clear N bu ef x ba ec;generalize u=w5 at*
  case' true=>
   obtain rfl:bT=gI (dG Q ML):=af bc;go_wp2_with fail
   apply E.mono;rintro X fn⟨rfl,jK⟩;subst fn;go_wp2_with fail
   apply et.mono;rintro X w5⟨vb,rfl,eB,fg⟩;obtain⟨xn,kn,rfl⟩:=aC eB;obtain⟨bv,bf,fw⟩:=dz (fM (base':=z<|G V) eB (by have:=N.size;omega)) (N.bW fg)<|t.eQ bu fg cC;clear eB fg E et N bu ef x ba ec bt bc hA
  all_goals
   have jG:=ua (dE bv) an.1 an.2.1 an.2.2.1 an.2.2.2 (λf g=>(bv.lt f g).2)<|gc w5 bf;have it:=an.2.2.2;clear bv gc an;go_wp2_with fail
   apply jG.mono;rintro X w4⟨kd,tm,rfl,F,cl,cs,au⟩;have K:I t.F V w4:=bf.bW au;have bg:=t.eQ fw au cC;have cs:=cs.base (base':=z<|G V) bf.size;have F:=fM (base':=z<|G V) F bf.size;have cB:y tm<=1000000:=by
    have h1:=bQ y cl;rw[df]at h1;rw[h1];exact aB (wI _) it
   rw[<-af gf]at cl;clear au;have ax:I t.F aV w4:=(hT.mono (T:=t.F) cC).trans K<|λ_ h=>.inl h;obtain⟨hB,gx,rfl⟩:=aC F;have mb:=K.size;have hg:=(ax.block _ (ar eb)<|bE _ r).trans eb;have hh:=(ax.block _ (ar fu)<|bE _<|by omega).trans fu;have ad:∀f,cz (J kf kb ia)=H f\/cz (J fr fl ej)=H f\/cz (J kk kc ib)=H f->f<c/\¬t.F f:=λf g=>H2.loc f<|hQ f g;have L:=VK (p.take A) tm (p.drop q) (z<|G a) (K.row bb.row<|λf g=>⟨(ad f<|.inl g).2,bb.lt f g⟩) (λf g=>by have:=(ad f<|.inl g).1;omega) (dE F) (λf g=>(bK F f g).2) (K.row fL.row<|λf g=>⟨(ad f<|.inr<|.inr g).2,fL.lt f g⟩) (λf g=>by have:=(ad f<|.inr<|.inr g).1;omega) (by simp;omega) (by omega) 91;obtain⟨w,bl⟩:∃w,y (p.take A++tm++p.drop q)=w:=⟨_,rfl⟩;rw[bl]at L;have ge:=Y bl;have dx:=K.own cT<|λf g=>bE f (by have:=((bK cT) f g).1;omega);obtain⟨gb,hS,ba,hU,hJ,gk,gn⟩:=yt dx cs bg ax cl hg hh;clear F cl cs bg K ax hg hh bl dx ad;go_wp2_with fail
   apply L.mono;rintro X w5⟨v5,rfl,eA,ao⟩;obtain⟨xm,gt,rfl⟩:=aC eA;have Bi:=(ao.block _ (ar gk) id).trans gk;have B:=(ao.block _ (ar gn) id).trans gn;have p0:=cellAt Bi 0 rfl;have f0:=cZ (i:=0) Bi;have q0:=cellAt B 0 rfl;have k0:=cZ (i:=0) B;have p1:=cellAt Bi 1 rfl;have f1:=cZ (i:=1) Bi;have q1:=cellAt B 1 rfl;have k1:=cZ (i:=1) B;have p2:=cellAt Bi 2 rfl;have f2:=cZ (i:=2) Bi;have q2:=cellAt B 2 rfl;have k2:=cZ (i:=2) B;have p3:=cellAt Bi 3 rfl;have f3:=cZ (i:=3) Bi;have q3:=cellAt B 3 rfl;have k3:=cZ (i:=3) B;have fz:=Y (show∀(i1 i2:M)(z1 z2 u0 u1 u2 u3:ab)(wf:Z),wf=cA (cA (cA (cA (cA (cA w5 (R (z<|G a) i1) z1) (R (z<|G a) i2) z2) (R (z (G a)+1) 0) u0) (R (z (G a)+1) 1) u1) (R (z (G a)+1) 2) u2) (R (z (G a)+1) 3) u3->wf.heap[z (G a)+1]?=H (ay #[u0,u1,u2,u3] 93 (0,0))/\wf.ownsRow (z<|G a) 189 1 (J xl nl gs) nl ((j.take o++j.drop j1).map bw.ptr)/\wf.ownsRow (z<|G a) 189 1 (J xm w gt) w ((p.take A++tm++p.drop q).map bw.ptr)/\pU wf (z<|G a) tm/\t.D wf/\I t.F a wf from by
    rintro i1 i2 z1 z2 u0 u1 u2 u3 wf rfl;have lt:((cA (cA w5 (R (z<|G a) i1) z1) (R (z<|G a) i2) z2)).heap[z (G a)+1]?=H (ay #[aw,aw,aw,aw] 93 (0,0)):=(iI _<|by omega).trans<|(iI _<|by omega).trans B;have cx:I (λf=>f=z (G a)\/f=z (G a)+1) w5 (cA (cA (cA (cA (cA (cA w5 (R (z<|G a) i1) z1) (R (z<|G a) i2) z2) (R (z (G a)+1) 0) u0) (R (z (G a)+1) 1) u1) (R (z (G a)+1) 2) u2) (R (z (G a)+1) 3) u3):=((((((I.refl _ w5).setCell _ _ _<|.inl<|.inl rfl).setCell _ _ _<|.inl<|.inl rfl).setCell _ 0 _<|.inl<|.inr rfl).setCell _ 1 _<|.inl<|.inr rfl).setCell _ 2 _<|.inl<|.inr rfl).setCell _ 3 _<|.inl<|.inr rfl;have iv:=Hx (a':=u0) (b':=u1) (c':=u2) (d':=u3) lt;generalize cA (cA (cA (cA (cA (cA w5 (R (z<|G a) i1) z1) (R (z<|G a) i2) z2) (R (z (G a)+1) 0) u0) (R (z (G a)+1) 1) u1) (R (z (G a)+1) 2) u2) (R (z (G a)+1) 3) u3=wf at*;have ea:∀f,(f=z (G a)\/f=z (G a)+1)->∃hC,w5.heap[f]?=H (ay hC 93 (0,0)):=by
     rintro f(rfl|rfl)
     .exact⟨_,Bi⟩
     .exact⟨_,B⟩
    have bp:∀{cE n xs},w5.ownsRow (z<|G a) 189 1 cE n xs->wf.ownsRow (z<|G a) 189 1 cE n xs:=λkx=>cx.own kx (λf g gr=>by
     obtain⟨hC,eu⟩:=ea f gr;obtain⟨lm,hn⟩:=fR kx g;exact ld eu hn (by decide) rfl)
    refine⟨iv,bp<|ao.own gb<|λ_ _ gr=>gr,bp eA,?_,t.eQ (t.eQ ba ao cC) cx<|λf g=>bE f (by rcases g with gr|gr<;>omega),?_⟩
    .refine((hS.ap ao).other cx<|λf g=>?_).base (by omega);obtain⟨hC,eu⟩:=ea f g;exact⟨hC,_,_,eu,by decide,by decide,by decide⟩
    .exact(((HW.mono (T:=t.F) cC).trans hU (λ_ h=>.inl h)).bW ao).trans cx (λf g=>.inr (by rcases g with gr|gr<;>omega)))
   clear eA ao Bi B L;go_wp2;obtain⟨r1,r2,r3,r4,r5,r6⟩:=fz _ _ _ _ _ _ _ _ _ rfl;refine cg (sE rfl _ _ (z (G a)+1) _ _ _ _ _ _ rfl r1 ⟨_,_,_,rfl⟩ ⟨_,_,_,rfl⟩ ⟨_,_,_,rfl⟩ ⟨_,_,_,rfl⟩) rfl ?_;have cn:=af HJ;subst cn;refine⟨xl,nl,gs,xm,w,gt,tm,o,hj,A,q,rfl,?_,?_,?_,hJ,r4,r5,r6⟩
   .rw[af hM,af hN];exact hK
   .rw[af hR];exact r2
   .rw[af ge];exact r3
structure PR(n:M)(rs:dJ):Prop where
 oY:jL rs
 mh:∀r∈rs,dK r
 iH:∀x∈rs.flatten,x.Good
 low:∀x∈rs.flatten,x.bJ<=n
def tH(h:w.Good):w.key≠⟨#[]⟩:=λe=>by
 have:=h.Tz;rw[e]at this;simp[ByteArray.size]at this
def PR.keys(h:PR b l):∀x∈l.flatten,x.key≠⟨#[]⟩:=λx a=>tH<|h.iH x a
def Lg{a D:dJ}:w∈(l++a++D).flatten↔w∈l.flatten\/w∈a.flatten\/w∈D.flatten:=by
 grind
def PR.Yp{C a M' D:dJ}(h:PR b (C++a++D))(g:jL M')(j:∀r∈M',dK r)(d:∀x∈M'.flatten,x∈a.flatten):PR b (C++M'++D):=by
 have f:∀x,x∈(C++M'++D).flatten->x∈(C++a++D).flatten:=by grind
 refine⟨Qh h.oY g d,λr i=>?_,λx c=>h.iH x<|f x c,λx c=>h.low x<|f x c⟩;rcases aG.1 i with e|e;rcases aG.1 e with e|e;exact h.mh r (by simp[e]);exact j r e;exact h.mh r<|by simp[e]
def PR.cons(i:PR b l)(t:b<=c)(n:dK e)(m:∀x∈e,x.Good)(g:∀x∈e,(b:U)<x.bJ)(f:∀x∈e,x.bJ<=c):PR c (e::l):=by
 refine⟨?_,?_,?_,?_⟩;unfold jL;rw[bA];refine⟨λr h o j p k _=>?_,i.oY⟩;have q:=i.low p<|bB.2 ⟨r,h,k⟩;have s:=g o j;omega;intro r h;rcases bR.1 h with rfl|d;exact n;exact i.mh r d;intro x a;rw[bO,aG]at a;rcases a with d|d;exact m x d;exact i.iH x d;intro x a;rw[bO,aG]at a;rcases a with d|d;exact f x d;have:=i.low x d;omega
theorem PR.Kf(h:PR b l):PR b ([]::l):=h.cons (ai _) dK.nil (by simp) (by simp)<|by simp
def EV(a:dJ)(k:ae):seen ([]::a) k=seen a k:=by
 unfold seen;rw[pM,Rc,lO]
def bY(a b c d:cN):dJ:=(a.map bw.all).reverse++[bZ b,bZ c,bZ d]
def Dq(a b c d:cN)(t:bw):bY (a++[t]) b c d=t.all::bY a b c d:=by simp[bY]
def lE(h:j.map bw.all=gL e):bZ j=e:=by
 unfold bZ;rw[h];exact vh e
theorem KO(h:j.isEmpty=ci):bZ j=[]:=by
 rw[List.isEmpty_iff]at h;rw[h];rfl
def PR.row(h:PR b l):∀r∈l,gJ r:=λr a=>⟨h.mh r a,λe c=>h.keys e<|bB.2 ⟨r,a,c⟩⟩
def ft(t:U)(a:dJ)(k:ae):Option ae:=seen (a.map<|jO t) k
def xI{C Mqq M' D:dJ}(h:AA (Mqq.map<|jO k) (M'.map<|jO k) (D.map<|jO k))(a:ae):ft k (C++M'++D) a=ft k (C++Mqq++D) a:=by
 unfold ft;grind[Sw]
theorem lW(t:U)(a:dJ)(k:ae):ft t ([]::a) k=ft t a k:=by
 unfold ft;rw[cr,show jO t []=[]from rfl];exact EV _ k
def OS(h:∀r∈l,r=[])(c:ae):ri (l.map<|jO k) c=none:=QR (λr a=>by obtain⟨s,b,rfl⟩:=bM.1 a;rw[h s b];rfl) c
def NH{c:cN}(h:PR b (bY j p r s))(g:c.map bw.all=gL (rf n (r.isEmpty&&s.isEmpty) j p)):dK (cL<|bZ p::j.map bw.all)/\dK (rf n (r.isEmpty&&s.isEmpty) j p)/\PR b (bY [] c r s)/\(∀t,(t∈n\/(b:U)<=t)->∀k,ft t (bY [] c r s) k=ft t (bY j p r s) k)/\y (bZ c)<=y (bZ j)+y (bZ p):=by
 have C:bZ c=rf n (r.isEmpty&&s.isEmpty) j p:=lE g;have a:bY j p r s=[]++((j.map bw.all).reverse++[bZ p])++[bZ r,bZ s]:=by simp[bY]
 have d:bY [] c r s=[]++[rf n (r.isEmpty&&s.isEmpty) j p]++[bZ r,bZ s]:=by simp[bY,C]
 rw[a]at h;have v:∀m∈j.map bw.all,gJ m:=λm a=>h.row m (by grind);have o:gJ (bZ p):=h.row _ (by simp);have u:jL ((j.map bw.all).reverse++[bZ p]):=(bP.1 h.oY).1;obtain⟨A,l,B⟩:=yE (ms:=n) (lowest:=r.isEmpty&&s.isEmpty) v o u;have e:∀x∈[rf n (r.isEmpty&&s.isEmpty) j p].flatten,x∈((j.map bw.all).reverse++[bZ p]).flatten:=by intro x f;rw[bO,iA,dO]at f;have:=yV _ _ _ x f;rw[bO,aG]at this;rw[eK,aG,bO,iA,dO];grind[mem_flatten]
 refine⟨A,l,?_,λt w k=>?_,?_⟩;rw[d];exact h.Yp (by unfold jL;simp) (by intro m a;simp only[bR,gW,oe]at a;subst a;exact l) e;rw[a,d];refine xI (B t [bZ r,bZ s] (w.imp_right<|λq x f=>uV (h.low x<|Lg.2<|.inr<|.inl f) q)<|λi k=>?_) k;rw[lS]at i;exact OS (by intro m a;simp only[bR,gW,oe]at a;grind[KO]) k;rw[C];have D:=(sH n (r.isEmpty&&s.isEmpty)<|bZ p::j.map bw.all).length_le;have E:=(jh n<|cL<|bZ p::j.map bw.all).length_le;have i:=(eH<|bZ p::j.map bw.all).length_eq;rw[bO,ag]at i;have:(j.map bw.all).flatten=bZ j:=rfl;rw[this]at i;unfold rf;omega
theorem Rt(l:cS W)(j:M)(h:j<y l):l=l.take j++[l[j]]++l.drop (j+1):=by
 rw[bz,ju,kC,bX]
theorem VH(l:cS W){p q:M}(h:p<=q):l=l.take p++(l.drop p).take (q-p)++l.drop q:=by
 have a:l.drop q=(l.drop p).drop (q-p):=by rw[List.drop_drop];congr 1;omega
 rw[bz,a,bX,bX]
def tL(h:((j++p).map bw.all).Pairwise gS):gS (bZ j) (bZ p):=by
 rw[aR,bP]at h;intro x f c g;obtain⟨s,d,a⟩:=lY.1 f;obtain⟨t,e,b⟩:=lY.1 g;exact h.2.2 _ (nV d) _ (nV e) x a c b
def Ky{d c q:M}(hu:jV j)(i:jV p)(ho:Over (bZ j) (bZ p))(hg:∀x,x∈bZ j\/x∈bZ p->x.Good)(hj:d<y j)(hc:yA p (iR j[d].ks) (jj j[d].ks) c q)(w:r.map bw.all=gL (rf n K [j[d]]<|(p.drop c).take<|q-c)):dK (rf n K [j[d]]<|(p.drop c).take<|q-c)/\dK (bZ<|p.take c++r++p.drop q)/\((p.take c++r++p.drop q).map bw.all).Pairwise gS/\(∀(g:U)(av:dJ),(g∈n\/∀x,x∈bZ j\/x∈bZ p->x.bJ<=g)->(K=ci->∀ax,ri (av.map<|jO g) ax=none)->AA ([bZ j,bZ p].map<|jO g) ([bZ<|j.take d++j.drop (d+1),bZ<|p.take c++r++p.drop q].map<|jO g) (av.map<|jO g))/\Over (bZ<|j.take d++j.drop (d+1)) (bZ<|p.take c++r++p.drop q)/\(∀x,x∈bZ (j.take d++j.drop (d+1))\/x∈bZ (p.take c++r++p.drop q)->x∈bZ j\/x∈bZ p)/\(∀x∈bZ r,x∈bZ j\/x∈bZ p)/\y (bZ<|j.take d++j.drop (d+1))+y (bZ<|p.take c++r++p.drop q)<=y (bZ j)+y (bZ p):=by
 have A:bZ r=gK n K [bZ<|(p.drop c).take<|q-c,j[d].all]:=lE w;have h:bZ [j[d]]=j[d].all:=by simp[bZ]
 have D:bZ j=bZ (j.take d)++j[d].all++bZ (j.drop<|d+1):=by grind[Rt,fF]
 have E:bZ p=bZ (p.take c)++bZ ((p.drop c).take<|q-c)++bZ (p.drop q):=by grind[VH,yA.le,fF]
 have hP:=hu.pure j[d]<|ak hj;have W:∀B∈bZ (p.take c),∀g∈j[d].all,iX B.key g.key=ci:=by intro B m g k;obtain⟨au,o,l⟩:=lY.1 m;obtain⟨al,hi,rfl⟩:=gM.1 o;(have e:al<c/\al<y p:=by rw[dj]at hi;omega);rw[jY]at l;have F:=(i.pure p[al]<|ak e.2).CE l;have L:=hc.WF.low al e.2 e.1;have t:=hP.wZ k;exact No (wV F L) t
 have X:∀B∈j[d].all,∀g∈bZ (p.drop q),iX B.key g.key=ci:=by intro B m g k;obtain⟨au,o,l⟩:=lY.1 k;obtain⟨al,hi,rfl⟩:=gM.1 o;(have e:q+al<y p:=by rw[gX]at hi;omega);rw[pA]at l;(have N:q<y p:=by omega);have F:=hc.behind N;have L:=hP.CE m;obtain⟨x,b,ad⟩:=(i.pure p[q]<|ak N).Gs;(have t:iX g.key (iR p[q].ks)=bj:=by rcases gm al with rfl|ao;exact(i.pure p[q]<|ak N).wZ l;rw[<-ad];exact lj<|i.pair N e (by omega) b l);exact No (wV L F) t
 have O:((j.take d++([j[d]]++j.drop (d+1))).map bw.all).Pairwise gS:=by have:=hu.Cw;rw[Rt j d hj,bz]at this;exact this
 have Q:((p.take c++((p.drop c).take (q-c)++p.drop q)).map bw.all).Pairwise gS:=by have:=i.Cw;rw[VH p hc.le,bz]at this;exact this
 have C:=tL O;have T:=tL Q;rw[fF]at C T;rw[h]at C;have P:=(bP.1 (by rw[aR]at O;exact O)).2.1;have S:=(bP.1 (by rw[aR]at Q;exact Q)).2.1;have s:=tL P;have V:=tL S;rw[h]at s;have aa:gJ (bZ (j.take d)++j[d].all++bZ (j.drop<|d+1)):=D▸⟨hu.mh,λA he=>tH<|hg A<|.inl he⟩;have ac:gJ (bZ (p.take c)++bZ ((p.drop c).take<|q-c)++bZ (p.drop q)):=E▸⟨i.mh,λA he=>tH<|hg A<|.inr he⟩;have u:=ho;rw[D,E]at u;obtain⟨r1,r2,r3,r4,r5,r6⟩:=Qf (ms:=n) (lowest:=K) aa ac u (λx b a f=>C x b a<|by simp[f]) (λx b a f=>C x b a<|by simp[f]) s (λx b a f=>T x b a<|by simp[f]) (λx b a f=>T x b a<|by simp[f]) V W X;have an:∀x∈gK n K [bZ<|(p.drop c).take<|q-c,j[d].all],x∈j[d].all\/x∈bZ ((p.drop c).take<|q-c):=by intro x b;have:=yV n K _ x b;grind
 have v:dK (gK n K [bZ<|(p.drop c).take<|q-c,j[d].all]):=r2.mh.sub (by simp);refine⟨v,?_,?_,?_,?_,?_,?_,?_⟩;rw[fF,fF,A];exact r2.mh;rw[aR,aR,bP,bP];refine⟨⟨i.Cw.sublist<|(mZ _ _).map _,by rw[w];exact DD v,λx b a f=>?_⟩,i.Cw.sublist<|(jZ _ _).map _,λx b a f=>?_⟩;obtain⟨N,l,rfl⟩:=bM.1 b;obtain⟨au,o,rfl⟩:=bM.1 f;exactλB m g k=>r3 B (lY.2 ⟨N,l,m⟩) g (by rw[<-A];grind[lY]);obtain⟨au,o,rfl⟩:=bM.1 f;rcases aG.1 b with b|b;(grind);obtain⟨N,l,rfl⟩:=bM.1 b;exactλB m g k=>r4 B (by rw[<-A];grind[lY]) g<|lY.2 ⟨au,o,k⟩;intro g av k l;simp only[cr,gQ];rw[fF,fF,fF,A,D,E];grind
 rw[fF,fF,fF,A];exact r5;grind[fF]
 grind
 rw[fF,fF,fF,A,D,E];have F:=(sH n K [bZ<|(p.drop c).take<|q-c,j[d].all]).length_le;have L:=(jh n<|cL [bZ<|(p.drop c).take<|q-c,j[d].all]).length_le;have t:=(eH [bZ<|(p.drop c).take<|q-c,j[d].all]).length_eq;rw[bO,bO,iA,dO,ag]at t;grind
def Nb(h:Over e N):jL [e,N]:=by
 unfold jL;grind
def CC{C D:dJ}(h:jL (C++[e,N]++D)):Over e N:=by
 have a:=(bP.1 (bP.1 h).1).2.1;grind
def NG{c:cN}{e h q:M}(i:PR b (bY j p r s))(l:jV p)(o:jV r)(u:e<y p)(hcut:yA r (iR p[e].ks) (jj p[e].ks) h q)(g:c.map bw.all=gL (rf n s.isEmpty [p[e]]<|(r.drop h).take<|q-h)):PR b (bY j (p.take e++p.drop (e+1)) (r.take h++c++r.drop q) s)/\(∀t,(t∈n\/(b:U)<=t)->∀k,ft t (bY j (p.take e++p.drop (e+1)) (r.take h++c++r.drop q) s) k=ft t (bY j p r s) k)/\dK (bZ c)/\((r.take h++c++r.drop q).map bw.all).Pairwise gS/\(∀x∈bZ c,x.Good)/\y (bZ<|p.take e++p.drop (e+1))+y (bZ<|r.take h++c++r.drop q)<=y (bZ p)+y (bZ r):=by
 have a:∀x d:cN,bY j x d s=(j.map bw.all).reverse++[bZ x,bZ d]++[bZ s]:=λx d=>by simp[bY]
 rw[a]at i;have m:∀x,x∈bZ p\/x∈bZ r->x.Good:=λx d=>i.iH x (Lg.2<|.inr<|.inl<|by simpa using d);obtain⟨A,B,w,C,D,K,E,F⟩:=Ky l o (CC i.oY) m u hcut g;refine⟨?_,λt v k=>?_,by rw[lE g];exact A,w,λx d=>m x<|E x d,F⟩;rw[a];refine i.Yp (Nb D) (λL f=>?_)<|λx d=>?_;simp only[bR,gW,oe]at f;rcases f with rfl|rfl;rw[fF];have:=l.mh.sub (nG (us:=p.take e++p.drop (e+1)) (ts:=p)<|by grind[Rt,append_assoc,sublist_append_right]);rwa[fF]at this;exact B;grind
 rw[a,a];exact xI (C t [bZ s] (v.imp_right<|λq x d=>uV (i.low x<|Lg.2<|.inr<|.inl<|by simpa using d) q)<|λe k=>OS (by intro L a;simp only[bR,gW,oe]at a;subst a;exact KO e) k) k
def NE{a:cN}{d h q:M}(i:PR b (bY j p r s))(l:jV r)(o:jV s)(u:d<y r)(hcut:yA s (iR r[d].ks) (jj r[d].ks) h q)(f:a.map bw.all=gL (rf n ci [r[d]]<|(s.drop h).take<|q-h)):PR b (bY j p (r.take d++r.drop (d+1))<|s.take h++a++s.drop q)/\(∀t,(t∈n\/(b:U)<=t)->∀k,ft t (bY j p (r.take d++r.drop (d+1))<|s.take h++a++s.drop q) k=ft t (bY j p r s) k)/\dK (bZ a)/\((s.take h++a++s.drop q).map bw.all).Pairwise gS/\(∀x∈bZ a,x.Good)/\y (bZ<|r.take d++r.drop (d+1))+y (bZ<|s.take h++a++s.drop q)<=y (bZ r)+y (bZ s):=by
 have g:∀x c:cN,bY j p x c=((j.map bw.all).reverse++[bZ p])++[bZ x,bZ c]++[]:=λx c=>by simp[bY]
 rw[g]at i;have m:∀x,x∈bZ r\/x∈bZ s->x.Good:=λx c=>i.iH x (Lg.2<|.inr<|.inl<|by simpa using c);obtain⟨A,B,w,C,D,K,E,F⟩:=Ky l o (CC i.oY) m u hcut f;refine⟨?_,λt v k=>?_,by rw[lE f];exact A,w,λx c=>m x<|E x c,F⟩;rw[g];refine i.Yp (Nb D) (λL e=>?_)<|λx c=>?_;simp only[bR,gW,oe]at e;rcases e with rfl|rfl;rw[fF];have:=l.mh.sub (nG (us:=r.take d++r.drop (d+1)) (ts:=r)<|by grind[Rt,append_assoc,sublist_append_right]);rwa[fF]at this;exact B;grind
 rw[g,g];exact xI (C t [] (v.imp_right<|λq x c=>uV (i.low x<|Lg.2<|.inr<|.inl<|by simpa using c) q)<|λd k=>xR k) k
def xM(s:j.map bw.all=gL e)(p:∀t∈j,UK a b t)(m:dK e)(g:qE 5 e)(o:∀x∈e,x.Good):∀t∈j,tg t.ks t.cs/\Jb (bI 0 t.cs)/\t.ks=bI 0 t.cs/\y t.all<=100:=by
 intro t q;obtain⟨r,h,x,i,k⟩:=p t q;have l:t.all∈gL e:=by rw[<-s];grind
 have n:=PU g _ l;have c:=AZ l;have f:=DE e _ l;have d:∀x∈t.all,x.Good:=λx e=>o x<|c.subset e;refine⟨?_,k.pieces.idx f d (m.sub c) n,k.ks,n⟩;rw[k.ks];exact k.pieces.nN f d<|m.sub c
def FG(h:j.map bw.all=gL e)(g:∀t∈j,UK a b t)(d:dK e)(c:qE 5 e)(f:∀x∈e,x.Good):jV j:=⟨λt i=>(xM h g d c f t i).1,by rw[lE h];exact d,by rw[h];exact DD d⟩
def qx{c:Func}{F S:Tmp}(T:c.results=#[.cell F 126,.tmp S])(a:Array ab)(w:Z)(g:M)(n A k:U)(e f h i:ab)(Q:TypeId)(d:M×M)(r:a.getD F ix=aA g)(p:w.heap[g]?=H (ay #[aE n,aE A,aE k,e,f,h,i] Q d))(j:∃x n k,e=J x n k)(l:∃x n k,f=J x n k)(m:∃x n k,h=J x n k)(o:∃x n k,i=J x n k):(results c a).run aZ w=.ok (dd #[dD #[aE n,aE A,aE k,e,f,h,i],a.getD S ix]) w:=by
 obtain⟨K,B,s,rfl⟩:=j;obtain⟨L,C,t,rfl⟩:=l;obtain⟨N,D,u,rfl⟩:=m;obtain⟨O,E,v,rfl⟩:=o;have b:a[F]?.getD ix=aA g:=by simpa using r
 have q:=kj (P:=aZ) w g Q 126 #[aE n,aE A,aE k,J K B s,J L C t,J N D u,J O E v] d _ p underlying126 rfl (by kernel_rfl);simp[results,T,b,asAddr,q,Result.andThen]
def YG:ab:=dD #[aE 2,aE 1,aE 0,aw,aw,aw,aw]
def MB{db:M}{K:DK}(h:cH a db K)(hn:y K.files<=100000000)(hp:Pow a)(g:∀au∈K.files.map cX.name,au=⟨#[108,111,103,45,49]⟩):cD aZ 91 #[aA db] a λad w'=>ad=aJ (dd #[YG,.nilIface])/\I az a w':=by
 have o:I az a (cG (cG a<|ay #[aE 0,aE 0,aE 0,aw,aw,aw,aw] 126)<|ay #[aE 2,aE 1,aE 0,aw,aw,aw,aw] 126):=(cK az a).alloc _;have B:(cG (cG a<|ay #[aE 0,aE 0,aE 0,aw,aw,aw,aw] 126)<|ay #[aE 2,aE 1,aE 0,aw,aw,aw,aw] 126).heap[z<|G a]?=H (ay #[aE 0,aE 0,aE 0,aw,aw,aw,aw] 126 (0,0)):=(eU _<|by simp).trans<|aH _ rfl;have C:(cG (cG a<|ay #[aE 0,aE 0,aE 0,aw,aw,aw,aw] 126)<|ay #[aE 2,aE 1,aE 0,aw,aw,aw,aw] 126).heap[z (G a)+1]?=H (ay #[aE 2,aE 1,aE 0,aw,aw,aw,aw] 126 (0,0)):=aH _ (by simp);have F:=wR (db:=db) (K:=K) (h.ap o<|λ_ _=>id) hn;obtain⟨V,q,r,HP,HA⟩:=jk o B C hp g;clear h hp g o B C;go_in
 go_wp2_with fail
 apply F.mono;rintro ad w3⟨v3,f,rfl,n,m,e⟩;obtain⟨x3,c3,X⟩:=aC m;subst X;have A:=V.bW e;have D:=(e.block _ (ar q) id).trans q;have E:=(e.block _ (ar r) id).trans r;have an:y f<=100000000:=by have:=n.length_eq;grind
 have L:∀x∈f,x=⟨#[108,111,103,45,49]⟩:=λx hx=>HA x<|n.mem_iff.1 hx;obtain⟨w,x,s,t,S⟩:=jk m A D E L;clear m e A D E L n F;go_wp2;go_loopw [13] (λj wr=>∃(P:M),P<=y f/\j=aq P/\I az w3 wr) (λj _=>y f-(intOf j).toNat)
 case atStart=>exact⟨0,bG _,by go_num,I.refl _ _⟩
 (case round=>obtain⟨P,hj,rfl,i⟩:=hrel;have d:=(i.block _ (ar s) id).trans s;have b:=(i.block _ (ar t) id).trans t;by_cases l:P<y f;(·(have e1:(P:U)<(y f:U):=by omega);(have e2:(0:U)<=(P:U):=by omega);have N:=MZ<|HP.ap (x.bW i) id;(have k:∃ac c,x3=H (R ac c)/\aS wr (R ac<|c+P)=H (am ⟨#[108,111,103,45,49]⟩):=by obtain⟨q1,⟨q2,q0⟩|⟨ao,Q,aa,q2,al,hc⟩⟩:=dE w;omega;cases q2;refine⟨ao,Q,rfl,?_⟩;(have hg:(strs f)[P]?=H (am f[P]):=by simp[strs,l]);rw[(af S) _<|ak l]at hg;exact i.cell (hc _ _ hg) id (w.lt ao rfl).2);obtain⟨ac,c,hx,k⟩:=k;subst hx;obtain⟨T,u,v⟩:=dz i d b;clear i d b;(go_wp2_with fail);apply N.mono;rintro ad w4⟨rfl,p⟩;have O:=(p.block _ (ar v) id).trans v;have y0:=cellAt O 0 rfl;have W:=Y<|T.bW p;clear p O N k;go_wp2;go_roundw;(case rel=>exact⟨P+1,l,by go_num,W⟩);case measure=>simp[intOf];omega);(have e1:¬(P:U)<(y f:U):=by omega);have y0:=cellAt b 0 rfl;have O:=cellAt b 1 rfl;have Q:=cellAt b 2 rfl;have W:=cellAt b 3 rfl;have y4:=cellAt b 4 rfl;have y5:=cellAt b 5 rfl;have y6:=cellAt b 6 rfl;(have N:∀j,wr.frozen? (R (z<|G a) j)=bj:=λj=>by simp[World.frozen?,d]);(have c:∀j,j<7->∃p,aS wr (R (z<|G a) j)=H p:=λj b=>by rw[bV d];simp_all);obtain⟨u0,z0⟩:=c 0 (by omega);obtain⟨u1,z1⟩:=c 1 (by omega);obtain⟨u2,z2⟩:=c 2 (by omega);obtain⟨u3,z3⟩:=c 3 (by omega);obtain⟨u4,z4⟩:=c 4 (by omega);obtain⟨u5,z5⟩:=c 5 (by omega);obtain⟨u6,z6⟩:=c 6 (by omega);have T:=Y i;have u:=Y d;clear i d b c;go_wp2;have k:=aL (i:=6) (u:=aw)<|aL (i:=5) (u:=aw)<|aL (i:=4) (u:=aw)<|aL (i:=3) (u:=aw)<|aL (i:=2) (u:=aE 0)<|aL (i:=1) (u:=aE 1)<|aL (i:=0) (u:=aE 2) u;refine cg (qx rfl _ _ (z<|G a) 2 1 0 _ _ _ _ _ _ rfl k ⟨_,_,_,rfl⟩ ⟨_,_,_,rfl⟩ ⟨_,_,_,rfl⟩ ⟨_,_,_,rfl⟩) rfl ?_;refine⟨rfl,?_⟩;have v:=x.bW T;exact((((((v.setCell _ 0 _<|.inr<|ai _).setCell _ 1 _<|.inr<|ai _).setCell _ 2 _<|.inr<|ai _).setCell _ 3 _<|.inr<|ai _).setCell _ 4 _<|.inr<|ai _).setCell _ 5 _<|.inr<|ai _).setCell _ 6 _<|.inr<|ai _)
def Ge(h:cH a b i)(O:y i.files<=100000000)(F:Pow a)(l:∀S∈i.files.map cX.name,S=⟨#[108,111,103,45,49]⟩)(E:dB (vw i.files) fm=none):cD aZ 51 #[aA b] a λL Q=>L=aJ (dd #[YG,.nilIface])/\I az a Q:=by
 obtain⟨e,f⟩:∃e,cG a (ay #[aE 0,aE 0,aE 0,aw,aw,aw,aw] 126)=e:=⟨_,rfl⟩;obtain⟨m,d⟩:∃m,cG e (ay #[am fm,aq 10] 204)=m:=⟨_,rfl⟩;have o:I az a e:=by rw[<-f];exact(cK az a)
 have k:I az a m:=by rw[<-d];exact o.alloc _
 have C:e.heap[z<|G a]?=H (ay #[aE 0,aE 0,aE 0,aw,aw,aw,aw] 126 (0,0)):=by rw[<-f];exact aH _ rfl
 have s:m.heap[z<|G a]?=H (ay #[aE 0,aE 0,aE 0,aw,aw,aw,aw] 126 (0,0)):=by rw[<-d];grind[eU,ar]
 have t:aS m (R (z<|G e) 1)=H (aq 10):=by(have:m.heap[z<|G e]?=H (ay #[am fm,aq 10] 204 (0,0)):=by rw[<-d];exact aH _ rfl);rw[bV this];rfl
 have j:=FR (db:=b) (K:=i) fm (w:=e) (h.ap o<|λ_ _=>id) E;rw[d]at j;unfold fm at j;have u:=OF (z<|G e) 10 m t;have n:=MB (db:=b) (K:=i) (h.ap k<|λ_ _=>id) O (F.ap k id) l;unfold YG at n|-;obtain⟨A,r,B⟩:=dz k s f;clear h F l E o k C s f d t;go_in
 go_wp2_with fail
 rw[af B];apply j.mono;rintro L D⟨rfl,P⟩;subst D;go_wp2_with fail
 apply u.mono;rintro L D⟨rfl,P⟩;subst D;go_wp2_with fail
 apply n.mono;rintro L K⟨rfl,p⟩;have g:=(p.block _ (ar r) id).trans r;have T:∀q,K.frozen? (R (z<|G a) q)=bj:=λq=>by simp[World.frozen?,g]
 have c:∀q,q<7->∃w,aS K (R (z<|G a) q)=H w:=λq b=>by rw[bV g];simp_all
 obtain⟨u0,V⟩:=c 0 (by omega);obtain⟨u1,W⟩:=c 1 (by omega);obtain⟨u2,X⟩:=c 2 (by omega);obtain⟨u3,z3⟩:=c 3 (by omega);obtain⟨u4,z4⟩:=c 4 (by omega);obtain⟨u5,z5⟩:=c 5 (by omega);obtain⟨u6,z6⟩:=c 6 (by omega);have N:=Y<|A.bW p;have x:=Y g;clear p g c j u n;go_wp2;have v:=aL (i:=6) (u:=aw)<|aL (i:=5) (u:=aw)<|aL (i:=4) (u:=aw)<|aL (i:=3) (u:=aw)<|aL (i:=2) (u:=aE 0)<|aL (i:=1) (u:=aE 1)<|aL (i:=0) (u:=aE 2) x;refine cg (qx rfl _ _ (z<|G a) 2 1 0 _ _ _ _ _ _ rfl v ⟨_,_,_,rfl⟩ ⟨_,_,_,rfl⟩ ⟨_,_,_,rfl⟩ ⟨_,_,_,rfl⟩) rfl ?_;refine⟨rfl,?_⟩;exact((((((N.setCell _ 0 _<|.inr<|ai _).setCell _ 1 _<|.inr<|ai _).setCell _ 2 _<|.inr<|ai _).setCell _ 3 _<|.inr<|ai _).setCell _ 4 _<|.inr<|ai _).setCell _ 5 _<|.inr<|ai _).setCell _ 6 _<|.inr<|ai _
def IH{c:cN}(k:PR b (e::bY j p r s))(i:c.map bw.all=gL (gI<|dG n<|cL<|e::bY j p r s)):PR b (bY [] [] [] c)/\(∀t,(t∈n\/(b:U)<=t)->∀o,ft t (bY [] [] [] c) o=ft t (e::bY j p r s) o)/\y (bZ c)<=y e+y (bZ j)+y (bZ p)+y (bZ r)+y (bZ s):=by
 obtain⟨A,K⟩:∃A,A=(e::((j.map bw.all).reverse++[bZ p,bZ r])).reverse:=⟨_,rfl⟩;have f:e::bY j p r s=A.reverse++[bZ s]:=by rw[K,List.reverse_reverse];simp[bY]
 have L:(bZ s::A).Perm (e::bY j p r s):=by rw[f];grind[perm_append_comm,reverse_perm]
 have w:cL (bZ s::A)=cL (e::bY j p r s):=sJ k.mh k.oY L;have a:=k.row;rw[f]at a;have m:=k.oY;rw[f]at m;obtain⟨Q,O,u⟩:=yE (A:=A) (b:=bZ s) (ms:=n) (lowest:=ci) (λr b=>a r<|by simp[b]) (a _<|by simp) m;have B:gK n ci (bZ s::A)=gI (dG n<|cL<|e::bY j p r s):=by unfold gK;rw[dV rfl,w]
 rw[B]at O u;have v:bZ c=gI (dG n<|cL<|e::bY j p r s):=lE i;have h:∀x∈bZ c,x∈(e::bY j p r s).flatten:=λx d=>by rw[v]at d;exact(eH _).mem_iff.1<|(jh n _).subset<|(kh _).subset d
 have g:bY [] [] [] c=[[],[],bZ c]:=by simp[bY,bZ]
 refine⟨?_,λt N o=>?_,?_⟩;rw[g];(have l:PR b ([]++(e::bY j p r s)++[]):=by simpa using k);have E:=l.Yp (M':=[bZ c]) (by unfold jL;simp) (by grind) (λx d=>h x<|by simpa using d);grind[PR.Kf]
 rw[g,lW,lW];have:=xI (C:=[]) (Mqq:=A.reverse++[bZ s]) (M':=[gI<|dG n<|cL<|e::bY j p r s]) (D:=[]) (u t [] (N.imp_right<|λq x d=>uV (k.low x (by rw[f];exact d)) q)<|λ_ o=>rfl) o;rw[<-f,<-v]at this;grind
 rw[v];have l:=(kh<|dG n<|cL<|e::bY j p r s).length_le;have E:=(jh n<|cL<|e::bY j p r s).length_le;have F:=(eH<|e::bY j p r s).length_eq;(have P:y ((j.map bw.all).reverse).flatten=y (bZ j):=by have:=((tv<|j.map bw.all).flatten).length_eq;rw[this];rfl);rw[bO,ag]at F;grind
