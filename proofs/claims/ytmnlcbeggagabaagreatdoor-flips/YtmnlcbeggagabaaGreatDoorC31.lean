import Derived.Test.YtmnlcbeggagabaaGreatDoorC26
import Derived.Test.YtmnlcbeggagabaaGreatDoorC29
import Derived.Test.YtmnlcbeggagabaaGreatDoorC30
open _root_ renaming List.length→y,Option.some→H,Array.size→z,Go.World.heap→G,Go.Value.ownBlock→cz,Go.World.cell?→aS,Go.World.setCell→cA,Go.World.alloc→cG,Bool.false→bj,Bool.true→cq,Nat→M,Int→U,List→cS,Go.Calls→cD,Go.Proofs.Tryz.prog→aZ,Go.Value.slice→J,Go.Value.string→am,Go.Value.bool→aK,Go.Value.pointer→dG,Go.Value.tuple→dd,Go.Value.agg→dE
namespace Go.Proofs.YtmnlcbeggagabaaGreatDoor
open ChangeShapes WideShapes RowKit Proofs.Tryz List
set_option maxHeartbeats 16000000
set_option linter.all false
set_option maxRecDepth 100000
variable{a f B:Z}{b c g m x O:M}{d u P:ab}{e N:cI}{i L:DK}{j p r s:cN}{k D:U}{l:dK}{n:dO}{o:SR}{X:eT}{F:Fs}{K:Bool}{T:bw}
def jY.nil:jY []:=⟨by simp,dL.nil,by simp⟩
def SQ(h:qG a b F X T):Mf a T:=by
 obtain⟨f,d,c,e,_⟩:=h.mem;exact⟨_,_,_,_,_,_,_,_,_,e⟩
def Ta(h:UL a b T):Mf a T:=by
 obtain⟨e,c,x,d,h⟩:=h;exact⟨_,_,_,_,_,_,_,_,_,h.mem⟩
def GJ.Qx(h:GJ F a i c g d j)(f:y j<=1000000000):iN a d j:=⟨h.row,λl e=>(h.loc l e).lt,λt k=>SQ<|h.each t k,f⟩
def DZ(w:Z):iN w aw []:=⟨⟨rfl,.inl ⟨rfl,rfl⟩⟩,λk a=>(by cases a),by simp,by simp⟩
def LS.least{O S:ab}{T o:cN}(v:LS a b c g i j [] m d u P O p r s T)(C:I (i.aP b) a f)(L:(pU b i).D f)(x:pV f (z<|G a) o)(q:o.map bw.all=gP e)(B:dL e)(k:qF 5 e)(w:∀X∈e,X.Good)(A:f.ownsRow (z<|G a) 189 1 S (y o) (o.map bw.ptr))(K:y e<=m):∃t,LS f b c g i j t m aw aw aw S [] [] [] o:=by
 have h':=v.ap C L;obtain⟨t,V,D,E,F,W,N⟩:=v.ph C x q B k w;rw[de]at D E F;have l:=lI q;have h:Row f 1 aw (y ([]:cN)) (([]:cN).map bw.ptr):=⟨rfl,.inl ⟨rfl,rfl⟩⟩;refine⟨t,{h' with news:=D,apart:=E,r0:=h,r1:=h,r2:=h,r3:=dF A,b0:=λQ n=>(by cases n),b1:=λQ n=>(by cases n),b2:=λQ n=>(by cases n),b3:=vk A v.aP v.JF v.le,x0:=by simp,x1:=by simp,x2:=by simp,x3:=F,nodup:=by simpa using N,s1:=jY.nil,s2:=jY.nil,s3:=FH q x.each B k w,qt:=?_}⟩;rw[l];simpa[cf]using K
structure Ww(w W:Z)(sb lb:M)(s:SR)(k:U)(K:DK)(m:cI)(a b c d:cN)(C tb N:M)(ls:dK)(sn:gw)(v3:ab)(tm:cN)(qs:cS NT):Prop where
 sv:SV w sb s k lb K (a++b++c++d) C s.aT (sE sn) (λt=>fy t<|m::bZ a b c d) W aw aw aw v3 [] [] [] tm qs
 Fa:∃K',gu w W s.aM sb K K'/\Inv W sb s K' m a b c d C tb N ls sn
 Xx:iN W v3 tm
 Lz:jW tm<=1000000000
 len:jW tm=y (gK<|dH (sE sn)<|cL<|m::bZ a b c d)
def Ww.ap{E:Z}{X b aa ac:cN}{N:gw}{K:cS NT}(q:Ww a B c g o k L e X b aa ac m x O l N d j K)(h:I az B E):Ww a E c g o k L e X b aa ac m x O l N d j K:=by
 obtain⟨P,W,v⟩:=q.Fa;have t:=oN (sbqq:=c) v.st.aM h;refine⟨⟨q.sv.ls.ap (h.mono cC)<|(pU o.aM L).eQ q.sv.ls.D h cC,(h.block g (ar q.sv.lb) id).trans q.sv.lb,q.sv.pr,q.sv.uz,(h.block c (ar q.sv.box) id).trans q.sv.box,q.sv.ap.bX h⟩,⟨P,W.trans t,v.fF (ar q.sv.box) t rfl (ai _) rfl v.loose⟩,⟨h.row q.Xx.row<|λk w=>⟨id,q.Xx.lt k w⟩,λk w=>ah (q.Xx.lt k w) h.size,λad C=>?_,q.Xx.small⟩,q.Lz,q.len⟩;obtain⟨V,p,cut,r,D,Q,s,n,u,A⟩:=q.Xx.each ad C;exact⟨V,p,cut,r,D,Q,s,n,u,A.di (h.block _ A.lt.1 id)<|h.block _ A.lt.2 id⟩
def Xh{W:Z}{k:U}{T b V X:cN}{D:gw}(av:cg a c o k)(r:Inv a c o i e T b V X m x O l D)(hp:n.Perm (sE D))(aa:(pU o.aM i).D f)(P:I (i.aP o.aM) a f)(ad:I az f B)(ho:B.ownsRow (z<|G f) 189 1 d (y j) (j.map bw.ptr))(s:j.map bw.all=gP (gK<|dH n<|cL<|e::bZ T b V X))(hn:pV B (z<|G f) j)(hW:I az B W)(hl:W.heap[g]?=H (ay #[aw,aw,aw,d] 93 (0,0))):∃qs,Ww a W c g o k i e T b V X m x O l D d j qs:=by
 rw[DP hp]at s;have A:=ar av;have h:=r.all;obtain⟨p1,p2,p3⟩:=II h s;have t:dL (cL<|e::bZ T b V X):=oI h.mq h.ph;have u:=(km<|dH (sE D)<|cL<|e::bZ T b V X).trans<|jj (sE D)<|cL<|e::bZ T b V X;have v:∀au∈cL (e::bZ T b V X),au.Good:=λau hx=>h.iK au<|(eH _).mem_iff.1 hx;have al:qF 5 (gK<|dH (sE D)<|cL<|e::bZ T b V X):=((xH t).sub<|km _).mono (by rw[qw];have:=r.BM.len;omega);have F:=lI s;have an:=r.st.qt;have S:=r.st.oR;have Q:I az f W:=ad.bX hW;have p:I (i.aP o.aM) a W:=P.bX Q;have E:(pU o.aM i).D W:=(pU o.aM i).eQ aa Q cC;have K:pV W (z<|G f) j:=hn.ap hW;have w:W.ownsRow (z<|G f) 189 1 d (y j) (j.map bw.ptr):=hW.own ho<|λ_ _ q=>q;have ac:=r.st.XI (C':=m) A r.Fc (by omega) S;have L:=P.size;obtain⟨qs,C⟩:=ac.least p E (K.base L) s (t.sub u) al (λau hx=>v au<|u.subset hx) (fN w L) (by rw[<-F];omega);obtain⟨K',hd,e1,e2,e3⟩:=SE (sbqq:=c) (gu.refl r.st.aM) E p;have hb:cg W c o k:=(p.block c A r.st.yP).trans av;refine⟨qs,⟨C,hl,p1,p2,hb,p⟩,⟨K',hd,r.fF A hd (by rw[e1]) (by rw[e2];grind) rfl r.loose⟩,⟨dF w,λk hk=>(w.lt k hk).2,λao N=>Ta<|K.each ao N,?_⟩,?_,?_⟩;have:=la C.s3.pure;omega;rw[vF<|λao N=>C.ks<|C.x3 ao N];omega;rw[vF<|λao N=>C.ks<|C.x3 ao N,F]
def LO{l b n p:cN}(j:ST a c o i e l b n p m)(f:Z)(t:ab)(s:I az a f)(r:f.ownsRow (z<|G a) 168 1 t (y (oV (o.l0,l) (o.l1,b) (o.l2,n) (o.l3,p))+1) (wD o.memory (o.l0,l) (o.l1,b) (o.l2,n) (o.l3,p))):cD aZ 130 #[t,am ⟨#[]⟩] f λB u=>∃A v,B=aJ A/\iV (pU o.aM i) (z<|G a) A (cL<|e::bZ l b n p) v u/\(pU o.aM i).D u/\I (pU o.aM i).F f u/\(∀k,v k->z (G f)<=k):=by
 have hF:∀k,(pU o.aM i).F k->k<z (G a):=j.aM.lt;have d:kC (pU o.aM i) (z<|G a) az a f:=s.same (ai _) cC cC;have h:y (nX o e l b n p)=y (oV (o.l0,l) (o.l1,b) (o.l2,n) (o.l3,p))+1:=by have:=bR y<|xK o e l b n p;rw[df]at this;rw[this];simp[wD]
 have w:=j.count;have x:=AV (z<|G a) (nX o e l b n p) t ⟨#[]⟩ (by rw[xK,h];exact dF r) (λk f=>⟨(r.lt k f).2,λq=>by have:=hF k q;have:=(r.lt k f).1;omega⟩) (by simp only[nX,aW,ag,List.length_reverse,df,eD];omega) (λe a=>(j.It _<|ak a).same d) ((pU o.aM i).eQ j.Qh s cC) s.size hF;rw[qx,nZ (g:=id)<|λl _=>Lf l,wi]at x;exact x
def Zp(a b c d:cN)(n:M):Prop:=a=[]/\b=[]/\c=[]/\jW d=n
def EO(w o:Z)(a:M)(s:SR)(p:U)(K:DK)(C N:M)(n:gw)(l:M)(j:U->ae->Option ae)(q:M):Prop:=∃m i k e f g h d c,EM w o a s p K C N n l j m i k e f g h d c/\Zp e f g h q
def map_nil(h:j.map bw.all=([]:cN).map bw.all):j=[]:=by simpa using h
def Lx{Q b K S:cN}(A:gw)(h:cg a c o k)(f:Inv a c o L e Q b K S g m x l A)(hT:Ax o Q b K)(hN:x+1<=100000000):cD aZ 77 #[aA c] a λV B=>V=aJ .nilIface/\EO a B c o k L g (x+1) A o.aT (λau=>fy au<|e::bZ Q b K S) (y<|gK<|dH (sE A)<|cL<|e::bZ Q b K S):=by
 obtain⟨mx,mc,cT⟩:=bO f.st.mem;have ck:=Dq (o.l0,Q) (o.l1,b) (o.l2,K) (o.l3,S) h mx (y e) mc cT<|f.st.WZ h;have bi:=LO f.st;have N:=f.all;have bh:=f.st.flat;have bf:=f.st.oR;have bv:y (cL<|e::bZ Q b K S)<=1000000:=by have:=(eH<|e::bZ Q b K S).length_eq;omega
 have cl:=ar h;obtain⟨mb,q1,q2,q3⟩:=f.BM.ex;have h4:=f.BM.len
 have ch:∀s,I (L.aP o.aM) a s->cD aZ 104 #[aA c] s λV B=>∃d,∃w:dO,V=aJ d/\w.Perm (sE A)/\B.ownsRow (z<|G s) 89 1 d (y w) (w.map<|Value.int .u64)/\I az s B:=λs ht=>
  wM (b:=mb) A ((ht.block c cl f.st.yP).trans h) q1 (q2.di<|ht.block _ q2.lt q3.aP) h4
 have bl:∀s F dv c(w:dO),I (L.aP o.aM) a s->I az s F->w.Perm (sE A)->s.ownsRow (z<|G a) 170 4 dv (y<|cL<|e::bZ Q b K S) (aI<|cL<|e::bZ Q b K S)->F.ownsRow (z<|G s) 89 1 c (y w) (w.map<|Value.int .u64)->cD aZ 131 #[dv,c] F λV B=>∃r,∃d:cN,V=aJ (dE #[aw,aw,aw,r])/\B.ownsRow (z<|G F) 189 1 r (y d) (d.map bw.ptr)/\d.map bw.all=gP (gK<|dH w<|cL<|e::bZ Q b K S)/\pV B (z<|G F) d/\I az F B:=λs F dv c w E n hp al P=>by have u:=n.own al<|λ_ _ q=>q;exact Qz w (dF u) (dF P) (oI N.mq N.ph) (λx a=>N.iK x<|(eH _).mem_iff.1 a) bv (by have:=hp.length_eq;rw[qw]at this;omega) (λq hq=>(u.lt q hq).2) (λq hq=>(P.lt q hq).2) (Steps.ap f.st.lP.steps (E.bX n) f.st.lP.eL.aP)<|ah f.st.lP.eL.lt (E.bX n).size
 have bd:∀W v r d t,Ww a W c v o k L e Q b K S g m x l A r d t->cD aZ 112 #[aA c,dE #[aw,aw,aw,r],aG o.aT] W λV B=>V=aJ .nilIface/\EO a B c o k L g (x+1) A o.aT (λau=>fy au<|e::bZ Q b K S) (y<|gK<|dH (sE A)<|cL<|e::bZ Q b K S):=λW v r d t D=>by refine(Dg v g o.aT (sE A) _ W _ _ _ _ [] [] [] d t D.sv h f.st f.oh f.JK.1 (by have:=f.bn;have:=f.oR;omega) (by have:=f.nx;have:=f.oR;omega) (by have:=f.dN;have:=f.oR;omega)).mono ?_;rintro V B⟨rfl,K',num,a',b',c',d',hO,e0,e1,e2,e3⟩;have e0:=map_nil e0;have e1:=map_nil e1;have e2:=map_nil e2;have e4:cf d'=cf d:=bR List.flatten e3;refine⟨rfl,_,K',[],a',b',c',d',o.aT,[],⟨hO.box,hO.inv f.zi f.nx (by have:=f.bn;omega) hN f.BM f.Va<|ai _,λau ht q=>by rw[ma];exact hO.uz au (ht.imp_right (λV=>by rw[V];grind)) q,hO.fF,⟨rfl,rfl,rfl,rfl,rfl,rfl⟩,rfl,by have:=f.zi.1;show((0:M):U)<o.mem;omega,?_⟩,e0,e1,e2,?_⟩;rw[e0,e1,e2];have:=f.zi.2.2.1;show(0:U)<o.nR/\(0:U)<=o.nR/\(0:U)<=o.nR;omega;rw[vF<|λau q=>(hO.st.l3.each au q).ks,e4,<-D.len,vF<|λau ht=>D.sv.ls.ks<|D.sv.ls.x3 au ht]
 have an:∀W v r d t,AF [Q,b,K,S] [[],[],[],d] 4->Ww a W c v o k L e Q b K S g m x l A r d t->cD aZ 48 #[aA c] W λV B=>V=aJ .nilIface/\EO a B c o k L g (x+1) A o.aT (λau=>fy au<|e::bZ Q b K S) (y<|gK<|dH (sE A)<|cL<|e::bZ Q b K S):=λW v r d t C D=>by obtain⟨K1,ca,O⟩:=D.Fa;have f0:=(C 0<|by omega).1;have f1:=(C 1<|by omega).1;have f2:=(C 2<|by omega).1;have f3:=(C 3<|by omega).2;apply(O.safe D.sv.box).mono;rintro V B⟨rfl,K',hd,hf,hb,hI⟩;exact⟨rfl,_,K',e,Q,b,K,S,m,l,⟨hb,hI.mono (ai _) bf (by omega) hN,λ_ _ _=>rfl,ca.trans hd,⟨rfl,rfl,rfl,rfl,rfl,rfl⟩,rfl,hT⟩,aQ f0,aQ f1,aQ f2,f3.trans D.len⟩
 have bc:∀W v r d t,Ww a W c v o k L e Q b K S g m x l A r d t->cD aZ 132 #[dG<|H<|R c 10,aA v] W λV B=>∃dx,V=aJ (aK dx)/\(dx=cq->AF [Q,b,K,S] [[],[],[],d] 4)/\I az W B:=λW v r d t D=>by have cm:=f.st.count;have co:=f.st.qt;(have hk:∀a:cN,(∀au∈a,au.ks=bK 0 au.cs)->y (cf a)<=1000000->jW a<=1000000000:=λa c d=>by rw[vF c];omega);refine IT W c v o.l0 o.l1 o.l2 o.l3 aw aw aw r Q b K S [] [] [] d (λj hX=>?_) ⟨hk Q (λau q=>(f.st.l0.each au q).ks) (by omega),hk b (λau q=>(f.st.l1.each au q).ks) (by omega),hk K (λau q=>(f.st.l2.each au q).ks) (by omega),hk S (λau q=>(f.st.l3.each au q).ks) (by omega),by simp[jW],by simp[jW],by simp[jW],D.Lz⟩;have aD:=D.ap hX;obtain⟨K1,ca,O⟩:=aD.Fa;have hb:=aD.sv.box;have hl:=aD.sv.lb;exact⟨⟨hb.cell rfl,hb.cell rfl,hb.cell rfl,hb.cell rfl⟩,⟨by rw[bW hl];rfl,by rw[bW hl];rfl,by rw[bW hl];rfl,by rw[bW hl];rfl⟩,⟨O.st.l0.Qx (by omega),O.st.l1.Qx (by omega),O.st.l2.Qx (by omega),O.st.l3.Qx<|by omega⟩,⟨DZ _,DZ _,DZ _,aD.Xx⟩⟩
 have aV:=Y<|λ(s F p W:Z)(v:M)(r:ab)(d:cN)(w:dO)(hp:w.Perm (sE A))(ax:(pU o.aM L).D s)(E:I (L.aP o.aM) a s)(n:I az s F)(aU:I az F p)(g:p.ownsRow (z<|G F) 189 1 r (y d) (d.map bw.ptr))(aF:d.map bw.all=gP (gK<|dH w<|cL<|e::bZ Q b K S))(c:pV p (z<|G F) d)(hW:I az p W)(hl:W.heap[v]?=H (ay #[aw,aw,aw,r] 93 (0,0)))=>Xh (k:=k) h f hp ax E (n.bX aU) (fN g n.size) aF (c.base n.size) hW hl;have br:=Y (show∀W v r d t,Ww a W c v o k L e Q b K S g m x l A r d t->aS W (R c 8)=H (aq o.fT)/\aS W (R c 9)=H (aG o.aT)/\W.heap[v]?=H (ay #[aw,aw,aw,r] 93 (0,0))fromλW v r d t D=>⟨D.sv.box.cell rfl,D.sv.box.cell rfl,D.sv.lb⟩);obtain⟨ML,bb⟩:∃ML,cL (e::bZ Q b K S)=ML:=⟨_,rfl⟩;rw[bb]at bi bl aV bv;obtain⟨cs,cv,cu,ba,bg,bq⟩:=lf bi ch bl bd an bc;clear h f hT bi ch bl bd an bc N bh bf cl q1 q2 q3 h4 bb;go_in
 go_wp2_with fail
 apply ck.mono;rintro V w1⟨v1,rfl,bm,bo⟩;have hf:=cs w1 v1 bo bm;obtain⟨y1,e1,db⟩:=aC bm;subst db;have bs:=Y bo;clear bm bo ck;go_wp2_with fail
 apply hf.mono;rintro V w2⟨v2,S2,rfl,cb,bu,bp,bx⟩;have dn:=bs.size;have ds:=bp.size;have bT:=Cj (λh=>h) cb bu (by omega);have cB:=Y<|(bs.mono (T:=L.aP o.aM) cC).trans bp<|λ_ q=>.inl q;have cx:=Y bx;clear cb bu bp bx hf;go_wp2_with fail
 apply bT.mono;rintro V s⟨r,rfl,al,ax,E⟩;have ao:I (L.aP o.aM) a s:=cB.trans E<|λq hq=>hq.elim (λg=>.inr (by have:=cx q g;omega)) .inl;have u:s.ownsRow (z<|G a) 170 4 r (y ML) (aI ML):=fN al (by omega);obtain⟨y3,e3,dc⟩:=aC al;subst dc;have ce:=cv s ao;obtain⟨cw,bt,cp⟩:=dz u ao ax;clear al u ax E ao bT dn ds;go_wp2_with fail
 apply ce.mono;rintro V F⟨v4,w,rfl,hp,P,n⟩;have cc:=cu s F _ v4 w bt n hp cw P;obtain⟨y4,e4,dk⟩:=aC P;subst dk;have HP:=Y hp;have cE:=Y n;clear P n hp ce;go_wp2_with fail
 apply cc.mono;rintro V p⟨v5,d,rfl,bn,aF,cj,aU⟩;obtain⟨y5,e5,dm⟩:=aC bn;subst dm;obtain⟨W,hW⟩:∃W,cG p (ay #[aw,aw,aw,J y5 (y d) e5] 93)=W:=⟨_,rfl⟩;have bE:W.heap[z<|G p]?=H (ay #[aw,aw,aw,J y5 (y d) e5] 93 (0,0)):=by rw[<-hW];exact aH _ rfl
 have cn:I az p W:=by rw[<-hW];exact(cK az p)
 obtain⟨t,hC⟩:=aV s F p W (z<|G p) _ d w HP cp bt cE aU bn aF cj cn bE;obtain⟨b8,b9,cd⟩:=br W _ _ d t hC;have HC:=Y hC;clear bn aF cj aU cc bE cn hC;by_cases dT:o.fT=0
 .have cM:decide ((o.fT:U)=0)=cq:=vZ (by omega);go_wp2_with fail
  apply(bq W _ _ d t HC).mono;rintro V W8⟨dx,rfl,C,cm⟩;have co:=Y C;have aD:=HC.ap cm;obtain⟨c8,c9,bk⟩:=br W8 _ _ d t aD;have av:=Y aD;clear aD cm cd b8 b9 C;cases dx with
  |true=>
   go_wp2_with fail
   apply(bg W8 _ _ d t (co trivial) av).mono;rintro V w9⟨rfl,hP⟩;have X:=Y hP;clear hP;go_wp2;go_ret;exact⟨rfl,X⟩
  |false=>
   go_wp2_with fail
   rename_i QQ KK ad;have hS:W8.drew.heap[z<|G p]?=H (ay #[aw,aw,aw,J y5 (y d) e5] 93 (0,0))/\aS W8.drew (R c 9)=H (aG o.aT):=⟨bk,c9⟩;refine kJ (λj=>j.heap[z<|G p]?=H (ay #[aw,aw,aw,J y5 (y d) e5] 93 (0,0))/\aS j (R c 9)=H (aG o.aT)) 6 (by kernel_rfl) ?_;refine lX 0 ?_;iterate 6 (refine yH (v:=?_) hS rfl (by kernel_rfl) mj rfl ?_ ?_;rotate_left;(focus(rintro j⟨z0,z1⟩;have x0:aS j (R (z<|G p) 0)=H aw:=(by rw[bW z0];rfl);have x1:aS j (R (z<|G p) 1)=H aw:=(by rw[bW z0];rfl);have x2:aS j (R (z<|G p) 2)=H aw:=(by rw[bW z0];rfl);have x3:aS j (R (z<|G p) 3)=H (J y5 (y d) e5):=(by rw[bW z0];rfl);go_simp;try rfl));simp only[Act.put,eF,jF,Nat.reduceAdd])
   apply qp;refine gJ (i:=6) rfl rfl (by kernel_rfl) ?_;intro K6 aa;go_simp;apply(ba _ _ _ d t<|av.ap<|cR az _).mono;rintro V w9⟨rfl,hP⟩;have X:=Y hP;refine aa _ _ (λK=>(by omega)) ?_;try simp only[Act.put,eF,jF]
   clear aa hP hS;refine gJ (i:=7) rfl rfl (by kernel_rfl) ?_;intro K7 ac;go_simp;refine ac _ _ (λK=>(by omega)) ?_;try simp only[Act.put,eF,jF]
   clear ac;refine kK (by kernel_rfl) ?_ _;show KK _ _;apply ad;clear ad;go_wp2;go_ret;exact⟨rfl,X⟩
 (.have cM:decide ((o.fT:U)=0)=bj:=decide_eq_false (by omega);have av:=HC;have bk:=cd;have c9:=b9;(go_wp2_with fail);rename_i QQ KK ad;have hS:W.drew.heap[z<|G p]?=H (ay #[aw,aw,aw,J y5 (y d) e5] 93 (0,0))/\aS W.drew (R c 9)=H (aG o.aT):=⟨bk,c9⟩;refine kJ (λj=>j.heap[z<|G p]?=H (ay #[aw,aw,aw,J y5 (y d) e5] 93 (0,0))/\aS j (R c 9)=H (aG o.aT)) 6 (by kernel_rfl) ?_;refine lX 0 ?_;(iterate 6 (refine yH (v:=?_) hS rfl (by kernel_rfl) mj rfl ?_ ?_;rotate_left;(focus(rintro j⟨z0,z1⟩;have x0:aS j (R (z<|G p) 0)=H aw:=(by rw[bW z0];rfl);have x1:aS j (R (z<|G p) 1)=H aw:=(by rw[bW z0];rfl);have x2:aS j (R (z<|G p) 2)=H aw:=(by rw[bW z0];rfl);have x3:aS j (R (z<|G p) 3)=H (J y5 (y d) e5):=(by rw[bW z0];rfl);go_simp;try rfl));simp only[Act.put,eF,jF,Nat.reduceAdd]));apply qp;refine gJ (i:=6) rfl rfl (by kernel_rfl) ?_;intro K6 aa;go_simp;apply(ba _ _ _ d t<|av.ap<|cR az _).mono;rintro V w9⟨rfl,hP⟩;have X:=Y hP;refine aa _ _ (λK=>(by omega)) ?_;(try simp only[Act.put,eF,jF]);clear aa hP hS;refine gJ (i:=7) rfl rfl (by kernel_rfl) ?_;intro K7 ac;go_simp;refine ac _ _ (λK=>(by omega)) ?_;(try simp only[Act.put,eF,jF]);clear ac;refine kK (by kernel_rfl) ?_ _;show KK _ _;apply ad;clear ad;go_wp2;go_ret;exact⟨rfl,X⟩)
section
open Conc.Locks
def RV(h:cg a b o 0)(l:o.closed=cq):cD aZ 44 #[aA b] a λm k=>m=aJ (pP 6)/\cg k b o 0/\I (λu=>u=b) a k:=by
 have p:=cg.cellAt h 0 rfl;have r:a.frozen? (R b 0)=bj:=h.free;have j:=h.lR 1;have c:=mr j;rw[l]at c;simp only[ly]at c;have n:=Y<|λg i=>zB (W2:=g) j (iX b a) i;clear h j l;rw[Iy]at c|-;go_enter_defers func44,ntmps44
 go_wp2_with fail
 apply(lock_free (R b 0) _ p r).mono;rintro m k⟨rfl,rfl⟩;go_wp2_with fail
 apply c.mono;rintro m g⟨rfl,i⟩;obtain⟨q,s,d⟩:=n g i;have e:=Y d;clear d i c;go_wp2;refine jr (f:=34) (args:=#[aA b]) (by simp) (by simp[go_sem]) ?_;apply(unlock_deferred (R b 0) .returning _ q s).mono;rintro m v t⟨rfl,rfl,rfl⟩;exact⟨_,jS rfl _ _ _,rfl,e⟩
def Fm(C:gw)(h:cg a b o 0)(L:Inv a b o i e j p r s c g m l C)(hT:Ax o j p r)(P:o.closed=bj)(hN:m+1<=100000000):cD aZ 44 #[aA b] a λF v=>F=aJ .nilIface/\EO a v b o 0 i c (m+1) C o.aT (λao=>fy ao<|e::bZ j p r s) (y<|gK<|dH (sE C)<|cL<|e::bZ j p r s):=by
 have al:=ar h;have c0:=cg.cellAt h 0 rfl;have f0:a.frozen? (R b 0)=bj:=h.free;have t:=xP L.st.aM L.st.yP 1;have B:=h.lR 1;have d:=L.fF al t rfl (ai _) rfl L.loose;generalize hW:cA a (R b 0) (lY 1)=D at t B d;have n:=mr B;rw[P]at n;have V:cD aZ 35 #[aA b] D λF v=>F=aJ .nilIface/\Below (z<|G D) D v:=n;have Q:∀E,I az D E->cD aZ 77 #[aA b] E λF v=>F=aJ .nilIface/\EO a v b o 1 i c (m+1) C o.aT (λao=>fy ao<|e::bZ j p r s) (y<|gK<|dH (sE C)<|cL<|e::bZ j p r s):=λE w=>by have S:gu D E o.aM b i i:=⟨d.st.aM.ap w<|λ_ _=>id,w.mono cC,λ_ q=>.inl q⟩;have ac:=d.fF (ar B) S rfl (ai _) rfl d.loose;have ad:cg E b o 1:=(w.block b (ar B) id).trans B;apply(Lx C ad ac hT hN).mono;rintro F v⟨rfl,s',K',m',a',b',c',d',A,x,k,u⟩;exact⟨rfl,s',K',m',a',b',c',d',A,x,⟨k.box,k.inv,k.uz,(t.trans S).trans k.fF,k.same,k.Bx,k.tid⟩,u⟩
 have W:=Y Q;have HW:=Y hW;clear h L hT t B d P hW Q n;go_enter_defers func44,ntmps44
 go_wp2_with fail
 apply(lock_free (R b 0) _ c0 f0).mono;rintro F v⟨rfl,an⟩;rw[af HW]at an;subst v;go_wp2_with fail
 apply V.mono;rintro F Wr⟨rfl,O⟩;have hd:=W Wr<|I.aR O;clear O V;go_wp2_with fail
 apply hd.mono;rintro F w3⟨rfl,s',K',m',a',b',c',d',A,x,k,u⟩;have X:=Y u;have T:=Gw k.box;have HO:=Y k;clear k hd u;go_wp2_with fail
 apply T.mono;rintro F w4⟨rfl,N⟩;obtain⟨d0,g0,K⟩:=HO.fin N;have aa:=Y K;clear K N T;go_wp2;refine jr (f:=34) (args:=#[aA b]) (by simp) (by simp[go_sem]) ?_;apply(unlock_deferred (R b 0) .returning _ d0 g0).mono;rintro F u' au⟨rfl,rfl,rfl⟩;exact⟨_,jS rfl _ _ _,rfl,s',K',m',a',b',c',d',A,x,aa,X⟩
end
def qZ(h:vJ ((b:U)+1) l):kU l=gq [] l.flatten/\dL (gq [] l.flatten)/\jR (b+y l:M) (gq [] l.flatten)=gq [] l.flatten/\qF 5 (gq [] l.flatten)/\y (gq [] l.flatten)<=(l.map y).sum:=by
 obtain⟨c,d,e,a⟩:=Vk h (y l)<|ai _;rw[bN]at c d e a;have g:(b:U)+1+y l-1=((b+y l:M):U):=by grind
 rw[g]at a;have f:=FX l;rw[<-c];refine⟨rfl,d.mq,a,?_,f⟩;rcases vS l with q|⟨r,i,q⟩;rw[q];exact qF.nil _;grind[yS,AI,FV]
def wA{s:SR}{S u v w A:cN}{P:M}(d:rN F a b i j p r S g m x O P K l)(e:OV F f b c i L s.l0 s.l1 s.l2 s.l3 j p r S u v w A)(h:I (λq=>i.aP b q\/q=c) a f)(N:z (G a)<=c)(B:s.aM=b)(E:jX f s.memory (gq [] l.flatten))(k:∀T,cz s.memory=H T->Aside f L b c T):xx F f c s L (gq [] l.flatten) u v w A g:=by
 obtain⟨_,Q,W,X,p4⟩:=qZ d.lp;subst B;have o:=d.steps.lt;have n:=d.pow.lt;refine⟨E,k,e.l0,e.l1,e.l2,e.l3,e.aM,λr=>?_,⟨Steps.ap d.steps h (λr=>r.elim d.eL<|λr=>by omega),d.pow.ap h (λr=>r.elim d.lk<|λr=>by omega),⟨ah o h.size,λr=>d.eL<|e.same.2.2 _ r,by omega⟩,⟨ah n h.size,λr=>d.lk<|e.same.2.2 _ r,by omega⟩⟩,?_,d.oR,Q,?_,e.k1.side d.s1,e.k2.side d.s2,e.k3.side d.s3⟩;have:=d.aM.lt _<|e.same.2.2 _ r;omega;rw[e.k0.cf,e.k1.cf,e.k2.cf,e.k3.cf];exact d.qt;intro aa t;rcases sM t with C|C;simp at C;obtain⟨V,D,t⟩:=bB.1 C;exact d.lp.iK V D aa t
def wY{s:SR}{ad v w x A:cN}{aa g ac nx B:M}(d:xA a b i j p r ad aa g ac nx B K l)(e:OV (vw i.files) f b c i L s.l0 s.l1 s.l2 s.l3 j p r ad v w x A)(T:I (λq=>i.aP b q\/q=c) a f)(t:z (G a)<=c)(C:s.aM=b)(D:s.next=nx)(E:s.log=B)(F:s.fa=K)(m:s.aT=g+y l)(N:s.fT=(l.map y).sum)(O:s.vU=bj)(P:jX f s.memory (gq [] l.flatten))(o:∀al,cz s.memory=H al->Aside f L b c al)(h:1<=s.mem/\s.mem<=32/\2<=s.nR/\s.nR<=6)(n:s.iS=cq->s.fa=cq)(u:Jg f L c s []):Inv f c s L (gq [] l.flatten) v w x A aa g ac l []:=by
 obtain⟨_,p1,W,X,p4⟩:=qZ d.lp;subst C D E F;have k:vw L.files=vw i.files:=by rw[e.same.1]
 have S:=d.steps.lt;have Q:=d.pow.lt;refine{st:=?_,oh:=?_,pr:=?_,lp:=d.lp,mem:=by rw[m];exact W,RT:=λan V=>?_,Xw:=p4,XB:=X,BM:=u,Va:=λ_ q=>(by cases q),Bx:=m,RA:=N,vU:=O,Fc:=e.Fc,nx:=d.nx,bn:=by rw[m];exact d.bn,dN:=by rw[e.same.2.1];exact d.dN,zi:=h,loose:=n,Qu:=d.Qu,oR:=d.AN};rw[ST,k];exact wA d e T t rfl P o;rw[k];exact d.oh.YQ e.k0 e.k1 e.k2 e.k3;rw[jM.bZ e.k0 e.k1 e.k2 e.k3];exact d.pr;rw[m];rcases sM V with q|q;cases q;exact d.lp.uP an q
def rN.ap{d:Fs}{w w':Z}{j b k n:cN}{e:M}(h:rN d w c L j b k n g m x O e K l)(a:I az w w'):rN d w' c L j b k n g m x O e K l:={h with aM:=h.aM.ap a<|λ_ _=>id,steps:=Steps.ap h.steps a id,pow:=h.pow.ap a id}
def Dy(h:l≠[]):0<y (ji k l):=by
 rcases l with _|⟨a,r⟩;grind
 unfold ji mJ;grind[length_append,fD,bU]
structure xy(w w':Z)(db sb:M)(mem nR:U)(K:DK)(C N:M)(R0:ae->Option ae)(s:SR)(K':DK)(m:cI)(a b c d:cN)(tb:M)(ls:dK):Prop where
 box:cg w' sb s 0
 inv:Inv w' sb s K' m a b c d C tb N ls []
 uz:∀q,fy s.aT (m::bZ a b c d) q=R0 q
 same:s.aM=db/\s.closed=bj/\s.mem=mem/\s.nR=nR/\s.La=0/\s.ou=H (z (G w)+1)
 fF:gu w w' db sb K K'
 size:z (G w)+4<=z (G w')
 aP:∀k,K'.aP db k->K.aP db k\/z (G w)+4<=k
def LW(w i:Z)(h c:M)(e a:U)(K:DK)(C N:M)(g:ae->Option ae):Prop:=∃s f n j k l m d b,xy w i h c e a K C N g s f n j k l m d b/\Ax s j k l
def xy.step{A v:ae->Option ae}{d:SR}{p:DK}{S V C W r s c' t:cN}{n j:M}{h:dK}(w:xy a f b c k D i g m A o L e S V C W n l)(F:cg B c d 0)(E:Inv B c d p N r s c' t x j O h [])(P:∀q,fy d.aT (N::bZ r s c' t) q=v q)(K:d.aM=b/\d.closed=bj/\d.mem=k/\d.nR=D/\d.La=0/\d.ou=H (z (G a)+1))(u:gu f B b c L p):xy a B b c k D i x O v d p N r s c' t j h:=⟨F,E,P,K,w.fF.trans u,aB w.size u.ap.size,λQ C=>(u.aP Q C).elim (λq=>w.aP Q q)<|λq=>.inr<|aB w.size q⟩
def xy.kept{h:Z}{t:ae->Option ae}{n:DK}(v:xy a B b (z (G a)+2) k D i c g t o L e j p r s m l)(u:gu B h b (z (G a)+2) L n)(d:∀w,i.aP b w->w<z (G a)):h.heap[z (G a)+3]?=B.heap[z (G a)+3]?:=u.ap.block _ (by have:=v.size;omega) (λr=>r.elim (λr=>by
 rcases v.aP _ r with q|q
 .have:=d _ q;omega
 .omega) (λr=>by omega))
def re(h:qG a b F X T):OW a T:=by
 obtain⟨f,d,c,e,_⟩:=h.mem;exact⟨h.num,_,_,_,_,_,_,_,_,e⟩
def Qd(h d:U){V:M}(n:xA a b i j p r s c g x O V K l)(ho:1<=h/\h<=32/\2<=d/\d<=6)(hN:x+1<=100000000):cD aZ 10 #[aA b,dE #[aq h,aq d]] a λX u=>X=aJ (dd #[aA<|z (G a)+2,.nilIface])/\LW a u b (z (G a)+2) h d i c (x+1) (fy (g+y l:M)<|gq [] l.flatten::bZ j p r s):=by
 have v:=n.aM.lt;have Q:¬i.aP b (z (G a)+2):=λq=>by have:=v _ q;omega
 have bk:O<18446744073709551616:=by have:=n.nx;have:=n.AN;omega
 have aU:V<18446744073709551616:=by have:=n.oh.lt;omega
 have bh:=n.bn;have bf:=n.count;refine OA b h d a ho (λW=>I az a W/\cg W (z (G a)+2) (SR.fresh b h d<|z (G a)+1) 0/\kQ W (z (G a)+1) []/\z (G W)=z (G a)+4) (λW=>∃u0 u1 u2 u3 L C D E F,cg W (z (G a)+2) ((SR.fresh b h d<|z (G a)+1).lH u0 u1 u2 u3 O V g<|decide<|0<y i.files) 0/\OV (vw i.files) W b (z (G a)+2) i L u0 u1 u2 u3 j p r s C D E F/\I (λq=>i.aP b q\/q=z (G a)+2) a W/\kQ W (z (G a)+1) []/\z (G a)+4<=z (G W)) (λW=>∃bb w C D E F,xy a W b (z (G a)+2) h d i c x (fy (g+y l:M)<|gq [] l.flatten::bZ j p r s) bb w (gq [] l.flatten) C D E F g l) (λW=>∃bb w C D E F,xy a W b (z (G a)+2) h d i c x (fy (g+y l:M)<|gq [] l.flatten::bZ j p r s) bb w (gq [] l.flatten) C D E F g l) (λW=>LW a W b (z (G a)+2) h d i c (x+1)<|fy (g+y l:M)<|gq [] l.flatten::bZ j p r s) (λW h1 h2 h3 h4=>⟨h1,h2,h3,h4⟩) ?_ ?_ ?_ ?_;rintro W⟨o,hb,au,aD⟩;apply(Qt hb rfl Q<|n.ap o).mono;rintro X u⟨rfl,u0,u1,u2,u3,P,⟨L,C,D,E,F,e⟩,t⟩;have A:=t.size;refine⟨rfl,⟨u0,u1,u2,u3,L,C,D,E,F,P,e,(o.mono (T:=λq=>i.aP b q\/q=z (G a)+2) cC).trans t<|λ_ q=>.inl q,au.di (t.block _ (by omega)<|λq=>q.elim (λq=>by have:=v _ q;omega)<|λq=>by omega),by omega⟩,?_⟩;exact t.block _ (by omega)<|λq=>q.elim (λq=>by have:=v _ q;omega)<|λq=>by omega
 .rintro W⟨u0,u1,u2,u3,L,C,D,E,F,hb,e,o,au,aD⟩;have ba:vw L.files=vw i.files:=by rw[e.same.1]
  have A:=jM.bZ e.k0 e.k1 e.k2 e.k3;have ax:¬L.aP b (z (G a)+2):=λq=>Q<|e.same.2.2 _ q;have an:Pow W:=n.pow.ap o<|λq=>q.elim n.lk (λq=>by have:=n.pow.lt;omega);have bd:Steps W:=Steps.ap n.steps o<|λq=>q.elim n.eL (λq=>by have:=n.steps.lt;omega);have ad:∀u,I (λq=>L.aP b q\/q=z (G a)+2) W u->u.heap[z (G a)+3]?=W.heap[z (G a)+3]?:=λu c=>c.block _ (by omega) (λq=>q.elim (λq=>by have:=v _<|e.same.2.2 _ q;omega)<|λq=>by omega);have ao:∀u w,I (λq=>L.aP b q\/q=z (G a)+2) W u->(∀ac,w.aP b ac->L.aP b ac)->kQ u (z (G a)+1) []/\Aside u w b (z (G a)+2) (z (G a)+1):=λu w c hf=>⟨au.di (c.block _ (by omega)<|λq=>q.elim (λq=>by have:=v _<|e.same.2.2 _ q;omega)<|λq=>by omega),by have:=c.size;omega,λq=>by have:=v _<|e.same.2.2 _<|hf _ q;omega,by omega⟩;have aV:Jg W L (z (G a)+2) ((SR.fresh b h d<|z (G a)+1).lH u0 u1 u2 u3 O V g<|decide<|0<y i.files) []:=⟨⟨z (G a)+1,rfl,ao W L (I.refl _ W)<|λ_ q=>q⟩,by simp⟩;cases hlgd:K with
  |false=>
   have al:=n.oh.DL hlgd;have av:dB (vw L.files) (fE V)=none:=by
    rw[ba];rcases hf:dB (vw i.files) (fE V)with _|bs
    .rfl
    .rcases n.oh.names _ _ hf with X|⟨_,X⟩|⟨aF,o,X⟩
     .grind[nU]
     .rw[hlgd]at X;cases X
     .exact absurd X.symm<|lG _ _
   apply(wH hb e.aM an aU av).mono;rintro X u⟨rfl,t⟩;have aa:=e.ap (t.mono (T:=λq=>q=z (G a)+2) cC) Q;have S:=o.bX t;refine⟨rfl,⟨(SR.fresh b h d<|z (G a)+1).lH u0 u1 u2 u3 O V g<|decide<|0<y i.files,L,C,D,E,F,?_⟩,ad u<|t.mono cC⟩;have k:=wY (s:=(SR.fresh b h d<|z (G a)+1).lH u0 u1 u2 u3 O V g<|decide<|0<y i.files) n aa S (by omega) rfl rfl rfl hlgd.symm (by rw[al];rfl) (by rw[al];rfl) rfl (by rw[al];exact⟨rfl,.inl ⟨rfl,rfl⟩⟩) (λac q=>by cases q) ho (λq=>by cases q) ⟨⟨z (G a)+1,rfl,ao u L (t.mono cC)<|λ_ q=>q⟩,by simp⟩;exact⟨(t.block _ (ar hb) id).trans hb,k,λq=>by rw[A,k.Bx],⟨rfl,rfl,rfl,rfl,rfl,rfl⟩,⟨aa.aM,S.mono<|λ_ q=>.inl q,λac q=>.inl<|e.same.2.2 ac q⟩,aB aD t.size,λac q=>.inl<|e.same.2.2 ac q⟩
  |true=>
   have av:=n.Qu hlgd;have bc:y (ji ((g:U)+1) l)<=200000:=by
    have h1:=oW (f:=(g:U)+1)<|λbg a=>⟨n.lp.iK bg a,(n.lp.one bg a).2⟩;have h2:=yL<|λbg a=>(n.lp.one bg a).1;have h3:=n.lp.sum;omega
   refine(Dw l hb e.aM ax an bd ⟨by have:=n.steps.lt;omega,λq=>n.eL<|e.same.2.2 _ q⟩ aU n.lp (by rw[ba];exact n.oh.log hlgd) (Dy av) bc rfl rfl (by show g<=1000000000;have:=n.AN;omega) aV).mono ?_;rintro X u⟨rfl,mv,w,P,al,N,e1,e2,e3⟩;have bi:∀aF:bw,dB (vw w.files) (gv aF.num)=dB (vw L.files) (gv aF.num):=λaF=>by rw[e1]
   have aa:OV (vw i.files) u b (z (G a)+2) i w u0 u1 u2 u3 j p r s C D E F:=⟨N.ok,⟨e1.trans e.same.1,e2.trans e.same.2.1,λac q=>e.same.2.2 ac<|e3 ac q⟩,e.l0.fF N<|λ_ _=>rfl,e.l1.fF N<|λ_ _=>rfl,e.l2.fF N<|λ_ _=>rfl,e.l3.fF N<|λ_ _=>rfl,e.k0,e.k1,e.k2,e.k3,e.Fc⟩;have S:I (λq=>i.aP b q\/q=z (G a)+2) a u:=o.trans N.ap<|λ_ q=>.inl<|q.imp (e.same.2.2 _) id;refine⟨rfl,⟨{((SR.fresh b h d<|z (G a)+1).lH u0 u1 u2 u3 O V g<|decide<|0<y i.files).qz mv (y l) (l.map y).sum with fa:=cq,vU:=bj,iS:=cq},w,C,D,E,F,?_⟩,ad u N.ap⟩;have k:=wY (s:={((SR.fresh b h d<|z (G a)+1).lH u0 u1 u2 u3 O V g<|decide<|0<y i.files).qz mv (y l) (l.map y).sum with fa:=cq,vU:=bj,iS:=cq}) n aa S (by omega) rfl rfl rfl hlgd.symm rfl rfl rfl (by rw[<-(qZ n.lp).1];exact dF al) (λac q=>by
    have h1:=al.lt ac q;exact⟨h1.2,λg=>by have:=v _ (e.same.2.2 _ (e3 ac g));omega,by omega⟩) ho (λ_=>rfl) ⟨⟨z (G a)+1,rfl,ao u w N.ap e3⟩,by simp⟩
   exact⟨P,k,λq=>by rw[A,k.Bx],⟨rfl,rfl,rfl,rfl,rfl,rfl⟩,⟨N.ok,S.mono<|λ_ q=>.inl q,λac q=>.inl<|e.same.2.2 ac<|e3 ac q⟩,aB aD N.ap.size,λac q=>.inl<|e.same.2.2 ac<|e3 ac q⟩
 .rintro W⟨bb,K1,C,D,E,F,B⟩;have k:=B.inv;obtain⟨es,ec,em,et,eg⟩:=B.same;subst es;have aa:y K1.files<=100000000:=by
   have ac:=k.st.aM.nodup;have S:=sd (l:=(vw K1.files).map (·.1)) (m:=fo::fE bb.log::(C++D++E++F).map (λaF=>gv aF.num)) ac (λad hx=>by
    obtain⟨bs,A⟩:=lC hx;rcases k.oh.names ad bs A with X|⟨X,_⟩|⟨aF,o,X⟩
    .simp[X]
    .simp[X]
    grind)
   have e1:y ((vw K1.files).map (·.1))=y K1.files:=by simp[vw]
   rw[e1]at S;have:=k.CU;grind
  refine(Ey C D E F B.box (k.st.WZ B.box) (λaF o=>?_) k.st.lP.pow (by have:=k.oh.lt;have:=k.nx;have:=k.oR;omega) (by have:=k.CU;omega) k.st.aM k.st.yP (by have:=k.dN;have:=k.oR;omega) aa<|λad hx=>?_).mono ?_
  .rcases aE.1 o with o|o
   .rcases aE.1 o with o|o
    .rcases aE.1 o with o|o
     .exact re<|k.st.l0.each aF o
     .exact re<|k.st.l1.each aF o
    .exact re<|k.st.l2.each aF o
   .exact re<|k.st.l3.each aF o
  .have S:ad∈(vw K1.files).map (·.1):=by simpa[vw]using hx
   obtain⟨bs,A⟩:=lC S;rcases k.oh.names ad bs A with X|⟨X,_⟩|ac
   .exact .inl X
   .grind
   grind
  .rintro X u⟨rfl,w,N,ef,ac⟩;have S:gu W u bb.aM (z (G a)+2) K1 w:=gu.of N;have P:cg u (z (G a)+2) bb 0:=(N.ap.block _ (ar B.box) k.st.yP).trans B.box;exact⟨rfl,⟨bb,w,C,D,E,F,B.step P (k.fF (ar B.box) S ef (by omega) rfl k.loose) B.uz ⟨rfl,ec,em,et,eg⟩ S⟩,B.kept S v⟩
 rintro W⟨bb,K1,C,D,E,F,B⟩;have k:=B.inv;obtain⟨es,ec,em,et,eg⟩:=B.same;subst es;apply(Mz [] B.box k hN).mono;rintro X u⟨rfl,s',w,m',a2,b2,c2,d2,ac,aa,A⟩;obtain⟨g1,g2,g3,g4,g5,g6⟩:=A.same;have S:=A.Bx;exact⟨rfl,⟨s',w,m',a2,b2,c2,d2,ac,aa,B.step A.box A.inv (λq=>by rw[S];exact(A.uz _ (.inr rfl) q).trans<|B.uz q) ⟨g1,g2.trans ec,g3.trans em,g4.trans et,g5.trans eg.1,g6.trans eg.2⟩ A.fF,A.tid⟩,B.kept A.fF v⟩
theorem Inv.laid{w:Z}{sbqq:M}{s:SR}{K:DK}{m:cI}{a b c d:cN}{C tbqq N:M}{lsqq:dK}{r:gw}(h:Inv w sbqq s K m a b c d C tbqq N lsqq r):xA w s.aM K a b c d C tbqq N s.next s.log s.fa lsqq where
 aM:=h.st.aM
 oh:=h.oh
 pr:=h.pr
 lp:=h.lp
 qt:=by
  have k:y (jR s.aT m)<=y m:=aB (za _ _).length_le<|fQ _ _;rw[h.mem]at k;have:=h.st.qt;omega
 oR:=h.st.oR
 s1:=h.st.s1
 s2:=h.st.s2
 s3:=h.st.s3
 Qu:=h.Qu
 nx:=h.nx
 bn:=by rw[<-h.Bx];exact h.bn
 dN:=h.dN
 AN:=h.oR
 steps:=h.st.lP.steps
 pow:=h.st.lP.pow
 eL:=h.st.lP.eL.aP
 lk:=h.st.lP.lk.aP
theorem xA.again{aa D:Z}{db w:M}{K j:DK}{a b c d:cN}{C tbqq N F E:M}{k:Bool}{lsqq:dK}(h:xA aa db K a b c d C tbqq N F E k lsqq)(Q:cH D w j)(B:∀L,dB (vw j.files) L=dB (vw K.files) L)(T:y j.dN<=y K.dN)(X:Steps D)(V:Pow D)(O:¬j.aP w 1)(P:¬j.aP w 2):xA D w j a b c d C tbqq N F E k lsqq:={h with
 aM:=Q
 oh:=by
  have A:=h.oh;exact⟨λL O q=>A.names L O (by rw[<-B];exact q),by rw[B];exact A.state,λq=>by rw[B];exact A.log q,A.DL,λQ P=>by rw[B];exact A.xZ Q P,A.yT,A.low,A.lt,A.iK⟩
 dN:=aB T h.dN
 steps:=X
 pow:=V
 eL:=O
 lk:=P}
structure UR(W:Z)(K:DK)(db sb:M)(s:SR)(k:M):Prop extends Aside W K db sb k where
 BM:s.ou≠H k
structure RS(W f:Z)(db sb:M)(s:SR)(K j:DK):Prop where
 ok:cH f db j
 ap:I (λk=>(K.aP db k\/k=sb)\/s.ou=H k) W f
 aP:∀k,j.aP db k->K.aP db k\/z (G W)<=k
def XA(W:Z)(x:M):Prop:=∃h D B,W.heap[x]?=H (ay h D B)/\D≠265/\((∀L,Value.string L∉h.toList)\/∀E F,Value.int E F∉h.toList)/\∀q,Value.pointer (H<|R q 0)∈h.toList->∃k A w,W.heap[q]?=H (ay k A w)/\A≠265
section
variable{g W f:Z}{db sbqq x:M}{mem e:U}{i n:eT}{s s':SR}{K j:DK}{m u:cI}{a b c d a' b' c' d':cN}{C C' tbqq p N N':M}{lsqq o:dK}{l t:kN}{S:eT}{v:ab}{ts:cN}{r:gw}
theorem gu.dm(h:gu W f db sbqq K j):RS W f db sbqq s K j:=⟨h.ok,h.ap.mono<|λ_ q=>.inl<|.inl q,h.aP⟩
theorem Aside.grow{q:M}(h:Aside W K db sbqq q)(k:z (G W)<=z (G f)):Aside f K db sbqq q:=⟨ah h.lt k,h.aP,h.ne⟩
theorem UR.grow{q:M}(k:UR W K db sbqq s q)(h:z (G W)<=z (G f)):UR f K db sbqq s q:=⟨k.toAside.grow h,k.BM⟩
theorem UR.Jf{k:M}(h:UR W K db sbqq s k)(q:RS W f db sbqq s K j)(w:∀k,s'.ou=H k->s.ou=H k):UR f j db sbqq s' k:=⟨⟨ah h.lt q.ap.size,λc=>(q.aP k c).elim h.aP (λd=>by have:=h.lt;omega),h.ne⟩,λA=>h.BM<|w k A⟩
theorem UR.off{k:M}(h:UR W K db sbqq s k)(c:(K.aP db k\/k=sbqq)\/s.ou=H k):False:=c.elim (λc=>c.elim h.aP h.ne) h.BM
theorem UR.block{k:M}(q:UR W K db sbqq s k)(h:RS W f db sbqq s K j):f.heap[k]?=W.heap[k]?:=h.ap.block k q.lt q.off
end
theorem FO{S:eT}{V P:Z}{h an:M}{v:ab}{q:iI}(ht:I S V P)(hr:Row V h v an q)(hl:∀al,cz v=H al->al<z (G V))(E:0<y q->∀x,S x->∃B ao F,V.heap[x]?=H (ay B ao F)/\∃(ac:M)(T:ab),q[ac]?=H T/\T∉B.toList):Row P h v an q:=by
 obtain⟨O,⟨w,q0⟩|⟨Q,k,A,w,D,L⟩⟩:=hr;exact⟨O,.inl ⟨w,q0⟩⟩;refine⟨O,.inr ⟨Q,k,A,w,D,λad T hj=>?_⟩⟩;(have X:¬S Q:=by intro hs;(have aa:ad<y q:=by grind);obtain⟨B,ao,F,hx,ac,u',hi,hu⟩:=E (by omega) Q hs;have:=L ac u' hi;rw[bW hx]at this;grind);exact ht.cell (L ad T hj) X<|hl Q (by rw[w];rfl)
theorem Rm{m:cI}{k:Array ab}(h:(∀q,Value.string q∉k.toList)\/∀D F,Value.int D F∉k.toList)(w:0<y (aI m)):∃(B:M)(q:ab),(aI m)[B]?=H q/\q∉k.toList:=by
 rcases m with _|⟨A,m⟩;simp[aI]at w;rcases h with h|h;exact⟨0,am A.key,by simp[aI,E.cells],h _⟩;exact⟨3,aG A.bL,by simp[aI,E.cells],h _ _⟩
theorem PQ{ts:cN}{h:Array ab}(w:∀k∈ts,k.ptr∉h.toList)(q:0<y (ts.map bw.ptr)):∃(B:M)(A:ab),(ts.map bw.ptr)[B]?=H A/\A∉h.toList:=by
 rcases ts with _|⟨k,ts⟩;simp at q;exact⟨0,k.ptr,by simp,w k<|by simp⟩
theorem Mq{S:eT}{aa w':Z}{tbqq:M}{V:ab}{k cut q O:U}{D A h:M}{E:ab}{w:mw}(T:lF aa tbqq V k cut q O D A h E w)(ht:I S aa w')(hS:∀x,S x->XA aa x):lF w' tbqq V k cut q O D A h E w:=by
 have F:¬S tbqq:=λB=>by obtain⟨cs,ad,fr,Q,h1,_⟩:=hS tbqq B;exact lj T.box Q (λw=>h1 w.symm) rfl
 have P:=T.ne;have X:(ez w)[3]?=H (am (w[0]'P).first):=by rcases w with _|⟨ac,w⟩;simp at P;simp[ez,pW.cells]
 have L:¬S D:=λB=>by obtain⟨cs,ad,fr,Q,_,B,_⟩:=hS D B;(have h0:(ez w)[0]?=H (aq (w[0]'P).pos):=by rcases w with _|⟨ac,w⟩;simp at P;simp[ez,pW.cells]);rcases B with B|B;(have:=T.cells 3 _ X;rw[bW Q]at this;grind);have:=T.cells 0 _ h0;rw[bW Q]at this;grind
 exact T.di (ht.block tbqq (ar T.box) F)<|ht.block D (cW _ _<|T.cells 3 _ X) L
section
variable{g W f:Z}{db sbqq x:M}{mem e:U}{i n:eT}{s s':SR}{K j:DK}{m u:cI}{a b c d a' b' c' d':cN}{C C' tbqq p N N':M}{lsqq o:dK}{l t:kN}{S:eT}{v:ab}{ts:cN}{r:gw}
theorem GJ.AM{L:Fs}(O:GJ L W K db sbqq v ts)(w:I S W f)(P:∀x,S x->XA W x):GJ L f K db sbqq v ts where
 row:=FO w O.row (λaa A=>(O.loc aa A).lt) (λhj x hs=>by
  obtain⟨Q,ac,V,hx,_,_,hp⟩:=P x hs;exact⟨Q,ac,V,hx,PQ (λE q c=>by
   obtain⟨F,k,h,B,_⟩:=(O.each E q).mem;obtain⟨T,t',X,hq,D⟩:=hp _ c;exact lj B.box hq (λh=>D h.symm) rfl) hj⟩)
 loc:=λaa A=>(O.loc aa A).grow w.size
 each:=λE q=>by
  obtain⟨⟨F,k,h,B,D⟩,Q,T,V,X,q6,q7,q8⟩:=O.each E q;exact⟨⟨F,k,h,Mq B w P,D.grow w.size⟩,Q.grow w.size,T,V,X,q6,q7,q8⟩
theorem Inv.AM(h:Inv W sbqq s K m a b c d C tbqq N lsqq r)(k:I S W f)(Q:∀x,S x->Aside W K s.aM sbqq x)(q:∀x,S x->XA W x)(F:¬S 1/\¬S 2):Inv f sbqq s K m a b c d C tbqq N lsqq r:={h with
 st:={h.st with
  mem:=FO k h.st.mem (λB w=>(h.st.vq B w).lt) (λO x P=>by
   obtain⟨D,V,E,A,_,w,_⟩:=q x P;exact⟨D,V,E,A,Rm w O⟩)
  vq:=λB w=>(h.st.vq B w).grow k.size
  l0:=h.st.l0.AM k q
  l1:=h.st.l1.AM k q
  l2:=h.st.l2.AM k q
  l3:=h.st.l3.AM k q
  aM:=h.st.aM.ap k<|λB c L=>(Q B L).aP c
  lP:=⟨Steps.ap h.st.lP.steps k F.1,h.st.lP.pow.ap k F.2,h.st.lP.eL.grow k.size,h.st.lP.lk.grow k.size⟩}
 BM:=by
  obtain⟨b,O,B,P⟩:=h.BM.ex;refine⟨⟨b,O,B.di (k.block b B.lt (λL=>?_)),P.grow k.size⟩,h.BM.len⟩;obtain⟨D,V,E,A,_⟩:=q b L;obtain⟨X,w,T,_⟩:=B;rw[T]at A;cases A}
structure CW(g W:Z)(db sb:M)(mem nR:U)(i:eT)(s:SR)(K:DK)(m:cI)(a b c d:cN)(C tb N:M)(ls:dK)(l:kN):Prop where
 EQ:cg W sb s 0
 zj:s.closed=bj/\s.aM=db/\s.mem=mem/\s.nR=nR
 inv:Inv W sb s K m a b c d C tb N ls []
 tid:Ax s a b c
 sU:tr ((m::bZ a b c d).map<|jR s.aT) l
 len:y l<=C
 ap:I az g W
 low:(∀k,K.aP db k->z (G g)<=k)/\z (G g)<=sb
 Ia:∀k,s.ou=H k->z (G g)<=k/\k<z (G W)
 cl:∀k,i k->UR W K db sb s k/\z (G g)<=k
 g0:Steps g/\Pow g/\oA g
def yh(g W:Z)(db sbqq:M)(mem e:U)(i:eT)(C N:M)(l:kN):Prop:=∃s K m a b c d tbqq lsqq,CW g W db sbqq mem e i s K m a b c d C tbqq N lsqq l
def tq(g:Z)(i:eT):eT:=λk=>z (G g)<=k/\¬i k
theorem CW.Fj(h:CW g W db sbqq mem e i s K m a b c d C tbqq N lsqq l):oA W:=h.g0.2.2.ap h.ap id
theorem CW.lP(h:CW g W db sbqq mem e i s K m a b c d C tbqq N lsqq l)(w:∀x,S x->z (G g)<=x):¬S 1/\¬S 2:=by
 have k:=h.g0.1.lt;have q:=h.g0.2.1.lt;grind
theorem CW.WY(h:CW g W db sbqq mem e i s K m a b c d C tbqq N lsqq l)(k:RS W f db sbqq s K j):I (tq g i) W f:=k.ap.mono<|λw q=>.inl ⟨q.elim (λq=>q.elim (h.low.1 w) (λA=>by have:=h.low.2;omega))<|λA=>(h.Ia w A).1,λc=>(h.cl w c).1.off q⟩
theorem CW.Jf(w:CW g W db sbqq mem e i s K m a b c d C tbqq N lsqq l)(B:RS W f db sbqq s K j)(h:∀k,s'.ou=H k->s.ou=H k)(E:cg f sbqq s' 0)(A:s'.closed=bj/\s'.aM=db/\s'.mem=mem/\s'.nR=e)(D:Inv f sbqq s' j u a' b' c' d' C' p N' o [])(O:Ax s' a' b' c')(F:tr ((u::bZ a' b' c' d').map<|jR s'.aT) t)(L:y t<=C'):CW g f db sbqq mem e i s' j u a' b' c' d' C' p N' o t where
 EQ:=E
 zj:=A
 inv:=D
 tid:=O
 sU:=F
 len:=L
 ap:=w.ap.trans B.ap<|λk q=>.inr<|q.elim (λq=>q.elim (w.low.1 k) (λh=>by have:=w.low.2;omega))<|λh=>(w.Ia k h).1
 low:=⟨λk q=>(B.aP k q).elim (w.low.1 k)<|λh=>aB w.ap.size h,w.low.2⟩
 Ia:=λk q=>⟨(w.Ia k<|h k q).1,ah (w.Ia k<|h k q).2 B.ap.size⟩
 cl:=λk q=>⟨(w.cl k q).1.Jf B h,(w.cl k q).2⟩
 g0:=w.g0
theorem CW.nH(h:CW g W db sbqq mem e i s K m a b c d C tbqq N lsqq l)(A:I S W f)(w:∀x,S x->i x/\XA W x)(E:∀k,n k->i k\/z (G W)<=k/\k<z (G f)):CW g f db sbqq mem e n s K m a b c d C tbqq N lsqq l where
 EQ:=(A.block sbqq (ar h.EQ)<|λq=>(h.cl sbqq (w sbqq q).1).1.ne rfl).trans h.EQ
 zj:=h.zj
 inv:=by
  have D:=h.zj.2.1;subst D;exact h.inv.AM A (λx q=>(h.cl x (w x q).1).1.toAside) (λx q=>(w x q).2)<|h.lP<|λx q=>(h.cl x (w x q).1).2
 tid:=h.tid
 sU:=h.sU
 len:=h.len
 ap:=h.ap.trans A<|λk q=>.inr (h.cl k (w k q).1).2
 low:=h.low
 Ia:=λk q=>⟨(h.Ia k q).1,ah (h.Ia k q).2 A.size⟩
 cl:=λk q=>by
  have B:∀k,K.aP db k->k<z (G W):=by
   have D:=h.zj.2.1;subst D;exact h.inv.st.aM.lt
  rcases E k q with q|q
  .exact⟨(h.cl k q).1.grow A.size,(h.cl k q).2⟩
  .exact⟨⟨⟨q.2,λc=>by have:=B k c;omega,λD=>by have:=ar h.EQ;omega⟩,λD=>by have:=(h.Ia k D).2;omega⟩,aB h.ap.size q.1⟩
 g0:=h.g0
theorem yh.nH(h:yh g W db sbqq mem e i C N l)(A:I S W f)(w:∀x,S x->i x/\XA W x)(q:∀k,n k->i k\/z (G W)<=k/\k<z (G f)):yh g f db sbqq mem e n C N l:=by
 obtain⟨s,K,m,a,b,c,d,tbqq,lsqq,h⟩:=h;exact⟨s,K,m,a,b,c,d,tbqq,lsqq,h.nH A w q⟩
theorem yh.still(k:yh g W db sbqq mem e i C N l)(h:I az W f):yh g f db sbqq mem e i C N l:=k.nH h cC<|λ_ q=>.inl q
theorem yh.Fj(h:yh g W db sbqq mem e i C N l):oA W:=by
 obtain⟨s,K,m,a,b,c,d,tbqq,lsqq,h⟩:=h;exact h.Fj
theorem yh.ap(h:yh g W db sbqq mem e i C N l):I az g W:=by
 obtain⟨s,K,m,a,b,c,d,tbqq,lsqq,h⟩:=h;exact h.ap
theorem yh.mono(h:yh g W db sbqq mem e i C N l)(w:C<=C')(k:C'<=1000000)(A:N<=N')(q:N'<=100000000):yh g W db sbqq mem e i C' N' l:=by
 obtain⟨s,K,m,a,b,c,d,tbqq,lsqq,h⟩:=h;exact⟨s,K,m,a,b,c,d,tbqq,lsqq,{h with inv:=h.inv.mono w k A q,len:=aB h.len w}⟩
end
theorem FM{A:M}{k:dK}{l:kN}{t:U}(r:PR A k)(v:tr (k.map<|jR t) l)(j n:ae)(i:U):Do t j n i k=Cw l j n i:=by
 have p:∀w∈k.map (fP j),gL w:=λw q=>by obtain⟨s,u,rfl⟩:=bJ.1 q;exact(r.row s u).sub eS
 have o:jO (k.map<|fP j):=by unfold jO;rw[ke];exact r.ph.imp λ{w s}q n j i k x=>q n (dC.1 j).1 i (dC.1 k).1 x
 exact NY v (λk x q=>VA q) j n i (mH (nC p o) t)<|VQ r.row r.ph j t
theorem FK(t:U)(j:ae):∀(i:cS (ab×cI)),(∀r∈i.map (·.2),gL r)->vP t j i=rk ((i.map (·.2)).map<|jR t) j
 |[],_=>rfl
 |r::i,k=>by
  have o:=FK t j i (λx n=>k x<|by grind);unfold vP rk at*;grind[Rh]
theorem Ld{w:M}{s:SR}{m:cI}{a b c d:cN}{l:kN}{v:U}(p:PR w (m::bZ a b c d))(q:tr ((m::bZ a b c d).map<|jR v) l)(k:ae):Nv k v (nX s m a b c d)=dd #[am (yZ l k).1,aK (yZ l k).2.1,pP (yZ l k).2.2]:=by
 unfold Nv;by_cases j:1<=k.size/\k.size<=8;have o:yZ l k=((mi l k).1,(mi l k).2,0):=eI (by omega);rw[dW j,o,FK _ _ _ (by rw[qx];exact p.row),qx,Rx q k];unfold seen;rcases hq:rk ((m::bZ a b c d).map<|jR v) k with _|x;rfl;(have r:x.Good:=by obtain⟨A,t,u⟩:=bB.1<|OI hq;obtain⟨n,i,rfl⟩:=bJ.1 t;exact p.iK x<|bB.2 ⟨n,i,zf (p.row n i) u⟩);rcases hd:x.del with _|_;simp[VC,hd];rfl;simp[VC,hd,r.del hd];rfl;have o:yZ l k=(⟨#[]⟩,bj,3):=dW (by omega);rw[eI j,o]
theorem FJ(k v:ae)(l:kN):∀i:kN,l.foldl (fR k v) (i,cq)=(i++l.filter (λp=>!decide (p.1=k)),cq):=by
 induction l with
 |nil=>intro i;simp
 |cons p l j=>
  grind[FG,FF]
theorem Sw(l:kN)(k v i:ae):uy l k v cq=uy l k i cq:=by
 unfold uy ow;rw[FJ,FJ];simp
theorem VK{o:dK}(n:U)(i:pT):∀{m:cI}{l:kN},vX m->tr (m::o) l->tr (gq m (i.map<|jn n)::o) (AD l i):=by
 induction i with
 |nil=>intro m l _ p;exact p
 |cons c i r=>
  intro m l k p;have j:=Uu k p<|jn n c;have q:uy l (jn n c).key (jn n c).val (jn n c).del=uy l c.key c.val c.del:=by
   unfold jn;grind[Sw]
  rw[q]at j;exact r (vX.gq k [jn n c]) j
def ug(j:kN)(i:pT):kN:=if fK i=0 then AD j i else j
section
variable{f W g:Z}{db sbqq:M}{mem e:U}{h:eT}{s:SR}{K:DK}{m:cI}{a b c d:cN}{C tbqq N:M}{lsqq:dK}{l:kN}
theorem RP(j:kN)(i:pT)(k:y j<=C):y (ug j i)<=C+mu i:=by
 unfold ug mu;by_cases q:fK i=0;rw[dW q,dW q];have:=zb j i;omega;grind
theorem EG{s:SR}{K:DK}{m:cI}{a b c d:cN}{tbqq:M}{lsqq:dK}{n:gw}{p:kN}(j:Inv W sbqq s K m a b c d C tbqq N lsqq n)(t:tr ((m::bZ a b c d).map<|jR s.aT) p)(i:pT):(zh (ug p i)/\∀k v,(k,v)∈ug p i↔yo n m (bZ a b c d) ((s.aT:U)+1) i (zR s.aT i) k=H v)/\∀A,A∈sE n->∀q,yo n m (bZ a b c d) ((s.aT:U)+1) i A q=fy A (m::bZ a b c d) q:=by
 unfold ug yo zR;by_cases q:fK i=0;rw[dW q,dW q,dW q];obtain⟨_,O,P⟩:=rp q;have D:=j.bn;have E:=j.oR;(have u:∀B∈i.map (jn<|(s.aT:U)+1),B.Good:=λB x=>by grind[Er]);(have r:∀B∈i.map (jn<|(s.aT:U)+1),B.bL=(s.aT:U)+1:=λB x=>by obtain⟨F,Q,rfl⟩:=bJ.1 x;rfl);refine⟨?_,λA w k=>by rw[dW q];exact j.SY u r w k⟩;have o:=VK ((s.aT:U)+1) i (mH j.row _) t;rcases i with _|⟨L,i⟩;refine⟨o.1,λk v=>?_⟩;rw[o.2 k v];show _↔fy s.aT (ir n m []::bZ a b c d) k=H v;rw[<-j.Bd (.inr rfl) k];rfl;refine⟨o.1,λk v=>?_⟩;rw[o.2 k v];show _↔fy ((s.aT+1:M):U) (ir n m _::bZ a b c d) k=H v;rw[show((s.aT+1:M):U)=(s.aT:U)+1 by omega,j.Tb u r k];rw[eI q,eI q,eI q];exact⟨t,λA w k=>by rw[eI q]⟩
theorem CW.read(i:CW f W s.aM sbqq mem e h s K m a b c d C tbqq N lsqq l)(p:LQ W g sbqq s K m a b c d C):I (tq f h) W g/\yh f g s.aM sbqq mem e h C N l:=by
 obtain⟨n,k,r,t,o,j⟩:=i.inv.reads (ar i.EQ) p;exact⟨i.WY k.dm,s,n,m,a,b,c,d,tbqq,lsqq,i.Jf k.dm (λ_ q=>q) o i.zj j i.tid i.sU i.len⟩
theorem CW.wrote{k t o:M}{j:kN}{u:U->ae->Option ae}(S:CW f W s.aM sbqq mem e h s K m a b c d C tbqq N lsqq l)(hP:vL W g sbqq s 0 K k t [] o u)(hl:y j<=k)(v:zh j/\∀r w,(r,w)∈j↔u o r=H w):I (tq f h) W g/\yh f g s.aM sbqq mem e h k t j:=by
 obtain⟨s',x,m',A,B,D,E,p,n,i⟩:=hP;obtain⟨F,L,O,P,g5,Q⟩:=i.same;obtain⟨T,h2,V,X⟩:=S.zj;refine⟨S.WY i.fF.dm,s',x,m',A,B,D,E,p,n,S.Jf i.fF.dm (λr q=>Q▸q) i.box ⟨L.trans T,F,O.trans V,P.trans X⟩ i.inv i.tid ⟨v.1,λr w=>?_⟩ hl⟩;rw[v.2 r w,<-i.uz o (.inr rfl) r,i.Bx];rfl
theorem Uo(j:yh f W db sbqq mem e h C N l)(i:ae)(o:i.size<=140737488351232):cD aZ 17 #[aA sbqq,am i] W λk g=>k=aJ (dd #[am (yZ l i).1,aK (yZ l i).2.1,pP (yZ l i).2.2])/\I (tq f h) W g/\yh f g db sbqq mem e h C N l:=by
 obtain⟨s,K,m,a,b,c,d,tbqq,lsqq,j⟩:=j;have k:=j.zj.2.1;subst k;apply(TP i j.EQ j.inv.st j.zj.1 o).mono;rintro k g⟨rfl,n⟩;refine⟨?_,j.read n⟩;rw[Ld j.inv.all j.sU]
theorem OO(j:yh f W db sbqq mem e h C N l)(o n:ae)(i:U):cD aZ 30 #[aA sbqq,am o,am n,aq i] W λq g=>∃k,q=aJ (dd #[k,.nilIface])/\OX W g k (Cw l o n i)/\I (tq f h) W g/\yh f g db sbqq mem e h C N l:=by
 obtain⟨s,K,m,a,b,c,d,tbqq,lsqq,j⟩:=j;have q:=j.zj.2.1;subst q;apply(PC o n i j.EQ j.inv.st j.zj.1).mono;rintro q g⟨k,rfl,p,r⟩;rw[FM j.inv.all j.sU]at p;exact⟨k,rfl,p,j.read r⟩
theorem Un(k:yh f W db sbqq mem e h C N l)(p:ab)(i:pT)(j:Bool)(n:CA f p i)(v:∀x∈i,x.key.size<=140737488351232/\x.val.size<=140737488351232)(u:y i<=1000000000)(q:C+mu i<=1000000)(r:N+1<=100000000):cD aZ 15 #[aA sbqq,p,aK j] W λo g=>o=aJ (pP<|fK i)/\I (tq f h) W g/\yh f g db sbqq mem e h (C+mu i) (N+1) (ug l i):=by
 obtain⟨s,K,m,a,b,c,d,tbqq,lsqq,k⟩:=k;have o:=k.zj.2.1;subst o;apply(Mh [] j k.EQ k.inv k.tid k.zj.1 (λi t=>n.ap (k.ap.trans t<|λw o=>.inr (by have:=k.low.2;have:w=sbqq:=o;omega))<|λ_ _=>id) v u q r).mono;rintro o g⟨rfl,t⟩;exact⟨rfl,k.wrote t (RP l i k.len) (EG k.inv k.sU i).1⟩
theorem NR(i:yh f W db sbqq mem e h C N l)(u:N+1<=100000000):cD aZ 44 #[aA sbqq] W λn g=>n=aJ .nilIface/\I (tq f h) W g/\yh f g db sbqq mem e h C (N+1) l:=by
 obtain⟨s,K,m,a,b,c,d,tbqq,lsqq,i⟩:=i;have n:=i.zj.2.1;subst n;apply(Fm [] i.EQ i.inv i.tid i.zj.1 u).mono;rintro n g⟨rfl,x,o,w,p,q,r,t,k,j,v,_⟩;exact⟨rfl,i.wrote ⟨x,o,w,p,q,r,t,k,j,v⟩ i.len i.sU⟩
structure CL(f W:Z)(db:M)(mem nR:U)(h:eT)(K:DK)(a b c d:cN)(C tb N nx lg:M)(fa:Bool)(ls:dK)(l:kN):Prop where
 laid:xA W db K a b c d C tb N nx lg fa ls
 tid:(((ls.map y).sum:M):U)<mem/\UT nR a b c
 sU:tr (gq [] ls.flatten::(bZ a b c d).map (jR ((tb+y ls:M):U))) l
 len:y l<=C
 ap:I az f W
 low:∀k,K.aP db k->z (G f)<=k
 cl:∀k,h k->¬K.aP db k/\z (G f)<=k/\k<z (G W)
 g0:Steps f/\Pow f/\oA f
def Mg(f W:Z)(db:M)(mem e:U)(h:eT)(C N:M)(l:kN):Prop:=∃K a b c d tbqq k j i lsqq,CL f W db mem e h K a b c d C tbqq N k j i lsqq l
theorem Mg.nH{S o:eT}(j:Mg f W db mem e h C N l)(p:I S W g)(r:∀x,S x->h x)(t:∀n,o n->h n\/z (G W)<=n/\n<z (G g)):Mg f g db mem e o C N l:=by
 obtain⟨K,a,b,c,d,tbqq,A,w,i,lsqq,j⟩:=j;have u:=j.g0.1.lt;have v:=j.g0.2.1.lt;have k:∀x,S x->z (G f)<=x:=λx q=>(j.cl x<|r x q).2.1;refine⟨K,a,b,c,d,tbqq,A,w,i,lsqq,{j.laid with aM:=j.laid.aM.ap p<|λn q B=>(j.cl n<|r n B).1 q,steps:=Steps.ap j.laid.steps p (λq=>by have:=k _ q;omega),pow:=j.laid.pow.ap p (λq=>by have:=k _ q;omega)},j.tid,j.sU,j.len,j.ap.trans p<|λn q=>.inr<|k n q,j.low,λn q=>?_,j.g0⟩;rcases t n q with q|q;exact⟨(j.cl n q).1,(j.cl n q).2.1,ah (j.cl n q).2.2 p.size⟩;exact⟨λc=>by have:=j.laid.aM.lt n c;omega,aB j.ap.size q.1,q.2⟩
theorem Mg.still(j:Mg f W db mem e h C N l)(i:I az W g):Mg f g db mem e h C N l:=j.nH i cC<|λ_ q=>.inl q
theorem Mg.Fj(j:Mg f W db mem e h C N l):oA W:=by
 obtain⟨K,a,b,c,d,tbqq,n,k,i,lsqq,j⟩:=j;exact j.g0.2.2.ap j.ap id
theorem Mg.ap(k:Mg f W db mem e h C N l):I az f W:=by
 obtain⟨K,a,b,c,d,tbqq,o,n,j,lsqq,k⟩:=k;exact k.ap
theorem Lt(j:yh f W db sbqq mem e h C N l):cD aZ 21 #[aA sbqq] W λt g=>t=aJ .nilIface/\I (tq f h) W g/\Mg f g db mem e h C N l:=by
 obtain⟨s,K,m,a,b,c,d,tbqq,lsqq,j⟩:=j;have t:=j.zj.2.1;subst t;have i:=j.inv;have w:=j.lP (S:=λp=>p=sbqq) (λp t=>by have D:p=sbqq:=t;rw[D];exact j.low.2);have r:∀{v:ab}{B i:M}{j:iI},Row W i v B j->∃x B c,v=J x B c:=λq=>by grind[uB]
 refine(Rz j.EQ j.zj.1 (r i.st.mem) (r i.st.l0.row) (r i.st.l1.row) (r i.st.l2.row) (r i.st.l3.row) i.st.aM i.st.yP i.st.lP.pow (λt=>w.2 t.symm) (by have:=i.oh.lt;have:=i.nx;have:=i.oR;omega) (λq=>⟨_,i.oh.log<|i.loose q,by have:=i.JK.1;omega⟩) (by have:=i.dN;have:=i.oR;omega)).mono ?_;rintro t g⟨rfl,u,n,F,L,O⟩;have k:=i.laid;have v:xA g s.aM u a b c d C tbqq N s.next s.log s.fa lsqq:=k.again n.ok (λB=>by rw[F]) L (Steps.ap k.steps n.ap<|λq=>q.elim k.eL w.1) (k.pow.ap n.ap<|λq=>q.elim k.lk w.2) (λq=>(n.aP _ q).elim k.eL (λE=>by have:=k.steps.lt;omega))<|λq=>(n.aP _ q).elim k.lk (λE=>by have:=k.pow.lt;omega);have o:RS W g s.aM sbqq s K u:=n.dm;have x:=j.tid;have A:=j.sU;rw[bV,i.mem,i.Bx]at A;refine⟨rfl,j.WY o,u,a,b,c,d,tbqq,s.next,s.log,s.fa,lsqq,v,⟨?_,?_⟩,A,j.len,?_,λp q=>(n.aP p q).elim (j.low.1 p)<|λE=>aB j.ap.size E,λp q=>?_,j.g0⟩;rw[<-i.RA,<-j.zj.2.2.1];exact x.1;rw[<-j.zj.2.2.2];exact x.2;exact j.ap.trans n.ap<|λp q=>.inr<|q.elim (j.low.1 p) (λt=>by have:=j.low.2;omega);have:=(j.cl p q).1.Jf o (s':=s)<|λ_ q=>q;exact⟨this.aP,(j.cl p q).2,this.lt⟩
theorem IF(j:Mg f W db mem e h C N l)(T:1<=mem/\mem<=32/\2<=e/\e<=6)(Q:N+1<=100000000):cD aZ 10 #[aA db,dE #[aq mem,aq e]] W λo g=>o=aJ (dd #[aA<|z (G W)+2,.nilIface])/\z (G W)+4<=z (G g)/\I (tq f h) W g/\yh f g db (z (G W)+2) mem e h C (N+1) l:=by
 obtain⟨K,a,b,c,d,tbqq,nx,lg,n,lsqq,j⟩:=j;have V:=j.ap.size;apply(Qd mem e j.laid T Q).mono;rintro o g⟨rfl,s,x,X,A,B,D,E,u,t,i,S⟩;obtain⟨F,L,O,P,e5,v⟩:=i.same;have r:∀k,(K.aP db k\/k=z (G W)+2)->tq f h k\/z (G W)<=k:=λk q=>q.elim (λq=>.inl ⟨j.low k q,λc=>(j.cl k c).1 q⟩) (λo=>.inr<|by omega);have p:=i.size;refine⟨rfl,p,i.fF.ap.mono r,s,x,X,A,B,D,E,u,t,i.box,⟨L,F,O,P⟩,i.inv,S,?_,j.len,?_,⟨λk q=>(i.aP k q).elim (j.low k) (λq=>by omega),by omega⟩,λk q=>?_,λk q=>?_,j.g0⟩;refine⟨j.sU.1,λk aa=>?_⟩;rw[j.sU.2 k aa];have w:jR ((tbqq+y lsqq:M):U) (gq [] lsqq.flatten)=gq [] lsqq.flatten:=(qZ j.laid.lp).2.2.1;have:=i.uz k;unfold fy at this;rw[this,bV,w];exact j.ap.trans i.fF.ap (λk q=>.inr<|q.elim (j.low k)<|λo=>by omega);rw[v]at q;cases q;constructor<;>omega;have w:=j.cl k q;exact⟨⟨⟨by omega,λc=>(i.aP k c).elim w.1 (λc=>by omega),by omega⟩,λo=>by rw[v]at o;cases o;omega⟩,w.2.1⟩
end
theorem TH:(prog.info? 52).map (λi=>(i.zero,i.size,i.bytes))=H (H aw,1,24):=by kernel_rfl
def RX(a:M)(bv c:ab)(b:iI):eT:=λk=>k=a\/cz bv=H k\/cz c=H k\/∃v∈b,cz v=H k
structure HB(n0:M)(W:Z)(a:M)(bv c:ab)(b:iI)(B:cS pT)(l:kN)(safe:U):Prop where
 box:W.heap[a]?=H (ay #[bv,aq safe,aK bj,c] 49 (0,0))
 own:W.ownsRow n0 52 1 bv (y b) b
 kind:Fu W bv
 len:y b=y B
 each:∀(i:M)v cs,b[i]?=H v->B[i]?=H cs->EP W v cs
 rK:∀v∈b,∀k,cz v=H k->n0<=k/\k<z (G W)/\k≠a/\cz bv≠H k
 pr:rL W c l
 Ka:∀k,cz c=H k->n0<=k/\k<z (G W)/\k≠a/\cz bv≠H k
 sum:B.foldl AD []=l
 Xi:∀cs∈B,fK cs=0
 Xj:cz bv≠H a
section
variable{n0 a:M}{W d:Z}{bv c:ab}{b:iI}{B:cS pT}{l:kN}{safe:U}{S:eT}
theorem HB.lt(h:HB n0 W a bv c b B l safe){k:M}(e:RX a bv c b k):k<z (G W):=by
 rcases e with rfl|q|q|⟨v,g,q⟩;exact ar h.box;exact(h.own.lt k q).2;exact(h.Ka k q).2.1;exact(h.rK v g k q).2.1
theorem HB.ap(h:HB n0 W a bv c b B l safe)(e:I S W d)(j:∀k,RX a bv c b k->¬S k):HB n0 d a bv c b B l safe where
 box:=(e.block a (ar h.box)<|j a<|.inl rfl).trans h.box
 own:=e.own h.own<|λk q=>j k<|.inr<|.inl q
 kind:=h.kind.ap e (λk q=>j k<|.inr<|.inl q)<|λk q=>(h.own.lt k q).2
 len:=h.len
 each:=λi v m g n=>e.row (h.each i v m g n)<|λk q=>⟨j k<|.inr<|.inr<|.inr ⟨v,ew g,q⟩,(h.rK v (ew g) k q).2.1⟩
 rK:=λv g k q=>⟨(h.rK v g k q).1,ah (h.rK v g k q).2.1 e.size,(h.rK v g k q).2.2⟩
 pr:=e.row h.pr<|λk q=>⟨j k<|.inr<|.inr<|.inl q,(h.Ka k q).2.1⟩
 Ka:=λk q=>⟨(h.Ka k q).1,ah (h.Ka k q).2.1 e.size,(h.Ka k q).2.2⟩
 sum:=h.sum
 Xi:=h.Xi
 Xj:=h.Xj
theorem HB.Zj(k:HB n0 W a bv c b B l safe){p:M}(g:p=a\/cz bv=H p):XA W p:=by
 rcases g with rfl|g;obtain⟨r,o,j⟩:=aC k.own;have m:=k.box;have f:=k.pr.shape;rw[j]at m;refine⟨_,_,_,m,by decide,.inl λu q=>?_,λq i=>?_⟩;rcases f with rfl|⟨e,n,h,rfl⟩<;>simp at q;rcases f with rfl|⟨e,n,h,rfl⟩<;>simp at i;obtain⟨o,m⟩:=fS k.own g;have f:=k.kind _ _ _ _ g m;refine⟨_,_,_,m,by decide,.inl λu q=>?_,λq i=>?_⟩;rcases f _ q with⟨e,j⟩|⟨n,e,h,j⟩<;>cases j;rcases f _ i with⟨e,j⟩|⟨n,e,h,j⟩<;>cases j
end
theorem Gm{n0 a:M}{W:Z}{bv c:ab}{b:iI}{B:cS pT}{l:kN}{safe:U}(h:HB n0 W a bv c b B l safe)(cE:ab)(p:pT)(sf:Bool)(bs:CA W cE p)(cs:fK p=0)(hr:y l+y p<=1000000000)(hB:y B<=1000000000)(dc:n0<=z (G W)):cD aZ 43 #[aA a,cE,aK sf] W λD d=>D=aJ (dd #[])/\∃u g bh s,HB n0 d a u g (b++[bh]) (B++[p]) (AD l p) s/\I (λk=>k=a\/cz bv=H k) W d/\∀k,RX a u g (b++[bh]) k->RX a bv c b k\/z (G W)<=k:=by
 have cc:=On (by omega) bs;have w:=Y h;clear h bs;go_in
 go_wp2_with fail
 apply cc.mono;rintro D E⟨v1,rfl,aF,bq⟩;have K:I az W E:=I.aR bq;obtain⟨x1,c1,cw⟩:=aC aF;subst cw;have F:=w.ap K<|λ_ _=>id;have cp:=cellAt F.box 0 rfl;have cu:a<z (G E):=ar F.box;have cT:=K.size;have bd:y b=y B:=w.len;obtain⟨i0,ax,cB,ce,ch⟩:=cU TH;obtain⟨bm,cn,i⟩:=dz aF K F;clear aF K F cc bq;have aa:=i.Xj;have ac:=i.box
 go_wp2_with(first
  |(at_builtin;go_loud(refine yG _ rfl (.tmp 13) (.tmp 15) 47 rfl n0 52 i0 aw 1 24 underlying47 ax cB ce ch rfl (by decide) bv (y b) b rfl (aX i.own (ay #[J x1 (y p) c1] 52)) (R (z (G E)) 0) 1 1 [J x1 (y p) c1] rfl rfl (qE _ _ _) (by simp[Value.oneCell']) (by omega) (by omega) (by simp;omega) (by omega) (by intro ds hu;simp[Value.cells]at hu;subst hu;exact .inr ⟨_,_,_,rfl⟩) (by intro ds hu;simp at hu;subst hu;exact .inr ⟨_,_,_,rfl⟩) (i.kind.ap (cK az E) (λ_ _=>id) (λk q=>(i.own.lt k q).2)) ?_;intro u W3 aU bf bu;obtain⟨C,c3,cx⟩:=aC aU;subst cx;have bb:=I.fA bf;have e:=(bb.block a (by simp;omega) aa).trans (((cK az E).block a cu id).trans ac);have k0:=cellAt e 0 rfl;have k1:=cellAt e 1 rfl;have k3:=cellAt e 3 rfl;have f0:=cZ (i:=0) e;have f1:=cZ (i:=1) e;have f3:=cZ (i:=3) e;have ao:=Y aU;have au:=Y bf;have bl:=Y bu;have bp:=Y bb;clear aU bf bu bb)))
 obtain⟨v,r⟩:∃v,cA W3 (R a 0) (J C (y B+1) c3)=v:=⟨_,rfl⟩;rw[<-bd]at r;have m:cz (J C (y b+1) c3)≠H a:=λq=>by rcases au.uk with D|⟨cM,D,hg⟩;exact aa<|D▸q;rw[q]at D;cases D;simp at hg;omega
 have A:I (λk=>k=a\/cz bv=H k) E v:=by rw[<-r];exact(((cK az E).mono (T:=λk=>k=a\/cz bv=H k) cC).trans bp<|λ_ q=>.inl<|.inr q).trans (iw W3 a 0 _)<|λ_ q=>.inl<|.inl q
 have bE:v.ownsRow n0 52 1 (J C (y b+1) c3) (y b+1) (b++[J x1 (y p) c1]):=by rw[<-r];exact(iw W3 a 0 _).own ao<|λk hk o=>m (by rw[hk];grind)
 have bx:Fu v (J C (y b+1) c3):=by rw[<-r];exact bl.ap (iw W3 a 0 _) (λk hk o=>m (by rw[hk];grind))<|λk hk=>(ao.lt k hk).2
 have ad:v.heap[a]?=H (ay #[J C (y b+1) c3,aq safe,aK bj,c] 49 (0,0)):=by rw[<-r];exact(aL e).trans rfl
 have an:∀k,cz (J C (y b+1) c3)=H k->cz bv=H k\/z (G E)<k:=λk q=>by rcases au.uk with D|⟨cM,D,hg⟩;exact .inl<|D▸q;rw[q]at D;cases D;simp at hg;exact .inr<|by omega
 have n:∀k,cz (J x1 (y p) c1)=H k->z (G W)<=k/\k<z (G E):=λk q=>bm.lt k q;have hW:a<z (G W):=ar w.box;have x:∀k,cz bv=H k->k<z (G W):=λk q=>(w.own.lt k q).2;have aV:rL v c l:=A.row i.pr<|λk q=>⟨λo=>o.elim (i.Ka k q).2.2.1 (i.Ka k q).2.2.2,(i.Ka k q).2.1⟩;have av:EP v (J x1 (y p) c1) p:=A.row (dF bm)<|λk q=>⟨λo=>by have:=(n k q).1;exact o.elim (λo=>by omega) (λo=>by have:=x k o;omega),(n k q).2⟩;have cd:=A.size;have bt:=Ui p aV (λcM q=>ah (i.Ka cM q).2.1 cd) av (λcM q=>ah (n cM q).2 cd) (by omega);rw[<-bd,r];have t:=Y n;obtain⟨bn,cm,bi,bo,db,cl⟩:=lf bE bx ad A aV av;have HSub:=Y an;have bk:=Y x;clear r k0 k1 k3 f0 f1 f3 e ac bE bx ad A aV av an x n cp ao au bl bp;apply bt.mono;rintro D W5⟨g,rfl,ba,aD,bT,br⟩;have L:I az v W5:=I.aR br;obtain⟨px,pn,pc,cv⟩:∃dn n o,g=J dn n o:=by rcases ba.shape with D|⟨Q,f,N,D⟩<;>exact⟨_,_,_,D⟩
 have j:=(L.block a (by omega) id).trans bi;have k1:=cellAt j 1 rfl;have k3:=cellAt j 3 rfl;have f1:=cZ (i:=1) j;have f3:=cZ (i:=3) j;have al:∀Q bg,Q.heap[a]?=H (ay #[J C (y b+1) c3,aq bg,aK bj,g] 49 (0,0))->I (λk=>k=a) W5 Q->∃u g bh s,HB n0 Q a u g (b++[bh]) (B++[p]) (AD l p) s/\I (λk=>k=a\/cz bv=H k) W Q/\∀k,RX a u g (b++[bh]) k->RX a bv c b k\/z (G W)<=k:=λQ bg co bc=>by have N:I (λk=>k=a) v Q:=(L.mono (T:=λk=>k=a) cC).trans bc<|λ_ q=>.inl q;have cj:I (λk=>k=a\/cz bv=H k) W Q:=((cn.mono (T:=λk=>k=a\/cz bv=H k) cC).trans bo<|λ_ q=>.inl q).trans N<|λ_ q=>.inl<|.inl q;have dk:=L.size;have dm:=bc.size;have ca:∀k,cz g=H k->cz c=H k\/z (G v)<=k:=λk q=>bT.elim (λD=>.inl<|D▸q)<|λD=>.inr<|D k q;have X:∀k,cz (J C (y b+1) c3)=H k->k<z (G v):=λk q=>(bn.lt k q).2;(have cb:∀k,cz g=H k->n0<=k/\k<z (G Q)/\k≠a/\cz (J C (y b+1) c3)≠H k:=λk q=>by have:=aD k q;rcases ca k q with q|q;have V:=w.Ka k q;exact⟨V.1,by omega,V.2.2.1,λo=>(HSub k o).elim V.2.2.2<|λo=>by omega⟩;exact⟨by omega,by omega,by omega,λo=>by have:=X k o;omega⟩);refine⟨J C (y b+1) c3,g,J x1 (y p) c1,bg,⟨co,by rw[ag];exact N.own bn<|λk q o=>m (by rw[q];grind),cm.ap N (λk q o=>m (by rw[q];grind)) X,by simp[bd],λck bh o f hc=>?_,λbh f k q=>?_,bc.row ba<|λk q=>⟨λo=>(cb k q).2.2.1 o,aD k q⟩,cb,by rw[fM,w.sum];rfl,λdn hx=>by rcases aE.1 hx with q|q;exact w.Xi dn q;simp at q;rw[q];exact cs,m⟩,cj,λk q=>?_⟩;by_cases hi:ck<y b;rw[gT hi]at f;rw[gT<|by omega]at hc;exact cj.row (w.each ck bh o f hc)<|λk q=>⟨λo=>by have:=(w.rK bh (ew f) k q).2.2;exact o.elim this.1 this.2,(w.rK bh (ew f) k q).2.1⟩;rw[eV<|by omega]at f hc;(have ax:ck-y b=0:=by rcases h0:ck-y b with _|dv;rfl;rw[h0]at f;simp at f);rw[ax]at f;rw[show ck-y B=0 by omega]at hc;simp at f hc;subst f hc;exact N.row cl<|λk q=>⟨λo=>by have:=(t k q).1;have:k=a:=o;omega,by have:=(t k q).2;omega⟩;rcases aE.1 f with f|f;have V:=w.rK bh f k q;exact⟨V.1,by omega,V.2.2.1,λo=>(HSub k o).elim V.2.2.2<|λo=>by omega⟩;simp at f;subst f;have V:=t k q;exact⟨by omega,by omega,by omega,λo=>(HSub k o).elim (λo=>by have:=bk k o;omega)<|λo=>by omega⟩;rcases q with q|q|q|⟨bh,f,q⟩;exact .inl<|.inl q;exact(HSub k q).elim (λq=>.inl<|.inr<|.inl q) (λq=>.inr<|by omega);exact(ca k q).elim (λq=>.inl<|.inr<|.inr<|.inl q) (λq=>.inr<|by omega);rcases aE.1 f with f|f;exact .inl<|.inr<|.inr<|.inr ⟨bh,f,q⟩;simp at f;subst f;exact .inr (t k q).1
 have P:=Y al;have O:=Y j;clear al ba aD bT br L bt j;subst cv;cases sf;(.go_wp2;go_end0;exact⟨rfl,P _ safe ((aL O).trans rfl)<|iw _ _ _ _⟩);go_wp2;go_end0;exact⟨rfl,P _ _ ((aL<|aL O).trans rfl)<|(iw _ _ _ _).trans (iw _ _ _ _)<|λ_ q=>.inl q⟩
