import Derived.Test.YtmnlcbeggagabaaGreatDoorC26
import Derived.Test.YtmnlcbeggagabaaGreatDoorC29
import Derived.Test.YtmnlcbeggagabaaGreatDoorC30
open _root_ renaming List.length→y,Option.some→H,Array.size→z,Go.World.heap→G,Go.Value.ownBlock→cz,Go.World.cell?→aS,Go.World.setCell→cA,Go.World.alloc→cG,Bool.false→bj,Bool.true→ci,Nat→M,Int→U,List→cS,Go.Calls→cD,Go.Proofs.Tryz.prog→aZ,Go.Value.slice→J,Go.Value.string→am,Go.Value.bool→aK,Go.Value.pointer→dF,Go.Value.tuple→dd,Go.Value.agg→dD
namespace Go.Proofs.YtmnlcbeggagabaaGreatDoor
open ChangeShapes WideShapes RowKit Proofs.Tryz List
set_option maxHeartbeats 16000000
set_option linter.all false
set_option maxRecDepth 100000
variable{a f B:Z}{b c g m x O:M}{d u P:ab}{e N:cI}{i L:DK}{j p r s:cN}{k D:U}{l:dJ}{n:dN}{o:SR}{X:eT}{F:Fs}{K:Bool}{T:bw}
def jV.nil:jV []:=⟨by simp,dK.nil,by simp⟩
def SP(h:qF a b F X T):Me a T:=by
 obtain⟨f,d,c,e,_⟩:=h.mem;exact⟨_,_,_,_,_,_,_,_,_,e⟩
def SZ(h:UK a b T):Me a T:=by
 obtain⟨e,c,x,d,h⟩:=h;exact⟨_,_,_,_,_,_,_,_,_,h.mem⟩
def GI.Qw(h:GI F a i c g d j)(f:y j<=1000000000):iK a d j:=⟨h.row,λl e=>(h.loc l e).lt,λt k=>SP<|h.each t k,f⟩
def DY(w:Z):iK w aw []:=⟨⟨rfl,.inl ⟨rfl,rfl⟩⟩,λk a=>(by cases a),by simp,by simp⟩
def LS.least{O S:ab}{T o:cN}(v:LS a b c g i j [] m d u P O p r s T)(C:I (i.aO b) a f)(L:(pT b i).D f)(x:pU f (z<|G a) o)(q:o.map bw.all=gL e)(B:dK e)(k:qE 5 e)(w:∀X∈e,X.Good)(A:f.ownsRow (z<|G a) 189 1 S (y o) (o.map bw.ptr))(K:y e<=m):∃t,LS f b c g i j t m aw aw aw S [] [] [] o:=by
 have h':=v.ap C L;obtain⟨t,V,D,E,F,W,N⟩:=v.oY C x q B k w;rw[de]at D E F;have l:=lE q;have h:Row f 1 aw (y ([]:cN)) (([]:cN).map bw.ptr):=⟨rfl,.inl ⟨rfl,rfl⟩⟩;refine⟨t,{h' with news:=D,apart:=E,r0:=h,r1:=h,r2:=h,r3:=dE A,b0:=λQ n=>(by cases n),b1:=λQ n=>(by cases n),b2:=λQ n=>(by cases n),b3:=vi A v.aO v.JE v.le,x0:=by simp,x1:=by simp,x2:=by simp,x3:=F,nodup:=by simpa using N,s1:=jV.nil,s2:=jV.nil,s3:=FG q x.each B k w,qp:=?_}⟩;rw[l];simpa[bZ]using K
structure Wv(w W:Z)(sb lb:M)(s:SR)(k:U)(K:DK)(m:cI)(a b c d:cN)(C tb N:M)(ls:dJ)(sn:gv)(v3:ab)(tm:cN)(qs:cS NT):Prop where
 sv:SV w sb s k lb K (a++b++c++d) C s.aT (sC sn) (λt=>ft t<|m::bY a b c d) W aw aw aw v3 [] [] [] tm qs
 EZ:∃K',gq w W s.aM sb K K'/\Inv W sb s K' m a b c d C tb N ls sn
 Xw:iK W v3 tm
 Ly:jT tm<=1000000000
 len:jT tm=y (gI<|dG (sC sn)<|cL<|m::bY a b c d)
def Wv.ap{E:Z}{X b aa ac:cN}{N:gv}{K:cS NT}(q:Wv a B c g o k L e X b aa ac m x O l N d j K)(h:I az B E):Wv a E c g o k L e X b aa ac m x O l N d j K:=by
 obtain⟨P,W,v⟩:=q.EZ;have t:=oJ (sbqq:=c) v.st.aM h;refine⟨⟨q.sv.ls.ap (h.mono cC)<|(pT o.aM L).eQ q.sv.ls.D h cC,(h.block g (ar q.sv.lb) id).trans q.sv.lb,q.sv.pr,q.sv.uy,(h.block c (ar q.sv.box) id).trans q.sv.box,q.sv.ap.bW h⟩,⟨P,W.trans t,v.fE (ar q.sv.box) t rfl (ai _) rfl v.loose⟩,⟨h.row q.Xw.row<|λk w=>⟨id,q.Xw.lt k w⟩,λk w=>ah (q.Xw.lt k w) h.size,λad C=>?_,q.Xw.small⟩,q.Ly,q.len⟩;obtain⟨V,p,cut,r,D,Q,s,n,u,A⟩:=q.Xw.each ad C;exact⟨V,p,cut,r,D,Q,s,n,u,A.di (h.block _ A.lt.1 id)<|h.block _ A.lt.2 id⟩
def Xg{W:Z}{k:U}{T b V X:cN}{D:gv}(av:cf a c o k)(r:Inv a c o i e T b V X m x O l D)(hp:n.Perm (sC D))(aa:(pT o.aM i).D f)(P:I (i.aO o.aM) a f)(ad:I az f B)(ho:B.ownsRow (z<|G f) 189 1 d (y j) (j.map bw.ptr))(s:j.map bw.all=gL (gI<|dG n<|cL<|e::bY T b V X))(hn:pU B (z<|G f) j)(hW:I az B W)(hl:W.heap[g]?=H (ay #[aw,aw,aw,d] 93 (0,0))):∃qs,Wv a W c g o k i e T b V X m x O l D d j qs:=by
 rw[DO hp]at s;have A:=ar av;have h:=r.all;obtain⟨p1,p2,p3⟩:=IH h s;have t:dK (cL<|e::bY T b V X):=oF h.mh h.oY;have u:=(kh<|dG (sC D)<|cL<|e::bY T b V X).trans<|jh (sC D)<|cL<|e::bY T b V X;have v:∀au∈cL (e::bY T b V X),au.Good:=λau hx=>h.iH au<|(eH _).mem_iff.1 hx;have al:qE 5 (gI<|dG (sC D)<|cL<|e::bY T b V X):=((xG t).sub<|kh _).mono (by rw[qu];have:=r.BK.len;omega);have F:=lE s;have an:=r.st.qp;have S:=r.st.oO;have Q:I az f W:=ad.bW hW;have p:I (i.aO o.aM) a W:=P.bW Q;have E:(pT o.aM i).D W:=(pT o.aM i).eQ aa Q cC;have K:pU W (z<|G f) j:=hn.ap hW;have w:W.ownsRow (z<|G f) 189 1 d (y j) (j.map bw.ptr):=hW.own ho<|λ_ _ q=>q;have ac:=r.st.XH (C':=m) A r.Fb (by omega) S;have L:=P.size;obtain⟨qs,C⟩:=ac.least p E (K.base L) s (t.sub u) al (λau hx=>v au<|u.subset hx) (fM w L) (by rw[<-F];omega);obtain⟨K',hd,e1,e2,e3⟩:=SD (sbqq:=c) (gq.refl r.st.aM) E p;have hb:cf W c o k:=(p.block c A r.st.yO).trans av;refine⟨qs,⟨C,hl,p1,p2,hb,p⟩,⟨K',hd,r.fE A hd (by rw[e1]) (by rw[e2];grind) rfl r.loose⟩,⟨dE w,λk hk=>(w.lt k hk).2,λao N=>SZ<|K.each ao N,?_⟩,?_,?_⟩;have:=kW C.s3.pure;omega;rw[vE<|λao N=>C.ks<|C.x3 ao N];omega;rw[vE<|λao N=>C.ks<|C.x3 ao N,F]
def LN{l b n p:cN}(j:ST a c o i e l b n p m)(f:Z)(t:ab)(s:I az a f)(r:f.ownsRow (z<|G a) 168 1 t (y (oS (o.l0,l) (o.l1,b) (o.l2,n) (o.l3,p))+1) (wC o.memory (o.l0,l) (o.l1,b) (o.l2,n) (o.l3,p))):cD aZ 130 #[t,am ⟨#[]⟩] f λB u=>∃A v,B=aJ A/\iT (pT o.aM i) (z<|G a) A (cL<|e::bY l b n p) v u/\(pT o.aM i).D u/\I (pT o.aM i).F f u/\(∀k,v k->z (G f)<=k):=by
 have hF:∀k,(pT o.aM i).F k->k<z (G a):=j.aM.lt;have d:kw (pT o.aM i) (z<|G a) az a f:=s.same (ai _) cC cC;have h:y (nU o e l b n p)=y (oS (o.l0,l) (o.l1,b) (o.l2,n) (o.l3,p))+1:=by have:=bQ y<|xJ o e l b n p;rw[df]at this;rw[this];simp[wC]
 have w:=j.count;have x:=AU (z<|G a) (nU o e l b n p) t ⟨#[]⟩ (by rw[xJ,h];exact dE r) (λk f=>⟨(r.lt k f).2,λq=>by have:=hF k q;have:=(r.lt k f).1;omega⟩) (by simp only[nU,aW,ag,List.length_reverse,df,eD];omega) (λe a=>(j.Is _<|ak a).same d) ((pT o.aM i).eQ j.Qg s cC) s.size hF;rw[qw,nW (g:=id)<|λl _=>Le l,wh]at x;exact x
def Zo(a b c d:cN)(n:M):Prop:=a=[]/\b=[]/\c=[]/\jT d=n
def EN(w o:Z)(a:M)(s:SR)(p:U)(K:DK)(C N:M)(n:gv)(l:M)(j:U->ae->Option ae)(q:M):Prop:=∃m i k e f g h d c,EL w o a s p K C N n l j m i k e f g h d c/\Zo e f g h q
def map_nil(h:j.map bw.all=([]:cN).map bw.all):j=[]:=by simpa using h
def Lw{Q b K S:cN}(A:gv)(h:cf a c o k)(f:Inv a c o L e Q b K S g m x l A)(hT:Aw o Q b K)(hN:x+1<=100000000):cD aZ 77 #[aA c] a λV B=>V=aJ .nilIface/\EN a B c o k L g (x+1) A o.aT (λau=>ft au<|e::bY Q b K S) (y<|gI<|dG (sC A)<|cL<|e::bY Q b K S):=by
 obtain⟨mx,mc,cT⟩:=bN f.st.mem;have ck:=Dp (o.l0,Q) (o.l1,b) (o.l2,K) (o.l3,S) h mx (y e) mc cT<|f.st.WY h;have bi:=LN f.st;have N:=f.all;have bh:=f.st.flat;have bf:=f.st.oO;have bv:y (cL<|e::bY Q b K S)<=1000000:=by have:=(eH<|e::bY Q b K S).length_eq;omega
 have cl:=ar h;obtain⟨mb,q1,q2,q3⟩:=f.BK.ex;have h4:=f.BK.len
 have ch:∀s,I (L.aO o.aM) a s->cD aZ 104 #[aA c] s λV B=>∃d,∃w:dN,V=aJ d/\w.Perm (sC A)/\B.ownsRow (z<|G s) 89 1 d (y w) (w.map<|Value.int .u64)/\I az s B:=λs ht=>
  wL (b:=mb) A ((ht.block c cl f.st.yO).trans h) q1 (q2.di<|ht.block _ q2.lt q3.aO) h4
 have bl:∀s F dv c(w:dN),I (L.aO o.aM) a s->I az s F->w.Perm (sC A)->s.ownsRow (z<|G a) 170 4 dv (y<|cL<|e::bY Q b K S) (aI<|cL<|e::bY Q b K S)->F.ownsRow (z<|G s) 89 1 c (y w) (w.map<|Value.int .u64)->cD aZ 131 #[dv,c] F λV B=>∃r,∃d:cN,V=aJ (dD #[aw,aw,aw,r])/\B.ownsRow (z<|G F) 189 1 r (y d) (d.map bw.ptr)/\d.map bw.all=gL (gI<|dG w<|cL<|e::bY Q b K S)/\pU B (z<|G F) d/\I az F B:=λs F dv c w E n hp al P=>by have u:=n.own al<|λ_ _ q=>q;exact Qy w (dE u) (dE P) (oF N.mh N.oY) (λx a=>N.iH x<|(eH _).mem_iff.1 a) bv (by have:=hp.length_eq;rw[qu]at this;omega) (λq hq=>(u.lt q hq).2) (λq hq=>(P.lt q hq).2) (Steps.ap f.st.lL.steps (E.bW n) f.st.lL.eL.aO)<|ah f.st.lL.eL.lt (E.bW n).size
 have bd:∀W v r d t,Wv a W c v o k L e Q b K S g m x l A r d t->cD aZ 112 #[aA c,dD #[aw,aw,aw,r],aE o.aT] W λV B=>V=aJ .nilIface/\EN a B c o k L g (x+1) A o.aT (λau=>ft au<|e::bY Q b K S) (y<|gI<|dG (sC A)<|cL<|e::bY Q b K S):=λW v r d t D=>by refine(Df v g o.aT (sC A) _ W _ _ _ _ [] [] [] d t D.sv h f.st f.oa f.JJ.1 (by have:=f.bn;have:=f.oO;omega) (by have:=f.nx;have:=f.oO;omega) (by have:=f.dM;have:=f.oO;omega)).mono ?_;rintro V B⟨rfl,K',num,a',b',c',d',hO,e0,e1,e2,e3⟩;have e0:=map_nil e0;have e1:=map_nil e1;have e2:=map_nil e2;have e4:bZ d'=bZ d:=bQ List.flatten e3;refine⟨rfl,_,K',[],a',b',c',d',o.aT,[],⟨hO.box,hO.inv f.zh f.nx (by have:=f.bn;omega) hN f.BK f.UZ<|ai _,λau ht q=>by rw[lW];exact hO.uy au (ht.imp_right (λV=>by rw[V];grind)) q,hO.fE,⟨rfl,rfl,rfl,rfl,rfl,rfl⟩,rfl,by have:=f.zh.1;show((0:M):U)<o.mem;omega,?_⟩,e0,e1,e2,?_⟩;rw[e0,e1,e2];have:=f.zh.2.2.1;show(0:U)<o.nN/\(0:U)<=o.nN/\(0:U)<=o.nN;omega;rw[vE<|λau q=>(hO.st.l3.each au q).ks,e4,<-D.len,vE<|λau ht=>D.sv.ls.ks<|D.sv.ls.x3 au ht]
 have an:∀W v r d t,AF [Q,b,K,S] [[],[],[],d] 4->Wv a W c v o k L e Q b K S g m x l A r d t->cD aZ 48 #[aA c] W λV B=>V=aJ .nilIface/\EN a B c o k L g (x+1) A o.aT (λau=>ft au<|e::bY Q b K S) (y<|gI<|dG (sC A)<|cL<|e::bY Q b K S):=λW v r d t C D=>by obtain⟨K1,ca,O⟩:=D.EZ;have f0:=(C 0<|by omega).1;have f1:=(C 1<|by omega).1;have f2:=(C 2<|by omega).1;have f3:=(C 3<|by omega).2;apply(O.safe D.sv.box).mono;rintro V B⟨rfl,K',hd,hf,hb,hI⟩;exact⟨rfl,_,K',e,Q,b,K,S,m,l,⟨hb,hI.mono (ai _) bf (by omega) hN,λ_ _ _=>rfl,ca.trans hd,⟨rfl,rfl,rfl,rfl,rfl,rfl⟩,rfl,hT⟩,aP f0,aP f1,aP f2,f3.trans D.len⟩
 have bc:∀W v r d t,Wv a W c v o k L e Q b K S g m x l A r d t->cD aZ 132 #[dF<|H<|R c 10,aA v] W λV B=>∃dx,V=aJ (aK dx)/\(dx=ci->AF [Q,b,K,S] [[],[],[],d] 4)/\I az W B:=λW v r d t D=>by have cm:=f.st.count;have co:=f.st.qp;(have hk:∀a:cN,(∀au∈a,au.ks=bI 0 au.cs)->y (bZ a)<=1000000->jT a<=1000000000:=λa c d=>by rw[vE c];omega);refine IS W c v o.l0 o.l1 o.l2 o.l3 aw aw aw r Q b K S [] [] [] d (λj hX=>?_) ⟨hk Q (λau q=>(f.st.l0.each au q).ks) (by omega),hk b (λau q=>(f.st.l1.each au q).ks) (by omega),hk K (λau q=>(f.st.l2.each au q).ks) (by omega),hk S (λau q=>(f.st.l3.each au q).ks) (by omega),by simp[jT],by simp[jT],by simp[jT],D.Ly⟩;have aD:=D.ap hX;obtain⟨K1,ca,O⟩:=aD.EZ;have hb:=aD.sv.box;have hl:=aD.sv.lb;exact⟨⟨hb.cell rfl,hb.cell rfl,hb.cell rfl,hb.cell rfl⟩,⟨by rw[bV hl];rfl,by rw[bV hl];rfl,by rw[bV hl];rfl,by rw[bV hl];rfl⟩,⟨O.st.l0.Qw (by omega),O.st.l1.Qw (by omega),O.st.l2.Qw (by omega),O.st.l3.Qw<|by omega⟩,⟨DY _,DY _,DY _,aD.Xw⟩⟩
 have aV:=Y<|λ(s F p W:Z)(v:M)(r:ab)(d:cN)(w:dN)(hp:w.Perm (sC A))(ax:(pT o.aM L).D s)(E:I (L.aO o.aM) a s)(n:I az s F)(aU:I az F p)(g:p.ownsRow (z<|G F) 189 1 r (y d) (d.map bw.ptr))(aF:d.map bw.all=gL (gI<|dG w<|cL<|e::bY Q b K S))(c:pU p (z<|G F) d)(hW:I az p W)(hl:W.heap[v]?=H (ay #[aw,aw,aw,r] 93 (0,0)))=>Xg (k:=k) h f hp ax E (n.bW aU) (fM g n.size) aF (c.base n.size) hW hl;have br:=Y (show∀W v r d t,Wv a W c v o k L e Q b K S g m x l A r d t->aS W (R c 8)=H (aq o.fS)/\aS W (R c 9)=H (aE o.aT)/\W.heap[v]?=H (ay #[aw,aw,aw,r] 93 (0,0))fromλW v r d t D=>⟨D.sv.box.cell rfl,D.sv.box.cell rfl,D.sv.lb⟩);obtain⟨ML,bb⟩:∃ML,cL (e::bY Q b K S)=ML:=⟨_,rfl⟩;rw[bb]at bi bl aV bv;obtain⟨cs,cv,cu,ba,bg,bq⟩:=kY bi ch bl bd an bc;clear h f hT bi ch bl bd an bc N bh bf cl q1 q2 q3 h4 bb;go_in
 go_wp2_with fail
 apply ck.mono;rintro V w1⟨v1,rfl,bm,bo⟩;have hf:=cs w1 v1 bo bm;obtain⟨y1,e1,db⟩:=aC bm;subst db;have bs:=Y bo;clear bm bo ck;go_wp2_with fail
 apply hf.mono;rintro V w2⟨v2,S2,rfl,cb,bu,bp,bx⟩;have dn:=bs.size;have ds:=bp.size;have bT:=Ci (λh=>h) cb bu (by omega);have cB:=Y<|(bs.mono (T:=L.aO o.aM) cC).trans bp<|λ_ q=>.inl q;have cx:=Y bx;clear cb bu bp bx hf;go_wp2_with fail
 apply bT.mono;rintro V s⟨r,rfl,al,ax,E⟩;have ao:I (L.aO o.aM) a s:=cB.trans E<|λq hq=>hq.elim (λg=>.inr (by have:=cx q g;omega)) .inl;have u:s.ownsRow (z<|G a) 170 4 r (y ML) (aI ML):=fM al (by omega);obtain⟨y3,e3,dc⟩:=aC al;subst dc;have ce:=cv s ao;obtain⟨cw,bt,cp⟩:=dz u ao ax;clear al u ax E ao bT dn ds;go_wp2_with fail
 apply ce.mono;rintro V F⟨v4,w,rfl,hp,P,n⟩;have cc:=cu s F _ v4 w bt n hp cw P;obtain⟨y4,e4,dk⟩:=aC P;subst dk;have HP:=Y hp;have cE:=Y n;clear P n hp ce;go_wp2_with fail
 apply cc.mono;rintro V p⟨v5,d,rfl,bn,aF,cj,aU⟩;obtain⟨y5,e5,dm⟩:=aC bn;subst dm;obtain⟨W,hW⟩:∃W,cG p (ay #[aw,aw,aw,J y5 (y d) e5] 93)=W:=⟨_,rfl⟩;have bE:W.heap[z<|G p]?=H (ay #[aw,aw,aw,J y5 (y d) e5] 93 (0,0)):=by rw[<-hW];exact aH _ rfl
 have cn:I az p W:=by rw[<-hW];exact(cK az p)
 obtain⟨t,hC⟩:=aV s F p W (z<|G p) _ d w HP cp bt cE aU bn aF cj cn bE;obtain⟨b8,b9,cd⟩:=br W _ _ d t hC;have HC:=Y hC;clear bn aF cj aU cc bE cn hC;by_cases dT:o.fS=0
 .have cM:decide ((o.fS:U)=0)=ci:=vY (by omega);go_wp2_with fail
  apply(bq W _ _ d t HC).mono;rintro V W8⟨dx,rfl,C,cm⟩;have co:=Y C;have aD:=HC.ap cm;obtain⟨c8,c9,bk⟩:=br W8 _ _ d t aD;have av:=Y aD;clear aD cm cd b8 b9 C;cases dx with
  |true=>
   go_wp2_with fail
   apply(bg W8 _ _ d t (co trivial) av).mono;rintro V w9⟨rfl,hP⟩;have X:=Y hP;clear hP;go_wp2;go_ret;exact⟨rfl,X⟩
  |false=>
   go_wp2_with fail
   rename_i QQ KK ad;have hS:W8.drew.heap[z<|G p]?=H (ay #[aw,aw,aw,J y5 (y d) e5] 93 (0,0))/\aS W8.drew (R c 9)=H (aE o.aT):=⟨bk,c9⟩;refine kG (λj=>j.heap[z<|G p]?=H (ay #[aw,aw,aw,J y5 (y d) e5] 93 (0,0))/\aS j (R c 9)=H (aE o.aT)) 6 (by kernel_rfl) ?_;refine lT 0 ?_;iterate 6 (refine yG (v:=?_) hS rfl (by kernel_rfl) ma rfl ?_ ?_;rotate_left;(focus(rintro j⟨z0,z1⟩;have x0:aS j (R (z<|G p) 0)=H aw:=(by rw[bV z0];rfl);have x1:aS j (R (z<|G p) 1)=H aw:=(by rw[bV z0];rfl);have x2:aS j (R (z<|G p) 2)=H aw:=(by rw[bV z0];rfl);have x3:aS j (R (z<|G p) 3)=H (J y5 (y d) e5):=(by rw[bV z0];rfl);go_simp;try rfl));simp only[Act.put,eF,jx,Nat.reduceAdd])
   apply qo;refine gH (i:=6) rfl rfl (by kernel_rfl) ?_;intro K6 aa;go_simp;apply(ba _ _ _ d t<|av.ap<|cR az _).mono;rintro V w9⟨rfl,hP⟩;have X:=Y hP;refine aa _ _ (λK=>(by omega)) ?_;try simp only[Act.put,eF,jx]
   clear aa hP hS;refine gH (i:=7) rfl rfl (by kernel_rfl) ?_;intro K7 ac;go_simp;refine ac _ _ (λK=>(by omega)) ?_;try simp only[Act.put,eF,jx]
   clear ac;refine kH (by kernel_rfl) ?_ _;show KK _ _;apply ad;clear ad;go_wp2;go_ret;exact⟨rfl,X⟩
 (.have cM:decide ((o.fS:U)=0)=bj:=decide_eq_false (by omega);have av:=HC;have bk:=cd;have c9:=b9;(go_wp2_with fail);rename_i QQ KK ad;have hS:W.drew.heap[z<|G p]?=H (ay #[aw,aw,aw,J y5 (y d) e5] 93 (0,0))/\aS W.drew (R c 9)=H (aE o.aT):=⟨bk,c9⟩;refine kG (λj=>j.heap[z<|G p]?=H (ay #[aw,aw,aw,J y5 (y d) e5] 93 (0,0))/\aS j (R c 9)=H (aE o.aT)) 6 (by kernel_rfl) ?_;refine lT 0 ?_;(iterate 6 (refine yG (v:=?_) hS rfl (by kernel_rfl) ma rfl ?_ ?_;rotate_left;(focus(rintro j⟨z0,z1⟩;have x0:aS j (R (z<|G p) 0)=H aw:=(by rw[bV z0];rfl);have x1:aS j (R (z<|G p) 1)=H aw:=(by rw[bV z0];rfl);have x2:aS j (R (z<|G p) 2)=H aw:=(by rw[bV z0];rfl);have x3:aS j (R (z<|G p) 3)=H (J y5 (y d) e5):=(by rw[bV z0];rfl);go_simp;try rfl));simp only[Act.put,eF,jx,Nat.reduceAdd]));apply qo;refine gH (i:=6) rfl rfl (by kernel_rfl) ?_;intro K6 aa;go_simp;apply(ba _ _ _ d t<|av.ap<|cR az _).mono;rintro V w9⟨rfl,hP⟩;have X:=Y hP;refine aa _ _ (λK=>(by omega)) ?_;(try simp only[Act.put,eF,jx]);clear aa hP hS;refine gH (i:=7) rfl rfl (by kernel_rfl) ?_;intro K7 ac;go_simp;refine ac _ _ (λK=>(by omega)) ?_;(try simp only[Act.put,eF,jx]);clear ac;refine kH (by kernel_rfl) ?_ _;show KK _ _;apply ad;clear ad;go_wp2;go_ret;exact⟨rfl,X⟩)
section
open Conc.Locks
def RU(h:cf a b o 0)(l:o.closed=ci):cD aZ 44 #[aA b] a λm k=>m=aJ (pO 6)/\cf k b o 0/\I (λu=>u=b) a k:=by
 have p:=cf.cellAt h 0 rfl;have r:a.frozen? (R b 0)=bj:=h.free;have j:=h.lN 1;have c:=mi j;rw[l]at c;simp only[lk]at c;have n:=Y<|λg i=>zA (W2:=g) j (iV b a) i;clear h j l;rw[Iw]at c|-;go_enter_defers func44,ntmps44
 go_wp2_with fail
 apply(lock_free (R b 0) _ p r).mono;rintro m k⟨rfl,rfl⟩;go_wp2_with fail
 apply c.mono;rintro m g⟨rfl,i⟩;obtain⟨q,s,d⟩:=n g i;have e:=Y d;clear d i c;go_wp2;refine jp (f:=34) (args:=#[aA b]) (by simp) (by simp[go_sem]) ?_;apply(unlock_deferred (R b 0) .returning _ q s).mono;rintro m v t⟨rfl,rfl,rfl⟩;exact⟨_,jP rfl _ _ _,rfl,e⟩
def Fl(C:gv)(h:cf a b o 0)(L:Inv a b o i e j p r s c g m l C)(hT:Aw o j p r)(P:o.closed=bj)(hN:m+1<=100000000):cD aZ 44 #[aA b] a λF v=>F=aJ .nilIface/\EN a v b o 0 i c (m+1) C o.aT (λao=>ft ao<|e::bY j p r s) (y<|gI<|dG (sC C)<|cL<|e::bY j p r s):=by
 have al:=ar h;have c0:=cf.cellAt h 0 rfl;have f0:a.frozen? (R b 0)=bj:=h.free;have t:=xO L.st.aM L.st.yO 1;have B:=h.lN 1;have d:=L.fE al t rfl (ai _) rfl L.loose;generalize hW:cA a (R b 0) (lU 1)=D at t B d;have n:=mi B;rw[P]at n;have V:cD aZ 35 #[aA b] D λF v=>F=aJ .nilIface/\Below (z<|G D) D v:=n;have Q:∀E,I az D E->cD aZ 77 #[aA b] E λF v=>F=aJ .nilIface/\EN a v b o 1 i c (m+1) C o.aT (λao=>ft ao<|e::bY j p r s) (y<|gI<|dG (sC C)<|cL<|e::bY j p r s):=λE w=>by have S:gq D E o.aM b i i:=⟨d.st.aM.ap w<|λ_ _=>id,w.mono cC,λ_ q=>.inl q⟩;have ac:=d.fE (ar B) S rfl (ai _) rfl d.loose;have ad:cf E b o 1:=(w.block b (ar B) id).trans B;apply(Lw C ad ac hT hN).mono;rintro F v⟨rfl,s',K',m',a',b',c',d',A,x,k,u⟩;exact⟨rfl,s',K',m',a',b',c',d',A,x,⟨k.box,k.inv,k.uy,(t.trans S).trans k.fE,k.same,k.Bw,k.tid⟩,u⟩
 have W:=Y Q;have HW:=Y hW;clear h L hT t B d P hW Q n;go_enter_defers func44,ntmps44
 go_wp2_with fail
 apply(lock_free (R b 0) _ c0 f0).mono;rintro F v⟨rfl,an⟩;rw[af HW]at an;subst v;go_wp2_with fail
 apply V.mono;rintro F Wr⟨rfl,O⟩;have hd:=W Wr<|I.aQ O;clear O V;go_wp2_with fail
 apply hd.mono;rintro F w3⟨rfl,s',K',m',a',b',c',d',A,x,k,u⟩;have X:=Y u;have T:=Gv k.box;have HO:=Y k;clear k hd u;go_wp2_with fail
 apply T.mono;rintro F w4⟨rfl,N⟩;obtain⟨d0,g0,K⟩:=HO.fin N;have aa:=Y K;clear K N T;go_wp2;refine jp (f:=34) (args:=#[aA b]) (by simp) (by simp[go_sem]) ?_;apply(unlock_deferred (R b 0) .returning _ d0 g0).mono;rintro F u' au⟨rfl,rfl,rfl⟩;exact⟨_,jP rfl _ _ _,rfl,s',K',m',a',b',c',d',A,x,aa,X⟩
end
def qX(h:vI ((b:U)+1) l):kQ l=gp [] l.flatten/\dK (gp [] l.flatten)/\jO (b+y l:M) (gp [] l.flatten)=gp [] l.flatten/\qE 5 (gp [] l.flatten)/\y (gp [] l.flatten)<=(l.map y).sum:=by
 obtain⟨c,d,e,a⟩:=Vj h (y l)<|ai _;rw[bL]at c d e a;have g:(b:U)+1+y l-1=((b+y l:M):U):=by grind
 rw[g]at a;have f:=FV l;rw[<-c];refine⟨rfl,d.mh,a,?_,f⟩;rcases vR l with q|⟨r,i,q⟩;rw[q];exact qE.nil _;grind[yR,AH,FU]
def wz{s:SR}{S u v w A:cN}{P:M}(d:rK F a b i j p r S g m x O P K l)(e:OU F f b c i L s.l0 s.l1 s.l2 s.l3 j p r S u v w A)(h:I (λq=>i.aO b q\/q=c) a f)(N:z (G a)<=c)(B:s.aM=b)(E:jU f s.memory (gp [] l.flatten))(k:∀T,cz s.memory=H T->Aside f L b c T):xw F f c s L (gp [] l.flatten) u v w A g:=by
 obtain⟨_,Q,W,X,p4⟩:=qX d.lp;subst B;have o:=d.steps.lt;have n:=d.pow.lt;refine⟨E,k,e.l0,e.l1,e.l2,e.l3,e.aM,λr=>?_,⟨Steps.ap d.steps h (λr=>r.elim d.eL<|λr=>by omega),d.pow.ap h (λr=>r.elim d.lf<|λr=>by omega),⟨ah o h.size,λr=>d.eL<|e.same.2.2 _ r,by omega⟩,⟨ah n h.size,λr=>d.lf<|e.same.2.2 _ r,by omega⟩⟩,?_,d.oO,Q,?_,e.k1.side d.s1,e.k2.side d.s2,e.k3.side d.s3⟩;have:=d.aM.lt _<|e.same.2.2 _ r;omega;rw[e.k0.bZ,e.k1.bZ,e.k2.bZ,e.k3.bZ];exact d.qp;intro aa t;rcases sK t with C|C;simp at C;obtain⟨V,D,t⟩:=bB.1 C;exact d.lp.iH V D aa t
def wX{s:SR}{ad v w x A:cN}{aa g ac nx B:M}(d:xz a b i j p r ad aa g ac nx B K l)(e:OU (vw i.files) f b c i L s.l0 s.l1 s.l2 s.l3 j p r ad v w x A)(T:I (λq=>i.aO b q\/q=c) a f)(t:z (G a)<=c)(C:s.aM=b)(D:s.next=nx)(E:s.log=B)(F:s.fa=K)(m:s.aT=g+y l)(N:s.fS=(l.map y).sum)(O:s.vT=bj)(P:jU f s.memory (gp [] l.flatten))(o:∀al,cz s.memory=H al->Aside f L b c al)(h:1<=s.mem/\s.mem<=32/\2<=s.nN/\s.nN<=6)(n:s.iQ=ci->s.fa=ci)(u:Jf f L c s []):Inv f c s L (gp [] l.flatten) v w x A aa g ac l []:=by
 obtain⟨_,p1,W,X,p4⟩:=qX d.lp;subst C D E F;have k:vw L.files=vw i.files:=by rw[e.same.1]
 have S:=d.steps.lt;have Q:=d.pow.lt;refine{st:=?_,oa:=?_,pr:=?_,lp:=d.lp,mem:=by rw[m];exact W,RS:=λan V=>?_,Xv:=p4,XA:=X,BK:=u,UZ:=λ_ q=>(by cases q),Bw:=m,Rz:=N,vT:=O,Fb:=e.Fb,nx:=d.nx,bn:=by rw[m];exact d.bn,dM:=by rw[e.same.2.1];exact d.dM,zh:=h,loose:=n,Qt:=d.Qt,oO:=d.AM};rw[ST,k];exact wz d e T t rfl P o;rw[k];exact d.oa.YP e.k0 e.k1 e.k2 e.k3;rw[jF.bY e.k0 e.k1 e.k2 e.k3];exact d.pr;rw[m];rcases sK V with q|q;cases q;exact d.lp.uO an q
def rK.ap{d:Fs}{w w':Z}{j b k n:cN}{e:M}(h:rK d w c L j b k n g m x O e K l)(a:I az w w'):rK d w' c L j b k n g m x O e K l:={h with aM:=h.aM.ap a<|λ_ _=>id,steps:=Steps.ap h.steps a id,pow:=h.pow.ap a id}
def Dx(h:l≠[]):0<y (jg k l):=by
 rcases l with _|⟨a,r⟩;grind
 unfold jg mF;grind[length_append,fC,bU]
structure xx(w w':Z)(db sb:M)(mem nN:U)(K:DK)(C N:M)(R0:ae->Option ae)(s:SR)(K':DK)(m:cI)(a b c d:cN)(tb:M)(ls:dJ):Prop where
 box:cf w' sb s 0
 inv:Inv w' sb s K' m a b c d C tb N ls []
 uy:∀q,ft s.aT (m::bY a b c d) q=R0 q
 same:s.aM=db/\s.closed=bj/\s.mem=mem/\s.nN=nN/\s.KZ=0/\s.oo=H (z (G w)+1)
 fE:gq w w' db sb K K'
 size:z (G w)+4<=z (G w')
 aO:∀k,K'.aO db k->K.aO db k\/z (G w)+4<=k
def LV(w i:Z)(h c:M)(e a:U)(K:DK)(C N:M)(g:ae->Option ae):Prop:=∃s f n j k l m d b,xx w i h c e a K C N g s f n j k l m d b/\Aw s j k l
def xx.step{A v:ae->Option ae}{d:SR}{p:DK}{S V C W r s c' t:cN}{n j:M}{h:dJ}(w:xx a f b c k D i g m A o L e S V C W n l)(F:cf B c d 0)(E:Inv B c d p N r s c' t x j O h [])(P:∀q,ft d.aT (N::bY r s c' t) q=v q)(K:d.aM=b/\d.closed=bj/\d.mem=k/\d.nN=D/\d.KZ=0/\d.oo=H (z (G a)+1))(u:gq f B b c L p):xx a B b c k D i x O v d p N r s c' t j h:=⟨F,E,P,K,w.fE.trans u,aB w.size u.ap.size,λQ C=>(u.aO Q C).elim (λq=>w.aO Q q)<|λq=>.inr<|aB w.size q⟩
def xx.kept{h:Z}{t:ae->Option ae}{n:DK}(v:xx a B b (z (G a)+2) k D i c g t o L e j p r s m l)(u:gq B h b (z (G a)+2) L n)(d:∀w,i.aO b w->w<z (G a)):h.heap[z (G a)+3]?=B.heap[z (G a)+3]?:=u.ap.block _ (by have:=v.size;omega) (λr=>r.elim (λr=>by
 rcases v.aO _ r with q|q
 .have:=d _ q;omega
 .omega) (λr=>by omega))
def qY(h:qF a b F X T):OV a T:=by
 obtain⟨f,d,c,e,_⟩:=h.mem;exact⟨h.num,_,_,_,_,_,_,_,_,e⟩
def Qc(h d:U){V:M}(n:xz a b i j p r s c g x O V K l)(ho:1<=h/\h<=32/\2<=d/\d<=6)(hN:x+1<=100000000):cD aZ 10 #[aA b,dD #[aq h,aq d]] a λX u=>X=aJ (dd #[aA<|z (G a)+2,.nilIface])/\LV a u b (z (G a)+2) h d i c (x+1) (ft (g+y l:M)<|gp [] l.flatten::bY j p r s):=by
 have v:=n.aM.lt;have Q:¬i.aO b (z (G a)+2):=λq=>by have:=v _ q;omega
 have bk:O<18446744073709551616:=by have:=n.nx;have:=n.AM;omega
 have aU:V<18446744073709551616:=by have:=n.oa.lt;omega
 have bh:=n.bn;have bf:=n.count;refine Oz b h d a ho (λW=>I az a W/\cf W (z (G a)+2) (SR.fresh b h d<|z (G a)+1) 0/\kN W (z (G a)+1) []/\z (G W)=z (G a)+4) (λW=>∃u0 u1 u2 u3 L C D E F,cf W (z (G a)+2) ((SR.fresh b h d<|z (G a)+1).lD u0 u1 u2 u3 O V g<|decide<|0<y i.files) 0/\OU (vw i.files) W b (z (G a)+2) i L u0 u1 u2 u3 j p r s C D E F/\I (λq=>i.aO b q\/q=z (G a)+2) a W/\kN W (z (G a)+1) []/\z (G a)+4<=z (G W)) (λW=>∃bb w C D E F,xx a W b (z (G a)+2) h d i c x (ft (g+y l:M)<|gp [] l.flatten::bY j p r s) bb w (gp [] l.flatten) C D E F g l) (λW=>∃bb w C D E F,xx a W b (z (G a)+2) h d i c x (ft (g+y l:M)<|gp [] l.flatten::bY j p r s) bb w (gp [] l.flatten) C D E F g l) (λW=>LV a W b (z (G a)+2) h d i c (x+1)<|ft (g+y l:M)<|gp [] l.flatten::bY j p r s) (λW h1 h2 h3 h4=>⟨h1,h2,h3,h4⟩) ?_ ?_ ?_ ?_;rintro W⟨o,hb,au,aD⟩;apply(Qs hb rfl Q<|n.ap o).mono;rintro X u⟨rfl,u0,u1,u2,u3,P,⟨L,C,D,E,F,e⟩,t⟩;have A:=t.size;refine⟨rfl,⟨u0,u1,u2,u3,L,C,D,E,F,P,e,(o.mono (T:=λq=>i.aO b q\/q=z (G a)+2) cC).trans t<|λ_ q=>.inl q,au.di (t.block _ (by omega)<|λq=>q.elim (λq=>by have:=v _ q;omega)<|λq=>by omega),by omega⟩,?_⟩;exact t.block _ (by omega)<|λq=>q.elim (λq=>by have:=v _ q;omega)<|λq=>by omega
 .rintro W⟨u0,u1,u2,u3,L,C,D,E,F,hb,e,o,au,aD⟩;have ba:vw L.files=vw i.files:=by rw[e.same.1]
  have A:=jF.bY e.k0 e.k1 e.k2 e.k3;have ax:¬L.aO b (z (G a)+2):=λq=>Q<|e.same.2.2 _ q;have an:Pow W:=n.pow.ap o<|λq=>q.elim n.lf (λq=>by have:=n.pow.lt;omega);have bd:Steps W:=Steps.ap n.steps o<|λq=>q.elim n.eL (λq=>by have:=n.steps.lt;omega);have ad:∀u,I (λq=>L.aO b q\/q=z (G a)+2) W u->u.heap[z (G a)+3]?=W.heap[z (G a)+3]?:=λu c=>c.block _ (by omega) (λq=>q.elim (λq=>by have:=v _<|e.same.2.2 _ q;omega)<|λq=>by omega);have ao:∀u w,I (λq=>L.aO b q\/q=z (G a)+2) W u->(∀ac,w.aO b ac->L.aO b ac)->kN u (z (G a)+1) []/\Aside u w b (z (G a)+2) (z (G a)+1):=λu w c hf=>⟨au.di (c.block _ (by omega)<|λq=>q.elim (λq=>by have:=v _<|e.same.2.2 _ q;omega)<|λq=>by omega),by have:=c.size;omega,λq=>by have:=v _<|e.same.2.2 _<|hf _ q;omega,by omega⟩;have aV:Jf W L (z (G a)+2) ((SR.fresh b h d<|z (G a)+1).lD u0 u1 u2 u3 O V g<|decide<|0<y i.files) []:=⟨⟨z (G a)+1,rfl,ao W L (I.refl _ W)<|λ_ q=>q⟩,by simp⟩;cases hlgd:K with
  |false=>
   have al:=n.oa.DJ hlgd;have av:dB (vw L.files) (fD V)=none:=by
    rw[ba];rcases hf:dB (vw i.files) (fD V)with _|bs
    .rfl
    .rcases n.oa.names _ _ hf with X|⟨_,X⟩|⟨aF,o,X⟩
     .grind[nQ]
     .rw[hlgd]at X;cases X
     .exact absurd X.symm<|lC _ _
   apply(wG hb e.aM an aU av).mono;rintro X u⟨rfl,t⟩;have aa:=e.ap (t.mono (T:=λq=>q=z (G a)+2) cC) Q;have S:=o.bW t;refine⟨rfl,⟨(SR.fresh b h d<|z (G a)+1).lD u0 u1 u2 u3 O V g<|decide<|0<y i.files,L,C,D,E,F,?_⟩,ad u<|t.mono cC⟩;have k:=wX (s:=(SR.fresh b h d<|z (G a)+1).lD u0 u1 u2 u3 O V g<|decide<|0<y i.files) n aa S (by omega) rfl rfl rfl hlgd.symm (by rw[al];rfl) (by rw[al];rfl) rfl (by rw[al];exact⟨rfl,.inl ⟨rfl,rfl⟩⟩) (λac q=>by cases q) ho (λq=>by cases q) ⟨⟨z (G a)+1,rfl,ao u L (t.mono cC)<|λ_ q=>q⟩,by simp⟩;exact⟨(t.block _ (ar hb) id).trans hb,k,λq=>by rw[A,k.Bw],⟨rfl,rfl,rfl,rfl,rfl,rfl⟩,⟨aa.aM,S.mono<|λ_ q=>.inl q,λac q=>.inl<|e.same.2.2 ac q⟩,aB aD t.size,λac q=>.inl<|e.same.2.2 ac q⟩
  |true=>
   have av:=n.Qt hlgd;have bc:y (jg ((g:U)+1) l)<=200000:=by
    have h1:=oT (f:=(g:U)+1)<|λbg a=>⟨n.lp.iH bg a,(n.lp.one bg a).2⟩;have h2:=yK<|λbg a=>(n.lp.one bg a).1;have h3:=n.lp.sum;omega
   refine(Dv l hb e.aM ax an bd ⟨by have:=n.steps.lt;omega,λq=>n.eL<|e.same.2.2 _ q⟩ aU n.lp (by rw[ba];exact n.oa.log hlgd) (Dx av) bc rfl rfl (by show g<=1000000000;have:=n.AM;omega) aV).mono ?_;rintro X u⟨rfl,mv,w,P,al,N,e1,e2,e3⟩;have bi:∀aF:bw,dB (vw w.files) (gu aF.num)=dB (vw L.files) (gu aF.num):=λaF=>by rw[e1]
   have aa:OU (vw i.files) u b (z (G a)+2) i w u0 u1 u2 u3 j p r s C D E F:=⟨N.ok,⟨e1.trans e.same.1,e2.trans e.same.2.1,λac q=>e.same.2.2 ac<|e3 ac q⟩,e.l0.fE N<|λ_ _=>rfl,e.l1.fE N<|λ_ _=>rfl,e.l2.fE N<|λ_ _=>rfl,e.l3.fE N<|λ_ _=>rfl,e.k0,e.k1,e.k2,e.k3,e.Fb⟩;have S:I (λq=>i.aO b q\/q=z (G a)+2) a u:=o.trans N.ap<|λ_ q=>.inl<|q.imp (e.same.2.2 _) id;refine⟨rfl,⟨{((SR.fresh b h d<|z (G a)+1).lD u0 u1 u2 u3 O V g<|decide<|0<y i.files).qy mv (y l) (l.map y).sum with fa:=ci,vT:=bj,iQ:=ci},w,C,D,E,F,?_⟩,ad u N.ap⟩;have k:=wX (s:={((SR.fresh b h d<|z (G a)+1).lD u0 u1 u2 u3 O V g<|decide<|0<y i.files).qy mv (y l) (l.map y).sum with fa:=ci,vT:=bj,iQ:=ci}) n aa S (by omega) rfl rfl rfl hlgd.symm rfl rfl rfl (by rw[<-(qX n.lp).1];exact dE al) (λac q=>by
    have h1:=al.lt ac q;exact⟨h1.2,λg=>by have:=v _ (e.same.2.2 _ (e3 ac g));omega,by omega⟩) ho (λ_=>rfl) ⟨⟨z (G a)+1,rfl,ao u w N.ap e3⟩,by simp⟩
   exact⟨P,k,λq=>by rw[A,k.Bw],⟨rfl,rfl,rfl,rfl,rfl,rfl⟩,⟨N.ok,S.mono<|λ_ q=>.inl q,λac q=>.inl<|e.same.2.2 ac<|e3 ac q⟩,aB aD N.ap.size,λac q=>.inl<|e.same.2.2 ac<|e3 ac q⟩
 .rintro W⟨bb,K1,C,D,E,F,B⟩;have k:=B.inv;obtain⟨es,ec,em,et,eg⟩:=B.same;subst es;have aa:y K1.files<=100000000:=by
   have ac:=k.st.aM.nodup;have S:=rZ (l:=(vw K1.files).map (·.1)) (m:=fm::fD bb.log::(C++D++E++F).map (λaF=>gu aF.num)) ac (λad hx=>by
    obtain⟨bs,A⟩:=ly hx;rcases k.oa.names ad bs A with X|⟨X,_⟩|⟨aF,o,X⟩
    .simp[X]
    .simp[X]
    grind)
   have e1:y ((vw K1.files).map (·.1))=y K1.files:=by simp[vw]
   rw[e1]at S;have:=k.CT;grind
  refine(Ew C D E F B.box (k.st.WY B.box) (λaF o=>?_) k.st.lL.pow (by have:=k.oa.lt;have:=k.nx;have:=k.oO;omega) (by have:=k.CT;omega) k.st.aM k.st.yO (by have:=k.dM;have:=k.oO;omega) aa<|λad hx=>?_).mono ?_
  .rcases aG.1 o with o|o
   .rcases aG.1 o with o|o
    .rcases aG.1 o with o|o
     .exact qY<|k.st.l0.each aF o
     .exact qY<|k.st.l1.each aF o
    .exact qY<|k.st.l2.each aF o
   .exact qY<|k.st.l3.each aF o
  .have S:ad∈(vw K1.files).map (·.1):=by simpa[vw]using hx
   obtain⟨bs,A⟩:=ly S;rcases k.oa.names ad bs A with X|⟨X,_⟩|ac
   .exact .inl X
   .grind
   grind
  .rintro X u⟨rfl,w,N,ef,ac⟩;have S:gq W u bb.aM (z (G a)+2) K1 w:=gq.of N;have P:cf u (z (G a)+2) bb 0:=(N.ap.block _ (ar B.box) k.st.yO).trans B.box;exact⟨rfl,⟨bb,w,C,D,E,F,B.step P (k.fE (ar B.box) S ef (by omega) rfl k.loose) B.uy ⟨rfl,ec,em,et,eg⟩ S⟩,B.kept S v⟩
 rintro W⟨bb,K1,C,D,E,F,B⟩;have k:=B.inv;obtain⟨es,ec,em,et,eg⟩:=B.same;subst es;apply(My [] B.box k hN).mono;rintro X u⟨rfl,s',w,m',a2,b2,c2,d2,ac,aa,A⟩;obtain⟨g1,g2,g3,g4,g5,g6⟩:=A.same;have S:=A.Bw;exact⟨rfl,⟨s',w,m',a2,b2,c2,d2,ac,aa,B.step A.box A.inv (λq=>by rw[S];exact(A.uy _ (.inr rfl) q).trans<|B.uy q) ⟨g1,g2.trans ec,g3.trans em,g4.trans et,g5.trans eg.1,g6.trans eg.2⟩ A.fE,A.tid⟩,B.kept A.fE v⟩
theorem Inv.laid{w:Z}{sbqq:M}{s:SR}{K:DK}{m:cI}{a b c d:cN}{C tbqq N:M}{lsqq:dJ}{r:gv}(h:Inv w sbqq s K m a b c d C tbqq N lsqq r):xz w s.aM K a b c d C tbqq N s.next s.log s.fa lsqq where
 aM:=h.st.aM
 oa:=h.oa
 pr:=h.pr
 lp:=h.lp
 qp:=by
  have k:y (jO s.aT m)<=y m:=aB (yZ _ _).length_le<|fP _ _;rw[h.mem]at k;have:=h.st.qp;omega
 oO:=h.st.oO
 s1:=h.st.s1
 s2:=h.st.s2
 s3:=h.st.s3
 Qt:=h.Qt
 nx:=h.nx
 bn:=by rw[<-h.Bw];exact h.bn
 dM:=h.dM
 AM:=h.oO
 steps:=h.st.lL.steps
 pow:=h.st.lL.pow
 eL:=h.st.lL.eL.aO
 lf:=h.st.lL.lf.aO
theorem xz.again{aa D:Z}{db w:M}{K j:DK}{a b c d:cN}{C tbqq N F E:M}{k:Bool}{lsqq:dJ}(h:xz aa db K a b c d C tbqq N F E k lsqq)(Q:cH D w j)(B:∀L,dB (vw j.files) L=dB (vw K.files) L)(T:y j.dM<=y K.dM)(X:Steps D)(V:Pow D)(O:¬j.aO w 1)(P:¬j.aO w 2):xz D w j a b c d C tbqq N F E k lsqq:={h with
 aM:=Q
 oa:=by
  have A:=h.oa;exact⟨λL O q=>A.names L O (by rw[<-B];exact q),by rw[B];exact A.state,λq=>by rw[B];exact A.log q,A.DJ,λQ P=>by rw[B];exact A.xY Q P,A.yS,A.low,A.lt,A.iH⟩
 dM:=aB T h.dM
 steps:=X
 pow:=V
 eL:=O
 lf:=P}
structure UQ(W:Z)(K:DK)(db sb:M)(s:SR)(k:M):Prop extends Aside W K db sb k where
 BK:s.oo≠H k
structure RR(W f:Z)(db sb:M)(s:SR)(K j:DK):Prop where
 ok:cH f db j
 ap:I (λk=>(K.aO db k\/k=sb)\/s.oo=H k) W f
 aO:∀k,j.aO db k->K.aO db k\/z (G W)<=k
def Xz(W:Z)(x:M):Prop:=∃h D B,W.heap[x]?=H (ay h D B)/\D≠265/\((∀L,Value.string L∉h.toList)\/∀E F,Value.int E F∉h.toList)/\∀q,Value.pointer (H<|R q 0)∈h.toList->∃k A w,W.heap[q]?=H (ay k A w)/\A≠265
section
variable{g W f:Z}{db sbqq x:M}{mem e:U}{i n:eT}{s s':SR}{K j:DK}{m u:cI}{a b c d a' b' c' d':cN}{C C' tbqq p N N':M}{lsqq o:dJ}{l t:kK}{S:eT}{v:ab}{ts:cN}{r:gv}
theorem gq.dm(h:gq W f db sbqq K j):RR W f db sbqq s K j:=⟨h.ok,h.ap.mono<|λ_ q=>.inl<|.inl q,h.aO⟩
theorem Aside.grow{q:M}(h:Aside W K db sbqq q)(k:z (G W)<=z (G f)):Aside f K db sbqq q:=⟨ah h.lt k,h.aO,h.ne⟩
theorem UQ.grow{q:M}(k:UQ W K db sbqq s q)(h:z (G W)<=z (G f)):UQ f K db sbqq s q:=⟨k.toAside.grow h,k.BK⟩
theorem UQ.Je{k:M}(h:UQ W K db sbqq s k)(q:RR W f db sbqq s K j)(w:∀k,s'.oo=H k->s.oo=H k):UQ f j db sbqq s' k:=⟨⟨ah h.lt q.ap.size,λc=>(q.aO k c).elim h.aO (λd=>by have:=h.lt;omega),h.ne⟩,λA=>h.BK<|w k A⟩
theorem UQ.off{k:M}(h:UQ W K db sbqq s k)(c:(K.aO db k\/k=sbqq)\/s.oo=H k):False:=c.elim (λc=>c.elim h.aO h.ne) h.BK
theorem UQ.block{k:M}(q:UQ W K db sbqq s k)(h:RR W f db sbqq s K j):f.heap[k]?=W.heap[k]?:=h.ap.block k q.lt q.off
end
theorem FN{S:eT}{V P:Z}{h an:M}{v:ab}{q:iF}(ht:I S V P)(hr:Row V h v an q)(hl:∀al,cz v=H al->al<z (G V))(E:0<y q->∀x,S x->∃B ao F,V.heap[x]?=H (ay B ao F)/\∃(ac:M)(T:ab),q[ac]?=H T/\T∉B.toList):Row P h v an q:=by
 obtain⟨O,⟨w,q0⟩|⟨Q,k,A,w,D,L⟩⟩:=hr;exact⟨O,.inl ⟨w,q0⟩⟩;refine⟨O,.inr ⟨Q,k,A,w,D,λad T hj=>?_⟩⟩;(have X:¬S Q:=by intro hs;(have aa:ad<y q:=by grind);obtain⟨B,ao,F,hx,ac,u',hi,hu⟩:=E (by omega) Q hs;have:=L ac u' hi;rw[bV hx]at this;grind);exact ht.cell (L ad T hj) X<|hl Q (by rw[w];rfl)
theorem Rl{m:cI}{k:Array ab}(h:(∀q,Value.string q∉k.toList)\/∀D F,Value.int D F∉k.toList)(w:0<y (aI m)):∃(B:M)(q:ab),(aI m)[B]?=H q/\q∉k.toList:=by
 rcases m with _|⟨A,m⟩;simp[aI]at w;rcases h with h|h;exact⟨0,am A.key,by simp[aI,E.cells],h _⟩;exact⟨3,aE A.bJ,by simp[aI,E.cells],h _ _⟩
theorem PP{ts:cN}{h:Array ab}(w:∀k∈ts,k.ptr∉h.toList)(q:0<y (ts.map bw.ptr)):∃(B:M)(A:ab),(ts.map bw.ptr)[B]?=H A/\A∉h.toList:=by
 rcases ts with _|⟨k,ts⟩;simp at q;exact⟨0,k.ptr,by simp,w k<|by simp⟩
theorem Mo{S:eT}{aa w':Z}{tbqq:M}{V:ab}{k cut q O:U}{D A h:M}{E:ab}{w:ml}(T:lB aa tbqq V k cut q O D A h E w)(ht:I S aa w')(hS:∀x,S x->Xz aa x):lB w' tbqq V k cut q O D A h E w:=by
 have F:¬S tbqq:=λB=>by obtain⟨cs,ad,fr,Q,h1,_⟩:=hS tbqq B;exact ld T.box Q (λw=>h1 w.symm) rfl
 have P:=T.ne;have X:(ez w)[3]?=H (am (w[0]'P).first):=by rcases w with _|⟨ac,w⟩;simp at P;simp[ez,pV.cells]
 have L:¬S D:=λB=>by obtain⟨cs,ad,fr,Q,_,B,_⟩:=hS D B;(have h0:(ez w)[0]?=H (aq (w[0]'P).pos):=by rcases w with _|⟨ac,w⟩;simp at P;simp[ez,pV.cells]);rcases B with B|B;(have:=T.cells 3 _ X;rw[bV Q]at this;grind);have:=T.cells 0 _ h0;rw[bV Q]at this;grind
 exact T.di (ht.block tbqq (ar T.box) F)<|ht.block D (cW _ _<|T.cells 3 _ X) L
section
variable{g W f:Z}{db sbqq x:M}{mem e:U}{i n:eT}{s s':SR}{K j:DK}{m u:cI}{a b c d a' b' c' d':cN}{C C' tbqq p N N':M}{lsqq o:dJ}{l t:kK}{S:eT}{v:ab}{ts:cN}{r:gv}
theorem GI.AL{L:Fs}(O:GI L W K db sbqq v ts)(w:I S W f)(P:∀x,S x->Xz W x):GI L f K db sbqq v ts where
 row:=FN w O.row (λaa A=>(O.loc aa A).lt) (λhj x hs=>by
  obtain⟨Q,ac,V,hx,_,_,hp⟩:=P x hs;exact⟨Q,ac,V,hx,PP (λE q c=>by
   obtain⟨F,k,h,B,_⟩:=(O.each E q).mem;obtain⟨T,t',X,hq,D⟩:=hp _ c;exact ld B.box hq (λh=>D h.symm) rfl) hj⟩)
 loc:=λaa A=>(O.loc aa A).grow w.size
 each:=λE q=>by
  obtain⟨⟨F,k,h,B,D⟩,Q,T,V,X,q6,q7,q8⟩:=O.each E q;exact⟨⟨F,k,h,Mo B w P,D.grow w.size⟩,Q.grow w.size,T,V,X,q6,q7,q8⟩
theorem Inv.AL(h:Inv W sbqq s K m a b c d C tbqq N lsqq r)(k:I S W f)(Q:∀x,S x->Aside W K s.aM sbqq x)(q:∀x,S x->Xz W x)(F:¬S 1/\¬S 2):Inv f sbqq s K m a b c d C tbqq N lsqq r:={h with
 st:={h.st with
  mem:=FN k h.st.mem (λB w=>(h.st.vp B w).lt) (λO x P=>by
   obtain⟨D,V,E,A,_,w,_⟩:=q x P;exact⟨D,V,E,A,Rl w O⟩)
  vp:=λB w=>(h.st.vp B w).grow k.size
  l0:=h.st.l0.AL k q
  l1:=h.st.l1.AL k q
  l2:=h.st.l2.AL k q
  l3:=h.st.l3.AL k q
  aM:=h.st.aM.ap k<|λB c L=>(Q B L).aO c
  lL:=⟨Steps.ap h.st.lL.steps k F.1,h.st.lL.pow.ap k F.2,h.st.lL.eL.grow k.size,h.st.lL.lf.grow k.size⟩}
 BK:=by
  obtain⟨b,O,B,P⟩:=h.BK.ex;refine⟨⟨b,O,B.di (k.block b B.lt (λL=>?_)),P.grow k.size⟩,h.BK.len⟩;obtain⟨D,V,E,A,_⟩:=q b L;obtain⟨X,w,T,_⟩:=B;rw[T]at A;cases A}
structure CW(g W:Z)(db sb:M)(mem nN:U)(i:eT)(s:SR)(K:DK)(m:cI)(a b c d:cN)(C tb N:M)(ls:dJ)(l:kK):Prop where
 EP:cf W sb s 0
 zi:s.closed=bj/\s.aM=db/\s.mem=mem/\s.nN=nN
 inv:Inv W sb s K m a b c d C tb N ls []
 tid:Aw s a b c
 sR:tj ((m::bY a b c d).map<|jO s.aT) l
 len:y l<=C
 ap:I az g W
 low:(∀k,K.aO db k->z (G g)<=k)/\z (G g)<=sb
 Hz:∀k,s.oo=H k->z (G g)<=k/\k<z (G W)
 cl:∀k,i k->UQ W K db sb s k/\z (G g)<=k
 g0:Steps g/\Pow g/\ou g
def yg(g W:Z)(db sbqq:M)(mem e:U)(i:eT)(C N:M)(l:kK):Prop:=∃s K m a b c d tbqq lsqq,CW g W db sbqq mem e i s K m a b c d C tbqq N lsqq l
def th(g:Z)(i:eT):eT:=λk=>z (G g)<=k/\¬i k
theorem CW.Fi(h:CW g W db sbqq mem e i s K m a b c d C tbqq N lsqq l):ou W:=h.g0.2.2.ap h.ap id
theorem CW.lL(h:CW g W db sbqq mem e i s K m a b c d C tbqq N lsqq l)(w:∀x,S x->z (G g)<=x):¬S 1/\¬S 2:=by
 have k:=h.g0.1.lt;have q:=h.g0.2.1.lt;grind
theorem CW.WX(h:CW g W db sbqq mem e i s K m a b c d C tbqq N lsqq l)(k:RR W f db sbqq s K j):I (th g i) W f:=k.ap.mono<|λw q=>.inl ⟨q.elim (λq=>q.elim (h.low.1 w) (λA=>by have:=h.low.2;omega))<|λA=>(h.Hz w A).1,λc=>(h.cl w c).1.off q⟩
theorem CW.Je(w:CW g W db sbqq mem e i s K m a b c d C tbqq N lsqq l)(B:RR W f db sbqq s K j)(h:∀k,s'.oo=H k->s.oo=H k)(E:cf f sbqq s' 0)(A:s'.closed=bj/\s'.aM=db/\s'.mem=mem/\s'.nN=e)(D:Inv f sbqq s' j u a' b' c' d' C' p N' o [])(O:Aw s' a' b' c')(F:tj ((u::bY a' b' c' d').map<|jO s'.aT) t)(L:y t<=C'):CW g f db sbqq mem e i s' j u a' b' c' d' C' p N' o t where
 EP:=E
 zi:=A
 inv:=D
 tid:=O
 sR:=F
 len:=L
 ap:=w.ap.trans B.ap<|λk q=>.inr<|q.elim (λq=>q.elim (w.low.1 k) (λh=>by have:=w.low.2;omega))<|λh=>(w.Hz k h).1
 low:=⟨λk q=>(B.aO k q).elim (w.low.1 k)<|λh=>aB w.ap.size h,w.low.2⟩
 Hz:=λk q=>⟨(w.Hz k<|h k q).1,ah (w.Hz k<|h k q).2 B.ap.size⟩
 cl:=λk q=>⟨(w.cl k q).1.Je B h,(w.cl k q).2⟩
 g0:=w.g0
theorem CW.nE(h:CW g W db sbqq mem e i s K m a b c d C tbqq N lsqq l)(A:I S W f)(w:∀x,S x->i x/\Xz W x)(E:∀k,n k->i k\/z (G W)<=k/\k<z (G f)):CW g f db sbqq mem e n s K m a b c d C tbqq N lsqq l where
 EP:=(A.block sbqq (ar h.EP)<|λq=>(h.cl sbqq (w sbqq q).1).1.ne rfl).trans h.EP
 zi:=h.zi
 inv:=by
  have D:=h.zi.2.1;subst D;exact h.inv.AL A (λx q=>(h.cl x (w x q).1).1.toAside) (λx q=>(w x q).2)<|h.lL<|λx q=>(h.cl x (w x q).1).2
 tid:=h.tid
 sR:=h.sR
 len:=h.len
 ap:=h.ap.trans A<|λk q=>.inr (h.cl k (w k q).1).2
 low:=h.low
 Hz:=λk q=>⟨(h.Hz k q).1,ah (h.Hz k q).2 A.size⟩
 cl:=λk q=>by
  have B:∀k,K.aO db k->k<z (G W):=by
   have D:=h.zi.2.1;subst D;exact h.inv.st.aM.lt
  rcases E k q with q|q
  .exact⟨(h.cl k q).1.grow A.size,(h.cl k q).2⟩
  .exact⟨⟨⟨q.2,λc=>by have:=B k c;omega,λD=>by have:=ar h.EP;omega⟩,λD=>by have:=(h.Hz k D).2;omega⟩,aB h.ap.size q.1⟩
 g0:=h.g0
theorem yg.nE(h:yg g W db sbqq mem e i C N l)(A:I S W f)(w:∀x,S x->i x/\Xz W x)(q:∀k,n k->i k\/z (G W)<=k/\k<z (G f)):yg g f db sbqq mem e n C N l:=by
 obtain⟨s,K,m,a,b,c,d,tbqq,lsqq,h⟩:=h;exact⟨s,K,m,a,b,c,d,tbqq,lsqq,h.nE A w q⟩
theorem yg.still(k:yg g W db sbqq mem e i C N l)(h:I az W f):yg g f db sbqq mem e i C N l:=k.nE h cC<|λ_ q=>.inl q
theorem yg.Fi(h:yg g W db sbqq mem e i C N l):ou W:=by
 obtain⟨s,K,m,a,b,c,d,tbqq,lsqq,h⟩:=h;exact h.Fi
theorem yg.ap(h:yg g W db sbqq mem e i C N l):I az g W:=by
 obtain⟨s,K,m,a,b,c,d,tbqq,lsqq,h⟩:=h;exact h.ap
theorem yg.mono(h:yg g W db sbqq mem e i C N l)(w:C<=C')(k:C'<=1000000)(A:N<=N')(q:N'<=100000000):yg g W db sbqq mem e i C' N' l:=by
 obtain⟨s,K,m,a,b,c,d,tbqq,lsqq,h⟩:=h;exact⟨s,K,m,a,b,c,d,tbqq,lsqq,{h with inv:=h.inv.mono w k A q,len:=aB h.len w}⟩
end
theorem FK{A:M}{k:dJ}{l:kK}{t:U}(r:PR A k)(v:tj (k.map<|jO t) l)(j n:ae)(i:U):Dn t j n i k=Cv l j n i:=by
 have p:∀w∈k.map (fO j),gJ w:=λw q=>by obtain⟨s,u,rfl⟩:=bM.1 q;exact(r.row s u).sub eS
 have o:jL (k.map<|fO j):=by unfold jL;rw[jX];exact r.oY.imp λ{w s}q n j i k x=>q n (dY.1 j).1 i (dY.1 k).1 x
 exact NX v (λk x q=>Vz q) j n i (mD (ny p o) t)<|VP r.row r.oY j t
theorem FJ(t:U)(j:ae):∀(i:cS (ab×cI)),(∀r∈i.map (·.2),gJ r)->vO t j i=ri ((i.map (·.2)).map<|jO t) j
 |[],_=>rfl
 |r::i,k=>by
  have o:=FJ t j i (λx n=>k x<|by grind);unfold vO ri at*;grind[Rg]
theorem Lc{w:M}{s:SR}{m:cI}{a b c d:cN}{l:kK}{v:U}(p:PR w (m::bY a b c d))(q:tj ((m::bY a b c d).map<|jO v) l)(k:ae):Nu k v (nU s m a b c d)=dd #[am (yY l k).1,aK (yY l k).2.1,pO (yY l k).2.2]:=by
 unfold Nu;by_cases j:1<=k.size/\k.size<=8;have o:yY l k=((lZ l k).1,(lZ l k).2,0):=eI (by omega);rw[dV j,o,FJ _ _ _ (by rw[qw];exact p.row),qw,Rw q k];unfold seen;rcases hq:ri ((m::bY a b c d).map<|jO v) k with _|x;rfl;(have r:x.Good:=by obtain⟨A,t,u⟩:=bB.1<|OH hq;obtain⟨n,i,rfl⟩:=bM.1 t;exact p.iH x<|bB.2 ⟨n,i,ze (p.row n i) u⟩);rcases hd:x.del with _|_;simp[VB,hd];rfl;simp[VB,hd,r.del hd];rfl;have o:yY l k=(⟨#[]⟩,bj,3):=dV (by omega);rw[eI j,o]
theorem FI(k v:ae)(l:kK):∀i:kK,l.foldl (fQ k v) (i,ci)=(i++l.filter (λp=>!decide (p.1=k)),ci):=by
 induction l with
 |nil=>intro i;simp
 |cons p l j=>
  grind[FF,FE]
theorem Sv(l:kK)(k v i:ae):ux l k v ci=ux l k i ci:=by
 unfold ux oq;rw[FI,FI];simp
theorem VJ{o:dJ}(n:U)(i:pS):∀{m:cI}{l:kK},vW m->tj (m::o) l->tj (gp m (i.map<|jl n)::o) (AC l i):=by
 induction i with
 |nil=>intro m l _ p;exact p
 |cons c i r=>
  intro m l k p;have j:=Ut k p<|jl n c;have q:ux l (jl n c).key (jl n c).val (jl n c).del=ux l c.key c.val c.del:=by
   unfold jl;grind[Sv]
  rw[q]at j;exact r (vW.gp k [jl n c]) j
def uf(j:kK)(i:pS):kK:=if fJ i=0 then AC j i else j
section
variable{f W g:Z}{db sbqq:M}{mem e:U}{h:eT}{s:SR}{K:DK}{m:cI}{a b c d:cN}{C tbqq N:M}{lsqq:dJ}{l:kK}
theorem RO(j:kK)(i:pS)(k:y j<=C):y (uf j i)<=C+mj i:=by
 unfold uf mj;by_cases q:fJ i=0;rw[dV q,dV q];have:=za j i;omega;grind
theorem EF{s:SR}{K:DK}{m:cI}{a b c d:cN}{tbqq:M}{lsqq:dJ}{n:gv}{p:kK}(j:Inv W sbqq s K m a b c d C tbqq N lsqq n)(t:tj ((m::bY a b c d).map<|jO s.aT) p)(i:pS):(zg (uf p i)/\∀k v,(k,v)∈uf p i↔yn n m (bY a b c d) ((s.aT:U)+1) i (zQ s.aT i) k=H v)/\∀A,A∈sC n->∀q,yn n m (bY a b c d) ((s.aT:U)+1) i A q=ft A (m::bY a b c d) q:=by
 unfold uf yn zQ;by_cases q:fJ i=0;rw[dV q,dV q,dV q];obtain⟨_,O,P⟩:=rl q;have D:=j.bn;have E:=j.oO;(have u:∀B∈i.map (jl<|(s.aT:U)+1),B.Good:=λB x=>by grind[Ep]);(have r:∀B∈i.map (jl<|(s.aT:U)+1),B.bJ=(s.aT:U)+1:=λB x=>by obtain⟨F,Q,rfl⟩:=bM.1 x;rfl);refine⟨?_,λA w k=>by rw[dV q];exact j.SX u r w k⟩;have o:=VJ ((s.aT:U)+1) i (mD j.row _) t;rcases i with _|⟨L,i⟩;refine⟨o.1,λk v=>?_⟩;rw[o.2 k v];show _↔ft s.aT (im n m []::bY a b c d) k=H v;rw[<-j.Bc (.inr rfl) k];rfl;refine⟨o.1,λk v=>?_⟩;rw[o.2 k v];show _↔ft ((s.aT+1:M):U) (im n m _::bY a b c d) k=H v;rw[show((s.aT+1:M):U)=(s.aT:U)+1 by omega,j.Ta u r k];rw[eI q,eI q,eI q];exact⟨t,λA w k=>by rw[eI q]⟩
theorem CW.read(i:CW f W s.aM sbqq mem e h s K m a b c d C tbqq N lsqq l)(p:LP W g sbqq s K m a b c d C):I (th f h) W g/\yg f g s.aM sbqq mem e h C N l:=by
 obtain⟨n,k,r,t,o,j⟩:=i.inv.reads (ar i.EP) p;exact⟨i.WX k.dm,s,n,m,a,b,c,d,tbqq,lsqq,i.Je k.dm (λ_ q=>q) o i.zi j i.tid i.sR i.len⟩
theorem CW.wrote{k t o:M}{j:kK}{u:U->ae->Option ae}(S:CW f W s.aM sbqq mem e h s K m a b c d C tbqq N lsqq l)(hP:vK W g sbqq s 0 K k t [] o u)(hl:y j<=k)(v:zg j/\∀r w,(r,w)∈j↔u o r=H w):I (th f h) W g/\yg f g s.aM sbqq mem e h k t j:=by
 obtain⟨s',x,m',A,B,D,E,p,n,i⟩:=hP;obtain⟨F,L,O,P,g5,Q⟩:=i.same;obtain⟨T,h2,V,X⟩:=S.zi;refine⟨S.WX i.fE.dm,s',x,m',A,B,D,E,p,n,S.Je i.fE.dm (λr q=>Q▸q) i.box ⟨L.trans T,F,O.trans V,P.trans X⟩ i.inv i.tid ⟨v.1,λr w=>?_⟩ hl⟩;rw[v.2 r w,<-i.uy o (.inr rfl) r,i.Bw];rfl
theorem Un(j:yg f W db sbqq mem e h C N l)(i:ae)(o:i.size<=140737488351232):cD aZ 17 #[aA sbqq,am i] W λk g=>k=aJ (dd #[am (yY l i).1,aK (yY l i).2.1,pO (yY l i).2.2])/\I (th f h) W g/\yg f g db sbqq mem e h C N l:=by
 obtain⟨s,K,m,a,b,c,d,tbqq,lsqq,j⟩:=j;have k:=j.zi.2.1;subst k;apply(TO i j.EP j.inv.st j.zi.1 o).mono;rintro k g⟨rfl,n⟩;refine⟨?_,j.read n⟩;rw[Lc j.inv.all j.sR]
theorem ON(j:yg f W db sbqq mem e h C N l)(o n:ae)(i:U):cD aZ 30 #[aA sbqq,am o,am n,aq i] W λq g=>∃k,q=aJ (dd #[k,.nilIface])/\OW W g k (Cv l o n i)/\I (th f h) W g/\yg f g db sbqq mem e h C N l:=by
 obtain⟨s,K,m,a,b,c,d,tbqq,lsqq,j⟩:=j;have q:=j.zi.2.1;subst q;apply(PB o n i j.EP j.inv.st j.zi.1).mono;rintro q g⟨k,rfl,p,r⟩;rw[FK j.inv.all j.sR]at p;exact⟨k,rfl,p,j.read r⟩
theorem Um(k:yg f W db sbqq mem e h C N l)(p:ab)(i:pS)(j:Bool)(n:Cz f p i)(v:∀x∈i,x.key.size<=140737488351232/\x.val.size<=140737488351232)(u:y i<=1000000000)(q:C+mj i<=1000000)(r:N+1<=100000000):cD aZ 15 #[aA sbqq,p,aK j] W λo g=>o=aJ (pO<|fJ i)/\I (th f h) W g/\yg f g db sbqq mem e h (C+mj i) (N+1) (uf l i):=by
 obtain⟨s,K,m,a,b,c,d,tbqq,lsqq,k⟩:=k;have o:=k.zi.2.1;subst o;apply(Mg [] j k.EP k.inv k.tid k.zi.1 (λi t=>n.ap (k.ap.trans t<|λw o=>.inr (by have:=k.low.2;have:w=sbqq:=o;omega))<|λ_ _=>id) v u q r).mono;rintro o g⟨rfl,t⟩;exact⟨rfl,k.wrote t (RO l i k.len) (EF k.inv k.sR i).1⟩
theorem NQ(i:yg f W db sbqq mem e h C N l)(u:N+1<=100000000):cD aZ 44 #[aA sbqq] W λn g=>n=aJ .nilIface/\I (th f h) W g/\yg f g db sbqq mem e h C (N+1) l:=by
 obtain⟨s,K,m,a,b,c,d,tbqq,lsqq,i⟩:=i;have n:=i.zi.2.1;subst n;apply(Fl [] i.EP i.inv i.tid i.zi.1 u).mono;rintro n g⟨rfl,x,o,w,p,q,r,t,k,j,v,_⟩;exact⟨rfl,i.wrote ⟨x,o,w,p,q,r,t,k,j,v⟩ i.len i.sR⟩
structure CL(f W:Z)(db:M)(mem nN:U)(h:eT)(K:DK)(a b c d:cN)(C tb N nx lg:M)(fa:Bool)(ls:dJ)(l:kK):Prop where
 laid:xz W db K a b c d C tb N nx lg fa ls
 tid:(((ls.map y).sum:M):U)<mem/\US nN a b c
 sR:tj (gp [] ls.flatten::(bY a b c d).map (jO ((tb+y ls:M):U))) l
 len:y l<=C
 ap:I az f W
 low:∀k,K.aO db k->z (G f)<=k
 cl:∀k,h k->¬K.aO db k/\z (G f)<=k/\k<z (G W)
 g0:Steps f/\Pow f/\ou f
def Mf(f W:Z)(db:M)(mem e:U)(h:eT)(C N:M)(l:kK):Prop:=∃K a b c d tbqq k j i lsqq,CL f W db mem e h K a b c d C tbqq N k j i lsqq l
theorem Mf.nE{S o:eT}(j:Mf f W db mem e h C N l)(p:I S W g)(r:∀x,S x->h x)(t:∀n,o n->h n\/z (G W)<=n/\n<z (G g)):Mf f g db mem e o C N l:=by
 obtain⟨K,a,b,c,d,tbqq,A,w,i,lsqq,j⟩:=j;have u:=j.g0.1.lt;have v:=j.g0.2.1.lt;have k:∀x,S x->z (G f)<=x:=λx q=>(j.cl x<|r x q).2.1;refine⟨K,a,b,c,d,tbqq,A,w,i,lsqq,{j.laid with aM:=j.laid.aM.ap p<|λn q B=>(j.cl n<|r n B).1 q,steps:=Steps.ap j.laid.steps p (λq=>by have:=k _ q;omega),pow:=j.laid.pow.ap p (λq=>by have:=k _ q;omega)},j.tid,j.sR,j.len,j.ap.trans p<|λn q=>.inr<|k n q,j.low,λn q=>?_,j.g0⟩;rcases t n q with q|q;exact⟨(j.cl n q).1,(j.cl n q).2.1,ah (j.cl n q).2.2 p.size⟩;exact⟨λc=>by have:=j.laid.aM.lt n c;omega,aB j.ap.size q.1,q.2⟩
theorem Mf.still(j:Mf f W db mem e h C N l)(i:I az W g):Mf f g db mem e h C N l:=j.nE i cC<|λ_ q=>.inl q
theorem Mf.Fi(j:Mf f W db mem e h C N l):ou W:=by
 obtain⟨K,a,b,c,d,tbqq,n,k,i,lsqq,j⟩:=j;exact j.g0.2.2.ap j.ap id
theorem Mf.ap(k:Mf f W db mem e h C N l):I az f W:=by
 obtain⟨K,a,b,c,d,tbqq,o,n,j,lsqq,k⟩:=k;exact k.ap
theorem Lr(j:yg f W db sbqq mem e h C N l):cD aZ 21 #[aA sbqq] W λt g=>t=aJ .nilIface/\I (th f h) W g/\Mf f g db mem e h C N l:=by
 obtain⟨s,K,m,a,b,c,d,tbqq,lsqq,j⟩:=j;have t:=j.zi.2.1;subst t;have i:=j.inv;have w:=j.lL (S:=λp=>p=sbqq) (λp t=>by have D:p=sbqq:=t;rw[D];exact j.low.2);have r:∀{v:ab}{B i:M}{j:iF},Row W i v B j->∃x B c,v=J x B c:=λq=>by grind[uA]
 refine(Ry j.EP j.zi.1 (r i.st.mem) (r i.st.l0.row) (r i.st.l1.row) (r i.st.l2.row) (r i.st.l3.row) i.st.aM i.st.yO i.st.lL.pow (λt=>w.2 t.symm) (by have:=i.oa.lt;have:=i.nx;have:=i.oO;omega) (λq=>⟨_,i.oa.log<|i.loose q,by have:=i.JJ.1;omega⟩) (by have:=i.dM;have:=i.oO;omega)).mono ?_;rintro t g⟨rfl,u,n,F,L,O⟩;have k:=i.laid;have v:xz g s.aM u a b c d C tbqq N s.next s.log s.fa lsqq:=k.again n.ok (λB=>by rw[F]) L (Steps.ap k.steps n.ap<|λq=>q.elim k.eL w.1) (k.pow.ap n.ap<|λq=>q.elim k.lf w.2) (λq=>(n.aO _ q).elim k.eL (λE=>by have:=k.steps.lt;omega))<|λq=>(n.aO _ q).elim k.lf (λE=>by have:=k.pow.lt;omega);have o:RR W g s.aM sbqq s K u:=n.dm;have x:=j.tid;have A:=j.sR;rw[cr,i.mem,i.Bw]at A;refine⟨rfl,j.WX o,u,a,b,c,d,tbqq,s.next,s.log,s.fa,lsqq,v,⟨?_,?_⟩,A,j.len,?_,λp q=>(n.aO p q).elim (j.low.1 p)<|λE=>aB j.ap.size E,λp q=>?_,j.g0⟩;rw[<-i.Rz,<-j.zi.2.2.1];exact x.1;rw[<-j.zi.2.2.2];exact x.2;exact j.ap.trans n.ap<|λp q=>.inr<|q.elim (j.low.1 p) (λt=>by have:=j.low.2;omega);have:=(j.cl p q).1.Je o (s':=s)<|λ_ q=>q;exact⟨this.aO,(j.cl p q).2,this.lt⟩
theorem IE(j:Mf f W db mem e h C N l)(T:1<=mem/\mem<=32/\2<=e/\e<=6)(Q:N+1<=100000000):cD aZ 10 #[aA db,dD #[aq mem,aq e]] W λo g=>o=aJ (dd #[aA<|z (G W)+2,.nilIface])/\z (G W)+4<=z (G g)/\I (th f h) W g/\yg f g db (z (G W)+2) mem e h C (N+1) l:=by
 obtain⟨K,a,b,c,d,tbqq,nx,lg,n,lsqq,j⟩:=j;have V:=j.ap.size;apply(Qc mem e j.laid T Q).mono;rintro o g⟨rfl,s,x,X,A,B,D,E,u,t,i,S⟩;obtain⟨F,L,O,P,e5,v⟩:=i.same;have r:∀k,(K.aO db k\/k=z (G W)+2)->th f h k\/z (G W)<=k:=λk q=>q.elim (λq=>.inl ⟨j.low k q,λc=>(j.cl k c).1 q⟩) (λo=>.inr<|by omega);have p:=i.size;refine⟨rfl,p,i.fE.ap.mono r,s,x,X,A,B,D,E,u,t,i.box,⟨L,F,O,P⟩,i.inv,S,?_,j.len,?_,⟨λk q=>(i.aO k q).elim (j.low k) (λq=>by omega),by omega⟩,λk q=>?_,λk q=>?_,j.g0⟩;refine⟨j.sR.1,λk aa=>?_⟩;rw[j.sR.2 k aa];have w:jO ((tbqq+y lsqq:M):U) (gp [] lsqq.flatten)=gp [] lsqq.flatten:=(qX j.laid.lp).2.2.1;have:=i.uy k;unfold ft at this;rw[this,cr,w];exact j.ap.trans i.fE.ap (λk q=>.inr<|q.elim (j.low k)<|λo=>by omega);rw[v]at q;cases q;constructor<;>omega;have w:=j.cl k q;exact⟨⟨⟨by omega,λc=>(i.aO k c).elim w.1 (λc=>by omega),by omega⟩,λo=>by rw[v]at o;cases o;omega⟩,w.2.1⟩
end
theorem TG:(prog.info? 52).map (λi=>(i.zero,i.size,i.bytes))=H (H aw,1,24):=by kernel_rfl
def RW(a:M)(bv c:ab)(b:iF):eT:=λk=>k=a\/cz bv=H k\/cz c=H k\/∃v∈b,cz v=H k
structure HB(n0:M)(W:Z)(a:M)(bv c:ab)(b:iF)(B:cS pS)(l:kK)(safe:U):Prop where
 box:W.heap[a]?=H (ay #[bv,aq safe,aK bj,c] 49 (0,0))
 own:W.ownsRow n0 52 1 bv (y b) b
 kind:Ft W bv
 len:y b=y B
 each:∀(i:M)v cs,b[i]?=H v->B[i]?=H cs->EO W v cs
 rI:∀v∈b,∀k,cz v=H k->n0<=k/\k<z (G W)/\k≠a/\cz bv≠H k
 pr:rJ W c l
 JZ:∀k,cz c=H k->n0<=k/\k<z (G W)/\k≠a/\cz bv≠H k
 sum:B.foldl AC []=l
 Xh:∀cs∈B,fJ cs=0
 Xi:cz bv≠H a
section
variable{n0 a:M}{W d:Z}{bv c:ab}{b:iF}{B:cS pS}{l:kK}{safe:U}{S:eT}
theorem HB.lt(h:HB n0 W a bv c b B l safe){k:M}(e:RW a bv c b k):k<z (G W):=by
 rcases e with rfl|q|q|⟨v,g,q⟩;exact ar h.box;exact(h.own.lt k q).2;exact(h.JZ k q).2.1;exact(h.rI v g k q).2.1
theorem HB.ap(h:HB n0 W a bv c b B l safe)(e:I S W d)(j:∀k,RW a bv c b k->¬S k):HB n0 d a bv c b B l safe where
 box:=(e.block a (ar h.box)<|j a<|.inl rfl).trans h.box
 own:=e.own h.own<|λk q=>j k<|.inr<|.inl q
 kind:=h.kind.ap e (λk q=>j k<|.inr<|.inl q)<|λk q=>(h.own.lt k q).2
 len:=h.len
 each:=λi v m g n=>e.row (h.each i v m g n)<|λk q=>⟨j k<|.inr<|.inr<|.inr ⟨v,ew g,q⟩,(h.rI v (ew g) k q).2.1⟩
 rI:=λv g k q=>⟨(h.rI v g k q).1,ah (h.rI v g k q).2.1 e.size,(h.rI v g k q).2.2⟩
 pr:=e.row h.pr<|λk q=>⟨j k<|.inr<|.inr<|.inl q,(h.JZ k q).2.1⟩
 JZ:=λk q=>⟨(h.JZ k q).1,ah (h.JZ k q).2.1 e.size,(h.JZ k q).2.2⟩
 sum:=h.sum
 Xh:=h.Xh
 Xi:=h.Xi
theorem HB.Zi(k:HB n0 W a bv c b B l safe){p:M}(g:p=a\/cz bv=H p):Xz W p:=by
 rcases g with rfl|g;obtain⟨r,o,j⟩:=aC k.own;have m:=k.box;have f:=k.pr.shape;rw[j]at m;refine⟨_,_,_,m,by decide,.inl λu q=>?_,λq i=>?_⟩;rcases f with rfl|⟨e,n,h,rfl⟩<;>simp at q;rcases f with rfl|⟨e,n,h,rfl⟩<;>simp at i;obtain⟨o,m⟩:=fR k.own g;have f:=k.kind _ _ _ _ g m;refine⟨_,_,_,m,by decide,.inl λu q=>?_,λq i=>?_⟩;rcases f _ q with⟨e,j⟩|⟨n,e,h,j⟩<;>cases j;rcases f _ i with⟨e,j⟩|⟨n,e,h,j⟩<;>cases j
end
theorem Gl{n0 a:M}{W:Z}{bv c:ab}{b:iF}{B:cS pS}{l:kK}{safe:U}(h:HB n0 W a bv c b B l safe)(cE:ab)(p:pS)(sf:Bool)(bs:Cz W cE p)(cs:fJ p=0)(hr:y l+y p<=1000000000)(hB:y B<=1000000000)(dc:n0<=z (G W)):cD aZ 43 #[aA a,cE,aK sf] W λD d=>D=aJ (dd #[])/\∃u g bh s,HB n0 d a u g (b++[bh]) (B++[p]) (AC l p) s/\I (λk=>k=a\/cz bv=H k) W d/\∀k,RW a u g (b++[bh]) k->RW a bv c b k\/z (G W)<=k:=by
 have cc:=Om (by omega) bs;have w:=Y h;clear h bs;go_in
 go_wp2_with fail
 apply cc.mono;rintro D E⟨v1,rfl,aF,bq⟩;have K:I az W E:=I.aQ bq;obtain⟨x1,c1,cw⟩:=aC aF;subst cw;have F:=w.ap K<|λ_ _=>id;have cp:=cellAt F.box 0 rfl;have cu:a<z (G E):=ar F.box;have cT:=K.size;have bd:y b=y B:=w.len;obtain⟨i0,ax,cB,ce,ch⟩:=cU TG;obtain⟨bm,cn,i⟩:=dz aF K F;clear aF K F cc bq;have aa:=i.Xi;have ac:=i.box
 go_wp2_with(first
  |(at_builtin;go_loud(refine yF _ rfl (.tmp 13) (.tmp 15) 47 rfl n0 52 i0 aw 1 24 underlying47 ax cB ce ch rfl (by decide) bv (y b) b rfl (aX i.own (ay #[J x1 (y p) c1] 52)) (R (z (G E)) 0) 1 1 [J x1 (y p) c1] rfl rfl (qD _ _ _) (by simp[Value.oneCell']) (by omega) (by omega) (by simp;omega) (by omega) (by intro ds hu;simp[Value.cells]at hu;subst hu;exact .inr ⟨_,_,_,rfl⟩) (by intro ds hu;simp at hu;subst hu;exact .inr ⟨_,_,_,rfl⟩) (i.kind.ap (cK az E) (λ_ _=>id) (λk q=>(i.own.lt k q).2)) ?_;intro u W3 aU bf bu;obtain⟨C,c3,cx⟩:=aC aU;subst cx;have bb:=I.fy bf;have e:=(bb.block a (by simp;omega) aa).trans (((cK az E).block a cu id).trans ac);have k0:=cellAt e 0 rfl;have k1:=cellAt e 1 rfl;have k3:=cellAt e 3 rfl;have f0:=cZ (i:=0) e;have f1:=cZ (i:=1) e;have f3:=cZ (i:=3) e;have ao:=Y aU;have au:=Y bf;have bl:=Y bu;have bp:=Y bb;clear aU bf bu bb)))
 obtain⟨v,r⟩:∃v,cA W3 (R a 0) (J C (y B+1) c3)=v:=⟨_,rfl⟩;rw[<-bd]at r;have m:cz (J C (y b+1) c3)≠H a:=λq=>by rcases au.uj with D|⟨cM,D,hg⟩;exact aa<|D▸q;rw[q]at D;cases D;simp at hg;omega
 have A:I (λk=>k=a\/cz bv=H k) E v:=by rw[<-r];exact(((cK az E).mono (T:=λk=>k=a\/cz bv=H k) cC).trans bp<|λ_ q=>.inl<|.inr q).trans (io W3 a 0 _)<|λ_ q=>.inl<|.inl q
 have bE:v.ownsRow n0 52 1 (J C (y b+1) c3) (y b+1) (b++[J x1 (y p) c1]):=by rw[<-r];exact(io W3 a 0 _).own ao<|λk hk o=>m (by rw[hk];grind)
 have bx:Ft v (J C (y b+1) c3):=by rw[<-r];exact bl.ap (io W3 a 0 _) (λk hk o=>m (by rw[hk];grind))<|λk hk=>(ao.lt k hk).2
 have ad:v.heap[a]?=H (ay #[J C (y b+1) c3,aq safe,aK bj,c] 49 (0,0)):=by rw[<-r];exact(aL e).trans rfl
 have an:∀k,cz (J C (y b+1) c3)=H k->cz bv=H k\/z (G E)<k:=λk q=>by rcases au.uj with D|⟨cM,D,hg⟩;exact .inl<|D▸q;rw[q]at D;cases D;simp at hg;exact .inr<|by omega
 have n:∀k,cz (J x1 (y p) c1)=H k->z (G W)<=k/\k<z (G E):=λk q=>bm.lt k q;have hW:a<z (G W):=ar w.box;have x:∀k,cz bv=H k->k<z (G W):=λk q=>(w.own.lt k q).2;have aV:rJ v c l:=A.row i.pr<|λk q=>⟨λo=>o.elim (i.JZ k q).2.2.1 (i.JZ k q).2.2.2,(i.JZ k q).2.1⟩;have av:EO v (J x1 (y p) c1) p:=A.row (dE bm)<|λk q=>⟨λo=>by have:=(n k q).1;exact o.elim (λo=>by omega) (λo=>by have:=x k o;omega),(n k q).2⟩;have cd:=A.size;have bt:=Uh p aV (λcM q=>ah (i.JZ cM q).2.1 cd) av (λcM q=>ah (n cM q).2 cd) (by omega);rw[<-bd,r];have t:=Y n;obtain⟨bn,cm,bi,bo,db,cl⟩:=kY bE bx ad A aV av;have HSub:=Y an;have bk:=Y x;clear r k0 k1 k3 f0 f1 f3 e ac bE bx ad A aV av an x n cp ao au bl bp;apply bt.mono;rintro D W5⟨g,rfl,ba,aD,bT,br⟩;have L:I az v W5:=I.aQ br;obtain⟨px,pn,pc,cv⟩:∃dn n o,g=J dn n o:=by rcases ba.shape with D|⟨Q,f,N,D⟩<;>exact⟨_,_,_,D⟩
 have j:=(L.block a (by omega) id).trans bi;have k1:=cellAt j 1 rfl;have k3:=cellAt j 3 rfl;have f1:=cZ (i:=1) j;have f3:=cZ (i:=3) j;have al:∀Q bg,Q.heap[a]?=H (ay #[J C (y b+1) c3,aq bg,aK bj,g] 49 (0,0))->I (λk=>k=a) W5 Q->∃u g bh s,HB n0 Q a u g (b++[bh]) (B++[p]) (AC l p) s/\I (λk=>k=a\/cz bv=H k) W Q/\∀k,RW a u g (b++[bh]) k->RW a bv c b k\/z (G W)<=k:=λQ bg co bc=>by have N:I (λk=>k=a) v Q:=(L.mono (T:=λk=>k=a) cC).trans bc<|λ_ q=>.inl q;have cj:I (λk=>k=a\/cz bv=H k) W Q:=((cn.mono (T:=λk=>k=a\/cz bv=H k) cC).trans bo<|λ_ q=>.inl q).trans N<|λ_ q=>.inl<|.inl q;have dk:=L.size;have dm:=bc.size;have ca:∀k,cz g=H k->cz c=H k\/z (G v)<=k:=λk q=>bT.elim (λD=>.inl<|D▸q)<|λD=>.inr<|D k q;have X:∀k,cz (J C (y b+1) c3)=H k->k<z (G v):=λk q=>(bn.lt k q).2;(have cb:∀k,cz g=H k->n0<=k/\k<z (G Q)/\k≠a/\cz (J C (y b+1) c3)≠H k:=λk q=>by have:=aD k q;rcases ca k q with q|q;have V:=w.JZ k q;exact⟨V.1,by omega,V.2.2.1,λo=>(HSub k o).elim V.2.2.2<|λo=>by omega⟩;exact⟨by omega,by omega,by omega,λo=>by have:=X k o;omega⟩);refine⟨J C (y b+1) c3,g,J x1 (y p) c1,bg,⟨co,by rw[ag];exact N.own bn<|λk q o=>m (by rw[q];grind),cm.ap N (λk q o=>m (by rw[q];grind)) X,by simp[bd],λck bh o f hc=>?_,λbh f k q=>?_,bc.row ba<|λk q=>⟨λo=>(cb k q).2.2.1 o,aD k q⟩,cb,by rw[fK,w.sum];rfl,λdn hx=>by rcases aG.1 hx with q|q;exact w.Xh dn q;simp at q;rw[q];exact cs,m⟩,cj,λk q=>?_⟩;by_cases hi:ck<y b;rw[gP hi]at f;rw[gP<|by omega]at hc;exact cj.row (w.each ck bh o f hc)<|λk q=>⟨λo=>by have:=(w.rI bh (ew f) k q).2.2;exact o.elim this.1 this.2,(w.rI bh (ew f) k q).2.1⟩;rw[eV<|by omega]at f hc;(have ax:ck-y b=0:=by rcases h0:ck-y b with _|dv;rfl;rw[h0]at f;simp at f);rw[ax]at f;rw[show ck-y B=0 by omega]at hc;simp at f hc;subst f hc;exact N.row cl<|λk q=>⟨λo=>by have:=(t k q).1;have:k=a:=o;omega,by have:=(t k q).2;omega⟩;rcases aG.1 f with f|f;have V:=w.rI bh f k q;exact⟨V.1,by omega,V.2.2.1,λo=>(HSub k o).elim V.2.2.2<|λo=>by omega⟩;simp at f;subst f;have V:=t k q;exact⟨by omega,by omega,by omega,λo=>(HSub k o).elim (λo=>by have:=bk k o;omega)<|λo=>by omega⟩;rcases q with q|q|q|⟨bh,f,q⟩;exact .inl<|.inl q;exact(HSub k q).elim (λq=>.inl<|.inr<|.inl q) (λq=>.inr<|by omega);exact(ca k q).elim (λq=>.inl<|.inr<|.inr<|.inl q) (λq=>.inr<|by omega);rcases aG.1 f with f|f;exact .inl<|.inr<|.inr<|.inr ⟨bh,f,q⟩;simp at f;subst f;exact .inr (t k q).1
 have P:=Y al;have O:=Y j;clear al ba aD bT br L bt j;subst cv;cases sf;(.go_wp2;go_end0;exact⟨rfl,P _ safe ((aL O).trans rfl)<|io _ _ _ _⟩);go_wp2;go_end0;exact⟨rfl,P _ _ ((aL<|aL O).trans rfl)<|(io _ _ _ _).trans (io _ _ _ _)<|λ_ q=>.inl q⟩
