import Derived.Test.YtceammfgahaodaaGreatDoorC3
import Derived.Test.YtceammfgahaodaaGreatDoorC4
import Derived.Test.YtceammfgahaodaaGreatDoorC5
open _root_ renaming List.length→z,Option.some→M,Array.size→G,Go.World.heap→H,Go.Value.ownBlock→bY,Go.World.cell?→aS,Go.World.setCell→ct,Go.World.alloc→cF,Bool.false→bF,Bool.true→bX,Nat→R,Int→Y,List→cD,Go.Calls→cA,Go.undef→iE,Go.Proofs.Tryz.prog→bG,Go.Value.slice→ah,Go.Value.string→aj,Go.Value.bool→aO,Go.Value.pointer→fA,Go.Value.tuple→dE,Go.Value.agg→eB
namespace Go.Proofs.YtceammfgahaodaaGreatDoor
open ChangeShapes WideShapes RowKit Proofs.Tryz
set_option maxHeartbeats 16000000
set_option linter.all false
set_option maxRecDepth 100000
variable{a f B:I}{b c g l y P:R}{d t L V:aa}{e:cK}{j N:DK}{k:dX}{o:eP}{X:fN}{v:ab}{x:jd}{A:mU}{F:iI}{T:Array aa}
def Dv{e cut f i:Y}(h:mh a b (fA none) e cut f i c g l d A):cA bG 139 #[aA b] a λm k=>m=aP (aO bF)/\k=a:=by
 have j:=cellAt h.box 0 rfl;clear h;go_in
 go_wp2;go_ret;exact⟨rfl,rfl⟩
def Cf(m:Addr){e cut f i:Y}(h:mh a b (fA<|M m) e cut f i c g l d A):cA bG 139 #[aA b] a λn k=>n=aP (aO bX)/\k=a:=by
 have j:=cellAt h.box 0 rfl;clear h;go_in
 go_wp2;go_ret;exact⟨rfl,rfl⟩
def EK(a cut b c:Y):aa:=eB #[aL a,dz cut,dz b,dz c]
def IN{c:Func}{p:Tmp}(m:c.results=#[.cell p 266])(a:Array aa)(w:I)(g:R)(e f h i:Y)(t:TypeId)(d:R×R)(l:a.getD p iE=aA g)(j:w.heap[g]?=M (aw #[aL e,dz f,dz h,dz i] t d)):(results c a).run bG w=.ok (EK e f h i) w:=by
 have b:a[p]?.getD iE=aA g:=by simpa using l
 have k:=lO (P:=bG) w g t 266 #[aL e,dz f,dz h,dz i] d _ j underlying266 rfl (by kernel_rfl);simp[results,m,b,asAddr,k,EK]
def Uw{e cut f i:Y}(h:mh a b d e cut f i c g l t A):cA bG 202 #[aA b] a λq p=>q=aP (EK e cut f i)/\Below (G<|H a) a p:=by
 have j:=cellAt h.box 1 rfl;have k:=cellAt h.box 2 rfl;have m:=cellAt h.box 3 rfl;have n:=cellAt h.box 4 rfl;have o:=am h.box;clear h;go_in
 go_wp2;refine cO (IN rfl _ _ (G<|H a) e cut f i _ _ rfl<|aE _ rfl) rfl ?_;exact⟨rfl,(Below.refl _ a).alloc (ai _) _⟩
def Cl(c:R)(n:aa)(u:R)(f:u<18446744073709551616)(cut d i:Y)(m e b:R)(g:aa)(q:mU)(h:mh a c n u cut d i m e b g q)(k:Pow a):cA bG 159 #[aA c] a λs r=>s=aP (aj<|gP u)/\Below (G<|H a) a r:=by
 have o:=cellAt h.box 1 rfl;have p:=Bl u f k;clear h k;go_in
 go_wp2_with(go_at_call 201;refine p.mono ?_;rintro s t⟨rfl,j⟩;have l:=Z j;clear j)
 go_ret;exact⟨rfl,l⟩
def SX{j cut n u:Y}(q i AS d:R)(o:rq)(h:mh a b (fA none) j cut n u c g l (bE q i AS d) A)(y:o.pos+o.size<=AS)(Q:AS<=d)(B:0<o.size)(S:AS<=1000000000000):cA bG 330 #[aA b,o.value] a λK F=>K=aP (dE #[bE q (i+o.pos) o.size (d-o.pos:R),.nilIface])/\Below (G<|H a) a F:=by
 obtain⟨pos,e,f,first,k⟩:=o;simp only at y B;unfold rq.value;simp only;have r:=am h.box;have m:Below (G<|H a) a (cF a<|aw #[aq pos,aq e,aq f,aj first,aj k] 347):=(Below.refl _ a).alloc (ai _) _;have t:=Dv<|h.below m h.lt.1 h.lt.2;have D:aS (cF a<|aw #[aq pos,aq e,aq f,aj first,aj k] 347) (U b 6)=M (bE q i AS d):=by rw[pY _ _ _ r,bL h.box];rfl
 have v:∀(x:Bool)(a:I),(Op.unary .not<|aO x).run bG a=.ok (aO<|!x) a:=λ_ _=>rfl;obtain⟨s,E⟩:∃s,pos+e=s:=⟨_,rfl⟩;have L:(pos:Y)+(e:Y)=(s:Y):=by omega
 have N:IntKind.i64.wrap (s:Y)=(s:Y):=by rw[bQ];omega
 have O:pos<s:=by omega
 have P:s<=AS:=by omega
 have p:=Z (show e=s-pos by omega);have w:=Z m;clear h m E;go_in
 go_wp2_with(go_at_call 139;refine t.mono ?_;rintro K T⟨rfl,rfl⟩)
 go_quiet(fail)
 go_wp2;go_ret2
 have x:=ae p;have C:=ae w;subst x;exact⟨rfl,below_drewN C _⟩
def J.of_heap{a b c:I}(h:J X a b)(j:(c.os,c.tape,c.output,c.heap)=(b.os,b.tape,b.output,b.heap)):J X a c:=by
 obtain⟨e,g,i,d⟩:c.os=b.os/\c.tape=b.tape/\c.output=b.output/\c.heap=b.heap:=by simpa using j
 exact⟨e.trans h.os,g.trans h.tape,i.trans h.output,by rw[d];exact h.size,λk b j=>by rw[d];exact h.block k b j⟩
def cg(S:fN)(w:I):J S w w.drew:=⟨rfl,rfl,rfl,ai _,λ_ _ _=>rfl⟩
def gX(S:fN)(w:I)(q:R):J S w (w.drewN q):=⟨rfl,rfl,rfl,ai _,λ_ _ _=>rfl⟩
def cU.Uo(h:cU a b j){t:TypeId}{k:R×R}(d:a.heap[c]?=M (aw T t k))(m:t≠73)(n:t≠261)(o:t≠302)(p:t≠129)(q:t≠5):¬j.bw b c:=by
 rintro(rfl|rfl|rfl|g|⟨x,r,g⟩|⟨s,i,rfl|g⟩);exact iA d h.iN m rfl;exact h.now.tag d rfl;exact h.safe.tag d rfl;obtain⟨e,f⟩:=fK h.steps g;exact iA d f n rfl;obtain⟨e,l,f⟩:=(h.each x r).2.2 c g;exact iA d f o rfl;exact iA d (h.files s i).1 p rfl;obtain⟨e,f⟩:=fK (h.files s i).2.1 g;exact iA d f q rfl
def Pt(an:g<18446744073709551616){cut v av:Y}(F:rq)(bc:dp)(h:mh a b (aA c) g cut v av l y P d A)(hd:cU a c j)(hg:rj j.files (gP g)=M bc)(hl:z bc.bytes<=1099511627776)(h1:F.pos+F.size<=z bc.bytes)(h3:0<F.size)(hp:Pow a):cA bG 330 #[aA b,F.value] a λbb r=>∃ba f i,bb=aP (dE #[bE ba f F.size i,.nilIface])/\F.size<=i/\Bytes r (bE ba f F.size i) ((bc.bytes.drop F.pos).take F.size)/\J (j.bw c) a r/\∃s,cU r c s/\s.files=j.files/\s.eU=j.eU/\∀F,s.bw c F->j.bw c F:=by
 obtain⟨pos,e,n,first,w⟩:=F;simp only at h1 h3;unfold rq.value;simp only;have bm:=am h.box;have o:Below (G<|H a) a (cF a<|aw #[aq pos,aq e,aq n,aj first,aj w] 347):=(Below.refl _ a).alloc (ai _) _;have k:=h.below o h.lt.1 h.lt.2;have ao:=Cf (U c 0) k;have bi:∀(bk:Bool)(a:I),(Op.unary .not<|aO bk).run bG a=.ok (aO<|!bk) a:=λ_ _=>rfl;have L:=cellAt k.box 0 rfl;obtain⟨m,t⟩:∃m,m=cF a (aw #[aq pos,aq e,aq n,aj first,aj w] 347):=⟨_,rfl⟩;have x:Ce m (G<|H a) ⟨pos,e,n,first,w⟩:=by rw[t];exact aE _ rfl
 have au:G (H m)=G (H a)+1:=by rw[t];simp
 have D:b<G (H m):=by omega
 rw[<-t]at o k ao L;have X:aS m (U (G<|H a) 0)=M (aq pos):=x.cells.1;have ac:aS m (U (G<|H a) 1)=M (aq e):=x.cells.2.1;have W:Pow m:=hp.ay (S:=az) (J.aV o)<|λQ=>Q;have V:cU m c j:=hd.ay (S:=az) (J.aV o)<|λ_ _ Q=>Q;have HN:=Z (show∀ax,ax.heap=m.heap->cA bG 159 #[aA b] ax λbb r=>bb=aP (aj<|gP g)/\Below (G<|H ax) ax r fromλax O=>Cl b (aA c) g an cut v av l y P d A ⟨by rw[O];exact k.box,λj bk e=>by rw[cP (w:=m)<|by rw[O]];exact k.cells j bk e,k.ne,k.le,k.small⟩<|W.dq<|by rw[O]);have al:¬j.bw c b:=hd.Uo h.box (by decide) (by decide) (by decide) (by decide) (by decide);have N:¬j.bw c (G<|H a):=λQ=>by have:=hd.lt _ Q;omega
 have HR:=Z (show∀ax,Below (G<|H m.drew) m.drew ax->cA bG 154 #[aA c,aj<|gP g,aq pos,aq e] ax λbb r=>∃ba f i,bb=aP (dE #[bE ba f e i,.nilIface])/\(aS r (U b 0)=M (aA c)/\aS r (U (G<|H a) 0)=M (aq pos)/\aS r (U (G<|H a) 1)=M (aq e))/\(e<=i/\Bytes r (bE ba f e i) ((bc.bytes.drop pos).take e)/\J (j.bw c) a r/\∃s,cU r c s/\s.files=j.files/\s.eU=j.eU/\∀F,s.bw c F->j.bw c F)fromλax bg=>by
  have O:J az m ax:=(cg _ m).cw<|J.aV (S:=az) bg;have bf:=V.ay O<|λ_ _ Q=>Q;apply(Bu (gP g) bc pos e bf hg hl (by omega)<|by omega).mono;rintro bb r⟨v',rfl,ho,s,C,e1,e2,e3⟩;have q:z ((bc.bytes.drop pos).take e)=e:=by simp;omega
  have K:=ho.bytes;have B:J (j.bw c) m r:=(O.mono (T:=j.bw c) cN).trans C.ay<|λ_ Q=>.inl Q;rcases K.shape with⟨_,h0⟩|⟨ba,f,i,rfl,ad⟩
  .rw[h0]at q;simp at q;omega
  .rw[q]at ad K;exact⟨ba,f,i,by rw[q],⟨B.cell L al D,B.cell X N (by omega),B.cell ac N (by omega)⟩,ad,K,(J.aV (S:=j.bw c) o).trans B (λ_ Q=>.inl Q),s,C.ok,e1,e2,e3⟩)
 obtain⟨HB,HW,HZ,bl⟩:=gD o t au x;have E:G (H a)<G (H m):=by omega
 clear h o hd hg hl h1 hp k W V x au t al N;go_in
 go_wp2_with(go_at_call 139;rw[<-(ae HW)];refine ao.mono ?_;rintro bb w1⟨rfl,bh⟩;subst bh)
 go_region_held3(λd=>aS d (U b 0)=M (aA c)/\aS d (U (G<|H a) 0)=M (aq pos)/\aS d (U (G<|H a) 1)=M (aq e)) (first|assumption|go_keep) (first
  |(go_at_call 159;go_loud(refine(HN w1.drew rfl).mono ?_;rintro bb w2⟨rfl,u⟩;have bn:aS w2 (U b 0)=M (aA c)/\aS w2 (U (G<|H a) 0)=M (.int .i64 pos)/\aS w2 (U (G<|H a) 1)=M (.int .i64 e):=⟨(u.cell (p:=(U b 0)) D).trans (by rw[bD];exact L),(u.cell (p:=(U (G<|H a) 0)) E).trans (by rw[bD];exact X),(u.cell (p:=(U (G<|H a) 1)) E).trans (by rw[bD];exact ac)⟩;have bd:=Z u;clear u))
  |(go_at_call 154;go_loud(refine(HR w2 bd).mono ?_;rintro bb w3⟨ba,f,i,rfl,bo,r1⟩;have R1:=Z r1;clear r1)))
 go_wp2;go_ret2
 exact⟨ba,f,i,rfl,R1⟩
def dL(a:dX):eP:=(a.map<|λc=>iJ<|fM c).flatten
def gC(a:eP):z (iJ a)=z a+4:=by simp[iJ,cq]
def pt(c:cK)(a:dX):dL (c::a)=iJ (fM c)++dL a:=by simp[dL]
def JJ(b a:dX):dL (b++a)=dL b++dL a:=by simp[dL]
def CL(a:dX)(i:R)(h:i<z a):dL a=dL (a.take i)++(iJ (fM a[i])++dL (a.drop<|i+1)):=by
 conv=>lhs;rw[<-ci i a,bH h]
 rw[JJ,pt]
def Fq(a:dX)(b:eP)(i:R)(h:i<z a):((dL a++b).drop<|z<|dL<|a.take i).take (z (fM a[i])+4)=iJ (fM a[i]):=by
 rw[CL a i h,aW,sR,aW,<-gC,qd]
def JI(a:dX)(i:R)(h:i<z a):z (dL<|a.take i)+(z (fM a[i])+4)<=z (dL a):=by
 rw[CL a i h];simp[gC]
structure tQ(ks:mU)(cs:dX):Prop where
 len:z ks=z cs
 ne:0<z cs
 Ew:∀i(hi:i<z ks)(hc:i<z cs),ks[i].Of cs[i]
 pos:∀i(hi:i<z ks),ks[i].pos=z (dL<|cs.take i)
 jb:∀c∈cs,∀x∈c,x.Good
 mr:dS cs.flatten
 Dh:cs.Pairwise gZ
 small:∀c∈cs,z c<=1000
def Bytes.same{V:jr}{n0:R}{S:fN}(h:Bytes a d o)(i:jL V n0 S a f)(j:∀k,bY d=M k->k<n0/\¬V.F k):Bytes f d o:=by
 rcases h with⟨rfl,rfl⟩|⟨l,b,c,rfl,e,g⟩;exact .inl ⟨rfl,rfl⟩;exact .inr ⟨l,b,c,rfl,e,λk h=>i.cell (.inr<|j l rfl)<|g k h⟩
def nZ.XU(V:jr)(r e:R)(i cut m B:Y)(t o g j b a:R)(h:mU)(d:dX)(O:I)(F:mh O e (fA none) i cut m B t o g (bE j b (z<|dL d) a) h)(k:tQ h d)(T:Bytes O (bE j b (z<|dL d) a) (dL d))(w:z (dL d)<=a)(y:z (dL d)<=1000000000000)(C:e<r/\¬V.F e)(D:t<r/\¬V.F t)(P:j<r/\¬V.F j)(A:Steps O)(x:1<r/\¬V.F 1):nZ V r e h d O where
 mem:=⟨_,_,_,_,_,_,_,_,_,F,C,D⟩
 len:=k.len
 Ew:=k.Ew
 jb:=k.jb
 mr:=k.mr
 Dh:=k.Dh
 small:=k.small
 steps:=A
 Ae:=x
 bytes:=by
  intro s E u ad K Q;have N:=k.Ew s E u;have c:=k.pos s E;have l:=JI d s u;refine(SX j b (z<|dL d) a h[s] (F.same K C D) (by rw[c,N.size];exact l) w (by rw[N.size];omega) y).mono ?_;rintro ac W'⟨rfl,f⟩;refine⟨j,b+h[s].pos,a-h[s].pos,rfl,by rw[c,N.size];omega,?_,V.fq Q (J.aV (S:=az) f) cN,J.aV f⟩;have p:Bytes ad (bE j b (z<|dL d) a) (dL d):=T.same K (λal v=>by cases v;exact P);have W:=p.BR (n:=h[s].pos) (by rw[c];omega);have L:=Bytes.take (bs:=(dL d).drop h[s].pos) (n:=h[s].size) (by simpa using W) (by simp;rw[c,N.size];omega);have q:=Fq d [] s u;rw[dO,<-c,<-N.size]at q;rw[q]at L;refine L.below f<|λal v=>?_;cases v;have X:=p.lt (bs:=dL d) (by intro ac;rw[ac]at l;simp at l) j rfl;exact X
def AT(c:R)(f:cD dp)(eU:cD (aa×cD Mv))(F:fN):jr where
 D W:=(∀k,F k->k<G (H W))/\∃K,cU W c K/\K.files=f/\K.eU=eU/\∀k,K.bw c k->F k
 F:=F
 fq:=by
  rintro w l S⟨b,K,g,h,i,d⟩e j;exact⟨λk a=>ag (b k a) e.size,K,g.ay e<|λk a c=>j k c<|d k a,h,i,d⟩
 lt:=by
  rintro w k⟨b,_⟩a;exact b k a
def nZ.PT(D:R)(L:cD dp)(eU:cD (aa×cD Mv))(F:fN)(m a an:R)(hu:an<18446744073709551616)(cut f B:Y)(o h b:R)(q:aa)(n:mU)(i:dX)(X:dp)(e:eP)(ac:I)(S:mh ac a (aA D) an cut f B o h b q n)(c:tQ n i)(hf:rj L (gP an)=M X)(k:X.bytes=dL i++e)(t:z X.bytes<=1099511627776)(N:a<m/\¬F a)(O:o<m/\¬F o)(A:Steps ac)(y:1<m/\¬F 1)(x:Pow ac)(w:2<m/\¬F 2):nZ (AT D L eU F) m a n i ac where
 mem:=⟨_,_,_,_,_,_,_,_,_,S,N,O⟩
 len:=c.len
 Ew:=c.Ew
 jb:=c.jb
 mr:=c.mr
 Dh:=c.Dh
 small:=c.small
 steps:=A
 Ae:=y
 bytes:=by
  rintro W Q s av T⟨v,au,hK,E,e2,K⟩;have al:=c.Ew W Q s;have d:=c.pos W Q;have ad:=JI i W s;refine(Pt hu n[W] X (S.same T N O) hK (by rw[E];exact hf) t (by rw[d,al.size,k,af];omega) (by rw[al.size];omega)<|x.dq<|T.2 _<|.inl w).mono ?_;rintro ax W'⟨ao,g,p,rfl,u,P,V,K',r,f1,f2,f3⟩;refine⟨ao,g,p,rfl,u,?_,⟨λC l=>ag (v C l) V.size,K',r,f1.trans E,f2.trans e2,λC l=>K C<|f3 C l⟩,V.mono<|λC l=>.inl<|K C l⟩;have j:=Fq i e W s;rw[<-d,<-al.size,<-k]at j;rw[j]at P;exact P
def Sh:(prog.info? 347).map (λi=>(i.zero,i.size,i.bytes))=M (M<|eB #[aq 0,aq 0,aq 0,aj ⟨#[]⟩,aj ⟨#[]⟩],5,56):=by kernel_rfl
def Pr(w:I)(x a b u v:aa)(t:TypeId):∀j q,[x,a,b,u,v][j]?=M q->aS (cF w<|aw #[x,a,b,u,v] t) (((U (G<|H w) 0):Addr).add j)=M q:=by
 intro j q c;rw[dB];unfold World.cell?;rw[fG];simpa using c
def J.fH(h:eY a f d t):J (λk=>bY d=M k) a f:=J.dR h.grown<|λ_ e=>.inl e
def er.ay{w w':I}{b:R}{t:TypeId}{S:fN}(h:er w b d t)(c:J S w w')(a:¬S b):er w' b d t:=(c.block b (am h) a).trans h
def rH(w:I)(b i:R)(u:aa):J (λk=>k=b) w (ct w (U b i) u):=(J.refl (λk=>k=b) w).setCell b i u<|.inl rfl
structure mf(W:I)(base bl bd bp bk bf bt:R)(lv dv pv kv:aa)(fr to:R)(ds ps:eP)(ks:mU):Prop where
 l:er W bl lv 102
 d:er W bd dv 126
 p:er W bp pv 126
 k:er W bk kv 289
 f:er W bf (aq fr) 3
 t:er W bt (aq to) 3
 od:eQ W base dv ds
 op:eQ W base pv ps
 ok:W.ownsRow base 347 5 kv (z ks) (eD ks)
 ne:∀x,bY dv=M x->bY pv≠M x
 ord:bl<bd/\bd<bp/\bp<bk/\bk<bf/\bf<bt/\bt<base
 size:base<=G (H W)
def Fy(a:mU)(k:rq):eD (a++[k])=eD a++k.cells:=by simp[eD]
def mf.kh{e j h k bk i l:R}{n:eP}(m:mf a e j h k bk i l d t L V b c o n A)(p:g<e):¬(bY t=M g)/\¬(bY L=M g)/\¬(bY V=M g):=⟨λf=>by have:=(m.od.lt g f).1;omega,λf=>by have:=(m.op.lt g f).1;omega,λf=>by have:=(aI m.ok g f).1;omega⟩
def kK(h:a.ownsRow b c g d l x)(f:y<b):(ct a (U y P) t).ownsRow b c g d l x:=(rH a y P t).own h (λk e i=>by have:=(aI h k e).1;omega)
def mf.kd{e m k n bk l p:R}{r:eP}(j:mf a e m k n bk l p d t L V b c o r A):(∀x,bY V=M x->bY t≠M x)/\(∀x,bY V=M x->bY L≠M x):=by
 constructor;intro x q g;obtain⟨c1,h⟩:=fK j.ok q;obtain⟨c2,i⟩:=fK j.od g;exact iA h i (by decide) rfl;intro x q g;obtain⟨c1,h⟩:=fK j.ok q;obtain⟨c2,i⟩:=fK j.op g;exact iA h i (by decide) rfl
def mf.piece{e o m j bk n p:R}{g:aa}{q x ps1:eP}(h:mf a e o m j bk n p d t L V b c q x A)(i:J (λr=>bY L=M r) a f)(w:bY g=bY L\/∃u,bY g=M u/\G (H a)<=u)(v:eQ f e g ps1):mf (ct f (U j 0) g) e o m j bk n p d t g V b c q ps1 A:=by
 have B:=h.ord;refine⟨(h.l.ay i (h.kh<|by omega).2.1).other _ (by omega),(h.d.ay i (h.kh<|by omega).2.1).other _ (by omega),(h.p.ay i (h.kh<|by omega).2.1).set _,(h.k.ay i (h.kh<|by omega).2.1).other _ (by omega),(h.f.ay i (h.kh<|by omega).2.1).other _ (by omega),(h.t.ay i (h.kh<|by omega).2.1).other _ (by omega),kK (i.own h.od<|λr l=>h.ne r l) (by omega),kK v (by omega),kK (i.own h.ok<|λr l=>h.kd.2 r l) (by omega),λC l k=>?_,B,by rw[gE];exact aF h.size i.size⟩;rcases w with s|⟨u,s,y⟩;exact h.ne C l<|s▸k;rw[s]at k;cases k;have:=(h.od.lt _ l).2;omega
def mf.blocks{e m k n bk l p:R}{i:aa}{r:eP}{v ks1:mU}(h:mf a e m k n bk l p d t L V b c o r v)(g:J (λq=>bY V=M q) a f)(u:f.ownsRow e 347 5 i (z ks1) (eD ks1)):mf (ct f (U bk 0) i) e m k n bk l p d t L i b c o r ks1:=by
 have w:=h.ord;exact⟨(h.l.ay g (h.kh<|by omega).2.2).other _ (by omega),(h.d.ay g (h.kh<|by omega).2.2).other _ (by omega),(h.p.ay g (h.kh<|by omega).2.2).other _ (by omega),(h.k.ay g (h.kh<|by omega).2.2).set _,(h.f.ay g (h.kh<|by omega).2.2).other _ (by omega),(h.t.ay g (h.kh<|by omega).2.2).other _ (by omega),kK (g.own h.od<|λq s j=>h.kd.1 q j s) (by omega),kK (g.own h.op<|λq s j=>h.kd.2 q j s) (by omega),kK u (by omega),h.ne,w,by rw[gE];exact aF h.size g.size⟩
def mf.data{e n k o bk m p:R}{g:aa}{u ds1 r:eP}(h:mf a e n k o bk m p d t L V b c u r A)(i:J (λq=>bY t=M q) a B)(x:bY g=bY t\/∃v,bY g=M v/\G (H a)<=v)(w:eQ B e g ds1):mf (ct B (U k 0) g) e n k o bk m p d g L V b c ds1 r A:=by
 have C:=h.ord;refine⟨(h.l.ay i (h.kh<|by omega).1).other _ (by omega),(h.d.ay i (h.kh<|by omega).1).set _,(h.p.ay i (h.kh<|by omega).1).other _ (by omega),(h.k.ay i (h.kh<|by omega).1).other _ (by omega),(h.f.ay i (h.kh<|by omega).1).other _ (by omega),(h.t.ay i (h.kh<|by omega).1).other _ (by omega),kK w (by omega),kK (i.own h.op<|λq l j=>h.ne q j l) (by omega),kK (i.own h.ok<|λq l=>h.kd.1 q l) (by omega),λD l j=>?_,C,by rw[gE];exact aF h.size i.size⟩;rcases x with s|⟨v,s,y⟩;exact h.ne D (s▸l) j;rw[s]at l;cases l;have:=(h.op.lt _ j).2;omega
def mf.fin{e j i g bk f k:R}{l:eP}(h:mf a e j i g bk f k d t L V b c o l A):mf (ct (ct a (U g 0) aG) (U f 0)<|aq c) e j i g bk f k d t aG V c c o [] A:=by
 have n:=h.ord;exact⟨(h.l.other _<|by omega).other _ (by omega),(h.d.other _<|by omega).other _ (by omega),(h.p.set _).other _ (by omega),(h.k.other _<|by omega).other _ (by omega),(h.f.other _<|by omega).set _,(h.t.other _<|by omega).other _ (by omega),kK (kK h.od<|by omega) (by omega),eQ.nil _ _,kK (kK h.ok<|by omega) (by omega),(λx _ m=>by cases m),n,by rw[gE,gE];exact h.size⟩
def mf.Zl{e j i g bk f k:R}{l:eP}(h:mf a e j i g bk f k d t L V b c o l A):mf (ct (ct a (U f 0)<|aq c) (U g 0) aG) e j i g bk f k d t aG V c c o [] A:=by
 have n:=h.ord;exact⟨(h.l.other _<|by omega).other _ (by omega),(h.d.other _<|by omega).other _ (by omega),(h.p.other _<|by omega).set _,(h.k.other _<|by omega).other _ (by omega),(h.f.set _).other _ (by omega),(h.t.other _<|by omega).other _ (by omega),kK (kK h.od<|by omega) (by omega),eQ.nil _ _,kK (kK h.ok<|by omega) (by omega),(λx _ m=>by cases m),n,by rw[gE,gE];exact h.size⟩
def mf.at{e m k n bk l j:R}{q:eP}(h:mf a e m k n bk l j d t L V c g o q A)(r:R):mf (ct a (U j 0)<|aq r) e m k n bk l j d t L V c r o q A:=by
 have s:=h.ord;exact⟨h.l.other _ (by omega),h.d.other _ (by omega),h.p.other _ (by omega),h.k.other _ (by omega),h.f.other _ (by omega),h.t.set _,kK h.od (by omega),kK h.op (by omega),kK h.ok (by omega),h.ne,s,by rw[gE];exact h.size⟩
def uL(a b:R)(c e d:aa)(x:R):Prop:=(a<=x/\x<=b)\/bY c=M x\/bY e=M x\/bY d=M x
def mf.low{e f j l bk k h:R}{m:eP}(i:mf a e f j l bk k h d t L V b c o m A):∀x,uL f h t L V x->f<=x:=by
 have n:=i.ord;rintro x(⟨g,_⟩|g|g|g);exact g;have:=(i.od.lt x g).1;omega;have:=(i.op.lt x g).1;omega;have:=(aI i.ok x g).1;omega
def mf.ay{W w':I}{a l j m bk k n:R}{q:eP}(h:mf W a l j m bk k n d t L V c g o q A)(e:J az W w'):mf w' a l j m bk k n d t L V c g o q A:=⟨h.l.ay e id,h.d.ay e id,h.p.ay e id,h.k.ay e id,h.f.ay e id,h.t.ay e id,e.own h.od<|λ_ _ p=>p,e.own h.op<|λ_ _ p=>p,e.own h.ok<|λ_ _ p=>p,h.ne,h.ord,aF h.size e.size⟩
def mf.Yw{e l n q bk p m:R}{r:eP}(i:mf a e l n q bk p m d t L V b c o r A)(g:J X a f)(h:∀k,uL l m t L V k->¬X k):mf f e l n q bk p m d t L V b c o r A:=by
 have j:=i.ord;exact⟨i.l.ay g<|h _<|.inl ⟨by omega,by omega⟩,i.d.ay g<|h _<|.inl ⟨by omega,by omega⟩,i.p.ay g<|h _<|.inl ⟨by omega,by omega⟩,i.k.ay g<|h _<|.inl ⟨by omega,by omega⟩,i.f.ay g<|h _<|.inl ⟨by omega,by omega⟩,i.t.ay g<|h _<|.inl ⟨by omega,by omega⟩,g.own i.od<|λk j=>h k<|.inr<|.inl j,g.own i.op<|λk j=>h k<|.inr<|.inr<|.inl j,g.own i.ok<|λk j=>h k<|.inr<|.inr<|.inr j,i.ne,i.ord,aF i.size g.size⟩
def mf.vt{e g j l bk k h:R}{m:eP}(i:mf a e g j l bk k h d t L V b c o m A):∀x,uL g h t L V x->x<G (H a):=by
 have p:=i.ord;have n:=i.size;rintro x(⟨_,f⟩|f|f|f);omega;exact(i.od.lt x f).2;exact(i.op.lt x f).2;exact(aI i.ok x f).2
def J.low(j:J X a f)(h:∀x,X x->b<=x)(k:c<b)(e:aS a (U c g)=M d):aS f (U c g)=M d:=j.cell e (λi=>by have:=h c i;omega)<|dj a (U c g) e
def kL{P:Program}{x:Oper}{w:Act}{X:Act->I->Prop}{ao:Exit->Act->I->Prop}(al an:Operand)(y:TypeId)(o:x.op=Op.call {callee:=Callee.builtin Builtin.append,args:=#[al,an],argTypes:=#[y,y]})(b:R)(t:TypeId)(u:TypeInfo)(i:aa)(c bytes:R)(S:P.underlying y=M (.slice t))(L:P.info? t=M u)(W:u.zero=M i)(h:u.size=c)(n:u.bytes=bytes)(q:i.cells.size=c)(p:0<c)(B:aa)(v:R)(r:jd)(Q:w.eval al=B)(j:a.ownsRow b t c B v r)(m:Addr)(s ac:R)(d:jd)(V:w.eval an=ah (M m) s ac)(N:z d=s*c)(g:∀ad A,d[ad]?=M A->aS a (m.add ad)=M A)(C:∀A∈d,A.oneCell'=bX)(hn:v+s<=140737488355328)(e:(v+s)*bytes<=140737488355328)(f:b<=G (H a))(K:∀k l,l.ownsRow b t c k (v+s) (r++d)->eY a l B k->X (w.put x.dst k) l):Oper.wp P x w a X ao:=by
 obtain⟨k,l,O,D,E,_,F⟩:=nB (P:=P) a b y x.type t u i c bytes S L W h n q p B v r j m s ac d N g C (by unfold maxLen;omega) e f;unfold Oper.wp;simp[execOp,o,resolve,invoke,builtin,Q,V,O,Result.andThen];exact K k l D<|eY.of E F
def tJ(h:Bytes a (bE b c g l) o):∀j u,(o.map<|Value.int .u8)[j]?=M u->aS a (((U b c):Addr).add j)=M u:=by
 intro j u e;rw[dB];rcases h with⟨h,_⟩|⟨p,k,f,h,_,n⟩;cases h;cases h;(have d:j<z o:=by rcases dK j (z o)with m|m;exact m;rw[dy<|by simpa using m]at e;cases e);have i:=n j d;rw[dD,aK d]at e;rw[aK d]at i;cases e;exact i
def WV{f C D q bk K u:R}(al e w bn:R)(t1:R){j:eP}(kf kl:ab)(h:mf a f C D q bk K u (bE al e bn w) d t L b c o j A)(hT:Steps a)(hg:al<C)(c0:aS a (U al<|e+b*4)=M (aj kf))(c1:aS a (U al<|e+t1*4)=M (aj kl))(ec:b<bn)(ei:t1<bn)(cE:c=t1+1)(ed:b<=t1)(hL:bn<=1000000000)(eb:z o<=100000000000)(eg:z j<=100000)(ee:z A<=1000000000):cA bG 220 #[aA q,aA bk,aA D,aA u,aA K,aA C] a λcd w'=>
 cd=aP (dE #[])/\(∃an ba,mf w' f C D q bk K u (bE al e bn w) an aG ba c c (o++iJ j) [] (A++[⟨z o,z j+4,c-b,kf,kl⟩])/\(∀F,bY an=M F->bY d=M F\/G (H a)<=F)/\(∀F,bY ba=M F->bY L=M F\/G (H a)<=F))/\J (uL C u d t L) a w':=by
 obtain⟨i0,cs,dc,dd,dk⟩:=cL Sh
 obtain⟨j0,cu,cM,cT,db⟩:=cL qC
 have ds:=h.ord
 have cB:=h.size
 have bT:=DY hT h.op cB<|by omega
 obtain⟨Q,P,co⟩:=aB h.od
 obtain⟨V,S,cx⟩:=aB h.ok
 subst co
 subst cx
 have q1:=h.p.cell
 have q2:=h.p.free
 have E:=h.low
 have bo:=Z c0
 have bp:=Z c1
 obtain⟨MF,bl⟩:∃MF,c-b=MF:=⟨_,rfl⟩
 rw[bl]
 have e1:(c:Y)-(b:Y)=(MF:Y):=by omega
 have e2:(c:Y)-1=(t1:Y):=by omega
 have e3:IntKind.i64.wrap (MF:Y)=(MF:Y):=by rw[bQ];omega
 have e4:IntKind.i64.wrap (t1:Y)=(t1:Y):=by rw[bQ];omega
 have e5:(b:Y)<(bn:Y):=by omega
 have e6:(t1:Y)<(bn:Y):=by omega
 have cl:=Z (show∀B w1,eQ w1 f B (j++le 4 (mQ j))->eY a w1 t B->∃pb k pc,B=bE pb k (z j+4) pc/\(aS w1 (U q 0)=M t/\w1.frozen? (U q 0)=bF)/\mf (ct w1 (U q 0) B) f C D q bk K u (bE al e bn w) (ah Q (z o) P) B (ah V (z A) S) b c o (j++le 4 (mQ j)) A/\J (uL C u (ah Q (z o) P) t<|ah V (z A) S) a (ct w1 (U q 0) B)from by
  intro B w1 ao X;have y:z (j++le 4 (mQ j))=z j+4:=by simp[cq]
  have N:=h.p.ay (J.fH X) (h.kh<|by omega).2.1;have g:=h.piece (J.fH X) X.uq ao;have x:=((J.fH X).mono (T:=uL C u (ah Q (z o) P) t<|ah V (z A) S)<|λF s=>.inl<|.inr<|.inr<|.inl s).setCell q 0 B<|.inl<|.inl ⟨by omega,by omega⟩;rcases ao.bytes.shape with⟨_,h0⟩|⟨pb,k,pc,h0,h1⟩
  .rw[h0]at y;simp at y
  .rw[y]at h0;exact⟨pb,k,pc,h0,⟨N.cell,N.free⟩,g,x⟩)
 clear h hT c0 c1 cE bl
 go_in
 go_wp2_with(go_at_call 187;refine bT.mono ?_;rintro cd w1⟨B,rfl,ao,X⟩;obtain⟨pb,k,pc,rfl,⟨cn,cp⟩,g,x⟩:=cl B w1 ao X;have bt:=Z g;have bs:=Z x;clear g x ao X)
 have g:=ae bt
 have x:=ae bs
 clear bt bs cn cp
 generalize ct w1 (U q 0) (bE pb k (z j+4) pc)=p at*
 clear bT q1 q2
 have k0:aS p (U al<|e+b*4)=M (aj kf):=x.low E hg bo
 have k1:aS p (U al<|e+t1*4)=M (aj kl):=x.low E hg bp
 have l1:=g.l.cell
 have l2:=g.d.cell
 have l3:=g.p.cell
 have l4:=g.k.cell
 have l5:=g.f.cell
 have l6:=g.t.cell
 have bu:=Z (show∀(m:Obj)O n,n.ownsRow f 347 5 O (z A+1) (eD A++[aq<|z o,aq<|(z j:Y)+4,aq MF,aj kf,aj kl])->eY (cF p m).drew n (ah V (z A) S) O->mf (ct n (U bk 0) O) f C D q bk K u (bE al e bn w) (ah Q (z o) P) (bE pb k (z j+4) pc) O b c o (j++le 4 (mQ j)) (A++[⟨z o,z j+4,MF,kf,kl⟩])/\J (uL C u (ah Q (z o) P) t<|ah V (z A) S) a (ct n (U bk 0) O)/\(aS n (U al<|e+b*4)=M (aj kf)/\aS n (U al<|e+t1*4)=M (aj kl)/\aS n (U C 0)=M (bE al e bn w)/\aS n (U D 0)=M (ah Q (z o) P)/\aS n (U q 0)=M (bE pb k (z j+4:R) pc)/\aS n (U K 0)=M (aq b)/\aS n (U u 0)=M (aq c))/\aS n (U bk 0)=M (ah V (z A) S)/\(aS (ct n (U bk 0) O) (U al<|e+b*4)=M (aj kf)/\aS (ct n (U bk 0) O) (U al<|e+t1*4)=M (aj kl)/\aS (ct n (U bk 0) O) (U C 0)=M (bE al e bn w)/\aS (ct n (U bk 0) O) (U D 0)=M (ah Q (z o) P)/\aS (ct n (U bk 0) O) (U q 0)=M (bE pb k (z j+4:R) pc)/\aS (ct n (U bk 0) O) (U K 0)=M (aq b)/\aS (ct n (U bk 0) O) (U u 0)=M (aq c))/\n.frozen? (U bk 0)=bF/\(∀F,bY O=M F->bY (ah V (z A) S)=M F\/G (H a)<=F)from by
  intro m O n au ax;have y:J (λF=>bY (ah V (z A) S)=M F) p n:=(((J.refl _ p).alloc m).trans (cg _ _)<|λF s=>.inl s).trans (J.fH ax)<|λF s=>.inl s;have N:=g.k.ay y (g.kh<|by omega).2.2;have l:=g.blocks (ks1:=A++[⟨z o,z j+4,MF,kf,kl⟩]) y (by rw[Fy,af];exact au);have bm:∀F,bY (ah V (z A) S)=M F->f<=F:=λF s=>(aI g.ok F s).1;have W:J (uL C u (ah Q (z o) P) t<|ah V (z A) S) a (ct n (U bk 0) O):=(x.trans y<|λF s=>.inl<|.inr<|.inr<|.inr s).setCell bk 0 _<|.inl<|.inl ⟨by omega,by omega⟩;exact⟨l,W,⟨y.low bm (by omega) k0,y.low bm (by omega) k1,(g.l.ay y (g.kh<|by omega).2.2).cell,(g.d.ay y (g.kh<|by omega).2.2).cell,(g.p.ay y (g.kh<|by omega).2.2).cell,(g.f.ay y (g.kh<|by omega).2.2).cell,(g.t.ay y (g.kh<|by omega).2.2).cell⟩,N.cell,⟨W.low E hg bo,W.low E hg bp,l.l.cell,l.d.cell,l.p.cell,l.f.cell,l.t.cell⟩,N.free,λF s=>by
   rcases ax.uq with cd|⟨cc,cd,hy⟩
   .exact .inl<|cd▸s
   .rw[cd]at s;cases s;have h1:=x.size;have h2:G (H p)<G (H (cF p m).drew):=by simp[World.drew,World.drewN]
    exact .inr (by omega)⟩)
 have br:=Z g.ok
 have dv:f<=G (H p):=g.size
 have b1:al<G (H p):=by omega
 have b2:C<G (H p):=by omega
 have b3:D<G (H p):=by omega
 have b4:q<G (H p):=by omega
 have b5:bk<G (H p):=by omega
 have b6:K<G (H p):=by omega
 have b7:u<G (H p):=by omega
 clear g x
 have hS:(aS p.drew (U al<|e+b*4)=M (aj kf)/\aS p.drew (U al<|e+t1*4)=M (aj kl)/\aS p.drew (U C 0)=M (bE al e bn w)/\aS p.drew (U D 0)=M (ah Q (z o) P)/\aS p.drew (U q 0)=M (bE pb k (z j+4:R) pc)/\aS p.drew (U bk 0)=M (ah V (z A) S)/\aS p.drew (U K 0)=M (aq b)/\aS p.drew (U u 0)=M (aq c)):=⟨by rw[bD];exact k0,by rw[bD];exact k1,by rw[bD];exact l1,by rw[bD];exact l2,by rw[bD];exact l3,by rw[bD];exact l4,by rw[bD];exact l5,by rw[bD];exact l6⟩
 rename_i QQ KK bv
 refine cz (λm=>(aS m (U al<|e+b*4)=M (aj kf)/\aS m (U al<|e+t1*4)=M (aj kl)/\aS m (U C 0)=M (bE al e bn w)/\aS m (U D 0)=M (ah Q (z o) P)/\aS m (U q 0)=M (bE pb k (z j+4:R) pc)/\aS m (U bk 0)=M (ah V (z A) S)/\aS m (U K 0)=M (aq b)/\aS m (U u 0)=M (aq c))) 22 (by kernel_rfl) ?_
 refine cY 0 ?_
 iterate 20 (refine eJ (v:=?_) hS rfl (by kernel_rfl) iV rfl ?_ ?_;rotate_left;(focus(intro m hX;obtain⟨x0,x1,x2,x3,x4,x5,x6,x7⟩:=hX;go_simp;try rfl));simp only[Act.put,dG,Nat.reduceAdd])
 apply eA
 refine aM (i:=20) rfl rfl (by kernel_rfl) ?_
 intro dx bd
 go_simp
 refine bd _ _ (λ_=>?_) ?_
 .exact⟨by rw[bD,fE b1];exact k0,by rw[bD,fE b1];exact k1,by rw[bD,fE b2];exact l1,by rw[bD,fE b3];exact l2,by rw[bD,fE b4];exact l3,by rw[bD,fE b5];exact l4,by rw[bD,fE b6];exact l5,by rw[bD,fE b7];exact l6⟩
 refine aM (i:=21) rfl rfl (by kernel_rfl) ?_
 intro dT bf
 simp only[cy,bU,cf]
 refine kL (.tmp 8) (.tmp 28) 289 rfl f 347 i0 (eB #[aq 0,aq 0,aq 0,aj ⟨#[]⟩,aj ⟨#[]⟩]) 5 56 underlying289 cs dc dd dk rfl (by decide) (ah V (z A) S) (z A) (eD A) rfl (jk (aU br<|aw #[aq<|z o,aq<|(z j:Y)+4,aq MF,aj kf,aj kl] 347) rfl) (U (G<|H p) 0) 1 1 [aq<|z o,aq<|(z j:Y)+4,aq MF,aj kf,aj kl] rfl rfl (Pr _ _ _ _ _ _ _) (by simp[Value.oneCell']) (by omega) (by omega) (by simp;omega) ?_
 intro O n au ax
 obtain⟨l,W,⟨s0,s1,s2,s3,s4,s6,s7⟩,s5,⟨z0,z1,z2,z3,z4,z6,z7⟩,bx,bh⟩:=bu _ O n au ax
 obtain⟨cb,ca,cv⟩:=aB au
 subst cv
 refine bf _ _ (λ_=>⟨s0,s1,s2,s3,s4,s5,s6,s7⟩) ?_
 simp only[Act.put,dG]
 refine aM (i:=22) rfl rfl (by kernel_rfl) ?_
 intro ea bg
 go_simp
 refine bg _ _ wH ?_
 refine cX (by kernel_rfl) ?_ _
 show KK _ _
 apply bv
 clear bv bd bf bg z0 z1 z2 z3 z4 z6 z7 s0 s1 s2 s3 s4 s5 s6 s7 bx au ax hS k0 k1 l1 l2 l3 l4 l5 l6 b1 b2 b3 b4 b5 b6 b7 bu br
 have bb:=Z bh
 clear bh
 generalize ct n (U bk 0) (ah cb (z A+1) ca)=W3 at*
 generalize(ah cb (z A+1) ca)=dn at*
 have l2:=l.d.cell
 have l3:=l.p.cell
 have dm:=l.size
 have ch:=Z l.od
 have ce:=Z l.op.bytes
 have ef:z (j++le 4 (mQ j))=z j+4:=by simp[cq]
 have cm:=Z (show∀v4 w4,w4.ownsRow f 5 1 v4 (z o+(z j+4)) (o.map (Value.int .u8)++(j++le 4 (mQ j)).map (Value.int .u8))->eY W3 w4 (ah Q (z o) P) v4->(aS w4 (U D 0)=M (ah Q (z o) P)/\w4.frozen? (U D 0)=bF)/\mf (ct w4 (U D 0) v4) f C D q bk K u (bE al e bn w) v4 (bE pb k (z j+4) pc) dn b c (o++iJ j) (j++le 4 (mQ j)) (A++[⟨z o,z j+4,MF,kf,kl⟩])/\J (uL C u (ah Q (z o) P) t<|ah V (z A) S) a (ct w4 (U D 0) v4)/\(∀F,bY v4=M F->bY (ah Q (z o) P)=M F\/G (H a)<=F)from by
  intro v4 w4 av ad;have y:=J.fH ad;have N:=l.d.ay y (l.kh<|by omega).1;have bm:=l.data (ds1:=o++iJ j) y ad.uq<|eQ.of av (by rw[af,gC]) (by unfold iJ;rw[aQ,aQ,aQ]);exact⟨⟨N.cell,N.free⟩,bm,(W.trans y<|λF s=>.inl<|.inr<|.inl s).setCell D 0 _<|.inl<|.inl ⟨by omega,by omega⟩,λF s=>by
   rcases ad.uq with cd|⟨cc,cd,hy⟩
   .exact .inl<|cd▸s
   .rw[cd]at s;cases s;exact .inr (aF W.size hy)⟩)
 clear l W
 go_wp2_with(first
  |(at_builtin;go_loud(refine bV _ rfl (.tmp 30) (.tmp 31) 126 rfl f 5 j0 (.int .u8 0) 1 1 underlying126 cu cM cT db rfl (by decide) _ (z o) (o.map (Value.int .u8)) rfl ch (U pb k) (z j+4) pc ((j++le 4 (mQ j)).map (Value.int .u8)) rfl (by simp[cq]) (tJ ce) (by intro ej hu;simp only[bz]at hu;obtain⟨cc,_,rfl⟩:=hu;rfl) (by omega) (by omega) dm ?_;intro v4 w4 av ad;obtain⟨⟨y0,y1⟩,r,ac,bi⟩:=cm v4 w4 av ad;obtain⟨x4,c4,rfl⟩:=aB av;have bc:=Z bi;clear bi;have ck:=Z r;have cj:=Z ac;clear av ad r ac)))
 have r:=ae ck
 have ac:=ae cj
 have y2:=r.p.cell
 have y3:=r.p.free
 have y4:=r.f.cell
 have y5:=r.f.free
 have y6:=r.t.cell
 have n1:K≠q:=by omega
 have n2:u≠q:=by omega
 have n3:u≠K:=by omega
 have bq:=Z (show∀y,(y=(ct (ct (ct w4 (U D 0)<|ah x4 (z o+(z j+4)) c4) (U q 0) aG) (U K 0)<|aq c).drew\/y=(ct (ct (ct w4 (U D 0)<|ah x4 (z o+(z j+4)) c4) (U K 0)<|aq c) (U q 0) aG).drew)->(∃an ba,mf y f C D q bk K u (bE al e bn w) an aG ba c c (o++iJ j) [] (A++[⟨z o,z j+4,MF,kf,kl⟩])/\(∀F,bY an=M F->bY (ah Q (z o) P)=M F\/G (H a)<=F)/\(∀F,bY ba=M F->bY (ah V (z A) S)=M F\/G (H a)<=F))/\J (uL C u (ah Q (z o) P) t<|ah V (z A) S) a y from by
  rintro y(rfl|rfl)
  .exact⟨⟨_,_,r.fin.ay<|cg _ _,bc,bb⟩,((ac.setCell q 0 _<|.inl<|.inl ⟨by omega,by omega⟩).setCell K 0 _<|.inl<|.inl ⟨by omega,by omega⟩).trans (cg _ _)<|λF s=>.inl s⟩
  .exact⟨⟨_,_,r.Zl.ay (cg _ _),bc,bb⟩,((ac.setCell K 0 _ (.inl (.inl ⟨by omega,by omega⟩))).setCell q 0 _ (.inl (.inl ⟨by omega,by omega⟩))).trans (cg _ _) (λF s=>.inl s)⟩)
 clear r ac
 go_region
 all_goals
  go_end0;refine⟨rfl,bq _ ?_⟩;first
  |exact .inl rfl
  |exact .inr rfl
def Ff(c:cK):ab:=(c[0]?.map E.key).getD ⟨#[]⟩
def LX(c:cK):ab:=(c[z c-1]?.map E.key).getD ⟨#[]⟩
def MJ(p:R)(c:cK):rq:=⟨p,z (fM c)+4,z c,Ff c,LX c⟩
def bO:R->dX->mU
 |_,[]=>[]
 |p,c::a=>MJ p c::bO (p+(z (fM c)+4)) a
def kp:∀(a:dX)(p:R),z (bO p a)=z a
 |[],_=>rfl
 |c::a,p=>by rw[bO,aC,kp a,aC]
def CU(c:cK):∀(a:dX)(p:R),bO p (a++[c])=bO p a++[MJ (p+z (dL a)) c]
 |[],p=>by simp[bO,dL]
 |d::a,p=>by
  rw[cC,bO,CU c a,bO,cC,pt,af,gC];congr 4;omega
def zQ:∀(a:dX)(p i:R)(f:i<z (bO p a))(b:i<z a),(bO p a)[i]=MJ (p+z (dL<|a.take i)) a[i]
 |[],_,i,_,b=>absurd b<|gL i
 |c::a,p,0,_,_=>by simp[bO,dL]
 |c::a,p,i+1,f,b=>by
  have e:i<z (bO (p+(z (fM c)+4)) a):=by simpa[bO]using f
  have d:i<z a:=by simpa using b
  have h:=zQ a (p+(z (fM c)+4)) i e d;simp only[bO,bU,sg,pt,af,gC];rw[h];congr 1;omega
def Hw(h:0<z e):Ff e=(e[0]'h).key:=by
 unfold Ff;rw[aK h];rfl
def LV(h:0<z e):LX e=(e[z e-1]'(by omega)).key:=by
 unfold LX;rw[aK<|by omega];rfl
def VF(h:0<z e)(p:R):(MJ p e).Of e:=⟨h,rfl,rfl,Hw h,LV h⟩
def JH:∀(c:cK),z c<=z (fM c)
 |[]=>by simp[fM]
 |x::c=>by
  have:=JH c;unfold fM at*;rw[dN,af,aC];have:8<=z (BQ x):=by unfold BQ;rw[af,cq];omega
  omega
structure qH(l:cK)(cs:dX):Prop where
 flat:cs.flatten=l
 fit:∀c∈cs,0<z c/\z (fM c)+4<=512
 Dh:cs.Pairwise gZ
def qH.yu(h:qH e k)(c:e≠[])(f:∀x∈e,x.Good)(g:dS e):tQ (bO 0 k) k where
 len:=kp k 0
 ne:=by
  cases k with
  |nil=>exact absurd h.flat.symm<|by simpa using c
  |cons d k=>simp
 Ew:=λi b a=>by
  rw[zQ k 0 i b a];exact VF (h.fit _<|ar a).1 _
 pos:=λi b=>by
  have a:i<z k:=by rw[kp]at b;exact b
  rw[zQ k 0 i b a];simp[MJ]
 jb:=λd a x b=>f x (by rw[<-h.flat];exact bC.2 ⟨d,a,b⟩)
 mr:=by rw[h.flat];exact g
 Dh:=h.Dh
 small:=λd a=>by
  have:=(h.fit d a).2;have:=JH d;omega
def qH.length(h:qH e k):z k<=z e:=by
 rw[<-h.flat];have:=h.fit;clear h;induction k with
 |nil=>simp
 |cons c k b=>
  have a:=(this c<|by simp).1;have f:=b (λd a=>this d<|by simp[a]);simp only[aC,aX,af];omega
def qH.data(h:qH e k):z (dL k)<=512*z k:=by
 have:=h.fit;clear h;induction k with
 |nil=>simp[dL]
 |cons c k b=>
  have a:=(this c<|by simp).2;have g:=b (λd a=>this d<|by simp[a]);rw[pt,af,gC,aC];omega
def vr(k:rq):eP:=le 4 k.size++(le 4 k.count++(eC k.first++eC k.last))
def fp(a:mU):eP:=le 4 (z a)++a.flatMap vr
structure It(w0 w:I)(x:R)(k:rq)(o:aa)(bs:eP):Prop where
 own:eQ w (G<|H w0) o bs
 box:Ce w x k
 ne:bY o≠M x
 ay:J az w0 w
def It.wrote{n:rq}{c:eP}(h:It a f b n d o)(g:eY f B d t)(l:eQ B (G<|H a) t c):It a B b n t c:=by
 have k:=am h.box;refine⟨l,h.box.ay (J.dR (S:=λj=>bY d=M j) g.grown<|λ_ e=>.inl e) h.ne,λe=>?_,h.ay.trans (J.dR (S:=λj=>bY d=M j) g.grown<|λ_ e=>.inl e)<|λj e=>.inr (h.own.lt j e).1⟩;rcases g.uq with i|⟨m,i,p⟩;exact h.ne<|i.symm.trans e;rw[i]at e;cases e;omega
def It.size{k:rq}(h:It a B c k d o):G (H a)<=G (H B):=h.ay.size
structure rq.Fits(k:rq):Prop where
 size:k.size<=1000000
 count:k.count<=1000000
 first:k.first.size<=255
 last:k.last.size<=255
def Mi{k:rq}(h:k.Fits):z (vr k)<=520:=by
 have:=h.first;have:=h.last;simp[vr,eC,cq,ic];omega
def lB{ks:mU}(h:∀k∈ks,k.Fits):z (ks.flatMap vr)<=520*z ks:=by
 induction ks with
 |nil=>simp
 |cons k ks b=>
  have a:=Mi (h k<|by simp);have c:=b (λj a=>h j<|by simp[a]);rw[dN,af,aC];omega
def sY{n:Y}(a:0<=n)(b:n<4294967296):IntKind.u32.wrap n=n:=by rw[IntKind.wrap_u32];omega
def IV(a:mU)(D f k:R)(w:I)(hb:D<G (H w))(hc:∀K an,(eD a)[K]?=M an->aS w (U D<|f+K)=M an)(hl:z a<=1000000)(o:∀T∈a,T.Fits):cA bG 199 #[bE D f (z a) k] w λF w'=>∃v',F=aP v'/\eQ w' (G<|H w) v' (fp a)/\J az w w':=by
 have u:=jM (baseqq:=G<|H w) (v:=aG) (bs:=[]) (z a:R) (w:=w) (eQ.nil _ _) (ai _) (by simp) (by omega) (by omega);have e0:=sY (n:=(z a:R)) (by omega) (by omega);have HC:=Z hc;have W:=Z o;clear hc o;go_in
 go_wp2_with(go_at_call 186;refine u.mono ?_;rintro F w1⟨v1,rfl,g,i⟩;have L:=Z g;have N:=Z i;clear g i)
 go_loopw [3,12] (λo i wr=>∃n:R,n<=z a/\i=aq n/\eQ wr (G<|H w) o (le 4 (z a)++(a.take n).flatMap vr)/\J az w wr) (λ_ i _=>z a-(intOf i).toNat)
 case atStart=>exact⟨0,bB _,rfl,by simpa using ae L,J.dR (S:=az) N.grown (by intro T o;simp[bY]at o)⟩
 (case round=>obtain⟨n,hn,rfl,c,e⟩:=hrel;have al:=e.size;by_cases l:n<z a;(.have m:∀K ad,K<5->(rq.cells a[n])[K]?=M ad->aS wr (U D<|f+n*5+K)=M ad:=λK ad b c=>e.cell (by rw[aY];exact HC _ _<|(iD a n K l b).trans c) (λd=>d) hb;have t:=W a[n]<|ar l;(have ac:z (le 4 (z a)++(a.take n).flatMap vr)<=600000000:=by have h1:=lB (ks:=a.take n)<|λT o=>W T<|eI o;(have h2:z (a.take n)<=z a:=by simp;omega);rw[af,cq];omega);have HS:=Z (show(le 4 (z a)++(a.take n).flatMap vr)++vr a[n]=le 4 (z a)++(a.take<|n+1).flatMap vr from by rw[aW,ak l,gh];simp);generalize a[n]=T at*;generalize le 4 (z a)++(a.take n).flatMap vr=E at*;obtain⟨pos,d,b,first,j⟩:=T;have p0:=m 0 _ (by omega) rfl;have p1:=m 1 _ (by omega) rfl;have p2:=m 2 _ (by omega) rfl;have p3:=m 3 _ (by omega) rfl;have p4:=m 4 _ (by omega) rfl;clear m;simp only[ju]at p0 p1 p2 p3 p4;have f1:=t.size;have f2:=t.count;have X:=t.first;have f4:=t.last;simp only at f1 f2 X f4;have e1:=sY (n:=(d:R)) (by omega) (by omega);have e2:=sY (n:=(b:R)) (by omega) (by omega);have hA:It w (cF wr<|aw #[aq pos,aq d,aq b,aj first,aj j] 347) (G<|H wr) ⟨pos,d,b,first,j⟩ u3 E:=⟨c.alloc _,aE _ rfl,λF=>by have:=(c.lt _ F).2;omega,e.alloc _⟩;have V:=Z hA;clear c e t hA;(go_wp2_with fail);refine(jM (d:R) V.own (by simp;omega) (by omega) (by omega)<|by omega).mono ?_;rintro F w1⟨v1,rfl,g,i⟩;have hA1:=V.wrote i g;obtain⟨k0,k1,k2,k3,k4⟩:=hA1.box.cells;simp only at k0 k1 k2 k3 k4;have O:=hA1.size;have p:=Z hA1;clear hA1 g i;(go_wp2_with fail);refine(jM (b:R) p.own O (by rw[af,cq];omega) (by omega)<|by omega).mono ?_;rintro F w2⟨v2,rfl,v,A⟩;have hA2:=p.wrote A v;obtain⟨m0,m1,m2,m3,m4⟩:=hA2.box.cells;simp only at m0 m1 m2 m3 m4;have P:=hA2.size;have q:=Z hA2;clear hA2 v A;(go_wp2_with fail);refine(pI (G<|H w) v2 ((E++le 4 d)++le 4 b) first _ q.own P (by rw[af,af,cq,cq];omega) X).mono ?_;rintro F w3⟨v3,rfl,x,B⟩;have hA3:=q.wrote B x;obtain⟨q0,q1,q2,q3,q4⟩:=hA3.box.cells;simp only at q0 q1 q2 q3 q4;have Q:=hA3.size;have r:=Z hA3;clear hA3 x B;(go_wp2_with fail);refine(pI (G<|H w) v3 (((E++le 4 d)++le 4 b)++(first.size:Y)::kJ first) j _ r.own Q (by simp only[af,cq,aC,ic];omega) f4).mono ?_;rintro F w4⟨v4,rfl,y,C⟩;have hA4:=r.wrote C y;have s:=Z hA4;clear hA4 y C;go_wp2;go_roundw;(case rel=>refine⟨n+1,l,by go_num,?_,s.ay⟩;rw[<-ae HS];have:=s.own;simpa[vr,eC]using this);case measure=>simp[intOf];omega);(have b:n=z a:=by omega);subst b;rw[bP]at c;have d:=Z c;have j:=Z e;clear c e;go_wp2;go_ret;exact⟨_,rfl,d,j⟩)
def rW.trans{w w' d:I}{a:DK}(h:rW w w' c j N)(k:rW w' d c N a):rW w d c j a:=⟨k.ok,h.ay.trans k.ay<|λx e=>h.bw x e,λx e=>(k.bw x e).elim (λg=>h.bw x g)<|λg=>.inr<|aF h.ay.size g⟩
def rW.refl(h:cU a b j):rW a a b j j:=⟨h,J.refl _ _,λ_ c=>.inl c⟩
abbrev Fs:=cD<|ab×eP
def vw(a:cD dp):Fs:=a.map<|λf=>(f.name,f.bytes)
def ew:Fs->ab->Option eP
 |[],_=>none
 |f::r,n=>if f.1=n then M f.2 else ew r n
def vA:Fs->ab->Fs
 |[],_=>[]
 |f::r,n=>if f.1=n then r else f::vA r n
def tC:Fs->ab×eP->Fs
 |[],f=>[f]
 |g::r,f=>if g.1=f.1 then f::r else g::tC r f
def iy(a:Fs):R:=(a.map (·.2.length)).sum
def Ko(a:cD dp):uz a=iy (vw a):=by
 unfold uz iy vw;rw[iZ];rfl
def JE(a:cD dp)(n:ab):ew (vw a) n=(rj a n).map dp.bytes:=by
 induction a with
 |nil=>rfl
 |cons f r b=>
  unfold vw at*;by_cases h:f.name=n<;>simp[ew,rj,h,b]
def Tr(a:cD dp)(n:ab):vw (pT a n)=vA (vw a) n:=by
 induction a with
 |nil=>rfl
 |cons f r b=>
  unfold vw at*;by_cases h:f.name=n<;>simp[vA,pT,h,b]
def DC(a:cD dp)(f:dp):vw (qZ a f)=tC (vw a) (f.name,f.bytes):=by
 induction a with
 |nil=>rfl
 |cons g r b=>
  unfold vw at*;by_cases h:g.name=f.name<;>simp[tC,qZ,h,b]
def BM{a:Fs}(h:ew a v=M o):tC a (v,o)=a:=by
 induction a with
 |nil=>cases h
 |cons g r c=>
  obtain⟨b,d⟩:=g;by_cases e:b=v
  .subst e;simp[ew]at h;simp[tC,h]
  .simp[ew,e]at h;simp[tC,e,c h]
def Ht{a:Fs}(f d:eP)(h:ew a v=none):tC (a++[(v,f)]) (v,d)=a++[(v,d)]:=by
 induction a with
 |nil=>simp[tC]
 |cons g r c=>
  obtain⟨b,i⟩:=g;by_cases e:b=v
  .simp[ew,e]at h
  .simp[ew,e]at h;simp[tC,e,c h]
def jN(a b:Fs)(n:ab):ew (a++b) n=(ew a n).or (ew b n):=by
 induction a with
 |nil=>simp[ew]
 |cons g r c=>by_cases e:g.1=n<;>simp[ew,e,c]
def vy(b:Fs)(f:ab×eP)(n:ab):ew (tC b f) n=if f.1=n then M f.2 else ew b n:=by
 induction b with
 |nil=>by_cases e:f.1=n<;>simp[tC,ew,e]
 |cons h r g=>
  by_cases e:h.1=f.1
  .by_cases a:f.1=n<;>simp[tC,ew,e,a]
  .by_cases a:h.1=n
   .have c:¬f.1=n:=λb=>e<|a.trans b.symm;have d:¬n=f.1:=λb=>c b.symm;simp[tC,ew,a,c,d]
   .simp[tC,ew,e,a,g]
def xX{a:Fs}(h:ew a v=M o):(v,o)∈a:=by
 induction a with
 |nil=>cases h
 |cons g r c=>
  obtain⟨b,d⟩:=g;by_cases e:b=v
  .subst e;simp[ew]at h;simp[h]
  .simp[ew,e]at h;exact aJ _<|c h
def uJ(a b:Fs):iy (a++b)=iy a+iy b:=by simp[iy]
def jz{a:cD dp}(h:ew (vw a) v=M o):∃F,rj a v=M F/\F.bytes=o:=by
 rw[JE]at h;cases e:rj a v with
 |none=>rw[e]at h;cases h
 |some F=>rw[e]at h;simp at h;exact⟨F,rfl,h⟩
def wl{a:cD dp}(h:ew (vw a) v=none):rj a v=none:=by
 rw[JE]at h;cases e:rj a v with
 |none=>rfl
 |some F=>rw[e]at h;cases h
def Gy{db:R}{K:DK}(a:ab)(al b j:R){bs:eP}{w:I}(h:cU w db K)(A:ew (vw K.files) a=none)(hn:z K.eU<=1000000000000)(e:iy (vw K.files)+z bs<=1099511627776)(D:kG bs)(u:∀an ao,(bs.map<|Value.int .u8)[an]?=M ao->aS w (U al<|b+an)=M ao)(i:al<G (H w))(t:¬K.bw db al):cA bG 200 #[aA db,aj a,bE al b (z bs) j] w λP p=>P=aP .nilIface/\∃c,rW w p db K c/\vw c.files=vw K.files++[(a,bs)]/\z c.eU=z K.eU+1:=by
 have C:=wl A;have ad:=CN a h (BJ C) hn
 have HX:=Z (show∀r f,rW w r db K f->f.files=K.files++[⟨a,G<|H w,aG,[],0⟩]->cA bG 122 #[aA db,aj a,bE al b (z bs) j] r λP p=>P=aP .nilIface/\∃c,rW r p db f c/\vw c.files=vw K.files++[(a,bs)]/\c.eU=f.eU from by
  intro r f v hf;have q:vw f.files=vw K.files++[(a,[])]:=by rw[hf];simp[vw]
  have B:ew (vw f.files) a=M []:=by rw[q,jN,A];simp[ew]
  obtain⟨au,hF,d⟩:=jz B;refine(Im a au al b j bs v.ok hF (by rw[Ko,q,uJ];simp[iy]at e|-;omega) D (λan ao hj=>v.ay.cell (u an ao hj) t i) (ag i v.ay.size) (by rw[d];simp)).mono ?_;rintro P p⟨rfl,c,k,⟨av,n⟩,o⟩;refine⟨rfl,c,k,?_,o⟩;rw[n,DC];simp only[d,cJ,(kN hF).1];rw[q];exact Ht [] bs A)
 have HY:=Z (show∀s g,cU s db g->vw g.files=vw K.files++[(a,bs)]->cA bG 90 #[aA db,aj a] s λP p=>P=aP .nilIface/\∃c,rW s p db g c/\vw c.files=vw K.files++[(a,bs)]/\c.eU=g.eU from by
  intro s g v q;have B:ew (vw g.files) a=M bs:=by rw[q,jN,A];simp[ew]
  obtain⟨au,hF,d⟩:=jz B;refine(PD a au v hF (by rw[d];omega)).mono ?_;rintro P p⟨rfl,c,k,n,o⟩;refine⟨rfl,c,k,?_,o⟩;rw[n,DC];simp only[d,(kN hF).1];rw[BM B,q])
 clear h A C u e t D;go_in
 go_wp2_with fail
 apply ad.mono;rintro P r⟨rfl,f,l,y,E⟩;have ha:=HX r f l y;have Q:=Z l;have V:=Z E;clear l y E;go_wp2_with fail
 apply ha.mono;rintro P s⟨rfl,g,m,N,F⟩;have hs:=HY s g m.ok N;have S:=Z m;have W:=Z F;clear m N F;go_wp2_with fail
 apply hs.mono;rintro P w3⟨rfl,K3,x,O,L⟩;obtain⟨T,ac,X⟩:=dI x O L;clear x O L;go_wp2;go_ret;exact⟨rfl,K3,(Q.trans S).trans T,ac,by rw[ae X,ae W,ae V]⟩
def Lg{db:R}{K:DK}(a:ab)(i:eP){w:I}(h:cU w db K)(m:ew (vw K.files) a=M i)(k:z i<=1099511627776):cA bG 96 #[aA db,aj a] w λx p=>∃o,x=aP (dE #[o,.nilIface])/\eQ p (G<|H w) o i/\∃g,rW w p db K g/\g.files=K.files/\g.eU=K.eU/\∀B,g.bw db B->K.bw db B:=by
 obtain⟨F,hF,rfl⟩:=jz m;have l:=Wn a F h hF (by omega);have f:=Bu a F 0 (z F.bytes) h hF k (bB _) k;rw[List.drop_zero,bP]at f;generalize F.bytes=i at*;clear h m hF k;go_in
 go_wp2_with fail
 apply l.mono;rintro x q⟨rfl,y⟩;subst q;go_wp2_with fail
 apply f.mono;rintro x q⟨A,rfl,n,v,b,c,e,d⟩;obtain⟨u,r,s,t,j⟩:=jX n b c e d;clear n b c e d;go_wp2;go_ret2
 exact⟨A,rfl,u,v,r,s,t,j⟩
def GQ{db:R}{K:DK}(a:ab){w:I}(h:cU w db K)(c:ew (vw K.files) a=none):cA bG 96 #[aA db,aj a] w λg e=>g=aP (dE #[aG,.iface 219<|aA<|G<|H w])/\e=cF w (aw #[aj a,aq 10] 222):=by
 have b:=QP _ a h.iN h.now<|BJ<|wl c;clear h c;go_in
 go_wp2_with fail
 apply b.mono;rintro g f⟨rfl,d⟩;subst f;go_wp2;go_ret2
 exact⟨rfl,rfl⟩
def uh(a:cD pu):R:=z<|a.filter<|λx=>x.live
def EN(a:cD pu)(x:pu):uh (a++[x])=uh a+(if x.live then 1 else 0):=by
 unfold uh;rw[je,af];cases h:x.live<;>simp[h]
def EO(a:cD pu):uh a<=z a:=fB _ _
def TF(a:cD pu)(x:pu):FU (a++[x])=FU a++[aO x.live,x.v]:=by
 induction a with
 |nil=>rfl
 |cons c r b=>simp only[cC,FU,b]
def Ei(f:Option R)(h:mO a b f F bX d):cA bG 18 #[aA b] a λi g=>i=aP (dE #[aq 0,aq 6])/\g=a:=by
 obtain⟨⟨v,c,_,_⟩,_,_⟩:=h;have e:=cellAt c 2 rfl;clear c;go_in
 go_wp2;go_ret2
 exact⟨rfl,rfl⟩
def IT(D:Option R)(c:cD pu)(h:mO a b D F bF d)(o:MX a d c)(O:4<=uh c):cA bG 18 #[aA b] a λL E=>L=aP (dE #[aq 0,aq 2])/\E=a:=by
 obtain⟨⟨S,n,_,_⟩,_,_⟩:=h;have u:=cellAt n 1 rfl;have v:=cellAt n 2 rfl;have A:=o.small;have y:=EO c;rcases o.row.2 with⟨_,N⟩|⟨K,g,t,rfl,x,i⟩;omega;have s:=Z (show∀l(e:l<z c),aS a (U K<|g+l*2)=M (aO c[l].live)fromλl e=>i _ _ (Ag c l e).1);clear n o i;go_in
 go_wp2;go_loopw [4,5] (λe l wr=>∃j:R,j<=z c/\l=aq j/\e=aq (uh (c.take j):R)/\wr=a) (λ_ l _=>z c-(intOf l).toNat)
 case atStart=>exact⟨0,bB _,rfl,rfl,rfl⟩
 case round=>
  obtain⟨j,P,rfl,rfl,C⟩:=hrel;subst wr;by_cases f:j<z c
  .have r:=s j f;have e:=EN (c.take j) c[j];rw[<-ak f]at e;have p:=EO<|c.take j;have m:z (c.take j)<=z c:=by rw[dP];omega
   have w:(j:Y)<(z c:Y):=by omega
   have k:=Z e;clear e m;generalize uh (c.take j)=q at*;have Q:q<=1000000000:=by rw[dP]at p;omega
   have B:IntKind.i64.wrap ((q:Y)+1)=(q:Y)+1:=by rw[bQ];omega
   clear p;cases hl:c[j].live with
   |true=>
    rw[hl]at r k;go_wp2;go_roundw;case rel=>exact⟨j+1,f,by go_num,by rw[ae k];simp,trivial⟩
    case measure=>simp[intOf];omega
   |false=>
    rw[hl]at r k;go_wp2;go_roundw;case rel=>exact⟨j+1,f,by go_num,by rw[ae k];simp,trivial⟩
    case measure=>simp[intOf];omega
  .have e:j=z c:=by omega
   subst e;rw[bP]at*;have k:(4:Y)<=(uh c:Y):=by omega
   go_wp2;go_ret2
   exact⟨rfl,rfl⟩
def UT:(prog.info? 118).map (λi=>(i.zero,i.size,i.bytes))=M (M<|eB #[aO bF,aG],2,32):=by kernel_rfl
def Gw(f:∀x∈T.toList,Yp x)(e:0<T.size)(c:d∈(Builtin.zeroCells T b).toList):Yp d:=by
 unfold Builtin.zeroCells at c;obtain⟨i,_,g⟩:=Array.mem_map.1<|rG.1 c;have a:i%T.size<T.size:=Nat.mod_lt _ e;rw[Array.getElem!_eq_getD,Array.getD_eq_getD_getElem?,ow a,ia]at g;rw[<-g];exact f _<|rG.2<|tY a
def Bz{P:Program}{ao:Oper}{bb:Act}{bh:Act->I->Prop}{bl:Exit->Act->I->Prop}(bk bc:Operand)(au:TypeId)(an:ao.op=Op.call {callee:=Callee.builtin Builtin.append,args:=#[bk,bc],argTypes:=#[au,au]})(c:R)(Q:TypeId)(X:TypeInfo)(k:aa)(d bytes:R)(W:P.underlying au=M (.slice Q))(T:P.info? Q=M X)(hz:X.zero=M k)(m:X.size=d)(K:X.bytes=bytes)(w:k.cells.size=d)(t:0<d)(ba:aa)(ac:R)(C:jd)(hs:bb.eval bk=ba)(j:a.ownsRow c Q d ba ac C)(A:Addr)(O av:R)(b:jd)(hx:bb.eval bc=ah (M A) O av)(L:z b=O*d)(f:∀ax u,b[ax]?=M u->aS a (A.add ax)=M u)(h1:∀u∈b,u.oneCell'=bX)(hn:ac+O<=140737488355328)(e:(ac+O)*bytes<=140737488355328)(o:c<=G (H a))(hm:0<O)(kz:∀u∈k.cells.toList,Yp u)(kn:∀u∈b,Yp u)(ko:zU a ba)(hK:∀x y,y.ownsRow c Q d x (ac+O) (C++b)->eY a y ba x->zU y x->bh (bb.put ao.dst x) y):Oper.wp P ao bb a bh bl:=by
 obtain⟨x,y,V,h2,h3,_,h5⟩:=nB (P:=P) a c au ao.type Q X k d bytes W T hz m K w t ba ac C j A O av b L f h1 (by unfold maxLen;omega) e o;have r:zU y x:=by subst m;subst K;rcases j.2 with⟨rfl,rfl⟩|⟨ad,n,i,rfl,bd,S,bg,bf,al,v⟩;have g:=run_append_nil (P:=P) a au ao.type Q X k W T hz A O av b L f hm (by omega) (by have l:=e;simp only[cZ]at l;omega);rw[V]at g;injection g with E F;intro bi i t' fr r B u h;subst E F;cases r;have p:=(fG a.drew _).symm.trans B;cases p;rw[oC,ap]at h;rcases h with h|h;exact kn u (by simpa using h);exact Gw kz (by rw[w];exact t) h;by_cases l:ac+O<=n;(have s:ac*X.size+z b<=i.size:=by rw[L,al,<-xe];exact kA _ l);have g:=run_append_room (P:=P) a au ao.type Q X W T ad ac n i S A O av b L f h1 l s;rw[V]at g;injection g with E F;intro bi D t' fr r B u h;subst E F;cases r;rw[tR a ad i _ Q _ S]at B;cases B;have Df:∀bc∈i.toList,Yp bc:=ko ad i _ _ rfl S;rcases ap.1 h with q|q;rcases ap.1 q with q|q;exact Df u<|eI q;exact kn u q;exact Df u<|dw q;have s:∀ax u,C[ax]?=M u->aS a (((U ad 0):Addr).add ax)=M u:=j.cells (g:=ad) rfl;have g:=run_append_grow (P:=P) a au ao.type Q X k W T hz (U ad 0) ac n C j.1 s A O av b L f (by omega) (by omega)<|sL (by omega) e;rw[V]at g;injection g with E F;intro bi D t' fr r B u h;subst E F;cases r;have p:=(fG a.drew _).symm.trans B;cases p;rw[oC,ap,oC,ap]at h;rcases h with(h|h)|h;(have N:u∈C:=by simpa using h);rw[<-v]at N;exact ko ad i _ _ rfl S u<|eI N;exact kn u (by simpa using h);exact Gw kz (by rw[w];exact t) h
 unfold Oper.wp;simp[execOp,an,resolve,invoke,builtin,hs,hx,V,Result.andThen];exact hK x y h2 (eY.of h3 h5) r
def IS(pb:Option R)(f:cD pu)(h:mO a b pb F bF d)(hn:MX a d f)(h4:uh f<4)(ho:a.ownsRow c 118 2 d (z f) (FU f))(Q:c<=G (H a))(bh:bY d≠M b)(bg:zU a d):cA bG 18 #[aA b] a λL w'=>L=aP (dE #[aq<|(z f:Y)+1,aq 0])/\∃bp g,bY bp=pb/\jq a bp F/\w'.heap[b]?=M (aw #[bp,g,aO bF] 46 (0,0))/\w'.ownsRow c 118 2 g (z<|f++[(⟨bX,bp,F⟩:pu)]) (FU<|f++[(⟨bX,bp,F⟩:pu)])/\J (λK=>K=b\/bY d=M K) a w'/\zU w' g/\(bY g=bY d\/∃bo,bY g=M bo/\G (H a)<=bo):=by
 obtain⟨i0,bu,cb,cc,cd⟩:=cL UT;obtain⟨⟨bp,hh,hp,bl⟩,_,_⟩:=h;have bb:=cellAt hh 0 rfl;have bc:=cellAt hh 1 rfl;have cm:=cellAt hh 2 rfl;have X:b<G (H a):=am hh;have co:=hn.small;obtain⟨o,n,m,bT⟩:∃x a bs,bp=ah x a bs:=by rcases hp.shape with L|⟨bn,e,O,L⟩;exact⟨_,_,_,L⟩;exact⟨_,_,_,L⟩
 obtain⟨y,x,ac⟩:=aB ho
 have HC:=Z (show∀bn e O,d=bE bn e (z f) O->∀an(i:an<z f),aS a (U bn<|e+an*2)=M (aO f[an].live)fromλbn e O L an i=>by
  rcases hn.row.2 with⟨q,_⟩|⟨b',bm,ao,q,bx,bd⟩
  .rw[q]at L;cases L
  .rw[q]at L;cases L;exact bd _ _ (Ag f an i).1)
 have br:=Z (show 0<z f->∃bn e,y=M (U bn e)fromλhp=>by
  rcases hn.row.2 with⟨_,q⟩|⟨b',bm,ao,q,bx,bd⟩
  .omega
  .rw[q]at ac;cases ac;exact⟨_,_,rfl⟩)
 obtain⟨HH,HO,HP,HN,HK,bq⟩:=kD hh ho (And.intro bl hp) bh bg (show∀K,bY d=M K->K<G (H a)fromλK S=>(ho.lt K S).2);clear hh hp bl hn ho bh bg;subst bT ac;go_in
 go_wp2;go_loopw [4,5] (λbs an wr=>∃A:R,A<=z f/\an=aq A/\bs=aq (uh (f.take A):R)/\wr=a) (λ_ an _=>z f-(intOf an).toNat)
 case atStart=>exact⟨0,bB _,rfl,rfl,rfl⟩
 case round=>
  obtain⟨A,hj,rfl,rfl,cp⟩:=hrel;subst wr;by_cases u:A<z f
  .obtain⟨bn,e,j⟩:=br (by omega);have p:=HC bn e x (by rw[j]) A u;subst j;have i:=EN (f.take A) f[A];rw[<-ak u]at i;have l:=EO<|f.take A;have r:(A:Y)<(z f:Y):=by omega
   have k:=Z i;clear i;generalize uh (f.take A)=q at*;have t:q<=1000000000:=by rw[dP]at l;omega
   have s:IntKind.i64.wrap ((q:Y)+1)=(q:Y)+1:=by rw[bQ];omega
   clear l;cases hl:f[A].live with
   |true=>
    rw[hl]at p k;go_wp2;go_roundw;case rel=>exact⟨A+1,u,by go_num,by rw[ae k];simp,trivial⟩
    case measure=>simp[intOf];omega
   |false=>
    rw[hl]at p k;go_wp2;go_roundw;case rel=>exact⟨A+1,u,by go_num,by rw[ae k];simp,trivial⟩
    case measure=>simp[intOf];omega
  .have bv:A=z f:=by omega
   subst bv;rw[bP]at*;have cl:¬((4:Y)<=(uh f:Y)):=by omega
   go_wp2_with fail
   rename_i QQ KK ax;have ba:aS a.drew (U b 1)=M (ah y (z f) x)/\aS a.drew (U b 0)=M (ah o n m):=⟨bc,bb⟩;refine cz (λN=>aS N (U b 1)=M (ah y (z f) x)/\aS N (U b 0)=M (ah o n m)) 14 (by kernel_rfl) ?_;refine cY 0 ?_;iterate 10 (refine eJ (v:=?_) ba rfl (by kernel_rfl) iV rfl ?_ ?_;rotate_left;(focus(rintro N⟨z0,z1⟩;go_simp;try rfl));simp only[Act.put,dG,gp,Nat.reduceAdd])
   apply eA;refine aM (i:=10) rfl rfl (by kernel_rfl) ?_;intro K1 au;go_simp;obtain⟨W1,s⟩:∃W1,(cF a<|aw #[aO bX,ah o n m] 118).drew=W1:=⟨_,rfl⟩;have i:J az a W1:=by rw[<-s];exact(cI az a).of_heap rfl
   have bi:∀A ce,[aO bX,ah o n m][A]?=M ce->aS W1 (((U (G<|H a) 0):Addr).add A)=M ce:=by rw[<-s];exact Ik a [aO bX,ah o n m] _
   have bk:=i.own HO<|λ_ _ q=>q;have bt:c<=G (H W1):=aF Q i.size;have cs:=i.size;rw[s];refine au _ _ (λ_=>⟨i.cell bc id X,i.cell bb id X⟩) ?_;try simp only[Act.put,dG,gp]
   clear au s;refine aM (i:=11) rfl rfl (by kernel_rfl) ?_;intro K2 av;try simp only[cy,bU,cf]
   refine Bz (.tmp 35) (.tmp 41) 44 rfl c 118 i0 (eB #[aO bF,aG]) 2 32 underlying44 bu cb cc cd rfl (by decide) (ah y (z f) x) (z f) (FU f) rfl bk (U (G<|H a) 0) 1 1 [aO bX,ah o n m] rfl rfl bi (by simp[Value.oneCell']) (by omega) (by omega) bt (by omega) (by intro ce hu;simp[Value.cells]at hu;rcases hu with rfl|rfl;exact .inl ⟨_,rfl⟩;exact .inr ⟨_,_,_,rfl⟩) (by intro ce hu;simp at hu;rcases hu with rfl|rfl;exact .inl ⟨_,rfl⟩;exact .inr ⟨_,_,_,rfl⟩) (HK.ay i (λ_ _=>id) bq) ?_;intro g p v w bf;have ad:=J.fH w;have k:p.heap[b]?=M (aw #[ah o n m,ah y (z f) x,aO bF] 46 (0,0)):=(ad.block b (by omega) HN).trans<|(i.block b X id).trans HH;have r:aS p (U b 1)=M (ah y (z f) x)/\aS p (U b 0)=M (ah o n m):=⟨by rw[bL k];rfl,by rw[bL k];rfl⟩;have cn:=dW (i:=1) k;have l:bY g≠M b:=λq=>by
    rcases w.uq with L|⟨bo,L,hg⟩
    .exact HN<|L▸q
    .rw[L]at q;cases q;omega
   have t:(ct p (U b 1) g).heap[b]?=M (aw #[ah o n m,g,aO bF] 46 (0,0)):=(aT k).trans rfl;have V:zU (ct p (U b 1) g) g:=bf.ay (rH p b 1 g) (λK S bs=>l (by rw[S];exact bW M bs))<|λK S=>(v.lt K S).2;have W:=(rH p b 1 g).own v<|λK S bs=>l (by rw[S];exact bW M bs);have al:J (λK=>K=b\/bY (ah y (z f) x)=M K) a (ct p (U b 1) g):=((i.mono (T:=λK=>K=b\/bY (ah y (z f) x)=M K) cN).trans ad<|λ_ q=>.inl<|.inr q).trans (rH p b 1 g)<|λ_ q=>.inl<|.inl q;have E:bY g=bY (ah y (z f) x)\/∃bo,bY g=M bo/\G (H a)<=bo:=w.uq.imp id<|λ⟨bo,L,hg⟩=>⟨bo,L,by omega⟩;obtain⟨x2,c2,ca⟩:=aB v;subst ca;obtain⟨W3,P⟩:∃W3,ct p (U b 1) (ah x2 (z f+1) c2)=W3:=⟨_,rfl⟩;rw[P]at t W al V;have k1:=cellAt t 1 rfl;have j:=Z<|And.intro t (And.intro W (And.intro al (And.intro V E)));refine av _ _ (λ_=>r) ?_;try simp only[Act.put,dG,gp]
   clear av v w bf ad k l t W al V E ba i bi bk;refine aM (i:=12) rfl rfl (by kernel_rfl) ?_;intro ch B;go_simp;refine B _ _ (λ_=>r) ?_;try simp only[Act.put,dG,gp]
   clear B;refine aM (i:=13) rfl rfl (by kernel_rfl) ?_;intro cj C;go_simp;refine C _ _ (λ_=>r) ?_;try simp only[Act.put,dG,gp]
   clear C;refine aM (i:=14) rfl rfl (by kernel_rfl) ?_;intro ck D;go_simp;try rw[P]
   refine D _ _ wH ?_;try simp only[Act.put,dG,gp]
   clear D P r;refine cX (by kernel_rfl) ?_ _;show KK _ _;apply ax;clear ax;go_wp2;go_ret2
   refine⟨by simp,ah o n m,_,HP.1,HP.2,j.1,?_,j.2.2⟩;rw[TF,af];exact j.2.1
def EZ:(prog.info? 9).map (λi=>(i.zero,i.size,i.bytes))=M (M<|aj ⟨#[]⟩,1,16):=by kernel_rfl
def GF(a:cD ab)(n:ab):strs (a++[n])=strs a++[aj n]:=by simp[strs]
def EP{db:R}{K:DK}{w:I}(h:cU w db K)(hn:z K.files<=100000000):cA bG 95 #[aA db] w λav w'=>∃v' a,av=aP v'/\List.Perm a (K.files.map dp.name)/\w'.ownsRow (G<|H w) 9 1 v' (z a) (strs a)/\J az w w':=by
 obtain⟨i0,T,ad,al,an⟩:=cL EZ;have bc:=cellAt h.iN 0 rfl;have g:=Z h.now;clear h;go_in
 go_wp2_with(first
  |(at_range;refine ux _ rfl _ 70 rfl 9 125 underlying70 K.nb _ rfl g ?_;intro w0 i y bh;have N:=Z i;have u:=Z y;clear i y))
 go_frame
 go_loopw [3] (λo wr=>∃(au:cD dp)(a:cD ab),(a++au.map dp.name).Perm (K.files.map dp.name)/\wr.ownsRow (G<|H w) 9 1 o (z a) (strs a)/\bY o≠M (G<|H w)/\qJ wr K.nb (G<|H w) (K.files.map dp.nm) (au.map dp.nm)/\J az w wr) (λ_ wr=>wr.rangeLeft K.nb<|G<|H w)
 case atStart=>exact⟨K.files,[],nJ _,bN _ _ _ _,(by simp[bY]),N,J.dR u<|by simp⟩
 case round=>
  obtain⟨au,a,X,V,D,B,ht⟩:=hrel;have bg:z a<=100000000:=by have:=X.length_eq;simp at this;omega
  obtain⟨q,p,W⟩:=aB V;obtain⟨t,HT,HP,P,l⟩:=jX B ht X V D;clear B ht X V D;subst W;go_wp2_with(first
   |(at_next;refine vN _ rfl _ rfl K.nb (G (H w)) _ _ rfl t ?_ ?_))
  .intro o;obtain rfl:au=[]:=by simpa using o
   have e:=TC a P (by omega);go_wp2_with fail
   apply e.mono;rintro av s⟨rfl,r,c,b,f⟩;obtain⟨n,m,j⟩:=dI b f c;clear b f c e;go_wp2;go_ret;refine⟨_,r,rfl,?_,n,HT.trans m<|λk d=>.inr (P.lt k d).1⟩;have:=ae HP;simp only[fi,dO]at this;exact j.trans this
  .intro bi pk pv ao r L c A ac bd;obtain⟨bm,ba,bn,rfl,rfl,F,rfl⟩:=EC L;simp only[dp.nm,po,hZ]at F;obtain⟨rfl,rfl⟩:=F;have o:J (λk=>k=G (H w)) wr r:=fy A;have E:=o.own P (λk d Q=>ae l<|by rw[d,Q]);have C:=c.lt;obtain⟨O,v,m⟩:=dI c (HT.trans o<|λx a=>.inr<|by omega) E;have bb:K.nb≠G (H w):=λav=>c.ne av.symm;have bf:K.nb<G (H w):=g.lt;clear L c A ac o E;go_wp2_with(first
    |(at_builtin;go_loud(refine bV _ rfl (.tmp 14) (.tmp 16) 192 rfl (G (H w)) 9 i0 (.string ⟨#[]⟩) 1 16 underlying192 T ad al an rfl (by decide) (.slice q (z a) p) (z a) (strs a) rfl (aU m (.cells #[.string ba.name] 9)) (U (G (H r)) 0) 1 1 [.string ba.name] rfl rfl (tI _ _ _) (by simp[Value.oneCell']) (by omega) (by omega) (by have:=v.size;simp;omega) ?_;intro v2 w3 b j;obtain⟨bl,bk,rfl⟩:=aB b;have n:=Z b;have x:=Z j;clear b j)))
   have s:=Z (show qJ w3 K.nb (G<|H w) (K.files.map dp.nm) (bm.map dp.nm++bn.map dp.nm)from by
    have f:=ae x;have e:J (λk=>bY (ah q (z a) p)=M k) r w3:=((J.refl (λk=>bY (ah q (z a) p)=M k) r).alloc _).trans (J.dR (S:=λk=>bY (ah q (z a) p)=M k) f.grown (λk d=>.inl d)) (λk d=>.inl d);refine O.kept (e.block _ (by omega) (λQ=>?_)) (e.block _ C (λQ=>ae l Q));have:=(m.lt _ Q).1;omega)
   go_roundw;case rel=>
    have f:=ae x;have e:J (λk=>bY (ah q (z a) p)=M k) r w3:=((J.refl (λk=>bY (ah q (z a) p)=M k) r).alloc _).trans (J.dR (S:=λk=>bY (ah q (z a) p)=M k) f.grown<|λk d=>.inl d)<|λk d=>.inl d;refine⟨bm++bn,a++[ba.name],?_,?_,?_,?_,?_⟩
    .refine List.Perm.trans ?_ HP;rw[aW];refine lE _ ?_;simp only[aQ,aZ,jU];exact lj.symm
    .rw[GF,af];exact n
    .rcases f.uq with ax|⟨bo,ax,hg⟩
     .rw[ax];exact l
     .rw[ax];intro Q;cases Q;simp at hg;omega
    .rw[aQ];exact s
    .exact v.trans e<|λk d=>.inr (m.lt k d).1
   case measure=>rw[(ae s).left_eq,(ae t).left_eq];simp
