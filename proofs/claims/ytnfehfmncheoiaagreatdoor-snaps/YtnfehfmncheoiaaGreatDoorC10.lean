import Derived.BigRegion
import Derived.Test.YtnfehfmncheoiaaGreatDoorC5
import Derived.Test.YtnfehfmncheoiaaGreatDoorC6
import Derived.Test.YtnfehfmncheoiaaGreatDoorC7
open _root_ renaming List.length→y,Option.some→H,Array.size→z,Go.World.heap→G,Go.Value.ownBlock→bV,Go.World.cell?→aS,Go.World.setCell→bZ,Go.World.alloc→ct,Bool.false→bE,Bool.true→bU,Nat→M,Int→X,List→cr,Go.Calls→cw,Go.undef→iC,Go.Proofs.Tryz.prog→bF,Go.Value.slice→I,Go.Value.string→J,Go.Value.bool→aL,Go.Value.pointer→fh,Go.Value.tuple→dA,Go.Value.agg→eD
namespace Go.Proofs.YtnfehfmncheoiaaGreatDoor
open ChangeShapes WideShapes RowKit Proofs.Tryz
set_option maxHeartbeats 16000000
set_option linter.all false
set_option maxRecDepth 100000
variable{a f C:Y}{b c g l B P:M}{d s N:aa}{e L:cA}{j O:DK}{k:dW}{o:eK}{W:fI}{r:jm}{v:ab}{w:E}{x:iV}{A:mz}{V:Array aa}
def Dg{e cut f i:X}(h:lR a b (fh none) e cut f i c g l d A):cw bF 140 #[aw b] a λm k=>m=aO (aL bE)/\k=a:=by
 have j:=cellAt h.box 0 rfl;clear h;go_in
 go_wp2;go_ret;exact⟨rfl,rfl⟩
def BT(m:Addr){e cut f i:X}(h:lR a b (fh<|H m) e cut f i c g l d A):cw bF 140 #[aw b] a λn k=>n=aO (aL bU)/\k=a:=by
 have j:=cellAt h.box 0 rfl;clear h;go_in
 go_wp2;go_ret;exact⟨rfl,rfl⟩
def Ev(a cut b c:X):aa:=eD #[aI a,dr cut,dr b,dr c]
def Iu{c:Func}{p:Tmp}(m:c.results=#[.cell p 266])(a:Array aa)(w:Y)(g:M)(e f h i:X)(t:TypeId)(d:M×M)(l:a.getD p iC=aw g)(j:w.heap[g]?=H (aq #[aI e,dr f,dr h,dr i] t d)):(results c a).run bF w=.ok (Ev e f h i) w:=by
 have b:a[p]?.getD iC=aw g:=by simpa using l
 have k:=mO (P:=bF) w g t 266 #[aI e,dr f,dr h,dr i] d _ j underlying266 rfl (by kernel_rfl);simp[results,m,b,asAddr,k,Ev]
def Ub{e cut f i:X}(h:lR a b d e cut f i c g l s A):cw bF 203 #[aw b] a λq p=>q=aO (Ev e cut f i)/\Below (z<|G a) a p:=by
 have j:=cellAt h.box 1 rfl;have k:=cellAt h.box 2 rfl;have m:=cellAt h.box 3 rfl;have n:=cellAt h.box 4 rfl;have o:=aj h.box;clear h;go_in
 go_wp2;refine cI (Iu rfl _ _ (z<|G a) e cut f i _ _ rfl<|aC _ rfl) rfl ?_;exact⟨rfl,(Below.refl _ a).alloc (ah _) _⟩
def BY(c:M)(n:aa)(u:M)(f:u<18446744073709551616)(cut d i:X)(m e b:M)(g:aa)(q:mz)(h:lR a c n u cut d i m e b g q)(k:Pow a):cw bF 160 #[aw c] a λs r=>s=aO (J<|gJ u)/\Below (z<|G a) a r:=by
 have o:=cellAt h.box 1 rfl;have p:=AY u f k;clear h k;go_in
 go_wp2_with(go_at_call 202;refine p.mono ?_;rintro s t⟨rfl,j⟩;have l:=U j;clear j)
 go_ret;exact⟨rfl,l⟩
def SA{j cut n u:X}(q i AE d:M)(o:qS)(h:lR a b (fh none) j cut n u c g l (bC q i AE d) A)(B:o.pos+o.size<=AE)(S:AE<=d)(C:0<o.size)(T:AE<=1000000000000):cw bF 331 #[aw b,o.value] a λL K=>L=aO (dA #[bC q (i+o.pos) o.size (d-o.pos:M),.nilIface])/\Below (z<|G a) a K:=by
 obtain⟨pos,e,f,first,k⟩:=o;simp only at B C;unfold qS.value;simp only;have r:=aj h.box;have m:Below (z<|G a) a (ct a<|aq #[am pos,am e,am f,J first,J k] 347):=(Below.refl _ a).alloc (ah _) _;have t:=Dg<|h.below m h.lt.1 h.lt.2;have E:aS (ct a<|aq #[am pos,am e,am f,J first,J k] 347) (R b 6)=H (bC q i AE d):=by rw[pI _ _ _ r,bR h.box];rfl
 have v:∀(x:Bool)(a:Y),(Op.unary .not<|aL x).run bF a=.ok (aL<|!x) a:=λ_ _=>rfl;obtain⟨s,F⟩:∃s,pos+e=s:=⟨_,rfl⟩;have N:(pos:X)+(e:X)=(s:X):=by omega
 have O:IntKind.i64.wrap (s:X)=(s:X):=by rw[bO];omega
 have P:pos<s:=by omega
 have Q:s<=AE:=by omega
 have p:=U (show e=s-pos by omega);have w:=U m;clear h m F;go_in
 go_wp2_with(go_at_call 140;refine t.mono ?_;rintro L V⟨rfl,rfl⟩)
 go_quiet(fail)
 go_wp2;go_ret2
 have x:=ae p;have D:=ae w;subst x;exact⟨rfl,below_drewN D _⟩
def Z.of_heap{a b c:Y}(h:Z W a b)(j:(c.os,c.tape,c.output,c.heap)=(b.os,b.tape,b.output,b.heap)):Z W a c:=by
 obtain⟨e,g,i,d⟩:c.os=b.os/\c.tape=b.tape/\c.output=b.output/\c.heap=b.heap:=by simpa using j
 exact⟨e.trans h.os,g.trans h.tape,i.trans h.output,by rw[d];exact h.size,λk b j=>by rw[d];exact h.block k b j⟩
def bX(S:fI)(w:Y):Z S w w.drew:=⟨rfl,rfl,rfl,ah _,λ_ _ _=>rfl⟩
def gP(S:fI)(w:Y)(q:M):Z S w (w.drewN q):=⟨rfl,rfl,rfl,ah _,λ_ _ _=>rfl⟩
def cJ.TU(h:cJ a b j){t:TypeId}{k:M×M}(d:a.heap[c]?=H (aq V t k))(m:t≠73)(n:t≠261)(o:t≠302)(p:t≠129)(q:t≠5):¬j.aZ b c:=by
 rintro(rfl|rfl|rfl|g|⟨x,r,g⟩|⟨s,i,rfl|g⟩);exact iq d h.iH m rfl;exact h.now.tag d rfl;exact h.safe.tag d rfl;obtain⟨e,f⟩:=fD h.steps g;exact iq d f n rfl;obtain⟨e,l,f⟩:=(h.each x r).2.2 c g;exact iq d f o rfl;exact iq d (h.files s i).1 p rfl;obtain⟨e,f⟩:=fD (h.files s i).2.1 g;exact iq d f q rfl
def OS(au:g<18446744073709551616){cut v ba:X}(K:qS)(bf:df)(h:lR a b (aw c) g cut v ba l B P d A)(hd:cJ a c j)(hg:qN j.files (gJ g)=H bf)(hl:y bf.bytes<=1099511627776)(h1:K.pos+K.size<=y bf.bytes)(h3:0<K.size)(hp:Pow a):cw bF 331 #[aw b,K.value] a λbd r=>∃bc f i,bd=aO (dA #[bC bc f K.size i,.nilIface])/\K.size<=i/\Bytes r (bC bc f K.size i) ((bf.bytes.drop K.pos).take K.size)/\Z (j.aZ c) a r/\∃s,cJ r c s/\s.files=j.files/\s.eO=j.eO/\∀K,s.aZ c K->j.aZ c K:=by
 obtain⟨pos,e,n,first,w⟩:=K;simp only at h1 h3;unfold qS.value;simp only;have bo:=aj h.box;have o:Below (z<|G a) a (ct a<|aq #[am pos,am e,am n,J first,J w] 347):=(Below.refl _ a).alloc (ah _) _;have k:=h.below o h.lt.1 h.lt.2;have av:=BT (R c 0) k;have bl:∀(bm:Bool)(a:Y),(Op.unary .not<|aL bm).run bF a=.ok (aL<|!bm) a:=λ_ _=>rfl;have N:=cellAt k.box 0 rfl;obtain⟨m,t⟩:∃m,m=ct a (aq #[am pos,am e,am n,J first,J w] 347):=⟨_,rfl⟩;have x:BS m (z<|G a) ⟨pos,e,n,first,w⟩:=by rw[t];exact aC _ rfl
 have ax:z (G m)=z (G a)+1:=by rw[t];simp
 have E:b<z (G m):=by omega
 rw[<-t]at o k av N;have ad:aS m (R (z<|G a) 0)=H (am pos):=x.cells.1;have al:aS m (R (z<|G a) 1)=H (am e):=x.cells.2.1;have ac:Pow m:=hp.ar (S:=az) (Z.aT o)<|λV=>V;have W:cJ m c j:=hd.ar (S:=az) (Z.aT o)<|λ_ _ V=>V;have HN:=U (show∀bb,bb.heap=m.heap->cw bF 160 #[aw b] bb λbd r=>bd=aO (J<|gJ g)/\Below (z<|G bb) bb r fromλbb Q=>BY b (aw c) g au cut v ba l B P d A ⟨by rw[Q];exact k.box,λj bm e=>by rw[cH (w:=m)<|by rw[Q]];exact k.cells j bm e,k.ne,k.le,k.small⟩<|ac.dh<|by rw[Q]);have ao:¬j.aZ c b:=hd.TU h.box (by decide) (by decide) (by decide) (by decide) (by decide);have O:¬j.aZ c (z<|G a):=λV=>by have:=hd.lt _ V;omega
 have HR:=U (show∀bb,Below (z<|G m.drew) m.drew bb->cw bF 155 #[aw c,J<|gJ g,am pos,am e] bb λbd r=>∃bc f i,bd=aO (dA #[bC bc f e i,.nilIface])/\(aS r (R b 0)=H (aw c)/\aS r (R (z<|G a) 0)=H (am pos)/\aS r (R (z<|G a) 1)=H (am e))/\(e<=i/\Bytes r (bC bc f e i) ((bf.bytes.drop pos).take e)/\Z (j.aZ c) a r/\∃s,cJ r c s/\s.files=j.files/\s.eO=j.eO/\∀K,s.aZ c K->j.aZ c K)fromλbb bi=>by
  have Q:Z az m bb:=(bX _ m).ci<|Z.aT (S:=az) bi;have bh:=W.ar Q<|λ_ _ V=>V;apply(Bh (gJ g) bf pos e bh hg hl (by omega)<|by omega).mono;rintro bd r⟨v',rfl,ho,s,D,e1,e2,e3⟩;have q:y ((bf.bytes.drop pos).take e)=e:=by simp;omega
  have L:=ho.bytes;have C:Z (j.aZ c) m r:=(Q.mono (T:=j.aZ c) cG).trans D.ar<|λ_ V=>.inl V;rcases L.shape with⟨_,h0⟩|⟨bc,f,i,rfl,an⟩
  .rw[h0]at q;simp at q;omega
  .rw[q]at an L;exact⟨bc,f,i,by rw[q],⟨C.cell N ao E,C.cell ad O (by omega),C.cell al O (by omega)⟩,an,L,(Z.aT (S:=j.aZ c) o).trans C (λ_ V=>.inl V),s,D.ok,e1,e2,e3⟩)
 obtain⟨HB,HW,HZ,bn⟩:=gx o t ax x;have F:z (G a)<z (G m):=by omega
 clear h o hd hg hl h1 hp k ac W x ax t ao O;go_in
 go_wp2_with(go_at_call 140;rw[<-(ae HW)];refine av.mono ?_;rintro bd w1⟨rfl,bk⟩;subst bk)
 go_region_held3(λd=>aS d (R b 0)=H (aw c)/\aS d (R (z<|G a) 0)=H (am pos)/\aS d (R (z<|G a) 1)=H (am e)) (first|assumption|go_keep) (first
  |(go_at_call 160;go_loud(refine(HN w1.drew rfl).mono ?_;rintro bd w2⟨rfl,u⟩;have bp:aS w2 (R b 0)=H (aw c)/\aS w2 (R (z<|G a) 0)=H (.int .i64 pos)/\aS w2 (R (z<|G a) 1)=H (.int .i64 e):=⟨(u.cell (p:=(R b 0)) E).trans (by rw[bA];exact N),(u.cell (p:=(R (z<|G a) 0)) F).trans (by rw[bA];exact ad),(u.cell (p:=(R (z<|G a) 1)) F).trans (by rw[bA];exact al)⟩;have bg:=U u;clear u))
  |(go_at_call 155;go_loud(refine(HR w2 bg).mono ?_;rintro bd w3⟨bc,f,i,rfl,bq,r1⟩;have R1:=U r1;clear r1)))
 go_wp2;go_ret2
 exact⟨bc,f,i,rfl,R1⟩
def dG(a:dW):eK:=(a.map<|λc=>iD<|fE c).flatten
def gu(a:eK):y (iD a)=y a+4:=by simp[iD,bY]
def oN(c:cA)(a:dW):dG (c::a)=iD (fE c)++dG a:=by simp[dG]
def Jo(b a:dW):dG (b++a)=dG b++dG a:=by simp[dG]
def Cw(a:dW)(i:M)(h:i<y a):dG a=dG (a.take i)++(iD (fE a[i])++dG (a.drop<|i+1)):=by
 conv=>lhs;rw[<-bW i a,bD h]
 rw[Jo,oN]
def EY(a:dW)(b:eK)(i:M)(h:i<y a):((dG a++b).drop<|y<|dG<|a.take i).take (y (fE a[i])+4)=iD (fE a[i]):=by
 rw[Cw a i h,aU,sG,aU,<-gu,pM]
def Jn(a:dW)(i:M)(h:i<y a):y (dG<|a.take i)+(y (fE a[i])+4)<=y (dG a):=by
 rw[Cw a i h];simp[gu]
structure tE(ks:mz)(cs:dW):Prop where
 len:y ks=y cs
 ne:0<y cs
 Ee:∀i(hi:i<y ks)(hc:i<y cs),ks[i].Of cs[i]
 pos:∀i(hi:i<y ks),ks[i].pos=y (dG<|cs.take i)
 jd:∀c∈cs,∀x∈c,x.Good
 mq:dQ cs.flatten
 CT:cs.Pairwise gS
 small:∀c∈cs,y c<=1000
def Bytes.same{V:jm}{n0:M}{S:fI}(h:Bytes a d o)(i:jJ V n0 S a f)(j:∀k,bV d=H k->k<n0/\¬V.F k):Bytes f d o:=by
 rcases h with⟨rfl,rfl⟩|⟨l,b,c,rfl,e,g⟩;exact .inl ⟨rfl,rfl⟩;exact .inr ⟨l,b,c,rfl,e,λk h=>i.cell (.inr<|j l rfl)<|g k h⟩
def nG.Xw(V:jm)(r e:M)(i cut m C:X)(t o g j b a:M)(h:mz)(d:dW)(P:Y)(K:lR P e (fh none) i cut m C t o g (bC j b (y<|dG d) a) h)(k:tE h d)(W:Bytes P (bC j b (y<|dG d) a) (dG d))(w:y (dG d)<=a)(A:y (dG d)<=1000000000000)(D:e<r/\¬V.F e)(E:t<r/\¬V.F t)(Q:j<r/\¬V.F j)(B:Steps P)(x:1<r/\¬V.F 1):nG V r e h d P where
 mem:=⟨_,_,_,_,_,_,_,_,_,K,D,E⟩
 len:=k.len
 Ee:=k.Ee
 jd:=k.jd
 mq:=k.mq
 CT:=k.CT
 small:=k.small
 steps:=B
 zQ:=x
 bytes:=by
  intro s F u ad L T;have O:=k.Ee s F u;have c:=k.pos s F;have l:=Jn d s u;refine(SA j b (y<|dG d) a h[s] (K.same L D E) (by rw[c,O.size];exact l) w (by rw[O.size];omega) A).mono ?_;rintro ac W'⟨rfl,f⟩;refine⟨j,b+h[s].pos,a-h[s].pos,rfl,by rw[c,O.size];omega,?_,V.fm T (Z.aT (S:=az) f) cG,Z.aT f⟩;have p:Bytes ad (bC j b (y<|dG d) a) (dG d):=W.same L (λal v=>by cases v;exact Q);have hd:=p.BD (n:=h[s].pos) (by rw[c];omega);have N:=Bytes.take (bs:=(dG d).drop h[s].pos) (n:=h[s].size) (by simpa using hd) (by simp;rw[c,O.size];omega);have q:=EY d [] s u;rw[dI,<-c,<-O.size]at q;rw[q]at N;refine N.below f<|λal v=>?_;cases v;have hx:=p.lt (bs:=dG d) (by intro ac;rw[ac]at l;simp at l) j rfl;exact hx
def AF(c:M)(f:cr df)(eO:cr (aa×cr Mv))(F:fI):jm where
 D W:=(∀k,F k->k<z (G W))/\∃K,cJ W c K/\K.files=f/\K.eO=eO/\∀k,K.aZ c k->F k
 F:=F
 fm:=by
  rintro w l S⟨b,K,g,h,i,d⟩e j;exact⟨λk a=>ag (b k a) e.size,K,g.ar e<|λk a c=>j k c<|d k a,h,i,d⟩
 lt:=by
  rintro w k⟨b,_⟩a;exact b k a
def nG.Pr(E:M)(N:cr df)(eO:cr (aa×cr Mv))(F:fI)(m a au:M)(hu:au<18446744073709551616)(cut f C:X)(o h b:M)(q:aa)(n:mz)(i:dW)(ad:df)(e:eK)(al:Y)(T:lR al a (aw E) au cut f C o h b q n)(c:tE n i)(hf:qN N (gJ au)=H ad)(k:ad.bytes=dG i++e)(t:y ad.bytes<=1099511627776)(O:a<m/\¬F a)(P:o<m/\¬F o)(B:Steps al)(A:1<m/\¬F 1)(x:Pow al)(w:2<m/\¬F 2):nG (AF E N eO F) m a n i al where
 mem:=⟨_,_,_,_,_,_,_,_,_,T,O,P⟩
 len:=c.len
 Ee:=c.Ee
 jd:=c.jd
 mq:=c.mq
 CT:=c.CT
 small:=c.small
 steps:=B
 zQ:=A
 bytes:=by
  rintro ac S s ba V⟨v,ax,hK,K,e2,L⟩;have ao:=c.Ee ac S s;have d:=c.pos ac S;have an:=Jn i ac s;refine(OS hu n[ac] ad (T.same V O P) hK (by rw[K];exact hf) t (by rw[d,ao.size,k,af];omega) (by rw[ao.size];omega)<|x.dh<|V.2 _<|.inl w).mono ?_;rintro bb W'⟨av,g,p,rfl,u,Q,W,K',r,f1,f2,f3⟩;refine⟨av,g,p,rfl,u,?_,⟨λD l=>ag (v D l) W.size,K',r,f1.trans K,f2.trans e2,λD l=>L D<|f3 D l⟩,W.mono<|λD l=>.inl<|L D l⟩;have j:=EY i e ac s;rw[<-d,<-ao.size,<-k]at j;rw[j]at Q;exact Q
def RO:(prog.info? 347).map (λi=>(i.zero,i.size,i.bytes))=H (H<|eD #[am 0,am 0,am 0,J ⟨#[]⟩,J ⟨#[]⟩],5,56):=by kernel_rfl
def OQ(w:Y)(x a b u v:aa)(t:TypeId):∀j q,[x,a,b,u,v][j]?=H q->aS (ct w<|aq #[x,a,b,u,v] t) (((R (z<|G w) 0):Addr).add j)=H q:=by
 intro j q c;rw[du];unfold World.cell?;rw[fw];simpa using c
def Z.fy(h:eR a f d s):Z (λk=>bV d=H k) a f:=Z.dM h.grown<|λ_ e=>.inl e
def dV.ar{w w':Y}{t:TypeId}{S:fI}(h:dV w b d t)(c:Z S w w')(a:¬S b):dV w' b d t:=(c.block b (aj h) a).trans h
def rk(w:Y)(b i:M)(u:aa):Z (λk=>k=b) w (bZ w (R b i) u):=(Z.refl (λk=>k=b) w).setCell b i u<|.inl rfl
structure lQ(W:Y)(base bl bd bp bk bf bt:M)(lv dv pv kv:aa)(fr to:M)(ds ps:eK)(ks:mz):Prop where
 l:dV W bl lv 102
 d:dV W bd dv 126
 p:dV W bp pv 126
 k:dV W bk kv 289
 f:dV W bf (am fr) 3
 t:dV W bt (am to) 3
 od:eJ W base dv ds
 op:eJ W base pv ps
 ok:W.ownsRow base 347 5 kv (y ks) (er ks)
 ne:∀x,bV dv=H x->bV pv≠H x
 ord:bl<bd/\bd<bp/\bp<bk/\bk<bf/\bf<bt/\bt<base
 size:base<=z (G W)
def Ff(a:mz)(k:qS):er (a++[k])=er a++k.cells:=by simp[er]
def lQ.jV{e k i l bk j m:M}{h:aa}{p:eK}(n:lQ a e k i l bk j m d s N h b c o p A)(q:g<e):¬(bV s=H g)/\¬(bV N=H g)/\¬(bV h=H g):=⟨λf=>by have:=(n.od.lt g f).1;omega,λf=>by have:=(n.op.lt g f).1;omega,λf=>by have:=(aF n.ok g f).1;omega⟩
def kD(h:a.ownsRow b c g d l x)(f:B<b):(bZ a (R B P) s).ownsRow b c g d l x:=(rk a B P s).own h (λk e i=>by have:=(aF h k e).1;omega)
def lQ.kd{e n l p bk m q:M}{j:aa}{t:eK}(k:lQ a e n l p bk m q d s N j b c o t A):(∀x,bV j=H x->bV s≠H x)/\(∀x,bV j=H x->bV N≠H x):=by
 constructor;intro x r g;obtain⟨c1,h⟩:=fD k.ok r;obtain⟨c2,i⟩:=fD k.od g;exact iq h i (by decide) rfl;intro x r g;obtain⟨c1,h⟩:=fD k.ok r;obtain⟨c2,i⟩:=fD k.op g;exact iq h i (by decide) rfl
def lQ.piece{e o m j bk n p:M}{t g:aa}{q B ps1:eK}(h:lQ a e o m j bk n p d s N t b c q B A)(i:Z (λr=>bV N=H r) a f)(x:bV g=bV N\/∃v,bV g=H v/\z (G a)<=v)(w:eJ f e g ps1):lQ (bZ f (R j 0) g) e o m j bk n p d s g t b c q ps1 A:=by
 have D:=h.ord;refine⟨(h.l.ar i (h.jV<|by omega).2.1).other _ (by omega),(h.d.ar i (h.jV<|by omega).2.1).other _ (by omega),(h.p.ar i (h.jV<|by omega).2.1).set _,(h.k.ar i (h.jV<|by omega).2.1).other _ (by omega),(h.f.ar i (h.jV<|by omega).2.1).other _ (by omega),(h.t.ar i (h.jV<|by omega).2.1).other _ (by omega),kD (i.own h.od<|λr l=>h.ne r l) (by omega),kD w (by omega),kD (i.own h.ok<|λr l=>h.kd.2 r l) (by omega),λE l k=>?_,D,by rw[gz];exact aD h.size i.size⟩;rcases x with u|⟨v,u,C⟩;exact h.ne E l<|u▸k;rw[u]at k;cases k;have:=(h.od.lt _ l).2;omega
def lQ.blocks{e m k n bk l p:M}{r i:aa}{t:eK}{w ks1:mz}(h:lQ a e m k n bk l p d s N r b c o t w)(g:Z (λq=>bV r=H q) a f)(v:f.ownsRow e 347 5 i (y ks1) (er ks1)):lQ (bZ f (R bk 0) i) e m k n bk l p d s N i b c o t ks1:=by
 have x:=h.ord;exact⟨(h.l.ar g (h.jV<|by omega).2.2).other _ (by omega),(h.d.ar g (h.jV<|by omega).2.2).other _ (by omega),(h.p.ar g (h.jV<|by omega).2.2).other _ (by omega),(h.k.ar g (h.jV<|by omega).2.2).set _,(h.f.ar g (h.jV<|by omega).2.2).other _ (by omega),(h.t.ar g (h.jV<|by omega).2.2).other _ (by omega),kD (g.own h.od<|λq u j=>h.kd.1 q j u) (by omega),kD (g.own h.op<|λq u j=>h.kd.2 q j u) (by omega),kD v (by omega),h.ne,x,by rw[gz];exact aD h.size g.size⟩
def lQ.data{e n k o bk m p:M}{r g:aa}{v ds1 t:eK}(h:lQ a e n k o bk m p d s N r b c v t A)(i:Z (λq=>bV s=H q) a C)(B:bV g=bV s\/∃w,bV g=H w/\z (G a)<=w)(x:eJ C e g ds1):lQ (bZ C (R k 0) g) e n k o bk m p d g N r b c ds1 t A:=by
 have E:=h.ord;refine⟨(h.l.ar i (h.jV<|by omega).1).other _ (by omega),(h.d.ar i (h.jV<|by omega).1).set _,(h.p.ar i (h.jV<|by omega).1).other _ (by omega),(h.k.ar i (h.jV<|by omega).1).other _ (by omega),(h.f.ar i (h.jV<|by omega).1).other _ (by omega),(h.t.ar i (h.jV<|by omega).1).other _ (by omega),kD x (by omega),kD (i.own h.op<|λq l j=>h.ne q j l) (by omega),kD (i.own h.ok<|λq l=>h.kd.1 q l) (by omega),λK l j=>?_,E,by rw[gz];exact aD h.size i.size⟩;rcases B with u|⟨w,u,D⟩;exact h.ne K (u▸l) j;rw[u]at l;cases l;have:=(h.op.lt _ j).2;omega
def lQ.fin{e j i g bk f k:M}{l:aa}{m:eK}(h:lQ a e j i g bk f k d s N l b c o m A):lQ (bZ (bZ a (R g 0) aK) (R f 0)<|am c) e j i g bk f k d s aK l c c o [] A:=by
 have p:=h.ord;exact⟨(h.l.other _<|by omega).other _ (by omega),(h.d.other _<|by omega).other _ (by omega),(h.p.set _).other _ (by omega),(h.k.other _<|by omega).other _ (by omega),(h.f.other _<|by omega).set _,(h.t.other _<|by omega).other _ (by omega),kD (kD h.od<|by omega) (by omega),eJ.nil _ _,kD (kD h.ok<|by omega) (by omega),(λx _ n=>by cases n),p,by rw[gz,gz];exact h.size⟩
def lQ.YN{e j i g bk f k:M}{l:aa}{m:eK}(h:lQ a e j i g bk f k d s N l b c o m A):lQ (bZ (bZ a (R f 0)<|am c) (R g 0) aK) e j i g bk f k d s aK l c c o [] A:=by
 have p:=h.ord;exact⟨(h.l.other _<|by omega).other _ (by omega),(h.d.other _<|by omega).other _ (by omega),(h.p.other _<|by omega).set _,(h.k.other _<|by omega).other _ (by omega),(h.f.set _).other _ (by omega),(h.t.other _<|by omega).other _ (by omega),kD (kD h.od<|by omega) (by omega),eJ.nil _ _,kD (kD h.ok<|by omega) (by omega),(λx _ n=>by cases n),p,by rw[gz,gz];exact h.size⟩
def lQ.at{e l j m bk k g:M}{n:aa}{q:eK}(h:lQ a e l j m bk k g d s N n b c o q A)(r:M):lQ (bZ a (R g 0)<|am r) e l j m bk k g d s N n b r o q A:=by
 have t:=h.ord;exact⟨h.l.other _ (by omega),h.d.other _ (by omega),h.p.other _ (by omega),h.k.other _ (by omega),h.f.other _ (by omega),h.t.set _,kD h.od (by omega),kD h.op (by omega),kD h.ok (by omega),h.ne,t,by rw[gz];exact h.size⟩
def ux(a b:M)(c e d:aa)(x:M):Prop:=(a<=x/\x<=b)\/bV c=H x\/bV e=H x\/bV d=H x
def lQ.low{e f k m bk l h:M}{i:aa}{n:eK}(j:lQ a e f k m bk l h d s N i b c o n A):∀x,ux f h s N i x->f<=x:=by
 have p:=j.ord;rintro x(⟨g,_⟩|g|g|g);exact g;have:=(j.od.lt x g).1;omega;have:=(j.op.lt x g).1;omega;have:=(aF j.ok x g).1;omega
def lQ.ar{W w':Y}{a k g l bk j m:M}{p:aa}{q:eK}(h:lQ W a k g l bk j m d s N p b c o q A)(e:Z az W w'):lQ w' a k g l bk j m d s N p b c o q A:=⟨h.l.ar e id,h.d.ar e id,h.p.ar e id,h.k.ar e id,h.f.ar e id,h.t.ar e id,e.own h.od<|λ_ _ n=>n,e.own h.op<|λ_ _ n=>n,e.own h.ok<|λ_ _ n=>n,h.ne,h.ord,aD h.size e.size⟩
def lQ.XX{e l p r bk q m:M}{n:aa}{t:eK}(i:lQ a e l p r bk q m d s N n b c o t A)(g:Z W a f)(h:∀k,ux l m s N n k->¬W k):lQ f e l p r bk q m d s N n b c o t A:=by
 have j:=i.ord;exact⟨i.l.ar g<|h _<|.inl ⟨by omega,by omega⟩,i.d.ar g<|h _<|.inl ⟨by omega,by omega⟩,i.p.ar g<|h _<|.inl ⟨by omega,by omega⟩,i.k.ar g<|h _<|.inl ⟨by omega,by omega⟩,i.f.ar g<|h _<|.inl ⟨by omega,by omega⟩,i.t.ar g<|h _<|.inl ⟨by omega,by omega⟩,g.own i.od<|λk j=>h k<|.inr<|.inl j,g.own i.op<|λk j=>h k<|.inr<|.inr<|.inl j,g.own i.ok<|λk j=>h k<|.inr<|.inr<|.inr j,i.ne,i.ord,aD i.size g.size⟩
def lQ.uY{e g k m bk l h:M}{j:aa}{n:eK}(i:lQ a e g k m bk l h d s N j b c o n A):∀x,ux g h s N j x->x<z (G a):=by
 have q:=i.ord;have p:=i.size;rintro x(⟨_,f⟩|f|f|f);omega;exact(i.od.lt x f).2;exact(i.op.lt x f).2;exact(aF i.ok x f).2
def Z.low(j:Z W a f)(h:∀x,W x->b<=x)(k:c<b)(e:aS a (R c g)=H d):aS f (R c g)=H d:=j.cell e (λi=>by have:=h c i;omega)<|da a (R c g) e
def kE{P:Program}{x:Oper}{w:Act}{ac:Act->Y->Prop}{au:Exit->Act->Y->Prop}(an ao:Operand)(A:TypeId)(o:x.op=Op.call {callee:=Callee.builtin Builtin.append,args:=#[an,ao],argTypes:=#[A,A]})(b:M)(t:TypeId)(u:TypeInfo)(i:aa)(c bytes:M)(V:P.underlying A=H (.slice t))(N:P.info? t=H u)(hz:u.zero=H i)(h:u.size=c)(n:u.bytes=bytes)(q:i.cells.size=c)(p:0<c)(C:aa)(v:M)(r:iV)(S:w.eval an=C)(j:a.ownsRow b t c C v r)(m:Addr)(s ad:M)(d:iV)(W:w.eval ao=I (H m) s ad)(O:y d=s*c)(g:∀al B,d[al]?=H B->aS a (m.add al)=H B)(D:∀B∈d,B.oneCell'=bU)(hn:v+s<=140737488355328)(e:(v+s)*bytes<=140737488355328)(f:b<=z (G a))(L:∀k l,l.ownsRow b t c k (v+s) (r++d)->eR a l C k->ac (w.put x.dst k) l):Oper.wp P x w a ac au:=by
 obtain⟨k,l,Q,E,F,_,K⟩:=mY (P:=P) a b A x.type t u i c bytes V N hz h n q p C v r j m s ad d O g D (by unfold maxLen;omega) e f;unfold Oper.wp;simp[execOp,o,resolve,invoke,builtin,S,W,Q,Result.andThen];exact L k l E<|eR.of F K
def tv(h:Bytes a (bC b c g l) o):∀j u,(o.map<|Value.int .u8)[j]?=H u->aS a (((R b c):Addr).add j)=H u:=by
 intro j u e;rw[du];rcases h with⟨h,_⟩|⟨p,k,f,h,_,n⟩;cases h;cases h;(have d:j<y o:=by rcases dE j (y o)with m|m;exact m;rw[dq<|by simpa using m]at e;cases e);have i:=n j d;rw[dz,aH d]at e;rw[aH d]at i;cases e;exact i
def Wu{f D E q bk L u:M}(ao e w bp:M)(t1:M){j:eK}(kf kl:ab)(h:lQ a f D E q bk L u (bC ao e bp w) d s N b c o j A)(hT:Steps a)(hg:ao<D)(c0:aS a (R ao<|e+b*4)=H (J kf))(c1:aS a (R ao<|e+t1*4)=H (J kl))(ee:b<bp)(ek:t1<bp)(cT:c=t1+1)(ef:b<=t1)(hL:bp<=1000000000)(ed:y o<=100000000000)(ej:y j<=100000)(eg:y A<=1000000000):cw bF 221 #[aw q,aw bk,aw E,aw u,aw L,aw D] a λch w'=>
 ch=aO (dA #[])/\(∃au bc,lQ w' f D E q bk L u (bC ao e bp w) au aK bc c c (o++iD j) [] (A++[⟨y o,y j+4,c-b,kf,kl⟩])/\(∀K,bV au=H K->bV d=H K\/z (G a)<=K)/\(∀K,bV bc=H K->bV N=H K\/z (G a)<=K))/\Z (ux D u d s N) a w':=by
 obtain⟨i0,cv,dk,dm,dn⟩:=cz RO
 obtain⟨j0,cx,db,dc,dd⟩:=cz qh
 have dx:=h.ord
 have cM:=h.size
 have cb:=DG hT h.op cM<|by omega
 obtain⟨S,Q,cs⟩:=aB h.od
 obtain⟨W,V,cE⟩:=aB h.ok
 subst cs
 subst cE
 have q1:=h.p.cell
 have q2:=h.p.free
 have F:=h.low
 have bq:=U c0
 have br:=U c1
 obtain⟨PK,bn⟩:∃PK,c-b=PK:=⟨_,rfl⟩
 rw[bn]
 have e1:(c:X)-(b:X)=(PK:X):=by omega
 have e2:(c:X)-1=(t1:X):=by omega
 have e3:IntKind.i64.wrap (PK:X)=(PK:X):=by rw[bO];omega
 have e4:IntKind.i64.wrap (t1:X)=(t1:X):=by rw[bO];omega
 have e5:(b:X)<(bp:X):=by omega
 have e6:(t1:X)<(bp:X):=by omega
 have cn:=U (show∀C w1,eJ w1 f C (j++le 4 (mr j))->eR a w1 s C->∃pb k pc,C=bC pb k (y j+4) pc/\(aS w1 (R q 0)=H s/\w1.frozen? (R q 0)=bE)/\lQ (bZ w1 (R q 0) C) f D E q bk L u (bC ao e bp w) (I S (y o) Q) C (I W (y A) V) b c o (j++le 4 (mr j)) A/\Z (ux D u (I S (y o) Q) s<|I W (y A) V) a (bZ w1 (R q 0) C)from by
  intro C w1 av ad;have B:y (j++le 4 (mr j))=y j+4:=by simp[bY]
  have O:=h.p.ar (Z.fy ad) (h.jV<|by omega).2.1;have g:=h.piece (Z.fy ad) ad.uc av;have x:=((Z.fy ad).mono (T:=ux D u (I S (y o) Q) s<|I W (y A) V)<|λK t=>.inl<|.inr<|.inr<|.inl t).setCell q 0 C<|.inl<|.inl ⟨by omega,by omega⟩;rcases av.bytes.shape with⟨_,h0⟩|⟨pb,k,pc,h0,h1⟩
  .rw[h0]at B;simp at B
  .rw[B]at h0;exact⟨pb,k,pc,h0,⟨O.cell,O.free⟩,g,x⟩)
 clear h hT c0 c1 cT bn
 go_in
 go_wp2_with(go_at_call 188;refine cb.mono ?_;rintro ch w1⟨C,rfl,av,ad⟩;obtain⟨pb,k,pc,rfl,⟨cp,cu⟩,g,x⟩:=cn C w1 av ad;have bv:=U g;have bu:=U x;clear g x av ad)
 have g:=ae bv
 have x:=ae bu
 clear bv bu cp cu
 generalize bZ w1 (R q 0) (bC pb k (y j+4) pc)=p at*
 clear cb q1 q2
 have k0:aS p (R ao<|e+b*4)=H (J kf):=x.low F hg bq
 have k1:aS p (R ao<|e+t1*4)=H (J kl):=x.low F hg br
 have l1:=g.l.cell
 have l2:=g.d.cell
 have l3:=g.p.cell
 have l4:=g.k.cell
 have l5:=g.f.cell
 have l6:=g.t.cell
 have bx:=U (show∀(m:Obj)P n,n.ownsRow f 347 5 P (y A+1) (er A++[am<|y o,am<|(y j:X)+4,am PK,J kf,J kl])->eR (ct p m).drew n (I W (y A) V) P->lQ (bZ n (R bk 0) P) f D E q bk L u (bC ao e bp w) (I S (y o) Q) (bC pb k (y j+4) pc) P b c o (j++le 4 (mr j)) (A++[⟨y o,y j+4,PK,kf,kl⟩])/\Z (ux D u (I S (y o) Q) s<|I W (y A) V) a (bZ n (R bk 0) P)/\(aS n (R ao<|e+b*4)=H (J kf)/\aS n (R ao<|e+t1*4)=H (J kl)/\aS n (R D 0)=H (bC ao e bp w)/\aS n (R E 0)=H (I S (y o) Q)/\aS n (R q 0)=H (bC pb k (y j+4:M) pc)/\aS n (R L 0)=H (am b)/\aS n (R u 0)=H (am c))/\aS n (R bk 0)=H (I W (y A) V)/\(aS (bZ n (R bk 0) P) (R ao<|e+b*4)=H (J kf)/\aS (bZ n (R bk 0) P) (R ao<|e+t1*4)=H (J kl)/\aS (bZ n (R bk 0) P) (R D 0)=H (bC ao e bp w)/\aS (bZ n (R bk 0) P) (R E 0)=H (I S (y o) Q)/\aS (bZ n (R bk 0) P) (R q 0)=H (bC pb k (y j+4:M) pc)/\aS (bZ n (R bk 0) P) (R L 0)=H (am b)/\aS (bZ n (R bk 0) P) (R u 0)=H (am c))/\n.frozen? (R bk 0)=bE/\(∀K,bV P=H K->bV (I W (y A) V)=H K\/z (G a)<=K)from by
  intro m P n ax bb;have B:Z (λK=>bV (I W (y A) V)=H K) p n:=(((Z.refl _ p).alloc m).trans (bX _ _)<|λK t=>.inl t).trans (Z.fy bb)<|λK t=>.inl t;have O:=g.k.ar B (g.jV<|by omega).2.2;have l:=g.blocks (ks1:=A++[⟨y o,y j+4,PK,kf,kl⟩]) B (by rw[Ff,af];exact ax);have bo:∀K,bV (I W (y A) V)=H K->f<=K:=λK t=>(aF g.ok K t).1;have ac:Z (ux D u (I S (y o) Q) s<|I W (y A) V) a (bZ n (R bk 0) P):=(x.trans B<|λK t=>.inl<|.inr<|.inr<|.inr t).setCell bk 0 _<|.inl<|.inl ⟨by omega,by omega⟩;exact⟨l,ac,⟨B.low bo (by omega) k0,B.low bo (by omega) k1,(g.l.ar B (g.jV<|by omega).2.2).cell,(g.d.ar B (g.jV<|by omega).2.2).cell,(g.p.ar B (g.jV<|by omega).2.2).cell,(g.f.ar B (g.jV<|by omega).2.2).cell,(g.t.ar B (g.jV<|by omega).2.2).cell⟩,O.cell,⟨ac.low F hg bq,ac.low F hg br,l.l.cell,l.d.cell,l.p.cell,l.f.cell,l.t.cell⟩,O.free,λK t=>by
   rcases bb.uc with ch|⟨ce,ch,hy⟩
   .exact .inl<|ch▸t
   .rw[ch]at t;cases t;have h1:=x.size;have h2:z (G p)<z (G (ct p m).drew):=by simp[World.drew,World.drewN]
    exact .inr (by omega)⟩)
 have bt:=U g.ok
 have dT:f<=z (G p):=g.size
 have b1:ao<z (G p):=by omega
 have b2:D<z (G p):=by omega
 have b3:E<z (G p):=by omega
 have b4:q<z (G p):=by omega
 have b5:bk<z (G p):=by omega
 have b6:L<z (G p):=by omega
 have b7:u<z (G p):=by omega
 clear g x
 have hS:(aS p.drew (R ao<|e+b*4)=H (J kf)/\aS p.drew (R ao<|e+t1*4)=H (J kl)/\aS p.drew (R D 0)=H (bC ao e bp w)/\aS p.drew (R E 0)=H (I S (y o) Q)/\aS p.drew (R q 0)=H (bC pb k (y j+4:M) pc)/\aS p.drew (R bk 0)=H (I W (y A) V)/\aS p.drew (R L 0)=H (am b)/\aS p.drew (R u 0)=H (am c)):=⟨by rw[bA];exact k0,by rw[bA];exact k1,by rw[bA];exact l1,by rw[bA];exact l2,by rw[bA];exact l3,by rw[bA];exact l4,by rw[bA];exact l5,by rw[bA];exact l6⟩
 rename_i QQ KK bT
 refine cg (λm=>(aS m (R ao<|e+b*4)=H (J kf)/\aS m (R ao<|e+t1*4)=H (J kl)/\aS m (R D 0)=H (bC ao e bp w)/\aS m (R E 0)=H (I S (y o) Q)/\aS m (R q 0)=H (bC pb k (y j+4:M) pc)/\aS m (R bk 0)=H (I W (y A) V)/\aS m (R L 0)=H (am b)/\aS m (R u 0)=H (am c))) 22 (by kernel_rfl) ?_
 refine cQ 0 ?_
 iterate 20 (refine eE (v:=?_) hS rfl (by kernel_rfl) iO rfl ?_ ?_;rotate_left;(focus(intro m hX;obtain⟨x0,x1,x2,x3,x4,x5,x6,x7⟩:=hX;go_simp;try rfl));simp only[Act.put,cX,Nat.reduceAdd])
 apply eh
 refine aJ (i:=20) rfl rfl (by kernel_rfl) ?_
 intro ea bg
 go_simp
 refine bg _ _ (λ_=>?_) ?_
 .exact⟨by rw[bA,fp b1];exact k0,by rw[bA,fp b1];exact k1,by rw[bA,fp b2];exact l1,by rw[bA,fp b3];exact l2,by rw[bA,fp b4];exact l3,by rw[bA,fp b5];exact l4,by rw[bA,fp b6];exact l5,by rw[bA,fp b7];exact l6⟩
 refine aJ (i:=21) rfl rfl (by kernel_rfl) ?_
 intro eb bh
 simp only[dp,cD,cN]
 refine kE (.tmp 8) (.tmp 28) 289 rfl f 347 i0 (eD #[am 0,am 0,am 0,J ⟨#[]⟩,J ⟨#[]⟩]) 5 56 underlying289 cv dk dm dn rfl (by decide) (I W (y A) V) (y A) (er A) rfl (jc (aR bt<|aq #[am<|y o,am<|(y j:X)+4,am PK,J kf,J kl] 347) rfl) (R (z<|G p) 0) 1 1 [am<|y o,am<|(y j:X)+4,am PK,J kf,J kl] rfl rfl (OQ _ _ _ _ _ _ _) (by simp[Value.oneCell']) (by omega) (by omega) (by simp;omega) ?_
 intro P n ax bb
 obtain⟨l,ac,⟨s0,s1,s2,s3,s4,s6,s7⟩,s5,⟨z0,z1,z2,z3,z4,z6,z7⟩,ca,bl⟩:=bx _ P n ax bb
 obtain⟨cd,cc,cB⟩:=aB ax
 subst cB
 refine bh _ _ (λ_=>⟨s0,s1,s2,s3,s4,s5,s6,s7⟩) ?_
 simp only[Act.put,cX]
 refine aJ (i:=22) rfl rfl (by kernel_rfl) ?_
 intro ec bi
 go_simp
 refine bi _ _ wu ?_
 refine cO (by kernel_rfl) ?_ _
 show KK _ _
 apply bT
 clear bT bg bh bi z0 z1 z2 z3 z4 z6 z7 s0 s1 s2 s3 s4 s5 s6 s7 ca ax bb hS k0 k1 l1 l2 l3 l4 l5 l6 b1 b2 b3 b4 b5 b6 b7 bx bt
 have bd:=U bl
 clear bl
 generalize bZ n (R bk 0) (I cd (y A+1) cc)=W3 at*
 generalize(I cd (y A+1) cc)=dv at*
 have l2:=l.d.cell
 have l3:=l.p.cell
 have ds:=l.size
 have ck:=U l.od
 have cj:=U l.op.bytes
 have ei:y (j++le 4 (mr j))=y j+4:=by simp[bY]
 have co:=U (show∀v4 w4,w4.ownsRow f 5 1 v4 (y o+(y j+4)) (o.map (Value.int .u8)++(j++le 4 (mr j)).map (Value.int .u8))->eR W3 w4 (I S (y o) Q) v4->(aS w4 (R E 0)=H (I S (y o) Q)/\w4.frozen? (R E 0)=bE)/\lQ (bZ w4 (R E 0) v4) f D E q bk L u (bC ao e bp w) v4 (bC pb k (y j+4) pc) dv b c (o++iD j) (j++le 4 (mr j)) (A++[⟨y o,y j+4,PK,kf,kl⟩])/\Z (ux D u (I S (y o) Q) s<|I W (y A) V) a (bZ w4 (R E 0) v4)/\(∀K,bV v4=H K->bV (I S (y o) Q)=H K\/z (G a)<=K)from by
  intro v4 w4 ba an;have B:=Z.fy an;have O:=l.d.ar B (l.jV<|by omega).1;have bo:=l.data (ds1:=o++iD j) B an.uc<|eJ.of ba (by rw[af,gu]) (by unfold iD;rw[aM,aM,aM]);exact⟨⟨O.cell,O.free⟩,bo,(ac.trans B<|λK t=>.inl<|.inr<|.inl t).setCell E 0 _<|.inl<|.inl ⟨by omega,by omega⟩,λK t=>by
   rcases an.uc with ch|⟨ce,ch,hy⟩
   .exact .inl<|ch▸t
   .rw[ch]at t;cases t;exact .inr (aD ac.size hy)⟩)
 clear l ac
 go_wp2_with(first
  |(at_builtin;go_loud(refine bQ _ rfl (.tmp 30) (.tmp 31) 126 rfl f 5 j0 (.int .u8 0) 1 1 underlying126 cx db dc dd rfl (by decide) _ (y o) (o.map (Value.int .u8)) rfl ck (R pb k) (y j+4) pc ((j++le 4 (mr j)).map (Value.int .u8)) rfl (by simp[bY]) (tv cj) (by intro el hu;simp only[aY]at hu;obtain⟨ce,_,rfl⟩:=hu;rfl) (by omega) (by omega) ds ?_;intro v4 w4 ba an;obtain⟨⟨y0,y1⟩,r,al,bm⟩:=co v4 w4 ba an;obtain⟨x4,c4,rfl⟩:=aB ba;have bf:=U bm;clear bm;have cm:=U r;have cl:=U al;clear ba an r al)))
 have r:=ae cm
 have al:=ae cl
 have y2:=r.p.cell
 have y3:=r.p.free
 have y4:=r.f.cell
 have y5:=r.f.free
 have y6:=r.t.cell
 have n1:L≠q:=by omega
 have n2:u≠q:=by omega
 have n3:u≠L:=by omega
 have bs:=U (show∀B,(B=(bZ (bZ (bZ w4 (R E 0)<|I x4 (y o+(y j+4)) c4) (R q 0) aK) (R L 0)<|am c).drew\/B=(bZ (bZ (bZ w4 (R E 0)<|I x4 (y o+(y j+4)) c4) (R L 0)<|am c) (R q 0) aK).drew)->(∃au bc,lQ B f D E q bk L u (bC ao e bp w) au aK bc c c (o++iD j) [] (A++[⟨y o,y j+4,PK,kf,kl⟩])/\(∀K,bV au=H K->bV (I S (y o) Q)=H K\/z (G a)<=K)/\(∀K,bV bc=H K->bV (I W (y A) V)=H K\/z (G a)<=K))/\Z (ux D u (I S (y o) Q) s<|I W (y A) V) a B from by
  rintro B(rfl|rfl)
  .exact⟨⟨_,_,r.fin.ar<|bX _ _,bf,bd⟩,((al.setCell q 0 _<|.inl<|.inl ⟨by omega,by omega⟩).setCell L 0 _<|.inl<|.inl ⟨by omega,by omega⟩).trans (bX _ _)<|λK t=>.inl t⟩
  .exact⟨⟨_,_,r.YN.ar (bX _ _),bf,bd⟩,((al.setCell L 0 _ (.inl (.inl ⟨by omega,by omega⟩))).setCell q 0 _ (.inl (.inl ⟨by omega,by omega⟩))).trans (bX _ _) (λK t=>.inl t)⟩)
 clear r al
 go_region
 all_goals
  go_end0;refine⟨rfl,bs _ ?_⟩;first
  |exact .inl rfl
  |exact .inr rfl
def EO(c:cA):ab:=(c[0]?.map E.key).getD ⟨#[]⟩
def Lv(c:cA):ab:=(c[y c-1]?.map E.key).getD ⟨#[]⟩
def Mj(p:M)(c:cA):qS:=⟨p,y (fE c)+4,y c,EO c,Lv c⟩
def bM:M->dW->mz
 |_,[]=>[]
 |p,c::a=>Mj p c::bM (p+(y (fE c)+4)) a
def jY:∀(a:dW)(p:M),y (bM p a)=y a
 |[],_=>rfl
 |c::a,p=>by rw[bM,ay,jY a,ay]
def CE(c:cA):∀(a:dW)(p:M),bM p (a++[c])=bM p a++[Mj (p+y (dG a)) c]
 |[],p=>by simp[bM,dG]
 |d::a,p=>by
  rw[cq,bM,CE c a,bM,cq,oN,af,gu];congr 4;omega
def zB:∀(a:dW)(p i:M)(f:i<y (bM p a))(b:i<y a),(bM p a)[i]=Mj (p+y (dG<|a.take i)) a[i]
 |[],_,i,_,b=>absurd b<|gH i
 |c::a,p,0,_,_=>by simp[bM,dG]
 |c::a,p,i+1,f,b=>by
  have e:i<y (bM (p+(y (fE c)+4)) a):=by simpa[bM]using f
  have d:i<y a:=by simpa using b
  have h:=zB a (p+(y (fE c)+4)) i e d;simp only[bM,cD,rP,oN,af,gu];rw[h];congr 1;omega
def He(h:0<y e):EO e=(e[0]'h).key:=by
 unfold EO;rw[aH h];rfl
def Lu(h:0<y e):Lv e=(e[y e-1]'(by omega)).key:=by
 unfold Lv;rw[aH<|by omega];rfl
def Vj(h:0<y e)(p:M):(Mj p e).Of e:=⟨h,rfl,rfl,He h,Lu h⟩
def Jm:∀(c:cA),y c<=y (fE c)
 |[]=>by simp[fE]
 |x::c=>by
  have:=Jm c;unfold fE at*;rw[dH,af,ay];have:8<=y (BC x):=by unfold BC;rw[af,bY];omega
  omega
structure qo(l:cA)(cs:dW):Prop where
 flat:cs.flatten=l
 fit:∀c∈cs,0<y c/\y (fE c)+4<=512
 CT:cs.Pairwise gS
def qo.wH(h:qo e k)(c:e≠[])(f:∀x∈e,x.Good)(g:dQ e):tE (bM 0 k) k where
 len:=jY k 0
 ne:=by
  cases k with
  |nil=>exact absurd h.flat.symm<|by simpa using c
  |cons d k=>simp
 Ee:=λi b a=>by
  rw[zB k 0 i b a];exact Vj (h.fit _<|ap a).1 _
 pos:=λi b=>by
  have a:i<y k:=by rw[jY]at b;exact b
  rw[zB k 0 i b a];simp[Mj]
 jd:=λd a x b=>f x (by rw[<-h.flat];exact bz.2 ⟨d,a,b⟩)
 mq:=by rw[h.flat];exact g
 CT:=h.CT
 small:=λd a=>by
  have:=(h.fit d a).2;have:=Jm d;omega
def qo.length(h:qo e k):y k<=y e:=by
 rw[<-h.flat];have:=h.fit;clear h;induction k with
 |nil=>simp
 |cons c k b=>
  have a:=(this c<|by simp).1;have f:=b (λd a=>this d<|by simp[a]);simp only[ay,aW,af];omega
def qo.data(h:qo e k):y (dG k)<=512*y k:=by
 have:=h.fit;clear h;induction k with
 |nil=>simp[dG]
 |cons c k b=>
  have a:=(this c<|by simp).2;have g:=b (λd a=>this d<|by simp[a]);rw[oN,af,gu,ay];omega
def uX(k:qS):eK:=le 4 k.size++(le 4 k.count++(ep k.first++ep k.last))
def fc(a:mz):eK:=le 4 (y a)++a.flatMap uX
section
open Go.Shelf
attribute [local go_sem] Oper.semAt_some
def OF(a:dW)(c:cA):dG (a++[c])=dG a++iD (fE c):=by simp[dG]
def PG{a:cA}(h:e.take b=L++a)(j:b<=y e){i:M}(g:i<y a):∃f:y L+i<y e,e[y L+i]=a[i]:=by
 have d:b=y L+y a:=by have:=bS y h;simp at this;omega
 refine⟨by omega,?_⟩;have c:(e.take b)[y L+i]'(by simp;omega)=(L++a)[y L+i]'(by simp;omega):=by simp only[h]
 rw[gq,nR<|by omega]at c;simpa using c
def PD{g o r u bk t p:M}(E f n:M)(q:cA)(e:dW)(c:cA)(V:lQ a g o r u bk t p (bC E f (y q) n) d s N (y e.flatten) b (dG e) (fE c) (bM 0 e))(W:Steps a)(hg:E<o)(K:∀ad al,(aE q)[ad]?=H al->aS a (R E<|f+ad)=H al)(hcut:q.take b=e.flatten++c)(L:b<=y q)(k:0<y c)(hl:y q<=1000000)(h:∀B∈e,0<y B/\y (fE B)+4<=512)(D:y (fE c)+4<=512):cw bF 221 #[aw u,aw bk,aw r,aw p,aw t,aw o] a λac A=>
 ac=aO (dA #[])/\(∃l m,lQ A g o r u bk t p (bC E f (y q) n) l aK m (y (e++[c]).flatten) b (dG<|e++[c]) (fE []) (bM 0<|e++[c])/\(∀x,bV l=H x->bV d=H x\/z (G a)<=x)/\(∀x,bV m=H x->bV N=H x\/z (G a)<=x))/\Z (ux o p d s N) a A:=by
 have j:b=y e.flatten+y c:=by
  have:=bS y hcut;simp only[dK,af]at this;omega
 have v:y e<=y e.flatten:=by
  have:=h;clear V hcut j h;induction e with
  |nil=>simp
  |cons B e x=>
   have v:=(this B<|by simp).1;have F:=x (λQ w=>this Q<|by simp[w]);simp only[ay,aW,af];omega
 have F:y (dG e)<=512*y e:=by
  have:=h;clear V hcut j h v;induction e with
  |nil=>simp[dG]
  |cons B e x=>
   have v:=(this B<|by simp).2;have F:=x (λQ w=>this Q<|by simp[w]);rw[oN,af,gu,ay];omega
 obtain⟨i1,S⟩:=PG hcut L k
 obtain⟨i2,T⟩:=PG hcut L (i:=y c-1)<|by omega
 have C:=(eA q _ i1).1
 have c1:=(eA q _ i2).1
 rw[S]at C
 rw[T]at c1
 have hb:=jY e 0
 refine(Wu E f n (y q) (y e.flatten+(y c-1)) (EO c) (Lv c) V W hg ?_ ?_ (by omega) (by omega) (by omega) (by omega) (by omega) (by omega) (by omega)<|by omega).mono ?_
 .rw[He k];simpa using K _ _ C
 .rw[Lu k];exact K _ _ c1
 .rintro ac A⟨rfl,⟨l,m,hv,hx⟩,ht⟩;refine⟨rfl,⟨l,m,?_,hx⟩,ht⟩;have O:y (e++[c]).flatten=b:=by rw[j];simp
  have P:bM 0 (e++[c])=bM 0 e++[⟨y<|dG e,y (fE c)+4,b-y e.flatten,EO c,Lv c⟩]:=by
   rw[CE,j,uC,cR];rfl
  rw[O,P,OF];exact hv
def eJ.base{b base':M}(h:eJ a b d o)(c:base'<=b):eJ a base' d o:=eS h c
def eJ.Xl(i:eJ a b d o)(e:0<y o):∃g c h,d=bC g c (y o) h:=by
 rcases i.bytes.shape with⟨_,f⟩|⟨g,c,h,f,j⟩;rw[f]at e;simp at e;exact⟨g,c,h,f⟩
structure Ga(w:Y)(lv:aa)(p:cA)(B:fI)(W:Y):Prop where
 ex:∃cs cur dv pv kv,lQ W (z (G w)+8) (z<|G w) (z (G w)+1) (z (G w)+2) (z (G w)+3) (z (G w)+4) (z (G w)+5) lv dv pv kv (y cs.flatten) (y p) (dG cs) (fE cur) (bM 0 cs)/\p=cs.flatten++cur/\(∀c∈cs,0<y c/\y (fE c)+4<=512)/\y (fE cur)+4<=512/\(cur=[]->p=[])/\(cs++[cur]).Pairwise gS/\∀k,B k↔ux (z<|G w) (z (G w)+5) dv pv kv k
 fn:dV W (z (G w)+6) (.func (.func 221) #[] #[aw<|z (G w)+2,aw<|z (G w)+3,aw<|z (G w)+1,aw<|z (G w)+5,aw<|z (G w)+4,aw<|z<|G w]) 1
 ar:Z az w W
def Ga.lt(j:Ga a d e W C):∀k,W k->z (G a)<=k/\k<z (G C):=by
 obtain⟨h,c,i,m,l,g,_,_,_,_,_,b⟩:=j.ex;exactλk c=>⟨g.low k<|(b k).1 c,g.uY k<|(b k).1 c⟩
def Ga.stays{T:fI}(n:Ga a d e W f)(h:Z T f C)(c:∀k,T k->¬W k/\z (G a)+7<=k):Ga a d e W C:=by
 obtain⟨l,b,m,v,u,t,o,p,q,r,s,i⟩:=n.ex;exact⟨⟨l,b,m,v,u,t.XX h<|λk g j=>(c k j).1<|(i k).2 g,o,p,q,r,s,i⟩,n.fn.ar h (λj=>by have:=(c _ j).2;omega),n.ar.trans h<|λk g=>.inr (by have:=(c k g).2;omega)⟩
def Pq{w W2 j w6:Y}{L h g i v6:aa}{p gg cur:cA}{cs:dW}{B:fI}(e:lQ j (z (G w)+8) (z<|G w) (z (G w)+1) (z (G w)+2) (z (G w)+3) (z (G w)+4) (z (G w)+5) L h g i (y cs.flatten) (y p) (dG cs) (fE cur) (bM 0 cs))(N:dV j (z (G w)+6) (.func (.func 221) #[] #[aw<|z (G w)+2,aw<|z (G w)+3,aw<|z (G w)+1,aw<|z (G w)+5,aw<|z (G w)+4,aw<|z<|G w]) 1)(A:Z az w j)(F:Z B W2 j)(a:∀k,ux (z<|G w) (z (G w)+5) h g i k->B k\/z (G W2)<=k)(hcut:p=cs.flatten++cur)(m:∀c∈cs,0<y c/\y (fE c)+4<=512)(u:y (fE cur)+y (fE gg)+4<=512)(n:0<y gg)(x:(cs++[cur]).Pairwise gS)(q:gS p gg)(O:w6.ownsRow (z (G w)+8) 5 1 v6 (y (fE cur)+y (fE gg)) ((fE cur).map (Value.int .u8)++(fE gg).map (Value.int .u8)))(D:eR j w6 g v6):(aS w6 (R (z (G w)+2) 0)=H g/\w6.frozen? (R (z (G w)+2) 0)=bE)/\(aS (bZ w6 (R (z (G w)+2) 0) v6) (R (z (G w)+5) 0)=H (am<|y p)/\(bZ w6 (R (z (G w)+2) 0) v6).frozen? (R (z (G w)+5) 0)=bE)/\∃E,Ga w L (p++gg) E (bZ (bZ w6 (R (z (G w)+2) 0) v6) (R (z (G w)+5) 0)<|am ((y p+y gg:M):X))/\Z B W2 (bZ (bZ w6 (R (z (G w)+2) 0) v6) (R (z (G w)+5) 0)<|am ((y p+y gg:M):X))/\∀k,E k->B k\/z (G W2)<=k:=by
 have d:=Z.fy D;have l:=e.p.ar d (e.jV<|by omega).2.1;have f:=e.piece (ps1:=fE<|cur++gg) d D.uc (eJ.of O (by rw[xN,af])<|by rw[xN,aM]);have C:=f.at (y p+y gg);have v:∀k,bV g=H k->z (G w)+8<=k:=λk o=>(e.op.lt k o).1;have b:Z (ux (z<|G w) (z (G w)+5) h g i) j (bZ (bZ w6 (R (z (G w)+2) 0) v6) (R (z (G w)+5) 0)<|am ((y p+y gg:M):X)):=((d.mono (T:=ux (z<|G w) (z (G w)+5) h g i)<|λk o=>.inl<|.inr<|.inr<|.inl o).setCell _ 0 _<|.inl<|.inl ⟨by omega,by omega⟩).setCell _ 0 _<|.inl<|.inl ⟨by omega,by omega⟩;refine⟨⟨l.cell,l.free⟩,⟨f.t.cell,f.t.free⟩,ux (z<|G w) (z (G w)+5) h v6 i,⟨⟨cs,cur++gg,h,v6,i,by rw[af];exact C,by rw[hcut,aU],m,by rw[xN,af];exact u,λc=>?_,?_,λk=>qU⟩,?_,?_⟩,F.trans b a,?_⟩;rw[kQ]at c;rw[c.2]at n;simp at n;obtain⟨Q,_,S⟩:=bP.1 x;refine bP.2 ⟨Q,by simp,λc K W P=>?_⟩;rw[bG.1 P];intro V t s r;rcases ak.1 r with r|r;exact S c K cur (by simp) V t s r;exact q V (by rw[hcut];exact im _<|bz.2 ⟨c,K,t⟩) s r
 .exact N.ar b (by
   rintro(⟨_,c⟩|c|c|c)
   .omega
   .have:=(e.od.lt _ c).1;omega
   .have:=v _ c;omega
   .have:=(aF e.ok _ c).1;omega)
 exact A.trans b<|λk o=>.inr<|e.low k o;rintro k(c|c|c|c);exact a k<|.inl c;exact a k<|.inr<|.inl c;rcases D.uc with r|⟨V,r,t⟩;exact a k<|.inr<|.inr<|.inl<|r▸c;rw[r]at c;cases c;exact .inr<|aD F.size t;exact a k<|.inr<|.inr<|.inr c
def DW(Q b f:M)(hT:Steps a)(hg:Q<z (G a))(x:∀ea cE,(aE e)[ea]?=H cE->aS a (R Q<|b+ea)=H cE)(dn:y e<=f)(ds:0<y e)(ac:∀bp∈e,bp.Good)(hs:dQ e)(c:∀Q∈ig e,y Q<=10)(hl:y e<=1000000):cw bF 173 #[bC Q b (y e) f] a λau w'=>∃dv kv r,au=aO (dA #[dv,kv])/\qo e r/\eJ w' (z<|G a) dv (dG r)/\w'.ownsRow (z<|G a) 347 5 kv (y r) (er<|bM 0 r)/\Z az a w':=by
 obtain⟨i0,cc,co,cp,cs⟩:=cz qh;have cm:=hT.lt;have dm:=Ar (bC Q b (y e) f) _ _ _ rfl;have hE:ku a (bC Q b (y e) f) e:=⟨by rw[fM],.inr ⟨Q,b,f,rfl,dn,x⟩⟩;obtain⟨HT,HC,HG,cT⟩:=gx hT x ac c;clear hT x ac c;refine(cZ (n:=3)).1 ?_;refine callsIn_of_wp_marks func173 rfl trivial ?_ rfl;simp only[ntmps173,eT,ay,cK,Nat.reduceAdd,Nat.reduceSub,dS,dR,eU,ew,cC,cq];have dx:=ow (P:=bF) (w:=(ct (ct (ct (ct (ct (ct (ct a<|aq #[bC Q b (y e) f] 102)<|aq #[aK] 126)<|aq #[aK] 126)<|aq #[aK] 289)<|aq #[am 0] 3)<|aq #[am 0] 3)<|aq #[.nilFunc] 1)) (b:=z (G a)+1+1+1+1+1+1) (u:=.nilFunc) (t:=1) (aC _<|by simp) (.func (.func 221) #[] #[aw<|z (G a)+1+1,aw<|z (G a)+1+1+1,aw<|z (G a)+1,aw<|z (G a)+1+1+1+1+1,aw<|z (G a)+1+1+1+1,aw<|z<|G a]) rfl;gi_wp2_with(refine⟨trivial,?_⟩;gi_at_call 80;refine(cZ.2<|dm _).mono ?_;rintro au w1⟨rfl,rfl⟩)
 clear dx;obtain⟨W0,l⟩:∃W0,(ct (ct (ct (ct (ct (ct (ct (ct a<|aq #[bC Q b (y e) f] 102)<|aq #[aK] 126)<|aq #[aK] 126)<|aq #[aK] 289)<|aq #[am 0] 3)<|aq #[am 0] 3)<|aq #[.func (.func 221) #[] #[aw<|z (G a)+1+1,aw<|z (G a)+1+1+1,aw<|z (G a)+1,aw<|z (G a)+1+1+1+1+1,aw<|z (G a)+1+1+1+1,aw<|z<|G a]] 1)<|aq #[bC Q b (y e) f] 102)=W0:=⟨_,rfl⟩;have el:z (G W0)=z (G a)+8:=by rw[<-l];simp
 have cn:Z az a W0:=by rw[<-l];exact((((((((Z.refl az a).alloc _).alloc _).alloc _).alloc _).alloc _).alloc _).alloc _).alloc _
 have dd:dV W0 (z (G a)+7) (bC Q b (y e) f) 102:=by rw[<-l];exact aC _<|by simp
 have hA0:Ga a (bC Q b (y e) f) (ii []) (ux (z<|G a) (z (G a)+5) aK aK aK) W0:=by refine⟨⟨[],[],aK,aK,aK,⟨?_,?_,?_,?_,?_,?_,eJ.nil _ _,eJ.nil _ _,bJ _ _ _ _,(by simp[bV]),by omega,by omega⟩,rfl,by simp,by simp[fE],λ_=>rfl,by simp,λk=>qU⟩,?_,cn⟩;rw[<-l];exact dV.alloc (dV.alloc (dV.alloc (dV.alloc (dV.alloc (dV.alloc (dV.alloc (aC _ rfl) _) _) _) _) _) _) _;rw[<-l];exact dV.alloc (dV.alloc (dV.alloc (dV.alloc (dV.alloc (dV.alloc (aC _<|by simp) _) _) _) _) _) _;rw[<-l];exact dV.alloc (dV.alloc (dV.alloc (dV.alloc (dV.alloc (aC _<|by simp) _) _) _) _) _;rw[<-l];exact dV.alloc (dV.alloc (dV.alloc (dV.alloc (aC _<|by simp) _) _) _) _;rw[<-l];exact dV.alloc (dV.alloc (dV.alloc (aC _<|by simp) _) _) _;rw[<-l];exact dV.alloc (dV.alloc (aC _<|by simp) _) _;rw[<-l];exact dV.alloc (aC _<|by simp) _
 rw[l];refine nA (m:=3) (arg:=FX<|bC Q b (y e) f) (V:=AB) (n0:=z<|G a) (gf:=128) (lb:=#[aw<|z (G a)+7]) (l:=nC 0<|ig e) (S:=λk=>k=z (G a)+7) ?geval (enters_of func128 (by kernel_rfl) rfl) (λ_=>rfl) (vS (z<|G a) 2 dd (hE.ar cn<|λk c=>⟨id,(show Q=k by simpa[bV]using c)▸hg⟩) (λk c=>(show Q=k by simpa[bV]using c)▸hg) (by omega)<|by omega) trivial (by omega) (λk c=>by omega) (λg bq cx=>Ga a (bC Q b (y e) f) (ii g) bq cx) (λ_ _ _ _=>False) _ hA0 (λk c j=>by rcases j with⟨_,j⟩|j|j|j<;>first|omega|(simp[bV]at j)) (λg bq cx C=>C.lt) ?st (λ_ _ _ _ _ _ h=>h.elim) ?body ?done ?stop;case geval=>rfl
 (case st=>intro g bq cx t T C i hT;refine C.stays i<|λk c=>⟨(hT k c).1,?_⟩;rcases(hT k c).2 with j|j|j;omega;exact j.elim;omega);(case stop=>intro br j g bq cx _ h;exact h.elim)
 case body=>
  rintro lr g⟨cu,i⟩bq cx ek bk ch ad C _;obtain⟨hn,eq,c⟩:=IW hs ad;have ca:0<y i:=gG.2 c.ne;have ej:cu+y i+y eq=y e:=by rw[c.all,hn];simp;omega
  have W:=AC hE c.all c.ne;rw[<-hn]at W;unfold FX;unfold zf at W|-;simp only at W|-;have ed:y i<=10:=cT i (by obtain⟨_,es,au⟩:=yu _ _ _ _ _ ad;rw[<-au];simp);have bT:∀bp∈i,bp.Good:=λbp a=>HG bp (by rw[c.all];simp[a]);generalize f-cu=eo at*;obtain⟨HA,HK,HN⟩:=dB C c hn;clear C ad c hn;gi_wp2;refine⟨Z.refl _ _,λW2 bn=>?_⟩;have hA2:=HA.stays bn (λk c=>by subst c;exact⟨bk,by omega⟩);have bl:ku W2 (bC Q (b+cu*4) (y i) eo) i:=W.ar hA2.ar<|λk c=>(show Q=k by simpa[bV]using c)▸⟨id,hg⟩;have ck:=DV bl (λk c=>(show Q=k by simpa[bV]using c)▸ag hg hA2.ar.size) bT (by omega);obtain⟨r,d,dv,pv,kv,hv,hcut,s,q,B,w,hB⟩:=hA2.ex;have dk:0<y (fE i)/\y (fE i)<=350:=by
   have h1:=PE bT;have h2:=Jm i;omega
  obtain⟨px,pc,cl⟩:=aB hv.op;obtain⟨cB,hb⟩:∃cB,y (fE i)=cB:=⟨_,rfl⟩;obtain⟨cM,ha⟩:∃cM,y (fE d)=cM:=⟨_,rfl⟩;rw[hb]at dk;rw[ha]at cl q;obtain⟨HV,HF,bh,ax,HB,K⟩:=kF hv hA2.fn hA2.ar bn hB hcut;obtain⟨L,eb,bs,Hb,Ha,ef⟩:=kF s B w hb ha bl;clear hA2 bl W hv hcut s B w hB hb ha bn;subst cl;gi_wp2_with fail
  refine⟨trivial,(CallsIn.inRound lr<|cZ.2 ck).mono ?_⟩;rintro au F⟨b2,rfl,bm,o⟩;obtain⟨db,O,dc,bu⟩:=bm.Xl (by rw[ae Hb];omega);rw[ae Hb]at bu;subst bu;have n:=HV.ar o;have bx:=HF.ar o id;have y5:=n.p.cell;have y9:=bx.cell;obtain⟨av,bg,t⟩:=dB n bm o;clear n bx bm o ck;have bc:lr<z (G W2):=ag ch ax.size;have ei:z (G cx)<=z (G W2):=ax.size;have cj:y (ii g)=cu:=HN.symm;by_cases ec:(512:X)<(cM:X)+cB+4
  .have E:0<y d:=by
    rcases fS (y d)with j|j
    .obtain rfl:=aP j;have:=ae Ha;simp[fE]at this;omega
    .exact j
   have bb:=HK.all;have an:Z az a F:=bh.ci t;have v:=PD Q b f e r d av (HT.below (an.below (ah _) cG) cm) hg (λea cE hj=>an.cell (HC ea cE hj) id hg) (by rw[bb,aU,pM];exact K) (by omega) E hl L (by rw[ae Ha];exact q);clear an bb;gi_wp2_with fail
   refine⟨trivial,(CallsIn.inRound lr<|cZ.2<|DF ((cM:X)+cB) _ (by omega)<|by omega).mono ?_⟩;rintro au w4⟨rfl,dT⟩;subst w4;gi_wp2_with fail
   refine⟨trivial,(CallsIn.inRound lr<|cZ.2 v).mono ?_⟩;rintro au w5⟨rfl,⟨eg,em,ba,bv,cd⟩,al⟩;have u:∀k,ux (z<|G a) (z (G a)+5) dv (I px cM pc) kv k->bq k:=λk c=>(HB k).2 c;have cb:=HV.uY;have ce:=HV.low;have bt:eJ w5 (z<|G W2) (bC db O cB dc) (fE i):=al.own bg (λk c j=>by have:=cb k j;have:=(bg.lt k c).1;omega);have bo:=ba.size;have y6:=ba.p.cell;have ee:=t.size;have w:=ae bs;have bf:=U<|tv bt.bytes;have bi:=U (λ(v6:aa)(w6:Y)ho hw=>Pq (w:=a) (w6:=w6) (v6:=v6) (p:=ii g) (cs:=r++[d]) (cur:=[]) (gg:=i) (B:=bq) (W2:=W2) ba ((HF.ar t id).ar al (by
    rintro(⟨_,j⟩|j|j|j)
    .omega
    .have:=(HV.od.lt _ j).1;omega
    .have:=(HV.op.lt _ j).1;omega
    .have:=(aF HV.ok _ j).1;omega))
    ((bh.ci t).trans al<|λk c=>.inr<|ce k c) ((t.mono cG).trans al<|λk c=>.inl<|u k c)
    (by
     rintro k(j|j|j|j)
     .exact .inl<|u k<|.inl j
     .rcases bv k j with au|au
      .exact .inl<|u k<|.inr<|.inl au
      .exact .inr<|by omega
     .simp[bV]at j
     .rcases cd k j with au|au
      .exact .inl<|u k<|.inr<|.inr<|.inr au
      .exact .inr (by omega))
    (by rw[ae K];simp) (by
     intro j x;rcases ak.1 x with x|x
     .exact L j x
     .rw[bG.1 x,ae Ha];exact⟨E,q⟩)
    (by rw[ae Hb];simp[fE];omega) ca (bP.2 ⟨w,by simp,λbp _ cv a=>by rw[bG.1 a];intro _ _ en hz;cases hz⟩) HK.low ho hw)
   clear ba bv cd al u cb ce bt w v y5 y9;gi_wp2_with(first
    |(gi_at_builtin;refine dY _ rfl (.tmp 27) (.tmp 28) 126 rfl (z (G a)+8) 5 i0 (.int .u8 0) 1 1 underlying126 cc co cp cs rfl (by decide) _ 0 ((fE []).map (Value.int .u8)) rfl (bJ _ _ _ _) (R db O) cB dc ((fE i).map (Value.int .u8)) rfl (by rw[cV,ae Hb,rf]) bf (by intro cE hu;simp only[aY]at hu;obtain⟨cv,_,rfl⟩:=hu;rfl) (by omega) (by omega) bo ?_;intro v6 w6 A ao;obtain⟨⟨y0,y1⟩,⟨y2,y3⟩,B2,hP,D,T⟩:=bi v6 w6 (by rw[ae Hb];exact A) ao;obtain⟨x6,c6,rfl⟩:=aB A;simp only[cR]at y2 y3 hP D;rw[cj]at y2;have HP:=U hP;have N:=U D;have bd:=U T;clear A ao hP D T))
   have e1:ii (g++[(cu,i)])=ii g++i:=tj _ _ _;have e2:((cu:X)+y i)=((y (ii g)+y i:M):X):=by omega
   rw[e2];refine⟨trivial,B2,?_,(ax.mono<|λk c=>.inl<|.inr c).trans N<|λk c=>.inl<|.inl c,N.block lr bc bk,λk c=>(bd k c).imp_right<|λj=>by omega⟩;show Ga a _ (ii<|g++[(cu,i)]) B2 _;rw[e1];exact HP
  .have u:∀k,ux (z<|G a) (z (G a)+5) dv (I px cM pc) kv k->bq k:=λk c=>(HB k).2 c;have bo:=av.size;have bf:=U<|tv bg.bytes;have bi:=U<|λ(v6:aa)(w6:Y)ho hw=>Pq (w:=a) (w6:=w6) (v6:=v6) (p:=ii g) (cs:=r) (cur:=d) (gg:=i) (B:=bq) (W2:=W2) av (HF.ar t id) (bh.ci t) (t.mono cG) (λk c=>.inl<|u k c) K L (by rw[ae Ha,ae Hb];omega) ca bs HK.low ho hw;clear u y9;gi_wp2_with fail
   refine⟨trivial,(CallsIn.inRound lr<|cZ.2<|DF ((cM:X)+cB) _ (by omega)<|by omega).mono ?_⟩;rintro au w4⟨rfl,dT⟩;subst w4;gi_wp2_with(first
    |(gi_at_builtin;refine dY _ rfl (.tmp 27) (.tmp 28) 126 rfl (z (G a)+8) 5 i0 (.int .u8 0) 1 1 underlying126 cc co cp cs rfl (by decide) _ cM ((fE d).map (Value.int .u8)) rfl (by have h0:=av.op;unfold eJ at h0;rw[ae Ha]at h0;exact h0) (R db O) cB dc ((fE i).map (Value.int .u8)) rfl (by rw[cV,ae Hb,rf]) bf (by intro cE hu;simp only[aY]at hu;obtain⟨cv,_,rfl⟩:=hu;rfl) (by omega) (by omega) bo ?_;intro v6 w6 A ao;obtain⟨⟨y0,y1⟩,⟨y2,y3⟩,B2,hP,D,T⟩:=bi v6 w6 (by rw[ae Ha,ae Hb];exact A) ao;obtain⟨x6,c6,rfl⟩:=aB A;rw[cj]at y2;have HP:=U hP;have N:=U D;have bd:=U T;clear A ao hP D T))
   have e1:ii (g++[(cu,i)])=ii g++i:=tj _ _ _;have e2:((cu:X)+y i)=((y (ii g)+y i:M):X):=by omega
   rw[e2];refine⟨trivial,B2,?_,(ax.mono<|λk c=>.inl<|.inr c).trans N<|λk c=>.inl<|.inl c,N.block lr bc bk,λk c=>(bd k c).imp_right<|λj=>by omega⟩;show Ga a _ (ii<|g++[(cu,i)]) B2 _;rw[e1];exact HP
 (case done=>intro br bq cx bd C N _ hK;obtain⟨r,d,dv,pv,kv,hv,hcut,s,q,B,w,hB⟩:=C.ex;rw[Ay]at hcut B hv;(have E:0<y d:=by rcases fS (y d)with j|j;have:=B<|aP j;subst this;simp at ds;exact j);have v:=PD Q b f e r d hv (HT.below (C.ar.below (ah _) cG) cm) hg (λea cE hj=>C.ar.cell (HC ea cE hj) id hg) (by rw[bN];exact hcut) (ah _) E hl s q;have u:¬ux (z<|G a) (z (G a)+5) dv pv kv br:=λj=>N<|(hB br).2 j;have HX:=U (show∀F i t,lQ F (z (G a)+8) (z<|G a) (z (G a)+1) (z (G a)+2) (z (G a)+3) (z (G a)+4) (z (G a)+5) (bC Q b (y e) f) i aK t (y (r++[d]).flatten) (y e) (dG<|r++[d]) (fE []) (bM 0<|r++[d])->Z (ux (z<|G a) (z (G a)+5) dv pv kv) cx F->(∀bp,bV i=H bp->bV dv=H bp\/z (G cx)<=bp)->(∀bp,bV t=H bp->bV kv=H bp\/z (G cx)<=bp)->(eJ F (z<|G a) i (dG<|r++[d])/\F.ownsRow (z<|G a) 347 5 t (y<|r++[d]) (er<|bM 0<|r++[d]))/\Z az a F/\F.heap[br]?=H (.deferred<|H [])/\bV i≠H br/\bV t≠H br from by intro F i t n o hd c;have h1:=n.ok;rw[jY]at h1;have O:=aj hK;exact⟨⟨n.od.base (by omega),eS h1<|by omega⟩,C.ar.trans o<|λk c=>.inr<|hv.low k c,(o.block br O u).trans hK,λj=>by rcases hd br j with au|au;exact u<|.inr<|.inl au;omega,λj=>by rcases c br j with au|au;exact u<|.inr<|.inr<|.inr au;omega⟩);have ba:=C.fn.cell;have HP:=U<|show qo e (r++[d])from⟨by rw[hcut];simp,λj x=>by rcases ak.1 x with x|x;exact s j x;rw[bG.1 x];exact⟨E,q⟩,w⟩;clear C hcut s B w hB hv N u E;generalize r++[d]=ax at*;(gi_wp2_with fail);refine⟨trivial,(cZ.2 v).mono ?_⟩;rintro au F⟨rfl,⟨i,t,n,T,W⟩,o⟩;have z1:=n.d.cell;have z2:=n.k.cell;obtain⟨⟨A,D⟩,ad,K,bb,bc⟩:=HX F i t n o T W;obtain⟨x4,c4,rfl⟩:=aB A;obtain⟨x5,c5,rfl⟩:=aB D;obtain⟨al,an,ao,av⟩:=gx A D ad K;have O:=aj K;clear n o A D ad K T W ba v hK;(gi_wp2_with fail);refine sj.2 ?_;(go_quiet(fail));gi_wp2;refine⟨by simp,.inl ⟨_,_,rfl,run_takeDeferred av,?_⟩⟩;refine⟨_,kO rfl _ _ _,?_⟩;have L:=(gP (λk=>k=br) F nq).trans (gE (F.drewN nq) br<|.deferred none)<|λ_ h=>.inl h;exact⟨_,_,ax,rfl,HP,L.own al<|λk c j=>bb (by rw[<-j];exact c),L.own an<|λk c j=>bc (by rw[<-j];exact c),ao.trans L<|λk c=>.inr<|by omega⟩)
end
structure Ia(w0 w:Y)(x:M)(k:qS)(o:aa)(bs:eK):Prop where
 own:eJ w (z<|G w0) o bs
 box:BS w x k
 ne:bV o≠H x
 ar:Z az w0 w
def Ia.wrote{n:qS}{c:eK}(h:Ia a f b n d o)(g:eR f C d s)(l:eJ C (z<|G a) s c):Ia a C b n s c:=by
 have k:=aj h.box;refine⟨l,h.box.ar (Z.dM (S:=λj=>bV d=H j) g.grown<|λ_ e=>.inl e) h.ne,λe=>?_,h.ar.trans (Z.dM (S:=λj=>bV d=H j) g.grown<|λ_ e=>.inl e)<|λj e=>.inr (h.own.lt j e).1⟩;rcases g.uc with i|⟨m,i,p⟩;exact h.ne<|i.symm.trans e;rw[i]at e;cases e;omega
def Ia.size{k:qS}(h:Ia a C b k d o):z (G a)<=z (G C):=h.ar.size
structure qS.Fits(k:qS):Prop where
 size:k.size<=1000000
 count:k.count<=1000000
 first:k.first.size<=255
 last:k.last.size<=255
def LJ{k:qS}(h:k.Fits):y (uX k)<=520:=by
 have:=h.first;have:=h.last;simp[uX,ep,bY,gY];omega
def lq{ks:mz}(h:∀k∈ks,k.Fits):y (ks.flatMap uX)<=520*y ks:=by
 induction ks with
 |nil=>simp
 |cons k ks b=>
  have a:=LJ (h k<|by simp);have c:=b (λj a=>h j<|by simp[a]);rw[dH,af,ay];omega
def sL{n:X}(a:0<=n)(b:n<4294967296):IntKind.u32.wrap n=n:=by rw[IntKind.wrap_u32];omega
def IB(a:mz)(E f k:M)(w:Y)(hb:E<z (G w))(hc:∀L an,(er a)[L]?=H an->aS w (R E<|f+L)=H an)(hl:y a<=1000000)(o:∀V∈a,V.Fits):cw bF 200 #[bC E f (y a) k] w λK w'=>∃v',K=aO v'/\eJ w' (z<|G w) v' (fc a)/\Z az w w':=by
 have u:=jx (baseqq:=z<|G w) (v:=aK) (bs:=[]) (y a:M) (w:=w) (eJ.nil _ _) (ah _) (by simp) (by omega) (by omega);have e0:=sL (n:=(y a:M)) (by omega) (by omega);have HC:=U hc;have HK:=U o;clear hc o;go_in
 go_wp2_with(go_at_call 187;refine u.mono ?_;rintro K w1⟨v1,rfl,g,i⟩;have N:=U g;have O:=U i;clear g i)
 go_loopw [3,12] (λo i wr=>∃n:M,n<=y a/\i=am n/\eJ wr (z<|G w) o (le 4 (y a)++(a.take n).flatMap uX)/\Z az w wr) (λ_ i _=>y a-(intOf i).toNat)
 case atStart=>exact⟨0,bw _,rfl,by simpa using ae N,Z.dM (S:=az) O.grown (by intro V o;simp[bV]at o)⟩
 (case round=>obtain⟨n,hn,rfl,c,e⟩:=hrel;have al:=e.size;by_cases l:n<y a;(.have m:∀L ad,L<5->(qS.cells a[n])[L]?=H ad->aS wr (R E<|f+n*5+L)=H ad:=λL ad b c=>e.cell (by rw[aV];exact HC _ _<|(iw a n L l b).trans c) (λd=>d) hb;have t:=HK a[n]<|ap l;(have ac:y (le 4 (y a)++(a.take n).flatMap uX)<=600000000:=by have h1:=lq (ks:=a.take n)<|λV o=>HK V<|eC o;(have h2:y (a.take n)<=y a:=by simp;omega);rw[af,bY];omega);have HS:=U (show(le 4 (y a)++(a.take n).flatMap uX)++uX a[n]=le 4 (y a)++(a.take<|n+1).flatMap uX from by rw[aU,ai l,fZ];simp);generalize a[n]=V at*;generalize le 4 (y a)++(a.take n).flatMap uX=F at*;obtain⟨pos,d,b,first,j⟩:=V;have p0:=m 0 _ (by omega) rfl;have p1:=m 1 _ (by omega) rfl;have p2:=m 2 _ (by omega) rfl;have p3:=m 3 _ (by omega) rfl;have p4:=m 4 _ (by omega) rfl;clear m;simp only[jq]at p0 p1 p2 p3 p4;have f1:=t.size;have f2:=t.count;have f3:=t.first;have f4:=t.last;simp only at f1 f2 f3 f4;have e1:=sL (n:=(d:M)) (by omega) (by omega);have e2:=sL (n:=(b:M)) (by omega) (by omega);have hA:Ia w (ct wr<|aq #[am pos,am d,am b,J first,J j] 347) (z<|G wr) ⟨pos,d,b,first,j⟩ u3 F:=⟨c.alloc _,aC _ rfl,λK=>by have:=(c.lt _ K).2;omega,e.alloc _⟩;have W:=U hA;clear c e t hA;(go_wp2_with fail);refine(jx (d:M) W.own (by simp;omega) (by omega) (by omega)<|by omega).mono ?_;rintro K w1⟨v1,rfl,g,i⟩;have hA1:=W.wrote i g;obtain⟨k0,k1,k2,k3,k4⟩:=hA1.box.cells;simp only at k0 k1 k2 k3 k4;have P:=hA1.size;have p:=U hA1;clear hA1 g i;(go_wp2_with fail);refine(jx (b:M) p.own P (by rw[af,bY];omega) (by omega)<|by omega).mono ?_;rintro K w2⟨v2,rfl,v,B⟩;have hA2:=p.wrote B v;obtain⟨m0,m1,m2,m3,m4⟩:=hA2.box.cells;simp only at m0 m1 m2 m3 m4;have Q:=hA2.size;have q:=U hA2;clear hA2 v B;(go_wp2_with fail);refine(pa (z<|G w) v2 ((F++le 4 d)++le 4 b) first _ q.own Q (by rw[af,af,bY,bY];omega) f3).mono ?_;rintro K w3⟨v3,rfl,x,C⟩;have hA3:=q.wrote C x;obtain⟨q0,q1,q2,q3,q4⟩:=hA3.box.cells;simp only at q0 q1 q2 q3 q4;have T:=hA3.size;have r:=U hA3;clear hA3 x C;(go_wp2_with fail);refine(pa (z<|G w) v3 (((F++le 4 d)++le 4 b)++(first.size:X)::kC first) j _ r.own T (by simp only[af,bY,ay,gY];omega) f4).mono ?_;rintro K w4⟨v4,rfl,A,D⟩;have hA4:=r.wrote D A;have s:=U hA4;clear hA4 A D;go_wp2;go_roundw;(case rel=>refine⟨n+1,l,by go_num,?_,s.ar⟩;rw[<-ae HS];have:=s.own;simpa[uX,ep]using this);case measure=>simp[intOf];omega);(have b:n=y a:=by omega);subst b;rw[bN]at c;have d:=U c;have j:=U e;clear c e;go_wp2;go_ret;exact⟨_,rfl,d,j⟩)
structure qS.Can(k:qS):Prop where
 size:k.size<=512
 c1:1<=k.count
 c2:k.count<=100
 f1:1<=k.first.size
 f8:k.first.size<=8
 l1:1<=k.last.size
 l8:k.last.size<=8
 le:ie k.last k.first=bE
def Oh:(prog.info? 347).map (λi=>(i.zero,i.size,i.bytes))=H (H<|eD #[am 0,am 0,am 0,J ⟨#[]⟩,J ⟨#[]⟩],5,56):=by kernel_rfl
def Sz(x c d u v:aa)(t:TypeId)(f:b=z (G a)):∀j q,[x,c,d,u,v][j]?=H q->aS (ct a<|aq #[x,c,d,u,v] t) (((R b 0):Addr).add j)=H q:=by
 intro j q e;subst f;rw[du];unfold World.cell?;rw[fw];simpa using e
def SD(a:mz)(k:qS):er (a++[k])=er a++[am k.pos,am k.size,am k.count,J k.first,J k.last]:=by simp[er,qS.cells]
def IQ(a b:ab):(Op.bytesLess a.toList b.toList||a.toList==b.toList)=!ie b a:=by rw[<-Px];simp
def Wm(t:TypeId)(a b:ab):binOp .leq t (J a) (J b)=pure (aL<|Op.bytesLess a.toList b.toList||a.toList==b.toList):=by simp[binOp,Op.stringOp]
def GV(s:ab)(w:Y)(b:1<=s.size)(c:s.size<=8):cw bF 69 #[J s] w λe a=>e=aO (aL bU)/\a=w:=by
 apply(qL s w<|by omega).mono;rintro e a⟨rfl,rfl⟩;exact⟨by simp[b,c],rfl⟩
def UE(k:qS)(w:Y)(h:k.Can):cw bF 250 #[k.value] w λo p=>o=aO (aL bU)/\p=ct w (aq #[am k.pos,am k.size,am k.count,J k.first,J k.last] 347):=by
 obtain⟨pos,j,b,first,a⟩:=k;have l:=h.size;have m:=h.c1;have n:=h.c2;have e:=h.f1;have f:=h.f8;have g:=h.l1;have i:=h.l8;have q:(Op.bytesLess first.toList a.toList||first.toList==a.toList)=bU:=by rw[IQ];simp only[h.le];rfl
 simp only at l m n e f g i;unfold qS.value;simp only;clear h;go_in
 go_wp2_with fail
 apply(GV first _ e f).mono;rintro o d⟨rfl,c⟩;subst d;go_wp2_with fail
 apply(GV a _ g i).mono;rintro o d⟨rfl,c⟩;subst d;go_wp2;go_ret;exact⟨rfl,rfl⟩
def sN(a:mz):M:=(a.map qS.size).sum
def rL(a:mz):M:=(a.map qS.count).sum
def iU(a:mz):ab:=(a.getLast?.map qS.last).getD ⟨#[]⟩
structure JL(ks:mz):Prop where
 ne:1<=y ks
 len:y ks<=100
 can:∀k∈ks,k.Can
 PK:rL ks<=100
 pos:∀n(h:n<y ks),ks[n].pos=sN (ks.take n)
 Zd:∀n(h:n<y ks),ie (iU<|ks.take n) ks[n].first=bU
def Nb(a:mz)(k:qS):sN (a++[k])=sN a+k.size:=by simp[sN]
def BH(a:mz)(k:qS):rL (a++[k])=rL a+k.count:=by simp[rL]
def ED(a:mz)(k:qS):iU (a++[k])=k.last:=by simp[iU]
def BG(a:mz)(n:M):rL (a.take n)<=rL a:=by
 have h:=bS (λl=>(l.map qS.count).sum)<|bW n a;simp only[aM,gl]at h;unfold rL;omega
def Ki{ks:mz}(h:∀k∈ks,k.Can):sN ks<=512*y ks:=by
 induction ks with
 |nil=>simp[sN]
 |cons k ks b=>
  have a:=(h k<|by simp).size;have c:=b (λj a=>h j<|by simp[a]);unfold sN at*;simp only[aX,iL,ay];omega
def qS.Can.fits{k:qS}(h:k.Can):k.Fits:=⟨by have:=h.size;omega,by have:=h.c2;omega,by have:=h.f8;omega,by have:=h.l8;omega⟩
def As(s:ab)(b:s.size<=255):kw (ep s):=by
 intro x a;unfold ep at a;rcases aA.1 a with rfl|a;omega;exact kw.text s x a
def UB{k:qS}(h:k.Fits):kw (uX k):=(kw.le 4 _).append<|(kw.le 4 _).append<|(As _ h.first).append<|As _ h.last
def Jc(h:∀k∈A,k.Fits):kw (A.flatMap uX):=by
 intro x a;obtain⟨k,b,a⟩:=lZ.1 a;exact UB (h k b) x a
structure JK(w0 w:Y)(rb:M)(num cut isz sum:X)(ks:mz)(o:aa)(n:M):Prop where
 own:w.ownsRow (z<|G w0) 347 5 o n (er<|ks.take n)
 rd:Rd w rb ((ks.drop n).flatMap uX) bE
 box:w.heap[z<|G w0]?=H (aq #[aI num,dr cut,dr isz,dr sum] 266 (0,0))
 ar:Z az w0 w
 Tw:z (G w0)<rb
 wy:∀k,bV o=H k->rb<k
def Dr(dk m L:M)(num:X)(hT:Steps a)(hP:JL A)(hb:Bytes a (bC dk m (y<|fc A) L) (fc A)):cw bF 214 #[bC dk m (y<|fc A) L,eD #[aI num,dr (sN A:M),dr (y (fc A):M),dr<|mr<|fc A]] a λF w'=>
 ∃b,F=aO (dA #[b,aL bU])/\w'.ownsRow (z<|G a) 347 5 b (y A) (er A)/\Z az a w':=by
 have t:∀k∈A,k.Fits:=λk j=>(hP.can k j).fits
 have dv:y (fc A)<=52004:=by
  have h1:=lq t;have h2:=hP.len;unfold fc;rw[af,bY];omega
 have bt:0<y (fc A):=by unfold fc;rw[af,bY];omega
 have ed:sN A<=51200:=by have:=Ki hP.can;have:=hP.len;omega
 obtain⟨i0,bs,cm,cn,cp⟩:=cz Oh
 obtain⟨bg,hL⟩:∃bg,y (fc A)=bg:=⟨_,rfl⟩
 obtain⟨bh,hS⟩:∃bh,sN A=bh:=⟨_,rfl⟩
 obtain⟨cs,hN⟩:∃cs,y A=cs:=⟨_,rfl⟩
 rw[hL]at dv bt
 rw[hS]at ed
 rw[hL,hS]
 have e1:IntKind.i64.wrap (bg:X)=bg:=by rw[bO];omega
 have e2:IntKind.i64.wrap (bh:X)=bh:=by rw[bO];omega
 have ch:∀dd,dd.heap=(ct a<|aq #[aI num,dr bh,dr bg,dr<|mr<|fc A] 266).heap->cw bF 189 #[bC dk m bg L] dd λF w'=>F=aO (dr<|mr<|fc A)/\w'=dd:=by
  intro dd b;refine sk _ (fc A) dd ((hT.alloc _).of_heap b) ?_ (by omega);rw[<-hL];exact(hb.alloc _).of_heap b
 have em:dk<z (G a):=hb.lt (by intro F;rw[F]at hL;simp at hL;omega) dk rfl
 obtain⟨HB,HT,HP,HF,HL,HS,Q⟩:=ww hb hT hP t hL hS hN
 clear hb hT hP t hL hS hN
 generalize mr (fc A)=el at*
 go_in
 go_wp2_with fail
 go_quiet(first|(go_at_call 189;refine Calls.quiet_of_same (ch _ rfl)))
 have N:∃f,(ct a<|aq #[aI num,dr bh,dr bg,dr el] 266).drewN nq=f/\Z az a f/\f.heap[z<|G a]?=H (aq #[aI num,dr bh,dr bg,dr el] 266 (0,0))/\Bytes f (bC dk m bg L) (fc A)/\z (G a)<z (G f):=by
  refine⟨_,rfl,((Z.refl az a).alloc _).of_heap rfl,aC _ rfl,?_,by simp⟩;have:=HB.alloc<|aq #[aI num,dr bh,dr bg,dr el] 266;rw[ae HL]at this;exact this.of_heap rfl
 obtain⟨f,N,ck,bx,bo,co⟩:=N
 rw[N]
 have ea:=mU bo (by intro k j;cases j;show dk<z (G f);omega)
 have dc:=U ck
 have bl:=U bx
 clear N ck bx bo
 go_wp2_with fail
 apply ea.mono
 rintro F w2⟨rfl,W,bf⟩
 subst bf
 have dm:=HP.ne
 have dn:=HP.len
 rw[ae Q]at dm dn
 have T:fc A=le 4 (cs:M)++A.flatMap uX:=by unfold fc;rw[ae Q]
 have ej:=rX (z<|G f) (cs:M) (A.flatMap uX) _ (T▸W) (Jc HF) (by have:=lq HF;rw[ae Q]at this;omega) (by omega)<|by omega
 clear W T
 go_wp2_with fail
 apply ej.mono
 rintro F w3⟨rfl,ac,bb⟩
 have db:=U ac
 have cx:=U bb
 have ek:=bb.size
 simp at ek
 clear ac bb
 go_wp2_with(first
  |(at_make;go_loud(refine lG _ rfl _ _ 289 rfl (z (G a)) 347 i0 (.agg #[.int .i64 0,.int .i64 0,.int .i64 0,.string ⟨#[]⟩,.string ⟨#[]⟩]) 5 underlying289 bs cm cn _ _ _ cs rfl rfl (by omega) (by rw[cp];omega) (by unfold maxLen;omega) (by omega) ?_;intro w4 V S;have cM:=U V;have al:=U S;clear V S)))
 have ex:=al.size
 have hA0:JK a w4 (z<|G f) num bh bg el A (bC (z<|G w3) 0 0 cs) 0:=by
  have c:Z (λk=>k=z (G f)) f w3:=((Z.refl (λk=>k=z (G f)) f).alloc _).trans (fi cx)<|λ_ h=>.inl h;have b:Z (λk=>k=z (G f)) f w4:=c.ci (Z.dM (S:=az) al<|by simp);refine⟨cM,db.laid al,(b.block _ (aj bl) (by intro F;omega)).trans bl,dc.trans b (λk j=>.inr<|by omega),co,?_⟩;intro k j;simp[bV]at j;omega
 have cu:=U hA0
 clear hA0
 go_loopw [8,9,10,11,39] (λo p q l i wr=>∃n:M,n<=cs/\i=dr n/\p=am (sN (A.take n):M)/\q=am (rL (A.take n):M)/\l=J (iU<|A.take n)/\JK a wr (z<|G f) num bh bg el A o n) (λ_ _ _ _ i _=>cs-(intOf i).toNat)
 case atStart=>exact⟨0,bw _,rfl,rfl,rfl,rfl,cu⟩
 case round=>
  obtain⟨n,eu,rfl,rfl,rfl,rfl,e⟩:=hrel;have s:=e.own;obtain⟨ox,oc,ho⟩:=aB s;have es:=e.rd.lt;have ey:=e.ar.size;have ba:=BG A n;have ds:=HP.PK;by_cases bv:n<cs
  .have p:n<y A:=by rw[ae Q];exact bv
   have g:=HP.can A[n]<|ap p;have C:=HP.pos n p;have x:=HP.Zd n p;have l:=e.rd;rw[bD p,dH]at l;have B:kw ((A.drop<|n+1).flatMap uX):=Jc<|λk j=>HF k<|dl j;have dT:y ((A.drop<|n+1).flatMap uX)<=52000:=by
    have h1:=lq (ks:=A.drop<|n+1)<|λk j=>HF k<|dl j;have h2:y (A.drop<|n+1)<=100:=by simp;rw[ae Q];omega
    omega
   have D:A.take (n+1)=A.take n++[A[n]]:=ai p;have ad:sN (A.take n)<=51200:=by
    have h1:=Ki (ks:=A.take n)<|λk j=>HP.can k<|eC j;have h2:y (A.take n)<=100:=by simp;omega
    omega
   rw[<-C]at ad|-;have bn:=U C;have K:=U D;generalize A[n]=k at*;generalize hR:(A.drop<|n+1).flatMap uX=av at*;have HR:=U hR;clear hR;have u:=λdd=>UE k dd g;have dx:=g.fits;obtain⟨pos,d,b,first,c⟩:=k;have f1:=g.size;have f2:=g.c2;have f3:=g.f8;have f4:=g.l8;simp only at f1 f2 f3 f4 ad x;unfold uX at l;simp only[aU]at l;unfold qS.value at u;simp only at u;have a8:(Op.bytesLess first.toList (iU<|A.take n).toList||first.toList==(iU<|A.take n).toList)=bE:=by rw[IQ,x];rfl
   have bc:kw (ep c++av):=(As _<|by omega).append B;have bd:kw (ep first++(ep c++av)):=(As _<|by omega).append bc;have bu:kw (le 4 b++(ep first++(ep c++av))):=(kw.le 4 _).append bd;have en:y (ep c)<=9:=by unfold ep;rw[ay,gY];omega
   have eo:y (ep first)<=9:=by unfold ep;rw[ay,gY];omega
   have e3:IntKind.i64.wrap (d:X)=d:=by rw[bO];omega
   have e4:IntKind.i64.wrap (b:X)=b:=by rw[bO];omega
   have ef:=rX (z<|G f) (d:M) _ wr l bu (by simp only[af,bY];omega) (by omega) (by omega);obtain⟨cB,cE,bk,HA,bm⟩:=jR bc bd B e (show∀(x:Bool)(a:Y),(Op.unary .not<|aL x).run bF a=.ok (aL<|!x) a fromλ_ _=>rfl);clear e s l bc bd bu B g x dx C D;subst ho;generalize iU (A.take n)=ll at*;obtain⟨cc,v⟩:∃cc,rL (A.take n)=cc:=⟨_,rfl⟩;rw[v]at ba|-;have cv:=U v;clear v;go_wp2_with fail
   apply ef.mono;rintro F w5⟨rfl,ca,bp⟩;have bf:=rX (z<|G f) (b:M) _ w5 ca cE (by simp only[af];omega) (by omega) (by omega);have an:=U bp;clear ca bp;go_wp2_with fail
   apply bf.mono;rintro F w6⟨rfl,cb,bq⟩;have eg:=Pa (z<|G f) first w6 cb cB (by simp only[af];omega) (by omega)
   have ao:=U bq;clear cb bq;go_wp2_with fail
   apply eg.mono;rintro F w7⟨rfl,cd,br⟩;have ei:=Pa (z<|G f) c w7 cd bk (by omega) (by omega);have au:=U br;clear cd br;go_wp2_with fail
   apply ei.mono;rintro F w⟨rfl,ce,P⟩;have HX:=U (show∀o2 o,o.ownsRow (z<|G a) 347 5 o2 (n+1) (er (A.take n)++[am pos,am d,am b,J first,J c])->eR (ct (ct (ct w<|aq #[am pos,am d,am b,J first,J c] 347)<|aq #[am pos,am d,am b,J first,J c] 347)<|aq #[am pos,am d,am b,J first,J c] 347) o (I ox n oc) o2->BS o (z<|G w) ⟨pos,d,b,first,c⟩/\JK a o (z<|G f) num bh bg el A o2 (n+1)from by
    intro o2 o r i;have e:=ae HA;have E:Z (λk=>k=z (G f)) wr w:=(((fi an).trans (fi ao)<|λ_ h=>.inl h).trans (fi au)<|λ_ h=>.inl h).trans (fi P)<|λ_ h=>.inl h;have cj:=E.size;have bT:=e.own.lt;have cl:Z (λk=>bV (I ox n oc)=H k) w o:=((((Z.refl (λk=>bV (I ox n oc)=H k) w).alloc _).alloc _).alloc _).trans (Z.fy i)<|λ_ h=>.inl h;have O:BS (ct w<|aq #[am pos,am d,am b,J first,J c] 347) (z<|G w) ⟨pos,d,b,first,c⟩:=aC _ rfl;have ee:Z (λk=>bV (I ox n oc)=H k) (ct w<|aq #[am pos,am d,am b,J first,J c] 347) o:=(((Z.refl (λk=>bV (I ox n oc)=H k) _).alloc _).alloc _).trans (Z.fy i)<|λ_ h=>.inl h;have ax:=e.wy;refine⟨O.ar ee (λF=>by have:=(bT _ F).2;omega),?_,?_,?_,?_,e.Tw,?_⟩
    .rw[ae K,SD];exact r
    .have eb:=((ce.laid<|dt w (aq #[am pos,am d,am b,J first,J c] 347) none).laid<|dt _ (aq #[am pos,am d,am b,J first,J c] 347) none).laid<|dt _ (aq #[am pos,am d,am b,J first,J c] 347) none;have ec:=eb.wrote i ax;rw[ae HR];exact ec
    .exact(cl.block _ (by omega) (λF=>by have:=ax _ F;have:=e.Tw;omega)).trans<|(E.block _ (aj e.box) (λF=>by have:=e.Tw;omega)).trans e.box
    .exact(e.ar.trans E<|λk j=>.inr (by have:=e.Tw;omega)).trans cl<|λk j=>.inr (bT k j).1
    .intro k j;rcases i.uc with et|⟨fe,et,hy⟩
     .exact ax k<|et.symm.trans j
     .rw[et]at j;cases j;simp at hy;omega)
   have cj:z (G f)<z (G w):=by
    have:=an.size;have:=ao.size;have:=au.size;have:=P.size;omega
   have cT:=U (show w.ownsRow (z<|G a) 347 5 (I ox n oc) n (er<|A.take n)from by
    have e:=ae HA;have E:Z (λk=>k=z (G f)) wr w:=(((fi an).trans (fi ao) (λ_ h=>.inl h)).trans (fi au) (λ_ h=>.inl h)).trans (fi P) (λ_ h=>.inl h);exact E.own e.own (λk j F=>by have:=e.wy k j;omega))
   have eq:=ae bm;clear ce P;go_wp2_with fail
   apply(u _).mono;rintro F w9⟨rfl,ev⟩;subst w9;go_wp2_with(first
    |(at_builtin;go_loud(refine bQ _ rfl (.tmp 62) (.tmp 64) 289 rfl (z (G a)) 347 i0 (.agg #[.int .i64 0,.int .i64 0,.int .i64 0,.string ⟨#[]⟩,.string ⟨#[]⟩]) 5 56 underlying289 bs cm cn cp rfl (by decide) (.slice ox n oc) n (er (A.take n)) rfl (aR (aR (aR cT _) _) _) (R (z (G w)+2) 0) 1 1 [.int .i64 pos,.int .i64 d,.int .i64 b,.string first,.string c] rfl rfl (Sz _ _ _ _ _ _ (by simp)) (by simp[Value.oneCell']) (by omega) (by omega) (by simp;omega) ?_;intro o2 o r i;obtain⟨O,hA10⟩:=HX o2 o r i;obtain⟨m0,m1,m2,m3,m4⟩:=O.cells;simp only at m0 m1 m2 m3 m4;obtain⟨fd,fb,rfl⟩:=aB r;have bi:=U hA10;clear r i hA10 O)))
   go_quiet(fail)
   go_wp2;go_roundw;case rel=>
    refine⟨n+1,bv,by go_num,?_,?_,?_,?_⟩
    .rw[ae K,Nb,<-ae bn];go_num
    .rw[ae K,BH,ae cv];go_num
    .rw[ae K,ED]
    .have e:=ae bi;exact⟨e.own,e.rd,e.box,e.ar.of_heap rfl,e.Tw,e.wy⟩
   case measure=>simp[intOf];omega
  .have i:n=cs:=by omega
   subst i;have b:A.take n=A:=by rw[<-ae Q,bN]
   have l:=e.rd;have d:A.drop n=[]:=by rw[<-ae Q,gm]
   rw[d]at l;have c:=xO l (by simp);simp only[uG,qF,nr,ug]at c;have r:=cellAt e.box 1 rfl;rw[b]at ba|-;rw[ae HS];rw[ho,b]at s;have p:=U s;have g:=U e.ar;clear e s l d b;obtain⟨cc,v⟩:∃cc,rL A=cc:=⟨_,rfl⟩;rw[v]at ds ba|-;clear v;have o:((cc:X)<=100)=True:=by simp;omega
   subst ho;go_wp2_with fail
   apply c.mono;rintro F w5⟨rfl,u⟩;subst w5;go_wp2;go_ret2
   exact⟨_,rfl,by rw[ae Q];exact p,g⟩
def rG.trans{w w' d:Y}{a:DK}(h:rG w w' c j O)(k:rG w' d c O a):rG w d c j a:=⟨k.ok,h.ar.trans k.ar<|λx e=>h.aZ x e,λx e=>(k.aZ x e).elim (λg=>h.aZ x g)<|λg=>.inr<|aD h.ar.size g⟩
def rG.refl(h:cJ a b j):rG a a b j j:=⟨h,Z.refl _ _,λ_ c=>.inl c⟩
abbrev Fs:=cr<|ab×eK
def vw(a:cr df):Fs:=a.map<|λf=>(f.name,f.bytes)
def dX:Fs->ab->Option eK
 |[],_=>none
 |f::r,n=>if f.1=n then H f.2 else dX r n
def vh:Fs->ab->Fs
 |[],_=>[]
 |f::r,n=>if f.1=n then r else f::vh r n
def tf:Fs->ab×eK->Fs
 |[],f=>[f]
 |g::r,f=>if g.1=f.1 then f::r else g::tf r f
def ik(a:Fs):M:=(a.map (·.2.length)).sum
def JT(a:cr df):uk a=ik (vw a):=by
 unfold uk ik vw;rw[iR];rfl
def Jj(a:cr df)(n:ab):dX (vw a) n=(qN a n).map df.bytes:=by
 induction a with
 |nil=>rfl
 |cons f r b=>
  unfold vw at*;by_cases h:f.name=n<;>simp[dX,qN,h,b]
def SZ(a:cr df)(n:ab):vw (pC a n)=vh (vw a) n:=by
 induction a with
 |nil=>rfl
 |cons f r b=>
  unfold vw at*;by_cases h:f.name=n<;>simp[vh,pC,h,b]
def Dm(a:cr df)(f:df):vw (qK a f)=tf (vw a) (f.name,f.bytes):=by
 induction a with
 |nil=>rfl
 |cons g r b=>
  unfold vw at*;by_cases h:g.name=f.name<;>simp[tf,qK,h,b]
def By{a:Fs}(h:dX a v=H o):tf a (v,o)=a:=by
 induction a with
 |nil=>cases h
 |cons g r c=>
  obtain⟨b,d⟩:=g;by_cases e:b=v
  .subst e;simp[dX]at h;simp[tf,h]
  .simp[dX,e]at h;simp[tf,e,c h]
def GY{a:Fs}(f d:eK)(h:dX a v=none):tf (a++[(v,f)]) (v,d)=a++[(v,d)]:=by
 induction a with
 |nil=>simp[tf]
 |cons g r c=>
  obtain⟨b,i⟩:=g;by_cases e:b=v
  .simp[dX,e]at h
  .simp[dX,e]at h;simp[tf,e,c h]
def jy(a b:Fs)(n:ab):dX (a++b) n=(dX a n).or (dX b n):=by
 induction a with
 |nil=>simp[dX]
 |cons g r c=>by_cases e:g.1=n<;>simp[dX,e,c]
def vf(b:Fs)(f:ab×eK)(n:ab):dX (tf b f) n=if f.1=n then H f.2 else dX b n:=by
 induction b with
 |nil=>by_cases e:f.1=n<;>simp[tf,dX,e]
 |cons h r g=>
  by_cases e:h.1=f.1
  .by_cases a:f.1=n<;>simp[tf,dX,e,a]
  .by_cases a:h.1=n
   .have c:¬f.1=n:=λb=>e<|a.trans b.symm;have d:¬n=f.1:=λb=>c b.symm;simp[tf,dX,a,c,d]
   .simp[tf,dX,e,a,g]
def xL{a:Fs}(h:dX a v=H o):(v,o)∈a:=by
 induction a with
 |nil=>cases h
 |cons g r c=>
  obtain⟨b,d⟩:=g;by_cases e:b=v
  .subst e;simp[dX]at h;simp[h]
  .simp[dX,e]at h;exact aG _<|c h
def uv(a b:Fs):ik (a++b)=ik a+ik b:=by simp[ik]
def ju{a:cr df}(h:dX (vw a) v=H o):∃F,qN a v=H F/\F.bytes=o:=by
 rw[Jj]at h;cases e:qN a v with
 |none=>rw[e]at h;cases h
 |some F=>rw[e]at h;simp at h;exact⟨F,rfl,h⟩
def vV{a:cr df}(h:dX (vw a) v=none):qN a v=none:=by
 rw[Jj]at h;cases e:qN a v with
 |none=>rfl
 |some F=>rw[e]at h;cases h
def Ge{db:M}{K:DK}(a:ab)(ao b j:M){bs:eK}{w:Y}(h:cJ w db K)(B:dX (vw K.files) a=none)(hn:y K.eO<=1000000000000)(e:ik (vw K.files)+y bs<=1099511627776)(E:kw bs)(u:∀au av,(bs.map<|Value.int .u8)[au]?=H av->aS w (R ao<|b+au)=H av)(i:ao<z (G w))(t:¬K.aZ db ao):cw bF 201 #[aw db,J a,bC ao b (y bs) j] w λQ p=>Q=aO .nilIface/\∃c,rG w p db K c/\vw c.files=vw K.files++[(a,bs)]/\y c.eO=y K.eO+1:=by
 have D:=vV B;have an:=Cx a h (Bw D) hn
 have HX:=U (show∀r f,rG w r db K f->f.files=K.files++[⟨a,z<|G w,aK,[],0⟩]->cw bF 123 #[aw db,J a,bC ao b (y bs) j] r λQ p=>Q=aO .nilIface/\∃c,rG r p db f c/\vw c.files=vw K.files++[(a,bs)]/\c.eO=f.eO from by
  intro r f v hf;have q:vw f.files=vw K.files++[(a,[])]:=by rw[hf];simp[vw]
  have C:dX (vw f.files) a=H []:=by rw[q,jy,B];simp[dX]
  obtain⟨ax,hF,d⟩:=ju C;refine(Ht a ax ao b j bs v.ok hF (by rw[JT,q,uv];simp[ik]at e|-;omega) E (λau av hj=>v.ar.cell (u au av hj) t i) (ag i v.ar.size) (by rw[d];simp)).mono ?_;rintro Q p⟨rfl,c,k,⟨ba,n⟩,o⟩;refine⟨rfl,c,k,?_,o⟩;rw[n,Dm];simp only[d,cC,(kG hF).1];rw[q];exact GY [] bs B)
 have HY:=U (show∀s g,cJ s db g->vw g.files=vw K.files++[(a,bs)]->cw bF 91 #[aw db,J a] s λQ p=>Q=aO .nilIface/\∃c,rG s p db g c/\vw c.files=vw K.files++[(a,bs)]/\c.eO=g.eO from by
  intro s g v q;have C:dX (vw g.files) a=H bs:=by rw[q,jy,B];simp[dX]
  obtain⟨ax,hF,d⟩:=ju C;refine(Pb a ax v hF (by rw[d];omega)).mono ?_;rintro Q p⟨rfl,c,k,n,o⟩;refine⟨rfl,c,k,?_,o⟩;rw[n,Dm];simp only[d,(kG hF).1];rw[By C,q])
 clear h B D u e t E;go_in
 go_wp2_with fail
 apply an.mono;rintro Q r⟨rfl,f,l,A,F⟩;have ha:=HX r f l A;have S:=U l;have W:=U F;clear l A F;go_wp2_with fail
 apply ha.mono;rintro Q s⟨rfl,g,m,O,L⟩;have hs:=HY s g m.ok O;have T:=U m;have ac:=U L;clear m O L;go_wp2_with fail
 apply hs.mono;rintro Q w3⟨rfl,K3,x,P,N⟩;obtain⟨V,al,ad⟩:=dB x P N;clear x P N;go_wp2;go_ret;exact⟨rfl,K3,(S.trans T).trans V,al,by rw[ae ad,ae ac,ae W]⟩
def KF{db:M}{K:DK}(a:ab)(i:eK){w:Y}(h:cJ w db K)(m:dX (vw K.files) a=H i)(k:y i<=1099511627776):cw bF 97 #[aw db,J a] w λx p=>∃o,x=aO (dA #[o,.nilIface])/\eJ p (z<|G w) o i/\∃g,rG w p db K g/\g.files=K.files/\g.eO=K.eO/\∀C,g.aZ db C->K.aZ db C:=by
 obtain⟨F,hF,rfl⟩:=ju m;have l:=VN a F h hF (by omega);have f:=Bh a F 0 (y F.bytes) h hF k (bw _) k;rw[List.drop_zero,bN]at f;generalize F.bytes=i at*;clear h m hF k;go_in
 go_wp2_with fail
 apply l.mono;rintro x q⟨rfl,A⟩;subst q;go_wp2_with fail
 apply f.mono;rintro x q⟨B,rfl,n,v,b,c,e,d⟩;obtain⟨u,r,s,t,j⟩:=jR n b c e d;clear n b c e d;go_wp2;go_ret2
 exact⟨B,rfl,u,v,r,s,t,j⟩
def Gy{db:M}{K:DK}(a:ab){w:Y}(h:cJ w db K)(c:dX (vw K.files) a=none):cw bF 97 #[aw db,J a] w λg e=>g=aO (dA #[aK,.iface 219<|aw<|z<|G w])/\e=ct w (aq #[J a,am 10] 222):=by
 have b:=Qw _ a h.iH h.now<|Bw<|vV c;clear h c;go_in
 go_wp2_with fail
 apply b.mono;rintro g f⟨rfl,d⟩;subst f;go_wp2;go_ret2
 exact⟨rfl,rfl⟩
def um(n:a.ownsRow b c g d l x)(q:0<l):∃f e,d=bC f 0 l e/\b<=f/\f<z (G a)/\l<=e:=by
 obtain⟨o,⟨_,p⟩|⟨f,e,k,h,i,j,m,_⟩⟩:=n;omega;exact⟨f,e,h,i,aj j,m⟩
structure MC(w0 w:Y)(tb:M)(l:cA)(cs:dW)(bb wL db FU:M):Prop where
 pieces:qo l cs
 mem:lR w tb (fh none) 0 0 0 0 bb 0 wL (bC db 0 (y<|dG cs) FU) (bM 0 cs)
 data:eJ w (z<|G w0) (bC db 0 (y<|dG cs) FU) (dG cs)
 FV:w.ownsRow (z<|G w0) 347 5 (bC bb 0 (y<|bM 0 cs) wL) (y<|bM 0 cs) (er<|bM 0 cs)
 new:z (G w0)<=tb
 ar:Z az w0 w
def Dw(t:cA)(A d l:M)(W:Y)(Q:Steps W)(hg:A<z (G W))(S:∀F K,(aE t)[F]?=H K->aS W (R A<|d+F)=H K)(w:y t<=l)(n:0<y t)(m:∀ad∈t,ad.Good)(hs:dQ t)(i:∀A∈ig t,y A<=10)(hl:y t<=1000000):cw bF 119 #[bC A d (y t) l] W λac k=>∃j c e a f b,ac=aO (aw j)/\MC W k j t c e a f b:=by
 have x:=DW A d l Q hg S w n m hs i hl
 have N:=U (show∀p s c k,qo t c->eJ k (z<|G W) p (dG c)->k.ownsRow (z<|G W) 347 5 s (y c) (er<|bM 0 c)->Z az W k->∃e a f b,s=bC e 0 (y<|bM 0 c) a/\p=bC f 0 (y<|dG c) b/\MC W (ct k<|aq #[fh none,aI 0,dr 0,dr 0,dr 0,bC e 0 (y<|bM 0 c) a,bC f 0 (y<|dG c) b] 293) (z<|G k) t c e a f b from by
  intro p s c k o q i r;rw[<-jY c 0]at i;have g:0<y (bM 0 c):=by
   rw[jY];rcases fS (y c)with P|P
   .obtain rfl:=aP P;have:=o.flat;simp at this;rw[this]at n;simp at n
   .exact P
  have v:0<y (dG c):=by
   rw[jY]at g;have:=Jn c 0 g;omega
  have V:=o.length;obtain⟨e,a,rfl,b1,b2,O⟩:=um i g;obtain⟨f,b,rfl,d1,d2,d3⟩:=um q v;refine⟨e,a,f,b,rfl,rfl,o,⟨aC _ rfl,?_,g,O,by rw[jY];omega⟩,q.alloc _,aR i _,r.size,r.alloc _⟩;intro F K hj;obtain⟨h1,⟨C,h0⟩|⟨b',D,B,C,_,u⟩⟩:=dF<|aR i<|aq #[fh none,aI 0,dr 0,dr 0,dr 0,bC e 0 (y<|bM 0 c) a,bC f 0 (y<|dG c) b] 293
  .omega
  .cases C;exact u F K hj)
 go_in
 go_wp2_with(go_at_call 173;refine x.mono ?_;rintro ac E⟨p,s,c,rfl,o,q,i,r⟩;obtain⟨e,a,f,b,rfl,rfl,hF⟩:=N p s c E o q i r;have L:=U hF;clear o q i r hF)
 go_ret;exact⟨z<|G E,c,e,a,f,b,rfl,L⟩
def zh:∀(a:dW)(p:M),sN (bM p a)=y (dG a)
 |[],_=>by simp[sN,bM,dG]
 |c::a,p=>by
  have h:=zh a<|p+(y (fE c)+4);unfold sN at*;rw[bM,aX,iL,h,oN,af,gu];rfl
def BI:∀(a:dW)(p:M),rL (bM p a)=y a.flatten
 |[],_=>by simp[rL,bM]
 |c::a,p=>by
  have h:=BI a<|p+(y (fE c)+4);unfold rL at*;rw[bM,aX,iL,h,aW,af];rfl
def Mi(n:M):∀(a:dW)(p:M),(bM p a).take n=bM p (a.take n):=by
 induction n with
 |zero=>intro a p;simp[bM]
 |succ n b=>
  intro a p;cases a with
  |nil=>simp[bM]
  |cons c a=>rw[bM,rP,b,rP,bM]
def qo.idx(l:qo L k)(j:L≠[])(i:∀x∈L,x.Good)(w:dQ L)(v:y L<=100):JL (bM 0 k):=by
 have a:=l.wH j i w;have r:=l.length;have d:∀a∈k,∀x∈a,x∈L:=λa c x b=>by rw[<-l.flat];exact bz.2 ⟨a,c,b⟩
 refine⟨?_,?_,?_,?_,?_,?_⟩;rw[a.len];exact a.ne;rw[a.len];omega;intro A u;obtain⟨m,q,rfl⟩:=dO u;(have c:m<y k:=by rw[<-a.len];exact q);have o:=a.Ee m q c;have b:=ap c;have t:=l.fit _ b;have h:=i _<|d _ b _<|ap o.ne;have p:=i _ (d _ b _<|ap<|show y k[m]-1<y k[m]by omega);have g:dQ k[m]:=a.mq.sub<|cL b;(have s:y k[m]<=y L:=by rw[<-l.flat];exact(cL b).length_le);refine⟨by rw[o.size];exact t.2,by rw[o.count];exact o.ne,by rw[o.count];omega,by rw[o.first];exact h.Us,by rw[o.first];exact h.LF,by rw[o.last];exact p.Us,by rw[o.last];exact p.LF,?_⟩;rw[o.first,o.last];exact g.CY o.ne<|ap _;rw[BI,l.flat];exact v;intro n f;(have c:n<y k:=by rw[<-a.len];exact f);rw[Mi,zh,a.pos n f]
 .intro n f;have c:n<y k:=by rw[<-a.len];exact f
  have o:=a.Ee n f c;have h:=i _<|d _ (ap c) _<|ap o.ne;cases n with
  |zero=>
   rw[wT];show ie ⟨#[]⟩ _=bU;rw[o.first];cases e:ie ⟨#[]⟩ (k[0][0]'o.ne).key with
   |true=>rfl
   |false=>
    have b:=nP e<|IV _;have:=h.Us;rw[<-b]at this;exact absurd this<|by decide
  |succ n=>
   have g:n<y (bM 0 k):=by omega
   have b:n<y k:=by omega
   rw[ai g,ED];have m:=a.Ee n g b;rw[m.last,o.first];exact(cy.1 a.CT n (n+1) b c<|by omega) _ (ap _) _<|ap _
def mw(a:dW):eK:=dG a++fc (bM 0 a)
def Xt(h:a.ownsRow b c g d l x):∀k,bV d=H k->k<z (G a):=λk e=>(aF h k e).2
def CS{α β:Type}(K:α->β->Prop){b:α}{c:β}{a:Prop}(h:K b c->a)(k:K b c):a:=h k
def VI{l m n o p k q a' b' c' d' e' g':aa}{t:TypeId}{c:M×M}(r:a.heap[b]?=H (aq #[l,m,n,o,p,k,q] t c)):(bZ (bZ (bZ (bZ (bZ (bZ a (R b 0) a') (R b 1) b') (R b 2) c') (R b 3) d') (R b 4) e') (R b 6) g').heap[b]?=H (aq #[a',b',c',d',e',k,g'] t c):=by
 have d:=aQ (i:=0) (u:=a') r;have e:=aQ (i:=1) (u:=b') d;have f:=aQ (i:=2) (u:=c') e;have g:=aQ (i:=3) (u:=d') f;have h:=aQ (i:=4) (u:=e') g;have j:=aQ (i:=6) (u:=g') h;rw[j];simp
def Ii{e n D L:M}{S K V m0:X}(o:lR a b (fh none) S K V m0 B P e d (bM 0 k))(p:Z (λh=>h=l) a f)(i:rG f C c j O)(hv:vw O.files=vw j.files++[(gJ g,mw k)])(hn:y O.eO=y j.eO+1)(v:C.heap[b]?=H (aq #[fh none,aI S,dr K,dr V,dr m0,bC B P (y<|bM 0 k) e,bC l 0 D n] 293 (0,0)))(F:¬j.aZ c b)(w:¬j.aZ c B)(x:B≠b)(A:B≠l)(hD:y (dG k)=D)(hL:y (fc<|bM 0 k)=L)(Q:b<z (G a)):∃u,cJ (bZ (bZ (bZ (bZ (bZ (bZ C (R b 0)<|aw c) (R b 1)<|aI g) (R b 2)<|dr D) (R b 3)<|dr L) (R b 4)<|dr<|mr<|fc<|bM 0 k) (R b 6) aK).drew c u/\Z (λh=>j.aZ c h\/h=b\/h=l) a (bZ (bZ (bZ (bZ (bZ (bZ C (R b 0)<|aw c) (R b 1)<|aI g) (R b 2)<|dr D) (R b 3)<|dr L) (R b 4)<|dr<|mr<|fc<|bM 0 k) (R b 6) aK).drew/\(∀h,u.aZ c h->j.aZ c h\/z (G a)<=h)/\vw u.files=vw j.files++[(gJ g,mw k)]/\y u.eO=y j.eO+1/\lR (bZ (bZ (bZ (bZ (bZ (bZ C (R b 0)<|aw c) (R b 1)<|aI g) (R b 2)<|dr D) (R b 3)<|dr L) (R b 4)<|dr<|mr<|fc<|bM 0 k) (R b 6) aK).drew b (aw c) g (y<|dG k) (y<|fc<|bM 0 k) (mr<|fc<|bM 0 k) B P e aK (bM 0 k):=by
 have t:=p.size;have q:=VI (a':=aw c) (b':=aI g) (c':=dr D) (d':=dr L) (e':=dr<|mr<|fc<|bM 0 k) (g':=aK) v;have E:Z (λh=>h=b) C (bZ (bZ (bZ (bZ (bZ (bZ C (R b 0)<|aw c) (R b 1)<|aI g) (R b 2)<|dr D) (R b 3)<|dr L) (R b 4)<|dr<|mr<|fc<|bM 0 k) (R b 6) aK):=(((((((Z.refl (λh=>h=b) C).setCell b 0 _<|.inl rfl).setCell b 1 _<|.inl rfl).setCell b 2 _<|.inl rfl).setCell b 3 _<|.inl rfl).setCell b 4 _<|.inl rfl).setCell b 6 _<|.inl rfl);generalize(bZ (bZ (bZ (bZ (bZ (bZ C (R b 0)<|aw c) (R b 1)<|aI g) (R b 2)<|dr D) (R b 3)<|dr L) (R b 4)<|dr<|mr<|fc<|bM 0 k) (R b 6) aK)=wf at*;have m:Z (λh=>h=b) C wf.drew:=E.of_heap rfl;have r:∀h,O.aZ c h->j.aZ c h\/z (G a)<=h:=λh s=>(i.aZ h s).elim .inl (λW=>.inr<|by omega);refine⟨O,i.ok.ar m<|λh s N=>?_,?_,r,hv,hn,?_,?_,o.ne,o.le,o.small⟩;rcases r h s with W|W;exact F<|N▸W;omega;exact((p.mono (T:=λh=>j.aZ c h\/h=b\/h=l)<|λh N=>.inl<|.inr<|.inr N).trans i.ar<|λh s=>.inl<|.inl s).trans m<|λh N=>.inl<|.inr<|.inl N;rw[hD,hL];exact q;intro ac ad hj;have h1:=p.cell (o.cells ac ad hj) A o.lt.2;have h2:=i.ar.cell h1 w<|ag o.lt.2 t;exact m.cell h2 x<|ag o.lt.2<|aD t i.ar.size
def Ij(bt:M)(hu:bt<18446744073709551616){n0 c0 s0 m0:X}(E d:M)(k:dW)(h:lR a b (fh none) n0 c0 s0 m0 g l B (bC E 0 (y<|dG k) d) (bM 0 k))(hd:eJ a P (bC E 0 (y<|dG k) d) (dG k))(hb:P<=z (G a))(hP:JL (bM 0 k))(cp:kw (dG k))(hT:Steps a)(an:Pow a)(fs:y (dG k)<=100000)(A:cJ a c j)(hg:dX (vw j.files) (gJ bt)=none)(hn:y j.eO<=1000000000000)(bm:ik (vw j.files)+200000<=1099511627776)(cM:¬j.aZ c E)(bo:¬j.aZ c b)(en:¬j.aZ c g)(eo:g≠b)(eq:g≠E):cw bF 141 #[aw b,aw c,aI bt] a λav w'=>av=aO .nilIface/\∃K',cJ w' c K'/\Z (λV=>j.aZ c V\/V=b\/V=E) a w'/\(∀V,K'.aZ c V->j.aZ c V\/z (G a)<=V)/\vw K'.files=vw j.files++[(gJ bt,mw k)]/\y K'.eO=y j.eO+1/\lR w' b (aw c) bt (y<|dG k) (y<|fc<|bM 0 k) (mr<|fc<|bM 0 k) g l B aK (bM 0 k):=by
 have p:∀V∈bM 0 k,V.Fits:=λV hk=>(hP.can V hk).fits;have fe:=hP.len;have cB:=IB (bM 0 k) g l B a h.lt.2 h.cells (by omega) p;have fu:y (fc<|bM 0 k)<=52004:=by have h1:=lq p;unfold fc;rw[af,bY];omega
 have co:0<y (fc<|bM 0 k):=by unfold fc;rw[af,bY];omega
 have al:kw (fc<|bM 0 k):=(kw.le 4 _).append<|Jc p;have f:=h.box;have t0:=cellAt f 0 rfl;have t5:=cellAt f 5 rfl;have t6:=cellAt f 6 rfl;obtain⟨i0,es,ex,ey,fb⟩:=cz qh;obtain⟨D,W⟩:∃D,y (dG k)=D:=⟨_,rfl⟩;obtain⟨bb,hL⟩:∃bb,y (fc<|bM 0 k)=bb:=⟨_,rfl⟩;have e1:=sL (n:=(D:M)) (by omega) (by omega);have e2:=sL (n:=(bb:M)) (by omega) (by omega);have cc:=U (show∀v1 o,eJ o (z<|G a) v1 (fc<|bM 0 k)->Z az a o->∃F xc,v1=bC F 0 bb xc/\z (G a)<=F/\F<z (G o)/\aS o (R b 6)=H (bC E 0 D d)/\b<z (G o)/\(∀ev,Z az o ev->cw bF 189 #[bC F 0 bb xc] ev λav w'=>av=aO (dr<|mr<|fc<|bM 0 k)/\w'=ev)from by intro v1 o ho ht;obtain⟨F,xc,rfl,a1,a2,_⟩:=um ho co;rw[<-hL,<-W];refine⟨F,xc,rfl,a1,a2,ht.cell t6 id<|aj f,ag (aj f) ht.size,λev hW=>?_⟩;have et:=ht.ci hW;exact sk _ (fc<|bM 0 k) ev (hT.below (et.below (ah _) cG) hT.lt) (eJ.bytes<|hW.own ho<|λ_ _ cd=>cd)<|by omega);have dn:=U h;clear h;rw[W]at t6;go_in
 go_wp2_with fail
 apply cB.mono;rintro av o⟨v1,rfl,bk,bn⟩;obtain⟨F,xc,rfl,y0,y1,y2,y3,C⟩:=cc v1 o bk bn;have bT:=U bk;have ba:=U bn;have m:=aj f;have au:¬b=E:=λav=>by obtain⟨_,hc⟩:=fD hd (k:=E) rfl;exact iq f hc (by decide) av
 clear bk bn t0 t5 cB;go_wp2_with fail
 rename_i QQ KK u;apply CS KK
 .intro br;go_region_held3(λt=>aS t (R b 6)=H (bC E 0 D d)) (first|assumption|go_keep) (first
   |(go_at_call 189;refine(C o.drew<|bX _ _).mono ?_;rintro av w2⟨rfl,ev⟩;subst w2;have et:aS o.drew (R b 6)=H (bC E 0 D d):=y2)
   |(go_at_call 189;refine(C (ct o (.cells #[.int .u64 0,.int .u32 0,.int .u32 0,.int .u32 0] 266)).drew (((Z.refl _ o).alloc _).of_heap rfl)).mono ?_;rintro av w2⟨rfl,ev⟩;subst w2;have et:aS (ct o (.cells #[.int .u64 0,.int .u32 0,.int .u32 0,.int .u32 0] 266)).drew (R b 6)=H (bC E 0 D d):=(by rw[bA,fp y3];exact y2)))
  all_goals exact br
 apply u;clear u C;have L:∃K,(ct o<|aq #[aI bt,dr D,dr bb,dr<|mr<|fc<|bM 0 k] 266).drew=K/\Z az a K/\K.heap[z<|G o]?=H (aq #[aI bt,dr D,dr bb,dr<|mr<|fc<|bM 0 k] 266 (0,0))/\eJ K (z<|G a) (bC F 0 bb xc) (fc<|bM 0 k):=⟨_,rfl,(ba.alloc _).of_heap rfl,aC _ rfl,bT.alloc _⟩;obtain⟨K,L,q,bg,cv⟩:=L;rw[L];have fv:z (G a)<=z (G o):=ba.size;generalize z (G o)=r at*;clear L bT ba cc y2 y3;have fk:=q.size;have em:=hT.below (q.below (ah _) cG) hT.lt;have hS:aS K.drew (R b 6)=H (bC E 0 D d):=by rw[bA];exact q.cell t6 id m
 go_wp2_with fail
 rename_i QQ KK u;refine cg (λt=>aS t (R b 6)=H (bC E 0 D d)) 10 (by kernel_rfl) ?_;refine cQ 0 ?_;iterate 2 (refine eE (v:=?_) hS rfl (by kernel_rfl) iO rfl ?_ ?_;rotate_left;(focus(intro t hX;go_simp;try rfl));simp only[Act.put,cX,Nat.reduceAdd])
 apply eh;refine cQ 3 ?_;iterate 5 (refine eE (v:=?_) hS rfl (by kernel_rfl) iO rfl ?_ ?_;rotate_left;(focus(intro t hX;go_simp;try rfl));simp only[Act.put,cX,Nat.reduceAdd])
 apply eh;refine aJ (i:=2) rfl rfl (by kernel_rfl) ?_;intro K2 ce;go_simp;have hx:=Xt hd E rfl;have ao:Pow K.drew:=an.ar (q.of_heap rfl) id;apply(AY bt hu ao).mono;rintro av W3⟨rfl,w⟩;have N:Z az a W3:=(q.of_heap (c:=K.drew) rfl).ci<|Z.aT (S:=az) w;have eu:=w.size;have fz:z (G K)<=z (G W3):=eu;have cl:aS W3 (R b 6)=H (bC E 0 D d):=N.cell t6 id m;have bh:W3.heap[r]?=H (aq #[aI bt,dr D,dr bb,dr<|mr<|fc<|bM 0 k] 266 (0,0)):=(w.block r<|aj bg).trans bg;have cx:eJ W3 (z<|G a) (bC F 0 bb xc) (fc<|bM 0 k):=(Z.aT (S:=az) w).own cv<|λ_ _ cd=>cd;have cn:eJ W3 P (bC E 0 D d) (dG k):=by rw[<-W];exact N.own hd<|λ_ _ cd=>cd
 refine ce _ _ (λ_=>cl) ?_;refine aJ (i:=8) rfl rfl (by kernel_rfl) ?_;intro K8 ch;simp only[dp,cD,cN];refine kE (.tmp 34) (.tmp 35) 126 rfl P 5 i0 (tD 0) 1 1 underlying126 es ex ey fb rfl (by decide) (bC E 0 D d) D ((dG k).map<|Value.int .u8) rfl (by have h0:=cn;unfold eJ at h0;rw[W]at h0;exact h0) (R F 0) bb xc ((fc<|bM 0 k).map<|Value.int .u8) rfl (by rw[cV,hL,rf]) (tv cx.bytes) (by intro bt hu;simp only[aY]at hu;obtain⟨fd,_,rfl⟩:=hu;rfl) (by omega) (by omega) (by omega) ?_;intro v4 w4 bl bp;have bf:eJ w4 P v4 (mw k):=eJ.of bl (by unfold mw;rw[af,W,hL]) (by unfold mw;rw[aM]);have Q:=Z.fy bp;obtain⟨yb,yc,rfl,g1,g2,g3⟩:=um bl (by omega);have O:Z (λV=>V=E) a w4:=(N.mono (T:=λV=>V=E) cG).trans Q (λV hk=>by simp[bV]at hk;exact .inl hk.symm);have bd:aS w4 (R b 6)=H (bC E 0 D d):=O.cell t6 (λav=>au av) m;have cs:w4.heap[r]?=H (aq #[aI bt,dr D,dr bb,dr<|mr<|fc<|bM 0 k] 266 (0,0)):=(Q.block r (aj bh) (λav=>by simp[bV]at av;omega)).trans bh;have ad:cJ w4 c j:=A.ar O<|λV hk av=>cM<|av▸hk;have bc:D+bb=y (mw k):=by unfold mw;rw[af,W,hL]
 have cT:¬j.aZ c yb:=by intro cd;rcases bp.uc with et|⟨fd,et,hy⟩;simp[bV]at et;subst et;exact cM cd;simp[bV]at et;subst et;have:=A.lt _ cd;omega
 have bq:=Ge (db:=c) (K:=j) (gJ bt) yb 0 yc (bs:=(mw k)) (w:=w4) ad hg hn (by omega) (cp.append al) (Bytes.cells (by rw[<-bc];exact bf.bytes)) g2 cT;rw[<-bc]at bq;obtain⟨dm,dv,ax,s⟩:=gx bf Q cs O;clear bc cT bl bp bf Q cs O g1 g2 g3 cn cx bh cl w;refine ch _ _ (λ_=>bd) ?_;simp only[Act.put,cX];refine aJ (i:=9) rfl rfl (by kernel_rfl) ?_;intro K9 cj;go_simp;apply bq.mono;rintro av w5⟨rfl,K5,x,cE,cu⟩;have cm:aS w5 (R b 6)=H (bC E 0 D d):=x.ar.cell bd bo<|ag m s.size;refine cj _ _ (λ_=>cm) ?_;refine aJ (i:=10) rfl rfl (by kernel_rfl) ?_;intro fn ac;go_simp;refine ac _ _ wu ?_;refine cO (by kernel_rfl) ?_ _;show KK _ _;apply u;clear u ce ch cj ac;have e:w5.heap[b]?=H (aq #[fh none,aI n0,dr c0,dr s0,dr m0,bC g l (y<|bM 0 k) B,bC E 0 D d] 293 (0,0)):=by rw[<-W];exact(x.ar.block b (ag m s.size) bo).trans<|(s.block b m au).trans f
 have bi:w5.heap[r]?=H (aq #[aI bt,dr D,dr bb,dr<|mr<|fc<|bM 0 k] 266 (0,0)):=(x.ar.block r (aj ax) (λcd=>by have:=A.lt _ cd;omega)).trans ax;have hQ:(aS w5.drew (R r 0)=H (aI bt)/\aS w5.drew (R r 1)=H (dr D)/\aS w5.drew (R r 2)=H (dr bb)/\aS w5.drew (R r 3)=H (dr<|mr<|fc<|bM 0 k)):=by simp only[bA];refine⟨?_,?_,?_,?_⟩<;>(rw[bR bi];rfl)
 obtain⟨ca,ds,bu,cb,bx,fl⟩:=kF e bi x cE cu A;clear bi x cE cu A f hd hS bd cm t6 hg hn bm hT an ao em q N bg cv bq ad cp al hP;obtain⟨db,dc,dd,dk⟩:=hQ;simp only[bA]at db dc dd dk;have dT:=cellAt e 0 rfl;have ea:=cellAt e 1 rfl;have eb:=cellAt e 2 rfl;have ec:=cellAt e 3 rfl;have ed:=cellAt e 4 rfl;have ee:=cellAt e 6 rfl;have ef:=dJ (i:=0) e;have eg:=dJ (i:=1) e;have ei:=dJ (i:=2) e;have ej:=dJ (i:=3) e;have ek:=dJ (i:=4) e;have el:=dJ (i:=6) e;have fx:r≠b:=by omega
 have ff:b≠r:=by omega
 clear e;go_wp2_with fail
 rename_i fr dx ck;apply CS dx;(.intro br;(go_region);all_goals exact br);refine ck _ _ ?_;have bv:=U<|Ii dn s bu cb bx ca bo en eo eq W hL m;clear dT ea eb ec ed ee ef eg ei ej ek el db dc dd dk ca ds bu cb bx s ax dm dv;go_wp2;go_ret;exact⟨rfl,bv⟩
def JZ(F:M)(hu:F<18446744073709551616)(d:dW)(hP:JL (bM 0 d))(hT:Steps a)(C:Pow a)(bs:y (dG d)<=100000)(ba:¬j.aZ b 1)(E:cJ a b j)(hg:dX (vw j.files) (gJ F)=H (mw d)):cw bF 151 #[aw b,Ev F (y<|dG d) (y<|fc<|bM 0 d)<|mr<|fc<|bM 0 d] a λbg m=>
 ∃e i c,bg=aO (dA #[aw e,.nilIface])/\lR m e (aw b) F (y<|dG d) (y<|fc<|bM 0 d) (mr<|fc<|bM 0 d) i 0 c aK (bM 0 d)/\z (G a)<=e/\z (G a)<=i/\∃f,rG a m b j f/\f.files=j.files/\f.eO=j.eO/\∀O,f.aZ b O->j.aZ b O:=by
 have o:∀O∈bM 0 d,O.Fits:=λO hk=>(hP.can O hk).fits
 have an:=hP.len
 have bv:=hP.ne
 have bu:y (fc<|bM 0 d)<=52004:=by
  have h1:=lq o;unfold fc;rw[af,bY];omega
 have A:0<y (fc<|bM 0 d):=by unfold fc;rw[af,bY];omega
 have ax:=zh d 0
 have bt:y (mw d)=y (dG d)+y (fc<|bM 0 d):=by unfold mw;rw[af]
 have hcut:((mw d).drop<|y<|dG d).take (y<|fc<|bM 0 d)=fc (bM 0 d):=by unfold mw;simp
 obtain⟨cd,hF,u⟩:=ju hg
 obtain⟨P,hD⟩:∃P,y (dG d)=P:=⟨_,rfl⟩
 obtain⟨L,K⟩:∃L,y (fc<|bM 0 d)=L:=⟨_,rfl⟩
 obtain⟨bf,hc⟩:∃bf,mr (fc<|bM 0 d)=bf:=⟨_,rfl⟩
 have e1:IntKind.i64.wrap (P:X)=P:=by rw[bO];omega
 have e2:IntKind.i64.wrap (L:X)=L:=by rw[bO];omega
 have bo:=U (show∀g,Z az a g->cw bF 155 #[aw b,J<|gJ F,am P,am L] g λbg m=>∃s t,bg=aO (dA #[bC s 0 L t,.nilIface])/\eJ m (z<|G g) (bC s 0 L t) (fc<|bM 0 d)/\Z (j.aZ b) g m/\∃f,rG a m b j f/\f.files=j.files/\f.eO=j.eO/\∀O,f.aZ b O->j.aZ b O from by
  intro g r;have ad:=E.ar r (λ_ _=>id);refine(Bh (gJ F) cd P L ad hF (by rw[u];omega) (by rw[u];omega) (by omega)).mono ?_;rintro bg m⟨v',rfl,N,f,n,h1,h2,h3⟩;rw[u,<-hD,<-K,hcut]at N;obtain⟨s,t,rfl,a1,a2,_⟩:=um N A;rw[K]at N|-;exact⟨s,t,rfl,N,n.ar,f,⟨n.ok,(r.mono (T:=j.aZ b) cG).trans n.ar (λ_ h=>.inl h),λO hk=>.inl (h3 O hk)⟩,h1,h2,h3⟩)
 have bp:=U (show∀w s t g(f:DK),rG a w b j f->eJ w g (bC s 0 L t) (fc<|bM 0 d)->cw bF 214 #[bC s 0 L t,eD #[aI F,dr P,dr L,dr bf]] w λbg m=>
  ∃i c,bg=aO (dA #[bC i 0 (y<|bM 0 d) c,aL bU])/\z (G w)<=i/\lR (ct m<|aq #[aw b,aI F,dr P,dr L,dr bf,bC i 0 (y<|bM 0 d) c,aK] 293) (z<|G m) (aw b) F P L bf i 0 c aK (bM 0 d)/\Z az w m from by
   intro w s t g f n N;have bb:Steps w:=λO hk=>n.ar.cell (hT O hk) ba hT.lt;have ad:=eJ.bytes N;rw[<-K]at ad;have v:=Dr s 0 t F bb hP ad;rw[ax,hD,K,hc]at v;apply v.mono;rintro bg m⟨v',rfl,au,bT⟩;obtain⟨i,c,rfl,a1,a2,a3⟩:=um au (by omega);refine⟨i,c,rfl,a1,⟨aC _ rfl,?_,by omega,a3,by omega⟩,bT⟩;intro ch cj hj;obtain⟨h1,⟨h2,h0⟩|⟨b',cc,ca,h2,_,br⟩⟩:=dF<|aR au<|aq #[aw b,aI F,dr P,dr L,dr bf,bC i 0 (y<|bM 0 d) c,aK] 293
   .omega
   .cases h2;exact br ch cj hj)
 have cb:∀(x:Bool)(a:Y),(Op.unary .not<|aL x).run bF a=.ok (aL<|!x) a:=λ_ _=>rfl
 have HPow:=U C
 have bi:=U E
 unfold Ev
 rw[hD,K,hc]
 clear hP hT C bs ba E hg o bu A ax bt hcut hF u hD K hc an bv
 generalize y (bM 0 d)=ce at*
 go_in
 go_wp2_with fail
 apply(AY F hu<|HPow.ar ((Z.refl az a).alloc _) id).mono
 rintro bg w2⟨rfl,D⟩
 have p:w2.heap[z<|G a]?=H (aq #[aI F,dr P,dr L,dr bf] 266 (0,0)):=(D.block _<|by simp).trans<|aC _ rfl
 have r:Z az a w2:=((Z.refl az a).alloc _).ci<|Z.aT (S:=az) D
 have c0:=cellAt p 0 rfl
 have c1:=cellAt p 1 rfl
 have c2:=cellAt p 2 rfl
 have bx:=bo w2 r
 have Q:=U p
 clear p r D
 go_wp2_with fail
 apply bx.mono
 rintro bg w⟨s,t,rfl,av,bc,K3,e,al,B,x⟩
 have ao:¬j.aZ b (z<|G a):=λbf=>by have:=bi.lt _ bf;omega
 have k:=(bc.block _ (aj Q) ao).trans Q
 have d0:=cellAt k 0 rfl
 have d1:=cellAt k 1 rfl
 have d2:=cellAt k 2 rfl
 have d3:=cellAt k 3 rfl
 have v:=bp w s t _ K3 e av
 obtain⟨V,bh,bk,bn,bl⟩:=jR k e al B x
 clear k e al B x av bc ao
 go_wp2_with fail
 apply v.mono
 rintro bg w4⟨i,c,rfl,bq,ac,l⟩
 have q:=(l.block _ (aj V) id).trans V
 have g0:=cellAt q 0 rfl
 have g1:=cellAt q 1 rfl
 have g2:=cellAt q 2 rfl
 have g3:=cellAt q 3 rfl
 have bm:=U ac
 have W:=U l
 clear ac l q
 go_wp2
 go_ret2
 have e:=ae bh
 have bd:=e.ar.size
 have l:=W.alloc<|aq #[aw b,aI F,dr P,dr L,dr bf,bC i 0 ce c,aK] 293
 refine⟨z<|G w4,i,c,rfl,bm,aD bd W.size,aD bd bq,K3,?_,bk,bn,bl⟩
 exact⟨e.ok.ar l<|λ_ _=>id,e.ar.ci l,e.aZ⟩
structure bI where
 tb:M
 ks:mz
 cs:dW
 num:M
abbrev cP:=cr bI
variable{S:bI}
def bI.ptr(t:bI):aa:=aw t.tb
def bI.all(t:bI):cA:=t.cs.flatten
def iX(a:mz):ab:=(a.head?.map qS.first).getD ⟨#[]⟩
def EE(h:0<y A):iU A=(A[y A-1]'(by omega)).last:=by
 unfold iU;rw[List.getLast?_eq_getElem?,aH<|by omega];rfl
def Bz(h:0<y A):iX A=(A[0]'h).first:=by
 unfold iX;cases A with
 |nil=>simp at h
 |cons k r=>rfl
def PS(w:Y)(t:bI):Prop:=∃h b cut c f g d a e,lR w t.tb h b cut c f g d a e t.ks
def PS.first{t:bI}(n:PS a t):cw bF 176 #[t.ptr] a λm j=>m=aO (J<|iX t.ks)/\j=a:=by
 obtain⟨l,c,cut,d,i,k,e,b,h,g⟩:=n;rw[Bz g.ne];exact RZ g
def PS.last{t:bI}(m:PS a t):cw bF 177 #[t.ptr] a λl i=>l=aO (J<|iU t.ks)/\∃q,i=a.drewN q:=by
 obtain⟨k,c,cut,d,h,j,e,b,g,f⟩:=m;rw[EE f.ne];exact Uo f
def lR.dh{w w':Y}{a cut e f:X}(h:lR w b d a cut e f c g l s A)(i:w'.heap[b]?=w.heap[b]?)(j:w'.heap[c]?=w.heap[c]?):lR w' b d a cut e f c g l s A:=⟨i.trans h.box,λm u k=>(cH (w:=w) j).trans<|h.cells m u k,h.ne,h.le,h.small⟩
def PS.of_heap{w w':Y}(n:PS w S)(m:w'.heap=w.heap):PS w' S:=by
 obtain⟨k,d,cut,e,i,j,g,b,h,l⟩:=n;exact⟨k,d,cut,e,i,j,g,b,h,l.dh (by rw[m])<|by rw[m]⟩
def PS.below(m:PS a S)(j:Below (z<|G a) a f):PS f S:=by
 obtain⟨l,c,cut,d,i,k,e,b,g,h⟩:=m;exact⟨l,c,cut,d,i,k,e,b,g,h.dh (j.block _ h.lt.1)<|j.block _ h.lt.2⟩
structure kZ(w:Y)(v:aa)(ts:cr bI):Prop where
 row:Row w 1 v (y ts) (ts.map bI.ptr)
 lt:∀k,bV v=H k->k<z (G w)
 each:∀t∈ts,PS w t
 small:y ts<=1000000000
def kZ.below{e:cr bI}(h:kZ a d e)(b:Below (z<|G a) a f):kZ f d e:=by
 refine⟨(Z.aT (S:=az) b).row h.row<|λk c=>⟨id,h.lt k c⟩,λk c=>ag (h.lt k c) b.size,λt g=>(h.each t g).below b,h.small⟩
def AN(a:cr bI):Prop:=a.Pairwise<|λb c=>ie (iU b.ks) (iU c.ks)=bU
def Lk{k bk:M}{c:cr bI}(f:ab)(h:kZ a d c)(o:dV a k d 105)(n:dV a bk (J f) 9)(i:M)(m:i<y c):cw bF 261 #[am i,aw k,aw bk] a λs j=>s=aO (aL<|!ie (iU c[i].ks) f)/\∃q,j=a.drewN q:=by
 obtain⟨g,⟨_,B⟩|⟨w,e,r,rfl,_,l⟩⟩:=h.row;omega;have u:aS a (R w<|e+i)=H c[i].ptr:=by refine l i _ ?_;rw[dz,aH m];rfl
 have b:∀W,W.heap=a.heap->cw bF 177 #[c[i].ptr] W λs j=>s=aO (J<|iU c[i].ks)/\∃q,j=W.drewN q:=λW e=>((h.each _<|ap m).of_heap e).last;have c1:=o.cell;have c2:=n.cell;have t:=Jh;have v:=h.small;have x:(i:X)<(y c:X):=by omega
 have A:(0:X)<=(i:X):=by omega
 unfold ie;unfold bI.ptr at u b;generalize iU c[i].ks=C at*;generalize c[i].tb=p at*;clear h o n g l;go_in
 go_wp2_with fail
 go_quiet(first|(go_at_call 177;refine Calls.quiet_of (b _ rfl)))
 go_wp2;go_ret;exact⟨rfl,nq,rfl⟩
variable{i p u:cP}
def tE.Yr(h:tE A k):0<y A:=by rw[h.len];exact h.ne
def tE.xD(h:tE A k):∃x∈k.flatten,x.key=iU A:=by
 have b:=h.Yr;have a:y A-1<y k:=by have:=h.len;omega
 have o:=h.Ee (y A-1) (by omega) a;have n:=o.ne;exact⟨_,bz.2 ⟨_,ap a,ap<|show y k[y A-1]-1<y k[y A-1]by omega⟩,by rw[EE b,o.last]⟩
def tE.Hc(h:tE A k):∃x∈k.flatten,x.key=iX A:=by
 have b:=h.Yr;have a:0<y k:=by have:=h.len;omega
 have o:=h.Ee 0 (by omega) a;exact⟨_,bz.2 ⟨_,ap a,ap o.ne⟩,by rw[Bz b,o.first]⟩
def tE.CZ(h:tE A k)(f:w∈k.flatten):ie (iU A) w.key=bE:=by
 have e:=h.Yr;have b:y A-1<y k:=by have:=h.len;omega
 have o:=h.Ee (y A-1) (by omega) b;obtain⟨j,c,a⟩:=bz.1 f;obtain⟨i,d,rfl⟩:=dO c;rw[EE e,o.last];rcases dE i (y A-1)with g|g;exact lI<|cy.1 h.CT i _ d b g w a _<|ap (by have:=o.ne;omega);(have:i=y A-1:=by have:=h.len;omega);subst this;exact dQ.CY (h.mq.sub<|cL<|ap b) o.ne a
def tE.xK(h:tE A k)(g:w∈k.flatten):ie w.key (iX A)=bE:=by
 have f:=h.Yr;have b:0<y k:=by have:=h.len;omega
 have o:=h.Ee 0 (by omega) b;obtain⟨j,c,a⟩:=bz.1 g;obtain⟨i,e,rfl⟩:=dO c;rw[Bz f,o.first];rcases fS i with d|d;subst d;exact dQ.xK (h.mq.sub<|cL<|ap b) o.ne a;exact lI<|cy.1 h.CT 0 i b e d _ (ap o.ne) w a
def cf(a:cP):cA:=(a.map bI.all).flatten
def yB(t:bI)(a:cP):cf (t::a)=t.all++cf a:=by simp[cf]
def eN(a b:cP):cf (a++b)=cf a++cf b:=by simp[cf]
def lk:w∈cf i↔∃t∈i,w∈t.all:=by
 unfold cf;constructor;intro h;obtain⟨d,c,b⟩:=bz.1 h;obtain⟨t,a,rfl⟩:=aY.1 c;exact⟨t,a,b⟩;rintro⟨t,a,b⟩;exact bz.2 ⟨_,aY.2 ⟨t,a,rfl⟩,b⟩
structure ly(ts:cP):Prop where
 pure:∀t∈ts,tE t.ks t.cs
 mq:dQ (cf ts)
 CT:(ts.map bI.all).Pairwise gS
def ly.pair(j:ly i)(e:b<y i)(f:c<y i)(d:b<c){a:E}(g:w∈i[b].all)(h:a∈i[c].all):ie w.key a.key=bU:=by
 exact cy.1 j.CT b c (by simpa using e) (by simpa using f) d w (by simpa using g) a<|by simpa using h
def ly.Ap(h:ly i):AN i:=by
 refine cy.2<|λk l b c a=>?_;obtain⟨x,f,d⟩:=(h.pure _<|ap b).xD;obtain⟨j,g,e⟩:=(h.pure _<|ap c).xD;rw[<-d,<-e];exact h.pair b c a f g
def ly.each(h:ly i)(a:S∈i):dQ S.all:=h.mq.sub<|cL<|aY.2 ⟨S,a,rfl⟩
structure qn(ts:cP)(key:ab)(k:M):Prop where
 le:k<=y ts
 low:∀i(hi:i<y ts),i<k->ie (iU ts[i].ks) key=bU
 uY:∀i(hi:i<y ts),k<=i->ie (iU ts[i].ks) key=bE
def ly.Bx(p:ly i)(c:ab)(m:qn i c b):(((i.drop b).map bI.all).map<|fQ c).flatten=fQ c (cf i):=by
 have e:cf i=cf (i.take b)++cf (i.drop b):=by rw[<-eN,bW]
 have f:fQ c (cf<|i.take b)=[]:=by unfold fQ;rw[gO];intro x n;obtain⟨t,l,d⟩:=lk.1 n;obtain⟨o,k,rfl⟩:=dO l;rw[gq]at d;(have a:o<b/\o<y i:=by simp at k;omega);have h:=m.low o a.2 a.1;have j:=(p.pure _<|ap a.2).CZ d;rw[xE j h];simp
 have g:∀l:dW,(l.map<|fQ c).flatten=fQ c l.flatten:=by
  intro l;induction l with
  |nil=>rfl
  |cons d r a=>simp only[aX,aW,a];unfold fQ;rw[iW]
 rw[g,e];unfold fQ at*;rw[iW,f,cC];rfl
def ly.Az(l:ly i)(h:qn i v b)(x:E)(n:x∈cf i)(d:x.key=v):∃r:b<y i,x∈i[b].all:=by
 obtain⟨t,j,c⟩:=lk.1 n;obtain⟨q,e,rfl⟩:=dO j;have f:=(l.pure _ j).CZ c;rcases kA q b with g|g|g;have:=xE f<|h.low q e g;rw[d,fo]at this;cases this;subst g;exact⟨e,c⟩;(have a:b<y i:=by omega);obtain⟨p,o,k⟩:=(l.pure _<|ap a).xD;have m:=h.uY b a<|ah _;have:=l.pair a e g o c;rw[k,d,m]at this;cases this
def ly.yx(h:ly i)(b:qn i v (y i))(d:X):iA d (cf i) v=none:=by
 refine qY<|λx c a=>?_;obtain⟨e,_⟩:=h.Az b x c a;omega
def ly.BA(h:ly p)(f:qn p v b)(d:b<y p)(e:X):iA e (cf p) v=iA e p[b].all v:=by
 have:=AA (cs:=p.map bI.all) (k:=v) (i:=b) (by simpa using d) (λx g c=>by obtain⟨_,a⟩:=h.Az f x g c;exact⟨by simpa using d,by simpa using a⟩) h.CT e;unfold cf;simpa using this
def zv(b:ab)(h:kZ a s i)(hs:AN i):cw bF 224 #[s,J b] a λT w'=>∃p:M,T=aO (am p)/\qn i b p/\Below (z<|G a) a w':=by
 have L:Below (z<|G a) a (ct (ct a<|aq #[s] 105)<|aq #[J b] 9):=((Below.refl _ a).alloc (ah _) _).alloc (by simp) _;have W:=h.below L;have P:=h.small
 have w:=zi (f:=261) #[aw<|z<|G a,aw<|z (G a)+1] (y i) (λg=>if e:g<y i then !ie (iU i[g].ks) b else bU) (ct (ct a<|aq #[s] 105)<|aq #[J b] 9) (enters_of func261 (by kernel_rfl) rfl) (by omega) (by
  intro ad D K v A;have u:ad<y i:=by omega
  simp only[v,u,oE]at A|-;rcases lf K with E|E
  .have m:=cy.1 hs ad D u v E;cases d:ie (iU i[D].ks) b with
   |false=>rfl
   |true=>have:=lH m d;rw[this]at A;cases A
  .subst E;exact A)
  (by
   intro g e ac m;have F:=W.below m;have N:dV ac (z (G a)) s 105:=(m.block _ (by simp;omega)).trans (dV.alloc (aC _ rfl) _);have O:dV ac (z (G a)+1) (J b) 9:=(m.block _ (by simp)).trans (aC _ (by simp));apply(Lk b F N O g e).mono;rintro T W'⟨rfl,q,rfl⟩;simp only[e,oE];exact⟨trivial,below_drewN (Below.refl _ _) _⟩)
 have r:=U w;have x:=U L;have hv:=h.row.2;clear w W L h hs;have Q:(s=aK/\y i=0)\/∃D c j,s=bC D c (y i) j:=by rcases hv with E|⟨D,c,j,E,_⟩;exact .inl E;exact .inr ⟨D,c,j,E⟩
 clear hv;have l:∀(T:Ending)(S:Y)(p:M),p<=y i->(∀g,g<p->(if e:g<y i then !ie (iU i[g].ks) b else bU)=bE)->(∀g,p<=g->g<y i->(if e:g<y i then !ie (iU i[g].ks) b else bU)=bU)->qn i b p:=by intro T S p k n o;refine⟨k,λg e m=>?_,λg e m=>?_⟩;have:=n g m;simp only[e,oE]at this;simpa using this;have:=o g m e;simp only[e,oE]at this;simpa using this
 rcases Q with⟨rfl,V⟩|⟨D,c,j,rfl⟩;(.obtain rfl:i=[]:=aP V;clear l V P;(go_in);(go_wp2_with(go_at_call 225;refine r.mono ?_;rintro T S⟨p,rfl,k,n,o,t⟩;have B:=U k;have C:=U t;clear k n o t));go_ret;have k:=ae B;refine⟨p,rfl,⟨k,λg e=>absurd e<|gH g,λg e=>absurd e<|gH g⟩,x.trans<|C.mono x.size⟩);(go_in);(go_wp2_with(go_at_call 225;refine r.mono ?_;rintro T S⟨p,rfl,k,n,o,t⟩;have B:=U k;have m:=U n;have u:=U o;have C:=U t;clear k n o t));go_ret;exact⟨p,rfl,l (aO .nilIface) a p B m u,x.trans<|C.mono x.size⟩
structure sh(V:jm)(n0:M)(v:aa)(ts:cP)(w:Y):Prop where
 row:Row w 1 v (y ts) (ts.map bI.ptr)
 loc:∀k,bV v=H k->k<n0/\¬V.F k
 each:∀t∈ts,nG V n0 t.tb t.ks t.cs w
 side:ly ts
 small:y ts<=1000000000
def nG.Td(l:nG r b S.tb S.ks S.cs a):PS a S:=by
 obtain⟨j,d,cut,e,h,i,f,c,g,k,_⟩:=l.mem;exact⟨j,d,cut,e,h,i,f,c,g,k⟩
def sh.mem(h:sh r b d i a)(e:b<=z (G a)):kZ a d i:=⟨h.row,λk c=>ag (h.loc k c).1 e,λt f=>(h.each t f).Td,h.small⟩
def Row.same{V:jm}{n0:M}{S:fI}(p:Row a b d c x)(l:jJ V n0 S a f)(m:∀n,bV d=H n->n<n0/\¬V.F n):Row f b d c x:=by
 obtain⟨j,h⟩:=p;refine⟨j,?_⟩;rcases h with h|⟨o,e,g,rfl,i,k⟩;exact .inl h;exact .inr ⟨o,e,g,rfl,i,λj u h=>l.cell (.inr<|m o rfl)<|k j u h⟩
def sh.same{V:jm}{n0:M}(h:sh V n0 d i a)(b:jJ V n0 az a f):sh V n0 d i f:=⟨h.row.same b h.loc,h.loc,λt c=>(h.each t c).same b,h.side,h.small⟩
def sh.cell(m:sh r b (bC c g B l) u a){i:M}(k:i<y u):aS a (R c<|g+i)=H u[i].ptr:=by
 obtain⟨_,⟨d,_⟩|⟨b',h,e,d,_,j⟩⟩:=m.row;cases d;cases d;refine j i _ ?_;rw[dz,aH k];rfl
def sh.shape(j:sh r b d p a):(d=aK/\p=[])\/∃f c e,d=bC f c (y p) e:=by
 rcases j.row.2 with⟨g,h⟩|⟨f,c,e,g,_⟩;exact .inl ⟨g,aP h⟩;exact .inr ⟨f,c,e,g⟩
def Lx(k:M)(n:ab)(h:sh r b d i a)(L:dV a c d 105)(A:dV a g (am k) 3)(B:dV a l (J n) 9)(P:r.D a)(t:b<=z (G a))(hF:∀k,r.F k->k<b)(F:b<=c)(D:b<=g)(E:b<=l)(o:M)(w:k+o<y i):cw bF 324 #[am o,aw c,aw g,aw l] a λac f=>∃v p,ac=aO (dA #[v,.nilIface])/\jl r b v (fQ n i[k+o].all) p f/\r.D f/\Z r.F a f/\(∀k,p k->z (G a)<=k):=by
 rcases h.shape with⟨_,h0⟩|⟨O,e,q,rfl⟩;subst h0;simp at w;have c1:=L.cell;have c2:=A.cell;have c3:=B.cell;have K:=h.cell w;have S:=(h.loc O rfl);have al:=h.small;have s:cw bF 325 #[i[k+o].ptr,J n] a.drew λac f=>∃v p,ac=aO v/\jl r b v (fQ n i[k+o].all) p f/\r.D f/\Z r.F a.drew f/\(∀k,p k->z (G a)<=k):=BZ (n0:=b) (tbqq:=i[k+o].tb) (ks:=i[k+o].ks) (cs:=i[k+o].cs) n ((h.each _<|ap w).same ⟨ah _,λ_ _=>rfl⟩) (r.fm P (bX az a) cG) t hF
 have x:=U (show∀f,Z r.F a.drew f->aS f (R c 0)=H (bC O e (y i) q)/\aS f (R g 0)=H (am k)/\aS f (R O<|e+(k+o))=H i[k+o].ptr/\aS f (R l 0)=H (J n)from by
  intro f j;have C:∀x,b<=x->¬r.F x:=λx c a=>by have:=hF x a;omega
  exact⟨j.cell c1 (C _ F) (aj L),j.cell c2 (C _ D) (aj A),j.cell K S.2 (ag S.1 t),j.cell c3 (C _ E) (aj B)⟩)
 have hW:Z r.F a a.drew:=bX _ _;generalize i[k+o]=tt at*;obtain⟨u,T⟩:∃u,k+o=u:=⟨_,rfl⟩;rw[T]at K x w;have Q:(k:X)+(o:X)=(u:X):=by omega
 have e1:(u:X)<(y i:X):=by omega
 have e2:(0:X)<=(u:X):=by omega
 have e3:u<1000000000:=by omega
 have e4:IntKind.i64.wrap (u:X)=(u:X):=by rw[bO];omega
 have e5:wrap64 (u:X)=(u:X):=by unfold wrap64;omega
 unfold bI.ptr at K x s;generalize tt.all=an at*;generalize tt.tb=m at*;clear h L A B P hF T;go_in
 go_wp2_with fail
 go_region_held3(λa=>aS a (R c 0)=H (bC O e (y i) q)/\aS a (R g 0)=H (am k)/\aS a (R O<|e+u)=H (aw m)/\aS a (R l 0)=H (J n)) (first|assumption|go_keep) (first
  |(go_at_call 325;refine s.mono ?_;rintro ac w1⟨v1,S1,rfl,V,W,N,r4⟩;have ad:=x w1 N;have R1:=U V;have R2:=U W;have R3:=U N;have R4:=U r4;clear V W N r4))
 go_wp2;go_ret2
 exact⟨v1,S1,rfl,R1,R2,hW.trans R3<|λ_ c=>.inl c,R4⟩
def Uk(V:jm)(b:M)(v:aa)(j h i l:M)(q:cP)(m:ab):AK V b (((q.drop l).map bI.all).map<|fQ m)where
 f:=324
 cb:=#[aw j,aw h,aw i]
 inv:=λW=>sh V b v q W/\(dV W j v 105/\dV W h (am l) 3/\dV W i (J m) 9)/\(b<=j/\b<=h/\b<=i)/\b<=z (G W)/\∀l,V.F l->l<b
 S:=λx=>x=j\/x=h\/x=i
 SN:=enters_of func324 (by kernel_rfl) rfl
 call:=by
  rintro t s W⟨k,⟨c,d,e⟩,⟨n,o,p⟩,a,hF⟩r;have g:l+t<y q:=by simp at s;omega
  have:=Lx l m k c d e r a hF n o p t g;simpa using this
 fm:=by
  rintro W s⟨k,⟨c,d,e⟩,r,a,hF⟩g;exact⟨k.same<|g.mono cG,⟨c.same g<|.inl rfl,d.same g<|.inr<|.inl rfl,e.same g<|.inr<|.inr rfl⟩,r,aD a g.1,hF⟩
 lt:=by
  rintro W⟨_,⟨c,d,e⟩,⟨n,o,p⟩,_⟩x(rfl|rfl|rfl)
  .exact⟨n,aj c⟩
  .exact⟨o,aj d⟩
  .exact⟨p,aj e⟩
def RD(g:ab)(h:sh r b d i a)(hD:r.D a)(j:b<=z (G a))(hF:∀k,r.F k->k<b):cw bF 321 #[d,J g] a λC o=>∃u p,C=aO u/\jl r b u (fQ g<|cf i) p o/\r.D o/\Z r.F a o/\(∀k,p k->z (G a)<=k):=by
 have q:Below (z<|G a) a (ct (ct a<|aq #[d] 105)<|aq #[J g] 9):=((Below.refl _ a).alloc (ah _) _).alloc (by simp) _;have v:=zv g ((h.mem j).below q) h.side.Ap;have al:=h.small;have O:=h.shape
 have W:=U (show∀(e:Y)(k:M),Below (z<|G<|ct (ct a<|aq #[d] 105)<|aq #[J g] 9) (ct (ct a<|aq #[d] 105)<|aq #[J g] 9) e->qn i g k->cw bF 323 #[am ((y i-k:M):X),.func (.func 324) #[] #[aw<|z<|G a,aw<|z<|G e,aw<|z (G a)+1]] (ct e<|aq #[am k] 3) λC o=>∃u p,C=aO u/\jl r b u (fQ g<|cf i) p o/\r.D o/\Z r.F a o/\(∀k,p k->z (G a)<=k)from by
  intro e k c m;have s:=c.size;simp at s;have l:Z az a (ct e<|aq #[am k] 3):=(((Z.aT (S:=az) q).ci<|Z.aT (S:=az) c).alloc _);have P:dV e (z<|G a) d 105:=(c.block _ (by simp;omega)).trans<|dV.alloc (aC _ rfl) _;have Q:dV e (z (G a)+1) (J g) 9:=(c.block _<|by simp).trans (aC _<|by simp);have N:sh r b d i (ct e<|aq #[am k] 3):=h.same<|l.same j cG cG;have f:=Hq (Uk r b d (z<|G a) (z<|G e) (z (G a)+1) k i g) (ct e<|aq #[am k] 3) ⟨N,⟨P.alloc _,aC _ rfl,Q.alloc _⟩,⟨j,by omega,by omega⟩,aD j l.size,hF⟩ (aD j l.size) hF (by simp;omega);have hl:y (((i.drop k).map bI.all).map<|fQ g)=y i-k:=by simp
  rw[hl]at f;apply f.mono;rintro C o⟨u,p,rfl,hg,hb,hS⟩;rw[h.side.Bx g m]at hg;have n:=l.ci (Z.aT (S:=az) hb);refine⟨u,p,rfl,hg,r.fm hD n cG,n.mono cG,λao hx=>?_⟩;have an:=l.size;rcases hS ao hx with(ac|ac|ac)|ac<;>omega)
 have HY:=U (show∀e,Below (z<|G<|ct (ct a<|aq #[d] 105)<|aq #[J g] 9) (ct (ct a<|aq #[d] 105)<|aq #[J g] 9) e->aS e (R (z<|G a) 0)=H d/\z (G a)<z (G e)from by intro e c;have s:=c.size;simp at s;exact⟨dV.cell (t:=105)<|(c.block _ (by simp;omega)).trans<|dV.alloc (aC _ rfl) _,by omega⟩);clear h hD hF q;rcases O with⟨rfl,rfl⟩|⟨au,T,ad,rfl⟩;(·(go_in);(go_wp2_with fail);apply v.mono;rintro C e⟨k,rfl,m,c⟩;obtain rfl:k=0:=Nat.le_zero.1 m.le;have f:=W e 0 c m;obtain⟨y1,y2⟩:=HY e c;clear m c;(go_wp2_with fail);apply f.mono;rintro C w2⟨V,L,rfl,w,x,A,B⟩;have D:=U w;have E:=U x;have F:=U A;have K:=U B;clear w x A B;go_wp2;go_ret;exact⟨V,L,rfl,D,E,F,K⟩);(go_in);(go_wp2_with fail);apply v.mono;rintro C e⟨k,rfl,m,c⟩;have N:=m.le;have f:=W e k c m;obtain⟨y1,y2⟩:=HY e c;obtain⟨l,n⟩:∃l,y i-k=l:=⟨_,rfl⟩;rw[n]at f;(have P:(y i:X)-(k:X)=(l:X):=by omega);(have Q:l<=1000000000:=by omega);(have q6:IntKind.i64.wrap (l:X)=(l:X):=by rw[bO];omega);clear m c n;(go_wp2_with fail);apply f.mono;rintro C w2⟨V,L,rfl,w,x,A,B⟩;have D:=U w;have E:=U x;have F:=U A;have K:=U B;clear w x A B;go_wp2;go_ret;exact⟨V,L,rfl,D,E,F,K⟩
def MT(h:qn i v b)(a:qn i v c):b=c:=by
 rcases kA b c with e|e|e;have f:=a.low b (by have:=a.le;omega) e;have d:=h.uY b (by have:=a.le;omega)<|ah _;rw[f]at d;cases d;exact e;have f:=h.low c (by have:=h.le;omega) e;have d:=a.uY c (by have:=h.le;omega)<|ah _;rw[f]at d;cases d
def DA:∀{d:cP},AN d->∀a,∃k,qn d a k
 |[],_,_=>⟨0,ah _,λi b=>absurd b<|gH i,λi b=>absurd b<|gH i⟩
 |t::d,l,a=>by
  obtain⟨h,j⟩:=bj.1 l;cases e:ie (iU t.ks) a with
  |true=>
   obtain⟨k,g⟩:=DA j a;refine⟨k+1,Nat.succ_le_succ g.le,λi b c=>?_,λi b c=>?_⟩
   .cases i with
    |zero=>exact e
    |succ i=>exact g.low i (by simpa using b)<|by omega
   .cases i with
    |zero=>omega
    |succ i=>exact g.uY i (by simpa using b)<|by omega
  |false=>
   refine⟨0,bw _,λi b c=>absurd c<|gH i,λi b _=>?_⟩;cases i with
   |zero=>exact e
   |succ i=>
    have g:=h _ (ap<|show i<y d by simpa using b);cases f:ie (iU<|(t::d)[i+1].ks) a with
    |false=>rfl
    |true=>
     have:ie (iU t.ks) a=bU:=lH g f;rw[e]at this;cases this
def RE(l:ab)(L:X)(h:sh r b d p a)(hD:r.D a)(n:b<=z (G a))(hF:∀F,r.F F->F<b):cw bF 320 #[d,J l,aI L] a λad K=>ad=aO (tg<|iA L (cf p) l)/\r.D K/\Z r.F a K:=by
 obtain⟨F,v⟩:=DA h.side.Ap l;have s:Below (z<|G a) a (ct a<|aq #[J ⟨#[]⟩,J ⟨#[]⟩,aL bE,aI 0] 164):=(Below.refl _ a).alloc (ah _) _;have au:=h.small;have D:cw bF 224 #[d,J l] (ct a<|aq #[J ⟨#[]⟩,J ⟨#[]⟩,aL bE,aI 0] 164) λad K=>ad=aO (am F)/\Below (z<|G a) a K/\ij K (z<|G a) zE:=by apply(zv l ((h.mem n).below s) h.side.Ap).mono;rintro ad K⟨j,rfl,o,e⟩;obtain rfl:F=j:=MT v o;exact⟨rfl,s.trans<|e.mono s.size,(e.block _<|by simp).trans<|aC _ rfl⟩
 have C:∀al,b<=al->¬r.F al:=λal N a=>by have:=hF al a;omega
 obtain⟨A,P,g⟩:=dB C (λac(B:Below (z<|G a) a ac)=>r.fm hD (Z.aT (S:=az) B) cG)<|λac(B:Below (z<|G a) a ac)=>h.same<|(Z.aT (S:=az) B).same n cG cG;by_cases t:F<y p
 .rcases h.shape with⟨_,h0⟩|⟨av,W,ao,rfl⟩
  .subst h0;simp at t
  rw[h.side.BA v t L];have HC:=U<|λac(B:Below (z<|G a) a ac)=>(g ac B).cell t;have q:=U<|λac(B:Below (z<|G a) a ac)=>Ca (n0:=b) (tbqq:=p[F].tb) (ks:=p[F].ks) (cs:=p[F].cs) l L ((g ac B).each _<|ap t) (P ac B) (aD n B.size) hF;have j:∀ac,Below (z<|G a) a ac->cw bF 322 #[aw<|p[F].tb,J l,aI L] ac λad K=>ad=aO (tg<|iA L p[F].all l)/\r.D K/\Z r.F ac K:=ae q;have e1:((F:X)==(y p:X))=bE:=by simp;omega
  have e2:(F:X)<(y p:X):=by omega
  have e3:(0:X)<=(F:X):=by omega
  clear q h v hD hF C s g;unfold bI.ptr at HC;generalize iA L p[F].all l=fe at*;generalize p[F].tb=an at*;cases fe with
  |none=>
   simp only[tg,wP]at j;have q:=U j;clear j;go_in
   go_wp2_with(first
    |(go_at_call 224;refine D.mono ?_;rintro ad x⟨rfl,f,c⟩;have hc:=HC x f;have V:=q x f;have m:=U c;have k:=U f;clear c f)
    |(go_at_call 322;refine V.mono ?_;rintro ad w2⟨rfl,u,o⟩;have e:=m.ar o (A _ n);obtain⟨z0,z1,z2,z3⟩:=e.cells;have y0:=e.free (i:=0);have y1:=e.free (i:=1);have y2:=e.free (i:=2);have y3:=e.free (i:=3);have Q:=U e;have O:=U u;have T:=U o;clear e u o))
   refine cI (fV rfl _ _ (z<|G a) zE _ _ rfl<|Q.put zE) rfl ?_;have w:=jb w2 (z<|G a) zE;refine⟨rfl,r.fm O w (λal N=>by subst N;exact A _ n),((Z.aT (S:=r.F) k).trans T<|λF v=>.inl v).trans w<|λal N=>.inr<|by omega⟩
  |some al=>
   obtain⟨xk,xv,xd,xb⟩:=al;simp only[tg,E.value]at j;have q:=U j;clear j;go_in
   go_wp2_with(first
    |(go_at_call 224;refine D.mono ?_;rintro ad x⟨rfl,f,c⟩;have hc:=HC x f;have V:=q x f;have m:=U c;have k:=U f;clear c f)
    |(go_at_call 322;refine V.mono ?_;rintro ad w2⟨rfl,u,o⟩;have e:=m.ar o (A _ n);obtain⟨z0,z1,z2,z3⟩:=e.cells;have y0:=e.free (i:=0);have y1:=e.free (i:=1);have y2:=e.free (i:=2);have y3:=e.free (i:=3);have Q:=U e;have O:=U u;have T:=U o;clear e u o))
   refine cI (fV rfl _ _ (z<|G a) ⟨xk,xv,xd,xb⟩ _ _ rfl<|Q.put ⟨xk,xv,xd,xb⟩) rfl ?_;have w:=jb w2 (z<|G a) ⟨xk,xv,xd,xb⟩;refine⟨rfl,r.fm O w (λal N=>by subst N;exact A _ n),((Z.aT (S:=r.F) k).trans T<|λF v=>.inl v).trans w<|λal N=>.inr<|by omega⟩
 (have o:F=y p:=by have:=v.le;omega);subst o;have e:=h.side.yx v L;rw[e];rcases h.shape with⟨rfl,rfl⟩|⟨av,W,ao,rfl⟩;(.clear h v hD hF C s e t g;(go_in);(go_wp2_with(go_at_call 224;refine D.mono ?_;rintro ad x⟨rfl,f,c⟩;obtain⟨z0,z1,z2,z3⟩:=c.cells;have y0:=c.free (i:=0);have y1:=c.free (i:=1);have y2:=c.free (i:=2);have y3:=c.free (i:=3);have m:=U c;have k:=U f;clear c f));refine cI (fV rfl _ _ (z<|G a) zE _ _ rfl<|m.put zE) rfl ?_;have j:Below (z<|G a) a (wK x (z<|G a) zE):=k.trans ((jb x (z<|G a) zE).below k.size<|λal N=>by omega);exact⟨rfl,P _ j,Z.aT j⟩);clear h v hD hF C s e t g;(go_in);(go_wp2_with(go_at_call 224;refine D.mono ?_;rintro ad x⟨rfl,f,c⟩;obtain⟨z0,z1,z2,z3⟩:=c.cells;have y0:=c.free (i:=0);have y1:=c.free (i:=1);have y2:=c.free (i:=2);have y3:=c.free (i:=3);have m:=U c;have k:=U f;clear c f));refine cI (fV rfl _ _ (z<|G a) zE _ _ rfl<|m.put zE) rfl ?_;have j:Below (z<|G a) a (wK x (z<|G a) zE):=k.trans ((jb x (z<|G a) zE).below k.size<|λal N=>by omega);exact⟨rfl,P _ j,Z.aT j⟩
def Ik{w:Y}(u:bI)(h:PS w u)(B:rL u.ks<=1000000000):cw bF 199 #[u.ptr] w λac S=>ac=aO (am (rL u.ks:M))/\Below (z<|G w) w S:=by
 obtain⟨W,k,cut,q,Q,r,b,i,A,f⟩:=h;obtain⟨v,a,V,num⟩:=u;simp only at B f|-;unfold bI.ptr;simp only;have C:=cellAt f.box 5 rfl;have o:=f.lt;have E:=f.small;have x:=U f.cells;clear f;go_in
 go_wp2;go_loopw [3,11] (λc i wr=>∃n:M,n<=y a/\i=am n/\c=am (rL (a.take n):M)/\Below (z<|G w) w wr) (λ_ i _=>y a-(intOf i).toNat)
 case atStart=>exact⟨0,bw _,rfl,rfl,Below.refl _ _⟩
 (case round=>obtain⟨n,hn,rfl,rfl,d⟩:=hrel;have D:=BG a n;have c:=BG a<|n+1;by_cases j:n<y a;(.have e:∀c v,c<5->(qS.cells a[n])[c]?=H v->aS wr (R r<|b+n*5+c)=H v:=λc v f g=>(d.cell (p:=(R r<|b+n*5+c)) o.2).trans (by rw[aV];exact x _ _<|(iw a n c j f).trans g);rw[ai j,BH]at c;have g:=U (show rL (a.take<|n+1)=rL (a.take n)+a[n].count by rw[ai j,BH]);generalize a[n]=ad at*;obtain⟨pos,t,m,first,s⟩:=ad;have K:=e 0 _ (by omega) rfl;have L:=e 1 _ (by omega) rfl;have N:=e 2 _ (by omega) rfl;have O:=e 3 _ (by omega) rfl;have P:=e 4 _ (by omega) rfl;clear e;simp only[jq]at K L N O P;simp only at c g;generalize rL (a.take n)=T at*;have l:=U d;have F:=d.size;clear d;go_wp2;go_roundw;(case rel=>exact⟨n+1,j,by go_num,by rw[ae g];go_num,l.alloc F _⟩);case measure=>simp[intOf];omega);(have e:n=y a:=by omega);subst e;rw[bN];have l:=U d;clear d;go_wp2;go_ret;exact⟨rfl,l⟩)
def sg(a:cP):M:=(a.map<|λt=>rL t.ks).sum
def Hm(a:cP)(t:bI):sg (a++[t])=sg a+rL t.ks:=by simp[sg]
def Hl(a:cP)(n:M):sg (a.take n)<=sg a:=by
 have h:=bS (λl=>(l.map (λt:bI=>rL t.ks)).sum)<|bW n a;simp only[aM,gl]at h;unfold sg;omega
def Vg(h:S∈i):rL S.ks<=sg i:=by
 induction i with
 |nil=>cases h
 |cons b r a=>
  unfold sg at*;rcases aA.1 h with rfl|h
  .simp
  .have:=a h;simp only[aX,iL];omega
def kZ.cell(m:kZ a (bC b c l g) u){i:M}(k:i<y u):aS a (R b<|c+i)=H u[i].ptr:=by
 obtain⟨_,⟨d,_⟩|⟨b',h,e,d,_,j⟩⟩:=m.row;cases d;cases d;refine j i _ ?_;rw[dz,aH k];rfl
def kZ.shape(h:kZ a d p):(d=aK/\p=[])\/∃e b c,d=bC e b (y p) c/\y p<=c:=by
 rcases h.row.2 with⟨f,g⟩|⟨e,b,c,f,g,_⟩;exact .inl ⟨f,aP g⟩;exact .inr ⟨e,b,c,f,g⟩
def NZ(h:kZ a d i)(C:sg i<=1000000000):cw bF 138 #[d] a λA x=>A=aO (am (sg i:M))/\Below (z<|G a) a x:=by
 have w:=h.small;rcases h.shape with⟨rfl,rfl⟩|⟨F,o,t,rfl,_⟩;(.clear h;(go_in);go_wp2;(go_loopw [3,8] (λs p wr=>p=am 0/\s=am 0/\wr=a) (λ_ _ _=>0));(case atStart=>exact⟨rfl,rfl,rfl⟩);(case round=>obtain⟨rfl,rfl,rfl⟩:=hrel;go_wp2;go_ret;exact⟨rfl,Below.refl _ _⟩));(.have r:=U h;clear h;(go_in);go_wp2;(go_loopw [3,8] (λs p wr=>∃n:M,n<=y i/\p=am n/\s=am (sg (i.take n):M)/\Below (z<|G a) a wr) (λ_ p _=>y i-(intOf p).toNat));(case atStart=>exact⟨0,bw _,rfl,rfl,Below.refl _ _⟩);(case round=>obtain⟨n,D,rfl,rfl,e⟩:=hrel;have u:=Hl i n;have g:=Hl i<|n+1;by_cases c:n<y i;(.have b:=r.below e;have v:=b.cell c;rw[ai c,Hm]at g;have m:=U (show sg (i.take<|n+1)=sg (i.take n)+rL i[n].ks by rw[ai c,Hm]);have j:=Ik (w:=wr) i[n] (b.each _<|ap c) (by have:=Vg<|ap c;omega);clear b;unfold bI.ptr at v j;generalize rL i[n].ks=K at*;generalize i[n].tb=q at*;generalize sg (i.take n)=B at*;have k:=U e;clear e;(go_wp2_with fail);apply j.mono;rintro A E⟨rfl,f⟩;have l:=U f;clear f;go_wp2;go_roundw;(case rel=>exact⟨n+1,c,by go_num,by rw[ae m];go_num,k.trans<|l.mono k.size⟩);case measure=>simp[intOf];omega);(have b:n=y i:=by omega);subst b;rw[bN];have k:=U e;clear e;go_wp2;go_ret;exact⟨rfl,k⟩))
section
open Go.Shelf
attribute [local go_sem] Oper.semAt_some
def nY(v:aa):M->dW->iV
 |_,[]=>[]
 |n,p::a=>zf v n (y p)::nY v (n+y p) a
def FL(v:aa):∀(n:M)(a:dW),y (nY v n a)=y a
 |_,[]=>rfl
 |n,p::a=>by rw[nY,ay,ay,FL]
def Cg(v:aa)(p:cA):∀(n:M)(a:dW),nY v n (a++[p])=nY v n a++[zf v (n+y a.flatten)<|y p]
 |_,[]=>by simp[nY]
 |n,q::a=>by
  rw[cq,nY,Cg,nY,cq,aW,af,aV]
structure CU(W:Y)(base N1:M)(v pv:aa)(ps:dW)(t:M):Prop where
 p:dV W N1 pv 319
 f:dV W (N1+1) (am<|y ps.flatten) 3
 to:dV W (N1+2) (am t) 3
 o:W.ownsRow base 102 1 pv (y ps) (nY v 0 ps)
 XS:∀k,bV pv=H k->k<N1\/N1+4<=k
 size:N1+4<=z (G W)
 bs:base<=N1
def JC(a:M)(b:aa)(k:M):Prop:=(a<=k/\k<a+3)\/bV b=H k
def CU.ar{T:fI}(j:CU a b c d s k g)(e:Z T a C)(h:∀l,JC c s l->¬T l):CU C b c d s k g:=⟨j.p.ar e<|h _<|.inl ⟨by omega,by omega⟩,j.f.ar e<|h _<|.inl ⟨by omega,by omega⟩,j.to.ar e<|h _<|.inl ⟨by omega,by omega⟩,e.own j.o<|λl m=>h l<|.inr m,j.XS,aD j.size e.size,j.bs⟩
def CU.at(h:CU a b c d s k g)(n:M):CU (bZ a (R (c+2) 0)<|am n) b c d s k n:=⟨h.p.other _ (by omega),h.f.other _ (by omega),h.to.set _,(rk a _ 0 _).own h.o (λj e l=>by have:=h.XS j e;omega),h.XS,by rw[gz];exact h.size,h.bs⟩
def CU.more{p:cA}(t:CU a b c d s k g)(u:eR a f s N)(B:g=y k.flatten+y p)(A:f.ownsRow b 102 1 N (y k+1) (nY d 0 k++[zf d (y k.flatten)<|y p])):(aS f (R c 0)=H s/\f.frozen? (R c 0)=bE)/\(aS (bZ f (R c 0) N) (R (c+1) 0)=H (am<|y k.flatten)/\(bZ f (R c 0) N).frozen? (R (c+1) 0)=bE)/\aS (bZ f (R c 0) N) (R (c+2) 0)=H (am g)/\CU (bZ (bZ f (R c 0) N) (R (c+1) 0)<|am g) b c d N (k++[p]) g/\Z (JC c s) a (bZ (bZ f (R c 0) N) (R (c+1) 0)<|am g)/\∀m,JC c N m->JC c s m\/z (G a)<=m:=by
 have h:=Z.fy u;have C:=t.size;have l:∀x,c<=x->x<c+3->¬(bV s=H x):=λx e g n=>by have:=t.XS x n;omega
 have o:=t.p.ar h (l _ (by omega)<|by omega);have r:=(t.f.ar h<|l _ (by omega)<|by omega).other (b':=c) (i:=0) N (by omega);have v:=(t.to.ar h<|l _ (by omega)<|by omega).other (b':=c) (i:=0) N (by omega);have e:∀m,bV N=H m->m<c\/c+4<=m:=by intro m j;rcases u.uc with n|⟨x,n,w⟩;exact t.XS m<|n▸j;rw[n]at j;cases j;exact .inr<|by omega
 refine⟨⟨o.cell,o.free⟩,⟨r.cell,r.free⟩,v.cell,⟨(o.set N).other _ (by omega),?_,v.other _ (by omega),?_,e,?_,t.bs⟩,?_,?_⟩;have:=r.set<|am g;rw[B]at this|-;rw[dP,af];simpa using this;rw[af,Cg,cR];refine(rk _ _ 0 _).own ((rk _ _ 0 _).own A ?_) ?_;intro m j n;have:=e m j;omega;intro m j n;have:=e m j;omega;rw[gz,gz];have:=h.size;omega;exact((h.mono (T:=JC c s)<|λm j=>.inl<|.inr j).setCell _ 0 _<|.inl<|.inl ⟨by omega,by omega⟩).setCell _ 0 _<|.inl<|.inl ⟨by omega,by omega⟩;rintro m(n|n);exact .inl<|.inl n;rcases u.uc with q|⟨x,q,w⟩;exact .inl<|.inr<|q▸n;rw[q]at n;cases n;exact .inr w
structure CJ(w:Y)(N1:M)(v:aa)(n L:M)(pre:cr (M×cA))(B:fI)(W:Y):Prop where
 ex:∃ps cur pv,CU W (z (G w)+2) N1 v pv ps (y<|ii pre)/\ii pre=ps.flatten++cur/\(∀rest,kI n L 0 0 [] (pre.map (·.2)++rest)=ps++kI n L (y ps) (y<|ii pre) cur rest)/\∀k,B k↔JC N1 pv k
 l:dV W (z<|G w) v 102
 n:dV W (z (G w)+1) (am n) 3
 ar:Z az w W
def CJ.lt{h:cr (M×cA)}(n:CJ a b d c g h W C):∀k,W k->z (G a)+2<=k/\k<z (G C):=by
 obtain⟨o,i,p,e,_,_,j⟩:=n.ex;intro k l;have:=e.bs;have:=e.size;rcases(j k).1 l with m|m;exact⟨by omega,by omega⟩;have:=aF e.o k m;exact⟨this.1,this.2⟩
def CJ.stays{e:cr (M×cA)}{T:fI}(p:CJ a b d c g e W f)(i:Z T f C)(h:∀k,T k->¬W k/\b+3<=k):CJ a b d c g e W C:=by
 obtain⟨s,j,t,o,q,r,n⟩:=p.ex;have:=o.bs;exact⟨⟨s,j,t,o.ar i<|λk l m=>(h k m).1<|(n k).2 l,q,r,n⟩,p.l.ar i (λm=>by have:=(h _ m).2;omega),p.n.ar i (λm=>by have:=(h _ m).2;omega),p.ar.trans i<|λk l=>.inr (by have:=(h k l).2;omega)⟩
def MU{gg:cA}{d:dW}(h:∀a,kI b c 0 0 [] (k++a)=d++kI b c (y d) g e a):((y d+1)*c/b<=g+y gg->∀a,kI b c 0 0 [] (k++[gg]++a)=(d++[e++gg])++kI b c (y<|d++[e++gg]) (g+y gg) [] a)/\(¬(y d+1)*c/b<=g+y gg->∀a,kI b c 0 0 [] (k++[gg]++a)=d++kI b c (y d) (g+y gg) (e++gg) a):=by
 constructor;intro f a;rw[aU,h,cq,cC,oV,dw f];simp;intro f a;rw[aU,h,cq,cC,oV,cY f]
def Uz:(prog.info? 102).map (λi=>(i.zero,i.size,i.bytes))=H (H aK,1,24):=by kernel_rfl
def Qq(h:ku a d e)(hs:dQ e)(hl:y e<=1000000)(v:∀k,bV d=H k->k<z (G a)):cw bF 198 #[d] a λev w'=>∃v',ev=aO v'/\w'.ownsRow (z<|G a) 102 1 v' (y<|iz e) (nY d 0<|iz e)/\Z az a w':=by
 obtain⟨i0,cv,dm,dn,ds⟩:=cz Uz;obtain⟨bu,o,dk⟩:=bL h;have eo:=Ar d bu (y e) o dk;obtain⟨N,hN⟩:∃N,uo (y e)=N:=⟨_,rfl⟩;have fe:N<=10418:=by unfold uo at hN;omega
 have cl:0<y e->0<N:=by unfold uo at hN;omega
 have e1:Int.tdiv ((y e:X)+96-1) 96=(N:X):=by(have:((y e:X)+96-1)=((y e+95:M):X):=by omega);rw[this,<-hN];unfold uo;exact(Int.ofNat_tdiv _ _).symm
 unfold iz;rw[hN];obtain⟨HN,ef,HH,HV⟩:=gx hN cl h v;clear h v hN cl;subst dk;refine(cZ (n:=3)).1 ?_;refine callsIn_of_wp_marks func198 rfl trivial ?_ rfl;simp only[ntmps198,eT,ay,cK,Nat.reduceAdd,Nat.reduceSub,dS,dR,eU,ew,cC,cq]
 gi_wp2_with(first
  |(gi_at_make;go_loud(refine wpListIn_make_own _ rfl _ _ 319 rfl (z (G a)+2) 102 i0 aK 1 underlying319 cv dm dn _ _ _ N rfl rfl (by omega) (by rw[ds];omega) (by unfold maxLen;omega) (by simp) ?_;intro g bb x;have W:dV g (z<|G a) (.slice bu (y e) o) 102:=(x.block _ (by simp<;>omega)<|by simp).trans<|dV.alloc (aC _ rfl) _;have ac:dV g (z (G a)+1) (.int .i64 N) 3:=(x.block _ (by simp<;>omega)<|by simp).trans (aC _<|by simp);have y0:=W.cell;have y1:=ac.cell;have y2:=aj W;have y3:=aj ac;have y4:z (G a)<z (G g)+1:=(by omega);have y5:z (G a)<z (G g)+1+1:=(by omega);have ea:=U W;have eb:=U ac;have bi:Hid (g.ownsRow (z (G a)+2) 102 1 (bC (z (G a)+1+1) 0 0 N) 0 []):=U (by simpa using bb);have ed:=U x;clear bb x W ac))
  |(refine⟨trivial,?_⟩;gi_at_call 80;refine(cZ.2 (eo _)).mono ?_;rintro ev w1⟨rfl,rfl⟩))
 obtain⟨W0,u⟩:∃W0,(ct (ct (ct (ct g<|aq #[bC (z (G a)+1+1) 0 0 N] 319)<|aq #[am 0] 3)<|aq #[am 0] 3)<|aq #[I bu (y e) o] 102)=W0:=⟨_,rfl⟩;have fz:z (G W0)=z (G g)+4:=by rw[<-u];simp
 have et:Z az a g:=(((Z.refl az a).alloc<|aq #[I bu (y e) o] 102).alloc<|aq #[am N] 3).ci (Z.dM (S:=az) ed<|by simp);have A:Z az g W0:=by rw[<-u];exact((((Z.refl az g).alloc _).alloc _).alloc _).alloc _
 have db:Z az a W0:=et.ci A;have em:dV W0 (z (G g)+3) (I bu (y e) o) 102:=by rw[<-u];exact aC _<|by simp
 have cd:ku W0 (I bu (y e) o) e:=HH.ar db<|λk b=>⟨id,HV k b⟩;have hA0:CJ a (z<|G g) (I bu (y e) o) N (y e) [] (JC (z<|G g)<|bC (z (G a)+1+1) 0 0 N) W0:=by refine⟨⟨[],[],_,⟨?_,?_,?_,?_,?_,by omega,by omega⟩,rfl,λP=>rfl,λk=>qU⟩,ea.ar A id,eb.ar A id,db⟩;rw[<-u];exact dV.alloc (dV.alloc (dV.alloc (aC _ rfl) _) _) _;rw[<-u];exact dV.alloc (dV.alloc (aC _<|by simp) _) _;rw[<-u];exact dV.alloc (aC _<|by simp) _;exact A.own bi<|λ_ _ o=>o;intro k b;have:=(bi.lt k b).2;exact .inl this
 clear y0 y1 y4 y5;rw[u];refine nA (m:=3) (arg:=FX<|I bu (y e) o) (V:=AB) (n0:=z<|G a) (gf:=128) (lb:=#[aw<|z (G g)+3]) (l:=nC 0<|ig e) (S:=λk=>k=z (G g)+3) ?geval (enters_of func128 (by kernel_rfl) rfl) (λ_=>rfl) (vS (z<|G a) 2 em cd HV (by omega)<|by omega) trivial (by omega) (λk b=>by omega) (λj au bv=>CJ a (z<|G g) (I bu (y e) o) N (y e) j au bv) (λ_ _ _ _=>False) _ hA0 (λk b o=>by rcases o with⟨_,o⟩|o;omega;have:=(bi.lt k o).2;omega) (λj au bv E k b=>⟨by have:=(E.lt k b).1;omega,(E.lt k b).2⟩) ?st (λ_ _ _ _ _ _ h=>h.elim) ?body ?done ?stop;case geval=>rfl
 (case st=>intro j au bv f T E ht c;refine E.stays ht<|λk b=>⟨(c k b).1,?_⟩;rcases(c k b).2 with o|o|o;omega;exact o.elim;omega);(case stop=>intro ex o j au bv _ h;exact h.elim)
 case body=>
  rintro lr j⟨bf,n⟩au bv fs cc cE L E _;obtain⟨hn,gc,b⟩:=IW hs L;have fl:0<y n:=gG.2 b.ne;have fr:bf+y n+y gc=y e:=by rw[b.all,hn];simp;omega
  obtain⟨dx,c,fd,hx,fn⟩:=cd.some (by omega);cases hx;have en:∀q∈j.map (·.2),q≠[]:=by
   obtain⟨_,bd,ev⟩:=yu _ _ _ _ _ L;exactλq hq=>Da e q (by rw[<-ev];simp[hq])
  unfold FX zf;simp only;have K:=hn.symm;have HA:=U E;clear E L b hn;gi_wp2;refine⟨Z.refl _ _,λT br=>?_⟩;have hA2:=HA.stays br (λk b=>by subst b;exact⟨cc,by omega⟩);obtain⟨l,B,pv,v,hcut,s,hB⟩:=hA2.ex;rw[K]at v s;have fu:y l<=bf:=by
   have h1:=s [];rw[dI]at h1;have h2:l=kI N (y e) 0 0 [] (j.map (·.2)):=by rw[h1];simp[kI]
   have h3:=Cp (ps:=l) (by rw[h2];exact Kf _ _ _ _ en);have h4:=bS y hcut;rw[K,af]at h4;omega
  have cs:y l.flatten+y B=bf:=by rw[<-K,hcut,af]
  obtain⟨px,pc,bp⟩:=aB v.o;have z0:=v.to.cell;have z1:=v.to.free;have dd:=v.at (bf+y n);have al:Z au T (bZ T (R (z (G g)+2) 0)<|am ((bf+y n:M):X)):=(Z.refl au T).setCell _ 0 _<|.inl<|(hB _).2<|.inl ⟨by omega,by omega⟩;have cx:=hA2.l.ar al (λo=>by have:=(HA.lt _ o).1;omega);have cM:=hA2.n.ar al (λo=>by have:=(HA.lt _ o).1;omega);obtain⟨q,hq⟩:∃q,(y l+1)*y e/N=q:=⟨_,rfl⟩;obtain⟨dT,hp⟩:∃dT,(y l+1)*y e=dT:=⟨_,rfl⟩;have fv:dT<=1000001*1000000:=by rw[<-hp];exact Nat.mul_le_mul (by omega) hl
  have a1:((y l:X)+1)*(y e:X)=(dT:X):=by rw[<-hp];exact(Int.natCast_mul _ _).symm
  have a2:Int.tdiv (dT:X) (N:X)=(q:X):=by rw[<-hq,hp];exact(Int.ofNat_tdiv _ _).symm
  have ff:=ef (by omega);have bq:=MU (gg:=n) s;rw[hq]at bq;have b1:((N:X)==0)=bE:=by simp;omega
  have b2:IntKind.i64.wrap (dT:X)=(dT:X):=by rw[bO];omega
  have fx:q<=dT:=by rw[<-hq,hp];exact Nat.div_le_self _ _
  have b3:IntKind.i64.wrap (q:X)=(q:X):=by rw[bO];omega
  have ej:¬((N:X)=0):=by omega
  have ek:¬(N=0):=by omega
  obtain⟨bl,HB,bk,Q,ca,av⟩:=kF dd hB al br bq hcut;obtain⟨bh,eg,bx,bT,bg⟩:=jR cs K cx cM hA2;clear dd hB al br bq hcut K cx cM s v hq hp hA2 cs;subst bp;gi_wp2_with fail
  rw[show z (G g)+1+1=z (G g)+2 from rfl,show z (G g)+2+1=z (G g)+3 from rfl,show((bf:X)+(y n:X))=((bf+y n:M):X)by push_cast;rfl];generalize el:bZ T (R (z (G g)+2) 0) (am ((bf+y n:M):X))=W3 at*;clear el;have s0:=bl.to.cell;have s1:=bl.p.cell;have s2:=bx.cell;have s3:=bT.cell;obtain⟨bd,O⟩:∃bd,bf+y n=bd:=⟨_,rfl⟩;rw[O]at s0|-;rename_i QQ KK ck;refine AS (by kernel_rfl) (by kernel_rfl) (by kernel_rfl) (λgb a h=>h) ?_;repeat(quiet_step (fail))
  refine wpQuiet_nil ?_;rintro _⟨nq,rfl⟩;show KK _ _;apply ck;clear ck;have b4:IntKind.i64.wrap ((y l:X)+1)=(y l:X)+1:=by rw[bO];omega
  rw[b4,a1,b2,a2,b3];obtain⟨r,bm⟩:∃r,W3.drewN nq=r:=⟨_,rfl⟩;have p:Z az W3 r:=by rw[<-bm];exact gP _ W3 nq
  rw[bm];have bs:=bl.ar p<|λ_ _=>id;have fL:Z (λk=>au k\/k=lr) bv r:=((Q.mono<|λk b=>.inl<|.inr b).trans bk<|λk b=>.inl<|.inl b).ci p;have ad:=bx.ar p id;have eq:=bT.ar p id;have dc:Z az a r:=(bg.ar.trans bk<|λk b=>.inr (by have:=(bg.lt k b).1;omega)).ci p;have bc:Z au T r:=bk.ci p;have cB:lr<z (G T):=ag cE Q.size;have fk:z (G bv)<=z (G T):=Q.size;have w:=U (show∀(F:Y)(pf:aa)(f:dW)(an:cA),CU F (z (G a)+2) (z<|G g) (bC dx c (y e) o) pf f (bf+y n)->ii j++n=f.flatten++an->(∀P,kI N (y e) 0 0 [] (j.map (·.2)++[n]++P)=f++kI N (y e) (y f) (bf+y n) an P)->Z au r F->(∀k,JC (z<|G g) pf k->au k\/z (G r)<=k)->Bi AB (λj au bv=>CJ a (z<|G g) (bC dx c (y e) o) N (y e) j au bv) (λ_ _ _ _=>False) (j++[(bf,n)]) au bv T lr .normal ⟨#[],[]⟩ F fromλF pf f an h1 h2 h3 h4 h5=>by
   have e1:ii (j++[(bf,n)])=ii j++n:=tj _ _ _;have e2:y (ii<|j++[(bf,n)])=bf+y n:=by rw[e1,af,ae eg]
   have C:∀k,au k->z (G a)+2<=k:=λk b=>(bg.lt k b).1;have t:Z au T F:=bc.trans h4 (λk b=>.inl b);refine⟨trivial,JC (z (G g)) pf,⟨⟨f,an,pf,by rw[e2];exact h1,by rw[e1];exact h2,by rw[e2,aM];exact h3,λk=>qU⟩,ad.ar h4 (λo=>by have:=C _ o;omega),eq.ar h4 (λo=>by have:=C _ o;omega),dc.trans h4 (λk b=>.inr (by have:=C k b;omega))⟩,(Q.mono (λk b=>.inl (.inr b))).trans t (λk b=>.inl (.inl b)),t.block lr cB cc,λk b=>(h5 k b).imp_right (λo=>by have:=bc.size;omega)⟩)
  clear bm s0 s1 s2 s3 a1 a2 b1 b2 b3 b4 ej ek z0 z1;have cu:y l.flatten<=bd/\y l.flatten<bd:=by have:=ae bh;omega
  by_cases cT:q<=bd
  .have es:(q:X)<=(bd:X):=by omega
   have F:∀f:Y,Z az r f->CU f (z (G a)+2) (z<|G g) (bC dx c (y e) o) (I px (y l) pc) l bd:=λf ht=>O▸bs.ar ht (λ_ _=>id);have ec:=U F;have ee:=U ad;obtain⟨ao,hf⟩:∃ao,y l.flatten=ao:=⟨_,rfl⟩;have cb:=U (show∀f:Y,Z az r f->aS f (R (z<|G g) 0)=H (I px (y l) pc)/\aS f (R (z<|G a) 0)=H (bC dx c (y e) o)/\aS f (R (z (G g)+1) 0)=H (am (ao:X))/\aS f (R (z (G g)+2) 0)=H (am (bd:X))fromλf ht=>⟨(F f ht).p.cell,(ad.ar ht id).cell,hf▸(F f ht).f.cell,(F f ht).to.cell⟩);rw[hf]at cu;have Hf:=U hf;have cm:=cb r.drew<|bX _ r;have b4:(ao:X)<=(bd:X):=by omega
   have b5:(bd:X)<=(o:X):=by omega
   have b6:¬(o-ao=0):=by omega
   have b7:(0:X)<=(ao:X):=by omega
   have fb:¬(o=ao):=by omega
   clear F ad hf;gi_wp2_with fail
   rename_i ey ei ax;refine tM (λf=>aS f (R (z<|G g) 0)=H (I px (y l) pc)/\aS f (R (z<|G a) 0)=H (bC dx c (y e) o)/\aS f (R (z (G g)+1) 0)=H (am (ao:X))/\aS f (R (z (G g)+2) 0)=H (am (bd:X))) 7 (by kernel_rfl) (by kernel_rfl) (λgb a h=>h) ?_;refine cQ 0 ?_;iterate 5 (refine eE (v:=?_) cm rfl (by kernel_rfl) iO rfl ?_ ?_;rotate_left;(focus(rintro f⟨z0,z1,z2,z3⟩;go_simp;try rfl));simp only[Act.put,cX,Nat.reduceAdd])
   apply eh;refine aJ (i:=5) rfl rfl (by kernel_rfl) ?_;intro K5 ce;go_simp;have C:Z az r (ct r<|aq #[bC dx (c+ao*4) (bd-ao)<|o-ao] 102).drew:=((Z.refl _ r).alloc _).of_heap rfl;have t:=ec _ C;have dv:=t.size;refine ce _ _ (λ_=>cb _ C) ?_;try simp only[Act.put,cX]
   refine aJ (i:=6) rfl rfl (by kernel_rfl) ?_;intro K6 ch;simp only[dp,cD,cN];refine kE (.tmp 32) (.tmp 37) 319 rfl (z (G a)+2) 102 i0 aK 1 24 underlying319 cv dm dn ds rfl (by decide) (I px (y l) pc) (y l) (nY (bC dx c (y e) o) 0 l) rfl t.o (R (z<|G r) 0) 1 1 [bC dx (c+ao*4) (bd-ao)<|o-ao] rfl rfl (pH _ _ _) (by simp[Value.oneCell']) (by omega) (by omega) (by simp at dv|-;omega) ?_;intro v6 w6 bo bt;obtain⟨x6,c6,eu⟩:=aB bo;subst eu;obtain⟨⟨y0,y1⟩,⟨y4,y5⟩,y6,cp,co,cn⟩:=t.more (p:=B++n) bt (by rw[af];have:=ae bh;omega) (by
    have ev:zf (bC dx c (y e) o) (y l.flatten) (y<|B++n)=bC dx (c+ao*4) (bd-ao) (o-ao):=by
     unfold zf;simp only;rw[ae Hf,show y (B++n)=bd-ao by rw[af];have:=ae bh;have:=ae Hf;omega]
    rw[ev];exact bo)
   have an:=Z.fy bt;have bn:∀bu,z (G g)<=bu->bu<z (G g)+3->¬(bV (I px (y l) pc)=H bu):=λbu h1 h2 q=>by have:=t.XS bu q;omega
   refine ch _ _ (λ_=>⟨y0,((ee.ar C id).ar an (λq=>by have:=(aF t.o _ q).1;omega)).cell,Hf▸(t.f.ar an<|bn _ (by omega)<|by omega).cell,(t.to.ar an<|bn _ (by omega)<|by omega).cell⟩) ?_;try simp only[Act.put,cX]
   have ba:=w _ _ _ [] (O▸cp) (by rw[ae av];simp) (ca.1 (by rw[O];exact cT)) (((Z.refl az r).ci C|>.mono cG).trans co<|λk b=>.inl<|(HB k).2 b)<|λk b=>(cn k b).imp (λo=>(HB k).2 o) (λo=>by have:=C.size;omega);have D:=U ba;rw[ae Hf]at y4;clear ba cp co cn t bo bt an bn C dv w;refine aJ (i:=7) rfl rfl (by kernel_rfl) ?_;intro K7 cj;go_simp;refine cj _ _ (λq=>(q rfl).elim) ?_;refine cO (by kernel_rfl) ?_ _;show ei _ _;refine ax _ _ ?_;clear ax ce ch cj cm;gi_wp2;exact D
  .have es:¬((q:X)<=(bd:X)):=by omega
   have D:=U<|w r _ l (B++n) bs (by rw[ae av,aU]) (ca.2 (by rw[O];exact cT)) (Z.refl _ _)<|λk b=>.inl<|(HB k).2 b;clear w bs;gi_wp2;exact D
 (case done=>intro ex au bv F E p _ t;obtain⟨l,B,pv,v,hcut,s,hB⟩:=E.ex;rw[Ay]at hcut v s;(have c:kI N (y e) 0 0 [] (ig e)=l:=by have:=s [];rw[Bu,dI]at this;rw[this];simp[kI]);have n:=U c;obtain⟨px,pc,bp⟩:=aB v.o;have L:=v.p.cell;have r:bV pv≠H ex:=λq=>p<|(hB ex).2<|.inr q;obtain⟨C,w,D⟩:=dB v.o t E.ar;have K:=aj t;clear E v hcut s hB t c;subst bp;gi_wp2;have f:=gE bv ex<|.deferred none;refine⟨by simp,.inl ⟨_,_,rfl,run_takeDeferred w,?_⟩⟩;refine⟨_,gL rfl _ _ _,?_⟩;exact⟨_,rfl,by rw[ae n];exact eS (f.own C<|λk b q=>r (by rw[<-q];exact b)) (by omega),D.trans f<|λk b=>.inr (by subst b;omega)⟩)
end
