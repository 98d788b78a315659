import Derived.Test.YtojeeoclojldpaaGreatDoorC5
import Derived.Test.YtojeeoclojldpaaGreatDoorC6
import Derived.Test.YtojeeoclojldpaaGreatDoorC12
open _root_ renaming List.length→y,Option.some→H,Array.size→z,Go.World.heap→G,Go.Value.ownBlock→bV,Go.World.cell?→aT,Go.World.setCell→bZ,Go.World.alloc→ct,Bool.false→bF,Bool.true→bW,Nat→M,Int→Z,List→cr,Go.Calls→cy,Go.undef→iB,Go.Proofs.Tryz.prog→bG,Go.Value.slice→J,Go.Value.string→ai,Go.Value.bool→aL,Go.Value.pointer→fp,Go.Value.tuple→dB,Go.Value.agg→eC
namespace Go.Proofs.YtojeeoclojldpaaGreatDoor
open ChangeShapes WideShapes RowKit Proofs.Tryz
set_option maxHeartbeats 16000000
set_option linter.all false
set_option maxRecDepth 100000
variable{a f C:I}{b c g l B P:M}{d s N:aa}{e:cA}{j O:DK}{k:dW}{m:Z}{n:SR}{o:eI}{X:fJ}{v W:ab}{x:iU}{A:mw}{V:Array aa}
def Df{e cut f i:Z}(h:lR a b (fp none) e cut f i c g l d A):cy bG 139 #[aA b] a λm k=>m=aO (aL bF)/\k=a:=by
 have j:=cellAt h.box 0 rfl;clear h;go_in
 go_wp2;go_ret;exact⟨rfl,rfl⟩
def BR(m:Addr){e cut f i:Z}(h:lR a b (fp<|H m) e cut f i c g l d A):cy bG 139 #[aA b] a λn k=>n=aO (aL bW)/\k=a:=by
 have j:=cellAt h.box 0 rfl;clear h;go_in
 go_wp2;go_ret;exact⟨rfl,rfl⟩
def Ev(a cut b c:Z):aa:=eC #[aH a,dq cut,dq b,dq c]
def Iu{c:Func}{p:Tmp}(m:c.results=#[.cell p 266])(a:Array aa)(w:I)(g:M)(e f h i:Z)(t:TypeId)(d:M×M)(l:a.getD p iB=aA g)(j:w.heap[g]?=H (ar #[aH e,dq f,dq h,dq i] t d)):(results c a).run bG w=.ok (Ev e f h i) w:=by
 have b:a[p]?.getD iB=aA g:=by simpa using l
 have k:=mL (P:=bG) w g t 266 #[aH e,dq f,dq h,dq i] d _ j underlying266 rfl (by kernel_rfl);simp[results,m,b,asAddr,k,Ev]
def TR{e cut f i:Z}(h:lR a b d e cut f i c g l s A):cy bG 202 #[aA b] a λq p=>q=aO (Ev e cut f i)/\Below (z<|G a) a p:=by
 have j:=cellAt h.box 1 rfl;have k:=cellAt h.box 2 rfl;have m:=cellAt h.box 3 rfl;have n:=cellAt h.box 4 rfl;have o:=ak h.box;clear h;go_in
 go_wp2;refine cI (Iu rfl _ _ (z<|G a) e cut f i _ _ rfl<|aD _ rfl) rfl ?_;exact⟨rfl,(Below.refl _ a).alloc (ah _) _⟩
def BW(c:M)(n:aa)(u:M)(f:u<18446744073709551616)(cut d i:Z)(m e b:M)(g:aa)(q:mw)(h:lR a c n u cut d i m e b g q)(k:Pow a):cy bG 159 #[aA c] a λs r=>s=aO (ai<|gI u)/\Below (z<|G a) a r:=by
 have o:=cellAt h.box 1 rfl;have p:=AV u f k;clear h k;go_in
 go_wp2_with(go_at_call 201;refine p.mono ?_;rintro s t⟨rfl,j⟩;have l:=U j;clear j)
 go_ret;exact⟨rfl,l⟩
def Sr{j cut n u:Z}(q i AC d:M)(o:qR)(h:lR a b (fp none) j cut n u c g l (bD q i AC d) A)(B:o.pos+o.size<=AC)(S:AC<=d)(C:0<o.size)(T:AC<=1000000000000):cy bG 330 #[aA b,o.value] a λL K=>L=aO (dB #[bD q (i+o.pos) o.size (d-o.pos:M),.nilIface])/\Below (z<|G a) a K:=by
 obtain⟨pos,e,f,first,k⟩:=o;simp only at B C;unfold qR.value;simp only;have r:=ak h.box;have m:Below (z<|G a) a (ct a<|ar #[ap pos,ap e,ap f,ai first,ai k] 347):=(Below.refl _ a).alloc (ah _) _;have t:=Df<|h.below m h.lt.1 h.lt.2;have E:aT (ct a<|ar #[ap pos,ap e,ap f,ai first,ai k] 347) (R b 6)=H (bD q i AC d):=by rw[pI _ _ _ r,bN h.box];rfl
 have v:∀(x:Bool)(a:I),(Op.unary .not<|aL x).run bG a=.ok (aL<|!x) a:=λ_ _=>rfl;obtain⟨s,F⟩:∃s,pos+e=s:=⟨_,rfl⟩;have N:(pos:Z)+(e:Z)=(s:Z):=by omega
 have O:IntKind.i64.wrap (s:Z)=(s:Z):=by rw[bQ];omega
 have P:pos<s:=by omega
 have Q:s<=AC:=by omega
 have p:=U (show e=s-pos by omega);have w:=U m;clear h m F;go_in
 go_wp2_with(go_at_call 139;refine t.mono ?_;rintro L V⟨rfl,rfl⟩)
 go_quiet(fail)
 go_wp2;go_ret2
 have x:=ae p;have D:=ae w;subst x;exact⟨rfl,below_drewN D _⟩
def Y.of_heap{a b c:I}(h:Y X a b)(j:(c.os,c.tape,c.output,c.heap)=(b.os,b.tape,b.output,b.heap)):Y X a c:=by
 obtain⟨e,g,i,d⟩:c.os=b.os/\c.tape=b.tape/\c.output=b.output/\c.heap=b.heap:=by simpa using j
 exact⟨e.trans h.os,g.trans h.tape,i.trans h.output,by rw[d];exact h.size,λk b j=>by rw[d];exact h.block k b j⟩
def cf(S:fJ)(w:I):Y S w w.drew:=⟨rfl,rfl,rfl,ah _,λ_ _ _=>rfl⟩
def ia(S:fJ)(w:I)(q:M):Y S w (w.drewN q):=⟨rfl,rfl,rfl,ah _,λ_ _ _=>rfl⟩
def cK.TK(h:cK a b j){t:TypeId}{k:M×M}(d:a.heap[c]?=H (ar V t k))(m:t≠73)(n:t≠261)(o:t≠302)(p:t≠129)(q:t≠5):¬j.bj b c:=by
 rintro(rfl|rfl|rfl|g|⟨x,r,g⟩|⟨s,i,rfl|g⟩);exact io d h.iG m rfl;exact h.now.tag d rfl;exact h.safe.tag d rfl;obtain⟨e,f⟩:=fD h.steps g;exact io d f n rfl;obtain⟨e,l,f⟩:=(h.each x r).2.2 c g;exact io d f o rfl;exact io d (h.files s i).1 p rfl;obtain⟨e,f⟩:=fD (h.files s i).2.1 g;exact io d f q rfl
def ON(ao:g<18446744073709551616){cut v ax:Z}(K:qR)(bd:da)(h:lR a b (aA c) g cut v ax l B P d A)(hd:cK a c j)(hg:qM j.files (gI g)=H bd)(hl:y bd.bytes<=1099511627776)(h1:K.pos+K.size<=y bd.bytes)(h3:0<K.size)(hp:Pow a):cy bG 330 #[aA b,K.value] a λbc r=>∃bb f i,bc=aO (dB #[bD bb f K.size i,.nilIface])/\K.size<=i/\Bytes r (bD bb f K.size i) ((bd.bytes.drop K.pos).take K.size)/\Y (j.bj c) a r/\∃s,cK r c s/\s.files=j.files/\s.eM=j.eM/\∀K,s.bj c K->j.bj c K:=by
 obtain⟨pos,e,n,first,w⟩:=K;simp only at h1 h3;unfold qR.value;simp only;have bn:=ak h.box;have o:Below (z<|G a) a (ct a<|ar #[ap pos,ap e,ap n,ai first,ai w] 347):=(Below.refl _ a).alloc (ah _) _;have k:=h.below o h.lt.1 h.lt.2;have au:=BR (R c 0) k;have bk:∀(bl:Bool)(a:I),(Op.unary .not<|aL bl).run bG a=.ok (aL<|!bl) a:=λ_ _=>rfl;have N:=cellAt k.box 0 rfl;obtain⟨m,t⟩:∃m,m=ct a (ar #[ap pos,ap e,ap n,ai first,ai w] 347):=⟨_,rfl⟩;have x:BQ m (z<|G a) ⟨pos,e,n,first,w⟩:=by rw[t];exact aD _ rfl
 have av:z (G m)=z (G a)+1:=by rw[t];simp
 have E:b<z (G m):=by omega
 rw[<-t]at o k au N;have ac:aT m (R (z<|G a) 0)=H (ap pos):=x.cells.1;have ad:aT m (R (z<|G a) 1)=H (ap e):=x.cells.2.1;have X:Pow m:=hp.aw (S:=aB) (Y.aW o)<|λV=>V;have W:cK m c j:=hd.aw (S:=aB) (Y.aW o)<|λ_ _ V=>V;have HN:=U (show∀ba,ba.heap=m.heap->cy bG 159 #[aA b] ba λbc r=>bc=aO (ai<|gI g)/\Below (z<|G ba) ba r fromλba Q=>BW b (aA c) g ao cut v ax l B P d A ⟨by rw[Q];exact k.box,λj bl e=>by rw[cH (w:=m)<|by rw[Q]];exact k.cells j bl e,k.ne,k.le,k.small⟩<|X.de<|by rw[Q]);have an:¬j.bj c b:=hd.TK h.box (by decide) (by decide) (by decide) (by decide) (by decide);have O:¬j.bj c (z<|G a):=λV=>by have:=hd.lt _ V;omega
 have HR:=U (show∀ba,Below (z<|G m.drew) m.drew ba->cy bG 154 #[aA c,ai<|gI g,ap pos,ap e] ba λbc r=>∃bb f i,bc=aO (dB #[bD bb f e i,.nilIface])/\(aT r (R b 0)=H (aA c)/\aT r (R (z<|G a) 0)=H (ap pos)/\aT r (R (z<|G a) 1)=H (ap e))/\(e<=i/\Bytes r (bD bb f e i) ((bd.bytes.drop pos).take e)/\Y (j.bj c) a r/\∃s,cK r c s/\s.files=j.files/\s.eM=j.eM/\∀K,s.bj c K->j.bj c K)fromλba bh=>by
  have Q:Y aB m ba:=(cf _ m).ci<|Y.aW (S:=aB) bh;have bg:=W.aw Q<|λ_ _ V=>V;apply(Be (gI g) bd pos e bg hg hl (by omega)<|by omega).mono;rintro bc r⟨v',rfl,ho,s,D,e1,e2,e3⟩;have q:y ((bd.bytes.drop pos).take e)=e:=by simp;omega
  have L:=ho.bytes;have C:Y (j.bj c) m r:=(Q.mono (T:=j.bj c) cG).trans D.aw<|λ_ V=>.inl V;rcases L.shape with⟨_,h0⟩|⟨bb,f,i,rfl,al⟩
  .rw[h0]at q;simp at q;omega
  .rw[q]at al L;exact⟨bb,f,i,by rw[q],⟨C.cell N an E,C.cell ac O (by omega),C.cell ad O (by omega)⟩,al,L,(Y.aW (S:=j.bj c) o).trans C (λ_ V=>.inl V),s,D.ok,e1,e2,e3⟩)
 obtain⟨HB,HW,HZ,bm⟩:=gx o t av x;have F:z (G a)<z (G m):=by omega
 clear h o hd hg hl h1 hp k X W x av t an O;go_in
 go_wp2_with(go_at_call 139;rw[<-(ae HW)];refine au.mono ?_;rintro bc w1⟨rfl,bi⟩;subst bi)
 go_region_held3(λd=>aT d (R b 0)=H (aA c)/\aT d (R (z<|G a) 0)=H (ap pos)/\aT d (R (z<|G a) 1)=H (ap e)) (first|assumption|go_keep) (first
  |(go_at_call 159;go_loud(refine(HN w1.drew rfl).mono ?_;rintro bc w2⟨rfl,u⟩;have bo:aT w2 (R b 0)=H (aA c)/\aT w2 (R (z<|G a) 0)=H (.int .i64 pos)/\aT w2 (R (z<|G a) 1)=H (.int .i64 e):=⟨(u.cell (p:=(R b 0)) E).trans (by rw[bB];exact N),(u.cell (p:=(R (z<|G a) 0)) F).trans (by rw[bB];exact ac),(u.cell (p:=(R (z<|G a) 1)) F).trans (by rw[bB];exact ad)⟩;have bf:=U u;clear u))
  |(go_at_call 154;go_loud(refine(HR w2 bf).mono ?_;rintro bc w3⟨bb,f,i,rfl,bp,r1⟩;have R1:=U r1;clear r1)))
 go_wp2;go_ret2
 exact⟨bb,f,i,rfl,R1⟩
def dG(a:dW):eI:=(a.map<|λc=>iC<|fE c).flatten
def gu(a:eI):y (iC a)=y a+4:=by simp[iC,bY]
def oN(c:cA)(a:dW):dG (c::a)=iC (fE c)++dG a:=by simp[dG]
def Jn(b a:dW):dG (b++a)=dG b++dG a:=by simp[dG]
def Cu(a:dW)(i:M)(h:i<y a):dG a=dG (a.take i)++(iC (fE a[i])++dG (a.drop<|i+1)):=by
 conv=>lhs;rw[<-bX i a,bE h]
 rw[Jn,oN]
def EY(a:dW)(b:eI)(i:M)(h:i<y a):((dG a++b).drop<|y<|dG<|a.take i).take (y (fE a[i])+4)=iC (fE a[i]):=by
 rw[Cu a i h,aU,sG,aU,<-gu,pM]
def Jm(a:dW)(i:M)(h:i<y a):y (dG<|a.take i)+(y (fE a[i])+4)<=y (dG a):=by
 rw[Cu a i h];simp[gu]
structure tD(ks:mw)(cs:dW):Prop where
 len:y ks=y cs
 ne:0<y cs
 Ee:∀i(hi:i<y ks)(hc:i<y cs),ks[i].Of cs[i]
 pos:∀i(hi:i<y ks),ks[i].pos=y (dG<|cs.take i)
 jc:∀c∈cs,∀x∈c,x.Good
 mq:dQ cs.flatten
 CS:cs.Pairwise gQ
 small:∀c∈cs,y c<=1000
def Bytes.same{V:jj}{n0:M}{S:fJ}(h:Bytes a d o)(i:jz V n0 S a f)(j:∀k,bV d=H k->k<n0/\¬V.F k):Bytes f d o:=by
 rcases h with⟨rfl,rfl⟩|⟨l,b,c,rfl,e,g⟩;exact .inl ⟨rfl,rfl⟩;exact .inr ⟨l,b,c,rfl,e,λk h=>i.cell (.inr<|j l rfl)<|g k h⟩
def nE.Xm(V:jj)(r e:M)(i cut m C:Z)(t o g j b a:M)(h:mw)(d:dW)(P:I)(K:lR P e (fp none) i cut m C t o g (bD j b (y<|dG d) a) h)(k:tD h d)(W:Bytes P (bD j b (y<|dG d) a) (dG d))(w:y (dG d)<=a)(A:y (dG d)<=1000000000000)(D:e<r/\¬V.F e)(E:t<r/\¬V.F t)(Q:j<r/\¬V.F j)(B:Steps P)(x:1<r/\¬V.F 1):nE V r e h d P where
 mem:=⟨_,_,_,_,_,_,_,_,_,K,D,E⟩
 len:=k.len
 Ee:=k.Ee
 jc:=k.jc
 mq:=k.mq
 CS:=k.CS
 small:=k.small
 steps:=B
 zO:=x
 bytes:=by
  intro s F u ad L T;have O:=k.Ee s F u;have c:=k.pos s F;have l:=Jm d s u;refine(Sr j b (y<|dG d) a h[s] (K.same L D E) (by rw[c,O.size];exact l) w (by rw[O.size];omega) A).mono ?_;rintro ac W'⟨rfl,f⟩;refine⟨j,b+h[s].pos,a-h[s].pos,rfl,by rw[c,O.size];omega,?_,V.fi T (Y.aW (S:=aB) f) cG,Y.aW f⟩;have p:Bytes ad (bD j b (y<|dG d) a) (dG d):=W.same L (λal v=>by cases v;exact Q);have X:=p.BA (n:=h[s].pos) (by rw[c];omega);have N:=Bytes.take (bs:=(dG d).drop h[s].pos) (n:=h[s].size) (by simpa using X) (by simp;rw[c,O.size];omega);have q:=EY d [] s u;rw[dJ,<-c,<-O.size]at q;rw[q]at N;refine N.below f<|λal v=>?_;cases v;have hx:=p.lt (bs:=dG d) (by intro ac;rw[ac]at l;simp at l) j rfl;exact hx
def AD(c:M)(f:cr da)(eM:cr (aa×cr Mv))(F:fJ):jj where
 D W:=(∀k,F k->k<z (G W))/\∃K,cK W c K/\K.files=f/\K.eM=eM/\∀k,K.bj c k->F k
 F:=F
 fi:=by
  rintro w l S⟨b,K,g,h,i,d⟩e j;exact⟨λk a=>ag (b k a) e.size,K,g.aw e<|λk a c=>j k c<|d k a,h,i,d⟩
 lt:=by
  rintro w k⟨b,_⟩a;exact b k a
def nE.Pn(E:M)(N:cr da)(eM:cr (aa×cr Mv))(F:fJ)(m a ao:M)(hu:ao<18446744073709551616)(cut f C:Z)(o h b:M)(q:aa)(n:mw)(i:dW)(ac:da)(e:eI)(ad:I)(T:lR ad a (aA E) ao cut f C o h b q n)(c:tD n i)(hf:qM N (gI ao)=H ac)(k:ac.bytes=dG i++e)(t:y ac.bytes<=1099511627776)(O:a<m/\¬F a)(P:o<m/\¬F o)(B:Steps ad)(A:1<m/\¬F 1)(x:Pow ad)(w:2<m/\¬F 2):nE (AD E N eM F) m a n i ad where
 mem:=⟨_,_,_,_,_,_,_,_,_,T,O,P⟩
 len:=c.len
 Ee:=c.Ee
 jc:=c.jc
 mq:=c.mq
 CS:=c.CS
 small:=c.small
 steps:=B
 zO:=A
 bytes:=by
  rintro X S s ax V⟨v,av,hK,K,e2,L⟩;have an:=c.Ee X S s;have d:=c.pos X S;have al:=Jm i X s;refine(ON hu n[X] ac (T.same V O P) hK (by rw[K];exact hf) t (by rw[d,an.size,k,af];omega) (by rw[an.size];omega)<|x.de<|V.2 _<|.inl w).mono ?_;rintro ba W'⟨au,g,p,rfl,u,Q,W,K',r,f1,f2,f3⟩;refine⟨au,g,p,rfl,u,?_,⟨λD l=>ag (v D l) W.size,K',r,f1.trans K,f2.trans e2,λD l=>L D<|f3 D l⟩,W.mono<|λD l=>.inl<|L D l⟩;have j:=EY i e X s;rw[<-d,<-an.size,<-k]at j;rw[j]at Q;exact Q
def RD:(prog.info? 347).map (λi=>(i.zero,i.size,i.bytes))=H (H<|eC #[ap 0,ap 0,ap 0,ai ⟨#[]⟩,ai ⟨#[]⟩],5,56):=by kernel_rfl
def OL(w:I)(x a b u v:aa)(t:TypeId):∀j q,[x,a,b,u,v][j]?=H q->aT (ct w<|ar #[x,a,b,u,v] t) (((R (z<|G w) 0):Addr).add j)=H q:=by
 intro j q c;rw[dt];unfold World.cell?;rw[ft];simpa using c
def Y.fy(h:eP a f d s):Y (λk=>bV d=H k) a f:=Y.dN h.grown<|λ_ e=>.inl e
def dV.aw{w w':I}{t:TypeId}{S:fJ}(h:dV w b d t)(c:Y S w w')(a:¬S b):dV w' b d t:=(c.block b (ak h) a).trans h
def rk(w:I)(b i:M)(u:aa):Y (λk=>k=b) w (bZ w (R b i) u):=(Y.refl (λk=>k=b) w).setCell b i u<|.inl rfl
structure lQ(W:I)(base bl bd bp bk bf bt:M)(lv dv pv kv:aa)(fr to:M)(ds ps:eI)(ks:mw):Prop where
 l:dV W bl lv 102
 d:dV W bd dv 126
 p:dV W bp pv 126
 k:dV W bk kv 289
 f:dV W bf (ap fr) 3
 t:dV W bt (ap to) 3
 od:eH W base dv ds
 op:eH W base pv ps
 ok:W.ownsRow base 347 5 kv (y ks) (ep ks)
 ne:∀x,bV dv=H x->bV pv≠H x
 ord:bl<bd/\bd<bp/\bp<bk/\bk<bf/\bf<bt/\bt<base
 size:base<=z (G W)
def Ff(a:mw)(k:qR):ep (a++[k])=ep a++k.cells:=by simp[ep]
def lQ.jW{e k i l bk j m:M}{h:aa}{p:eI}(n:lQ a e k i l bk j m d s N h b c o p A)(q:g<e):¬(bV s=H g)/\¬(bV N=H g)/\¬(bV h=H g):=⟨λf=>by have:=(n.od.lt g f).1;omega,λf=>by have:=(n.op.lt g f).1;omega,λf=>by have:=(aI n.ok g f).1;omega⟩
def kE(h:a.ownsRow b c g d l x)(f:B<b):(bZ a (R B P) s).ownsRow b c g d l x:=(rk a B P s).own h (λk e i=>by have:=(aI h k e).1;omega)
def lQ.kd{e n l p bk m q:M}{j:aa}{t:eI}(k:lQ a e n l p bk m q d s N j b c o t A):(∀x,bV j=H x->bV s≠H x)/\(∀x,bV j=H x->bV N≠H x):=by
 constructor;intro x r g;obtain⟨c1,h⟩:=fD k.ok r;obtain⟨c2,i⟩:=fD k.od g;exact io h i (by decide) rfl;intro x r g;obtain⟨c1,h⟩:=fD k.ok r;obtain⟨c2,i⟩:=fD k.op g;exact io h i (by decide) rfl
def lQ.piece{e o m j bk n p:M}{t g:aa}{q B ps1:eI}(h:lQ a e o m j bk n p d s N t b c q B A)(i:Y (λr=>bV N=H r) a f)(x:bV g=bV N\/∃v,bV g=H v/\z (G a)<=v)(w:eH f e g ps1):lQ (bZ f (R j 0) g) e o m j bk n p d s g t b c q ps1 A:=by
 have D:=h.ord;refine⟨(h.l.aw i (h.jW<|by omega).2.1).other _ (by omega),(h.d.aw i (h.jW<|by omega).2.1).other _ (by omega),(h.p.aw i (h.jW<|by omega).2.1).set _,(h.k.aw i (h.jW<|by omega).2.1).other _ (by omega),(h.f.aw i (h.jW<|by omega).2.1).other _ (by omega),(h.t.aw i (h.jW<|by omega).2.1).other _ (by omega),kE (i.own h.od<|λr l=>h.ne r l) (by omega),kE w (by omega),kE (i.own h.ok<|λr l=>h.kd.2 r l) (by omega),λE l k=>?_,D,by rw[gz];exact aE h.size i.size⟩;rcases x with u|⟨v,u,C⟩;exact h.ne E l<|u▸k;rw[u]at k;cases k;have:=(h.od.lt _ l).2;omega
def lQ.blocks{e m k n bk l p:M}{r i:aa}{t:eI}{w ks1:mw}(h:lQ a e m k n bk l p d s N r b c o t w)(g:Y (λq=>bV r=H q) a f)(v:f.ownsRow e 347 5 i (y ks1) (ep ks1)):lQ (bZ f (R bk 0) i) e m k n bk l p d s N i b c o t ks1:=by
 have x:=h.ord;exact⟨(h.l.aw g (h.jW<|by omega).2.2).other _ (by omega),(h.d.aw g (h.jW<|by omega).2.2).other _ (by omega),(h.p.aw g (h.jW<|by omega).2.2).other _ (by omega),(h.k.aw g (h.jW<|by omega).2.2).set _,(h.f.aw g (h.jW<|by omega).2.2).other _ (by omega),(h.t.aw g (h.jW<|by omega).2.2).other _ (by omega),kE (g.own h.od<|λq u j=>h.kd.1 q j u) (by omega),kE (g.own h.op<|λq u j=>h.kd.2 q j u) (by omega),kE v (by omega),h.ne,x,by rw[gz];exact aE h.size g.size⟩
def lQ.data{e n k o bk m p:M}{r g:aa}{v ds1 t:eI}(h:lQ a e n k o bk m p d s N r b c v t A)(i:Y (λq=>bV s=H q) a C)(B:bV g=bV s\/∃w,bV g=H w/\z (G a)<=w)(x:eH C e g ds1):lQ (bZ C (R k 0) g) e n k o bk m p d g N r b c ds1 t A:=by
 have E:=h.ord;refine⟨(h.l.aw i (h.jW<|by omega).1).other _ (by omega),(h.d.aw i (h.jW<|by omega).1).set _,(h.p.aw i (h.jW<|by omega).1).other _ (by omega),(h.k.aw i (h.jW<|by omega).1).other _ (by omega),(h.f.aw i (h.jW<|by omega).1).other _ (by omega),(h.t.aw i (h.jW<|by omega).1).other _ (by omega),kE x (by omega),kE (i.own h.op<|λq l j=>h.ne q j l) (by omega),kE (i.own h.ok<|λq l=>h.kd.1 q l) (by omega),λK l j=>?_,E,by rw[gz];exact aE h.size i.size⟩;rcases B with u|⟨w,u,D⟩;exact h.ne K (u▸l) j;rw[u]at l;cases l;have:=(h.op.lt _ j).2;omega
def lQ.fin{e j i g bk f k:M}{l:aa}{m:eI}(h:lQ a e j i g bk f k d s N l b c o m A):lQ (bZ (bZ a (R g 0) aK) (R f 0)<|ap c) e j i g bk f k d s aK l c c o [] A:=by
 have p:=h.ord;exact⟨(h.l.other _<|by omega).other _ (by omega),(h.d.other _<|by omega).other _ (by omega),(h.p.set _).other _ (by omega),(h.k.other _<|by omega).other _ (by omega),(h.f.other _<|by omega).set _,(h.t.other _<|by omega).other _ (by omega),kE (kE h.od<|by omega) (by omega),eH.nil _ _,kE (kE h.ok<|by omega) (by omega),(λx _ n=>by cases n),p,by rw[gz,gz];exact h.size⟩
def lQ.YJ{e j i g bk f k:M}{l:aa}{m:eI}(h:lQ a e j i g bk f k d s N l b c o m A):lQ (bZ (bZ a (R f 0)<|ap c) (R g 0) aK) e j i g bk f k d s aK l c c o [] A:=by
 have p:=h.ord;exact⟨(h.l.other _<|by omega).other _ (by omega),(h.d.other _<|by omega).other _ (by omega),(h.p.other _<|by omega).set _,(h.k.other _<|by omega).other _ (by omega),(h.f.set _).other _ (by omega),(h.t.other _<|by omega).other _ (by omega),kE (kE h.od<|by omega) (by omega),eH.nil _ _,kE (kE h.ok<|by omega) (by omega),(λx _ n=>by cases n),p,by rw[gz,gz];exact h.size⟩
def lQ.at{e l j m bk k g:M}{n:aa}{q:eI}(h:lQ a e l j m bk k g d s N n b c o q A)(r:M):lQ (bZ a (R g 0)<|ap r) e l j m bk k g d s N n b r o q A:=by
 have t:=h.ord;exact⟨h.l.other _ (by omega),h.d.other _ (by omega),h.p.other _ (by omega),h.k.other _ (by omega),h.f.other _ (by omega),h.t.set _,kE h.od (by omega),kE h.op (by omega),kE h.ok (by omega),h.ne,t,by rw[gz];exact h.size⟩
def ux(a b:M)(c e d:aa)(x:M):Prop:=(a<=x/\x<=b)\/bV c=H x\/bV e=H x\/bV d=H x
def lQ.low{e f k m bk l h:M}{i:aa}{n:eI}(j:lQ a e f k m bk l h d s N i b c o n A):∀x,ux f h s N i x->f<=x:=by
 have p:=j.ord;rintro x(⟨g,_⟩|g|g|g);exact g;have:=(j.od.lt x g).1;omega;have:=(j.op.lt x g).1;omega;have:=(aI j.ok x g).1;omega
def lQ.aw{W w':I}{a k g l bk j m:M}{p:aa}{q:eI}(h:lQ W a k g l bk j m d s N p b c o q A)(e:Y aB W w'):lQ w' a k g l bk j m d s N p b c o q A:=⟨h.l.aw e id,h.d.aw e id,h.p.aw e id,h.k.aw e id,h.f.aw e id,h.t.aw e id,e.own h.od<|λ_ _ n=>n,e.own h.op<|λ_ _ n=>n,e.own h.ok<|λ_ _ n=>n,h.ne,h.ord,aE h.size e.size⟩
def lQ.XP{e l p r bk q m:M}{n:aa}{t:eI}(i:lQ a e l p r bk q m d s N n b c o t A)(g:Y X a f)(h:∀k,ux l m s N n k->¬X k):lQ f e l p r bk q m d s N n b c o t A:=by
 have j:=i.ord;exact⟨i.l.aw g<|h _<|.inl ⟨by omega,by omega⟩,i.d.aw g<|h _<|.inl ⟨by omega,by omega⟩,i.p.aw g<|h _<|.inl ⟨by omega,by omega⟩,i.k.aw g<|h _<|.inl ⟨by omega,by omega⟩,i.f.aw g<|h _<|.inl ⟨by omega,by omega⟩,i.t.aw g<|h _<|.inl ⟨by omega,by omega⟩,g.own i.od<|λk j=>h k<|.inr<|.inl j,g.own i.op<|λk j=>h k<|.inr<|.inr<|.inl j,g.own i.ok<|λk j=>h k<|.inr<|.inr<|.inr j,i.ne,i.ord,aE i.size g.size⟩
def lQ.uZ{e g k m bk l h:M}{j:aa}{n:eI}(i:lQ a e g k m bk l h d s N j b c o n A):∀x,ux g h s N j x->x<z (G a):=by
 have q:=i.ord;have p:=i.size;rintro x(⟨_,f⟩|f|f|f);omega;exact(i.od.lt x f).2;exact(i.op.lt x f).2;exact(aI i.ok x f).2
def Y.low(j:Y X a f)(h:∀x,X x->b<=x)(k:c<b)(e:aT a (R c g)=H d):aT f (R c g)=H d:=j.cell e (λi=>by have:=h c i;omega)<|cY a (R c g) e
def kF{P:Program}{x:Oper}{w:Act}{ac:Act->I->Prop}{au:Exit->Act->I->Prop}(an ao:Operand)(A:TypeId)(o:x.op=Op.call {callee:=Callee.builtin Builtin.append,args:=#[an,ao],argTypes:=#[A,A]})(b:M)(t:TypeId)(u:TypeInfo)(i:aa)(c bytes:M)(V:P.underlying A=H (.slice t))(N:P.info? t=H u)(X:u.zero=H i)(h:u.size=c)(n:u.bytes=bytes)(q:i.cells.size=c)(p:0<c)(C:aa)(v:M)(r:iU)(S:w.eval an=C)(j:a.ownsRow b t c C v r)(m:Addr)(s ad:M)(d:iU)(W:w.eval ao=J (H m) s ad)(O:y d=s*c)(g:∀al B,d[al]?=H B->aT a (m.add al)=H B)(D:∀B∈d,B.oneCell'=bW)(hn:v+s<=140737488355328)(e:(v+s)*bytes<=140737488355328)(f:b<=z (G a))(L:∀k l,l.ownsRow b t c k (v+s) (r++d)->eP a l C k->ac (w.put x.dst k) l):Oper.wp P x w a ac au:=by
 obtain⟨k,l,Q,E,F,_,K⟩:=mV (P:=P) a b A x.type t u i c bytes V N X h n q p C v r j m s ad d O g D (by unfold maxLen;omega) e f;unfold Oper.wp;simp[execOp,o,resolve,invoke,builtin,S,W,Q,Result.andThen];exact L k l E<|eP.of F K
def tu(h:Bytes a (bD b c g l) o):∀j u,(o.map<|Value.int .u8)[j]?=H u->aT a (((R b c):Addr).add j)=H u:=by
 intro j u e;rw[dt];rcases h with⟨h,_⟩|⟨p,k,f,h,_,n⟩;cases h;cases h;(have d:j<y o:=by rcases dF j (y o)with m|m;exact m;rw[dl<|by simpa using m]at e;cases e);have i:=n j d;rw[dz,aG d]at e;rw[aG d]at i;cases e;exact i
def Wh{f D E q bk L u:M}(an e w bo:M)(t1:M){j:eI}(kf kl:ab)(h:lQ a f D E q bk L u (bD an e bo w) d s N b c o j A)(hT:Steps a)(hg:an<D)(c0:aT a (R an<|e+b*4)=H (ai kf))(c1:aT a (R an<|e+t1*4)=H (ai kl))(ed:b<bo)(ej:t1<bo)(cM:c=t1+1)(ee:b<=t1)(hL:bo<=1000000000)(ec:y o<=100000000000)(ei:y j<=100000)(ef:y A<=1000000000):cy bG 220 #[aA q,aA bk,aA E,aA u,aA L,aA D] a λce w'=>
 ce=aO (dB #[])/\(∃ao bb,lQ w' f D E q bk L u (bD an e bo w) ao aK bb c c (o++iC j) [] (A++[⟨y o,y j+4,c-b,kf,kl⟩])/\(∀K,bV ao=H K->bV d=H K\/z (G a)<=K)/\(∀K,bV bb=H K->bV N=H K\/z (G a)<=K))/\Y (ux D u d s N) a w':=by
 obtain⟨i0,cu,dd,dk,dm⟩:=cz RD
 obtain⟨j0,cv,cT,db,dc⟩:=cz qh
 have dv:=h.ord
 have cE:=h.size
 have ca:=DF hT h.op cE<|by omega
 obtain⟨S,Q,cp⟩:=aC h.od
 obtain⟨W,V,cB⟩:=aC h.ok
 subst cp
 subst cB
 have q1:=h.p.cell
 have q2:=h.p.free
 have F:=h.low
 have bp:=U c0
 have bq:=U c1
 obtain⟨PG,bm⟩:∃PG,c-b=PG:=⟨_,rfl⟩
 rw[bm]
 have e1:(c:Z)-(b:Z)=(PG:Z):=by omega
 have e2:(c:Z)-1=(t1:Z):=by omega
 have e3:IntKind.i64.wrap (PG:Z)=(PG:Z):=by rw[bQ];omega
 have e4:IntKind.i64.wrap (t1:Z)=(t1:Z):=by rw[bQ];omega
 have e5:(b:Z)<(bo:Z):=by omega
 have e6:(t1:Z)<(bo:Z):=by omega
 have cm:=U (show∀C w1,eH w1 f C (j++le 4 (mr j))->eP a w1 s C->∃pb k pc,C=bD pb k (y j+4) pc/\(aT w1 (R q 0)=H s/\w1.frozen? (R q 0)=bF)/\lQ (bZ w1 (R q 0) C) f D E q bk L u (bD an e bo w) (J S (y o) Q) C (J W (y A) V) b c o (j++le 4 (mr j)) A/\Y (ux D u (J S (y o) Q) s<|J W (y A) V) a (bZ w1 (R q 0) C)from by
  intro C w1 au ac;have B:y (j++le 4 (mr j))=y j+4:=by simp[bY]
  have O:=h.p.aw (Y.fy ac) (h.jW<|by omega).2.1;have g:=h.piece (Y.fy ac) ac.uc au;have x:=((Y.fy ac).mono (T:=ux D u (J S (y o) Q) s<|J W (y A) V)<|λK t=>.inl<|.inr<|.inr<|.inl t).setCell q 0 C<|.inl<|.inl ⟨by omega,by omega⟩;rcases au.bytes.shape with⟨_,h0⟩|⟨pb,k,pc,h0,h1⟩
  .rw[h0]at B;simp at B
  .rw[B]at h0;exact⟨pb,k,pc,h0,⟨O.cell,O.free⟩,g,x⟩)
 clear h hT c0 c1 cM bm
 go_in
 go_wp2_with(go_at_call 187;refine ca.mono ?_;rintro ce w1⟨C,rfl,au,ac⟩;obtain⟨pb,k,pc,rfl,⟨co,cs⟩,g,x⟩:=cm C w1 au ac;have bu:=U g;have bt:=U x;clear g x au ac)
 have g:=ae bu
 have x:=ae bt
 clear bu bt co cs
 generalize bZ w1 (R q 0) (bD pb k (y j+4) pc)=p at*
 clear ca q1 q2
 have k0:aT p (R an<|e+b*4)=H (ai kf):=x.low F hg bp
 have k1:aT p (R an<|e+t1*4)=H (ai kl):=x.low F hg bq
 have l1:=g.l.cell
 have l2:=g.d.cell
 have l3:=g.p.cell
 have l4:=g.k.cell
 have l5:=g.f.cell
 have l6:=g.t.cell
 have bv:=U (show∀(m:Obj)P n,n.ownsRow f 347 5 P (y A+1) (ep A++[ap<|y o,ap<|(y j:Z)+4,ap PG,ai kf,ai kl])->eP (ct p m).drew n (J W (y A) V) P->lQ (bZ n (R bk 0) P) f D E q bk L u (bD an e bo w) (J S (y o) Q) (bD pb k (y j+4) pc) P b c o (j++le 4 (mr j)) (A++[⟨y o,y j+4,PG,kf,kl⟩])/\Y (ux D u (J S (y o) Q) s<|J W (y A) V) a (bZ n (R bk 0) P)/\(aT n (R an<|e+b*4)=H (ai kf)/\aT n (R an<|e+t1*4)=H (ai kl)/\aT n (R D 0)=H (bD an e bo w)/\aT n (R E 0)=H (J S (y o) Q)/\aT n (R q 0)=H (bD pb k (y j+4:M) pc)/\aT n (R L 0)=H (ap b)/\aT n (R u 0)=H (ap c))/\aT n (R bk 0)=H (J W (y A) V)/\(aT (bZ n (R bk 0) P) (R an<|e+b*4)=H (ai kf)/\aT (bZ n (R bk 0) P) (R an<|e+t1*4)=H (ai kl)/\aT (bZ n (R bk 0) P) (R D 0)=H (bD an e bo w)/\aT (bZ n (R bk 0) P) (R E 0)=H (J S (y o) Q)/\aT (bZ n (R bk 0) P) (R q 0)=H (bD pb k (y j+4:M) pc)/\aT (bZ n (R bk 0) P) (R L 0)=H (ap b)/\aT (bZ n (R bk 0) P) (R u 0)=H (ap c))/\n.frozen? (R bk 0)=bF/\(∀K,bV P=H K->bV (J W (y A) V)=H K\/z (G a)<=K)from by
  intro m P n av ba;have B:Y (λK=>bV (J W (y A) V)=H K) p n:=(((Y.refl _ p).alloc m).trans (cf _ _)<|λK t=>.inl t).trans (Y.fy ba)<|λK t=>.inl t;have O:=g.k.aw B (g.jW<|by omega).2.2;have l:=g.blocks (ks1:=A++[⟨y o,y j+4,PG,kf,kl⟩]) B (by rw[Ff,af];exact av);have bn:∀K,bV (J W (y A) V)=H K->f<=K:=λK t=>(aI g.ok K t).1;have X:Y (ux D u (J S (y o) Q) s<|J W (y A) V) a (bZ n (R bk 0) P):=(x.trans B<|λK t=>.inl<|.inr<|.inr<|.inr t).setCell bk 0 _<|.inl<|.inl ⟨by omega,by omega⟩;exact⟨l,X,⟨B.low bn (by omega) k0,B.low bn (by omega) k1,(g.l.aw B (g.jW<|by omega).2.2).cell,(g.d.aw B (g.jW<|by omega).2.2).cell,(g.p.aw B (g.jW<|by omega).2.2).cell,(g.f.aw B (g.jW<|by omega).2.2).cell,(g.t.aw B (g.jW<|by omega).2.2).cell⟩,O.cell,⟨X.low F hg bp,X.low F hg bq,l.l.cell,l.d.cell,l.p.cell,l.f.cell,l.t.cell⟩,O.free,λK t=>by
   rcases ba.uc with ce|⟨cd,ce,hy⟩
   .exact .inl<|ce▸t
   .rw[ce]at t;cases t;have h1:=x.size;have h2:z (G p)<z (G (ct p m).drew):=by simp[World.drew,World.drewN]
    exact .inr (by omega)⟩)
 have bs:=U g.ok
 have dx:f<=z (G p):=g.size
 have b1:an<z (G p):=by omega
 have b2:D<z (G p):=by omega
 have b3:E<z (G p):=by omega
 have b4:q<z (G p):=by omega
 have b5:bk<z (G p):=by omega
 have b6:L<z (G p):=by omega
 have b7:u<z (G p):=by omega
 clear g x
 have hS:(aT p.drew (R an<|e+b*4)=H (ai kf)/\aT p.drew (R an<|e+t1*4)=H (ai kl)/\aT p.drew (R D 0)=H (bD an e bo w)/\aT p.drew (R E 0)=H (J S (y o) Q)/\aT p.drew (R q 0)=H (bD pb k (y j+4:M) pc)/\aT p.drew (R bk 0)=H (J W (y A) V)/\aT p.drew (R L 0)=H (ap b)/\aT p.drew (R u 0)=H (ap c)):=⟨by rw[bB];exact k0,by rw[bB];exact k1,by rw[bB];exact l1,by rw[bB];exact l2,by rw[bB];exact l3,by rw[bB];exact l4,by rw[bB];exact l5,by rw[bB];exact l6⟩
 rename_i QQ KK bx
 refine cJ (λm=>(aT m (R an<|e+b*4)=H (ai kf)/\aT m (R an<|e+t1*4)=H (ai kl)/\aT m (R D 0)=H (bD an e bo w)/\aT m (R E 0)=H (J S (y o) Q)/\aT m (R q 0)=H (bD pb k (y j+4:M) pc)/\aT m (R bk 0)=H (J W (y A) V)/\aT m (R L 0)=H (ap b)/\aT m (R u 0)=H (ap c))) 22 (by kernel_rfl) ?_
 refine dA 0 ?_
 iterate 20 (refine fw (v:=?_) hS rfl (by kernel_rfl) jU rfl ?_ ?_;rotate_left;(focus(intro m hX;obtain⟨x0,x1,x2,x3,x4,x5,x6,x7⟩:=hX;go_simp;try rfl));simp only[Act.put,du,Nat.reduceAdd])
 apply eX
 refine aP (i:=20) rfl rfl (by kernel_rfl) ?_
 intro dT bf
 go_simp
 refine bf _ _ (λ_=>?_) ?_
 .exact⟨by rw[bB,fm b1];exact k0,by rw[bB,fm b1];exact k1,by rw[bB,fm b2];exact l1,by rw[bB,fm b3];exact l2,by rw[bB,fm b4];exact l3,by rw[bB,fm b5];exact l4,by rw[bB,fm b6];exact l5,by rw[bB,fm b7];exact l6⟩
 refine aP (i:=21) rfl rfl (by kernel_rfl) ?_
 intro ea bg
 simp only[dj,cD,cO]
 refine kF (.tmp 8) (.tmp 28) 289 rfl f 347 i0 (eC #[ap 0,ap 0,ap 0,ai ⟨#[]⟩,ai ⟨#[]⟩]) 5 56 underlying289 cu dd dk dm rfl (by decide) (J W (y A) V) (y A) (ep A) rfl (jb (aS bs<|ar #[ap<|y o,ap<|(y j:Z)+4,ap PG,ai kf,ai kl] 347) rfl) (R (z<|G p) 0) 1 1 [ap<|y o,ap<|(y j:Z)+4,ap PG,ai kf,ai kl] rfl rfl (OL _ _ _ _ _ _ _) (by simp[Value.oneCell']) (by omega) (by omega) (by simp;omega) ?_
 intro P n av ba
 obtain⟨l,X,⟨s0,s1,s2,s3,s4,s6,s7⟩,s5,⟨z0,z1,z2,z3,z4,z6,z7⟩,bT,bi⟩:=bv _ P n av ba
 obtain⟨cc,cb,cx⟩:=aC av
 subst cx
 refine bg _ _ (λ_=>⟨s0,s1,s2,s3,s4,s5,s6,s7⟩) ?_
 simp only[Act.put,du]
 refine aP (i:=22) rfl rfl (by kernel_rfl) ?_
 intro eb bh
 go_simp
 refine bh _ _ yR ?_
 refine dp (by kernel_rfl) ?_ _
 show KK _ _
 apply bx
 clear bx bf bg bh z0 z1 z2 z3 z4 z6 z7 s0 s1 s2 s3 s4 s5 s6 s7 bT av ba hS k0 k1 l1 l2 l3 l4 l5 l6 b1 b2 b3 b4 b5 b6 b7 bv bs
 have bc:=U bi
 clear bi
 generalize bZ n (R bk 0) (J cc (y A+1) cb)=W3 at*
 generalize(J cc (y A+1) cb)=ds at*
 have l2:=l.d.cell
 have l3:=l.p.cell
 have dn:=l.size
 have cj:=U l.od
 have ch:=U l.op.bytes
 have eg:y (j++le 4 (mr j))=y j+4:=by simp[bY]
 have cn:=U (show∀v4 w4,w4.ownsRow f 5 1 v4 (y o+(y j+4)) (o.map (Value.int .u8)++(j++le 4 (mr j)).map (Value.int .u8))->eP W3 w4 (J S (y o) Q) v4->(aT w4 (R E 0)=H (J S (y o) Q)/\w4.frozen? (R E 0)=bF)/\lQ (bZ w4 (R E 0) v4) f D E q bk L u (bD an e bo w) v4 (bD pb k (y j+4) pc) ds b c (o++iC j) (j++le 4 (mr j)) (A++[⟨y o,y j+4,PG,kf,kl⟩])/\Y (ux D u (J S (y o) Q) s<|J W (y A) V) a (bZ w4 (R E 0) v4)/\(∀K,bV v4=H K->bV (J S (y o) Q)=H K\/z (G a)<=K)from by
  intro v4 w4 ax al;have B:=Y.fy al;have O:=l.d.aw B (l.jW<|by omega).1;have bn:=l.data (ds1:=o++iC j) B al.uc<|eH.of ax (by rw[af,gu]) (by unfold iC;rw[aM,aM,aM]);exact⟨⟨O.cell,O.free⟩,bn,(X.trans B<|λK t=>.inl<|.inr<|.inl t).setCell E 0 _<|.inl<|.inl ⟨by omega,by omega⟩,λK t=>by
   rcases al.uc with ce|⟨cd,ce,hy⟩
   .exact .inl<|ce▸t
   .rw[ce]at t;cases t;exact .inr (aE X.size hy)⟩)
 clear l X
 go_wp2_with(first
  |(at_builtin;go_loud(refine bS _ rfl (.tmp 30) (.tmp 31) 126 rfl f 5 j0 (.int .u8 0) 1 1 underlying126 cv cT db dc rfl (by decide) _ (y o) (o.map (Value.int .u8)) rfl cj (R pb k) (y j+4) pc ((j++le 4 (mr j)).map (Value.int .u8)) rfl (by simp[bY]) (tu ch) (by intro ek hu;simp only[aZ]at hu;obtain⟨cd,_,rfl⟩:=hu;rfl) (by omega) (by omega) dn ?_;intro v4 w4 ax al;obtain⟨⟨y0,y1⟩,r,ad,bl⟩:=cn v4 w4 ax al;obtain⟨x4,c4,rfl⟩:=aC ax;have bd:=U bl;clear bl;have cl:=U r;have ck:=U ad;clear ax al r ad)))
 have r:=ae cl
 have ad:=ae ck
 have y2:=r.p.cell
 have y3:=r.p.free
 have y4:=r.f.cell
 have y5:=r.f.free
 have y6:=r.t.cell
 have n1:L≠q:=by omega
 have n2:u≠q:=by omega
 have n3:u≠L:=by omega
 have br:=U (show∀B,(B=(bZ (bZ (bZ w4 (R E 0)<|J x4 (y o+(y j+4)) c4) (R q 0) aK) (R L 0)<|ap c).drew\/B=(bZ (bZ (bZ w4 (R E 0)<|J x4 (y o+(y j+4)) c4) (R L 0)<|ap c) (R q 0) aK).drew)->(∃ao bb,lQ B f D E q bk L u (bD an e bo w) ao aK bb c c (o++iC j) [] (A++[⟨y o,y j+4,PG,kf,kl⟩])/\(∀K,bV ao=H K->bV (J S (y o) Q)=H K\/z (G a)<=K)/\(∀K,bV bb=H K->bV (J W (y A) V)=H K\/z (G a)<=K))/\Y (ux D u (J S (y o) Q) s<|J W (y A) V) a B from by
  rintro B(rfl|rfl)
  .exact⟨⟨_,_,r.fin.aw<|cf _ _,bd,bc⟩,((ad.setCell q 0 _<|.inl<|.inl ⟨by omega,by omega⟩).setCell L 0 _<|.inl<|.inl ⟨by omega,by omega⟩).trans (cf _ _)<|λK t=>.inl t⟩
  .exact⟨⟨_,_,r.YJ.aw (cf _ _),bd,bc⟩,((ad.setCell L 0 _ (.inl (.inl ⟨by omega,by omega⟩))).setCell q 0 _ (.inl (.inl ⟨by omega,by omega⟩))).trans (cf _ _) (λK t=>.inl t)⟩)
 clear r ad
 go_region
 all_goals
  go_end0;refine⟨rfl,br _ ?_⟩;first
  |exact .inl rfl
  |exact .inr rfl
def EO(c:cA):ab:=(c[0]?.map E.key).getD ⟨#[]⟩
def Lu(c:cA):ab:=(c[y c-1]?.map E.key).getD ⟨#[]⟩
def Mj(p:M)(c:cA):qR:=⟨p,y (fE c)+4,y c,EO c,Lu c⟩
def bO:M->dW->mw
 |_,[]=>[]
 |p,c::a=>Mj p c::bO (p+(y (fE c)+4)) a
def jZ:∀(a:dW)(p:M),y (bO p a)=y a
 |[],_=>rfl
 |c::a,p=>by rw[bO,ay,jZ a,ay]
def CC(c:cA):∀(a:dW)(p:M),bO p (a++[c])=bO p a++[Mj (p+y (dG a)) c]
 |[],p=>by simp[bO,dG]
 |d::a,p=>by
  rw[cq,bO,CC c a,bO,cq,oN,af,gu];congr 4;omega
def zy:∀(a:dW)(p i:M)(f:i<y (bO p a))(b:i<y a),(bO p a)[i]=Mj (p+y (dG<|a.take i)) a[i]
 |[],_,i,_,b=>absurd b<|gG i
 |c::a,p,0,_,_=>by simp[bO,dG]
 |c::a,p,i+1,f,b=>by
  have e:i<y (bO (p+(y (fE c)+4)) a):=by simpa[bO]using f
  have d:i<y a:=by simpa using b
  have h:=zy a (p+(y (fE c)+4)) i e d;simp only[bO,cD,rP,oN,af,gu];rw[h];congr 1;omega
def Hg(h:0<y e):EO e=(e[0]'h).key:=by
 unfold EO;rw[aG h];rfl
def Lt(h:0<y e):Lu e=(e[y e-1]'(by omega)).key:=by
 unfold Lu;rw[aG<|by omega];rfl
def UY(h:0<y e)(p:M):(Mj p e).Of e:=⟨h,rfl,rfl,Hg h,Lt h⟩
def Jl:∀(c:cA),y c<=y (fE c)
 |[]=>by simp[fE]
 |x::c=>by
  have:=Jl c;unfold fE at*;rw[dI,af,ay];have:8<=y (Bz x):=by unfold Bz;rw[af,bY];omega
  omega
structure qo(l:cA)(cs:dW):Prop where
 flat:cs.flatten=l
 fit:∀c∈cs,0<y c/\y (fE c)+4<=512
 CS:cs.Pairwise gQ
def qo.wH(h:qo e k)(c:e≠[])(f:∀x∈e,x.Good)(g:dQ e):tD (bO 0 k) k where
 len:=jZ k 0
 ne:=by
  cases k with
  |nil=>exact absurd h.flat.symm<|by simpa using c
  |cons d k=>simp
 Ee:=λi b a=>by
  rw[zy k 0 i b a];exact UY (h.fit _<|aq a).1 _
 pos:=λi b=>by
  have a:i<y k:=by rw[jZ]at b;exact b
  rw[zy k 0 i b a];simp[Mj]
 jc:=λd a x b=>f x (by rw[<-h.flat];exact bz.2 ⟨d,a,b⟩)
 mq:=by rw[h.flat];exact g
 CS:=h.CS
 small:=λd a=>by
  have:=(h.fit d a).2;have:=Jl d;omega
def qo.length(h:qo e k):y k<=y e:=by
 rw[<-h.flat];have:=h.fit;clear h;induction k with
 |nil=>simp
 |cons c k b=>
  have a:=(this c<|by simp).1;have f:=b (λd a=>this d<|by simp[a]);simp only[ay,aX,af];omega
def qo.data(h:qo e k):y (dG k)<=512*y k:=by
 have:=h.fit;clear h;induction k with
 |nil=>simp[dG]
 |cons c k b=>
  have a:=(this c<|by simp).2;have g:=b (λd a=>this d<|by simp[a]);rw[oN,af,gu,ay];omega
def uY(k:qR):eI:=le 4 k.size++(le 4 k.count++(eh k.first++eh k.last))
def fa(a:mw):eI:=le 4 (y a)++a.flatMap uY
structure Ib(w0 w:I)(x:M)(k:qR)(o:aa)(bs:eI):Prop where
 own:eH w (z<|G w0) o bs
 box:BQ w x k
 ne:bV o≠H x
 aw:Y aB w0 w
def Ib.wrote{n:qR}{c:eI}(h:Ib a f b n d o)(g:eP f C d s)(l:eH C (z<|G a) s c):Ib a C b n s c:=by
 have k:=ak h.box;refine⟨l,h.box.aw (Y.dN (S:=λj=>bV d=H j) g.grown<|λ_ e=>.inl e) h.ne,λe=>?_,h.aw.trans (Y.dN (S:=λj=>bV d=H j) g.grown<|λ_ e=>.inl e)<|λj e=>.inr (h.own.lt j e).1⟩;rcases g.uc with i|⟨m,i,p⟩;exact h.ne<|i.symm.trans e;rw[i]at e;cases e;omega
def Ib.size{k:qR}(h:Ib a C b k d o):z (G a)<=z (G C):=h.aw.size
structure qR.Fits(k:qR):Prop where
 size:k.size<=1000000
 count:k.count<=1000000
 first:k.first.size<=255
 last:k.last.size<=255
def LI{k:qR}(h:k.Fits):y (uY k)<=520:=by
 have:=h.first;have:=h.last;simp[uY,eh,bY,gW];omega
def lq{ks:mw}(h:∀k∈ks,k.Fits):y (ks.flatMap uY)<=520*y ks:=by
 induction ks with
 |nil=>simp
 |cons k ks b=>
  have a:=LI (h k<|by simp);have c:=b (λj a=>h j<|by simp[a]);rw[dI,af,ay];omega
def sL{n:Z}(a:0<=n)(b:n<4294967296):IntKind.u32.wrap n=n:=by rw[IntKind.wrap_u32];omega
def IB(a:mw)(E f k:M)(w:I)(hb:E<z (G w))(hc:∀L an,(ep a)[L]?=H an->aT w (R E<|f+L)=H an)(hl:y a<=1000000)(o:∀V∈a,V.Fits):cy bG 199 #[bD E f (y a) k] w λK w'=>∃v',K=aO v'/\eH w' (z<|G w) v' (fa a)/\Y aB w w':=by
 have u:=jv (baseqq:=z<|G w) (v:=aK) (bs:=[]) (y a:M) (w:=w) (eH.nil _ _) (ah _) (by simp) (by omega) (by omega);have e0:=sL (n:=(y a:M)) (by omega) (by omega);have HC:=U hc;have X:=U o;clear hc o;go_in
 go_wp2_with(go_at_call 186;refine u.mono ?_;rintro K w1⟨v1,rfl,g,i⟩;have N:=U g;have O:=U i;clear g i)
 go_loopw [3,12] (λo i wr=>∃n:M,n<=y a/\i=ap n/\eH wr (z<|G w) o (le 4 (y a)++(a.take n).flatMap uY)/\Y aB w wr) (λ_ i _=>y a-(intOf i).toNat)
 case atStart=>exact⟨0,bA _,rfl,by simpa using ae N,Y.dN (S:=aB) O.grown (by intro V o;simp[bV]at o)⟩
 (case round=>obtain⟨n,hn,rfl,c,e⟩:=hrel;have al:=e.size;by_cases l:n<y a;(.have m:∀L ad,L<5->(qR.cells a[n])[L]?=H ad->aT wr (R E<|f+n*5+L)=H ad:=λL ad b c=>e.cell (by rw[aV];exact HC _ _<|(ir a n L l b).trans c) (λd=>d) hb;have t:=X a[n]<|aq l;(have ac:y (le 4 (y a)++(a.take n).flatMap uY)<=600000000:=by have h1:=lq (ks:=a.take n)<|λV o=>X V<|eB o;(have h2:y (a.take n)<=y a:=by simp;omega);rw[af,bY];omega);have HS:=U (show(le 4 (y a)++(a.take n).flatMap uY)++uY a[n]=le 4 (y a)++(a.take<|n+1).flatMap uY from by rw[aU,aj l,fZ];simp);generalize a[n]=V at*;generalize le 4 (y a)++(a.take n).flatMap uY=F at*;obtain⟨pos,d,b,first,j⟩:=V;have p0:=m 0 _ (by omega) rfl;have p1:=m 1 _ (by omega) rfl;have p2:=m 2 _ (by omega) rfl;have p3:=m 3 _ (by omega) rfl;have p4:=m 4 _ (by omega) rfl;clear m;simp only[jn]at p0 p1 p2 p3 p4;have f1:=t.size;have f2:=t.count;have f3:=t.first;have f4:=t.last;simp only at f1 f2 f3 f4;have e1:=sL (n:=(d:M)) (by omega) (by omega);have e2:=sL (n:=(b:M)) (by omega) (by omega);have hA:Ib w (ct wr<|ar #[ap pos,ap d,ap b,ai first,ai j] 347) (z<|G wr) ⟨pos,d,b,first,j⟩ u3 F:=⟨c.alloc _,aD _ rfl,λK=>by have:=(c.lt _ K).2;omega,e.alloc _⟩;have W:=U hA;clear c e t hA;(go_wp2_with fail);refine(jv (d:M) W.own (by simp;omega) (by omega) (by omega)<|by omega).mono ?_;rintro K w1⟨v1,rfl,g,i⟩;have hA1:=W.wrote i g;obtain⟨k0,k1,k2,k3,k4⟩:=hA1.box.cells;simp only at k0 k1 k2 k3 k4;have P:=hA1.size;have p:=U hA1;clear hA1 g i;(go_wp2_with fail);refine(jv (b:M) p.own P (by rw[af,bY];omega) (by omega)<|by omega).mono ?_;rintro K w2⟨v2,rfl,v,B⟩;have hA2:=p.wrote B v;obtain⟨m0,m1,m2,m3,m4⟩:=hA2.box.cells;simp only at m0 m1 m2 m3 m4;have Q:=hA2.size;have q:=U hA2;clear hA2 v B;(go_wp2_with fail);refine(oZ (z<|G w) v2 ((F++le 4 d)++le 4 b) first _ q.own Q (by rw[af,af,bY,bY];omega) f3).mono ?_;rintro K w3⟨v3,rfl,x,C⟩;have hA3:=q.wrote C x;obtain⟨q0,q1,q2,q3,q4⟩:=hA3.box.cells;simp only at q0 q1 q2 q3 q4;have T:=hA3.size;have r:=U hA3;clear hA3 x C;(go_wp2_with fail);refine(oZ (z<|G w) v3 (((F++le 4 d)++le 4 b)++(first.size:Z)::kD first) j _ r.own T (by simp only[af,bY,ay,gW];omega) f4).mono ?_;rintro K w4⟨v4,rfl,A,D⟩;have hA4:=r.wrote D A;have s:=U hA4;clear hA4 A D;go_wp2;go_roundw;(case rel=>refine⟨n+1,l,by go_num,?_,s.aw⟩;rw[<-ae HS];have:=s.own;simpa[uY,eh]using this);case measure=>simp[intOf];omega);(have b:n=y a:=by omega);subst b;rw[bP]at c;have d:=U c;have j:=U e;clear c e;go_wp2;go_ret;exact⟨_,rfl,d,j⟩)
structure qR.Can(k:qR):Prop where
 size:k.size<=512
 c1:1<=k.count
 c2:k.count<=100
 f1:1<=k.first.size
 f8:k.first.size<=8
 l1:1<=k.last.size
 l8:k.last.size<=8
 le:ic k.last k.first=bF
def Ob:(prog.info? 347).map (λi=>(i.zero,i.size,i.bytes))=H (H<|eC #[ap 0,ap 0,ap 0,ai ⟨#[]⟩,ai ⟨#[]⟩],5,56):=by kernel_rfl
def Sq(x c d u v:aa)(t:TypeId)(f:b=z (G a)):∀j q,[x,c,d,u,v][j]?=H q->aT (ct a<|ar #[x,c,d,u,v] t) (((R b 0):Addr).add j)=H q:=by
 intro j q e;subst f;rw[dt];unfold World.cell?;rw[ft];simpa using e
def St(a:mw)(k:qR):ep (a++[k])=ep a++[ap k.pos,ap k.size,ap k.count,ai k.first,ai k.last]:=by simp[ep,qR.cells]
def IQ(a b:ab):(Op.bytesLess a.toList b.toList||a.toList==b.toList)=!ic b a:=by rw[<-Pt];simp
def VY(t:TypeId)(a b:ab):binOp .leq t (ai a) (ai b)=pure (aL<|Op.bytesLess a.toList b.toList||a.toList==b.toList):=by simp[binOp,Op.stringOp]
def GW(s:ab)(w:I)(b:1<=s.size)(c:s.size<=8):cy bG 68 #[ai s] w λe a=>e=aO (aL bW)/\a=w:=by
 apply(qK s w<|by omega).mono;rintro e a⟨rfl,rfl⟩;exact⟨by simp[b,c],rfl⟩
def Ut(k:qR)(w:I)(h:k.Can):cy bG 249 #[k.value] w λo p=>o=aO (aL bW)/\p=ct w (ar #[ap k.pos,ap k.size,ap k.count,ai k.first,ai k.last] 347):=by
 obtain⟨pos,j,b,first,a⟩:=k;have l:=h.size;have m:=h.c1;have n:=h.c2;have e:=h.f1;have f:=h.f8;have g:=h.l1;have i:=h.l8;have q:(Op.bytesLess first.toList a.toList||first.toList==a.toList)=bW:=by rw[IQ];simp only[h.le];rfl
 simp only at l m n e f g i;unfold qR.value;simp only;clear h;go_in
 go_wp2_with fail
 apply(GW first _ e f).mono;rintro o d⟨rfl,c⟩;subst d;go_wp2_with fail
 apply(GW a _ g i).mono;rintro o d⟨rfl,c⟩;subst d;go_wp2;go_ret;exact⟨rfl,rfl⟩
def sM(a:mw):M:=(a.map qR.size).sum
def rL(a:mw):M:=(a.map qR.count).sum
def iT(a:mw):ab:=(a.getLast?.map qR.last).getD ⟨#[]⟩
structure JN(ks:mw):Prop where
 ne:1<=y ks
 len:y ks<=100
 can:∀k∈ks,k.Can
 PG:rL ks<=100
 pos:∀n(h:n<y ks),ks[n].pos=sM (ks.take n)
 YZ:∀n(h:n<y ks),ic (iT<|ks.take n) ks[n].first=bW
def Na(a:mw)(k:qR):sM (a++[k])=sM a+k.size:=by simp[sM]
def BE(a:mw)(k:qR):rL (a++[k])=rL a+k.count:=by simp[rL]
def ED(a:mw)(k:qR):iT (a++[k])=k.last:=by simp[iT]
def BD(a:mw)(n:M):rL (a.take n)<=rL a:=by
 have h:=bU (λl=>(l.map qR.count).sum)<|bX n a;simp only[aM,gl]at h;unfold rL;omega
def Kk{ks:mw}(h:∀k∈ks,k.Can):sM ks<=512*y ks:=by
 induction ks with
 |nil=>simp[sM]
 |cons k ks b=>
  have a:=(h k<|by simp).size;have c:=b (λj a=>h j<|by simp[a]);unfold sM at*;simp only[aY,iL,ay];omega
def qR.Can.fits{k:qR}(h:k.Can):k.Fits:=⟨by have:=h.size;omega,by have:=h.c2;omega,by have:=h.f8;omega,by have:=h.l8;omega⟩
def Aq(s:ab)(b:s.size<=255):kA (eh s):=by
 intro x a;unfold eh at a;rcases az.1 a with rfl|a;omega;exact kA.text s x a
def Uq{k:qR}(h:k.Fits):kA (uY k):=(kA.le 4 _).append<|(kA.le 4 _).append<|(Aq _ h.first).append<|Aq _ h.last
def Jc(h:∀k∈A,k.Fits):kA (A.flatMap uY):=by
 intro x a;obtain⟨k,b,a⟩:=lZ.1 a;exact Uq (h k b) x a
structure JM(w0 w:I)(rb:M)(num cut isz sum:Z)(ks:mw)(o:aa)(n:M):Prop where
 own:w.ownsRow (z<|G w0) 347 5 o n (ep<|ks.take n)
 rd:Rd w rb ((ks.drop n).flatMap uY) bF
 box:w.heap[z<|G w0]?=H (ar #[aH num,dq cut,dq isz,dq sum] 266 (0,0))
 aw:Y aB w0 w
 Tm:z (G w0)<rb
 wy:∀k,bV o=H k->rb<k
def Dq(dd m L:M)(num:Z)(hT:Steps a)(hP:JN A)(hb:Bytes a (bD dd m (y<|fa A) L) (fa A)):cy bG 213 #[bD dd m (y<|fa A) L,eC #[aH num,dq (sM A:M),dq (y (fa A):M),dq<|mr<|fa A]] a λF w'=>
 ∃b,F=aO (dB #[b,aL bW])/\w'.ownsRow (z<|G a) 347 5 b (y A) (ep A)/\Y aB a w':=by
 have t:∀k∈A,k.Fits:=λk j=>(hP.can k j).fits
 have ds:y (fa A)<=52004:=by
  have h1:=lq t;have h2:=hP.len;unfold fa;rw[af,bY];omega
 have bs:0<y (fa A):=by unfold fa;rw[af,bY];omega
 have ec:sM A<=51200:=by have:=Kk hP.can;have:=hP.len;omega
 obtain⟨i0,br,cl,cm,co⟩:=cz Ob
 obtain⟨bf,hL⟩:∃bf,y (fa A)=bf:=⟨_,rfl⟩
 obtain⟨bg,hS⟩:∃bg,sM A=bg:=⟨_,rfl⟩
 obtain⟨cp,hN⟩:∃cp,y A=cp:=⟨_,rfl⟩
 rw[hL]at ds bs
 rw[hS]at ec
 rw[hL,hS]
 have e1:IntKind.i64.wrap (bf:Z)=bf:=by rw[bQ];omega
 have e2:IntKind.i64.wrap (bg:Z)=bg:=by rw[bQ];omega
 have ce:∀dc,dc.heap=(ct a<|ar #[aH num,dq bg,dq bf,dq<|mr<|fa A] 266).heap->cy bG 188 #[bD dd m bf L] dc λF w'=>F=aO (dq<|mr<|fa A)/\w'=dc:=by
  intro dc b;refine sk _ (fa A) dc ((hT.alloc _).of_heap b) ?_ (by omega);rw[<-hL];exact(hb.alloc _).of_heap b
 have el:dd<z (G a):=hb.lt (by intro F;rw[F]at hL;simp at hL;omega) dd rfl
 obtain⟨HB,HT,HP,HF,HL,HS,Q⟩:=ww hb hT hP t hL hS hN
 clear hb hT hP t hL hS hN
 generalize mr (fa A)=ek at*
 go_in
 go_wp2_with fail
 go_quiet(first|(go_at_call 188;refine Calls.quiet_of_same (ce _ rfl)))
 have N:∃f,(ct a<|ar #[aH num,dq bg,dq bf,dq ek] 266).drewN nq=f/\Y aB a f/\f.heap[z<|G a]?=H (ar #[aH num,dq bg,dq bf,dq ek] 266 (0,0))/\Bytes f (bD dd m bf L) (fa A)/\z (G a)<z (G f):=by
  refine⟨_,rfl,((Y.refl aB a).alloc _).of_heap rfl,aD _ rfl,?_,by simp⟩;have:=HB.alloc<|ar #[aH num,dq bg,dq bf,dq ek] 266;rw[ae HL]at this;exact this.of_heap rfl
 obtain⟨f,N,cj,bv,bn,cn⟩:=N
 rw[N]
 have dT:=mR bn (by intro k j;cases j;show dd<z (G f);omega)
 have db:=U cj
 have bk:=U bv
 clear N cj bv bn
 go_wp2_with fail
 apply dT.mono
 rintro F w2⟨rfl,W,bd⟩
 subst bd
 have dk:=HP.ne
 have dm:=HP.len
 rw[ae Q]at dk dm
 have T:fa A=le 4 (cp:M)++A.flatMap uY:=by unfold fa;rw[ae Q]
 have ei:=rX (z<|G f) (cp:M) (A.flatMap uY) _ (T▸W) (Jc HF) (by have:=lq HF;rw[ae Q]at this;omega) (by omega)<|by omega
 clear W T
 go_wp2_with fail
 apply ei.mono
 rintro F w3⟨rfl,X,ba⟩
 have cT:=U X
 have cv:=U ba
 have ej:=ba.size
 simp at ej
 clear X ba
 go_wp2_with(first
  |(at_make;go_loud(refine lG _ rfl _ _ 289 rfl (z (G a)) 347 i0 (.agg #[.int .i64 0,.int .i64 0,.int .i64 0,.string ⟨#[]⟩,.string ⟨#[]⟩]) 5 underlying289 br cl cm _ _ _ cp rfl rfl (by omega) (by rw[co];omega) (by unfold maxLen;omega) (by omega) ?_;intro w4 V S;have cE:=U V;have ad:=U S;clear V S)))
 have ev:=ad.size
 have hA0:JM a w4 (z<|G f) num bg bf ek A (bD (z<|G w3) 0 0 cp) 0:=by
  have c:Y (λk=>k=z (G f)) f w3:=((Y.refl (λk=>k=z (G f)) f).alloc _).trans (fg cv)<|λ_ h=>.inl h;have b:Y (λk=>k=z (G f)) f w4:=c.ci (Y.dN (S:=aB) ad<|by simp);refine⟨cE,cT.laid ad,(b.block _ (ak bk) (by intro F;omega)).trans bk,db.trans b (λk j=>.inr<|by omega),cn,?_⟩;intro k j;simp[bV]at j;omega
 have cs:=U hA0
 clear hA0
 go_loopw [8,9,10,11,39] (λo p q l i wr=>∃n:M,n<=cp/\i=dq n/\p=ap (sM (A.take n):M)/\q=ap (rL (A.take n):M)/\l=ai (iT<|A.take n)/\JM a wr (z<|G f) num bg bf ek A o n) (λ_ _ _ _ i _=>cp-(intOf i).toNat)
 case atStart=>exact⟨0,bA _,rfl,rfl,rfl,rfl,cs⟩
 case round=>
  obtain⟨n,et,rfl,rfl,rfl,rfl,e⟩:=hrel;have s:=e.own;obtain⟨ox,oc,ho⟩:=aC s;have eq:=e.rd.lt;have ex:=e.aw.size;have ax:=BD A n;have dn:=HP.PG;by_cases bu:n<cp
  .have p:n<y A:=by rw[ae Q];exact bu
   have g:=HP.can A[n]<|aq p;have C:=HP.pos n p;have x:=HP.YZ n p;have l:=e.rd;rw[bE p,dI]at l;have B:kA ((A.drop<|n+1).flatMap uY):=Jc<|λk j=>HF k<|di j;have dx:y ((A.drop<|n+1).flatMap uY)<=52000:=by
    have h1:=lq (ks:=A.drop<|n+1)<|λk j=>HF k<|di j;have h2:y (A.drop<|n+1)<=100:=by simp;rw[ae Q];omega
    omega
   have D:A.take (n+1)=A.take n++[A[n]]:=aj p;have ac:sM (A.take n)<=51200:=by
    have h1:=Kk (ks:=A.take n)<|λk j=>HP.can k<|eB j;have h2:y (A.take n)<=100:=by simp;omega
    omega
   rw[<-C]at ac|-;have bm:=U C;have K:=U D;generalize A[n]=k at*;generalize hR:(A.drop<|n+1).flatMap uY=au at*;have HR:=U hR;clear hR;have u:=λdc=>Ut k dc g;have dv:=g.fits;obtain⟨pos,d,b,first,c⟩:=k;have f1:=g.size;have f2:=g.c2;have f3:=g.f8;have f4:=g.l8;simp only at f1 f2 f3 f4 ac x;unfold uY at l;simp only[aU]at l;unfold qR.value at u;simp only at u;have a8:(Op.bytesLess first.toList (iT<|A.take n).toList||first.toList==(iT<|A.take n).toList)=bF:=by rw[IQ,x];rfl
   have bb:kA (eh c++au):=(Aq _<|by omega).append B;have bc:kA (eh first++(eh c++au)):=(Aq _<|by omega).append bb;have bt:kA (le 4 b++(eh first++(eh c++au))):=(kA.le 4 _).append bc;have em:y (eh c)<=9:=by unfold eh;rw[ay,gW];omega
   have en:y (eh first)<=9:=by unfold eh;rw[ay,gW];omega
   have e3:IntKind.i64.wrap (d:Z)=d:=by rw[bQ];omega
   have e4:IntKind.i64.wrap (b:Z)=b:=by rw[bQ];omega
   have ee:=rX (z<|G f) (d:M) _ wr l bt (by simp only[af,bY];omega) (by omega) (by omega);obtain⟨cx,cB,bi,HA,bl⟩:=jP bb bc B e (show∀(x:Bool)(a:I),(Op.unary .not<|aL x).run bG a=.ok (aL<|!x) a fromλ_ _=>rfl);clear e s l bb bc bt B g x dv C D;subst ho;generalize iT (A.take n)=ll at*;obtain⟨cc,v⟩:∃cc,rL (A.take n)=cc:=⟨_,rfl⟩;rw[v]at ax|-;have cu:=U v;clear v;go_wp2_with fail
   apply ee.mono;rintro F w5⟨rfl,bT,bo⟩;have bd:=rX (z<|G f) (b:M) _ w5 bT cB (by simp only[af];omega) (by omega) (by omega);have al:=U bo;clear bT bo;go_wp2_with fail
   apply bd.mono;rintro F w6⟨rfl,ca,bp⟩;have ef:=OU (z<|G f) first w6 ca cx (by simp only[af];omega) (by omega)
   have an:=U bp;clear ca bp;go_wp2_with fail
   apply ef.mono;rintro F w7⟨rfl,cb,bq⟩;have eg:=OU (z<|G f) c w7 cb bi (by omega) (by omega);have ao:=U bq;clear cb bq;go_wp2_with fail
   apply eg.mono;rintro F w⟨rfl,cd,P⟩;have HX:=U (show∀o2 o,o.ownsRow (z<|G a) 347 5 o2 (n+1) (ep (A.take n)++[ap pos,ap d,ap b,ai first,ai c])->eP (ct (ct (ct w<|ar #[ap pos,ap d,ap b,ai first,ai c] 347)<|ar #[ap pos,ap d,ap b,ai first,ai c] 347)<|ar #[ap pos,ap d,ap b,ai first,ai c] 347) o (J ox n oc) o2->BQ o (z<|G w) ⟨pos,d,b,first,c⟩/\JM a o (z<|G f) num bg bf ek A o2 (n+1)from by
    intro o2 o r i;have e:=ae HA;have E:Y (λk=>k=z (G f)) wr w:=(((fg al).trans (fg an)<|λ_ h=>.inl h).trans (fg ao)<|λ_ h=>.inl h).trans (fg P)<|λ_ h=>.inl h;have ch:=E.size;have bx:=e.own.lt;have ck:Y (λk=>bV (J ox n oc)=H k) w o:=((((Y.refl (λk=>bV (J ox n oc)=H k) w).alloc _).alloc _).alloc _).trans (Y.fy i)<|λ_ h=>.inl h;have O:BQ (ct w<|ar #[ap pos,ap d,ap b,ai first,ai c] 347) (z<|G w) ⟨pos,d,b,first,c⟩:=aD _ rfl;have ed:Y (λk=>bV (J ox n oc)=H k) (ct w<|ar #[ap pos,ap d,ap b,ai first,ai c] 347) o:=(((Y.refl (λk=>bV (J ox n oc)=H k) _).alloc _).alloc _).trans (Y.fy i)<|λ_ h=>.inl h;have av:=e.wy;refine⟨O.aw ed (λF=>by have:=(bx _ F).2;omega),?_,?_,?_,?_,e.Tm,?_⟩
    .rw[ae K,St];exact r
    .have ea:=((cd.laid<|dr w (ar #[ap pos,ap d,ap b,ai first,ai c] 347) none).laid<|dr _ (ar #[ap pos,ap d,ap b,ai first,ai c] 347) none).laid<|dr _ (ar #[ap pos,ap d,ap b,ai first,ai c] 347) none;have eb:=ea.wrote i av;rw[ae HR];exact eb
    .exact(ck.block _ (by omega) (λF=>by have:=av _ F;have:=e.Tm;omega)).trans<|(E.block _ (ak e.box) (λF=>by have:=e.Tm;omega)).trans e.box
    .exact(e.aw.trans E<|λk j=>.inr (by have:=e.Tm;omega)).trans ck<|λk j=>.inr (bx k j).1
    .intro k j;rcases i.uc with es|⟨fd,es,hy⟩
     .exact av k<|es.symm.trans j
     .rw[es]at j;cases j;simp at hy;omega)
   have ch:z (G f)<z (G w):=by
    have:=al.size;have:=an.size;have:=ao.size;have:=P.size;omega
   have cM:=U (show w.ownsRow (z<|G a) 347 5 (J ox n oc) n (ep<|A.take n)from by
    have e:=ae HA;have E:Y (λk=>k=z (G f)) wr w:=(((fg al).trans (fg an) (λ_ h=>.inl h)).trans (fg ao) (λ_ h=>.inl h)).trans (fg P) (λ_ h=>.inl h);exact E.own e.own (λk j F=>by have:=e.wy k j;omega))
   have eo:=ae bl;clear cd P;go_wp2_with fail
   apply(u _).mono;rintro F w9⟨rfl,eu⟩;subst w9;go_wp2_with(first
    |(at_builtin;go_loud(refine bS _ rfl (.tmp 62) (.tmp 64) 289 rfl (z (G a)) 347 i0 (.agg #[.int .i64 0,.int .i64 0,.int .i64 0,.string ⟨#[]⟩,.string ⟨#[]⟩]) 5 56 underlying289 br cl cm co rfl (by decide) (.slice ox n oc) n (ep (A.take n)) rfl (aS (aS (aS cM _) _) _) (R (z (G w)+2) 0) 1 1 [.int .i64 pos,.int .i64 d,.int .i64 b,.string first,.string c] rfl rfl (Sq _ _ _ _ _ _ (by simp)) (by simp[Value.oneCell']) (by omega) (by omega) (by simp;omega) ?_;intro o2 o r i;obtain⟨O,hA10⟩:=HX o2 o r i;obtain⟨m0,m1,m2,m3,m4⟩:=O.cells;simp only at m0 m1 m2 m3 m4;obtain⟨fb,ey,rfl⟩:=aC r;have bh:=U hA10;clear r i hA10 O)))
   go_quiet(fail)
   go_wp2;go_roundw;case rel=>
    refine⟨n+1,bu,by go_num,?_,?_,?_,?_⟩
    .rw[ae K,Na,<-ae bm];go_num
    .rw[ae K,BE,ae cu];go_num
    .rw[ae K,ED]
    .have e:=ae bh;exact⟨e.own,e.rd,e.box,e.aw.of_heap rfl,e.Tm,e.wy⟩
   case measure=>simp[intOf];omega
  .have i:n=cp:=by omega
   subst i;have b:A.take n=A:=by rw[<-ae Q,bP]
   have l:=e.rd;have d:A.drop n=[]:=by rw[<-ae Q,gm]
   rw[d]at l;have c:=xN l (by simp);simp only[uG,qF,nk,ug]at c;have r:=cellAt e.box 1 rfl;rw[b]at ax|-;rw[ae HS];rw[ho,b]at s;have p:=U s;have g:=U e.aw;clear e s l d b;obtain⟨cc,v⟩:∃cc,rL A=cc:=⟨_,rfl⟩;rw[v]at dn ax|-;clear v;have o:((cc:Z)<=100)=True:=by simp;omega
   subst ho;go_wp2_with fail
   apply c.mono;rintro F w5⟨rfl,u⟩;subst w5;go_wp2;go_ret2
   exact⟨_,rfl,by rw[ae Q];exact p,g⟩
def rG.trans{w w' d:I}{a:DK}(h:rG w w' c j O)(k:rG w' d c O a):rG w d c j a:=⟨k.ok,h.aw.trans k.aw<|λx e=>h.bj x e,λx e=>(k.bj x e).elim (λg=>h.bj x g)<|λg=>.inr<|aE h.aw.size g⟩
def rG.refl(h:cK a b j):rG a a b j j:=⟨h,Y.refl _ _,λ_ c=>.inl c⟩
abbrev Fs:=cr<|ab×eI
def vw(a:cr da):Fs:=a.map<|λf=>(f.name,f.bytes)
def dX:Fs->ab->Option eI
 |[],_=>none
 |f::r,n=>if f.1=n then H f.2 else dX r n
def vi:Fs->ab->Fs
 |[],_=>[]
 |f::r,n=>if f.1=n then r else f::vi r n
def td:Fs->ab×eI->Fs
 |[],f=>[f]
 |g::r,f=>if g.1=f.1 then f::r else g::td r f
def ij(a:Fs):M:=(a.map (·.2.length)).sum
def JV(a:cr da):uk a=ij (vw a):=by
 unfold uk ij vw;rw[iQ];rfl
def Ji(a:cr da)(n:ab):dX (vw a) n=(qM a n).map da.bytes:=by
 induction a with
 |nil=>rfl
 |cons f r b=>
  unfold vw at*;by_cases h:f.name=n<;>simp[dX,qM,h,b]
def SN(a:cr da)(n:ab):vw (pB a n)=vi (vw a) n:=by
 induction a with
 |nil=>rfl
 |cons f r b=>
  unfold vw at*;by_cases h:f.name=n<;>simp[vi,pB,h,b]
def Dl(a:cr da)(f:da):vw (qJ a f)=td (vw a) (f.name,f.bytes):=by
 induction a with
 |nil=>rfl
 |cons g r b=>
  unfold vw at*;by_cases h:g.name=f.name<;>simp[td,qJ,h,b]
def Bv{a:Fs}(h:dX a v=H o):td a (v,o)=a:=by
 induction a with
 |nil=>cases h
 |cons g r c=>
  obtain⟨b,d⟩:=g;by_cases e:b=v
  .subst e;simp[dX]at h;simp[td,h]
  .simp[dX,e]at h;simp[td,e,c h]
def GZ{a:Fs}(f d:eI)(h:dX a v=none):td (a++[(v,f)]) (v,d)=a++[(v,d)]:=by
 induction a with
 |nil=>simp[td]
 |cons g r c=>
  obtain⟨b,i⟩:=g;by_cases e:b=v
  .simp[dX,e]at h
  .simp[dX,e]at h;simp[td,e,c h]
def jw(a b:Fs)(n:ab):dX (a++b) n=(dX a n).or (dX b n):=by
 induction a with
 |nil=>simp[dX]
 |cons g r c=>by_cases e:g.1=n<;>simp[dX,e,c]
def vg(b:Fs)(f:ab×eI)(n:ab):dX (td b f) n=if f.1=n then H f.2 else dX b n:=by
 induction b with
 |nil=>by_cases e:f.1=n<;>simp[td,dX,e]
 |cons h r g=>
  by_cases e:h.1=f.1
  .by_cases a:f.1=n<;>simp[td,dX,e,a]
  .by_cases a:h.1=n
   .have c:¬f.1=n:=λb=>e<|a.trans b.symm;have d:¬n=f.1:=λb=>c b.symm;simp[td,dX,a,c,d]
   .simp[td,dX,e,a,g]
def xK{a:Fs}(h:dX a v=H o):(v,o)∈a:=by
 induction a with
 |nil=>cases h
 |cons g r c=>
  obtain⟨b,d⟩:=g;by_cases e:b=v
  .subst e;simp[dX]at h;simp[h]
  .simp[dX,e]at h;exact aJ _<|c h
def uv(a b:Fs):ij (a++b)=ij a+ij b:=by simp[ij]
def js{a:cr da}(h:dX (vw a) v=H o):∃F,qM a v=H F/\F.bytes=o:=by
 rw[Ji]at h;cases e:qM a v with
 |none=>rw[e]at h;cases h
 |some F=>rw[e]at h;simp at h;exact⟨F,rfl,h⟩
def vW{a:cr da}(h:dX (vw a) v=none):qM a v=none:=by
 rw[Ji]at h;cases e:qM a v with
 |none=>rfl
 |some F=>rw[e]at h;cases h
def Gf{db:M}{K:DK}(a:ab)(an b j:M){bs:eI}{w:I}(h:cK w db K)(B:dX (vw K.files) a=none)(hn:y K.eM<=1000000000000)(e:ij (vw K.files)+y bs<=1099511627776)(E:kA bs)(u:∀ao au,(bs.map<|Value.int .u8)[ao]?=H au->aT w (R an<|b+ao)=H au)(i:an<z (G w))(t:¬K.bj db an):cy bG 200 #[aA db,ai a,bD an b (y bs) j] w λQ p=>Q=aO .nilIface/\∃c,rG w p db K c/\vw c.files=vw K.files++[(a,bs)]/\y c.eM=y K.eM+1:=by
 have D:=vW B;have al:=Cv a h (Bt D) hn
 have HX:=U (show∀r f,rG w r db K f->f.files=K.files++[⟨a,z<|G w,aK,[],0⟩]->cy bG 122 #[aA db,ai a,bD an b (y bs) j] r λQ p=>Q=aO .nilIface/\∃c,rG r p db f c/\vw c.files=vw K.files++[(a,bs)]/\c.eM=f.eM from by
  intro r f v hf;have q:vw f.files=vw K.files++[(a,[])]:=by rw[hf];simp[vw]
  have C:dX (vw f.files) a=H []:=by rw[q,jw,B];simp[dX]
  obtain⟨av,hF,d⟩:=js C;refine(Hu a av an b j bs v.ok hF (by rw[JV,q,uv];simp[ij]at e|-;omega) E (λao au hj=>v.aw.cell (u ao au hj) t i) (ag i v.aw.size) (by rw[d];simp)).mono ?_;rintro Q p⟨rfl,c,k,⟨ax,n⟩,o⟩;refine⟨rfl,c,k,?_,o⟩;rw[n,Dl];simp only[d,cC,(kH hF).1];rw[q];exact GZ [] bs B)
 have HY:=U (show∀s g,cK s db g->vw g.files=vw K.files++[(a,bs)]->cy bG 90 #[aA db,ai a] s λQ p=>Q=aO .nilIface/\∃c,rG s p db g c/\vw c.files=vw K.files++[(a,bs)]/\c.eM=g.eM from by
  intro s g v q;have C:dX (vw g.files) a=H bs:=by rw[q,jw,B];simp[dX]
  obtain⟨av,hF,d⟩:=js C;refine(OV a av v hF (by rw[d];omega)).mono ?_;rintro Q p⟨rfl,c,k,n,o⟩;refine⟨rfl,c,k,?_,o⟩;rw[n,Dl];simp only[d,(kH hF).1];rw[Bv C,q])
 clear h B D u e t E;go_in
 go_wp2_with fail
 apply al.mono;rintro Q r⟨rfl,f,l,A,F⟩;have ha:=HX r f l A;have S:=U l;have W:=U F;clear l A F;go_wp2_with fail
 apply ha.mono;rintro Q s⟨rfl,g,m,O,L⟩;have hs:=HY s g m.ok O;have T:=U m;have X:=U L;clear m O L;go_wp2_with fail
 apply hs.mono;rintro Q w3⟨rfl,K3,x,P,N⟩;obtain⟨V,ad,ac⟩:=dC x P N;clear x P N;go_wp2;go_ret;exact⟨rfl,K3,(S.trans T).trans V,ad,by rw[ae ac,ae X,ae W]⟩
def KG{db:M}{K:DK}(a:ab)(i:eI){w:I}(h:cK w db K)(m:dX (vw K.files) a=H i)(k:y i<=1099511627776):cy bG 96 #[aA db,ai a] w λx p=>∃o,x=aO (dB #[o,.nilIface])/\eH p (z<|G w) o i/\∃g,rG w p db K g/\g.files=K.files/\g.eM=K.eM/\∀C,g.bj db C->K.bj db C:=by
 obtain⟨F,hF,rfl⟩:=js m;have l:=VC a F h hF (by omega);have f:=Be a F 0 (y F.bytes) h hF k (bA _) k;rw[List.drop_zero,bP]at f;generalize F.bytes=i at*;clear h m hF k;go_in
 go_wp2_with fail
 apply l.mono;rintro x q⟨rfl,A⟩;subst q;go_wp2_with fail
 apply f.mono;rintro x q⟨B,rfl,n,v,b,c,e,d⟩;obtain⟨u,r,s,t,j⟩:=jP n b c e d;clear n b c e d;go_wp2;go_ret2
 exact⟨B,rfl,u,v,r,s,t,j⟩
def Gz{db:M}{K:DK}(a:ab){w:I}(h:cK w db K)(c:dX (vw K.files) a=none):cy bG 96 #[aA db,ai a] w λg e=>g=aO (dB #[aK,.iface 219<|aA<|z<|G w])/\e=ct w (ar #[ai a,ap 10] 222):=by
 have b:=Qp _ a h.iG h.now<|Bt<|vW c;clear h c;go_in
 go_wp2_with fail
 apply b.mono;rintro g f⟨rfl,d⟩;subst f;go_wp2;go_ret2
 exact⟨rfl,rfl⟩
def bL.WO{s:SR}(h:bL a b s m)(c:Bool):bL (bZ a (R b 20)<|aL c) b {s with km:=c} m:=by
 have:=aR (i:=20) (u:=aL c) h;exact this
def bL.WN{s:SR}(h:bL a b s m)(c:Bool):bL (bZ a (R b 21)<|aL c) b {s with kj:=c} m:=by
 have:=aR (i:=21) (u:=aL c) h;exact this
structure gw(w w':I)(db sb:M)(K K':DK):Prop where
 ok:cK w' db K'
 aw:Y (λk=>K.bj db k\/k=sb) w w'
 bj:∀k,K'.bj db k->K.bj db k\/z (G w)<=k
def gw.of{b sbqq:M}(h:rG a f b j O):gw a f b sbqq j O:=⟨h.ok,h.aw.mono<|λ_ c=>.inl<|.inl c,h.bj⟩
def gw.refl{b sbqq:M}(h:cK a b j):gw a a b sbqq j j:=⟨h,Y.refl _ _,λ_ c=>.inl c⟩
def gw.trans{w w' d:I}{a:DK}(i:gw w w' c g j O)(k:gw w' d c g O a):gw w d c g j a:=⟨k.ok,i.aw.trans k.aw<|λx h=>h.elim (λe=>(i.bj x e).imp .inl id)<|λe=>.inl<|.inr e,λx h=>(k.bj x h).elim (λe=>i.bj x e)<|λe=>.inr<|aE i.aw.size e⟩
def gw.set(h:gw a f b c j O)(e:¬O.bj b c)(i:M)(v:aa):gw a (bZ f (R c i) v) b c j O:=by
 have d:Y (λk=>k=c) f (bZ f (R c i) v):=(Y.refl _ f).setCell c i v<|.inl rfl;exact⟨h.ok.aw d<|λk c f=>e<|f▸c,h.aw.trans d<|λk c=>.inl<|.inr c,h.bj⟩
def rG.Af(h:rG a f b j O)(d:¬j.bj b c)(g:c<z (G a)):¬O.bj b c:=λe=>(h.bj c e).elim d<|λi=>by omega
def Aj{s:SR}(h:bL a b s m)(hd:cK a s.aN j)(hn:¬j.bj s.aN b)(hp:Pow a)(hl:s.log<18446744073709551616)(hf:s.km=bW->∃bs,dX (vw j.files) (iM s.log)=H bs/\y bs<=1000000000000)(hm:y j.eM<=1000000000000):cy bG 53 #[aA b] a λbh w'=>bh=aO .nilIface/\∃A,gw a w' s.aN b j A/\vw A.files=vw j.files/\y A.eM<=y j.eM/\bL w' b {s with km:=bF,kj:=bF} m:=by
 have D:=ak h;have ba:∀bi E,cK bi s.aN E->vw E.files=vw j.files->s.km=bW->cy bG 90 #[aA s.aN,ai<|iM s.log] bi λbh w'=>bh=aO .nilIface/\∃A,rG bi w' s.aN E A/\vw A.files=vw j.files/\A.eM=E.eM:=by intro bi E hW q g;obtain⟨bs,l,w⟩:=hf g;rw[<-q]at l;obtain⟨F,hF,c⟩:=js l;refine(OV (iM s.log) F hW hF (by rw[c];omega)).mono ?_;rintro bh w'⟨rfl,A,d,e,p⟩;refine⟨rfl,A,d,?_,p⟩;rw[e,Dl];simp only[c,(kH hF).1];rw[Bv l,q]
 have ax:∀bi E,cK bi s.aN E->y E.eM<=y j.eM->cy bG 92 #[aA s.aN] bi λbh w'=>bh=aO .nilIface/\∃A,rG bi w' s.aN E A/\A.files=E.files/\A.eM=[]:=λbi E hW a=>BZ hW (by omega);obtain⟨av,au,HP,an,HB⟩:=jP ba ax hp hd h;have c2:=bL.cellAt h 2 rfl;have B:=bL.cellAt h 17 rfl;have ao:=bL.cellAt h 20 rfl;have C:=bL.cellAt h 21 rfl;clear ba ax hp hd h hf;cases g:s.km with
 |false=>
  rw[g]at ao;cases hln:s.kj with
  |false=>
   rw[hln]at C;have r:=HB;obtain⟨k,t,u⟩:=dC (gw.refl (sbqq:=b) an) (ah<|y j.eM) hn;go_in
   go_wp2;go_ret;refine⟨rfl,j,k,rfl,t,?_⟩;have x:=ae r;unfold bL SR.cells at x|-;simp only[g,hln]at x|-;exact x
  |true=>
   rw[hln]at C;have r:=HB;obtain⟨k,t,u⟩:=dC (gw.refl (sbqq:=b) an) (ah<|y j.eM) hn;go_in
   have V:=au a j k.ok t;go_wp2_with fail
   apply V.mono;rintro bh w8⟨rfl,K8,o,W,ac⟩;have f:=o.Af u<|ag D k.aw.size;have n:bL w8 b _ m:=r.aw o.aw u;have bm:aT w8 (R b 21)=H (aL bW):=n.cell (by rw[<-hln];rfl);have bp:w8.frozen? (R b 21)=bF:=n.free;obtain⟨bc,bb,bd,bf⟩:=gx ((k.trans<|gw.of o).set f 21<|aL bF) (n.WN bF) W ac;clear o W ac f n V;go_wp2;go_ret;refine⟨rfl,K8,bc,by rw[ae bd],by rw[ae bf];exact bA _,?_⟩;have x:=ae bb;unfold bL SR.cells at x|-;simp only[g]at x|-;exact x
 |true=>
  rw[g]at ao;cases hln:s.kj with
  |false=>
   rw[hln]at C;have hS:aT a.drew (R b 2)=H (aA s.aN)/\aT a.drew (R b 17)=H (aH s.log):=⟨c2,B⟩;go_in
   go_wp2_with fail
   rename_i QQ KK N;refine cJ (λw=>aT w (R b 2)=H (aA s.aN)/\aT w (R b 17)=H (aH s.log)) 10 (by kernel_rfl) ?_;refine dA 0 ?_;iterate 8 (refine fw (v:=?_) hS rfl (by kernel_rfl) jU rfl ?_ ?_;rotate_left;(focus(intro w hX;obtain⟨z0,z1⟩:=hX;go_simp;try rfl));simp only[Act.put,du,Nat.reduceAdd])
   apply eX;refine aP (i:=8) rfl rfl (by kernel_rfl) ?_;intro K8 K;go_simp;apply(vS s.log hl<|HP.aw (cf aB a) id).mono;rintro bh w1⟨rfl,Q⟩;have c:Y aB a w1:=(cf aB a).ci<|Y.aW (S:=aB) Q;have O:aT w1 (R b 2)=H (aA s.aN)/\aT w1 (R b 17)=H (aH s.log):=⟨c.cell c2 id D,c.cell B id D⟩;have ad:=av w1 j (an.aw c<|λ_ _=>id) rfl g;refine K _ _ (λ_=>O) ?_;refine aP (i:=9) rfl rfl (by kernel_rfl) ?_;intro K9 L;go_simp;apply ad.mono;rintro bh q⟨rfl,K2,e,al,X⟩;have bq:=c.size;have d:bL q b s m:=(HB.aw c id).aw e.aw hn;have P:aT q (R b 2)=H (aA s.aN)/\aT q (R b 17)=H (aH s.log):=⟨d.cell rfl,d.cell rfl⟩;refine L _ _ (λ_=>P) ?_;refine aP (i:=10) rfl rfl (by kernel_rfl) ?_;intro bk p;go_simp;refine p _ _ yR ?_;refine dp (by kernel_rfl) ?_ _;show KK _ _;apply N;have f:=e.Af hn (by omega);have F:rG a q s.aN j K2:=⟨e.ok,(c.mono (T:=j.bj s.aN) cG).trans e.aw<|λ_ h=>.inl h,λE A=>(e.bj E A).imp id<|λax=>by omega⟩;have bl:aT q (R b 20)=H (aL bW):=d.cell (by rw[<-g];rfl);have bo:q.frozen? (R b 20)=bF:=d.free;have l:=d.WO bF;have bn:aT (bZ q (R b 20)<|aL bF) (R b 21)=H (aL bF):=l.cell (by rw[<-hln];rfl);have e2:=bL.cellAt l 2 rfl;obtain⟨r,k,bg,t,u⟩:=jP l ((gw.of (sbqq:=b) F).set f 20<|aL bF) al (show y K2.eM<=y j.eM by rw[X];exact ah _) f;clear N K L p hS O P ad e al X d l f F c Q c2 B ao C;go_wp2;go_ret;refine⟨rfl,K2,k,bg,t,?_⟩;have x:=ae r;unfold bL SR.cells at x|-;simp only[g,hln]at x|-;exact x
  |true=>
   rw[hln]at C;have hS:aT a.drew (R b 2)=H (aA s.aN)/\aT a.drew (R b 17)=H (aH s.log):=⟨c2,B⟩;go_in
   go_wp2_with fail
   rename_i QQ KK N;refine cJ (λw=>aT w (R b 2)=H (aA s.aN)/\aT w (R b 17)=H (aH s.log)) 10 (by kernel_rfl) ?_;refine dA 0 ?_;iterate 8 (refine fw (v:=?_) hS rfl (by kernel_rfl) jU rfl ?_ ?_;rotate_left;(focus(intro w hX;obtain⟨z0,z1⟩:=hX;go_simp;try rfl));simp only[Act.put,du,Nat.reduceAdd])
   apply eX;refine aP (i:=8) rfl rfl (by kernel_rfl) ?_;intro K8 K;go_simp;apply(vS s.log hl<|HP.aw (cf aB a) id).mono;rintro bh w1⟨rfl,Q⟩;have c:Y aB a w1:=(cf aB a).ci<|Y.aW (S:=aB) Q;have O:aT w1 (R b 2)=H (aA s.aN)/\aT w1 (R b 17)=H (aH s.log):=⟨c.cell c2 id D,c.cell B id D⟩;have ad:=av w1 j (an.aw c<|λ_ _=>id) rfl g;refine K _ _ (λ_=>O) ?_;refine aP (i:=9) rfl rfl (by kernel_rfl) ?_;intro K9 L;go_simp;apply ad.mono;rintro bh q⟨rfl,K2,e,al,X⟩;have bq:=c.size;have d:bL q b s m:=(HB.aw c id).aw e.aw hn;have P:aT q (R b 2)=H (aA s.aN)/\aT q (R b 17)=H (aH s.log):=⟨d.cell rfl,d.cell rfl⟩;refine L _ _ (λ_=>P) ?_;refine aP (i:=10) rfl rfl (by kernel_rfl) ?_;intro bk p;go_simp;refine p _ _ yR ?_;refine dp (by kernel_rfl) ?_ _;show KK _ _;apply N;have f:=e.Af hn (by omega);have F:rG a q s.aN j K2:=⟨e.ok,(c.mono (T:=j.bj s.aN) cG).trans e.aw<|λ_ h=>.inl h,λE A=>(e.bj E A).imp id<|λax=>by omega⟩;have bl:aT q (R b 20)=H (aL bW):=d.cell (by rw[<-g];rfl);have bo:q.frozen? (R b 20)=bF:=d.free;have l:=d.WO bF;have bn:aT (bZ q (R b 20)<|aL bF) (R b 21)=H (aL bW):=l.cell (by rw[<-hln];rfl);have e2:=bL.cellAt l 2 rfl;obtain⟨r,k,bg,t,u⟩:=jP l ((gw.of (sbqq:=b) F).set f 20<|aL bF) al (show y K2.eM<=y j.eM by rw[X];exact ah _) f;clear N K L p hS O P ad e al X d l f F c Q c2 B ao C;have V:=au (bZ q (R b 20)<|aL bF) K2 k.ok t;go_wp2_with fail
   apply V.mono;rintro bh w8⟨rfl,K8,o,W,ac⟩;have f:=o.Af u<|ag D k.aw.size;have n:bL w8 b _ m:=r.aw o.aw u;have bm:aT w8 (R b 21)=H (aL bW):=n.cell (by rw[<-hln];rfl);have bp:w8.frozen? (R b 21)=bF:=n.free;obtain⟨bc,bb,bd,bf⟩:=gx ((k.trans<|gw.of o).set f 21<|aL bF) (n.WN bF) W ac;clear o W ac f n V;go_wp2;go_ret;refine⟨rfl,K8,bc,by rw[ae bd];exact bg,by rw[ae bf];exact bA _,?_⟩;have x:=ae bb;unfold bL SR.cells at x|-;simp only[g]at x|-;exact x
section
open Go.Conc.Locks
def SR.shut(s:SR):SR:={s with closed:=bW,memory:=aK,l0:=aK,l1:=aK,l2:=aK,l3:=aK,lT:=none}
def UW(h:bL a b n 0)(e:n.closed=bW):cy bG 22 #[aA b] a λl d=>l=aO (lE 6)/\bL d b n 0/\Y (λk=>k=b) a d:=by
 have i:=bL.cellAt h 0 rfl;have m:a.frozen? (R b 0)=bF:=h.free;have c:=h.gO 1;have c5:aT (bZ a (R b 0)<|jk 1) (R b 5)=H (aL bW):=c.cell (by rw[<-e];rfl);have j:=bL.cellAt c 0 rfl;have o:(bZ a (R b 0)<|jk 1).frozen? (R b 0)=bF:=c.free;have g:=U<|show bL (bZ (bZ a (R b 0)<|jk 1) (R b 0)<|jk 0) b n 0/\Y (λk=>k=b) a (bZ (bZ a (R b 0)<|jk 1) (R b 0)<|jk 0)from⟨c.gO 0,((Y.refl (λk=>k=b) a).setCell b 0 _<|.inl rfl).setCell b 0 _<|.inl rfl⟩;clear h c e;go_enter_defers func22,ntmps22
 go_wp2_with(go_at_call 39;refine(lock_free (R b 0) _ i m).mono ?_;rintro l d⟨rfl,rfl⟩)
 refine eY (f:=40) (args:=#[aA b]) (by simp) (by simp[go_sem]) ?_;apply(unlock_deferred (R b 0) .returning _ j o).mono;rintro l q p⟨rfl,rfl,rfl⟩;exact⟨_,gK rfl _ _ _,rfl,g⟩
def Sp(h:bL a b n 0)(hc:n.closed=bF)(ac:∃C A o,n.memory=J C A o)(S:∃C A o,n.l0=J C A o)(T:∃C A o,n.l1=J C A o)(V:∃C A o,n.l2=J C A o)(W:∃C A o,n.l3=J C A o)(hd:cK a n.aN j)(t:¬j.bj n.aN b)(hp:Pow a)(al:b≠2)(hl:n.log<18446744073709551616)(hf:n.km=bW->∃bs,dX (vw j.files) (iM n.log)=H bs/\y bs<=1000000000000)(hm:y j.eM<=1000000000000):cy bG 22 #[aA b] a λx B=>x=aO .nilIface/\∃m,gw a B n.aN b j m/\vw m.files=vw j.files/\y m.eM<=y j.eM/\bL B b {n.shut with km:=bF,kj:=bF} 0:=by
 have c0:=bL.cellAt h 0 rfl;have f0:a.frozen? (R b 0)=bF:=h.free;obtain⟨d,g⟩:∃d,bZ a (R b 0) (jk 1)=d:=⟨_,rfl⟩;have c:bL d b n 1:=by rw[<-g];exact h.gO 1
 have v:Y (λao=>ao=b) a d:=by rw[<-g];exact(Y.refl (λao=>ao=b) a).setCell b 0 _<|.inl rfl
 have c5:aT d (R b 5)=H (aL bF):=c.cell (by rw[<-hc];rfl);have c6:=bL.cellAt c 6 rfl;have c7:=bL.cellAt c 7 rfl;have N:=bL.cellAt c 10 rfl;have O:=bL.cellAt c 11 rfl;have P:=bL.cellAt c 12 rfl;have Q:=bL.cellAt c 13 rfl;have au:=bL.cellAt c 16 rfl;have bc:d.frozen? (R b 16)=bF:=c.free;have g5:d.frozen? (R b 5)=bF:=c.free;have g7:d.frozen? (R b 7)=bF:=c.free;have av:d.frozen? (R b 10)=bF:=c.free;have ax:d.frozen? (R b 11)=bF:=c.free;have ba:d.frozen? (R b 12)=bF:=c.free;have bb:d.frozen? (R b 13)=bF:=c.free;obtain⟨q,k⟩:∃q,bZ (bZ (bZ (bZ (bZ (bZ (bZ d (R b 5)<|aL bW) (R b 7) aK) (R b 10) aK) (R b 11) aK) (R b 12) aK) (R b 13) aK) (R b 16) (.map none)=q:=⟨_,rfl⟩;have X:bL q b n.shut 1:=by have hh:=aR (i:=16) (u:=.map none)<|aR (i:=13) (u:=aK)<|aR (i:=12) (u:=aK)<|aR (i:=11) (u:=aK)<|aR (i:=10) (u:=aK)<|aR (i:=7) (u:=aK)<|aR (i:=5) (u:=aL bW) c;rw[k]at hh;exact hh
 have e:Y (λao=>ao=b) a q:=by rw[<-k];exact((((((v.setCell b 5 _<|.inl rfl).setCell b 7 _<|.inl rfl).setCell b 10 _<|.inl rfl).setCell b 11 _<|.inl rfl).setCell b 12 _<|.inl rfl).setCell b 13 _<|.inl rfl).setCell b 16 _<|.inl rfl
 have s:=Aj X (hd.aw e<|λao hk x=>t<|x▸hk) t (hp.aw e<|λx=>al x.symm) hl hf hm;obtain⟨E,D,F,K,L⟩:=jP X (hd.aw e<|λao hk x=>t<|x▸hk) e g k;obtain⟨mx,mn,mc,em⟩:=ac;obtain⟨bi,bh,bg,ea⟩:=S;obtain⟨bx,bn,bk,eb⟩:=T;obtain⟨cx,cn,cc,ec⟩:=V;obtain⟨dx,dn,dc,ed⟩:=W;rw[em]at c7;rw[ea]at N;rw[eb]at O;rw[ec]at P;rw[ed]at Q;clear h c v hc hd hp hf X e g k em ea eb ec ed;go_enter_defers func22,ntmps22
 go_wp2_with fail
 apply(lock_free (R b 0) _ c0 f0).mono;rintro x B⟨rfl,an⟩;rw[ae K]at an;subst B;go_wp2_with fail
 rw[ae L];apply s.mono;rintro x w2⟨rfl,K2,p,w,r,l⟩;have d0:=bL.cellAt l 0 rfl;have k0:w2.frozen? (R b 0)=bF:=l.free;have HF:=U (show∃m,gw a (bZ w2 (R b 0)<|jk 0) n.aN b j m/\vw m.files=vw j.files/\y m.eM<=y j.eM/\bL (bZ w2 (R b 0)<|jk 0) b {n.shut with km:=bF,kj:=bF} 0 from by have bd:=ak E;have ad:¬K2.bj n.aN b:=λo=>(p.bj b o).elim t (λd=>by omega);have h0:gw a q n.aN b j j:=⟨D,F.mono<|λ_ o=>.inl<|.inr o,λ_ o=>.inl o⟩;exact⟨K2,(h0.trans p).set ad 0<|jk 0,w,r,l.gO 0⟩);clear s l p w r t;go_wp2;refine eY (f:=40) (args:=#[aA b]) (by simp) (by simp[go_sem]) ?_;apply(unlock_deferred (R b 0) .returning _ d0 k0).mono;rintro x u' bf⟨rfl,rfl,rfl⟩;exact⟨_,gK rfl _ _ _,rfl,HF⟩
end
def vh(a:Fs)(b:cr ab):Fs:=b.foldl vi a
def Jk{a:Fs}(h:W≠v):dX (vi a v) W=dX a W:=by
 induction a with
 |nil=>rfl
 |cons g r d=>
  obtain⟨c,f⟩:=g;by_cases e:c=v
  .simp only[vi,e,je,dX];rw[cW<|λc=>h c.symm]
  .by_cases b:c=W
   .subst b;simp only[vi,cW h,dX,je]
   .simp only[vi,cW e,dX,cW b,d]
def Ol(a:Fs)(b:cr ab)(n:ab):vh a (b++[n])=vi (vh a b) n:=by simp[vh]
def tj{a:Fs}{b:cr ab}(h:v∉b):dX (vh a b) v=dX a v:=by
 induction b generalizing a with
 |nil=>rfl
 |cons n r d=>
  show dX (vh (vi a n) r) v=dX a v;rw[d (λc=>h<|by simp[c]),Jk<|λc=>h<|by simp[c]]
def DP{K:DK}(ax:aa)(c:cr ab)(h:bL a b n m)(B:cK a n.aN K)(W:¬K.bj n.aN b)(hr:Row a 1 ax (y c) (c.map Value.string))(X:∀av,bV ax=H av->av<z (G a)/\¬K.bj n.aN av)(l:c.Nodup)(o:∀bf∈c,∃V,dX (vw K.files) bf=H V)(hm:y K.eM+y c<=1000000000000):cy bG 100 #[aA b,ax] a λbb w'=>bb=aO .nilIface/\∃S,rG a w' n.aN K S/\vw S.files=vh (vw K.files) c/\y S.eM=y K.eM+y c:=by
 have au:=ak h;rcases hr with⟨x,⟨rfl,h0⟩|⟨ba,p,ad,rfl,an,hc⟩⟩;(.obtain rfl:=aQ h0;have q:=U<|rG.refl B;clear h B W X l o x h0;(go_in);go_wp2;(go_loopw [10] (λC wr=>C=ap 0/\wr=a) (λ_ _=>0));(case atStart=>exact⟨rfl,rfl⟩);(case round=>obtain⟨rfl,d⟩:=hrel;subst wr;go_wp2;go_ret;exact⟨rfl,K,q,rfl,rfl⟩));(.have hb:=X ba rfl;obtain⟨HB,HC,HN,O,P,D⟩:=kG h hc W l o<|rG.refl B;clear h B W X l o x hc;(go_in);go_wp2;(go_loopw [10] (λC wr=>∃(f:M)(j:DK),f<=y c/\C=ap f/\rG a wr n.aN K j/\vw j.files=vh (vw K.files) (c.take f)/\y j.eM=y K.eM+f) (λC _=>y c-(intOf C).toNat));(case atStart=>exact⟨0,K,bA _,rfl,D,rfl,rfl⟩);(case round=>obtain⟨f,j,ao,rfl,k,d,g⟩:=hrel;by_cases e:f<y c;(.have al:aT wr (R ba<|p+f)=H (ai c[f]):=k.aw.cell (HC f _ (by rw[dz,aG e];rfl)) hb.2 hb.1;have s:=HB.aw k.aw HN;have c2:=bL.cellAt s 2 rfl;(have i:c[f]∉c.take f:=by intro bd;obtain⟨C,hi,he⟩:=dO bd;(have v:C<f/\C<y c:=by simp at hi;omega);rw[gq]at he;have:=(List.nodup_iff_pairwise_ne.1 O);exact cw.1 this C f v.2 e v.1 he);obtain⟨V,r⟩:=P _<|aq e;(have hg:dX (vw j.files) c[f]=H V:=by rw[d,tj i];exact r);obtain⟨bc,hF,_⟩:=js hg;have A:=Nq c[f] bc k.ok hF (by omega);obtain⟨Q,q,N⟩:=dC (show vh (vw K.files) (c.take<|f+1)=vi (vw j.files) c[f]by rw[aj e,Ol,d]) k g;clear k d g s i hg hF r;generalize c[f]=ac at*;(go_wp2_with fail);apply A.mono;rintro bb w1⟨rfl,T,t,u,w⟩;obtain⟨E,F,L⟩:=dC (q.trans t) (show vw T.files=vh (vw K.files) (c.take<|f+1)by rw[ae Q,u,SN]) (show y T.eM=y K.eM+(f+1)by rw[w,ae N];omega);clear t u w A;go_wp2;go_roundw;(case rel=>exact⟨f+1,T,e,by go_num,E,F,L⟩);case measure=>simp[intOf];omega);(have i:f=y c:=by omega);subst i;rw[bP]at d;obtain⟨q,s,r⟩:=dC k d g;clear k d g;go_wp2;go_ret;exact⟨rfl,j,q,s,r⟩))
