import Derived.Test.YtceammfgahaodaaGreatDoorC10
import Derived.Test.YtceammfgahaodaaGreatDoorC11
open _root_ renaming List.length→z,Option.some→M,Array.size→G,Go.World.heap→H,Go.Value.ownBlock→bY,Go.World.cell?→aS,Go.World.setCell→ct,Go.World.alloc→cF,Bool.false→bF,Bool.true→bX,Nat→R,Int→Y,List→cD,Go.Calls→cA,Go.undef→iE,Go.Proofs.Tryz.prog→bG,Go.Value.slice→ah,Go.Value.string→aj,Go.Value.bool→aO,Go.Value.pointer→fA,Go.Value.tuple→dE,Go.Value.agg→eB
namespace Go.Proofs.YtceammfgahaodaaGreatDoor
open ChangeShapes WideShapes RowKit Proofs.Tryz
set_option maxHeartbeats 16000000
set_option linter.all false
set_option maxRecDepth 100000
variable{a f B:I}{b c g l y P:R}{d t L V:aa}{e K:cK}{i p r s:cR}{j N:DK}{k:dX}{m:Y}{n:SR}{o:eP}{X:fN}{v:ab}{w:E}{x:jd}{C:Bool}{O:bJ}{S:Type}{T:Array aa}
structure FC(t:bJ):Prop where
 ks:t.ks=bO 0 t.cs
 pure:tQ t.ks t.cs
 idx:Kg (bO 0 t.cs)
 small:z (dL t.cs)<=100000
 num:t.num<18446744073709551616
structure Tl(fs:Fs)(nx lg tb:R)(a b c d:cR)(gF:Bool)(ls:dX):Prop where
 names:∀n bs,ew fs n=M bs->n=gY\/(n=iU lg/\gF=bX)\/∃t∈a++b++c++d,n=gP t.num
 state:ew fs gY=M (iM nx lg tb [a,b,c,d])\/(ew fs gY=none/\a=[]/\b=[]/\c=[]/\d=[]/\nx=2/\lg=1/\tb=0)
 log:gF=bX->ew fs (iU lg)=M (lY ((tb:Y)+1) ls)
 Hc:gF=bF->ls=[]
 zr:∀t∈a++b++c++d,ew fs (gP t.num)=M (mS t.cs)
 zF:((a++b++c++d).map bJ.num).Nodup
 low:∀t∈a++b++c++d,t.num<nx/\t.num≠lg
 lt:lg<nx
 jb:∀t∈a++b++c++d,FC t
def yA:∀{l m:cD ab},l.Nodup->(∀x∈l,x∈m)->z l<=z m
 |[],_,_,_=>bB _
 |x::l,m,b,e=>by
  rw[kP]at b;obtain⟨m1,m2,rfl⟩:=sS (e x<|by simp);have f:∀a∈l,a∈m1++m2:=λa c=>by
   have:=e a (by simp[c]);simp only[ap,aD]at this|-;rcases this with d|d|d
   .exact .inl d
   .rw[d]at c;exact absurd c b.1
   .exact .inr d
  have g:=yA b.2 f;simp only[aC,af]at g|-;omega
def rU{a:Fs}(h:v∈a.map (·.1)):∃d,ew a v=M d:=by
 induction a with
 |nil=>simp at h
 |cons f r b=>
  unfold ew;by_cases e:f.1=v
  .exact⟨f.2,by rw[dt e]⟩
  .rw[dh e];refine b ?_;rw[aZ,aD]at h;rcases h with c|c
   .exact absurd c.symm e
   .exact c
def LG{a:Fs}(h:ew a v=M o):v∈a.map (·.1):=bz.2 ⟨_,xX h,rfl⟩
def JF{a:Fs}(h:v∉a.map (·.1)):ew a v=none:=by
 cases c:ew a v with
 |none=>rfl
 |some b=>exact absurd (LG c) h
def wo{a:Fs}(b:(a.map (·.1)).Nodup){f:ab×eP}(h:f∈a):ew a f.1=M f.2:=by
 induction a with
 |nil=>cases h
 |cons g r d=>
  rw[aZ,kP]at b;unfold ew;rcases aD.1 h with c|c
  .subst c;rw[dt rfl]
  .have:g.1≠f.1:=λe=>b.1 (by rw[e];exact ie c);rw[dh this];exact d b.2 c
def OU(a:Fs)(n:ab):((vA a n).map (·.1)).Sublist (a.map (·.1)):=by
 induction a with
 |nil=>exact eF _
 |cons f r b=>
  unfold vA;split
  .exact qe _ _
  .rw[aZ,aZ];exact b.cons_cons _
def SD{a:Fs}(b:(a.map (·.1)).Nodup)(n:ab):ew (vA a n) n=none:=by
 induction a with
 |nil=>rfl
 |cons f r c=>
  rw[aZ,kP]at b;unfold vA;by_cases e:f.1=n
  .rw[dt e];exact JF (by rw[<-e];exact b.1)
  .rw[dh e];unfold ew;rw[dh e];exact c b.2
def OT{a:Fs}(c:(a.map (·.1)).Nodup){b:cD ab}(h:v∈b):ew (vz a b) v=none:=by
 induction b generalizing a with
 |nil=>cases h
 |cons m r g=>
  have f:((vA a m).map (·.1)).Nodup:=c.sublist<|OU a m;show ew (vz (vA a m) r) v=none;by_cases d:v∈r
  .exact g f d
  .rw[tG d];rcases aD.1 h with e|e
   .rw[e];exact SD c m
   .exact absurd e d
def OR{a:Fs}(d:(a.map (·.1)).Nodup){b:cD ab}(h:ew (vz a b) v=M o):v∉b/\ew a v=M o:=by
 by_cases c:v∈b;rw[OT d c]at h;cases h;rw[tG c]at h;exact⟨c,h⟩
def Hr(s:ab)(a S:R):∀{b:Fs},(b.map (·.1)).Nodup->(∀f∈b,f.1≠s->z f.2<=a)->(∀f∈b,f.1=s->z f.2<=S)->iy b<=z b*a+S
 |[],_,_,_=>by simp[iy]
 |f::r,e,d,i=>by
  rw[aZ,kP]at e;have h:iy (f::r)=z f.2+iy r:=by simp[iy]
  rw[h,aC,xe,Nat.one_mul];by_cases l:f.1=s
  .have m:iy r<=z r*a:=by
    have:∀{b:Fs},(∀f∈b,z f.2<=a)->iy b<=z b*a:=by
     intro b;induction b with
     |nil=>intro _;simp[iy]
     |cons g q n=>
      intro k;have h:iy (g::q)=z g.2+iy q:=by simp[iy]
      have j:=n (λf a=>k f<|by simp[a]);have o:=k g (by simp);rw[h,aC,xe,Nat.one_mul];omega
    exact this<|λg c=>d g (by simp[c])<|λh=>e.1 (by rw[l,<-h];exact ie c)
   have j:=i f (by simp) l;omega
  .have m:=Hr s a S e.2 (λg c=>d g<|by simp[c]) (λg c=>i g<|by simp[c]);have j:=d f (by simp) l;omega
def QI(c b a:Y)(d e f g:cR):z (iM c b a [d,e,f,g])=44+20*z (d++e++f++g):=by
 unfold iM;rw[gC];simp only[aZ,fi,aX,fR,dO,af,pR,cq];omega
def Tl.total{d:Fs}(j:Tl d b c g i p r s C k)(h:(d.map (·.1)).Nodup)(u:z (lY ((g:Y)+1) k)<=200000)(y:z (i++p++r++s)<=1000000):iy d<=201000000000:=by
 have v:z d<=z (i++p++r++s)+2:=by
  have:=yA (m:=gY::iU c::(i++p++r++s).map (λt=>gP t.num)) h (λo l=>by
   obtain⟨a,n⟩:=rU l;rcases j.names o a n with e|⟨e,_⟩|⟨t,f,e⟩
   .rw[e];simp
   .rw[e];simp
   .rw[e];exact aJ _ (aJ _ (bz.2 ⟨t,f,rfl⟩)))
  simp only[cV,aC]at this;omega
 have w:=Hr gY 200000 21000000 h (λc l o=>by
  have a:=wo h l;rcases j.names _ _ a with e|⟨e,n⟩|⟨t,f,e⟩
  .exact absurd e o
  .have:=j.log n;rw[<-e,a]at this;rw[dF this];exact u
  .have:=j.zr t f;rw[<-e,a]at this;rw[dF this];exact Mw (j.jb t f).idx (j.jb t f).small) (λc l q=>by
  have a:=wo h l;rw[q]at a;rcases j.state with e|⟨e,_⟩
  .rw[a]at e;rw[dF e,QI];omega
  .rw[a]at e;cases e)
 have x:z d*200000<=1000002*200000:=kA _ (by omega);omega
def cU.nodup(k:cU a b j):((vw j.files).map (·.1)).Nodup:=by
 obtain⟨e,d,_,h,i⟩:=k.now;have f:e.toList.map (·.key)=(j.files.map dp.nm).map (λp=>aj p.1):=by have:=bW (List.map Prod.fst) h;simpa[iZ,nE]using this
 have c:=i.2.2;rw[f]at c;have g:(vw j.files).map (·.1)=(j.files.map dp.nm).map (·.1):=by simp[vw,dp.nm,iZ,nE]
 rw[g];rw[iZ]at c|-;unfold List.Nodup at c|-;rw[jw]at c|-;exact c.imp<|λd e=>d (by simp only[Function.comp]at*;rw[e])
theorem Sl{c:dX}(k:∀g∈c,∀x∈g,x.Good):kG (dL c):=by
 induction c with
 |nil=>intro x h;simp[dL]at h
 |cons g r j=>
  rw[pt];exact((Mh<|k g<|by simp).append<|kG.le 4 _).append<|j<|λh c=>k h<|by simp[c]
theorem WJ{w:I}(j l m n:Option Addr)(h c1 c2 c3:R)(o p q r:cR)(A:Row w 1 (ah j (z o) h) (z o) (o.map bJ.ptr))(B:Row w 1 (ah l (z p) c1) (z p) (p.map bJ.ptr))(C:Row w 1 (ah m (z q) c2) (z q) (q.map bJ.ptr))(D:Row w 1 (ah n (z r) c3) (z r) (r.map bJ.ptr))(u:∀k,bY (ah j (z o) h)=M k->k<G (H w))(v:∀k,bY (ah l (z p) c1)=M k->k<G (H w))(x:∀k,bY (ah m (z q) c2)=M k->k<G (H w))(y:∀k,bY (ah n (z r) c3)=M k->k<G (H w))(E:z (o++p++q++r)<=10000000):Du (cF w<|aw #[ah j (z o) h,ah l (z p) c1,ah m (z q) c2,ah n (z r) c3] 107) (G<|H w) 0 [(ah j (z o) h,o),(ah l (z p) c1,p),(ah m (z q) c2,q),(ah n (z r) c3,r)]:=by
 have c:J az w (cF w<|aw #[ah j (z o) h,ah l (z p) c1,ah m (z q) c2,ah n (z r) c3] 107):=(cI _ _);have t:(cF w<|aw #[ah j (z o) h,ah l (z p) c1,ah m (z q) c2,ah n (z r) c3] 107).heap[G<|H w]?=M (aw #[ah j (z o) h,ah l (z p) c1,ah m (z q) c2,ah n (z r) c3] 107 (0,0)):=aE _ rfl;refine⟨rfl,λi s=>?_,λi s=>?_,λi s=>?_,by rw[QB];omega⟩;(have:i=0\/i=1\/i=2\/i=3:=by simp at s;omega);rcases this with rfl|rfl|rfl|rfl<;>(rw[bL t];rfl);(have:i=0\/i=1\/i=2\/i=3:=by simp at s;omega);rcases this with rfl|rfl|rfl|rfl;exact c.row A<|λk g=>⟨id,u k g⟩;exact c.row B<|λk g=>⟨id,v k g⟩;exact c.row C<|λk g=>⟨id,x k g⟩;exact c.row D<|λk g=>⟨id,y k g⟩;(have:i=0\/i=1\/i=2\/i=3:=by simp at s;omega);rcases this with rfl|rfl|rfl|rfl;exactλk g=>ag (u k g) c.size;exactλk g=>ag (v k g) c.size;exactλk g=>ag (x k g) c.size;exactλk g=>ag (y k g) c.size
section
variable{w wr w2:I}{db sbqq baseqq:R}{K d f:DK}{e:cR}{ps:cD NT}{T us:cR}{a b i num:R}
theorem CM.free(r:CF w db sbqq baseqq K e ps T a b)(j:CM w db sbqq baseqq K e ps T a b wr d us i num):ew (vw d.files) (gP num)=none:=by
 obtain⟨k,g,h⟩:=j.files;rw[g,jN,r.fresh num j.qS.1,mB];cases c:ew k (gP num)with
 |none=>rfl
 |some v=>
  obtain⟨u,l,o,m⟩:=h _<|xX c;simp only[hZ]at o;have s:=vg o.1;rcases j.Qq u l with n|⟨q,t,_,_,_,n⟩
  .have:=r.low u n;omega
  .omega
theorem CM.write(n:CF w db sbqq baseqq K e ps T a b)(g:CM w db sbqq baseqq K e ps T a b wr d us i num)(N:i<z T){p:NT}(s:p∈ps)(l:p.t=T[i]):cA bG 140 #[aA<|T[i].tb,aA db,aL num] wr λS O=>S=aP .nilIface/\∃t B,CM w db sbqq baseqq K e ps T a b O t B (i+1) (num+1):=by
 have c:=g.rest p s (by rw[l,<-kZ N];exact dC);have k:=(n.news p s).2;have o:num<18446744073709551616:=by have:=g.qS.2;have:=n.nx;have:=n.small;omega
 have m:iy (vw d.files)+200000<=1099511627776:=by have D:=g.qK;have E:=n.room;have F:=n.small;have L:i*200000<=1000000*200000:=kA _ (by omega);omega
 have q:=(n.news p s).1.lt;have j:∀r,p.has r->¬d.bw db r:=λr A V=>by rcases g.bw r V with C|C;have:=n.bw r C;have:=(q r A).1;omega;have:=(q r A).2;omega
 have v:p.bb≠p.t.tb:=by obtain⟨u,y⟩:=fK c.Gq (k:=p.bb) rfl;exact iA y c.mem.box<|by decide
 have x:p.bb≠p.x:=by obtain⟨u,y⟩:=fK c.Gq (k:=p.bb) rfl;obtain⟨C,A⟩:=fK c.data (k:=p.x) rfl;exact iA y A<|by decide
 have h:=c.mem;rw[c.ks]at h;rw[<-l];refine(IC num o p.x p.Gm p.t.cs h c.data (by have:=n.le;have:=g.ay.size;omega) k.idx (Sl k.pure.jb) g.steps g.pow k.small g.aN (g.free n) (by have:=g.eU;have:=n.eU;have:=n.small;omega) m (j _<|.inr<|.inr rfl) (j _<|.inl rfl) (j _<|.inr<|.inl rfl) v x).mono ?_;rintro S O⟨rfl,t,D,E,F,L,P,Q⟩;exact⟨rfl,t,_,g.wrote n N s l D E F L P Q o⟩
end
def SR.settled(s:SR)(a b c d:aa)(n num:R):SR:={s with memory:=aG,ir:=0,bj:=n,l0:=a,l1:=b,l2:=c,l3:=d,next:=num+1,log:=num,gF:=bF,vP:=bF,kC:=bF,kB:=bF}
def XI{m:cR}(n:i.map (λt=>(t.tb,t.ks,t.cs))=(p++r++s++m).map (λt=>(t.tb,t.ks,t.cs))):∃a b c d,i=a++b++c++d/\a.map (λt=>(t.tb,t.ks,t.cs))=p.map (λt=>(t.tb,t.ks,t.cs))/\b.map (λt=>(t.tb,t.ks,t.cs))=r.map (λt=>(t.tb,t.ks,t.cs))/\c.map (λt=>(t.tb,t.ks,t.cs))=s.map (λt=>(t.tb,t.ks,t.cs))/\d.map (λt=>(t.tb,t.ks,t.cs))=m.map (λt=>(t.tb,t.ks,t.cs)):=by
 rw[aQ,aQ,aQ]at n;obtain⟨x,d,rfl,e,f⟩:=iF.1 n;obtain⟨l,c,rfl,g,h⟩:=iF.1 e;obtain⟨a,b,rfl,j,k⟩:=iF.1 g;exact⟨a,b,c,d,rfl,j,k,h,f⟩
def lw(h:i.map (λt=>(t.tb,t.ks,t.cs))=p.map (λt=>(t.tb,t.ks,t.cs))):i.map bJ.ptr=p.map bJ.ptr/\z i=z p/\i.map bJ.all=p.map bJ.all/\cr i=cr p:=by
 have a:=bW (List.map (λe:R×mU×dX=>fA<|M<|U e.1 0)) h;have d:=bW z h;have b:=bW (List.map (λe:R×mU×dX=>e.2.2.flatten)) h;simp only[iZ,nE]at a b;have c:i.map bJ.all=p.map bJ.all:=b;refine⟨a,by simpa using d,c,?_⟩;unfold cr;rw[c]
def Xt(w i:I)(a:R)(s:SR)(k:Y)(b v o:R)(K:DK)(m:cD NT)(x y A B:aa)(p q r u l:cR):Prop:=∃(n wr:I)(j c:DK)(h d e f g:cR)(num:R),J az w n/\CM n s.aN a b K l m (p++q++r++u) s.next o wr j h (z<|p++q++r++u) num/\h=d++e++f++g/\d.map (λt=>(t.tb,t.ks,t.cs))=p.map (λt=>(t.tb,t.ks,t.cs))/\e.map (λt=>(t.tb,t.ks,t.cs))=q.map (λt=>(t.tb,t.ks,t.cs))/\f.map (λt=>(t.tb,t.ks,t.cs))=r.map (λt=>(t.tb,t.ks,t.cs))/\g.map (λt=>(t.tb,t.ks,t.cs))=u.map (λt=>(t.tb,t.ks,t.cs))/\bM i a (s.settled x y A B v num) k/\cU i s.aN c/\vw c.files=vz (tC (vw j.files) (gY,iM ((num:Y)+1) num v [d,e,f,g])) (pP s l h)/\((tC (vw j.files) (gY,iM ((num:Y)+1) num v [d,e,f,g])).map (·.1)).Nodup/\z c.eU=z (pP s l h)/\(∀k,k<G (H w)->¬K.bw s.aN k->k≠a->i.heap[k]?=wr.heap[k]?)/\J (λk=>Wr s.aN K m k\/k=a) w i/\(∀k,c.bw s.aN k->K.bw s.aN k\/G (H w)<=k)
def ME{s:SR}(e st bv B0:R)(ps:cD NT)(v0 v1 v2 v3:aa)(eg ei bg ej a0 b0 c0 d0:cR)(h:bM a b s m)(hL:LS a s.aN b e j (a0++b0++c0++d0) ps st v0 v1 v2 v3 eg ei bg ej)(hF:∀bn,J az a bn->CF bn s.aN b e j (a0++b0++c0++d0) ps (eg++ei++bg++ej) s.next B0)(la:Du a b 10 [(s.l0,a0),(s.l1,b0),(s.l2,c0),(s.l3,d0)])(qv:cU a s.aN j)(hB:¬j.bw s.aN b)(sx:bv<1000000000000000)(pd:s.log<18446744073709551616)(sb:z (a0++b0++c0++d0)<=1000000)(ds:∀bv he,ew (vw j.files) bv=M he->bv≠vh)(bl:∃mC bv bg,s.memory=ah mC bv bg)(kz:∀bo,bo=s.l0\/bo=s.l1\/bo=s.l2\/bo=s.l3->∀m,bY bo=M m->Kc s.aN b e j m)(dc:∀us,(pP s (a0++b0++c0++d0) us).Nodup/\∀bv∈pP s (a0++b0++c0++d0) us,bv≠gY/\∃he,ew (vw j.files) bv=M he):cA bG 89 #[aA b,eB #[v0,v1,v2,v3],aL bv] a λcM w'=>cM=aP .nilIface/\Xt a w' b s m e bv B0 j ps v0 v1 v2 v3 eg ei bg ej (a0++b0++c0++d0):=by
 obtain⟨x0,y,rfl⟩:=bS hL.r0;obtain⟨x1,A,rfl⟩:=bS hL.r1;obtain⟨x2,B,rfl⟩:=bS hL.r2;obtain⟨x3,C,rfl⟩:=bS hL.r3;have qs:=hL.count;have hw:z (eg++ei++bg++ej)<=1000000:=by simp only[af];omega
 have hy:=WJ x0 x1 x2 x3 y A B C eg ei bg ej hL.r0 hL.r1 hL.r2 hL.r3 (λm d=>(hL.b0 m d).1) (λm d=>(hL.b1 m d).1) (λm d=>(hL.b2 m d).1) (λm d=>(hL.b3 m d).1) (by omega);obtain⟨WB,es⟩:∃WB,cF a (aw #[ah x0 (z eg) y,ah x1 (z ei) A,ah x2 (z bg) B,ah x3 (z ej) C] 107)=WB:=⟨_,rfl⟩;rw[es]at hy;obtain⟨ca,mE⟩:∃ca,eg++ei++bg++ej=ca:=⟨_,rfl⟩;have cT:=sw _ hy;rw[PQ,QB,mE]at cT;have hH:J az a WB:=by rw[<-es];exact(cI _ _)
 have jG:WB.heap[G<|H a]?=M (aw #[ah x0 (z eg) y,ah x1 (z ei) A,ah x2 (z bg) B,ah x3 (z ej) C] 107 (0,0)):=by rw[<-es];exact aE _ rfl
 have kv:=(hH.block b (am h) id).trans h;have rM:=bM.cellAt kv 14 rfl;rw[mE]at hF hw;obtain⟨HH,g,HF,nq,hM,iu,ch,el,nc⟩:=xS h hL hF hH jG mE la kz dc;obtain⟨sp,sn,sl,bl⟩:=bl;have nf:=Z bl;clear h hL hF hy hH jG kv mE la kz dc bl;go_in
 go_wp2_with fail
 apply cT.mono;rintro cM w1⟨ss,rfl,hA,hE⟩;obtain⟨xT,sv,pn⟩:=aB hA;subst pn;have w:J az a w1:=nq.cw hE;have hp:=HF w1 w;have jI:=qv.ay w<|λ_ _=>id;have jH:=CM.start hp (λbh h0=>(g.vi bh h0).Sd<|λm d=>w.block m (by have:=d.1;have:=g.le;omega) id) jI (λm d=>w.cell (g.steps m d) id (by have:=g.fC.1;have:=g.le;omega))<|g.pow.ay w id;obtain⟨hX,fx,au,nb,cc,cb,nx⟩:=wI hA w hp jH ((w.block b (am HH) id).trans HH) ((hE.block (G<|H a) (am hM) id).trans hM) (show G (H a)+1=G (H WB)by rw[<-es];simp);clear hA hE w hp jH cT jI qv;go_wp2_with fail
 go_loopw [7,22] (λee gA wr=>∃(ef num:R)(KR:DK)(us:cR),gA=aq ef/\ee=aL num/\CM w1 s.aN b e j (a0++b0++c0++d0) ps ca s.next B0 wr KR us ef num) (λ_ gA _=>z ca-(intOf gA).toNat)
 case atStart=>exact⟨0,s.next,j,[],rfl,rfl,nb⟩
 case round=>
  obtain⟨ef,num,KR,us,rfl,rfl,l⟩:=hrel;have rT:=g.le;have rs:=g.KM;have bu:∀m,G (H a)<=m->¬Wr s.aN j ps m:=by
   rintro m d(bg|⟨bT,W,bg|bg⟩)
   .have:=g.bw m bg;omega
   .have:=((g.news bT W).1.lt m<|.inl bg).2;omega
   .have:=((g.news bT W).1.lt m<|.inr<|.inr bg).2;omega
  have lo:¬Wr s.aN j ps b:=by
   rintro(bg|⟨bT,W,bg|bg⟩)
   .exact hB bg
   .have:=((g.news bT W).1.lt b<|.inl bg).1;omega
   .have:=((g.news bT W).1.lt b<|.inr<|.inr bg).1;omega
  have sc:=ae nx;have bd:=(l.ay.block b (am cc) lo).trans cc;by_cases dk:ef<z ca
  .have c:=l.ay.own hX<|λm d=>bu m (by have:=(hX.lt m d).1;omega);obtain⟨t,E,u⟩:∃t,xT=M (U t 0)/\aS wr (U t ef)=M ca[ef].ptr:=by
    rcases c.2 with⟨h2,h0⟩|⟨x,i,nO,h2,_⟩
    .omega
    .cases h2;refine⟨x,rfl,?_⟩;have:=pK c ef ca[ef].ptr (by rw[dD,aK dk];rfl);rwa[dB,cZ]at this
   subst E;unfold bJ.ptr at u;have e1:(ef:Y)<(z ca:Y):=by omega
   rcases au.xt ca[ef] (ar dk)with h0|⟨bT,W,f⟩
   .obtain⟨hI,al,n,hm,_⟩:=(l.Df ca[ef] h0).mem;have i:=Cf _ hm;have HM:=Z<|l.skip au dk h0;clear l c bd hm h0 bu;generalize ca[ef].tb=p at*;go_wp2_with fail
    apply i.mono;rintro cM L⟨rfl,D⟩;subst L;clear i;go_wp2;go_roundw;case rel=>exact⟨ef+1,num,KR,_,by go_num,rfl,HM⟩
    case measure=>simp[intOf];omega
   .have v:=l.rest bT W (by rw[f,<-kZ dk];exact dC);have i:=Dv v.mem;rw[f]at i;have o:=l.write au dk W f;have le:num+1<9223372036854775807:=by have:=l.qS.2;have:=au.nx;have:=au.small;omega
    have c2:=bM.cellAt bd 2 rfl;clear l c bd v bu f W;generalize ca[ef].tb=p at*;go_wp2_with fail
    apply i.mono;rintro cM L⟨rfl,D⟩;subst L;clear i;go_wp2_with fail
    apply o.mono;rintro cM L⟨rfl,K,F,k⟩;have r:=Z k;clear k o;go_wp2;go_roundw;case rel=>exact⟨ef+1,num+1,K,F,by go_num,by go_num,r⟩
    case measure=>simp[intOf];omega
  .have pb:ef=z ca:=by have:=l.le;omega
   rw[pb]at l;have kl:us.map (λbh=>(bh.tb,bh.ks,bh.cs))=(eg++ei++bg++ej).map (λbh=>(bh.tb,bh.ks,bh.cs)):=by rw[l.same,bP,ae iu]
   obtain⟨K,N,V,d',F,nS,od,ol,op⟩:=XI kl;obtain⟨hf,hg,ob,oc⟩:=lw nS;obtain⟨hh,hi,oi,oj⟩:=lw od;obtain⟨hj,hk,om,on⟩:=lw ol;obtain⟨hl,hn,os,ov⟩:=lw op;have hz:∀bo,qT a s.aN b e j bo->∀m,bY bo=M m->¬Wr s.aN j ps m:=by
    rintro bo hv m d(q|⟨bT,W,q|q⟩)
    .exact(hv m d).2.1 q
    .have v:=(g.news bT W).1;rcases(hv m d).2.2.2 with x|⟨bb,ls,x⟩
     .have:=(v.lt m<|.inl q).1;omega
     .exact iA x v.mem.box (by decide) q
    .have v:=(g.news bT W).1;rcases(hv m d).2.2.2 with x|⟨bb,ls,x⟩
     .have:=(v.lt m<|.inr<|.inr q).1;omega
     .obtain⟨nO,oT⟩:=fK v.data (k:=bT.x) rfl;exact iA x oT (by decide) q
   have bm:J (Wr s.aN j ps) a wr:=(fx.mono (T:=Wr s.aN j ps) cN).trans l.ay<|λ_ q=>.inl q;have t:∀bo(ts c:cR),qT a s.aN b e j bo->Row a 1 bo (z ts) (ts.map bJ.ptr)->c.map bJ.ptr=ts.map bJ.ptr->z c=z ts->Row wr 1 bo (z c) (c.map bJ.ptr):=λbo ts c hv lm e1 e2=>by
    rw[e1,e2];exact bm.row lm<|λm d=>⟨hz bo hv m d,(hv m d).1⟩
   have kf:∀bx∈us,JX wr s.aN bx:=λbx hu=>by
    have bb:∀{w:fN},rV wr s.aN (vw KR.files) w bx->JX wr s.aN bx:=λho=>by
     obtain⟨hI,al,n,hm,_⟩:=ho.mem;refine⟨hI,al,n,?_⟩;rw[<-ho.ks]at hm;exact hm
    rcases l.Qq bx hu with q|⟨bT,_,_,q,_⟩
    .exact bb<|l.Df bx q
    .exact bb q
   have et:∀bn,J az wr bn->∀bx∈us,JX bn s.aN bx:=λbn hD bx hu=>by
    obtain⟨hI,al,n,hm⟩:=kf bx hu;exact⟨hI,al,n,hm.dq (hD.block _ (am hm.box) id)<|hD.block _ hm.lt.2 id⟩
   have dm:∀bo(ts:cR),(∀bh∈ts,bh∈us)->z ts<=1000000->(∀m,bY bo=M m->m<G (H wr))->Row wr 1 bo (z ts) (ts.map bJ.ptr)->∀bn,J az wr bn->cA bG 141 #[bo] bn λcM w'=>∃a,cM=aP a/\w'.ownsRow (G<|H bn) 266 4 a (z ts) (du ts)/\Below (G<|H bn) bn w':=λbo ts bb b d lm bn hD=>by
    refine OD bn s.aN bo ts ⟨hD.row lm<|λm cM=>⟨id,d m cM⟩,λm cM=>ag (d m cM) hD.size,λbh h=>(et bn hD bh<|bb bh h).Tw,by omega⟩ (λbh h=>et bn hD bh<|bb bh h)<|by omega
   have sz:=bm.size;have gk:=dm _ K (λbh h=>by rw[F];simp[h]) (by omega) (λm d=>by have:=(g.b0 m d).1;omega)<|t _ eg K g.b0 g.r0 hf hg;have gn:=dm _ N (λbh h=>by rw[F];simp[h]) (by omega) (λm d=>by have:=(g.b1 m d).1;omega)<|t _ ei N g.b1 g.r1 hh hi;have gr:=dm _ V (λbh h=>by rw[F];simp[h]) (by omega) (λm d=>by have:=(g.b2 m d).1;omega)<|t _ bg V g.b2 g.r2 hj hk;have gs:=dm _ d' (λbh h=>by rw[F];simp[h]) (by omega) (λm d=>by have:=(g.b3 m d).1;omega)<|t _ ej d' g.b3 g.r3 hl hn;obtain⟨hY,ih,il,ip⟩:=gD (t _ eg K g.b0 g.r0 hf hg) (t _ ei N g.b1 g.r1 hh hi) (t _ bg V g.b2 g.r2 hj hk)<|t _ ej d' g.b3 g.r3 hl hn;have Q:=(l.ay.block (G<|H a) (am cb)<|bu _<|ai _).trans cb;have bp:=cellAt Q 0 rfl;have bq:=cellAt Q 1 rfl;have br:=cellAt Q 2 rfl;have bs:=cellAt Q 3 rfl;have rn:=am Q;have le:num+1<9223372036854775807:=by have:=l.qS.2;have:=au.nx;have:=au.small;omega
   have pp:IntKind.u64.wrap ((num:Y)+1)=(num:Y)+1:=by rw[ib];omega
   have e1:¬(ef:Y)<(z ca:Y):=by omega
   obtain⟨HM,hT,hU,hV,hW,fu,gf⟩:=wI l gk gn gr gs bd bm;obtain⟨cE,hN,HEq,ry,rv,rx⟩:=kD F Q (And.intro nS (And.intro od (And.intro ol op))) bu et hz;clear l dm gk gn gr gs bd bm F Q nS od ol op hf hg ob oc hh hi oi oj hj hk om on hl hn os ov t kf et hz bu kl lo;go_wp2_with fail
   obtain⟨c,lp⟩:∃c,G (H wr)=c:=⟨_,rfl⟩;obtain⟨W0,kn⟩:∃W0,cF wr (aw #[aL<|(num:Y)+1,aL num,aL bv,aG,aG,aG,aG] 187)=W0:=⟨_,rfl⟩;have gt:W0.heap[c]?=M (aw #[aL<|(num:Y)+1,aL num,aL bv,aG,aG,aG,aG] 187 (0,0)):=by rw[<-kn];exact aE _ lp.symm
   have gv:J az wr W0:=by rw[<-kn];exact(cI _ _)
   have ac:=Z gt;have fL:=Z gv;clear gt gv;have ra:∀bn,(Instr.index 107 (eB #[ah x0 (z eg) y,ah x1 (z ei) A,ah x2 (z bg) B,ah x3 (z ej) C])<|aq 0).run bG bn=.ok (ah x0 (z eg) y) bn:=λ_=>by kernel_rfl
   have rb:∀bn,(Instr.index 107 (eB #[ah x0 (z eg) y,ah x1 (z ei) A,ah x2 (z bg) B,ah x3 (z ej) C])<|aq 1).run bG bn=.ok (ah x1 (z ei) A) bn:=λ_=>by kernel_rfl
   have rc:∀bn,(Instr.index 107 (eB #[ah x0 (z eg) y,ah x1 (z ei) A,ah x2 (z bg) B,ah x3 (z ej) C])<|aq 2).run bG bn=.ok (ah x2 (z bg) B) bn:=λ_=>by kernel_rfl
   have re:∀bn,(Instr.index 107 (eB #[ah x0 (z eg) y,ah x1 (z ei) A,ah x2 (z bg) B,ah x3 (z ej) C])<|aq 3).run bG bn=.ok (ah x3 (z ej) C) bn:=λ_=>by kernel_rfl
   refine my 5 ?_;rw[kw];go_wp2_with fail
   apply(hT W0 fL).mono;rintro cM L⟨m0,rfl,fe,P⟩;obtain⟨y0,z0,pf⟩:=aB fe;subst pf;have r:J az W0 L:=J.aV P;have k:=(r.block c (am ac) id).trans ac;have g0:=cellAt k 3 rfl;have f0:=dW (i:=3) k;have p:(ct L (U c 3)<|ah y0 (z K) z0).heap[c]?=M (aw #[aL<|(num:Y)+1,aL num,aL bv,(ah y0 (z K) z0),aG,aG,aG] 187 (0,0)):=(aT k).trans rfl;have i:J (λm=>m=c) W0 (ct L (U c 3)<|ah y0 (z K) z0):=(r.mono (T:=λm=>m=c) cN).setCell _ _ _<|.inl rfl;obtain⟨W1,ko⟩:∃W1,ct L (U c 3) (ah y0 (z K) z0)=W1:=⟨_,rfl⟩;rw[ko]at p i;obtain⟨ax,gb,cj⟩:=dI p (fL.trans i<|λm d=>.inr<|by omega) (show W1.ownsRow (G<|H W0) 266 4 (ah y0 (z K) z0) (z K) (du K)by rw[<-ko];exact fe.kept (df _ _ _ _)<|.inr (λq=>by have:=(fe.lt _ q).1;have:=am ac;omega));clear p i r k P fe;go_wp2_with fail
   rw[kw];go_wp2_with fail
   apply(hU W1 gb).mono;rintro cM L⟨m1,rfl,ff,P⟩;obtain⟨y1,z1,pg⟩:=aB ff;subst pg;have r:J az W1 L:=J.aV P;have k:=(r.block c (am ax) id).trans ax;have g1:=cellAt k 4 rfl;have f1:=dW (i:=4) k;have p:(ct L (U c 4)<|ah y1 (z N) z1).heap[c]?=M (aw #[aL<|(num:Y)+1,aL num,aL bv,(ah y0 (z K) z0),(ah y1 (z N) z1),aG,aG] 187 (0,0)):=(aT k).trans rfl;have i:J (λm=>m=c) W1 (ct L (U c 4)<|ah y1 (z N) z1):=(r.mono (T:=λm=>m=c) cN).setCell _ _ _<|.inl rfl;obtain⟨W2,kq⟩:∃W2,ct L (U c 4) (ah y1 (z N) z1)=W2:=⟨_,rfl⟩;rw[kq]at p i;obtain⟨bi,gc,cn,ck⟩:=gD p (gb.trans i<|λm d=>.inr<|by omega) (show W2.ownsRow (G<|H W1) 266 4 (ah y1 (z N) z1) (z N) (du N)by rw[<-kq];exact ff.kept (df _ _ _ _)<|.inr (λq=>by have:=(ff.lt _ q).1;have:=am ax;omega))<|i.own cj (λm d q=>by have:=(cj.lt m d).1;have:=am ac;omega);clear p i r k P ff;go_wp2_with fail
   rw[kw];go_wp2_with fail
   apply(hV W2 gc).mono;rintro cM L⟨m2,rfl,fk,P⟩;obtain⟨y2,z2,pi⟩:=aB fk;subst pi;have r:J az W2 L:=J.aV P;have k:=(r.block c (am bi) id).trans bi;have g2:=cellAt k 5 rfl;have f2:=dW (i:=5) k;have p:(ct L (U c 5)<|ah y2 (z V) z2).heap[c]?=M (aw #[aL<|(num:Y)+1,aL num,aL bv,(ah y0 (z K) z0),(ah y1 (z N) z1),(ah y2 (z V) z2),aG] 187 (0,0)):=(aT k).trans rfl;have i:J (λm=>m=c) W2 (ct L (U c 5)<|ah y2 (z V) z2):=(r.mono (T:=λm=>m=c) cN).setCell _ _ _<|.inl rfl;obtain⟨W3,ks⟩:∃W3,ct L (U c 5) (ah y2 (z V) z2)=W3:=⟨_,rfl⟩;rw[ks]at p i;obtain⟨cx,ge,cs,cl,co⟩:=jX p (gc.trans i<|λm d=>.inr<|by omega) (show W3.ownsRow (G<|H W2) 266 4 (ah y2 (z V) z2) (z V) (du V)by rw[<-ks];exact fk.kept (df _ _ _ _)<|.inr (λq=>by have:=(fk.lt _ q).1;have:=am bi;omega)) (i.own ck (λm d q=>by have:=(ck.lt m d).1;have:=am ac;omega))<|i.own cn (λm d q=>by have:=(cn.lt m d).1;have:=am ax;omega);clear p i r k P fk;go_wp2_with fail
   rw[kw];go_wp2_with fail
   apply(hW W3 ge).mono;rintro cM L⟨m3,rfl,fl,P⟩;obtain⟨y3,z3,pj⟩:=aB fl;subst pj;have r:J az W3 L:=J.aV P;have k:=(r.block c (am cx) id).trans cx;have g3:=cellAt k 6 rfl;have f3:=dW (i:=6) k;have p:(ct L (U c 6)<|ah y3 (z d') z3).heap[c]?=M (aw #[aL<|(num:Y)+1,aL num,aL bv,(ah y0 (z K) z0),(ah y1 (z N) z1),(ah y2 (z V) z2),(ah y3 (z d') z3)] 187 (0,0)):=(aT k).trans rfl;have i:J (λm=>m=c) W3 (ct L (U c 6)<|ah y3 (z d') z3):=(r.mono (T:=λm=>m=c) cN).setCell _ _ _<|.inl rfl;obtain⟨W4,kt⟩:∃W4,ct L (U c 6) (ah y3 (z d') z3)=W4:=⟨_,rfl⟩;rw[kt]at p i;obtain⟨cB,ad,cv,cm,cp,cu⟩:=kD p (ge.trans i<|λm d=>.inr<|by omega) (show W4.ownsRow (G<|H W3) 266 4 (ah y3 (z d') z3) (z d') (du d')by rw[<-kt];exact fl.kept (df _ _ _ _)<|.inr (λq=>by have:=(fl.lt _ q).1;have:=am cx;omega)) (i.own cl (λm d q=>by have:=(cl.lt m d).1;have:=am ac;omega)) (i.own co (λm d q=>by have:=(co.lt m d).1;have:=am ax;omega))<|i.own cs (λm d q=>by have:=(cs.lt m d).1;have:=am bi;omega);clear p i r k P fl;go_wp2_with fail
   rw[kw];go_wp2_with fail
   have db:bM W4 b s m:=(ad.block b (am fu) id).trans fu;have kk:∀f:I,f.heap=W4.heap->(λ(f:I)=>aS f (U b 2)=M (aA s.aN)/\aS f (U c 0)=M (aL<|(num:Y)+1)/\aS f (U c 1)=M (aL num)/\aS f (U c 2)=M (aL bv)/\aS f (U c 3)=M (ah y0 (z K) z0)/\aS f (U c 4)=M (ah y1 (z N) z1)/\aS f (U c 5)=M (ah y2 (z V) z2)/\aS f (U c 6)=M (ah y3 (z d') z3)) f:=by
    intro f bb;have h1:f.heap[b]?=W4.heap[b]?:=by rw[bb]
    have h2:f.heap[c]?=W4.heap[c]?:=by rw[bb]
    have ls:bM f b s m:=h1.trans db;have oT:=h2.trans cB;refine⟨ls.cell rfl,?_,?_,?_,?_,?_,?_,?_⟩<;>(rw[bL oT];rfl)
   have gj:=kk W4.drew rfl;have cd:=Z db;clear kk db;have lr:cA bG 142 #[aA s.aN,eB #[aL<|(num:Y)+1,aL num,aL bv,ah y0 (z K) z0,ah y1 (z N) z1,ah y2 (z V) z2,ah y3 (z d') z3]] W4.drew λcM w'=>cM=aP .nilIface/\∃a,rW W4.drew w' s.aN KR a/\vw a.files=tC (vw KR.files) (gY,iM ((num:Y)+1) num bv [K,N,V,d'])/\a.eU=[]:=by
    have l:=ae HM;have F:=ae cE;have ls:J az wr W4.drew:=ad.of_heap rfl;have v:∀bx∈us,bx.oG:=λbx hu=>by
     have hJ:∀{w:fN},rV wr s.aN (vw KR.files) w bx->bx.oG:=λho=>by
      refine⟨ho.num,by have:=ho.small;omega,?_⟩;have h1:=lB<|λm d=>(ho.idx.can m d).fits;have h2:=ho.idx.len;rw[ho.ks];unfold fp;rw[af,cq];omega
     rcases l.Qq bx hu with q|⟨bT,_,_,q,_⟩
     .exact hJ<|l.Df bx q
     .exact hJ q
    have pc:z K+z N+z V+z d'<=1000000:=by
     have:=l.len;rw[F]at this;simp only[af]at this;omega
    have pe:ew (vw KR.files) vh=none:=by
     obtain⟨qr,hx,oT⟩:=l.files;rw[hx,jN];cases q:ew (vw j.files) vh with
     |some he=>exact absurd rfl<|ds _ _ q
     |none=>
      rw[mB];cases q2:ew qr vh with
      |none=>rfl
      |some he=>
       obtain⟨bx,_,cM,_⟩:=oT _<|xX q2;simp only[hZ]at cM;exact absurd cM.1.symm<|DL _
    have bb:iy (vw KR.files)+21000000<=1099511627776:=by
     have h1:=l.qK;have h2:=au.room;have h3:z ca*200000<=1000000*200000:=kA _ hw;omega
    refine TN s.aN KR ((num:Y)+1) num bv y0 y1 y2 y3 z0 z1 z2 z3 K N V d' (λm d=>ls.cell (l.steps m d) id l.steps.lt) (dr cm) (dr cp) (dr cu) (dr cv) (λm d=>(cm.lt m d).2) (λm d=>(cp.lt m d).2) (λm d=>(cu.lt m d).2) (λm d=>(cv.lt m d).2) (λbh h=>v bh (by rw[F];simp[h])) (λbh h=>v bh (by rw[F];simp[h])) (λbh h=>v bh (by rw[F];simp[h])) (λbh h=>v bh (by rw[F];simp[h])) (by omega) (by omega) (by omega) pc (l.aN.ay ls<|λ_ _=>id) pe (by have:=l.eU;have:=au.eU;omega) bb
   have nm:=Z lr;clear lr;rename_i QQ KK kc;refine cz (λ(f:I)=>aS f (U b 2)=M (aA s.aN)/\aS f (U c 0)=M (aL<|(num:Y)+1)/\aS f (U c 1)=M (aL num)/\aS f (U c 2)=M (aL bv)/\aS f (U c 3)=M (ah y0 (z K) z0)/\aS f (U c 4)=M (ah y1 (z N) z1)/\aS f (U c 5)=M (ah y2 (z V) z2)/\aS f (U c 6)=M (ah y3 (z d') z3)) 6 (by kernel_rfl) ?_;refine cY 0 ?_;iterate 5 (refine eJ (v:=?_) gj rfl (by kernel_rfl) iV rfl ?_ ?_;rotate_left;(focus(rintro f⟨s2,q0,q1,q2,q3,q4,q5,q6⟩;go_simp;try rfl));simp only[Act.put,dG,Nat.reduceAdd])
   apply eA;refine aM (i:=5) rfl rfl (by kernel_rfl) ?_;intro K5 ka;go_simp;apply nm.mono;rintro cM w5⟨rfl,iv,eu,lt,lb⟩;have ky:∀m,KR.bw s.aN m->m<c:=λm d=>by have:=HM.aN.lt m d;omega
   have hC:¬KR.bw s.aN b:=λq=>by
    rcases HM.bw b q with x|x
    .exact hB x
    .have:=am cc;omega
   have hs:bM w5 b s m:=(eu.ay.block b (am cd) hC).trans cd;have u:w5.heap[c]?=_:=(eu.ay.block c (am cB) (λq=>by have:=ky _ q;omega)).trans cB;obtain⟨ek,fv,av,hd,hS,it⟩:=kD hs u eu lt lb hC;refine ka _ _ (λ_=>⟨hs.cell rfl,(by rw[bL u];rfl),(by rw[bL u];rfl),(by rw[bL u];rfl),(by rw[bL u];rfl),(by rw[bL u];rfl),(by rw[bL u];rfl),(by rw[bL u];rfl)⟩) ?_;clear ka eu lt lb hs u ky hC;try simp only[Act.put,dG]
   refine aM (i:=6) rfl rfl (by kernel_rfl) ?_;intro K6 kb;go_simp;refine kb _ _ (λq=>(q rfl).elim) ?_;refine cX (by kernel_rfl) ?_ _;show KK _ _;apply kc;clear kc kb gj;have l:=ae HM;have lx:G (H a)<G (H w1):=am cb;have rt:=l.ay.size;have ao:J (KR.bw s.aN) wr w5:=(ad.mono (T:=KR.bw s.aN) cN).trans ((cg (KR.bw s.aN) W4).trans av.ay<|λ_ q=>.inl q)<|λ_ q=>.inl q;have dn:∀m,m<G (H w1)->¬j.bw s.aN m->¬KR.bw s.aN m:=λm h1 h2 q=>(l.bw m q).elim h2 (λx=>by omega);have dd:∀m,m<G (H w1)->¬j.bw s.aN m->w5.heap[m]?=wr.heap[m]?:=λm h1 h2=>ao.block m (by omega)<|dn m h1 h2;have oS:=g.le;have ll:∀bT∈ps,∀m,bT.has m->m<G (H w1)/\¬j.bw s.aN m:=λbT W m d=>by
    have h1:=(g.news bT W).1.lt m d;exact⟨by omega,λq=>by have:=g.bw m q;omega⟩
   have lg:∀m,Kc s.aN b e j m->m<G (H w1)/\¬j.bw s.aN m:=λm d=>⟨by have:=d.1;omega,d.2.1⟩;have hr:∀{w:fN}{bx:bJ},rV wr s.aN (vw KR.files) w bx->(∀m,w m->m<G (H w1)/\¬j.bw s.aN m)->Te w5 bx:=λho bb=>by
    obtain⟨hI,al,n,hm,ls⟩:=(ho.Sd<|λm d=>dd m (bb m d).1 (bb m d).2).mem;exact⟨ho.num,_,_,_,_,hI,al,n,_,hm⟩
   have hq:∀bh∈a0++b0++c0++d0,Te w5 bh:=λbh h0=>hr (l.Df bh h0) lg;have kd:∀bx∈K++N++V++d',Te w5 bx:=λbx hu=>by
    rw[<-ae cE]at hu;rcases l.Qq bx hu with q|⟨bT,W,_,q,_⟩
    .exact hq bx q
    .exact hr q<|ll bT W
   have gi:Du w5 b 10 [(s.l0,a0),(s.l1,b0),(s.l2,c0),(s.l3,d0)]:=by
    refine ch.ay (S:=λm=>Wr s.aN j ps m\/KR.bw s.aN m) ((gf.mono (T:=λm=>Wr s.aN j ps m\/KR.bw s.aN m)<|λ_ q=>.inl<|.inl q).trans ao<|λ_ q=>.inl<|.inr q) ?_ ?_
    .rintro(q|q)
     .rcases q with x|⟨bT,W,x|x⟩
      .exact hB x
      .have:=((g.news bT W).1.lt b<|.inl x).1;omega
      .have:=((g.news bT W).1.lt b<|.inr<|.inr x).1;omega
     .exact it q
    .intro gA ls X bt q;have bb:Kc s.aN b e j X:=by
      have:gA=0\/gA=1\/gA=2\/gA=3:=by simp at ls;omega
      rcases this with rfl|rfl|rfl|rfl
      .exact el _ (.inl rfl) X bt
      .exact el _ (.inr<|.inl rfl) X bt
      .exact el _ (.inr<|.inr<|.inl rfl) X bt
      .exact el _ (.inr<|.inr<|.inr rfl) X bt
     rcases q with x|x
     .rcases x with x|⟨bT,W,x|x⟩
      .exact bb.2.1 x
      .have:=((g.news bT W).1.lt X<|.inl x).1;have:=bb.1;omega
      .have:=((g.news bT W).1.lt X<|.inr<|.inr x).1;have:=bb.1;omega
     .exact dn X (by have:=bb.1;omega) bb.2.1 x
   have O:∀bo(ts:cR),qT a s.aN b e j bo->Row wr 1 bo (z ts) (ts.map bJ.ptr)->Row w5 1 bo (z ts) (ts.map bJ.ptr)/\∀m,bY bo=M m->m<G (H w5):=λbo ts hv lm=>
    ⟨ao.row lm<|λm d=>⟨dn m (by have:=(hv m d).1;omega) (hv m d).2.1,by have:=(hv m d).1;omega⟩,λm d=>by have:=(hv m d).1;have:=ao.size;omega⟩
   have q0:=O _ K g.b0 hY;have q1:=O _ N g.b1 ih;have q2:=O _ V g.b2 il;have q3:=O _ d' g.b3 ip;have ro:z (K++N++V++d')<=1000000:=by rw[<-ae cE,l.len];exact hw
   have dT:Pow w5:=l.pow.dq<|dd _ (by have:=g.mJ.1;omega) g.mJ.2.1;have dx:=IZ a0 b0 c0 d0 K N V d' ek gi q0.1 q1.1 q2.1 q3.1 q0.2 q1.2 q2.2 q3.2 hq kd dT pd (by omega) (by omega);have an:=(dd (G<|H a) lx (λq=>by have:=g.bw _ q;omega)).trans hN;have bp:=cellAt an 0 rfl;have bq:=cellAt an 1 rfl;have br:=cellAt an 2 rfl;have bs:=cellAt an 3 rfl;rw[<-ae cE]at dx;obtain⟨nd,ba,fs,nl⟩:=gD dd ao an dn;clear l dn dd hr hq kd gi O q0 q1 q2 q3 dT an ao ll lg;go_wp2_with fail
   apply dx.mono;rintro cM w6⟨v6,rfl,fn,ed⟩;obtain⟨ns,dv⟩:∃ns,pP s (a0++b0++c0++d0) us=ns:=⟨_,rfl⟩;rw[dv]at fn;obtain⟨x6,c6,pk⟩:=aB fn;subst pk;have o:bM w6 b s m:=(ed.block b (am ek) id).trans ek;have eb:w6.heap[c]?=_:=(ed.block c (am fv) id).trans fv;have bc:w6.heap[G<|H a]?=_:=(ed.block (G<|H a) (am fs) id).trans fs;obtain⟨mn,mm,ex⟩:=bS (ch.row 0<|by simp);obtain⟨mp,mo,ey⟩:=bS (ch.row 1<|by simp);obtain⟨mv,ms,fb⟩:=bS (ch.row 2<|by simp);obtain⟨mA,mx,fd⟩:=bS (ch.row 3<|by simp);simp only[cf,bU]at ex ey fb fd;obtain⟨hO,hP,hQ,hR⟩:=gD ex ey fb fd;have k7:aS w6 (U b 7)=M (ah sp sn sl):=by rw[<-ae nf];exact o.cell rfl
   have k8:=bM.cellAt o 8 rfl;have k9:=bM.cellAt o 9 rfl;have mb:aS w6 (U b 10)=M (ah mn (z a0) mm):=by rw[<-ex];exact o.cell rfl
   have mc:aS w6 (U b 11)=M (ah mp (z b0) mo):=by rw[<-ey];exact o.cell rfl
   have md:aS w6 (U b 12)=M (ah mv (z c0) ms):=by rw[<-fb];exact o.cell rfl
   have me:aS w6 (U b 13)=M (ah mA (z d0) mx):=by rw[<-fd];exact o.cell rfl
   have mg:=bM.cellAt o 14 rfl;have pw:=bM.cellAt o 17 rfl;have px:=bM.cellAt o 18 rfl;have qb:=bM.cellAt o 19 rfl;have qk:=bM.cellAt o 20 rfl;have qq:=bM.cellAt o 21 rfl;have fz:∀gA,w6.frozen? (U b gA)=bF:=λgA=>o.free;have f7:=fz 7;have f8:=fz 8;have f9:=fz 9;have jA:=fz 10;have jB:=fz 11;have jC:=fz 12;have jD:=fz 13;have jE:=fz 14;have ox:=fz 15;have oy:=fz 16;have oA:=fz 17;have oB:=fz 18;have oL:=fz 19;have bp:=cellAt bc 0 rfl;have bq:=cellAt bc 1 rfl;have br:=cellAt bc 2 rfl;have bs:=cellAt bc 3 rfl;have t0:=cellAt eb 0 rfl;have t1:=cellAt eb 1 rfl;have n1:G (H a)≠b:=by omega
   have n2:c≠b:=by omega
   have n3:b≠G (H a):=by omega
   have n4:b≠c:=by omega
   obtain⟨mI,em,no,ha⟩:=gD o fn ed dv;clear o eb bc fn ed fz ex ey fb fd dx dv;go_wp2_with fail
   rename_i rz nK gg;obtain⟨T,en⟩:∃T,ct (ct (ct w6 (U b 7) aG) (U b 8)<|aq 0) (U b 9) (aL bv)=T:=⟨_,rfl⟩;have D:bM T b {s with memory:=aG,ir:=0,bj:=bv} m:=by rw[<-en];exact(aT<|aT<|aT mI).trans rfl
   have bf:J (λm=>m=b) w6 T:=by rw[<-en];exact((ij b w6).setCell _ _ _<|.inl rfl).setCell _ _ _<|.inl rfl
   have bp:aS T (U (G<|H a) 0)=M (ah x0 (z eg) y):=bf.cell bp n1<|rD bp;have bq:aS T (U (G<|H a) 1)=M (ah x1 (z ei) A):=bf.cell bq n1<|rD bq;have br:aS T (U (G<|H a) 2)=M (ah x2 (z bg) B):=bf.cell br n1<|rD br;have bs:aS T (U (G<|H a) 3)=M (ah x3 (z ej) C):=bf.cell bs n1<|rD bs;have t0:aS T (U c 0)=M (aL<|(num:Y)+1):=bf.cell t0 n2<|rD t0;have t1:aS T (U c 1)=M (aL num):=bf.cell t1 n2<|rD t1;have mb:aS T (U b 10)=M (ah mn (z a0) mm):=by rw[<-ae hO];exact D.cell rfl
   have mc:aS T (U b 11)=M (ah mp (z b0) mo):=by rw[<-ae hP];exact D.cell rfl
   have md:aS T (U b 12)=M (ah mv (z c0) ms):=by rw[<-ae hQ];exact D.cell rfl
   have me:aS T (U b 13)=M (ah mA (z d0) mx):=by rw[<-ae hR];exact D.cell rfl
   have mg:=bM.cellAt D 14 rfl;have jA:T.frozen? (U b 10)=bF:=D.free;have jB:T.frozen? (U b 11)=bF:=D.free;have jC:T.frozen? (U b 12)=bF:=D.free;have jD:T.frozen? (U b 13)=bF:=D.free;have jE:T.frozen? (U b 14)=bF:=D.free;have mK:=Z D;have hb:=Z bf;rw[en];clear en D bf;apply Gn nK
   .intro bb;go_region
    all_goals exact bb
   refine gg _ _ ?_;clear gg;obtain⟨W8,eo⟩:∃W8,(ct (ct (ct (ct (ct T (U b 10)<|ah x0 (z eg) y) (U b 11)<|ah x1 (z ei) A) (U b 12)<|ah x2 (z bg) B) (U b 13)<|ah x3 (z ej) C) (U b 14)<|aL<|(num:Y)+1).drew=W8:=⟨_,rfl⟩;have E:bM W8 b {s with memory:=aG,ir:=0,bj:=bv,l0:=ah x0 (z eg) y,l1:=ah x1 (z ei) A,l2:=ah x2 (z bg) B,l3:=ah x3 (z ej) C,next:=num+1} m:=by
    rw[<-eo];exact(aT<|aT<|aT<|aT<|aT mK).trans rfl
   have hG:J (λm=>m=b) T W8:=by
    rw[<-eo];exact(((((ij b T).setCell _ _ _<|.inl rfl).setCell _ _ _<|.inl rfl).setCell _ _ _<|.inl rfl).setCell _ _ _<|.inl rfl).cw<|cg az _
   have t1:aS W8 (U c 1)=M (aL num):=hG.cell t1 n2<|rD t1;have pw:=bM.cellAt E 17 rfl;have px:=bM.cellAt E 18 rfl;have qb:=bM.cellAt E 19 rfl;have qk:=bM.cellAt E 20 rfl;have qq:=bM.cellAt E 21 rfl;have ox:W8.frozen? (U b 17)=bF:=E.free;have oy:W8.frozen? (U b 18)=bF:=E.free;have oA:W8.frozen? (U b 19)=bF:=E.free;have oB:W8.frozen? (U b 20)=bF:=E.free;have oL:W8.frozen? (U b 21)=bF:=E.free;have na:=Z E;have hc:=Z hG;rw[eo];clear eo E hG mb mc md me mg k7 k8 k9 f7 f8 f9 jA jB jC jD jE bp bq br bs t0;go_wp2_with fail
   obtain⟨W9,eq⟩:∃W9,ct (ct (ct (ct (ct W8 (U b 17)<|aL num) (U b 18)<|aO bF) (U b 19)<|aO bF) (U b 20)<|aO bF) (U b 21) (aO bF)=W9:=⟨_,rfl⟩;have ht:bM W9 b (s.settled (ah x0 (z eg) y) (ah x1 (z ei) A) (ah x2 (z bg) B) (ah x3 (z ej) C) bv num) m:=by
    rw[<-eq];exact(aT<|aT<|aT<|aT<|aT na).trans rfl
   have fr:J (λm=>m=b) W8 W9:=by
    rw[<-eq];exact((((ij b W8).setCell _ _ _<|.inl rfl).setCell _ _ _<|.inl rfl).setCell _ _ _<|.inl rfl).setCell _ _ _<|.inl rfl
   have ec:J (λm=>m=b) w5 W9:=((no.mono (T:=λm=>m=b) cN).trans (hb.trans (hc.trans fr<|λ_ q=>.inl q)<|λ_ q=>.inl q)<|λ_ q=>.inl q);rw[eq];have ds:=ae ha;have ev:=nc us;rw[ds]at ev;have ea:¬iv.bw s.aN b:=λq=>by
    rcases av.bw b q with x|x
    .exact it x
    .have:=am cd;simp at x;omega
   have jK:cU W9 s.aN iv:=av.ok.ay ec (λm d q=>by rw[q]at d;exact ea d);have ln:=Eg (ah x6 (z ns) c6) ns ht jK ea (dr<|((hb.trans (hc.trans fr<|λ_ q=>.inl q)<|λ_ q=>.inl q)).own em (λm d q=>by have:=(em.lt m d).1;have:=am ek;omega)) (λef a=>⟨ag (em.lt ef a).2<|((hb.trans (hc.trans fr<|λ_ q=>.inl q)<|λ_ q=>.inl q)).size,λq=>by have h1:=(em.lt ef a).1;have h2:=av.ok.lt ef q;omega⟩) ev.1 (λee oT=>by
    obtain⟨ls,he,bb⟩:=ev.2 ee oT;obtain⟨qr,hx,_⟩:=HM.files;refine⟨he,?_⟩;rw[ae hd,vy,dh (λq=>ls q.symm),hx,jN,bb];rfl) (by
    rw[ae hS];have:z ns<=1+z (a0++b0++c0++d0):=by
     rw[<-ds];unfold pP;rw[af,cV];have h1:z (nF (a0++b0++c0++d0) us)<=z (a0++b0++c0++d0):=fB _ _;split<;>simp<;>simp at h1<;>omega
    simp only[cS];omega)
   have hK:=Z ht;have bk:=Z ec;clear ht fr ec jK ev ds eq;apply ln.mono;rintro cM w'⟨rfl,K8,kx,lv,lc⟩;obtain⟨ce,nv,ne⟩:=dI kx lv lc;clear kx lv lc ln;go_wp2;go_ret;refine⟨rfl,w1,wr,KR,K8,us,K,N,V,d',num,fx,?_,cE,HEq.1,HEq.2.1,HEq.2.2.1,HEq.2.2.2,?_,ce.ok,?_,?_,?_,?_,?_,?_⟩
   .rw[ae iu];exact HM
   .exact(ce.ay.block b (am hK) ea).trans hK
   .rw[ae nv,ae hd,ae ha]
   .rw[<-ae hd];exact av.ok.nodup
   .rw[ae ne,ae hS,ae ha];simp
   .intro X h1 h2 h3;have g1:w5.heap[X]?=wr.heap[X]?:=nd X (by omega) h2;have g2:W9.heap[X]?=w5.heap[X]?:=bk.block X (by have:=ba.size;omega) h3;refine(ce.ay.block X (by have:=ba.size;have:=bk.size;omega)<|λq=>?_).trans<|g2.trans g1;rcases av.bw X q with x|x
    .exact nl X (by omega) h2 x
    .have:=ad.size;simp at x;omega
   .have pv:=ba.size;have pr:=ad.size;have bb:∀mC,KR.bw s.aN mC->(Wr s.aN j ps mC\/mC=b)\/G (H a)<=mC:=λmC hJ=>by
     rcases HM.bw mC hJ with x|x
     .exact .inl<|.inl<|.inl x
     .exact .inr<|by omega
    refine(((gf.mono (T:=λm=>Wr s.aN j ps m\/m=b)<|λ_ q=>.inl<|.inl q).trans ba bb).trans bk<|λ_ q=>.inl<|.inr q).trans ce.ay<|λmC hJ=>?_;rcases av.bw mC hJ with x|x
    .exact bb mC x
    .simp at x;exact .inr<|by omega
   .intro X bt;have pv:=ba.size;have pr:=ad.size;have bb:=bk.size;rcases ce.bw X bt with x|x
    .rcases av.bw X x with x|x
     .rcases HM.bw X x with x|x
      .exact .inl x
      .exact .inr<|by omega
     .simp at x;exact .inr<|by omega
    .exact .inr<|by omega
def TO(h:i.map (λO=>(O.tb,O.ks,O.cs))=p.map (λO=>(O.tb,O.ks,O.cs)))(b:O∈i):∃u∈p,O.tb=u.tb/\O.ks=u.ks/\O.cs=u.cs:=by
 have a:(O.tb,O.ks,O.cs)∈p.map (λO=>(O.tb,O.ks,O.cs)):=by rw[<-h];exact bz.2 ⟨O,b,rfl⟩
 obtain⟨u,c,e⟩:=bz.1 a;simp only[hZ]at e;exact⟨u,c,e.1.symm,e.2.1.symm,e.2.2.symm⟩
def Bp(h:i.map (λt=>(t.tb,t.ks,t.cs))=p.map (λt=>(t.tb,t.ks,t.cs)))(a:kR p):kR i:=by
 refine⟨λt d=>?_,by rw[(lw h).2.2.2];exact a.mr,by rw[(lw h).2.2.1];exact a.Dh⟩;obtain⟨u,e,_,b,c⟩:=TO h d;rw[b,c];exact a.pure u e
def QY{e f g h:cR}(a:i.map (λt=>(t.tb,t.ks,t.cs))=e.map (λt=>(t.tb,t.ks,t.cs)))(b:p.map (λt=>(t.tb,t.ks,t.cs))=f.map (λt=>(t.tb,t.ks,t.cs)))(c:r.map (λt=>(t.tb,t.ks,t.cs))=g.map (λt=>(t.tb,t.ks,t.cs)))(d:s.map (λt=>(t.tb,t.ks,t.cs))=h.map (λt=>(t.tb,t.ks,t.cs))):bZ i p r s=bZ e f g h:=by
 unfold bZ;rw[(lw a).2.2.1,(lw b).2.2.2,(lw c).2.2.2,(lw d).2.2.2]
structure Xq(w w':I)(sb:R)(s:SR)(k:Y)(n C:R)(K:DK)(v0 v1 v2 v3:aa)(a b c d:cR)(K':DK)(num:R)(a' b' c' d':cR):Prop where
 box:bM w' sb (s.settled v0 v1 v2 v3 n num) k
 st:ST w' sb (s.settled v0 v1 v2 v3 n num) K' [] a' b' c' d' C
 rh:Tl (vw K'.files) (num+1) num n a' b' c' d' bF []
 rows:bZ a' b' c' d'=bZ a b c d
 Gg:((a'++b'++c'++d').map bJ.tb).Nodup
 eU:z K'.eU<=1000001
 num:s.next<=num/\num<=s.next+1000000
 bw:∀k,K'.bw s.aN k->K.bw s.aN k\/G (H w)<=k
def Pn(d cv cm bl:R)(ps:cD NT)(v0 v1 v2 v3:aa)(bn bo bm bp l o p r:cR)(bk:dX)(cT:bM a b n m)(c:LS a n.aN b d j (l++o++p++r) ps cv v0 v1 v2 v3 bn bo bm bp)(bv:Du a b 10 [(n.l0,l),(n.l1,o),(n.l2,p),(n.l3,r)])(hd:cU a n.aN j)(bh:¬j.bw n.aN b)(N:Tl (vw j.files) n.next n.log bl l o p r n.gF bk)(cd:z (lY ((bl:Y)+1) bk)<=200000)(hn:cm<1000000000000000)(cE:n.next<=900000000000000)(bT:z j.eU<=10000000000)(bg:z (l++o++p++r)<=1000000)(bd:∃db cm bm,n.memory=ah db cm bm)(bu:∀au,au=n.l0\/au=n.l1\/au=n.l2\/au=n.l3->∀m,bY au=M m->Kc n.aN b d j m):cA bG 89 #[aA b,eB #[v0,v1,v2,v3],aL cm] a λs P=>s=aP .nilIface/\∃K' num a' b' c' d',Xq a P b n m cm cv j v0 v1 v2 v3 bn bo bm bp K' num a' b' c' d'/\J (λm=>Wr n.aN j ps m\/m=b) a P:=by
 have cn:=c.count;have D:∀t∈l++o++p++r,t.num<n.next:=λt e=>(N.low t e).1;have bi:=N.total hd.nodup cd bg;have bc:∀t∈l++o++p++r,∀w∈l++o++p++r,t.num=w.num->t=w:=by intro t e w y s;obtain⟨cs,F,rfl⟩:=gS.1 e;obtain⟨cp,hj,rfl⟩:=gS.1 y;have hn:=cG.1 N.zF;rcases kH cs cp with q|q|q;have:=hn cs cp (by simpa using F) (by simpa using hj) q;simp only[jY]at this;exact absurd s this;subst q;rfl;have:=hn cp cs (by simpa using hj) (by simpa using F) q;simp only[jY]at this;exact absurd s.symm this
 have V:∀L,n.next<=L->ew (vw j.files) (gP L)=none:=by
  intro L E;cases q:ew (vw j.files) (gP L)with
  |none=>rfl
  |some bs=>
   rcases N.names _ _ q with s|⟨s,_⟩|⟨t,e,s⟩
   .exact absurd s<|vT _
   .exact absurd s<|mZ _ _
   .have:=vg s;have:=D t e;omega
 have bq:∀W,J az a W->CF W n.aN b d j (l++o++p++r) ps (bn++bo++bm++bp) n.next 201000000000:=λW e=>{le:=aF c.le e.size,bw:=c.bw,KM:=c.KM,xt:=λt f=>(by simp only[ap]at f;rcases f with((q|q)|q)|q<;>first|exact c.x0 t q|exact c.x1 t q|exact c.x2 t q|exact c.x3 t q),nodup:=c.nodup,apart:=c.apart,news:=λao x=>⟨(c.news ao x).1.ay e<|λ_ _ q=>q,(c.news ao x).2⟩,inj:=bc,low:=D,fresh:=V,fC:=c.fC,mJ:=c.mJ,small:=by simp only[af];omega,nx:=by omega,room:=by omega,qK:=bi,eU:=bT}
 have C:∀k,(pP n (l++o++p++r) k).Nodup/\∀L∈pP n (l++o++p++r) k,L≠gY/\∃bs,ew (vw j.files) L=M bs:=by
  intro k;have S:(nF (l++o++p++r) k).Sublist (l++o++p++r):=fg;have av:((nF (l++o++p++r) k).map<|λt=>gP t.num).Nodup:=by
   have h:((nF (l++o++p++r) k).map bJ.num).Nodup:=N.zF.sublist<|S.map _;unfold List.Nodup at h|-;rw[jw]at h|-;exact h.imp<|λa s=>a<|vg s
  have F:∀L∈(nF (l++o++p++r) k).map (λt=>gP t.num),L≠gY/\∃bs,ew (vw j.files) L=M bs:=by
   intro L E;obtain⟨t,e,rfl⟩:=bz.1 E;exact⟨vT _,_,N.zr t<|S.subset e⟩
  unfold pP;cases al:n.gF with
  |false=>
   rw[dh (by simp),cJ];exact⟨av,F⟩
  |true=>
   rw[dt rfl];refine⟨?_,λL E=>?_⟩
   .rw[jU,kP];refine⟨λq=>?_,av⟩;obtain⟨t,_,s⟩:=bz.1 q;exact mZ _ _ s
   .rcases ap.1 E with q|q
    .rw[bI]at q;rw[q];exact⟨sy _,_,N.log al⟩
    .exact F L q
 refine(ME d cv cm 201000000000 ps v0 v1 v2 v3 bn bo bm bp l o p r cT c bq bv hd bh hn (by have:=N.lt;omega) bg (λL bs E s=>?_) bd bu C).mono ?_;rcases N.names _ _ E with q|⟨q,_⟩|⟨t,_,q⟩;exact II<|q.symm.trans s;exact Oz _<|q.symm.trans s;exact DL _<|q.symm.trans s;rintro s P⟨rfl,w1,wr,KR,K8,k,a',b',c',d',num,ce,hM,i,ea,eb,ec,ed,br,bt,an,bf,bx,ad,W,ac⟩;have cM:=ce.size;have cB:=c.le;have co:=c.KM;have ca:∀au,qT a n.aN b d j au->∀m,bY au=M m->¬(Wr n.aN j ps m\/m=b):=by rintro au O m g(q|q);rcases q with q|⟨ao,x,q|q⟩;exact(O m g).2.1 q;have F:=(c.news ao x).1;rcases(O m g).2.2.2 with X|⟨S,fr,X⟩;have:=(F.lt m<|.inl q).1;omega;exact iA X F.mem.box (by decide) q;have F:=(c.news ao x).1;rcases(O m g).2.2.2 with X|⟨S,fr,X⟩;have:=(F.lt m<|.inr<|.inr q).1;omega;obtain⟨av,hc⟩:=fK F.data (k:=ao.x) rfl;exact iA X hc (by decide) q;exact(O m g).2.2.1 q
 have A:∀m,m<G (H a)->¬j.bw n.aN m->m≠b->Aside P K8 n.aN b m:=λm h Q h3=>
  ⟨ag h W.size,λq=>(ac m q).elim Q (λX=>by omega),h3⟩
 have f:∀m,Kc n.aN b d j m->m<G (H a)/\¬j.bw n.aN m/\m≠b:=λm g=>⟨by have:=g.1;omega,g.2.1,g.2.2⟩;have cc:∀ao∈ps,∀m,ao.has m->m<G (H a)/\¬j.bw n.aN m/\m≠b:=λao x m g=>by have h:=(c.news ao x).1.lt m g;exact⟨h.2,λq=>by have:=c.bw m q;omega,by omega⟩
 have v:∀w∈k,gP w.num∉pP n (l++o++p++r) k:=by intro w y q;unfold pP at q;rcases ap.1 q with X|X;split at X;rw[bI]at X;exact mZ _ _ X;cases X;obtain⟨t,e,s⟩:=bz.1 X;have e2:=vg s;unfold nF at e;rw[de]at e;have:k.any (λw=>w.num==t.num)=bX:=ji.2 ⟨w,y,by rw[e2];exact beq_self_eq_true _⟩;rw[this]at e;simp at e
 have ax:∀L,L∉pP n (l++o++p++r) k->L≠gY->ew (vw K8.files) L=ew (vw KR.files) L:=λL h Q=>by rw[an,tG h,vy,dh<|λq=>Q q.symm]
 have B:∀w∈k,∃cu:R->Prop,rV wr n.aN (vw KR.files) cu w/\(∀m,cu m->m<G (H a)/\¬j.bw n.aN m/\m≠b)/\w.num<num:=λw y=>by rcases hM.Qq w y with q|⟨ao,x,_,q,_,F⟩;exact⟨_,hM.Df w q,f,by have:=D w q;have:=hM.qS.1;omega⟩;exact⟨_,q,cc ao x,F⟩
 have hO:∀w∈k,rV P n.aN (vw K8.files) (Aside P K8 n.aN b) w:=λw y=>by obtain⟨cu,ho,S,_⟩:=B w y;have h:=ho.Sd (w':=P)<|λm g=>ad m (S m g).1 (S m g).2.1 (S m g).2.2;obtain⟨bb,av,F,E,ha⟩:=h.mem;refine⟨⟨bb,av,F,E,A bb (S bb ha).1 (S bb ha).2.1 (S bb ha).2.2⟩,A _ (S _ h.loc).1 (S _ h.loc).2.1 (S _ h.loc).2.2,h.ks,h.num,h.pure,h.idx,h.small,?_⟩;rw[ax _ (v w y)<|vT _];exact h.file
 have cb:num<=n.next+1000000:=by have:=hM.qS.2;simp only[af]at this;omega
 have u:∀au(f c:cR),qT a n.aN b d j au->Row a 1 au (z f) (f.map bJ.ptr)->c.map (λt=>(t.tb,t.ks,t.cs))=f.map (λt=>(t.tb,t.ks,t.cs))->(∀t∈c,t∈k)->FL P K8 n.aN b au c:=λau f c O hr he F=>by obtain⟨S,e2,_,_⟩:=lw he;refine⟨?_,λm g=>A m (O m g).1 (O m g).2.1 (O m g).2.2.1,λt e=>hO t<|F t e⟩;rw[S,e2];exact W.row hr<|λm g=>⟨ca au O m g,(O m g).1⟩
 have ba:∀m,Kc n.aN b d j m->P.heap[m]?=a.heap[m]?:=λm g=>W.block m (by have:=g.1;omega) (by
  rintro(q|q)
  .rcases q with q|⟨ao,x,q|q⟩
   .exact g.2.1 q
   .have:=((c.news ao x).1.lt m<|.inl q).1;have:=g.1;omega
   .have:=((c.news ao x).1.lt m<|.inr<|.inr q).1;have:=g.1;omega
  .exact g.2.2 q)
 have ch:∀t∈a',t∈k:=λt e=>by rw[i];simp[e]
 have cj:∀t∈b',t∈k:=λt e=>by rw[i];simp[e]
 have ck:∀t∈c',t∈k:=λt e=>by rw[i];simp[e]
 have cl:∀t∈d',t∈k:=λt e=>by rw[i];simp[e]
 have K:=hM.same;rw[bP]at K;refine⟨rfl,K8,num,a',b',c',d',⟨br,?_,?_,QY ea eb ec ed,?_,?_,⟨hM.qS.1,cb⟩,ac⟩,W⟩;exact{mem:=⟨rfl,.inl ⟨rfl,rfl⟩⟩,tr:=λm g=>(by cases g),l0:=u v0 bn a' c.b0 c.r0 ea ch,l1:=u v1 bo b' c.b1 c.r1 eb cj,l2:=u v2 bm c' c.b2 c.r2 ec ck,l3:=u v3 bp d' c.b3 c.r3 ed cl,aN:=bt,rI:=λq=>(ac b q).elim bh (λX=>by omega),kW:=⟨λcp hj=>(cP (w:=a)<|ba _ c.fC).trans<|c.steps cp hj,c.pow.dq<|ba _ c.mJ,A _ (f _ c.fC).1 (f _ c.fC).2.1 (f _ c.fC).2.2,A _ (f _ c.mJ).1 (f _ c.mJ).2.1 (f _ c.mJ).2.2⟩,qK:=(by rw[(lw ea).2.2.2,(lw eb).2.2.2,(lw ec).2.2.2,(lw ed).2.2.2];have:=c.qK;simp only[cS];omega),mw:=c.mw,mr:=dS.nil,jb:=by simp,s1:=Bp eb c.s1,s2:=Bp ec c.s2,s3:=Bp ed c.s3}
 .have F:∀t∈a'++b'++c'++d',t.num<num:=λt e=>by
   rw[<-i]at e;obtain⟨_,_,_,h3⟩:=B t e;exact h3
  refine{names:=?_,state:=.inl ?_,log:=λq=>(by cases q),Hc:=λ_=>rfl,zr:=?_,zF:=by rw[<-i];exact hM.zF,low:=λt e=>⟨by have:=F t e;omega,by have:=F t e;omega⟩,lt:=by omega,jb:=?_}
  .intro L bs E;rw[an]at E;obtain⟨h,Q⟩:=OR bf E;rw[vy]at Q;by_cases q:gY=L
   .exact .inl q.symm
   rw[dh q]at Q;obtain⟨gs,av,bb⟩:=hM.files;rw[av,jN]at Q;cases X:ew (vw j.files) L with
   |none=>
    rw[X,mB]at Q;obtain⟨w,y,s,_⟩:=bb _<|xX Q;simp only[hZ]at s;exact .inr<|.inr ⟨w,by rw[<-i];exact y,s.1⟩
   |some cx=>
    rcases N.names _ _ X with s|⟨s,al⟩|⟨t,e,s⟩
    .exact absurd s.symm q
    .refine absurd ?_ h;unfold pP;rw[al,dt rfl,s];simp
    .by_cases S:k.any (λw=>w.num==t.num)=bX
     .obtain⟨w,y,e2⟩:=ji.1 S;exact .inr<|.inr ⟨w,by rw[<-i];exact y,by rw[s,eq_of_beq e2]⟩
     .refine absurd ?_ h;unfold pP;rw[s];refine ap.2<|.inr<|bz.2 ⟨t,?_,rfl⟩;unfold nF;rw[de];exact⟨e,by simpa using S⟩
  .rw[an,tG<|λq=>((C k).2 _ q).1 rfl,vy,dt rfl];rfl
  .intro t e;rw[<-i]at e;exact(hO t e).file
  .intro t e;rw[<-i]at e;have:=hO t e;exact⟨this.ks,this.pure,this.idx,this.small,this.num⟩
 rw[<-i,Ux (T:=bn++bo++bm++bp) (i:=z<|bn++bo++bm++bp) (by rw[bP];exact K),bP];exact c.nodup;rw[bx];unfold pP;rw[af,cV];have h:z (nF (l++o++p++r) k)<=z (l++o++p++r):=fB _ _;split;simp only[aC,cS];omega;simp only[cS];omega
def sJ(h:Aside a j b c g):Kc b c (G<|H a) j g:=⟨h.lt,h.bw,h.ne⟩
def rV.Nl{f:Fs}{B:fN}(h:rV a b f X O)(e:∀k,X k->B k):rV a b f B O:=by
 obtain⟨g,d,c,j,i⟩:=h.mem;exact⟨⟨g,d,c,j,e _ i⟩,e _ h.loc,h.ks,h.num,h.pure,h.idx,h.small,h.file⟩
def ST.Yx{C C':R}(h:ST a b n j e i p r s C)(l:b<G (H a))(f:((i++p++r++s).map bJ.tb).Nodup)(m:z (cr i)+z (cr p)+z (cr r)+z (cr s)<=C')(g:C'<=1000000):LS a n.aN b (G<|H a) j (i++p++r++s) [] C' n.l0 n.l1 n.l2 n.l3 i p r s where
 D:=h.Jb
 le:=ai _
 bw:=h.aN.lt
 KM:=l
 steps:=h.kW.steps
 pow:=h.kW.pow
 fC:=sJ h.kW.fC
 mJ:=sJ h.kW.mJ
 vi:=λt d=>by
  simp only[ap]at d;rcases d with((q|q)|q)|q
  .exact(h.l0.each t q).Nl<|λ_=>sJ
  .exact(h.l1.each t q).Nl<|λ_=>sJ
  .exact(h.l2.each t q).Nl<|λ_=>sJ
  .exact(h.l3.each t q).Nl<|λ_=>sJ
 news:=by simp
 apart:=List.Pairwise.nil
 r0:=h.l0.row
 r1:=h.l1.row
 r2:=h.l2.row
 r3:=h.l3.row
 b0:=λk c=>⟨(h.l0.loc k c).lt,(h.l0.loc k c).bw,(h.l0.loc k c).ne,.inl (h.l0.loc k c).lt⟩
 b1:=λk c=>⟨(h.l1.loc k c).lt,(h.l1.loc k c).bw,(h.l1.loc k c).ne,.inl (h.l1.loc k c).lt⟩
 b2:=λk c=>⟨(h.l2.loc k c).lt,(h.l2.loc k c).bw,(h.l2.loc k c).ne,.inl (h.l2.loc k c).lt⟩
 b3:=λk c=>⟨(h.l3.loc k c).lt,(h.l3.loc k c).bw,(h.l3.loc k c).ne,.inl (h.l3.loc k c).lt⟩
 x0:=λt d=>.inl<|by simp[d]
 x1:=λt d=>.inl<|by simp[d]
 x2:=λt d=>.inl<|by simp[d]
 x3:=λt d=>.inl<|by simp[d]
 nodup:=f
 s1:=h.s1
 s2:=h.s2
 s3:=h.s3
 qK:=m
 mw:=g
def LS.Yn{n:aa}{o u:cR}{p:NT}(h:LS a b c g j i [] l d t L V r s o u)(A:J az a f)(y:p.Ok f (G<|H a))(w:Na p.t)(x:f.ownsRow (G<|H a) 224 1 n (z<|r++[p.t]) ((r++[p.t]).map bJ.ptr))(E:z (cr r)+z (cr s)+z (cr o)+z (cr u)+z p.t.all<=l):LS f b c g j i [p] l n t L V (r++[p.t]) s o u:=by
 have h':=h.ay (A.mono cN)<|(mN b j).fq h.D A cN;refine{h' with news:=?_,apart:=by simp,r0:=dr x,b0:=vY x h.bw h.KM h.le,x0:=?_,x1:=λk q=>(h.x1 k q).more [p],x2:=λk q=>(h.x2 k q).more [p],x3:=λk q=>(h.x3 k q).more [p],nodup:=?_,qK:=?_};intro q e;rw[bI]at e;subst e;exact⟨y.base h.le,w⟩;intro k q;rcases ap.1 q with q|q;exact(h.x0 k q).more [p];rw[bI]at q;exact .inr ⟨p,by simp,q.symm⟩;(have e:(r++[p.t]++s++o++u).Perm (p.t::(r++s++o++u)):=by(have v:r++[p.t]++s++o++u=r++p.t::(s++o++u):=by simp);(have B:r++s++o++u=r++(s++o++u):=by simp only[aW]);rw[v,B];exact lj);rw[(e.map bJ.tb).nodup_iff,aZ,kP];refine⟨λq=>?_,h.nodup⟩;obtain⟨k,m,F⟩:=bz.1 q;have C:=y.new;(have D:k.tb<G (H a):=by simp only[ap]at m;rcases m with((v|v)|v)|v;exact XT.qR h<|h.x0 k v;exact XT.qR h<|h.x1 k v;exact XT.qR h<|h.x2 k v;exact XT.qR h<|h.x3 k v);omega;rw[eV];(have:cr [p.t]=p.t.all:=by simp[cr]);rw[this,af];omega
def Vg(i:Nd a f b e k c g l y)(h:e≠[])(j:∀x∈e,x.Good)(m:dS e)(n:z e<=100):NT.Ok f (G<|H a) ⟨⟨b,bO 0 k,k,0⟩,c,g,l,y⟩/\Na ⟨b,bO 0 k,k,0⟩/\bJ.all ⟨b,bO 0 k,k,0⟩=e:=by
 have d:k.flatten=e:=i.pieces.flat;refine⟨⟨rfl,rfl,by show qH k.flatten k;rw[d];exact i.pieces,i.mem,i.data,i.Gq,i.new⟩,⟨i.pieces.yu h j m,i.pieces.idx h j m n,?_⟩,d⟩;have o:=i.pieces.data;have p:=i.pieces.length;show z (dL k)<=100000;omega
def LS.XM{w:cD NT}{B:cR}(h:LS a b c g j i w l d t L V p r s B):∃k,LS a b c g k i w l d t L V p r s B/\cU a b k/\k.files=j.files/\k.eU=j.eU/\∀n,k.bw b n->j.bw b n:=by
 obtain⟨y,k,u,v,x,o⟩:=h.D;have f:∀n,Kc b c g j n->Kc b c g k n:=λn m=>⟨m.1,λq=>m.2.1<|o n q,m.2.2⟩;have e:∀v,qT a b c g j v->qT a b c g k v:=λv f n m=>⟨(f n m).1,λq=>(f n m).2.1<|o n q,(f n m).2.2⟩;refine⟨k,{h with D:=Qc u u.lt,bw:=λn m=>h.bw n<|o n m,fC:=f _ h.fC,mJ:=f _ h.mJ,vi:=λC A=>?_,b0:=e _ h.b0,b1:=e _ h.b1,b2:=e _ h.b2,b3:=e _ h.b3},u,v,x,o⟩;rw[v];exact(h.vi C A).Nl f
def LS.other{F:cD NT}{S W:cR}(h:LS a b c g j p F l d t L V r s S W)(o:J X a f)(x:∀k,X k->g<=k/\∃v w,a.heap[k]?=M (aw v 107 w)):LS f b c g j p F l d t L V r s S W:=by
 have hF:∀k,X k->¬(mN b j).F k:=λk e q=>by have:=h.bw k q;have:=(x k e).1;omega
 have u:∀k,Kc b c g j k->¬X k:=λk e q=>by have:=e.1;have:=(x k q).1;omega
 have m:∀A,qT a b c g j A->∀k,bY A=M k->¬X k:=λA y k e q=>by obtain⟨P,v,w,B⟩:=x k q;rcases(y k e).2.2.2 with O|⟨C,K,O⟩;omega;exact iA O B (by decide) rfl
 have n:∀A,qT a b c g j A->qT f b c g j A:=λA y k e=>by obtain⟨C,K,O,P⟩:=y k e;exact⟨ag C o.size,K,O,P.imp id<|λ⟨v,w,a⟩=>⟨v,w,(o.block k C<|m A y k e).trans a⟩⟩
 refine{h with D:=(mN b j).fq h.D o hF,le:=aF h.le o.size,steps:=λad Q=>o.cell (h.steps ad Q) (u _ h.fC)<|ag h.fC.1 h.le,pow:=h.pow.dq<|o.block _ (ag h.mJ.1 h.le)<|u _ h.mJ,vi:=λal N=>(h.vi al N).Sd<|λk e=>o.block k (ag e.1 h.le)<|u k e,news:=λac E=>⟨?_,(h.news ac E).2⟩,r0:=o.row h.r0<|λk e=>⟨m _ h.b0 k e,(h.b0 k e).1⟩,r1:=o.row h.r1<|λk e=>⟨m _ h.b1 k e,(h.b1 k e).1⟩,r2:=o.row h.r2<|λk e=>⟨m _ h.b2 k e,(h.b2 k e).1⟩,r3:=o.row h.r3<|λk e=>⟨m _ h.b3 k e,(h.b3 k e).1⟩,b0:=n _ h.b0,b1:=n _ h.b1,b2:=n _ h.b2,b3:=n _ h.b3};exact Th.other (h.news ac E).1 o (λk e=>by obtain⟨_,v,w,B⟩:=x k e;exact⟨v,_,w,B,by decide,by decide,by decide⟩)
structure SV(w:I)(sb:R)(s:SR)(k:Y)(lb:R)(K:DK)(T0:cR)(C n:R)(ms:eP)(R0:Y->ab->Option ab)(wr:I)(v0 v1 v2 v3:aa)(a b c d:cR)(ps:cD NT):Prop where
 ls:LS wr s.aN sb (G<|H w) K T0 ps C v0 v1 v2 v3 a b c d
 lb:wr.heap[lb]?=M (aw #[v0,v1,v2,v3] 107 (0,0))
 pr:PR n (bZ a b c d)
 uA:∀t,(t∈ms\/(n:Y)<=t)->∀q,fj t (bZ a b c d) q=R0 t q
 box:bM wr sb s k
 ay:J (K.bw s.aN) w wr
def MW(w:I)(a:R)(s:SR)(o:Y)(d:R)(K:DK)(c:cR)(C p:R)(e:eP)(b:Y->ab->Option ab)(wr:I):Prop:=∃g h i j k l m n f,SV w a s o d K c C p e b wr g h i j k l m n f
def Hm(w:I)(a i:R):R:=match aS w (U a i)with
 |some (.slice _ n _)=>n
 |_=>0
def UG{x:Option Addr}{c:R}(h:aS a (U b g)=M (ah x l c)):Hm a b g=l:=by
 unfold Hm;rw[h]
def SV.put{O wr e:I}{C:Y->ab->Option ab}{F K L N u0 u1 u2 u3:aa}{X b ac ad r s t u:cR}{W k:cD NT}(v:SV O c n m g j i l y o C wr F K L N X b ac ad W)(w:G (H O)<=g)(A:¬j.bw n.aN c)(P:LS e n.aN c (G<|H O) j i k l u0 u1 u2 u3 r s t u)(Q:PR y (bZ r s t u))(S:∀B,(B∈o\/(y:Y)<=B)->∀q,fj B (bZ r s t u) q=fj B (bZ X b ac ad) q)(h:J (j.bw n.aN) wr e):e.heap[g]?=M (aw #[F,K,L,N] 107 (0,0))/\SV O c n m g j i l y o C (ct (ct (ct (ct e (U g 0) u0) (U g 1) u1) (U g 2) u2) (U g 3) u3) u0 u1 u2 u3 r s t u k:=by
 have x:¬j.bw n.aN g:=λq=>by have:=v.ls.bw g q;omega
 have a:=(h.block g (am v.lb) x).trans v.lb;have d:J (λq=>q=g) e (ct (ct (ct (ct e (U g 0) u0) (U g 1) u1) (U g 2) u2) (U g 3) u3):=(((ij g e).setCell _ _ _<|.inl rfl).setCell _ _ _<|.inl rfl).setCell _ _ _<|.inl rfl;have V:c<G (H O):=v.ls.KM;refine⟨a,P.other d (λq E=>by subst E;exact⟨w,_,_,a⟩),Ji a,Q,λB h q=>(S B h q).trans<|v.uA B h q,?_,?_⟩;have D:=(h.block c (am v.box) A).trans v.box;exact(d.block c (am D)<|λq=>by omega).trans D;exact(v.ay.trans h<|λ_ q=>.inl q).trans d<|λq E=>.inr<|by omega
def FK.bw{g:fw}(k:FK a j c n g)(e:J (j.bw n.aN) a B):FK B j c n g:=by
 obtain⟨b,h,i,d⟩:=k.ex;exact⟨⟨b,h,i.dq<|e.block _ d.lt d.bw,ag d.lt e.size,d.bw,d.ne⟩,k.len⟩
def LS.XX{w wr:I}{m:cD NT}{e:aa}{u:cR}(n:LS wr b c g j i m l d t L V p r s u)(h:J az wr w)(a:w.ownsRow (G<|H wr) 103 1 e (z o) (o.map<|Value.int .u64)):LS w b c g j i m l d t L V p r s u/\Row w 1 e (z o) (o.map<|Value.int .u64)/\∀k,bY e=M k->k<G (H w)/\¬j.bw b k:=⟨n.ay (h.mono cN)<|(mN b j).fq n.D h cN,dr a,λk f=>⟨(aI a k f).2,λq=>by have:=n.bw k q;have:=n.le;have:=(aI a k f).1;omega⟩⟩
structure JZ(w w':I)(sb:R)(s:SR)(k:Y)(n C:R)(K:DK)(ms:eP)(R0:Y->ab->Option ab)(v0 v1 v2 v3:aa)(K':DK)(num:R)(a' b' c' d':cR):Prop where
 box:bM w' sb (s.settled v0 v1 v2 v3 n num) k
 st:ST w' sb (s.settled v0 v1 v2 v3 n num) K' [] a' b' c' d' C
 rh:Tl (vw K'.files) (num+1) num n a' b' c' d' bF []
 pr:PR n (bZ a' b' c' d')
 uA:∀t,(t∈ms\/(n:Y)<=t)->∀q,fj t (bZ a' b' c' d') q=R0 t q
 Gg:((a'++b'++c'++d').map bJ.tb).Nodup
 eU:z K'.eU<=1000001
 num:s.next<=num/\num<=s.next+1000000
 fm:gq w w' s.aN sb K K'
def PR.mono(h:PR c k)(d:c<=g):PR g k:=⟨h.pM,h.mr,h.jb,λx a=>by have:=h.low x a;omega⟩
def DS(lb:R)(ao ac:R)(ms:eP)(W:Y->ab->Option ab)(wr:I)(x y A B:aa)(ax b ad ba:cR)(ps:cD NT)(u:SV a c n m lb j (i++p++r++s) ao ac ms W wr x y A B ax b ad ba ps)(h0:bM a c n m)(d:ST a c n j e i p r s g)(hI:Tl (vw j.files) n.next n.log l i p r s n.gF k)(S:z (lY ((l:Y)+1) k)<=200000)(hn:ac<1000000000000000)(Q:n.next<=900000000000000)(P:z j.eU<=10000000000):cA bG 89 #[aA c,eB #[x,y,A,B],aL ac] wr λal w'=>al=aP .nilIface/\∃C num D E F K,JZ a w' c n m ac ao j ms W x y A B C num D E F K:=by
 obtain⟨K1,L,N,e1,e2,v⟩:=u.ls.XM;have X:=d.count;have V:z (i++p++r++s)<=1000000:=by have w:=d.qK;have h2:=d.mw;have:=lG<|λav t=>(d.l0.each av t).pure;have:=lG d.s1.pure;have:=lG d.s2.pure;have:=lG d.s3.pure;simp only[af];omega
 have O:Du wr c 10 [(n.l0,i),(n.l1,p),(n.l2,r),(n.l3,s)]:=by refine(d.YC h0).ay u.ay d.rI<|λw hi f h=>?_;(have:w=0\/w=1\/w=2\/w=3:=by simp at hi;omega);rcases this with rfl|rfl|rfl|rfl;exact(d.l0.loc f h).bw;exact(d.l1.loc f h).bw;exact(d.l2.loc f h).bw;exact(d.l3.loc f h).bw
 have au:=u.ls.KM;refine(Pn (G<|H a) ao ac l ps x y A B ax b ad ba i p r s k u.box L O N (λq=>d.rI<|v c q) (by rw[e1];exact hI) S hn Q (by rw[e2];exact P) V ?_ ?_).mono ?_;obtain⟨w,ad,al⟩:=bS d.mem;exact⟨w,_,ad,al⟩;have w:∀f,Aside a j n.aN c f->Kc n.aN c (G<|H a) K1 f:=λf q=>⟨q.lt,λan=>q.bw<|v f an,q.ne⟩;rintro bb(rfl|rfl|rfl|rfl)f h;exact w _<|d.l0.loc f h;exact w _<|d.l1.loc f h;exact w _<|d.l2.loc f h;exact w _<|d.l3.loc f h;rintro al w'⟨rfl,C,num,D,E,F,K,o,t⟩;have hz:=u.ay.size;refine⟨rfl,C,num,D,E,F,K,o.box,o.st,o.rh,by rw[o.rows];exact u.pr,λav t q=>by rw[o.rows];exact u.uA av t q,o.Gg,o.eU,o.num,o.st.aN,?_,?_⟩;refine(u.ay.mono (T:=λf=>j.bw n.aN f\/f=c)<|λ_ q=>.inl<|.inl q).trans t<|λf q=>?_;rcases q with(q|⟨bb,w,q⟩)|q;exact .inl<|.inl<|v f q;refine .inr ?_;rcases q with q|q;exact((u.ls.news bb w).1.lt f<|.inl q).1;exact((u.ls.news bb w).1.lt f<|.inr<|.inr q).1;exact .inl<|.inr q;intro f q;rcases o.bw f q with an|an;exact .inl<|v f an;exact .inr<|by omega
def MW.step{bc wr:I}{L:fw}{R0:Y->ab->Option ab}(hS:MW bc b n m c j i g l (sG L) R0 wr)(au:G (H bc)<=c)(av:¬j.bw n.aN b)(W:FK bc j b n L)(bb:2<=n.yu)(al:R)(hi:al<4):∃(v w x y:Option Addr)(n0 n1 n2 n3 A B C D:R)(bg:Option Addr)(ac ad:R)(bh:Bool),wr.heap[c]?=M (aw #[ah v n0 A,ah w n1 B,ah x n2 C,ah y n3 D] 107 (0,0))/\(#[ah v n0 A,ah w n1 B,ah x n2 C,ah y n3 D]:Array aa)[al]?=M (ah bg ac ad)/\(cA bG 102 #[aA b,aq (al:R),ah bg ac ad] wr λS w2=>S=aP (aO bh)/\w2=wr)/\(bh=bX->∀(t:I)(Q:Option Addr)(N:R)(k:eP),J az wr t->t.ownsRow (G<|H wr) 103 1 (ah Q (z k) N) (z k) (k.map<|Value.int .u64)->k.Perm (sG L)->cA bG 119 #[eB #[ah v n0 A,ah w n1 B,ah x n2 C,ah y n3 D],aq (al:R),ah Q (z k) N] t λS w2=>∃(r0 r1 r2 r3:Option Addr)(m0 m1 m2 m3 t0 t1 t2 t3:R),S=aP (dE #[eB #[ah r0 m0 t0,ah r1 m1 t1,ah r2 m2 t2,ah r3 m3 t3],.nilIface])/\w2.heap[c]?=M (aw #[ah v n0 A,ah w n1 B,ah x n2 C,ah y n3 D] 107 (0,0))/\MW bc b n m c j i g l (sG L) R0 (ct (ct (ct (ct w2 (U c 0)<|ah r0 m0 t0) (U c 1)<|ah r1 m1 t1) (U c 2)<|ah r2 m2 t2) (U c 3)<|ah r3 m3 t3)/\Hm (ct (ct (ct (ct w2 (U c 0)<|ah r0 m0 t0) (U c 1)<|ah r1 m1 t1) (U c 2)<|ah r2 m2 t2) (U c 3)<|ah r3 m3 t3) c al<Hm wr c al)/\∀ao,J az wr ao->cA bG 50 #[aA b] ao λS w2=>∃O,∃k:eP,S=aP O/\k.Perm (sG L)/\w2.ownsRow (G<|H wr) 103 1 O (z k) (k.map<|Value.int .u64)/\J az wr w2:=by
 obtain⟨v0,v1,O,v3,bd,ax,ba,bf,ps,a⟩:=hS;obtain⟨v,A,rfl⟩:=bS a.ls.r0;obtain⟨w,B,rfl⟩:=bS a.ls.r1;obtain⟨x,C,rfl⟩:=bS a.ls.r2;obtain⟨y,D,rfl⟩:=bS a.ls.r3;have K:∀ao,J az wr ao->cA bG 50 #[aA b] ao λS w2=>∃O,∃k:eP,S=aP O/\k.Perm (sG L)/\w2.ownsRow (G<|H wr) 103 1 O (z k) (k.map<|Value.int .u64)/\J az wr w2:=λao hW=>by obtain⟨mb,m1,m2,m3⟩:=(W.bw a.ay).ex;apply(ug (b:=mb) L ((hW.block b (am a.box) id).trans a.box) m1 (m2.dq<|hW.block _ m3.lt id) W.len).mono;rintro S w2⟨O,k,rfl,l1,l2,l3⟩;exact⟨O,k,rfl,l1,eM l2 hW.size,hW.cw l3⟩
 have h4:∀k:eP,k.Perm (sG L)->z k<=4:=λk s=>by have:=s.length_eq;rw[oZ]at this;have:=W.len;omega
 have fin:=λ(t w2:I)(k:eP)(u0 u1 u2 u3:aa)(c d c' e:cR)(o:cD NT)(F:J az wr t)(s:k.Perm (sG L))(r:LS w2 n.aN b (G<|H bc) j i o g u0 u1 u2 u3 c d c' e)(f:PR l (bZ c d c' e))(h:∀an,(an∈k\/(l:Y)<=an)->∀q,fj an (bZ c d c' e) q=fj an (bZ bd ax ba bf) q)(p:J (j.bw n.aN) t w2)=>a.put au av r f (λan u=>h an<|u.imp_left<|λq=>s.mem_iff.2 q)<|(F.mono (T:=j.bw n.aN) cN).trans p<|λ_ q=>.inl q;have r:∀{ao:I}{u0 u1 u2 u3:aa}(j:R)(e:Option Addr)(d an:R),ao.heap[c]?=M (aw #[u0,u1,u2,u3] 107 (0,0))->#[u0,u1,u2,u3][j]?=M (ah e d an)->Hm ao c j=d:=λj e d an a b=>UG (x:=e) (c:=an)<|(bL a).trans b;rcases(show al=0\/al=1\/al=2\/al=3 by omega)with rfl|rfl|rfl|rfl;refine⟨v,w,x,y,_,_,_,_,A,B,C,D,v,z bd,A,_,a.lb,rfl,rS 0 (z bd) v A a.box (by omega),λE t Q N k F X s=>?_,K⟩;(have d:0<z bd:=by unfold AK at E;simp at E;omega);have u:=a.ls.XX F X;apply(u.1.YL a.pr d k Q N u.2.1 u.2.2<|h4 k s).mono;rintro S w2⟨x',n',c',tm,h,rfl,o,e,f,p⟩;obtain⟨x1,P⟩:=fin t w2 k _ _ _ _ _ _ _ _ h F s o e f p;exact⟨_,_,_,_,_,_,_,_,_,_,_,_,rfl,x1,⟨_,_,_,_,_,_,_,_,h,P⟩,by rw[r 0 _ _ _ P.lb rfl,r 0 _ _ _ a.lb rfl];omega⟩;refine⟨v,w,x,y,_,_,_,_,A,B,C,D,w,z ax,B,_,a.lb,rfl,rS 1 (z ax) w B a.box (by omega),λE t Q N k F X s=>?_,K⟩;(have d:0<z ax:=by unfold AK at E;simp at E;omega);have u:=a.ls.XX F X;apply(u.1.YK a.pr d k Q N u.2.1 u.2.2<|h4 k s).mono;rintro S w2⟨xl,nl,cl,x',n',c',b2,c2,h,rfl,o,V,e,f,p⟩;obtain⟨x1,P⟩:=fin t w2 k _ _ _ _ _ _ _ _ h F s o e f p;obtain⟨_,_,S⟩:=bS o.r1;cases S;exact⟨_,_,_,_,_,_,_,_,_,_,_,_,rfl,x1,⟨_,_,_,_,_,_,_,_,h,P⟩,by rw[r 1 _ _ _ P.lb rfl,r 1 _ _ _ a.lb rfl];omega⟩;refine⟨v,w,x,y,_,_,_,_,A,B,C,D,x,z ba,C,_,a.lb,rfl,rS 2 (z ba) x C a.box (by omega),λE t Q N k F X s=>?_,K⟩;(have d:0<z ba:=by unfold AK at E;simp at E;omega);have u:=a.ls.XX F X;apply(u.1.YJ a.pr d k Q N u.2.1 u.2.2<|h4 k s).mono;rintro S w2⟨xl,nl,cl,x',n',c',c2,d2,h,rfl,o,V,e,f,p⟩;obtain⟨x1,P⟩:=fin t w2 k _ _ _ _ _ _ _ _ h F s o e f p;obtain⟨_,_,S⟩:=bS o.r2;cases S;exact⟨_,_,_,_,_,_,_,_,_,_,_,_,rfl,x1,⟨_,_,_,_,_,_,_,_,h,P⟩,by rw[r 2 _ _ _ P.lb rfl,r 2 _ _ _ a.lb rfl];omega⟩;refine⟨v,w,x,y,_,_,_,_,A,B,C,D,y,z bf,D,_,a.lb,rfl,rS 3 (z bf) y D a.box (by omega),λE=>?_,K⟩;simp[AK]at E
structure Inv(w:I)(sb:R)(s:SR)(K:DK)(m:cK)(a b c d:cR)(C tb N:R)(ls:dX)(sn:fw):Prop where
 st:ST w sb s K m a b c d C
 rh:Tl (vw K.files) s.next s.log tb a b c d s.gF ls
 pr:PR tb (bZ a b c d)
 lp:FH ((tb:Y)+1) ls
 mem:kr s.bj m=gQ [] ls.flatten
 Ng:∀x∈m,(tb:Y)<x.bK/\x.bK<=s.bj
 WH:z m<=(ls.map z).sum
 XC:rm 5 m
 oY:FK w K sb s sn
 TD:∀p∈sn,p.2<=s.bj
 Be:s.bj=tb+z ls
 VE:s.ir=(ls.map z).sum
 vP:s.vP=bF
 Gg:((a++b++c++d).map bJ.tb).Nodup
 nx:s.next<=2+1000001*N
 bn:s.bj<=N
 eU:z K.eU<=1000001+2*N
 Ti:1<=s.mem/\s.mem<=32/\2<=s.yu/\s.yu<=6
 loose:s.kC=bX->s.gF=bX
 UD:s.gF=bX->ls≠[]
 mw:N<=100000000
def ST.Vt(h:ST a b n j e i p r s c)(k:b<G (H a))(d:gq a f n.aN b j N)(g:∀l,ew (vw N.files) (gP l)=ew (vw j.files) (gP l)):ST f b n N e i p r s c where
 mem:=Aj h.mem d h.tr
 tr:=λg b=>(h.tr g b).fm d
 l0:=h.l0.fm d<|λ_ _=>g _
 l1:=h.l1.fm d<|λ_ _=>g _
 l2:=h.l2.fm d<|λ_ _=>g _
 l3:=h.l3.fm d<|λ_ _=>g _
 aN:=d.ok
 rI:=λr=>(d.bw b r).elim h.rI<|λg=>by omega
 kW:=h.kW.fm d
 qK:=h.qK
 mw:=h.mw
 mr:=h.mr
 jb:=h.jb
 s1:=h.s1
 s2:=h.s2
 s3:=h.s3
def ST.TU{f s':SR}{C C':R}(h:ST a b f j e i p r s C)(v:s'.aN=f.aN/\s'.l0=f.l0/\s'.l1=f.l1/\s'.l2=f.l2/\s'.l3=f.l3)(o:ku a s'.memory K)(d:∀u,bY s'.memory=M u->Aside a j f.aN b u)(q:dS K)(n:∀x∈K,x.Good)(w:z K+C<=C'+z e)(t:C'<=1000000):ST a b s' j K i p r s C':=by
 obtain⟨c,g,k,l,m⟩:=v;refine{mem:=o,tr:=by rw[c];exact d,l0:=by rw[c,g];exact h.l0,l1:=by rw[c,k];exact h.l1,l2:=by rw[c,l];exact h.l2,l3:=by rw[c,m];exact h.l3,aN:=by rw[c];exact h.aN,rI:=by rw[c];exact h.rI,kW:=by rw[c];exact h.kW,qK:=by have:=h.qK;omega,mw:=t,mr:=q,jb:=n,s1:=h.s1,s2:=h.s2,s3:=h.s3}
def ST.fields{d s':SR}(h:ST a b d j e i p r s c)(g:s'.aN=d.aN/\s'.l0=d.l0/\s'.l1=d.l1/\s'.l2=d.l2/\s'.l3=d.l3)(f:s'.memory=d.memory):ST a b s' j e i p r s c:=h.TU g (by rw[f];exact h.mem) (by rw[f];exact h.tr) h.mr h.jb (by omega) h.mw
def Ri(f:Y)(a:dX)(l:cK):lY f (a++[l])=lY f a++Dc (f+z a) l:=by
 induction a generalizing f with
 |nil=>simp[lY]
 |cons x r b=>
  rw[cC,lY,b,lY,aW,aC];congr 3;push_cast
  omega
def FH.snoc(h:FH m k)(g:∀x∈e,x.Good)(f:∀x∈e,x.bK=m+z k)(d:1<=z e/\z e<=8)(i:(k.map z).sum+z e<32)(n:m+z k+1<18446744073709551616):FH m (k++[e])where
 jb:=λx a=>by
  rcases ap.1 a with c|c
  .exact h.jb x c
  .rw[bI]at c;rw[c];exact g
 num:=λj b x a=>by
  by_cases c:j<z k
  .rw[oK c]at a;exact h.num j c x a
  .have l:j=z k:=by rw[af]at b;simp at b;omega
   subst l;rw[ou<|ai _]at a;simp at a;exact f x a
 one:=λx a=>by
  rcases ap.1 a with c|c
  .exact h.one x c
  .rw[bI]at c;rw[c];exact d
 sum:=by rw[aQ,gw];simpa using i
 f0:=h.f0
 f1:=by rw[af];push_cast;simp;omega
def zd(l m n:cK):gQ l (m++n)=gQ (gQ l m) n:=by
 unfold gQ;rw[iQ]
def EI{l m:cK}(h:w∈gQ l m):w∈l\/w∈m:=by
 induction m generalizing l with
 |nil=>exact .inl h
 |cons e r a=>
  rcases a (l:=tg l e) h with c|c
  .rcases yD.1 c with g|g
   .rw[g];exact .inr<|by simp
   .exact .inl g.1
  .exact .inr<|by simp[c]
def FH.wJ(h:FH ((b:Y)+1) k):∀x∈k.flatten,(b:Y)<x.bK/\x.bK<=(b+z k:R):=by
 intro x e;obtain⟨l,d,a⟩:=bC.1 e;obtain⟨i,c,rfl⟩:=gS.1 d;have:=h.num i c x a;push_cast
 omega
def Inv.WG{d:fw}(h:Inv a b n j e i p r s c g l k d):z e<=31:=by
 have f:=h.WH;have m:=h.lp.sum;omega
def Inv.row{m:cR}{f:fw}(h:Inv a b n N e p r s m c g l k f):gT e:=⟨h.st.mr,λo d=>uk<|h.st.jb o d⟩
def Inv.all{i b m o:cR}{f:fw}(h:Inv a c n j e i b m o g l y k f):PR n.bj (e::bZ i b m o):=h.pr.cons (by have:=h.Be;omega) h.st.mr h.st.jb (λx d=>(h.Ng x d).1)<|λx d=>(h.Ng x d).2
def gu(b:fw)(m a:cK):cK:=dV (sG b)<|fJ m a
def Inv.NK{o:fw}(h:Inv a b n j e i p r s c g l k o):z (lY ((g:Y)+1) k)<=200000/\z k<=31:=by
 have q:=ue (f:=(g:Y)+1)<|λm d=>⟨h.lp.jb m d,(h.lp.one m d).2⟩;have t:=DO<|λm d=>(h.lp.one m d).1;have u:=h.lp.sum;exact⟨by omega,by omega⟩
def Inv.DD{f:fw}(h:Inv a b n j e i p r s c g l k f):z (i++p++r++s)<=1000000:=by
 have d:=h.st.qK;have m:=h.st.mw;have:=lG<|λt d=>(h.st.l0.each t d).pure;have:=lG h.st.s1.pure;have:=lG h.st.s2.pure;have:=lG h.st.s3.pure;simp only[af];omega
def JZ.inv{h:fw}{w:Y->ab->Option ab}{num:R}(k:JZ a f c n m g l j (sG h) w d t L V N num i p r s)(e:1<=n.mem/\n.mem<=32/\2<=n.yu/\n.yu<=6)(B:n.next<=2+1000001*y)(A:g<=y+1)(x:y+1<=100000000)(v:FK a j c n h)(u:∀C∈h,C.2<=n.bj)(o:n.bj<=g):Inv f c (n.settled d t L V g num) N [] i p r s l g (y+1) [] h where
 st:=k.st
 rh:=k.rh
 pr:=k.pr
 lp:=⟨by simp,by simp,by simp,by simp,by omega,by simp;omega⟩
 mem:=rfl
 Ng:=by simp
 WH:=by simp
 XC:=rm.nil _
 oY:=(v.fm k.fm).fields ⟨rfl,rfl⟩
 TD:=λC e=>aF (u C e) o
 Be:=rfl
 VE:=rfl
 vP:=rfl
 Gg:=k.Gg
 nx:=by have:=k.num;show num+1<=_;omega
 bn:=A
 eU:=by have:=k.eU;omega
 Ti:=e
 loose:=λq=>(by cases q)
 UD:=λq=>(by cases q)
 mw:=x
section
variable{w:I}{sbqq:R}{s:SR}{K:DK}{m e:cK}{a b c d:cR}{C tbqq N:R}{lsqq:dX}{sn:fw}
theorem uY(sn:fw)(m e:cK):(gu sn m e).Sublist (fJ m e):=jy _ _
theorem yr(sn:fw)(m e:cK):z (gu sn m e)<=z m+z e:=aF (uY sn m e).length_le<|xw m e
theorem Bk{x:E}(h:x∈gu sn m e):x∈m\/x∈e:=xL<|(uY sn m e).subset h
theorem yq(h:dS m)(sn:fw)(e:cK):dS (gu sn m e):=(h.fJ e).sub<|uY sn m e
theorem yp(h:dS m)(f:z sn<=4)(e:cK):rm 5 (gu sn m e):=(yt<|h.fJ e).mono (by rw[oZ];omega)
theorem Gz(k:gT m){f:Y}(j:∀x∈m,x.bK<=f)(i:∀g∈e,g.key≠⟨#[]⟩)(h:∀g∈e,g.bK=f+1)(sn:fw):kr (f+1) (gu sn m e)=gQ (kr f m) e:=by
 have:=xC (rest:=[]) (ms:=sG sn) k (by simp) i h j (by simp);unfold gu;simpa using this
theorem Inv.EA(h:Inv w sbqq s K m a b c d C tbqq N lsqq sn)(i:∀x∈e,x.Good)(g:∀x∈e,x.bK=(s.bj:Y)+1):(∀x∈gu sn m e,x.Good)/\(∀x∈gu sn m e,(tbqq:Y)<x.bK/\x.bK<=(s.bj:Y)+1)/\kr ((s.bj:Y)+1) (gu sn m e)=gQ (gQ [] lsqq.flatten) e:=by
 have j:=h.Be;refine⟨λx f=>(Bk f).elim (h.st.jb x)<|i x,λx f=>?_,?_⟩;rcases Bk f with q|q;have:=h.Ng x q;omega;have:=g x q;omega;rw[Gz h.row (λx f=>(h.Ng x f).2) (λk j=>uk<|i k j) g sn,h.mem]
theorem Inv.Un(k:Inv w sbqq s K m a b c d C tbqq N lsqq sn)(j:∀x∈e,x.Good)(h:∀x∈e,x.bK=(s.bj:Y)+1){t:Y}(f:t∈sG sn)(q:ab):fj t (gu sn m e::bZ a b c d) q=fj t (m::bZ a b c d) q:=by
 have g:t<=s.bj:=by unfold sG at f;obtain⟨p,i,rfl⟩:=bz.1 f;exact_mod_cast k.TD p i
 unfold fj;rw[show gu sn m e=dV (sG sn) (fJ m e)from rfl,DZ k.row (λl i=>uk<|j l i) h f g]
theorem Inv.Uq(h:Inv w sbqq s K m a b c d C tbqq N lsqq sn)(j:∀x∈e,x.Good)(g:∀x∈e,x.bK=(s.bj:Y)+1)(q:ab):fj ((s.bj:Y)+1) (gu sn m e::bZ a b c d) q=seen (gQ (kr s.bj m) e::(bZ a b c d).map (kr s.bj)) q:=by
 unfold fj;rw[show gu sn m e=dV (sG sn) (fJ m e)from rfl,xC h.row h.pr.row (λl i=>uk<|j l i) g (λx f=>(h.Ng x f).2) (λr k x f=>by have n:=h.pr.low x<|bC.2 ⟨r,k,f⟩;have:=h.Be;omega)]
end
def DT(mv:aa){bl:cR}(ec eb:R)(h:bM a b n m)(u:ST a b n j e i r s bl c)(cm:((i++r++s++bl).map bJ.tb).Nodup)(fs:PR g (bZ i r s bl))(hm:ku a mv K)(ev:∀m,bY mv=M m->m<G (H a))(fe:dS K)(fL:rm 5 K)(ey:∀hp∈K,hp.Good)(gA:z K<=100)(eu:∀hp∈K,(g:Y)<hp.bK)(et:∀hp∈K,hp.bK<=eb)(fz:g<=eb)(hC:z (cr i)+z (cr r)+z (cr s)+z (cr bl)+z K<=ec)(gt:ec<=1000000)(fx:2<=n.yu)(hI:Tl (vw j.files) n.next n.log g i r s bl n.gF k)(he:z (lY ((g:Y)+1) k)<=200000)(hw:eb<1000000000000000)(hc:n.next<=900000000000000)(ha:z j.eU<=10000000000)(sn:fw)(fv:FK a j b n sn):cA bG 71 #[aA b,mv,aL eb] a λge w'=>ge=aP .nilIface/\∃v0 v1 v2 v3 K' num a' b' c' d',JZ a w' b n m eb ec j (sG sn) (λgf=>fj gf<|K::bZ i r s bl) v0 v1 v2 v3 K' num a' b' c' d':=by
 have fu:=am h;have bo:=u.Yx (C':=ec) fu cm (by omega) gt;have ch:=λl wr v0 v1 v2 v3 a1 b1 c1 d1 b a=>DS l ec eb (sG sn) (λgf=>fj gf<|K::bZ i r s bl) wr v0 v1 v2 v3 a1 b1 c1 d1 b a h u hI he hw hc ha;obtain⟨y0,z0,dd⟩:=bS u.l0.row;obtain⟨y1,z1,dk⟩:=bS u.l1.row;obtain⟨y2,z2,dm⟩:=bS u.l2.row;obtain⟨y3,z3,dn⟩:=bS u.l3.row;have hy:aS a (U b 10)=M (ah y0 (z i) z0):=by rw[<-dd];exact h.cell rfl
 have hA:aS a (U b 11)=M (ah y1 (z r) z1):=by rw[<-dk];exact h.cell rfl
 have hB:aS a (U b 12)=M (ah y2 (z s) z2):=by rw[<-dm];exact h.cell rfl
 have hD:aS a (U b 13)=M (ah y3 (z bl) z3):=by rw[<-dn];exact h.cell rfl
 rw[dd,dk,dm,dn]at bo;obtain⟨N,db⟩:∃N,cF a (aw #[ah y0 (z i) z0,ah y1 (z r) z1,ah y2 (z s) z2,ah y3 (z bl) z3] 107)=N:=⟨_,rfl⟩;have bi:J az a N:=by rw[<-db];exact(cI _ _)
 have en:N.heap[G<|H a]?=M (aw #[ah y0 (z i) z0,ah y1 (z r) z1,ah y2 (z s) z2,ah y3 (z bl) z3] 107 (0,0)):=by rw[<-db];exact aE _ rfl
 have cd:=bo.ay (bi.mono cN)<|(mN n.aN j).fq bo.D bi cN;have el:bM N b n m:=(bi.block b fu id).trans h;have bg:=u.aN.lt;have cp:=u.rI;obtain⟨mx,mc,ff⟩:=bS hm;obtain⟨ek,HM,gk,cB,cx,eg,V,x,ed⟩:=xS u hm ev fe ey fs ch cd en;obtain⟨cM,bm,HH,gj,gi,ej,gg,hu,gn⟩:=xS bi el h eu et cp bg ff fv;have hr:G (H N)=G (H a)+1:=by rw[<-db];simp
 clear h u cm fs hm ev fe ey eu et hI ch bo cd en bi el cp bg dd dk dm dn fv;subst ff;obtain⟨R0,bp⟩:∃R0:Y->ab->Option ab,(λgf=>fj gf<|K::bZ i r s bl)=R0:=⟨_,rfl⟩;obtain⟨l,gv⟩:∃l,G (H a)=l:=⟨_,rfl⟩;have cj:G (H a)<=l:=by omega
 have ei:=Z bp;have P:=ae V;rw[bp]at P;clear V;have V:=Z P;rw[bp];clear P bp;have bx:=Z gv;by_cases hz:z K=0;(case' pos=>(have ck:¬(0:Y)<(z K:Y):=by omega);have d:K=[]:=aR hz;have O:=Z<|show MW a b n m l j (i++r++s++bl) ec eb (sG sn) R0 N from⟨_,_,_,_,i,r,s,bl,[],x,by rw[<-ae bx];exact ed,eg.mono fz,λgf _ q=>by rw[<-ae ei,d];exact(mH gf _ q).symm,bm,cM.mono cN⟩;clear d;(go_in);(go_wp2_with fail);obtain⟨W7,S⟩:∃W7,N=W7:=⟨_,rfl⟩;rw[S];rw[S]at O;clear S)
 case' neg=>
  have ck:(0:Y)<(z K:Y):=by omega
  obtain⟨mg,mo,fk,fb,ad⟩:∃ht C,mx=M (U ht C)/\z K<=mc/\∀gb hs,(aH K)[gb]?=M hs->aS a (U ht<|C+gb)=M hs:=by
   obtain⟨_,⟨q1,q2⟩|⟨ht,C,hv,q1,q2,q3⟩⟩:=ae HM
   .exact absurd q2 hz
   .cases q1;exact⟨ht,C,rfl,q2,q3⟩
  subst fk;have hb:K≠[]:=λq=>hz (by rw[q];rfl);have ds:mg<G (H a):=gk mg rfl;have bk:J az a N.drew:=cM.cw<|cg az N;have cl:=DM K mg mo mc N.drew (λgb hj=>bk.cell (ek.kW.steps gb hj) id ek.kW.fC.lt) (by have:=bk.size;omega) (λgb hs hj=>bk.cell (ad gb hs hj) id ds) fb (by omega) cx cB (λq f=>aF (fL.keys q f)<|by omega) (by omega);clear ad;go_in
  go_wp2_with fail
  rename_i QQ KK ba hd;have hS:N.drew.heap[l]?=M (aw #[ah y0 (z i) z0,ah y1 (z r) z1,ah y2 (z s) z2,ah y3 (z bl) z3] 107 (0,0)):=by rw[<-ae bx];exact ed
  refine cz (λ(t:I)=>t.heap[l]?=M (aw #[ah y0 (z i) z0,ah y1 (z r) z1,ah y2 (z s) z2,ah y3 (z bl) z3] 107 (0,0))) 8 (by kernel_rfl) ?_;refine cY 0 ?_;iterate 3 (refine eJ (v:=?_) hS rfl (by kernel_rfl) iV rfl ?_ ?_;rotate_left;(focus(intro t hX;have x0:aS t (U l 0)=M (ah y0 (z i) z0):=(by rw[bL hX];rfl);go_simp;try rfl));simp only[Act.put,dG,Nat.reduceAdd])
  apply eA;refine aM (i:=3) rfl rfl (by kernel_rfl) ?_;intro K3 ao;go_simp;apply cl.mono;rintro ge A⟨d,o,hq,W,xb,X,rfl,hf⟩;obtain⟨fn,fl,ac⟩:=Vg hf hb cx cB gA;have an:=(hf.ay.block l (am hS) id).trans hS;refine ao _ _ (λ_=>an) ?_;clear ao cl;try simp only[Act.put,dG]
  refine aM (i:=4) rfl rfl (by kernel_rfl) ?_;intro K4 au;go_simp;have dx:J az A (cF A<|aw #[aA d] 224):=(cI _ _);have eo:=(dx.block l (am an) id).trans an;refine au _ _ (λ_=>eo) ?_;clear au;try simp only[Act.put,dG]
  refine aM (i:=5) rfl rfl (by kernel_rfl) ?_;intro K5 av;go_simp;obtain⟨W5,bb⟩:∃W5,cF (cF A<|aw #[aA d] 224) (aw #[ah y0 (z i) z0,bE (G<|H A) 0 1 1] 105)=W5:=⟨_,rfl⟩;have bs:J az A W5:=by rw[<-bb];exact dx.alloc _
  have bq:=(bs.block l (am an) id).trans an;have bc:W5.heap[G<|H A]?=M (aw #[aA d] 224 (0,0)):=by rw[<-bb];exact(ga _<|by simp).trans<|aE _ rfl
  have bd:W5.heap[G (H A)+1]?=M (aw #[ah y0 (z i) z0,bE (G<|H A) 0 1 1] 105 (0,0)):=by rw[<-bb];exact aE _<|by simp
  rw[bb];refine av _ _ (λ_=>bq) ?_;clear av bb;try simp only[Act.put,dG]
  refine aM (i:=6) rfl rfl (by kernel_rfl) ?_;intro K6 al;go_simp;have F:J az N W5:=((cg az N).cw hf.ay).cw bs;have ce:=tH (G (H A)+1) 0 2 [((ah y0 (z i) z0:aa),i),(bE (G<|H A) 0 1 1,[⟨d,bO 0 o,o,0⟩])] W5 (by
   intro w hi;have:w=0\/w=1:=by simp at hi;omega
   rcases this with rfl|rfl<;>(rw[bL bd];rfl)) (am bd) (by
    intro w hi;have:w=0\/w=1:=by simp at hi;omega
    rcases this with rfl|rfl
    .exact F.row x.r0<|λm a=>⟨id,(x.b0 m a).1⟩
    .refine⟨rfl,.inr ⟨G (H A),0,1,rfl,ai _,λgb hs hj=>?_⟩⟩;rw[bL bc,cZ];simpa[bJ.ptr]using hj) (by
    intro w hi;have:w=0\/w=1:=by simp at hi;omega
    rcases this with rfl|rfl
    .exactλm a=>ag (x.b0 m a).1 F.size
    .exactλm a=>by cases a;exact am bc) (by simp) (by have:=x.count;simp[mG];omega)
  apply ce.mono;rintro ge w6⟨v6,rfl,br,bt⟩;have Q:=(bt.block l (am bq) id).trans bq;have cb:mG [((ah y0 (z i) z0:aa),i),(bE (G<|H A) 0 1 1,[⟨d,bO 0 o,o,0⟩])]=z (i++[(⟨d,bO 0 o,o,0⟩:bJ)]):=by simp[mG]
  have ca:qx [((ah y0 (z i) z0:aa),i),(bE (G<|H A) 0 1 1,[⟨d,bO 0 o,o,0⟩])]=(i++[(⟨d,bO 0 o,o,0⟩:bJ)]).map bJ.ptr:=by simp[qx]
  rw[cb,ca]at br;obtain⟨x6,c6,hg⟩:=aB br;subst hg;refine al _ _ (λ_=>Q) ?_;clear al ce;try simp only[Act.put,dG]
  refine aM (i:=7) rfl rfl (by kernel_rfl) ?_;intro K7 D;go_simp;refine D _ _ (λ_=>Q) ?_;clear D;try simp only[Act.put,dG]
  refine aM (i:=8) rfl rfl (by kernel_rfl) ?_;intro K8 E;have x0:=cellAt Q 0 rfl;have hn:=dW (i:=0) Q;go_simp;have L:J az N w6:=F.cw bt;have cs:J az A w6:=bs.cw bt;have cn:NT.Ok w6 (G<|H N) ⟨⟨d,bO 0 o,o,0⟩,hq,W,xb,X⟩:=NT.Ok.ay fn cs<|λ_ _ q=>q;have em:=x.Yn (p:=⟨⟨d,bO 0 o,o,0⟩,hq,W,xb,X⟩) L cn fl (eM br F.size) (by
   show _+z (bJ.all ⟨d,bO 0 o,o,0⟩)<=ec;rw[ac];exact hC)
  have bu:J (λq=>q=l) w6 (ct w6 (U l 0)<|ah x6 (z<|i++[(⟨d,bO 0 o,o,0⟩:bJ)]) c6):=(ij l w6);have cc:=em.other bu (λq f=>by subst f;exact⟨cj,_,_,Q⟩);have co:PR eb (bZ (i++[(⟨d,bO 0 o,o,0⟩:bJ)]) r s bl):=by
   rw[Eb,ac];exact eg.cons fz cB cx gj gi
  have O:=Z<|show MW a b n m l j (i++r++s++bl) ec eb (sG sn) R0 (ct w6 (U l 0)<|ah x6 (z<|i++[(⟨d,bO 0 o,o,0⟩:bJ)]) c6)from⟨_,_,_,_,_,r,s,bl,_,cc,(aT Q).trans rfl,co,λgf _ q=>by rw[Eb,ac,<-ae ei],(bu.block b (ag (am bm) L.size)<|λq=>by omega).trans<|(L.block b (am bm) id).trans bm,((cM.cw L).mono (T:=j.bw n.aN) cN).trans bu<|λq f=>.inr<|by omega⟩;refine E _ _ (λq=>(q rfl).elim) ?_;refine cX (by kernel_rfl) ?_ _;show KK _ _;apply ba;clear ba E cc em co bu cn cs L Q br bt bc bd bq bs eo dx an fn fl ac hf hS x0 hn F cb ca;have bT:z (i++[(⟨d,bO 0 o,o,0⟩:bJ)])=z i+1:=by simp
  rw[bT]at O;obtain⟨W7,S⟩:∃W7,ct w6 (U l 0) (ah x6 (z i+1) c6)=W7:=⟨_,rfl⟩;rw[S];rw[S]at O;clear S bT;go_wp2_with fail
 (all_goals clear ck;(go_loopw [25] (λd wr=>∃(w:R)(gc:Y),w<=4/\gc=w/\d=aq gc/\MW a b n m l j (i++r++s++bl) ec eb (sG sn) R0 wr) (λd _=>4-(intOf d).toNat));(case atStart=>exact⟨0,0,by omega,rfl,rfl,O⟩);(case round=>obtain⟨w,gc,hi,hI,rfl,cT⟩:=hrel;by_cases h4:w<4;(.have O:=Z cT;have cE:=Z<|λ(wr:I)(h:MW a b n m l j (i++r++s++bl) ec eb (sG sn) R0 wr)=>h.step cj ej gn fx w h4;obtain⟨me,ex⟩:∃me:I->R,∀W,me W=Hm W l w:=⟨_,λ_=>rfl⟩;have ee:=Z ex;clear cT ex;rcases(show(w=0/\gc=0)\/(w=1/\gc=1)\/(w=2/\gc=2)\/(w=3/\gc=3)by omega)with⟨rfl,rfl⟩|⟨rfl,rfl⟩|⟨rfl,rfl⟩|⟨rfl,rfl⟩;(all_goals clear hI;(go_wp2_with fail);(go_loopw [9] (λ_ wr=>MW a b n m l j (i++r++s++bl) ec eb (sG sn) R0 wr) (λ_ wr=>me wr));(case atStart=>exact O);(case round=>have HR:=Z hrel;obtain⟨p0,p1,p2,p3,n0,n1,n2,n3,q0,q1,q2,q3,hp,hE,hF,hG,y,hx,B,dc,fd⟩:=cE wr hrel;cases dF hx;have g0:=cellAt y 0 rfl;have g1:=cellAt y 1 rfl;have g2:=cellAt y 2 rfl;have g3:=cellAt y 3 rfl;have ef:=Z fd;have bn:=Z y;clear fd y hx hrel;cases hG;(.clear dc ef bn;(go_wp2_with fail);apply B.mono;rintro ge A⟨rfl,hk⟩;subst A;clear B g0 g1 g2 g3;go_wp2;go_roundw;(case rel=>first|exact⟨1,1,by omega,rfl,rfl,HR⟩|exact⟨2,2,by omega,rfl,rfl,HR⟩|exact⟨3,3,by omega,rfl,rfl,HR⟩|exact⟨4,4,by omega,rfl,rfl,HR⟩);case measure=>simp[intOf]);(.have cu:=Z<|dc rfl;clear dc;(go_wp2_with fail);apply B.mono;rintro ge A⟨rfl,hk⟩;subst A;clear B;(go_wp2_with fail);rename_i QQ KK ba;have hS:wr.drew.heap[l]?=M (aw #[ah p0 n0 q0,ah p1 n1 q1,ah p2 n2 q2,ah p3 n3 q3] 107 (0,0)):=ae bn;refine lX (λ(t:I)=>t.heap[l]?=M (aw #[ah p0 n0 q0,ah p1 n1 q1,ah p2 n2 q2,ah p3 n3 q3] 107 (0,0))) 6 (by kernel_rfl) ?_;refine nk 0 ?_;(iterate 3 (refine Bh (v:=?_) hS rfl (by kernel_rfl) iV rfl ?_ ?_;rotate_left;(focus(intro t hX;have x0:aS t (U l 0)=M (ah p0 n0 q0):=(by rw[bL hX];rfl);have x1:aS t (U l 1)=M (ah p1 n1 q1):=(by rw[bL hX];rfl);have x2:aS t (U l 2)=M (ah p2 n2 q2):=(by rw[bL hX];rfl);have x3:aS t (U l 3)=M (ah p3 n3 q3):=(by rw[bL hX];rfl);go_simp;try rfl));simp only[Act.put,dG,Nat.reduceAdd]));apply sa;refine gW (i:=3) rfl rfl (by kernel_rfl) ?_;intro K3 ao;go_simp;apply(ef wr.drew<|cg _ _).mono;rintro ge wm⟨vm,lm,rfl,fr,dv,dT⟩;obtain⟨ho,gs,hh⟩:=aB dv;subst hh;have bf:=cu wm ho gs lm dT dv fr;have eq:wm.heap[l]?=M (aw #[ah p0 n0 q0,ah p1 n1 q1,ah p2 n2 q2,ah p3 n3 q3] 107 (0,0)):=(dT.block l (am bn) id).trans bn;refine ao _ _ (λ_=>eq) ?_;(try simp only[Act.put,dG]);refine gW (i:=4) rfl rfl (by kernel_rfl) ?_;intro K4 au;go_simp;apply bf.mono;rintro ge A⟨r0,r1,r2,r3,m0,m1,m2,m3,t0,t1,t2,t3,rfl,f,es,bh⟩;have g0:=cellAt f 0 rfl;have f0:=dW (i:=0) f;have g1:=cellAt f 1 rfl;have f1:=dW (i:=1) f;have g2:=cellAt f 2 rfl;have f2:=dW (i:=2) f;have g3:=cellAt f 3 rfl;have f3:=dW (i:=3) f;have gr:=Z es;have cv:=Z bh;clear es bh;refine au _ _ (λ_=>f) ?_;(try simp only[Act.put,dG]);refine gW (i:=5) rfl rfl (by kernel_rfl) ?_;intro K5 av;go_simp;refine av _ _ (λ_=>f) ?_;(try simp only[Act.put,dG]);clear ao au av;apply Gn KK;(.intro ea;refine DB (i:=6) (j:=7) rfl rfl rfl rfl (by kernel_rfl) ?_ ?_;(.intro K6 al;go_simp;refine al _ _ (λs=>(by omega)) ?_;(try simp only[Act.put,dG]);refine DB (i:=7) (j:=8) rfl rfl rfl rfl (by kernel_rfl) ?_ ?_;(.intro K7 D;go_simp;refine D _ _ (λs=>(by omega)) ?_;(try simp only[Act.put,dG]);refine gW (i:=8) rfl rfl (by kernel_rfl) ?_;intro K8 E;go_simp;refine E _ _ (λs=>(by omega)) ?_;(try simp only[Act.put,dG]);refine gW (i:=9) rfl rfl (by kernel_rfl) ?_;intro K9 ax;go_simp;refine ax _ _ (λs=>(by omega)) ?_;(try simp only[Act.put,dG]);refine lS (by kernel_rfl) ?_ _;exact ea);intro K8 E;go_simp;refine E _ _ (λs=>(by omega)) ?_;(try simp only[Act.put,dG]);refine gW (i:=7) rfl rfl (by kernel_rfl) ?_;intro K7 D;go_simp;refine D _ _ (λs=>(by omega)) ?_;(try simp only[Act.put,dG]);refine gW (i:=9) rfl rfl (by kernel_rfl) ?_;intro K9 ax;go_simp;refine ax _ _ (λs=>(by omega)) ?_;(try simp only[Act.put,dG]);refine lS (by kernel_rfl) ?_ _;exact ea);intro K7 D;go_simp;refine D _ _ (λs=>(by omega)) ?_;(try simp only[Act.put,dG]);refine gW (i:=6) rfl rfl (by kernel_rfl) ?_;intro K6 al;go_simp;refine al _ _ (λs=>(by omega)) ?_;(try simp only[Act.put,dG]);refine gW (i:=8) rfl rfl (by kernel_rfl) ?_;intro K8 E;go_simp;refine E _ _ (λs=>(by omega)) ?_;(try simp only[Act.put,dG]);refine gW (i:=9) rfl rfl (by kernel_rfl) ?_;intro K9 ax;go_simp;refine ax _ _ (λs=>(by omega)) ?_;(try simp only[Act.put,dG]);refine lS (by kernel_rfl) ?_ _;exact ea);apply ba;clear ba hS eq dv dT fr f bf;go_wp2;go_roundw;(case rel=>exact gr);(case measure=>rw[ae ee,ae ee];exact cv)))));(obtain⟨rfl,rfl⟩:w=4/\gc=4:=by omega);clear hI;obtain⟨v0,v1,v2,v3,a1,b1,c1,d1,hl,hV⟩:=cT;obtain⟨p0,q0,rfl⟩:=bS hV.ls.r0;obtain⟨p1,q1,rfl⟩:=bS hV.ls.r1;obtain⟨p2,q2,rfl⟩:=bS hV.ls.r2;obtain⟨p3,q3,rfl⟩:=bS hV.ls.r3;have g0:=cellAt hV.lb 0 rfl;have g1:=cellAt hV.lb 1 rfl;have g2:=cellAt hV.lb 2 rfl;have g3:=cellAt hV.lb 3 rfl;have bv:=Z<|V l wr _ _ _ _ a1 b1 c1 d1 hl hV;clear hV;(go_wp2_with fail);apply bv.mono;rintro ge A⟨rfl,K',num,a',b',c',d',hO⟩;have HO:=Z hO;clear hO bv;go_wp2;go_ret;exact⟨rfl,_,_,_,_,K',num,a',b',c',d',HO⟩))
def SR.EA(s:SR)(c:aa)(a:R)(b:Bool):SR:={s with memory:=c,ir:=s.ir+a,bj:=s.bj+1,gF:=bX,kC:=bX,kB:=b}
def WQ(h:∀x∈e,x.Good)(c:z e<=8):kG (Dc m e):=by
 have a:kG (iK m e):=by unfold iK;refine(kG.le 8 _).append ?_;intro x b;rcases aD.1 b with q|q;rw[q];constructor<;>omega;exact Fb h x q
 unfold Dc iJ;exact((((kG.le 4 _).append<|kG.le 4 _).append<|kG.le 4 _)).append a
def NY{s:SR}{hD hE:cR}(sn:fw)(h:bM a b s m)(f:Inv a b s j e p r hD hE c g l k sn)(hl:ku a d K)(ey:∀m,bY d=M m->Aside a j s.aN b m)(bs:0<z K)(h8:z K<=8)(hm:∀fu∈K,fu.Good)(hk:∀fu∈K,fu.bK=(s.bj:Y)+1)(ht:s.ir+z K<32)(hC:c+z K<=1000000)(hN:l+1<=100000000):cA bG 73 #[aA b,d] a λbo w'=>bo=aP .nilIface/\∃mv E K',bM w' b (s.EA mv (z K) E) m/\Inv w' b (s.EA mv (z K) E) K' (gu sn e K) p r hD hE (c+z K) g (l+1) (k++[K]) sn/\gq a w' s.aN b j K':=by
 have cT:=f.st;have ad:=am h;have cM:s.log<18446744073709551616:=by have:=f.rh.lt;have:=f.nx;have:=f.mw;omega
 have cd:=wg s.log cM cT.kW.pow;obtain⟨eb,eo,fv,gs,bb,V⟩:∃ca t F,d=bE ca t (z K) F/\z K<=F/\∀dk fs,(aH K)[dk]?=M fs->aS a (U ca<|t+dk)=M fs:=by obtain⟨_,⟨q1,q2⟩|⟨ca,t,F,q1,q4,N⟩⟩:=hl;omega;exact⟨ca,t,F,q1,q4,N⟩
 have co:=Z bb;clear bb;subst gs;have S:=ey eb rfl;obtain⟨mx,mc,gA⟩:=bS cT.mem;have gg:=bM.cellAt h 17 rfl;obtain⟨w,HH,HE,HG,HB,ea,cp⟩:=wI f h V hm hk cd gA;clear f cT h hl ey V hm hk cd;obtain⟨lg,cE⟩:∃lg,s.gF=lg:=⟨_,rfl⟩;have hp:∀(fu:Bool)(a:I),(Op.unary .not<|aO fu).run bG a=.ok (aO<|!fu) a:=λ_ _=>rfl;go_in
 go_wp2_with fail
 apply ea.mono;rintro bo w1⟨rfl,et⟩;have bu:J az a w1:=J.aV et;have ex:gq a w1 s.aN b j j:=⟨w.st.aN.ay bu<|λ_ _=>id,bu.mono cN,λ_ q=>.inl q⟩;have o:bM w1 b s m:=(bu.block b ad id).trans HH;have hc:aS w1 (U b 18)=M (aO lg):=by rw[<-cE];exact o.cell rfl
 have k2:=bM.cellAt o 2 rfl;have hd:=bM.cellAt o 21 rfl;have gi:w1.frozen? (U b 18)=bF:=o.free;have gj:w1.frozen? (U b 21)=bF:=o.free;obtain⟨P,cn,al⟩:=dI o ex cE;clear et bu o ex cE gg;cases lg
 case' true=>
  go_wp2_with fail
  obtain⟨Q,B⟩:∃Q,w1=Q:=⟨_,rfl⟩;obtain⟨E,bf⟩:∃E,s.kB=E:=⟨_,rfl⟩;have HX:=Z (show∃x O,gq a Q s.aN b j x/\rj x.files (iU s.log)=M O/\O.bytes=lY ((g:Y)+1) k/\z x.eU<=z j.eU+1/\(∀q D,tC (vw x.files) (iU s.log,D)=q->∀bm,ew q bm=if iU s.log=bm then M D else ew (vw j.files) bm)/\iy (vw x.files)=iy (vw j.files)/\bM Q b {s with gF:=bX,kB:=E} m from by
   obtain⟨O,q1,q2⟩:=jz<|w.rh.log al;refine⟨j,O,by rw[<-B];exact cn,q1,q2,by omega,λq D bo bm=>by rw[<-bo,vy],rfl,?_⟩;rw[<-B,<-bf];have:=ae P;have bo:s={s with gF:=bX,kB:=s.kB}:=by rw[<-ae al]
   rw[<-bo];exact this)
  rw[B];clear B bf
 case' false=>
  have N:ew (vw j.files) (iU s.log)=none:=by
   cases q:ew (vw j.files) (iU s.log)with
   |none=>rfl
   |some D=>
    rcases w.rh.names _ _ q with bo|⟨_,bo⟩|⟨hG,_,bo⟩
    .exact absurd bo<|sy _
    .rw[ae al]at bo;cases bo
    .exact absurd bo.symm<|mZ _ _
  have ev:=CN (iU s.log) cn.ok (BJ<|wl N) (by have:=w.eU;have:=w.mw;omega);go_wp2_with fail
  apply ev.mono;rintro bo w2⟨rfl,x,br,fb,fe⟩;have fk:¬j.bw s.aN b:=w.st.rI;have t:bM w2 b s m:=(br.ay.block b (am P) fk).trans P;have cj:¬x.bw s.aN b:=br.Av fk<|am P;have hc:aS w2 (U b 18)=M (aO bF):=by rw[<-ae al];exact t.cell rfl
  have k2:=bM.cellAt t 2 rfl;have hd:=bM.cellAt t 21 rfl;have gi:w2.frozen? (U b 18)=bF:=t.free;have gj:w2.frozen? (U b 21)=bF:=t.free;obtain⟨ds,fz,gb,gc,bT,F⟩:=kD t br fb fe cj N;clear t br fb fe cj ev N;go_wp2_with fail
  obtain⟨Q,B⟩:∃Q,ct (ct w2 (U b 18)<|aO bX) (U b 21) (aO bX)=Q:=⟨_,rfl⟩;obtain⟨E,bf⟩:∃E,bX=E:=⟨_,rfl⟩;have HX:=Z (show∃x O,gq a Q s.aN b j x/\rj x.files (iU s.log)=M O/\O.bytes=lY ((g:Y)+1) k/\z x.eU<=z j.eU+1/\(∀q D,tC (vw x.files) (iU s.log,D)=q->∀bm,ew q bm=if iU s.log=bm then M D else ew (vw j.files) bm)/\iy (vw x.files)=iy (vw j.files)/\bM Q b {s with gF:=bX,kB:=E} m from by
   have gt:k=[]:=w.rh.Hc al;have dd:vw x.files=vw j.files++[(iU s.log,[])]:=by rw[ae gb];simp[vw]
   have bd:ew (vw x.files) (iU s.log)=M []:=by rw[dd,jN,ae F];simp[ew]
   obtain⟨O,q1,q2⟩:=jz bd;refine⟨x,O,?_,q1,by rw[q2,gt];rfl,by rw[ae gc];omega,λq D bo bm=>?_,by rw[dd,uJ];simp[iy],?_⟩
   .rw[<-B];exact((cn.trans<|gq.of fz).set bT _ _).set bT _ _
   .rw[<-bo,dd,Ht [] D F,jN];by_cases ca:iU s.log=bm
    .rw[dt ca,<-ca,ae F];simp[ew]
    .rw[dh ca];cases ew (vw j.files) bm<;>simp[ew,ca]
   .rw[<-B,<-bf];exact(aT (aT ds)).trans rfl)
  rw[B];clear B bf
 all_goals
  obtain⟨x,O,X,bp,cb,ce,bc,bl,cv⟩:=ae HX;have ck:¬x.bw s.aN b:=X.sb w.st.rI ad;have bk:=w.st.Vt ad X (λbm=>by
   have:=bc _ O.bytes rfl<|gP bm;rw[dh<|λq=>mZ _ _ q.symm]at this;rw[<-this];obtain⟨hu,gv,_⟩:=kN bp;have bd:ew (vw x.files) (iU s.log)=M O.bytes:=by rw[JE,bp];rfl
   rw[BM bd])
  have ax:=S.fm X;have ba:∀dk fs,(aH K)[dk]?=M fs->aS Q (U eb<|eo+dk)=M fs:=λdk fs hj=>S.cell X<|HE dk fs hj;have bh:=NZ K eb eo fv Q.drew (λdk hj=>bk.kW.steps dk hj) ax.lt ba bs HG h8;have eg:(K[0]'bs).bK=(g:Y)+1+z k:=by
   have h1:=HB _<|ar bs;have h2:=w.Be;rw[h1,h2];push_cast
   omega
  rw[eg]at bh;have k2:=bM.cellAt cv 2 rfl;obtain⟨dv,dx,bx,ec,dT,cu⟩:=kD X bp cb ce bc bl;obtain⟨dm,hg,ee,ed,hf,he⟩:=kD cv bk ck bh ba ax;clear X bp cb ce bc bl cv bk ck bh eg ba ax;rename_i QQ KK el;have em:aS Q.drew (U b 2)=M (aA s.aN):=k2;refine cz (λ(ef:I)=>aS ef (U b 2)=M (aA s.aN)) 8 (by kernel_rfl) ?_;refine cY 0 ?_;iterate 6 (refine eJ (v:=?_) em rfl (by kernel_rfl) iV rfl ?_ ?_;rotate_left;(focus(intro ef hX;go_simp;try rfl));simp only[Act.put,dG,Nat.reduceAdd])
  apply eA;refine aM (i:=6) rfl rfl (by kernel_rfl) ?_;intro K6 ei;go_simp;apply ed.mono;rintro bo w4⟨v4,rfl,bt,fn⟩;have A:J az Q w4:=(cg az Q).cw fn;have en:aS w4 (U b 2)=M (aA s.aN):=A.cell k2 id<|rD k2;refine ei _ _ (λ_=>en) ?_;clear ei;try simp only[Act.put,dG]
  obtain⟨D,W⟩:∃D,Dc ((g:Y)+1+z k) K=D:=⟨_,rfl⟩;rw[W]at bt;have gk:z D<=400:=by rw[<-W];exact Cq HG h8
  have eu:0<z D:=by rw[<-W];unfold Dc;rw[af,gC];omega
  obtain⟨vb,vc,ha,fr,cl,_⟩:=uC bt eu;subst ha;have es:=Im (db:=s.aN) (K:=x) (iU s.log) O vb 0 vc D (w:=w4) (dv.ok.ay A<|λ_ _=>id) dx (by
   rw[Ko,ae cu];have:=w.rh.total w.st.aN.nodup w.NK.1 w.DD;omega) (by rw[<-W];exact WQ HG h8) (λdk fs hj=>by
    have:=pK bt dk fs hj;rwa[dB]at this) cl (by rw[ae bx];have:=w.NK.1;omega)
  refine aM (i:=7) rfl rfl (by kernel_rfl) ?_;intro K7 ej;go_simp;apply es.mono;rintro bo w5⟨rfl,K5,av,⟨x5,fd⟩,ff⟩;have cx:bM w4 b {s with gF:=bX,kB:=E} m:=(A.block b (am dm) id).trans dm;have ao:bM w5 b {s with gF:=bX,kB:=E} m:=(av.ay.block b (am cx) ee).trans cx;refine ej _ _ (λ_=>ao.cell rfl) ?_;clear ej es;try simp only[Act.put,dG]
  refine aM (i:=8) rfl rfl (by kernel_rfl) ?_;intro K8 ek;go_simp;refine ek _ _ (λq=>(q rfl).elim) ?_;refine cX (by kernel_rfl) ?_ _;show KK _ _;apply el;clear el ek em en;have au:gq a w5 s.aN b j K5:=dv.trans ⟨av.ok,(A.mono (T:=λm=>x.bw s.aN m\/m=b) cN).trans av.ay<|λ_ q=>.inl<|.inl q,λm q=>(av.bw m q).imp id<|λca=>aF A.size ca⟩;have bi:¬K5.bw s.aN b:=au.sb w.st.rI ad;have cm:vw K5.files=tC (vw x.files) (iU s.log,lY ((g:Y)+1)<|k++[K]):=by
   rw[fd,DC,Ri,W,<-ae bx];show tC _ (O.name,_)=_;rw[(kN<|ae dx).1]
  have L:∀bm,ew (vw K5.files) bm=if iU s.log=bm then M (lY ((g:Y)+1)<|k++[K])else ew (vw j.files) bm:=λbm=>by rw[cm];exact dT _ _ rfl bm
  have hB:=bM.cellAt ao 20 rfl;have hr:w5.frozen? (U b 20)=bF:=ao.free;obtain⟨W6,eq⟩:∃W6,ct w5 (U b 20) (aO bX)=W6:=⟨_,rfl⟩;have bq:bM W6 b {s with gF:=bX,kB:=E,kC:=bX} m:=by rw[<-eq];exact(aT ao).trans rfl
  have u:gq a W6 s.aN b j K5:=by rw[<-eq];exact au.set bi _ _
  have y:=w.st.Vt ad u (λbm=>by rw[L,dh<|λq=>mZ _ _ q.symm]);have cc:=S.fm u;have bg:=y.mem;rw[ae cp]at bg;obtain⟨mb,m1,m2,m3⟩:=(w.oY.fm u).ex;have bv:=Bj b {s with gF:=bX,kB:=E,kC:=bX} m sn (bE eb eo (z K) fv) K bq m1 m2 w.oY.len y.mem (λm a=>(y.tr m a).lt) ⟨fS K,.inr ⟨eb,eo,fv,rfl,co,λdk fs hj=>S.cell u<|HE dk fs hj⟩⟩ (λm a=>by cases a;exact cc.lt) y.mr (by have:=w.WG;omega);have bv:cA bG 72 #[aA b,bE eb eo (z K) fv] W6 λbo w'=>∃a,bo=aP a/\w'.ownsRow (G<|H W6) 164 4 a (z<|gu sn e K) (aH<|gu sn e K)/\J az W6 w':=bv;have k7:aS W6 (U b 7)=M (ah mx (z e) mc):=by rw[<-ae cp];exact bq.cell rfl
  obtain⟨n,dn,fL,hh,an,ge⟩:=kD L bq u y bi ff;clear au cm L cx ao av fd ff bt fn A bq u y cc bg bi W gk eu fr cl;go_wp2_with fail
  apply bv.mono;rintro bo w7⟨v7,rfl,ac,dc⟩;obtain⟨x7,c7,hb⟩:=aB ac;subst hb;have C:bM w7 b {s with gF:=bX,kB:=E,kC:=bX} m:=(dc.block b (am dn) id).trans dn;have k7:aS w7 (U b 7)=M (ah mx (z e) mc):=by rw[<-ae cp];exact C.cell rfl
  have k8:=bM.cellAt C 8 rfl;have k9:=bM.cellAt C 9 rfl;have f7:w7.frozen? (U b 7)=bF:=C.free;have f8:w7.frozen? (U b 8)=bF:=C.free;have f9:w7.frozen? (U b 9)=bF:=C.free;have hs:s.bj<=l:=w.bn;have hy:IntKind.i64.wrap ((s.ir:Y)+(z K:Y))=(s.ir:Y)+(z K:Y):=by rw[bQ];omega
  have hz:IntKind.u64.wrap ((s.bj:Y)+1)=(s.bj:Y)+1:=by rw[ib];omega
  obtain⟨fx,gf,cs⟩:=dI C ac dc;clear C ac dc bv;go_wp2;go_ret;have f:=ae w;have u:=ae fL;have ho:=yr sn e K;obtain⟨n1,n2,n3⟩:=f.EA HG HB;have cB:gq a (ct (ct (ct w7 (U b 7)<|ah x7 (z<|gu sn e K) c7) (U b 8)<|aq<|(s.ir:Y)+(z K:Y)) (U b 9)<|aL<|(s.bj:Y)+1) s.aN b j K5:=by
   have h1:gq a w7 s.aN b j K5:=u.trans ⟨u.ok.ay cs<|λ_ _=>id,cs.mono cN,λ_ q=>.inl q⟩;exact((h1.set an _ _).set an _ _).set an _ _
  have fl:=f.st.Vt ad cB (λbm=>by rw[(ae n),dh<|λq=>mZ _ _ q.symm]);have ac:=ae gf;have hi:=cs.size;have hA:G (H a)<=G (H W6):=u.ay.size;have ch:∀q,bY (ah x7 (z<|gu sn e K) c7)=M q->G (H W6)<=q/\q<G (H w7):=λq hq=>ac.lt q hq;have gr:=u.ok.lt;refine⟨rfl,ah x7 (z<|gu sn e K) c7,E,K5,?_,?_,cB⟩
  .exact(aT<|aT<|aT fx).trans rfl
  .refine{st:=?_,rh:=?_,pr:=f.pr,lp:=?_,mem:=?_,Ng:=?_,WH:=?_,XC:=yp f.st.mr f.oY.len K,oY:=(f.oY.fm cB).fields ⟨rfl,rfl⟩,TD:=λhF hv=>(by have:=f.TD hF hv;show hF.2<=s.bj+1;omega),Be:=?_,VE:=?_,vP:=f.vP,Gg:=f.Gg,nx:=?_,bn:=?_,eU:=?_,Ti:=f.Ti,loose:=λ_=>rfl,UD:=λ_=>(by simp),mw:=hN}
   .refine fl.TU (C':=c+z K) ⟨rfl,rfl,rfl,rfl,rfl⟩ ?_ ?_ (yq f.st.mr sn K) n1 (by omega) hC
    .show Row _ 4 (ah x7 (z<|gu sn e K) c7) _ _;refine dr ((((ac.kept (df _ _ _ _) ?_).kept (df _ _ _ _) ?_).kept (df _ _ _ _) ?_))<;>exact .inr (λq=>by have:=(ch b q).1;omega)
    .intro q hq;have h1:=ch q hq;refine⟨?_,λca=>?_,by omega⟩
     .simp only[gE];exact h1.2
     .have:=gr q ca;omega
   .refine{names:=λbm D hn=>?_,state:=?_,log:=λ_=>?_,Hc:=λq=>(by cases q),zr:=λhG hw=>?_,zF:=f.rh.zF,low:=f.rh.low,lt:=f.rh.lt,jb:=f.rh.jb}
    .rw[ae n]at hn;by_cases ca:iU s.log=bm
     .exact .inr<|.inl ⟨ca.symm,rfl⟩
     .rw[dh ca]at hn;rcases f.rh.names _ _ hn with q|⟨q,_⟩|q
      .exact .inl q
      .exact absurd q.symm ca
      .exact .inr<|.inr q
    .rw[ae n,dh<|sy _];exact f.rh.state
    .rw[ae n];show(if iU s.log=iU s.log then _ else _)=_;rw[dt rfl]
    .rw[ae n,dh<|λq=>mZ _ _ q.symm];exact f.rh.zr hG hw
   .have gn:=f.Be;refine f.lp.snoc HG (λfu hx=>?_) ⟨bs,h8⟩ ?_ ?_
    .rw[(ae HB) fu hx,gn];push_cast;omega
    .have:=f.VE;omega
    .have:=f.bn;have:=f.mw;omega
   .show kr ((s.bj+1:R):Y) (gu sn e K)=_;rw[dQ,aX,fR,dO,zd,<-n3];push_cast
    rfl
   .intro fu hx;have:=n2 fu hx;show _/\fu.bK<=((s.bj+1:R):Y);push_cast
    exact this
   .rw[aQ,gw];have:=f.WH;simp;omega
   .show s.bj+1=g+z (k++[K]);have:=f.Be;rw[af];simp only[aC,cS];omega
   .show s.ir+z K=_;rw[aQ,gw,f.VE];simp
   .show s.next<=_;have:=f.nx;omega
   .show s.bj+1<=l+1;omega
   .have h1:=f.eU;have h2:=ae ge;have h3:=ae ec;rw[h2];omega
def Inv.mono{s b t u:cR}{d:R}{q:fw}(h:Inv a c n j e s b t u g y P k q)(v:g<=l)(m:l<=1000000)(r:P<=d)(o:d<=100000000):Inv a c n j e s b t u l y d k q:={h with st:={h.st with qK:=by have:=h.st.qK;omega,mw:=m},nx:=by have:=h.nx;have:1000001*P<=1000001*d:=Nat.mul_le_mul_left _ r;omega,bn:=by have:=h.bn;omega,eU:=by have:=h.eU;omega,mw:=o}
def Inv.fm{s s':SR}{D b E F:cR}{u:fw}(h:Inv a c s j e D b E F g l y k u)(o:c<G (H a))(r:gq a f s.aN c j N)(t:vw N.files=vw j.files)(K:z N.eU<=z j.eU)(d:s'={s with kC:=s'.kC,kB:=s'.kB,closed:=s'.closed})(n:s'.kC=bX->s.gF=bX):Inv f c s' N e D b E F g l y k u:=by
 have p:=(h.st.fm o r t).fields (s':=s') (by rw[d];exact⟨rfl,rfl,rfl,rfl,rfl⟩) (by rw[d]);have q:s'.next=s.next:=by rw[d]
 have v:s'.log=s.log:=by rw[d]
 have m:s'.gF=s.gF:=by rw[d]
 have i:s'.bj=s.bj:=by rw[d]
 have w:s'.ir=s.ir:=by rw[d]
 have x:s'.vP=s.vP:=by rw[d]
 have A:s'.mem=s.mem:=by rw[d]
 have B:s'.yu=s.yu:=by rw[d]
 have C:s'.aN=s.aN/\s'.mj=s.mj:=by rw[d];exact⟨rfl,rfl⟩
 exact⟨p,by rw[t,q,v,m];exact h.rh,h.pr,h.lp,by rw[i];exact h.mem,by rw[i];exact h.Ng,h.WH,h.XC,(h.oY.fm r).fields C,by rw[i];exact h.TD,by rw[i];exact h.Be,by rw[w];exact h.VE,by rw[x];exact h.vP,h.Gg,by rw[q];exact h.nx,by rw[i];exact h.bn,by have:=h.eU;omega,by rw[A,B];exact h.Ti,by rw[m];exact n,by rw[m];exact h.UD,h.mw⟩
def Inv.safe{s:SR}{v b w x:cR}{t:fw}(h:Inv a c s j e v b w x g l y k t)(o:bM a c s m):cA bG 53 #[aA c] a λA i=>A=aP .nilIface/\∃d,gq a i s.aN c j d/\vw d.files=vw j.files/\bM i c {s with kC:=bF,kB:=bF} m/\Inv i c {s with kC:=bF,kB:=bF} d e v b w x g l y k t:=by
 refine(Az o h.st.aN h.st.rI h.st.kW.pow (by have:=h.rh.lt;have:=h.nx;have:=h.mw;omega) (λq=>⟨_,h.rh.log<|h.loose q,by have:=h.NK.1;omega⟩) (by have:=h.eU;have:=h.mw;omega)).mono ?_;rintro A i⟨rfl,d,p,r,u,n⟩;exact⟨rfl,d,p,r,n,h.fm (am o) p r u rfl<|λq=>(by cases q)⟩
def Fi{c:Py}(a:1<=c.key.size/\c.key.size<=8)(e:c.del=bF->c.val.size<=16)(b:0<=m)(d:m<18446744073709551616):(mq m c).Good:=by
 refine⟨a.1,a.2,?_,?_,b,d⟩
 .unfold mq;cases q:c.del with
  |true=>simp[ByteArray.size]
  |false=>simpa[q]using e q
 intro q;have f:c.del=bX:=q;simp[mq,f]
structure Nf(w w':I)(sb:R)(s:SR)(k:Y)(K:DK)(C N:R)(sn:fw)(nb:R)(R0:Y->ab->Option ab)(s':SR)(K':DK)(m':cK)(a' b' c' d':cR)(tb':R)(ls':dX):Prop where
 box:bM w' sb s' k
 inv:Inv w' sb s' K' m' a' b' c' d' C tb' N ls' sn
 uA:∀t,(t∈sG sn\/t=(nb:Y))->∀q,fj t (m'::bZ a' b' c' d') q=R0 t q
 fm:gq w w' s.aN sb K K'
 same:s'.aN=s.aN/\s'.closed=s.closed/\s'.mem=s.mem/\s'.yu=s.yu/\s'.ig=s.ig/\s'.mj=s.mj
 Be:s'.bj=nb
def lM(w o:I)(a:R)(s:SR)(p:Y)(K:DK)(C N:R)(n:fw)(l:R)(f:Y->ab->Option ab):Prop:=∃m e k g h i j d c,Nf w o a s p K C N n l f m e k g h i j d c
def lM.ay{x p w':I}{o:fw}{e:Y->ab->Option ab}(h:lM p w' c n m j g l o y e)(k:J az x p):lM x w' c n m j g l o y e:=by
 obtain⟨w,r,v,s,b',t,u,d,a,h⟩:=h;exact⟨w,r,v,s,b',t,u,d,a,h.box,h.inv,h.uA,⟨h.fm.ok,(k.mono (T:=λm=>j.bw n.aN m\/m=c) cN).trans h.fm.ay<|λ_ q=>.inl q,λm q=>(h.fm.bw m q).imp id<|λA=>aF k.size A⟩,h.same,h.Be⟩
def Inv.yB{d:fw}(o:Inv a b n j e i p r s c g l k d)(f:m∈sG d\/m=(n.bj:Y))(q:ab):fj m (e::bZ i p r s) q=fj m (gu d e []::bZ i p r s) q:=by
 unfold fj;rw[show gu d e []=dV (sG d) e from rfl,IL o.row<|f.imp_right (λt x h=>by rw[t];exact(o.Ng x h).2)]
def wG(n:R)(a:cK):R:=if z a=0 then n else n+1
def Wq{bp:cR}(A:fw){N:uN}(an:Bool)(h:bM a b n m)(hV:Inv a b n j e p r s bp c g l k A)(hc:ym a d N)(ca:∀m,bY d=M m->m<G (H a))(h8:z N<=8)(hk:∀ao∈N,1<=ao.key.size/\ao.key.size<=8)(hv:∀ao∈N,ao.del=bF->ao.val.size<=16)(ch:∀ao∈N,ao.val.size<=140737488351232)(hC:c+z N<=1000000)(hN:l+1<=100000000):cA bG 44 #[aA b,d,aO an] a λbi w'=>bi=aP .nilIface/\lM a w' b n m j (c+z N) (l+1) A (wG n.bj<|N.map<|mq<|(n.bj:Y)+1) (λbn=>fj bn<|gu A e (N.map<|mq<|(n.bj:Y)+1)::bZ p r s bp):=by
 have ce:=am h;have dm:=hV.bn;have L:=Mx ((n.bj:Y)+1) hc ca (by omega)<|λao O=>⟨by have:=(hk ao O).2;omega,ch ao O⟩;obtain⟨o,Q⟩:∃o,N.map (mq<|(n.bj:Y)+1)=o:=⟨_,rfl⟩;rw[Q]at L|-;have bm:z o=z N:=by rw[<-Q];simp
 have S:∀ao∈o,ao.Good:=λao O=>by rw[<-Q]at O;obtain⟨bo,hy,rfl⟩:=bz.1 O;exact Fi (hk bo hy) (hv bo hy) (by omega)<|by omega
 have bd:∀ao∈o,ao.bK=(n.bj:Y)+1:=λao O=>by rw[<-Q]at O;obtain⟨bo,hy,rfl⟩:=bz.1 O;rfl
 obtain⟨ed,ec,cu⟩:=bS hc;subst cu;rw[<-bm]at L hC h8|-;have k9:=bM.cellAt h 9 rfl;have eb:IntKind.u64.wrap ((n.bj:Y)+1)=(n.bj:Y)+1:=by rw[ib];omega
 obtain⟨HH,HV,HG,br⟩:=gD h hV S bd;have dv:z N=z o:=bm.symm;clear h hV S bd hc ca hk hv ch Q bm;go_in
 go_wp2_with fail
 apply L.mono;rintro bi K⟨v1,rfl,ba,ad⟩;obtain⟨x1,c1,cE⟩:=aB ba;subst cE;have bl:gq a K n.aN b j j:=⟨HV.st.aN.ay ad<|λ_ _=>id,ad.mono cN,λ_ q=>.inl q⟩;have bT:bM K b n m:=(ad.block b ce id).trans HH;have bu:Inv K b n j e p r s bp c g l k A:=HV.fm ce bl rfl (ai _) rfl HV.loose;have hA1:∀q,bY (ah x1 (z o) c1)=M q->Aside K j n.aN b q:=λq W=>by have f:=ba.lt q W;exact⟨f.2,λg=>by have:=HV.st.aN.lt q g;omega,by omega⟩
 obtain⟨bs,au,x,w,bq,db⟩:=kD ba ad bT bu hA1 bl;clear ba ad bT bu hA1 bl L HV HH;by_cases hz:z o=0
 .have f:o=[]:=aR hz;have cx:¬(0:Y)<(z o:Y):=by omega
  cases an with
  |true=>
   have X:=w.safe x;go_wp2_with fail
   apply X.mono;rintro bi w2⟨rfl,K2,E,t,D,C⟩;have HP:=Z<|show lM K w2 b n m j (c+z o) (l+1) A (wG n.bj o) (λbn=>fj bn<|gu A e o::bZ p r s bp)from⟨_,K2,e,p,r,s,bp,g,k,D,C.mono (by omega) hC (by omega) hN,λbn ht q=>by rw[f]at ht|-;exact C.yB ht q,E,⟨rfl,rfl,rfl,rfl,rfl,rfl⟩,by rw[f];rfl⟩;clear E t D C X;go_wp2;go_ret;exact⟨rfl,HP.ay au⟩
  |false=>
   have HP:=Z<|show lM K K b n m j (c+z o) (l+1) A (wG n.bj o) (λbn=>fj bn<|gu A e o::bZ p r s bp)from⟨n,j,e,p,r,s,bp,g,k,x,w.mono (by omega) hC (by omega) hN,λbn ht q=>by rw[f]at ht|-;exact w.yB ht q,gq.refl w.st.aN,⟨rfl,rfl,rfl,rfl,rfl,rfl⟩,by rw[f];rfl⟩;go_wp2;go_ret;exact⟨rfl,HP.ay au⟩
 .have cx:(0:Y)<(z o:Y):=by omega
  have k8:=bM.cellAt x 8 rfl;have k3:=bM.cellAt x 3 rfl;have ck:aS K (U b 19)=M (aO bF):=by rw[<-(ae w).vP];exact x.cell rfl
  have k7:∃mx mc,n.memory=ah mx (z e) mc:=by
   obtain⟨ao,s,bi⟩:=bS w.st.mem;exact⟨ao,s,bi⟩
  obtain⟨mx,mc,cd⟩:=k7;have k7:aS K (U b 7)=M (ah mx (z e) mc):=by rw[<-cd];exact x.cell rfl
  have k9:=bM.cellAt x 9 rfl;have ds:n.ir<32:=by rw[(ae w).VE];exact w.lp.sum
  have ea:IntKind.i64.wrap ((n.ir:Y)+(z o:Y))=(n.ir:Y)+(z o:Y):=by rw[bQ];omega
  clear cd;by_cases cv:n.mem<=(n.ir:Y)+(z o:Y)
  .go_wp2_with fail
   go_quiet(fail)
   go_wp2_with fail
   obtain⟨f,hU⟩:∃f,K.drewN nq=f:=⟨_,rfl⟩;have y:J az K f:=by rw[<-hU];exact gX _ _ _
   have F:gq K f n.aN b j j:=⟨w.st.aN.ay y<|λ_ _=>id,y.mono cN,λ_ q=>.inl q⟩;have B:bM f b n m:=(y.block b (am x) id).trans x;have u:Inv f b n j e p r s bp c g l k A:=w.fm (am x) F rfl (ai _) rfl w.loose;have P:∀q,bY (ah x1 (z o) c1)=M q->Aside f j n.aN b q:=λq W=>(bq q W).fm F;have V:=y.own bs<|λ_ _ q=>q;have av:=Z<|au.cw y;rw[hU];clear hU;have dx:=u.WG;have bf:wG n.bj o=n.bj+1:=by unfold wG;rw[dh hz]
   have cc:gq f f.drew n.aN b j j:=rk u.st.aN<|below_drewN (Below.refl _ f) 1;obtain⟨mb,m1,m2,m3⟩:=(u.oY.fm cc).ex;have bh:=Bj b n m A (ah x1 (z o) c1) o (by exact B) m1 m2 u.oY.len (by exact u.st.mem) (λq W=>(u.st.tr q W).lt) (dr<|by exact V) (λq W=>(P q W).lt) u.st.mr (by omega);have cj:cA bG 72 #[aA b,ah x1 (z o) c1] f.drew λbi w'=>∃a,bi=aP a/\w'.ownsRow (G<|H f) 164 4 a (z<|gu A e o) (aH<|gu A e o)/\J az f.drew w':=bh;clear bh m1 m2 m3 cc;have bg:∀w6 v6,w6.ownsRow (G<|H f) 164 4 v6 (z<|gu A e o) (aH<|gu A e o)->J az f.drew w6->cA bG 71 #[aA b,v6,aL<|(n.bj:Y)+1] w6 λbi w'=>bi=aP .nilIface/\lM w6 w' b n m j (c+z o) (l+1) A (wG n.bj o) (λbn=>fj bn<|gu A e o::bZ p r s bp):=λw6 v6 T al=>by
    have ac:J az f w6:=(cg az f).cw al;have cb:gq f w6 n.aN b j j:=⟨u.st.aN.ay ac<|λ_ _=>id,ac.mono cN,λ_ q=>.inl q⟩;have t:=u.fm (am B) cb rfl (ai _) rfl u.loose;have cs:bM w6 b n m:=(ac.block b (am B) id).trans B;have dT:=yr A e o;obtain⟨n1,n2,n3⟩:=t.EA HG br;have dn:=t.Be;have cB:=DT v6 (c+z o) (n.bj+1) cs t.st t.Gg t.pr (dr T) (λq W=>(T.lt q W).2) (yq t.st.mr A o) (yp t.st.mr t.oY.len o) n1 (by omega) (λao O=>(n2 ao O).1) (λao O=>by have:=(n2 ao O).2;push_cast;exact this) (by omega) (by have:=t.st.qK;omega) hC t.Ti.2.2.1 t.rh t.NK.1 (by omega) (by have:=t.nx;have:=t.mw;omega) (by have:=t.eU;have:=t.mw;omega) A t.oY;apply cB.mono;rintro bi w'⟨rfl,v0,v1,v2,v3,K',num,a',b',c',d',hO⟩;exact⟨rfl,_,K',[],a',b',c',d',n.bj+1,[],hO.box,hO.inv t.Ti t.nx (by omega) hN t.oY t.TD (by omega),λbn ht q=>by rw[mH];exact hO.uA bn (ht.imp_right (λbi=>by rw[bi,bf];push_cast;omega)) q,hO.fm,⟨rfl,rfl,rfl,rfl,rfl,rfl⟩,bf.symm⟩
   have cT:=bM.cellAt B 9 rfl;obtain⟨cn,bt,cl,dc⟩:=gD cj bg u B;clear cj bg u B P V F y k7 k8 k9 k3 ck;rename_i KK bx;have ax:aS f.drew (U b 9)=M (aL n.bj):=cT;refine lX (λ(bk:I)=>aS bk (U b 9)=M (aL n.bj)) 9 (by kernel_rfl) ?_;refine nk 0 ?_;iterate 3 (refine Bh (v:=?_) ax rfl (by kernel_rfl) iV rfl ?_ ?_;rotate_left;(focus(rintro bk z9;go_simp;try rfl));simp only[Act.put,dG,Nat.reduceAdd])
   apply sa;refine nk 4 ?_;iterate 5 (refine Bh (v:=?_) ax rfl (by kernel_rfl) iV rfl ?_ ?_;rotate_left;(focus(rintro bk z9;go_simp;try rfl));simp only[Act.put,dG,Nat.reduceAdd])
   apply sa;refine gW (i:=3) rfl rfl (by kernel_rfl) ?_;intro K6 bv;go_simp;apply cn.mono;rintro bi w6⟨v6,rfl,T,al⟩;obtain⟨x6,c6,cM⟩:=aB T;subst cM;have cp:aS w6 (U b 9)=M (aL n.bj):=al.cell ax id<|rD ax;refine bv _ _ (λ_=>cp) ?_;clear bv;try simp only[Act.put,dG]
   refine gW (i:=9) rfl rfl (by kernel_rfl) ?_;intro dd bb;go_simp;apply(bt w6 _ T al).mono;rintro bi w7⟨rfl,co⟩;have cm:=Z co;refine bb _ _ (λq=>by omega) ?_;clear bb;try simp only[Act.put,dG]
   refine gW (i:=10) rfl rfl (by kernel_rfl) ?_;intro dk bc;go_simp;refine bc _ _ (λq=>by omega) ?_;refine lS (by kernel_rfl) ?_ _;show KK _ _;apply bx;clear bx bc;go_wp2;go_ret;exact⟨rfl,cm.ay<|(av.cw<|cg az f).cw al⟩
  .go_wp2_with fail
   go_quiet(fail)
   go_wp2_with fail
   obtain⟨f,hU⟩:∃f,K.drewN nq=f:=⟨_,rfl⟩;have y:J az K f:=by rw[<-hU];exact gX _ _ _
   have F:gq K f n.aN b j j:=⟨w.st.aN.ay y<|λ_ _=>id,y.mono cN,λ_ q=>.inl q⟩;have B:bM f b n m:=(y.block b (am x) id).trans x;have u:Inv f b n j e p r s bp c g l k A:=w.fm (am x) F rfl (ai _) rfl w.loose;have P:∀q,bY (ah x1 (z o) c1)=M q->Aside f j n.aN b q:=λq W=>(bq q W).fm F;have V:=y.own bs<|λ_ _ q=>q;have av:=Z<|au.cw y;rw[hU];clear hU;have t:=NY A B u (dr V) P (by omega) h8 HG br (by have:=u.Ti;omega) hC hN;have cl:=Z u;clear u B P V F y k7 k8 k9 k3 ck;apply t.mono;rintro bi w2⟨rfl,bf,bc,K2,D,C,E⟩;cases an with
   |true=>
    have X:=C.safe D;have ax:=Z E;clear t D C E;go_wp2_with fail
    apply X.mono;rintro bi w3⟨rfl,K3,ac,bb,T,al⟩;have HP:=Z<|show lM f w3 b n m j (c+z o) (l+1) A (wG n.bj o) (λbn=>fj bn<|gu A e o::bZ p r s bp)from⟨_,K3,_,p,r,s,bp,g,_,T,al,λ_ _ _=>rfl,ax.trans ac,⟨rfl,rfl,rfl,rfl,rfl,rfl⟩,by unfold wG;rw[dh hz];rfl⟩;clear ac bb T al X;go_wp2;go_ret;exact⟨rfl,HP.ay av⟩
   |false=>
    have HP:=Z<|show lM f w2 b n m j (c+z o) (l+1) A (wG n.bj o) (λbn=>fj bn<|gu A e o::bZ p r s bp)from⟨_,K2,_,p,r,s,bp,g,_,D,C,λ_ _ _=>rfl,E,⟨rfl,rfl,rfl,rfl,rfl,rfl⟩,by unfold wG;rw[dh hz];rfl⟩;clear t D C E;go_wp2;go_ret;exact⟨rfl,HP.ay av⟩
section
open Go.Conc.Locks
def JN{a:uN}(h:lU a=0):(∀x∈a,1<=x.key.size/\x.key.size<=8)/\∀x∈a,x.del=bF->x.val.size<=16:=by
 induction a with
 |nil=>simp
 |cons j r f=>
  unfold lU at h;split at h
  .cases h
  .rename_i k;split at h
   .cases h
   .rename_i d;obtain⟨g,i⟩:=f h;constructor
    .intro x c;rcases aD.1 c with e|e
     .rw[e];omega
     .exact g x e
    .intro x c b;rcases aD.1 c with e|e
     .rw[e]at b|-;have:¬16<j.val.size:=λg=>d ⟨b,g⟩;omega
     .exact i x e b
def CR{a:uN}(h:gd a=0):z a<=8/\(∀x∈a,1<=x.key.size/\x.key.size<=8)/\∀x∈a,x.del=bF->x.val.size<=16:=by
 unfold gd at h;split at h;cases h;rename_i b;exact⟨by omega,JN h⟩
def Hz(h:bM a b n m):cA bG 43 #[aA b,.nilIface] a λg e=>g=aP .nilIface/\Below (G<|H<|ct a (U b 6) .nilIface) (ct a (U b 6) .nilIface) e:=by
 have i:=bM.cellAt h 6 rfl;have j:a.frozen? (U b 6)=bF:=h.free;have d:=Hs<|ct a (U b 6) .nilIface;clear h;go_in
 go_wp2_with fail
 apply d.mono;rintro g e⟨rfl,c⟩;have f:=Z c;clear c d;go_wp2;go_ret;exact⟨rfl,f⟩
def Aa(r:aa)(g:Bool)(h:bM a b n 0)(m:n.closed=bX):cA bG 12 #[aA b,r,aO g] a λo l=>o=aP (lC 6)/\bM l b n 0/\J (λw=>w=b) a l:=by
 have q:=bM.cellAt h 0 rfl;have t:a.frozen? (U b 0)=bF:=h.free;have k:=h.gK 1;have c:=iB k;rw[m]at c;simp only[iO]at c;have p:=Z<|λi j=>qn (W2:=i) k (ij b a) j;clear h k m;rw[wq]at c|-;go_enter_defers func12,ntmps12
 go_wp2_with fail
 apply(lock_free (U b 0) _ q t).mono;rintro o l⟨rfl,rfl⟩;go_wp2_with fail
 apply c.mono;rintro o i⟨rfl,j⟩;obtain⟨s,u,d⟩:=p i j;have e:=Z d;clear d j c;go_wp2;refine eR (f:=40) (args:=#[aA b]) (by simp) (by simp[go_sem]) ?_;apply(unlock_deferred (U b 0) .returning _ s u).mono;rintro o x v⟨rfl,rfl,rfl⟩;exact⟨_,gy rfl _ _ _,rfl,e⟩
def lD(a:uN):R:=if gd a=0 then z a else 0
def ze(n:R)(a:uN):R:=if gd a=0 then wG n (a.map<|mq<|(n:Y)+1)else n
def xA(c:fw)(m:cK)(a:dX)(n:Y)(b:uN)(t:Y):ab->Option ab:=if gd b=0 then fj t (gu c m (b.map<|mq n)::a)else fj t (m::a)
def Nf.fin{D:fw}{C:Y->ab->Option ab}{t:SR}(h:Nf a f b n 1 j c g D l C t N e i p r s y k)(u:Below (G<|H<|ct f (U b 6) .nilIface) (ct f (U b 6) .nilIface) B):aS B (U b 0)=M (jo 1)/\B.frozen? (U b 0)=bF/\Nf a (ct B (U b 0)<|jo 0) b n 0 j c g D l C t N e i p r s y k:=by
 have o:¬N.bw n.aN b:=by have:=h.inv.st.rI;rw[h.same.1]at this;exact this
 have A:=am h.box;have v:bM (ct f (U b 6) .nilIface) b t 1:=(aT h.box).trans rfl;have d:bM B b t 1:=v.ay (J.aV (S:=az) u) id;have m:=h.fm.set o 6 .nilIface;have w:=(m.trans<|rk (sbqq:=b) m.ok u).set o 0<|jo 0;have q:=(gq.refl h.inv.st.aN (sbqq:=b)).set h.inv.st.rI 6 .nilIface;have x:gq f (ct B (U b 0)<|jo 0) t.aN b N N:=(q.trans<|rk (sbqq:=b) q.ok u).set h.inv.st.rI 0<|jo 0;exact⟨d.cell rfl,d.free,d.gK 0,h.inv.fm A x rfl (ai _) rfl h.inv.loose,h.uA,w,h.same,h.Be⟩
def Dw(S:fw){o:uN}(N:Bool)(h:bM a b n 0)(hV:Inv a b n j e i p r s c g l k S)(bd:n.closed=bF)(hc:ym a d o)(X:∀Q,bY d=M Q->Q<G (H a)/\Q≠b)(hz:∀bl∈o,bl.key.size<=140737488351232/\bl.val.size<=140737488351232)(hr:z o<=1000000000)(hC:c+lD o<=1000000)(hN:l+1<=100000000):cA bG 12 #[aA b,d,aO N] a λal B=>al=aP (lC<|gd o)/\lM a B b n 0 j (c+lD o) (l+1) S (ze n.bj o) (xA S e (bZ i p r s) ((n.bj:Y)+1) o):=by
 have bg:=am h;have c0:=bM.cellAt h 0 rfl;have f0:a.frozen? (U b 0)=bF:=h.free;have E:=kM hV.st.aN hV.st.rI 1;have h1:=h.gK 1;have y:=hV.fm bg E rfl (ai _) rfl hV.loose;have au:J (λQ=>Q=b) a (ct a (U b 0)<|jo 1):=(ij b a);have W:ym (ct a (U b 0)<|jo 1) d o:=au.row hc<|λQ A=>⟨(X Q A).2,(X Q A).1⟩;have t:∀Q,bY d=M Q->Q<G (H<|ct a (U b 0)<|jo 1):=λQ A=>by rw[gE];exact(X Q A).1
 generalize hW:ct a (U b 0) (jo 1)=O at E h1 y au W t;have L:=iB h1;rw[bd]at L;have ad:cA bG 41 #[aA b] O λal B=>al=aP .nilIface/\Below (G<|H O) O B:=L;have u:∀Wr,J az O Wr->cA bG 42 #[d] Wr λal B=>al=aP (lC<|gd o)/\J az Wr B:=λWr a=>LJ (a.row W<|λQ A=>⟨id,t Q A⟩) (λQ A=>ag (t Q A) a.size) (by omega) hz;have F:gd o=0->∀x,J az O x->cA bG 44 #[aA b,d,aO N] x λal B=>al=aP .nilIface/\lM a B b n 1 j (c+lD o) (l+1) S (ze n.bj o) (xA S e (bZ i p r s) ((n.bj:Y)+1) o):=λw x m=>by obtain⟨q1,q2,q3⟩:=CR w;have ac:gq O x n.aN b j j:=⟨y.st.aN.ay m<|λ_ _=>id,m.mono cN,λ_ q=>.inl q⟩;have bc:=y.fm (am h1) ac rfl (ai _) rfl y.loose;have C:bM x b n 1:=(m.block b (am h1) id).trans h1;(have bb:lD o=z o:=by unfold lD;rw[dt w]);(have bh:xA S e (bZ i p r s) ((n.bj:Y)+1) o=λbm=>fj bm (gu S e (o.map<|mq<|(n.bj:Y)+1)::bZ i p r s):=by funext bm;unfold xA;rw[dt w]);(have bf:ze n.bj o=wG n.bj (o.map<|mq<|(n.bj:Y)+1):=by unfold ze;rw[dt w]);rw[bb,bh,bf];refine(Wq S N C bc (m.row W<|λQ A=>⟨id,t Q A⟩) (λQ A=>ag (t Q A) m.size) q1 q2 q3 (λbl hx=>(hz bl hx).2) (by rw[<-bb];exact hC) hN).mono ?_;rintro al B⟨rfl,s',K',m',a',b',c',d',ba,ax,P⟩;exact⟨rfl,s',K',m',a',b',c',d',ba,ax,P.box,P.inv,P.uA,(E.trans ac).trans P.fm,P.same,P.Be⟩
 have K:gd o≠0->∀x,J az O x->aS x (U b 0)=M (jo 1)/\x.frozen? (U b 0)=bF/\lM a (ct x (U b 0)<|jo 0) b n 0 j (c+lD o) (l+1) S (ze n.bj o) (xA S e (bZ i p r s) ((n.bj:Y)+1) o):=λw x m=>by have ac:gq O x n.aN b j j:=⟨y.st.aN.ay m<|λ_ _=>id,m.mono cN,λ_ q=>.inl q⟩;have C:bM x b n 1:=(m.block b (am h1) id).trans h1;have bb:=(E.trans ac).set hV.st.rI 0<|jo 0;refine⟨C.cell rfl,C.free,n,j,e,i,p,r,s,g,k,C.gK 0,(hV.fm bg bb rfl (ai _) rfl hV.loose).mono (by omega) hC (by omega) hN,λbm _ q=>by unfold xA;rw[dh w],bb,⟨rfl,rfl,rfl,rfl,rfl,rfl⟩,by unfold ze;rw[dh w]⟩
 obtain⟨cx,cc,bi⟩:=bS hc;subst bi;obtain⟨an,ao,HW,T⟩:=gD F K hW u;clear h hV E h1 y bd hW F K hc X W t au hz L u;by_cases w:gd o=0;(.have F:=an w;(have V:lC (gd o)=.nilIface:=by rw[w];rfl);rw[V]at T|-;clear an ao w;(go_enter_defers func12,ntmps12);(go_wp2_with fail);apply(lock_free (U b 0) _ c0 f0).mono;rintro al B⟨rfl,av⟩;rw[ae HW]at av;subst B;(go_wp2_with fail);apply ad.mono;rintro al Wr⟨rfl,D⟩;have v:J az O Wr:=J.aV D;have u:=T Wr v;clear D ad;(go_wp2_with fail);apply u.mono;rintro al w2⟨rfl,m⟩;have hd:=F w2<|v.cw m;clear F u m v;(go_wp2_with fail);apply hd.mono;rintro al w3⟨rfl,s',K',m',a',b',c',d',ba,ax,P⟩;have bf:=Hz P.box;have HO:=Z P;clear P hd;(go_wp2_with fail);apply bf.mono;rintro al w4⟨rfl,bc⟩;obtain⟨d0,g0,bb⟩:=HO.fin bc;have bh:=Z bb;clear bb bc bf;go_wp2;refine eR (f:=40) (args:=#[aA b]) (by simp) (by simp[go_sem]) ?_;apply(unlock_deferred (U b 0) .returning _ d0 g0).mono;rintro al u' bk⟨rfl,rfl,rfl⟩;exact⟨_,gy rfl _ _ _,rfl,s',K',m',a',b',c',d',ba,ax,bh⟩);have K:=ao w;obtain⟨bb,hn⟩:∃bb,gd o=bb:=⟨_,rfl⟩;(have V:lC (gd o)=.iface 55 (aq bb):=by unfold lC;rw[dh w,hn]);rw[V]at T|-;clear an ao w hn V;(go_enter_defers func12,ntmps12);(go_wp2_with fail);apply(lock_free (U b 0) _ c0 f0).mono;rintro al B⟨rfl,av⟩;rw[ae HW]at av;subst B;(go_wp2_with fail);apply ad.mono;rintro al Wr⟨rfl,D⟩;have v:J az O Wr:=J.aV D;have u:=T Wr v;clear D ad;(go_wp2_with fail);apply u.mono;rintro al w2⟨rfl,m⟩;obtain⟨d0,g0,hP⟩:=K w2<|v.cw m;have HP:=Z hP;clear K u m v hP;go_wp2;refine eR (f:=40) (args:=#[aA b]) (by simp) (by simp[go_sem]) ?_;apply(unlock_deferred (U b 0) .returning _ d0 g0).mono;rintro al u' bk⟨rfl,rfl,rfl⟩;exact⟨_,gy rfl _ _ _,rfl,HP⟩
end
def bJ.qp(t:bJ):bJ:={t with tb:=0}
def lq(b a:cR):Prop:=a.map bJ.qp=b.map bJ.qp
def lq.length(h:lq i p):z p=z i:=by
 have:=bW z h;simpa using this
def lq.nil(h:lq [] i):i=[]:=pz.1 h.length
def lq.append(h:lq i p)(k:lq r s):lq (i++r) (p++s):=by
 unfold lq at*;rw[aQ,aQ,h,k]
def lq.map(h:lq i p)(f:bJ->S)(a:∀t,f t.qp=f t):p.map f=i.map f:=by
 have e:∀l:cR,l.map f=(l.map bJ.qp).map f:=λl=>by rw[iZ];exact mu<|λt _=>(a t).symm
 rw[e p,e i];exact bW _ h
def lq.mem(h:lq i p)(a:O∈p):∃u∈i,u.qp=O.qp:=by
 have:O.qp∈p.map bJ.qp:=ie a;rw[h]at this;obtain⟨u,c,e⟩:=bz.1 this;exact⟨u,c,e⟩
def lq.symm(h:lq i p):lq p i:=Eq.symm h
def xB{u:bJ}(h:u.qp=O.qp):u.num=O.num:=(bW bJ.num h:u.qp.num=O.qp.num)
def Ai{u:bJ}(h:u.qp=O.qp):u.cs=O.cs:=(bW bJ.cs h:u.qp.cs=O.qp.cs)
def PK{u:bJ}(h:u.qp=O.qp):u.ks=O.ks:=(bW bJ.ks h:u.qp.ks=O.qp.ks)
def lq.all(h:lq i p):p.map bJ.all=i.map bJ.all:=h.map _<|λ_=>rfl
def lq.cr(h:lq i p):cr p=cr i:=by unfold Go.Proofs.YtceammfgahaodaaGreatDoor.cr;rw[h.all]
def lq.bZ{j a b c k d l e:cR}(f:lq j a)(g:lq b c)(h:lq k d)(i:lq l e):bZ a c d e=bZ j b k l:=by
 unfold Go.Proofs.YtceammfgahaodaaGreatDoor.bZ;rw[f.all,g.cr,h.cr,i.cr]
def lq.oQ(h:lq i p):oQ p=oQ i:=by
 unfold Go.Proofs.YtceammfgahaodaaGreatDoor.oQ;have:p.map uK=i.map uK:=h.map _<|λ_=>rfl;rw[h.length,List.flatMap_def,List.flatMap_def,this]
def lq.side(h:lq i p)(a:kR i):kR p:=by
 refine⟨λt b=>?_,?_,?_⟩;obtain⟨u,c,e⟩:=h.mem b;rw[<-PK e,<-Ai e];exact a.pure u c;rw[h.cr];exact a.mr;rw[h.all];exact a.Dh
def lq.Xv(k:lq i p)(g:∀t∈i,FC t):∀t∈p,FC t:=λt h=>by
 obtain⟨u,j,f⟩:=k.mem h;obtain⟨a,b,c,d,e⟩:=g u j;rw[PK f,Ai f]at a b;rw[Ai f]at c d;rw[xB f]at e;exact⟨a,b,c,d,e⟩
def Tl.Zh{w:Fs}{f j l m:cR}(h:Tl w b c g i p r s C k)(n:lq i f)(o:lq p j)(t:lq r l)(u:lq s m):Tl w b c g f j l m C k:=by
 have a:lq (i++p++r++s) (f++j++l++m):=((n.append o).append t).append u;refine⟨λN y F=>?_,?_,h.log,h.Hc,λL d=>?_,?_,λL d=>?_,h.lt,a.Xv h.jb⟩;rcases h.names N y F with q|q|⟨L,d,q⟩;exact .inl q;exact .inr<|.inl q;obtain⟨x,e,v⟩:=a.symm.mem d;exact .inr<|.inr ⟨x,e,by rw[xB v];exact q⟩;rcases h.state with q|⟨q,A,B,D,E,K⟩;refine .inl<|q.trans ?_;unfold iM;simp only[aZ,fi,n.oQ,o.oQ,t.oQ,u.oQ];subst A B D E;exact .inr ⟨q,n.nil,o.nil,t.nil,u.nil,K⟩;obtain⟨x,e,v⟩:=a.mem d;rw[<-xB v,<-Ai v];exact h.zr x e;rw[a.map bJ.num<|λ_=>rfl];exact h.zF;obtain⟨x,e,v⟩:=a.mem d;rw[<-xB v];exact h.low x e
structure wW(w:I)(db:R)(K:DK)(a b c d:cR)(C tb N nx lg:R)(gF:Bool)(ls:dX):Prop where
 aN:cU w db K
 rh:Tl (vw K.files) nx lg tb a b c d gF ls
 pr:PR tb (bZ a b c d)
 lp:FH ((tb:Y)+1) ls
 qK:z (gQ [] ls.flatten)+z (cr a)+z (cr b)+z (cr c)+z (cr d)<=C
 mw:C<=1000000
 s1:kR b
 s2:kR c
 s3:kR d
 UD:gF=bX->ls≠[]
 nx:nx<=2+1000001*N
 bn:tb+z ls<=N
 eU:z K.eU<=1000001+2*N
 Kp:N<=100000000
 steps:Steps w
 pow:Pow w
 fC:¬K.bw db 1
 mJ:¬K.bw db 2
def Ad{ts:cR}(h:∀t∈ts,FC t):z ts<=z (cr ts):=lG<|λt a=>(h t a).pure
def wW.count{f b h i:cR}{n:R}(m:wW a c j f b h i g l y P n C k):z (f++b++h++i)<=1000000:=by
 have e:=m.rh.jb;have o:=Ad (ts:=f) (λt d=>e t<|by simp[d]);have p:=Ad (ts:=b) (λt d=>e t<|by simp[d]);have q:=Ad (ts:=h) (λt d=>e t<|by simp[d]);have r:=Ad (ts:=i) (λt d=>e t<|by simp[d]);have:=m.qK;have:=m.mw;simp only[af];omega
section
open Go.Shelf
attribute [local go_sem] Oper.semAt_some
def ke(n:Y)(b:pU a):cA bG 15 #[lC n] a λe c=>e=aP (aq n)/\Below (G<|H a) a c:=by
 unfold lC;split;rename_i h;subst h;exact Ks a;exact Nr n b
def Xd(w:I)(c:Py):ym (cF w<|aw #[aj c.key,aj c.val,aO c.del] 42) (bE (G<|H w) 0 1 1) [c]:=by
 have h:(cF w<|aw #[aj c.key,aj c.val,aO c.del] 42).heap[G<|H w]?=M (aw #[aj c.key,aj c.val,aO c.del] 42 (0,0)):=aE _ rfl;refine⟨rfl,.inr ⟨G<|H w,0,1,rfl,ai _,λj u a=>?_⟩⟩;rw[bL h,cZ];simpa[eX,oR]using a
def LA(b:I)(a:R)(c:iI)(B:fN)(W:I):Prop:=Acc (λk=>k=a) b [] (G<|H b) 37 68 2 (G (H b)+1) (z c) (ik c) B W
def GX(an:I)(a:R)(fl:SR)(lo hi:ab)(D:iI)(K L:ab)(F:Bool)(et:Y)(fn:I->Prop)(dm:SR->I->Prop)(F0:fN)(fk:a<G (H an))(hF:∀k,F0 k->k<G (H an))(hA:∀W,J az an W->G (H W)=G (H an)+1->cA bG 64 #[aA a,aj lo,aj hi] W λbg P=>∃eo bt bs,bg=aP eo/\Nc W P a eo D bt bs/\J F0 W P/\fn P)(hW:∀s W cB,fn s->J az s W->ym W (bE cB 0 1 1) [⟨K,L,F⟩]->cB<G (H W)->cB≠a->cA bG 12 #[aA a,bE cB 0 1 1,aO bF] W λbg P=>bg=aP (lC et)/\∃d,bM P a d 0/\d.closed=fl.closed/\J F0 W P/\dm d P)(hQ:∀d W W',dm d W->J (λk=>k=a) W W'->bM W' a d 0->dm d W')(hE:∀d W,dm d W->pU W)(cn:fl.closed=bX->D=[])(ei:z D<=1000000000):cA bG 63 #[aA a,aj lo,aj hi,eB #[aj K,aj L,aO F]] an λbg P=>∃v' d,bg=aP (dE #[v',aq et])/\zk an P v' D/\dm d P:=by
 obtain⟨i0,ed,el,em,en⟩:=cL xR;have cp:∀d:SR,d.closed=fl.closed->(if d.closed=bX then []else D)=D:=by intro d bg;split;rename_i h;rw[bg]at h;rw[cn h];rfl
 have T:J az an (cF an<|aw #[aj K,aj L,aO F] 42):=(cI az an);have bf:(cF an<|aw #[aj K,aj L,aO F] 42).heap[G<|H an]?=M (aw #[aj K,aj L,aO F] 42 (0,0)):=aE _ rfl;have x:G (H<|cF an<|aw #[aj K,aj L,aO F] 42)=G (H an)+1:=by simp
 have cc:=hA _ T x;obtain⟨dd,HX,HW,HQ,HE,HF⟩:=kD cp (And.intro T (And.intro bf x)) hW hQ hE hF;clear cp T bf x hA hW hQ hE cn hF;refine(di (n:=3)).1 ?_;refine callsIn_of_wp_marks func63 rfl trivial ?_ rfl;simp only[ntmps63,eZ,aC,cS,Nat.reduceAdd,Nat.reduceSub,eh,dZ,fa,eE,cJ,cC];gi_wp2_with(refine⟨trivial,?_⟩;gi_at_call 64;refine(di.2 cc).mono ?_;rintro bg p⟨v2,bt,bs,rfl,ec,e,bx⟩;obtain⟨ek,⟨u2,ck,u⟩,ch,co⟩:=ec;subst ek;have ac:=(e.block _ (am HX.2.1) (λj=>by have:=HF _ j;omega)).trans HX.2.1;have k0:aS p (U (G<|H an) 0)=M (aj K):=(by rw[bL ac];rfl);have k1:aS p (U (G<|H an) 1)=M (aj L):=(by rw[bL ac];rfl);have k2:aS p (U (G<|H an) 2)=M (aO F):=(by rw[bL ac];rfl);have bk:=Z ck;have cT:=Z u;have bi:=Z ch;have db:=Z co;have bm:=Z e;have dk:=Z bx;clear ck u ch co e bx cc ac)
 gi_wp2_with(refine⟨trivial,?_⟩;gi_at_call 12;refine(di.2<|HW p (cF p<|aw #[aj K,aj L,aO F] 42) (G<|H p) dk (cI az p) (Xd p ⟨K,L,F⟩) (by simp) (by have:=bm.size;have:=HX.2.2;omega)).mono ?_;rintro bg f⟨rfl,d,cd,cm,cu,bT⟩;have eg:∃ev eq,lC et=ev/\ev=eq:=⟨_,_,rfl,rfl⟩;have bh:=Z cd;have cM:=Z cm;have bo:=Z cu;have bl:=Z bT;clear cd cm cu bT k0 k1 k2 eg)
 obtain⟨T,bf,x⟩:=ae HX;have e:=ae bm;have hF:=ae HF;have fe:=e.size;have ef:=bo.size;simp at ef;obtain⟨fb,ey⟩:=ae db;have au:bt<G (H p)/\bs<G (H p):=⟨am bk,am bi⟩;have cs:J F0 p f:=((J.refl F0 p).alloc<|aw #[aj K,aj L,aO F] 42).trans bo<|λ_ j=>.inl j;have bc:∀k,G (H an)<=k->¬F0 k:=λk c j=>by have:=hF k j;omega
 have u:=ae cT;have v:∀k,bY u2=M k->G (H an)+1<=k/\k<G (H p):=λk c=>by have:=u.lt k c;rw[x]at this;exact this
 obtain⟨E,Q⟩:∃E,cF f (aw #[aG] 37)=E:=⟨_,rfl⟩;have A:J az f E:=by rw[<-Q];exact(cI az f)
 have eb:er E (G<|H f) aG 37:=by rw[<-Q];exact aE _ rfl
 have ff:G (H E)=G (H f)+1:=by rw[<-Q];simp
 have y:J F0 p E:=cs.cw A;have cl:er E bt u2 37:=(y.block _ au.1<|bc _<|by omega).trans bk;have cj:er E bs (aA a) 35:=(y.block _ au.2<|bc _<|by omega).trans bi;have ee:=dr<|y.own u<|λk c j=>bc k (by have:=(v k c).1;omega) j;have ea:bM E a d 0:=(A.block a (am bh) id).trans bh;have dv:LA f a [] (λk=>k=G (H f)) E:=by refine⟨λp a=>by simp at a,⟨aG,eb,bN _ _ _ _,λk=>by simp[bY]⟩,λp a=>by simp at a,⟨ai _,by omega⟩,A.mono cN⟩
 have w:=Ip (G<|H f) 2 a d D cl cj ee (by omega) (by omega) (λk c=>⟨by have:=(v k c).2;omega,by have:=(v k c).1;omega⟩) (by omega) (by omega) ei;rw[(ae dd) d<|ae cM]at w;rw[Q];refine Cg (m:=3) (V:=SG a d) (n0:=G<|H f) (gf:=107) (lb:=#[aA bt,aA bs]) (l:=D) (S:=λk=>k=bt\/k=bs\/bY u2=M k) ?geval (enters_of func107 (by kernel_rfl) rfl) (λ_=>rfl) w ea (by omega) ?slt (λb cx W=>LA f a b cx W) (λ_ _ _ _=>False) (λk=>k=G (H f)) dv ?sb ?lt ?st (λ_ _ _ _ _ _ h=>h.elim) ?body ?done ?stop;case geval=>rfl
 (case slt=>rintro k(j|j|j);omega;omega;have:=(v k j).2;omega);(case sb=>rintro k(j|j|j)dn;omega;omega;have:=(v k j).2;omega);(case lt=>intro b cx W h k c;exact h.lt k c);(case st=>intro b cx W W' fr h o n;refine h.stays o<|λk c=>⟨(n k c).1,?_⟩;rcases(n k c).2 with j|j;exact .inl j;exact .inr<|by omega);(case stop=>intro cE j b cx W _ h;exact h.elim)
 case body=>
  intro lr b ev cx W fd bp ej av hC t;obtain⟨xk,xv⟩:=ev;have dT:z b+1<=1000000000:=by
   have h1:=av.length_le;simp at h1;omega
  have HC:=Z hC;have q:=Z t;clear hC t av;unfold Qm;simp only;gi_wp2;refine⟨J.refl _ _,λs e=>?_⟩;have ba:LA f a b cx s:=HC.stays e (λk c=>by subst c;exact⟨bp,.inr<|by omega⟩);obtain⟨eo,X,g,B⟩:=ba.row;have bb:aS s (U (G<|H f) 0)=M eo:=X.cell;have ex:s.frozen? (U (G<|H f) 0)=bF:=X.free;have ao:G (H f)<G (H s):=am X;obtain⟨O,N,bd⟩:=aB g;obtain⟨bv,HV,r,ax⟩:=gD ba X g B;have bn:=Z e;clear ba X g B e;subst bd;gi_wp2_with(first
   |(gi_at_builtin;refine ez _ rfl (.tmp 26) (.tmp 30) 37 rfl (G (H f)+1) 68 i0 (.agg #[.string ⟨#[]⟩,.string ⟨#[]⟩]) 2 32 underlying37 ed el em en rfl (by decide) (.slice O (z b) N) (z b) (ik b) rfl (aU r (.cells #[.string xk,.string xv] 68)) (U (G (H s)) 0) 1 1 (qB (xk,xv)) rfl rfl (OE _ (xk,xv) _) (XS _) (by omega) (by omega) (by simp;omega) ?_;intro v2 w3 n C;obtain⟨al,ad,rfl⟩:=aB n;have o:er w3 (G (H f)) (.slice O (z b) N) 37:=(C.grown.block _ (am (HV.alloc (.cells #[.string xk,.string xv] 68))) (λj=>by have:=(r.lt _ j.symm).1;omega)).trans (HV.alloc _);have ds:=o.cell;have dx:=o.free;have es:=am o;clear o;have ca:=Z n;have cb:=Z C;clear n C))
  have g:=ae r;have bu:=ae cb;have dc:J (λk=>bY (ah O (z b) N)=M k) s w3:=((J.refl (λk=>bY (ah O (z b) N)=M k) s).alloc<|aw #[aj xk,aj xv] 68).trans (J.dR (S:=λk=>bY (ah O (z b) N)=M k) bu.grown<|λk c=>.inl c)<|λk c=>.inl c;have cv:bY (ah al (z b+1) ad)=bY (ah O (z b) N)\/∃eu,bY (ah al (z b+1) ad)=M eu/\G (H s)<=eu:=by
   rcases bu.uq with dn|⟨eu,dn,hg⟩
   .exact .inl dn
   .exact .inr ⟨eu,dn,by simp at hg;omega⟩
  obtain⟨B',q1,q2,q3⟩:=bv.more HV ax g dc cv ca;have ce:LA f a (b++[(xk,xv)]) B' (ct w3 (U (G<|H f) 0)<|ah al (z b+1) ad):=by
   unfold LA;rw[EV,af];exact q1
  have e:=ae bn;have bq:J (λk=>cx k\/k=lr) W (ct w3 (U (G<|H f) 0)<|ah al (z b+1) ad):=(e.mono (T:=λk=>cx k\/k=lr)<|λk c=>.inl<|.inr c).trans q2<|λk c=>.inl<|.inl c;have br:∀k,(cx k\/k=lr)->k≠a:=λk c j=>by
   rcases c with dn|dn
   .have:=(HC.lt k dn).1;omega
   .omega
  exact⟨(SG a d).fq q bq<|λk c j=>br k c j,B',ce,bq,q2.block lr (by have:=e.size;omega) bp,λk c=>(q3 k c).imp_right (λj=>by have:=e.size;omega)⟩
 (case done=>intro cE cx W es hC ds t hK;obtain⟨eo,X,g,B⟩:=hC.row;have bb:aS W (U (G<|H f) 0)=M eo:=X.cell;have ao:=am X;obtain⟨O,N,bd⟩:=aB g;obtain⟨HC,r,ax,q,HK⟩:=jX hC g B t hK;clear hC X g B t hK;subst bd;have ca:dm d W:=HQ d f W bl HC.ay q;have bn:pU W.drew:=show pU W from HE d W ca;have cv:=ke et bn;have cb:aS W.drew (U (G<|H f) 0)=M (ah O (z D) N):=bb;clear ca bn;(gi_wp2_with fail);rename_i QQ KK bv;refine wpIn_mono (Q:=Exit.then KK (λ_ _ _=>False)) ?_ (by intro bg a1 W1 hh;cases bg<;>first|exact hh|exact hh.elim);refine Bf (λba=>aS ba (U (G<|H f) 0)=M (ah O (z D) N)) 4 (by kernel_rfl) (by kernel_rfl) (λeu an h=>h) ?_;refine cY 0 ?_;(iterate 2 (refine eJ (v:=?_) cb rfl (by kernel_rfl) iV rfl ?_ ?_;rotate_left;(focus(intro ba hX;go_simp;try rfl));simp only[Act.put,dG,Nat.reduceAdd]));apply eA;refine aM (i:=2) rfl rfl (by kernel_rfl) ?_;intro K2 bp;go_simp;apply cv.mono;rintro bg w5⟨rfl,ce⟩;have n:J az W w5:=(cg az W).cw<|J.aV (S:=az) ce;have C:=n.cell bb id ao;refine bp _ _ (λ_=>C) ?_;(try simp only[Act.put,dG]);refine aM (i:=3) rfl rfl (by kernel_rfl) ?_;intro K3 bq;go_simp;refine bq _ _ (λ_=>C) ?_;(try simp only[Act.put,dG]);refine aM (i:=4) rfl rfl (by kernel_rfl) ?_;intro K4 br;go_simp;refine br _ _ wH ?_;refine cX (by kernel_rfl) ?_ _;show KK _ _;apply bv;have o:bM w5 a d 0:=(n.block a (am q) id).trans q;have bu:w5.heap[cE]?=M (.deferred<|M []):=(n.block cE (am HK) id).trans HK;obtain⟨al,dc,av⟩:=dI o bu n;clear bv bp bq br o bu n C cb cv ce;gi_wp2;have hB:=ae ax;have n3:¬bY (ah O (z D) N)=M cE:=λj=>ds<|(hB _).2<|.inr<|.inr j;have ad:=gH w5 cE<|.deferred none;(have dx:cE≠a:=by omega);have dT:bM (w5.putObj cE<|.deferred none) a d 0:=(ad.block a (am al)<|λj=>dx j.symm).trans al;have ej:J (λk=>k=a) f (w5.putObj cE<|.deferred none):=(HC.ay.cw av).trans ad (λk c=>by subst c;exact .inr<|by omega);refine⟨by simp,.inl ⟨_,_,rfl,run_takeDeferred dc,?_⟩⟩;refine⟨_,kY rfl _ _ _,_,d,rfl,?_,HQ d f _ bl ej dT⟩;have g:=av.own r<|λ_ _ j=>j;exact eM (ad.own g (λk c j=>by subst j;exact n3 c))<|by omega)
end
def CX(w:I)(d c:R)(e:jd)(t:bJ):Prop:=∃b a,mh w t.tb (aA d) t.num (z<|dL t.cs) (z<|fp<|bO 0 t.cs) (mQ<|fp<|bO 0 t.cs) b 0 a aG t.ks/\c<t.tb/\t.tb<G (H w)/\c<b/\b<G (H w)/\∀(j:R)(v:aa),e[j]?=M v->bY v≠M t.tb/\bY v≠M b
structure CZ(w0 wr:I)(db:R)(K K1:DK)(gb lb:R)(mv vs:jd)(Ts:cD cR):Prop where
 RK:wr.heap[gb]?=M (aw mv.toArray 185 (0,0))
 box:wr.heap[lb]?=M (aw vs.toArray 107 (0,0))
 zp:z vs=4
 DD:z Ts=4
 rows:∀(j:R)(v:aa)(T:cR),vs[j]?=M v->Ts[j]?=M T->wr.ownsRow (lb+1) 224 1 v (z T) (T.map bJ.ptr)
 ne:∀(j j':R)(v v':aa)(q:R),j≠j'->vs[j]?=M v->vs[j']?=M v'->bY v=M q->bY v'≠M q
 aN:cU wr db K1
 same:K1.files=K.files/\K1.eU=K.eU/\∀k,K1.bw db k->K.bw db k
 zr:∀t∈Ts.flatten,CX wr db lb vs t
 Gg:(Ts.flatten.map bJ.tb).Nodup
 ay:J (K.bw db) w0 wr
 low:∀k,K.bw db k->k<G (H w0)
 ord:G (H w0)<=gb/\gb<lb/\lb<G (H wr)
def AL{t:bJ}:∀{a:cD cR}{b:R},a[b]?=M i->List.Perm (a.set b<|i++[t]).flatten (t::a.flatten)
 |[],b,h=>by simp at h
 |Uqq::a,0,h=>by
  simp at h;subst h;rw[dM,aX,aX,aW];exact lj
 |Uqq::a,b+1,h=>by
  rw[pA]at h;rw[dH,aX,aX];exact((lE Uqq<|AL h).trans lj)
def CZ.row{o wr:I}{k:DK}{f:jd}{a:cD cR}(m:CZ o wr b N k c g x f a){j:R}(e:f[j]?=M d):∃T,a[j]?=M T/\wr.ownsRow (g+1) 224 1 d (z T) (T.map bJ.ptr):=by
 have n:j<4:=by rw[<-m.zp];rcases dK j (z f)with l|l;exact l;rw[dy l]at e;cases e
 have h:a[j]?=M (a[j]'(by rw[m.DD];exact n)):=aK _;exact⟨_,h,m.rows j d _ e h⟩
def CZ.own{n wr:I}{a:jd}{e:cD cR}(o:CZ n wr c j N g l x a e)(m:a[y]?=M d){q:R}(h:bY d=M q):l<q/\q<G (H wr):=by
 obtain⟨D,_,k⟩:=o.row m;have:=aI k q h;omega
def CZ.cell{e wr:I}{a:jd}{d:cD cR}(k:CZ e wr c j N g l x a d)(h:R):aS wr (U l h)=a[h]?:=by
 rw[bL k.box];simp
def CZ.YB{e wr:I}{d:jd}{a:cD cR}(h:CZ e wr b j N c g x d a)(f:R):aS wr (U c f)=x[f]?:=by
 rw[bL h.RK];simp
def CX.ay{S:fN}{w w':I}(l:CX w c g x O)(d:J S w w')(j:∀q,S q->q<=g):CX w' c g x O:=by
 obtain⟨k,a,p,m,e,n,h,o⟩:=l;refine⟨k,a,p.dq (d.block _ e (λl=>by have:=j _ l;omega))<|d.block _ h (λl=>by have:=j _ l;omega),m,ag e d.size,n,ag h d.size,o⟩
def CZ.move{s wr n:I}{i:DK}{r:jd}{o:cD cR}(h:CZ s wr b j N c g x r o)(f:J X wr n)(p:∀k,X k->j.bw b k\/c<k/\k<g)(t:cU n b i)(m:i.files=N.files/\i.eU=N.eU/\∀k,i.bw b k->N.bw b k):CZ s n b j i c g x r o:=by
 have l:=h.low;have a:=h.ord;have d:∀k,X k->k<c\/c<k/\k<g:=λk a=>(p k a).imp (λe=>by have:=l k e;omega) id;refine⟨?_,?_,h.zp,h.DD,?_,h.ne,t,⟨m.1.trans h.same.1,m.2.1.trans h.same.2.1,λk e=>h.same.2.2 k<|m.2.2 k e⟩,?_,h.Gg,?_,l,?_⟩;exact(f.block c (am h.RK) (λe=>by have:=d _ e;omega)).trans h.RK;exact(f.block g (am h.box) (λe=>by have:=d _ e;omega)).trans h.box;exactλk v T a c=>f.own (h.rows k v T a c) (λq g e=>by have:=h.own a g;have:=d _ e;omega);exactλt a=>(h.zr t a).ay f (λk e=>by have:=d _ e;omega);exact h.ay.trans f (λk e=>(p k e).imp id<|λe=>by omega);exact⟨a.1,a.2.1,ag a.2.2 f.size⟩
def CZ.still{f wr h:I}{e:jd}{a:cD cR}(i:CZ f wr b j N c g x e a)(d:J az wr h):CZ f h b j N c g x e a:=i.move d cN (i.aN.ay d<|λ_ _=>id) ⟨rfl,rfl,λ_ k=>k⟩
def CZ.put{w0 wr B:I}{F:jd}{Ts:cD cR}{T:cR}(n:CZ w0 wr c j N g l x F Ts)(w:F[y]?=M d)(hT:Ts[y]?=M T)(hw:eY wr B d t)(ho:B.ownsRow (l+1) 224 1 t (z<|T++[O]) ((T++[O]).map bJ.ptr))(W:CX wr c l F O)(V:O.tb∉Ts.flatten.map bJ.tb):CZ w0 (ct B (U l y) t) c j N g l x (F.set y t) (Ts.set y<|T++[O]):=by
 have v:J (λQ=>bY d=M Q) wr B:=J.fH hw;have D:=λq=>n.own (q:=q) w;have r:=n.ord;have K:=n.low;have S:B.heap[l]?=M (aw F.toArray 107 (0,0)):=(v.block l (am n.box) (λm=>by have:=D _ m;omega)).trans n.box;have i:J (λQ=>Q=l) B (ct B (U l y) t):=(ij l B);have L:∀q,bY t=M q->l<q/\q<G (H B):=λq e=>by have:=aI ho q e;omega
 have o:∀q,q<G (H wr)->(∀(P:R)(A:aa),F[P]?=M A->bY A≠M q)->bY t≠M q:=λq e h m=>by rcases hw.uq with E|⟨X,E,hy⟩;exact h y d w<|E.symm.trans m;rw[E]at m;cases m;omega
 have u:∀A,CX wr c l F A->CX (ct B (U l y) t) c l (F.set y t) A:=by rintro A⟨bb,h,hm,h1,h2,h3,h4,k⟩;have ac:mh B A.tb (aA c) A.num (z<|dL A.cs) (z<|fp<|bO 0 A.cs) (mQ<|fp<|bO 0 A.cs) bb 0 h aG A.ks:=hm.dq (v.block _ h2<|λm=>(k y d w).1 m)<|v.block _ h4<|λm=>(k y d w).2 m;have g2:=ag h2 v.size;have g4:=ag h4 v.size;refine⟨bb,h,ac.dq (i.block _ g2<|by omega) (i.block _ g4<|by omega),h1,by rw[gE];exact g2,h3,by rw[gE];exact g4,?_⟩;intro P ad C;by_cases m:y=P;subst m;rw[gM,w]at C;cases C;exact⟨o _ h2<|λP A a=>(k P A a).1,o _ h4<|λP A a=>(k P A a).2⟩;rw[fO m]at C;exact k P ad C
 have s:=AL (t:=O) hT;refine⟨?_,?_,by rw[eT];exact n.zp,by rw[eT];exact n.DD,?_,?_,?_,n.same,?_,?_,?_,K,?_⟩;exact(i.block g (ag (am n.RK) v.size)<|by omega).trans<|(v.block g (am n.RK) (λm=>by have:=D _ m;omega)).trans n.RK;rw[aT S];simp;intro P A C a h;by_cases m:y=P;subst m;rw[gM]at a h;rw[w]at a;rw[hT]at h;cases a;cases h;exact i.own ho (λq e m=>by have:=L q e;omega);rw[fO m]at a h;have k:=v.own (n.rows P A C a h)<|λq e E=>n.ne P y A d q (Ne.symm m) a w e E;exact i.own k (λq e m=>by have:=n.own a e;omega);intro P i' A u' q C a k e;by_cases m:y=P;subst m;rw[fO C]at k;rw[gM,w]at a;cases a;intro h;change bY t=M q at e;rcases hw.uq with E|⟨X,E,hy⟩;exact n.ne _ _ _ _ q C w k (E.symm.trans e) h;rw[E]at e;cases e;have:=n.own k h;omega;rw[fO m]at a;by_cases e':y=i';subst e';rw[gM,w]at k;cases k;intro h;change bY t=M q at h;rcases hw.uq with E|⟨X,E,hy⟩;exact n.ne _ _ _ _ q C a w e<|E.symm.trans h;rw[E]at h;cases h;have:=n.own a e;omega;rw[fO e']at k;exact n.ne _ _ _ _ q C a k e;exact(n.aN.ay v (λQ E m=>by have:=D _ m;have:=K Q<|n.same.2.2 Q E;omega)).ay i (λQ E m=>by have:=K Q<|n.same.2.2 Q E;omega);intro A a;rcases aD.1 (s.mem_iff.1 a)with rfl|a;exact u _ W;exact u A<|n.zr A a;rw[(s.map bJ.tb).nodup_iff,aZ,kP];exact⟨V,n.Gg⟩;exact(n.ay.trans v<|λQ m=>.inr (by have:=D _ m;omega)).trans i<|λQ m=>.inr (by have:Q=l:=m;omega);exact⟨r.1,r.2.1,by rw[gE];exact ag r.2.2 v.size⟩
def Steps.ay{S:fN}{w w':I}(h:Steps w)(d:J S w w')(a:¬S 1):Steps w':=λk c=>d.cell (h k c) a h.lt
def pF(a:cD cR):cD cR:=a.map<|List.map bJ.qp
def pE{a:cD cR}(h:a[b]?=M i):(pF a)[b]?=M (i.map bJ.qp):=by simp[pF,h]
def CZ.RS{q wr:I}{k:jd}{e:cD cR}(m:CZ q wr c j N g l x k e)(h:k[y]?=M d)(f:e[y]?=M i)(n:z i<=1000000000):iX wr d i where
 row:=dr<|m.rows y d i h f
 lt:=λd a=>(m.own h a).2
 each:=λt p=>by
  obtain⟨r,a,o,_⟩:=m.zr t<|bC.2 ⟨i,gz f,p⟩;exact⟨_,_,_,_,_,_,_,_,_,o⟩
 small:=n
def Ev{db:R}{K:DK}(u:cD cR)(x0 x1 x2 x3:Option Addr)(n0 c0 n1 c1 n2 c2 n3 c3:R)(bx:cU a db K)(s:Steps a)(bl:Pow a)(ec:¬K.bw db 1)(eb:¬K.bw db 2)(h4:z u=4)(al:∀(Q:R)(au:aa)(o:cR),[ah x0 n0 c0,ah x1 n1 c1,ah x2 n2 c2,ah x3 n3 c3][Q]?=M au->u[Q]?=M o->Row a 4 au (z o) (du o))(ca:∀(Q:R)(au:aa),[ah x0 n0 c0,ah x1 n1 c1,ah x2 n2 c2,ah x3 n3 c3][Q]?=M au->∀k,bY au=M k->k<G (H a)/\¬K.bw db k)(l:∀ei∈u.flatten,FC ei)(hf:∀ei∈u.flatten,ew (vw K.files) (gP ei.num)=M (mS ei.cs))(an:∀(Q:R)(o:cR),0<Q->u[Q]?=M o->kR o)(ed:z u.flatten<=1000000):cA bG 94 #[aA db,eB #[ah x0 n0 c0,ah x1 n1 c1,ah x2 n2 c2,ah x3 n3 c3]] a λck w'=>
 ∃y0 m0 b y1 m1 c y2 m2 d y3 m3 e,ck=aP (dE #[eB #[ah y0 m0 b,ah y1 m1 c,ah y2 m2 d,ah y3 m3 e],.nilIface])/\∃f Ts,CZ a w' db K f (G<|H a) (G (H a)+2) [ah x0 n0 c0,ah x1 n1 c1,ah x2 n2 c2,ah x3 n3 c3] [ah y0 m0 b,ah y1 m1 c,ah y2 m2 d,ah y3 m3 e] Ts/\pF Ts=pF u:=by
 obtain⟨i0,fn,fu,fv,fx⟩:=cL wi
 have gb:∀(fz:Bool)(a:I),(Op.unary .not<|aO fz).run bG a=.ok (aO<|!fz) a:=λ_ _=>rfl
 obtain⟨mv,cc⟩:∃mv:jd,mv=[ah x0 n0 c0,ah x1 n1 c1,ah x2 n2 c2,ah x3 n3 c3]:=⟨_,rfl⟩
 rw[<-cc]at al ca|-
 obtain⟨W1,x⟩:∃W1,cF (cF (cF a<|aw mv.toArray 185)<|aw #[aG,aG,aG,aG] 107) (aw #[aG,aG,aG,aG] 107)=W1:=⟨_,rfl⟩
 have bs:J az a W1:=by rw[<-x];exact((cI az a).alloc _).alloc _
 have cx:W1.heap[G (H a)+1]?=M (aw #[aG,aG,aG,aG] 107 (0,0)):=by rw[<-x];exact(ga _<|by simp).trans<|aE _<|by simp
 have hA0:CZ a W1 db K K (G<|H a) (G (H a)+2) mv [aG,aG,aG,aG] [[],[],[],[]]:=by
  refine⟨?_,?_,rfl,rfl,?_,?_,bx.ay bs<|λ_ _=>id,⟨rfl,rfl,λ_ O=>O⟩,by simp,by simp,bs.mono cN,bx.lt,?_⟩
  .rw[<-x];exact(ga _ (by simp;omega)).trans<|(ga _<|by simp).trans<|aE _ rfl
  .rw[<-x];exact aE _<|by simp
  .intro Q au bf m s;have ck:au=aG/\bf=[]:=by
    rcases Q with _|_|_|_|Q<;>simp at m s<;>exact⟨m.symm,s⟩
   rw[ck.1,ck.2];exact bN _ _ _ _
  .intro Q b au c q _ m _ hq;have ck:au=aG:=by
    rcases Q with _|_|_|_|Q<;>simp at m<;>exact m.symm
   rw[ck]at hq;cases hq
  .refine⟨ai _,by omega,?_⟩;rw[<-x];simp
 obtain⟨cl,eq,HT,HP,cn,cm,eo,HF⟩:=Fc hA0 cx s bl al ca l hf
 obtain⟨bq,H4,ev,em,ey,cu,fk⟩:=wI an h4 ed cc x ec eb
 clear bx s bl al ca l hf an h4 ed cc bs cx hA0 x ec eb
 go_in
 go_wp2_with fail
 rw[ae ey]
 have e2:G (H a)+1+1=G (H a)+2:=rfl
 rw[e2]
 obtain⟨n,bT⟩:∃n,G (H a)+2=n:=⟨_,rfl⟩
 rw[bT]at cl|-
 have dT:∀(i:R)(o:cR),u[i]?=M o->z o<=1000000:=λi o P=>by
  have E:=ae ev;have h2:z o<=z u.flatten:=qi<|cW<|gz P;omega
 have el:=Z dT
 have ax:=Z bT
 clear dT e2 bT
 go_loopw [12] (λb wr=>∃(i:R)(K1:DK)(vs:jd)(Ts:cD cR),i<=4/\b=aq i/\CZ a wr db K K1 (G<|H a) n mv vs Ts/\oa (pF u) (pF Ts) i 0/\wr.heap[G (H a)+1]?=M (aw #[aG,aG,aG,aG] 107 (0,0))) (λb _=>4-(intOf b).toNat)
 case atStart=>exact⟨0,_,_,_,bB _,rfl,cl,oa.start<|pF u,eq⟩
 case round=>
  obtain⟨i,K1,vs,Ts,hi,rfl,w,ba,d⟩:=hrel;by_cases L:i<4
  .have S:=Z d;clear d;have ds:i<z u:=by rw[ae H4];exact L
   obtain⟨o,P⟩:∃o,u[i]?=M o:=⟨_,aK ds⟩;have bi:i<z mv:=by rw[ae em];exact L
   obtain⟨au,m⟩:∃au,mv[i]?=M au:=⟨_,aK bi⟩;have ce:=cn i au o m P;obtain⟨fz,O,fs⟩:∃fz O,au=ah fz (z o) O:=by
    obtain⟨q1,⟨q2,q0⟩|⟨gi,bp,cv,q2,_⟩⟩:=ce
    .exact⟨none,0,by rw[q2,q0]⟩
    .exact⟨_,_,q2⟩
   subst fs;have fr:=el i o P;have hc:=(w.YB i).trans m;have e1:(i:Y)<4:=by omega
   have e0:(0:Y)<=(i:Y):=by omega
   obtain⟨HA,et,HM,HV,eu⟩:=jX w ba P m ce;clear w ba P m ce ds bi;go_wp2_with fail
   go_loopw [19] (λc b=>∃(k:R)(K1:DK)(vs:jd)(Ts:cD cR),k<=z o/\c=aq k/\CZ a b db K K1 (G<|H a) n mv vs Ts/\oa (pF u) (pF Ts) i k/\b.heap[G (H a)+1]?=M (aw #[aG,aG,aG,aG] 107 (0,0))) (λc _=>z o-(intOf c).toNat)
   case atStart=>exact⟨0,_,_,_,bB _,rfl,HA,et,S⟩
   case round=>
    obtain⟨k,K2,N,p,hk,rfl,hA2,f,ad⟩:=hrel;have e:=Z ad;clear ad;by_cases F:k<z o
    .have P:=ae HM;have X:o[k]∈u.flatten:=bC.2 ⟨o,gz P,ar F⟩;have l:=eo _ X;have dk:=HF _ X;have bn:=hA2.ay.row eu<|λq hq=>⟨(cm i _ HV q hq).2,(cm i _ HV q hq).1⟩;obtain⟨ge,b,hx,W⟩:∃ge b,fz=M (U ge b)/\∀Q eg,(o[k].uG)[Q]?=M eg->aS wr (U ge<|b+(k*4+Q))=M eg:=by
      obtain⟨q1,⟨q2,q0⟩|⟨gi,bp,cv,q2,bh,B⟩⟩:=bn
      .omega
      .cases q2;refine⟨gi,bp,rfl,λQ eg hu=>B _ _ ?_⟩;have hj:Q<4:=by
        rcases dK Q 4 with O|O
        .exact O
        .rw[dy<|by simpa[bJ.uG]using O]at hu;cases hu
       rw[Hi o k Q F hj];exact hu
     subst hx;have cT:=W 0 _ rfl;have dc:=W 1 _ rfl;have bu:=W 2 _ rfl;have bv:=W 3 _ rfl;have bb:i<z p:=by rw[hA2.DD];exact L
     obtain⟨bf,s⟩:∃bf,p[i]?=M bf:=⟨_,aK bb⟩;have bt:z bf=k:=by
      have E:=f.now _<|pE P;rw[pE s]at E;have h2:=bW z<|dF E;simp at h2;omega
     have t:bf.map bJ.qp=(o.map bJ.qp).take k:=by
      have E:=f.now _<|pE P;rw[pE s]at E;exact dF E
     have bd:i<z N:=by rw[hA2.zp];exact L
     obtain⟨au,m⟩:∃au,N[i]?=M au:=⟨_,aK bd⟩;have g:=hA2.rows i au bf m s;rw[bt]at g;obtain⟨ox,oc,cd⟩:=aB g;subst cd;have bm:=f.one<|pE P;have ef:(o.map bJ.qp).take (k+1)=(o.map bJ.qp).take k++[o[k].qp]:=by
      rw[ak<|by simpa using F];simp
     have hA3:=hA2.still<|(J.refl az wr).alloc<|aw #[aL o[k].num,dz<|z<|dL o[k].cs,dz<|z<|fp<|bO 0 o[k].cs,dz<|mQ<|fp<|bO 0 o[k].cs] 266;rw[l.ks]at bu bv;generalize o[k]=ei at*;have r:=Ku ei.num l.num ei.cs l.idx (Steps.ay HT hA3.ay cu) (Pow.ay HP hA3.ay fk) l.small (λO=>cu<|hA2.same.2.2 _ O) hA3.aN (by rw[hA2.same.1];exact dk);unfold EK at r;have bc:=l.num;have dv:=l.ks;obtain⟨v,av,gc,T,cp⟩:=jX hA2 hA3 g m s;obtain⟨cs,br,ex,C,ek⟩:=jX bt t ef bm dv;have e4:(k:Y)<(z o:Y):=by omega
     have e5:(0:Y)<=(k:Y):=by omega
     have k0:aS wr (U n i)=M (ah ox k oc):=(hA2.cell i).trans m;have e6:b+(k*4+0)=b+k*4:=by omega
     have e7:b+(k*4+1)=b+k*4+1:=by omega
     have e8:b+(k*4+2)=b+k*4+2:=by omega
     have e9:b+(k*4+3)=b+k*4+3:=by omega
     rw[e6]at cT;rw[e7]at dc;rw[e8]at bu;rw[e9]at bv;clear hA2 hA3 g m s bt t ef bm dv l dk bn W P X bb bd f e6 e7 e8 e9;obtain⟨gg,tk,j,tn⟩:=ei;simp only at cT dc bu bv r bc;generalize cB:z (dL j)=tl at*;generalize cE:z (fp<|bO 0 j)=ti at*;generalize cM:mQ (fp<|bO 0 j)=tc at*;obtain⟨fb,fd,fe⟩:=dI cB cE cM;clear cB cE cM;have cb:=v.ord;have co:=Z (show G (H wr)<G (H<|cF wr<|aw #[aL tn,dz tl,dz ti,dz tc] 266)by simp);go_wp2_with fail
     apply r.mono;rintro ck w3⟨c,fL,D,rfl,V,dm,dn,K3,hd,dd,dx,bg⟩;have hA4:=av.move hd.ay (λq hq=>.inl<|av.same.2.2 q hq) hd.ok ⟨dd,dx,bg⟩;have ee:=ae co;have gf:n<G (H wr):=cb.2.2;have A:=(hd.ay.block _ (by have:=am e;omega) (λO=>by have:=av.low _<|av.same.2.2 _ O;omega)).trans<|(ga _<|am e).trans e;have bo:CX w3 db n N ⟨c,tk,j,tn⟩:=by
      refine⟨fL,D,?_,by show n<c;omega,am V.box,by omega,?_,λQ eg hu=>⟨λO=>?_,λO=>?_⟩⟩
      .show mh w3 c (aA db) tn (z<|dL j) (z<|fp<|bO 0 j) (mQ<|fp<|bO 0 j) fL 0 D aG tk;rw[ae fb,ae fd,ae fe,ae ek];exact V
      .have B:0<z (eD<|bO 0 j):=by
        have:=V.ne;rcases hq:bO 0 j with _|⟨q,gj⟩
        .rw[hq]at this;simp at this
        .simp[eD,rq.cells]
       have:=V.cells 0 _<|aK B;exact dj w3 _ this
      .have E:=(v.own hu O).2;have h2:G (H wr)<=c:=by omega
       simp only at E;omega
      .have E:=(v.own hu O).2;omega
     have bk:c∉p.flatten.map bJ.tb:=λO=>by
      obtain⟨eg,hu,ck⟩:=bz.1 O;obtain⟨_,_,_,_,h2,_⟩:=v.zr eg hu;omega
     have y:=hA4.rows i _ bf T cp;rw[ae cs]at y;have k1:aS w3 (U n i)=M (ah ox k oc):=(hA4.cell i).trans T;have ch:n<G (H w3):=hA4.ord.2.2;have ff:=Z (show∀v5 w5,w5.ownsRow (n+1) 224 1 v5 (k+1) (bf.map bJ.ptr++[aA c])->eY (cF w3<|aw #[aA c] 224) w5 (ah ox k oc) v5->CZ a (ct w5 (U n i) v5) db K K3 (G<|H a) n mv (N.set i v5) (p.set i<|bf++[⟨c,tk,j,tn⟩])/\(ct w5 (U n i) v5).heap[G (H a)+1]?=M (aw #[aG,aG,aG,aG] 107 (0,0))/\aS w5 (U n i)=M (ah ox k oc)/\w5.frozen? (U n i)=bF from by
      intro v5 w5 ac ao;have B:J az w3 (cF w3<|aw #[aA c] 224):=(cI az w3);have hA5:=hA4.still B;have cj:=J.fH ao;have ea:bY (ah ox k oc)≠M n:=λO=>by have:=(hA4.own T O).1;omega
      have fl:=(cj.block n (ag ch B.size) ea).trans hA5.box;refine⟨hA5.put T cp ao ?_ (bo.ay B cN) bk,?_,?_,by simp[World.frozen?,fl]⟩
      .rw[af,ae cs,aQ];exact ac
      .have bh:=am A;exact(iC v5 (by have:=ae ax;omega)).trans<|(cj.block _ (ag bh B.size) (λO=>by have:=(hA4.own T O).1;have:=ae ax;omega)).trans<|(B.block _ bh id).trans A
      .exact cj.cell (B.cell k1 id ch) ea (ag ch B.size))
     have en:=Z y;clear V dm dn hd dd dx bg hA4 bo bk y r k0 ee A;go_wp2_with(first
      |(at_builtin;go_loud(refine bV _ rfl (.tmp 36) (.tmp 38) 105 rfl (n+1) 224 i0 (.pointer none) 1 8 underlying105 fn fu fv fx rfl (by decide) (.slice ox k oc) k (bf.map bJ.ptr) rfl (aU en _) (U (G (H w3)) 0) 1 1 [aA c] rfl rfl (tI _ _ _) (by simp[Value.oneCell']) (by omega) (by omega) (by simp;omega) ?_;intro v5 w5 ac ao;obtain⟨hA5,y2,y0,y1⟩:=ff v5 w5 ac ao;obtain⟨x5,c5,rfl⟩:=aB ac;have ej:=Z hA5;have es:=Z y2;clear ac ao hA5 y2)))
     go_roundw;case rel=>
      refine⟨k+1,K3,_,_,F,by go_num,ej,?_,es⟩;have E:=ae C;have h2:pF (p.set i<|bf++[⟨c,tk,j,tn⟩])=(pF p).set i ((o.map bJ.qp).take<|k+1):=by
       unfold pF;rw[oe,aQ,ae br,ae ex];rfl
      rw[h2];exact E
     case measure=>simp[intOf];omega
    .have D:k=z o:=by omega
     subst D;have bb:i<z p:=by rw[hA2.DD];exact L
     obtain⟨bf,s⟩:∃bf,p[i]?=M bf:=⟨_,aK bb⟩;have bd:i<z N:=by rw[hA2.zp];exact L
     obtain⟨au,m⟩:∃au,N[i]?=M au:=⟨_,aK bd⟩;have t:lq o bf:=by
      have E:=f.now _<|pE HM;rw[pE s]at E;have h2:=dF E;rw[da<|by simp]at h2;exact h2
     have c:=hA2.RS m s (by rw[t.length];omega);have g:=hA2.rows i au bf m s;obtain⟨ox,oc,cd⟩:=aB g;subst cd;have k0:aS wr (U n i)=M (ah ox (z bf) oc):=(hA2.cell i).trans m;have b:=(show oa (pF u) (pF p) i (z<|o.map bJ.qp)by rw[cV];exact f).xN (pE HM) (by unfold pF;rw[cV];exact H4);have e4:¬((z o:Y)<(z o:Y)):=by omega
     have v:=Z hA2;have C:=Z b;by_cases y:i=0
     .subst y;clear hA2 f c g s m b;go_wp2;go_roundw;case rel=>exact⟨1,_,_,_,by omega,by go_num,v,C,e⟩
      case measure=>simp[intOf]
     .have r:=Td c (t.side<|bq i o (by omega) HM).apart;have e6:(0:Y)<(i:Y):=by omega
      clear hA2 f c g s m b;go_wp2_with fail
      apply r.mono;rintro ck T⟨rfl,j⟩;have A:=Z<|v.still<|J.aV j;have B:=Z<|(j.block _<|am e).trans e;clear j r;go_wp2;go_roundw;case rel=>exact⟨i+1,_,_,_,by omega,by go_num,A,C,B⟩
      case measure=>simp[intOf];omega
  .have r:i=4:=by omega
   subst r;have t:=ba.all (by unfold pF;rw[cV];exact H4) (by unfold pF;rw[cV];exact w.DD);have e:=w.zp;obtain⟨v,y,A,B,rfl⟩:∃v y A B,vs=[v,y,A,B]:=by
    rcases vs with _|⟨v,_|⟨y,_|⟨A,_|⟨B,_|⟨v4,gj⟩⟩⟩⟩⟩<;>simp at e;exact⟨_,_,_,_,rfl⟩
   obtain⟨f,ac,T⟩:=w.row (j:=0) rfl;obtain⟨g,ad,V⟩:=w.row (j:=1) rfl;obtain⟨j,ao,W⟩:=w.row (j:=2) rfl;obtain⟨p,av,X⟩:=w.row (j:=3) rfl;obtain⟨C,y0,rfl⟩:=aB T;obtain⟨D,y1,rfl⟩:=aB V;obtain⟨F,y2,rfl⟩:=aB W;obtain⟨N,y3,rfl⟩:=aB X;have r0:=cellAt w.box 0 rfl;have r1:=cellAt w.box 1 rfl;have r2:=cellAt w.box 2 rfl;have r3:=cellAt w.box 3 rfl;have t0:=cellAt d 0 rfl;have t1:=cellAt d 1 rfl;have t2:=cellAt d 2 rfl;have t3:=cellAt d 3 rfl;have bb:∀i,wr.frozen? (U (G (H a)+1) i)=bF:=λi=>by simp[World.frozen?,d]
   obtain⟨HA,br,S⟩:=dI w t d;have e5:¬((4:Y)<4):=by omega
   clear w ba T V W X t d e;go_wp2;have b:=aT (i:=3) (u:=ah N (z p) y3)<|aT (i:=2) (u:=ah F (z j) y2)<|aT (i:=1) (u:=ah D (z g) y1)<|aT (i:=0) (u:=ah C (z f) y0) S;have c:=((((J.refl (λk=>k=G (H a)+1) wr).setCell (G (H a)+1) 0 (ah C (z f) y0)<|.inl rfl).setCell (G (H a)+1) 1 (ah D (z g) y1)<|.inl rfl).setCell (G (H a)+1) 2 (ah F (z j) y2)<|.inl rfl).setCell (G (H a)+1) 3 (ah N (z p) y3)<|.inl rfl;refine cO (zy rfl _ _ (G (H a)+1) _ _ _ _ _ _ rfl b ⟨_,_,_,rfl⟩ ⟨_,_,_,rfl⟩ ⟨_,_,_,rfl⟩ ⟨_,_,_,rfl⟩) rfl ?_;refine⟨C,z f,y0,D,z g,y1,F,z j,y2,N,z p,y3,rfl,K1,Ts,?_,br⟩;rw[ae ax];have hd:=HA.aN.ay c (λk O ck=>by have:=HA.low k<|HA.same.2.2 k O;have:k=G (H a)+1:=ck;omega);exact HA.move c (λk ck=>.inr (by have:k=G (H a)+1:=ck;have:=ae ax;omega)) hd ⟨rfl,rfl,λ_ O=>O⟩
def pU.ay{S:fN}{w w':I}(h:pU w)(c:J S w w')(a:¬S 0):pU w':=by
 unfold pU at*;exact c.cell h a<|dj _ _ h
def Inv.reads{q:fw}(x:Inv a b n j e i p r s c g l k q)(h:b<G (H a))(w:tL a f b n j e i p r s c):∃d,gq a f n.aN b j d/\d.files=j.files/\(∀y,d.bw n.aN y->j.bw n.aN y)/\bM f b n 0/\Inv f b n d e i p r s c g l k q:=by
 obtain⟨d,o,m,t,u,v,_⟩:=w;exact⟨d,o,m,u,v,x.fm h o (by rw[m]) (by rw[t];exact ai _) rfl x.loose⟩
def pq{b sbqq:R}(d:cU a b j)(c:J az a f):gq a f b sbqq j j:=⟨d.ay c<|λ_ _=>id,c.mono cN,λ_ q=>.inl q⟩
def BS(e:cU a b j)(g:¬j.bw b c)(d:J (λk=>k=c) a f):gq a f b c j j:=⟨e.ay d<|λ_ q h=>g<|h▸q,d.mono<|λ_ q=>.inl<|.inr q,λ_ q=>.inl q⟩
def Gb(o m r s:ab)(q:Bool)(A:bM a b n 0)(u:n.closed=bX)(w:pU a)(x:0≠b):cA bG 63 #[aA b,aj o,aj m,eB #[aj r,aj s,aO q]] a λv c=>∃l,v=aP (dE #[l,aq 6])/\zk a c l []/\bM c b n 0/\J (λk=>k=b) a c:=by
 have h:=am A;refine(GX a b n o m [] r s q 6 (λc=>bM c b n 0/\J (λk=>k=b) a c) (λj c=>j=n/\bM c b n 0/\J (λk=>k=b) a c) (λk=>k=b) h (λk C=>by omega) (λW t _=>?_) ?_ ?_ ?_ (λ_=>rfl)<|by simp).mono ?_;apply(FB o m ((t.block b h id).trans A) u).mono;rintro v c⟨B,i,g,rfl,y,e,d⟩;exact⟨B,i,g,rfl,y,d,e,(t.mono (T:=λk=>k=b) cN).trans d<|λ_ p=>.inl p⟩;rintro y W B⟨e,f⟩d _ _ _;apply(Aa _ bF ((d.block b (am e) id).trans e) u).mono;rintro v c⟨rfl,g,i⟩;exact⟨rfl,n,g,rfl,i,rfl,g,(f.cw d).trans i<|λ_ p=>.inl p⟩;rintro j W g⟨rfl,_,f⟩d e;exact⟨rfl,e,f.trans d<|λ_ p=>.inl p⟩;rintro j W⟨_,_,f⟩;exact w.ay f x;rintro v c⟨l,j,rfl,g,_,e,d⟩;exact⟨l,rfl,g,e,d⟩
def Ln(P:fw)(S Q o t:ab)(u:Bool)(ax:bM a b n 0)(T:Inv a b n j e i p r s c g l k P)(hc:n.closed=bF)(hE:pU a)(hg:0≠b/\¬j.bw n.aN 0)(hz:o.size<=140737488351232/\t.size<=140737488351232)(hC:c+lD [⟨o,t,u⟩]<=1000000)(hN:l+1<=100000000)(ao:z (tf n.bj S Q 0<|e::bZ i p r s)<=1000000000):cA bG 63 #[aA b,aj S,aj Q,eB #[aj o,aj t,aO u]] a λav v=>∃X,av=aP (dE #[X,aq<|gd [⟨o,t,u⟩]])/\zk a v X (tf n.bj S Q 0<|e::bZ i p r s)/\lM a v b n 0 j (c+lD [⟨o,t,u⟩]) (l+1) P (ze n.bj [⟨o,t,u⟩]) (xA P e (bZ i p r s) ((n.bj:Y)+1) [⟨o,t,u⟩]):=by
 have N:=am ax;refine(GX a b n S Q _ o t u (gd [⟨o,t,u⟩]) (λv=>∃m,gq a v n.aN b j m/\(∀W,m.bw n.aN W->j.bw n.aN W)/\bM v b n 0/\Inv v b n m e i p r s c g l k P) (λO v=>∃m F A B C D h f,Nf a v b n 0 j (c+lD [⟨o,t,u⟩]) (l+1) P (ze n.bj [⟨o,t,u⟩]) (xA P e (bZ i p r s) ((n.bj:Y)+1) [⟨o,t,u⟩]) O m F A B C D h f) (λW=>j.bw n.aN W\/W=b) N ?_ (λau hW _=>?_) ?_ ?_ ?_ (λq=>by rw[hc]at q;cases q) ao).mono ?_;rintro W(q|q);exact T.st.aN.lt _ q;omega;have E:=pq (sbqq:=b) T.st.aN hW;have x:bM au b n 0:=(hW.block b N id).trans ax;have w:=T.fm N E rfl (ai _) rfl T.loose;apply(MT S Q x w.st hc).mono;rintro av v⟨ac,bt,bs,rfl,hh,hS⟩;obtain⟨m,y,_,e3,L,K⟩:=w.reads (am x) hS;exact⟨ac,bt,bs,rfl,hh,y.ay,m,E.trans y,e3,L,K⟩;rintro W2 au cb⟨K2,al,e3,L,K⟩V ad ac an;have E:=pq (sbqq:=b) K.st.aN V;have x:bM au b n 0:=(V.block b (am L) id).trans L;have w:=K.fm (am L) E rfl (ai _) rfl K.loose;refine(Dw P bF x w hc ad (λW hk=>by cases hk;exact⟨ac,an⟩) (λba hx=>by rw[bI]at hx;rw[hx];exact hz) (by simp) hC hN).mono ?_;rintro av v⟨rfl,O,m,F,A,B,C,D,h,f,d⟩;exact⟨rfl,O,d.box,d.same.2.1,d.fm.ay.mono<|λW q=>.inl<|q.imp (e3 W) id,m,F,A,B,C,D,h,f,d.box,d.inv,d.uA,(al.trans E).trans d.fm,d.same,d.Be⟩;rintro O au K⟨m,F,A,B,C,D,h,f,d⟩V L;have E:=BS d.inv.st.aN d.inv.st.rI V;(have y:gq au K n.aN b m m:=by rw[<-d.same.1];exact E);exact⟨m,F,A,B,C,D,h,f,L,d.inv.fm (am d.box) E rfl (ai _) rfl d.inv.loose,d.uA,d.fm.trans y,d.same,d.Be⟩;rintro O au⟨m,F,A,B,C,D,h,f,d⟩;exact hE.ay d.fm.ay<|λq=>q.elim hg.2 hg.1;rintro av v⟨X,O,rfl,K,m,F,A,B,C,D,h,f,d⟩;exact⟨X,rfl,K,O,m,F,A,B,C,D,h,f,d⟩
def ND(sn:fw)(h:bM a b n m)(w:Inv a b n j e i p r s c g l k sn)(hN:l+1<=100000000):cA bG 58 #[aA b] a λA x=>A=aP .nilIface/\lM a x b n m j c (l+1) sn n.bj (λbg=>fj bg<|e::bZ i p r s):=by
 have X:=am h;have k3:=bM.cellAt h 3 rfl;have k8:=bM.cellAt h 8 rfl;have HH:=Z h;have HV:=Z w;clear h w;go_in
 go_wp2;go_quiet(fail)
 rename_i KK y;show KK _ _;apply y;clear y;have D:J az a (a.drewN nq):=(J.refl az a).of_heap rfl;generalize a.drewN nq=f at D|-;generalize decide (n.mem<=(n.ir:Y))=E;have h:=ae HH;have w:=ae HV;have o:bM f b n m:=(D.block b X id).trans h;have B:=pq (sbqq:=b) w.st.aN D;have u:=w.fm X B rfl (ai _) rfl w.loose;obtain⟨mx,mc,C⟩:=bS w.st.mem;obtain⟨L,F,ac⟩:=bS w.st.l0.row;obtain⟨N,c1,ad⟩:=bS w.st.l1.row;obtain⟨O,c2,al⟩:=bS w.st.l2.row;obtain⟨P,c3,an⟩:=bS w.st.l3.row;have bp:aS f (U b 10)=M (ah L (z i) F):=by rw[<-ac];exact o.cell rfl
 have bq:aS f (U b 11)=M (ah N (z p) c1):=by rw[<-ad];exact o.cell rfl
 have br:aS f (U b 12)=M (ah O (z r) c2):=by rw[<-al];exact o.cell rfl
 have bs:aS f (U b 13)=M (ah P (z s) c3):=by rw[<-an];exact o.cell rfl
 have q7:aS f (U b 7)=M (ah mx (z e) mc):=by rw[<-C];exact o.cell rfl
 have q9:=bM.cellAt o 9 rfl;have bh:∀W,(Instr.index 107 (eB #[ah L (z i) F,ah N (z p) c1,ah O (z r) c2,ah P (z s) c3])<|aq 0).run bG W=.ok (ah L (z i) F) W:=λ_=>by kernel_rfl
 have bi:∀W,(Instr.index 107 (eB #[ah L (z i) F,ah N (z p) c1,ah O (z r) c2,ah P (z s) c3])<|aq 1).run bG W=.ok (ah N (z p) c1) W:=λ_=>by kernel_rfl
 have bk:∀W,(Instr.index 107 (eB #[ah L (z i) F,ah N (z p) c1,ah O (z r) c2,ah P (z s) c3])<|aq 2).run bG W=.ok (ah O (z r) c2) W:=λ_=>by kernel_rfl
 have bl:∀W,(Instr.index 107 (eB #[ah L (z i) F,ah N (z p) c1,ah O (z r) c2,ah P (z s) c3])<|aq 3).run bG W=.ok (ah P (z s) c3) W:=λ_=>by kernel_rfl
 have ba:cA bG 102 #[aA b,aq 0,ah L (z i) F] f λA x=>A=aP (aO<|AK n.yu 0<|z i)/\x=f:=rS 0 (z i) L F o (by omega);have bb:cA bG 102 #[aA b,aq 1,ah N (z p) c1] f λA x=>A=aP (aO<|AK n.yu 1<|z p)/\x=f:=rS 1 (z p) N c1 o (by omega);have bc:cA bG 102 #[aA b,aq 2,ah O (z r) c2] f λA x=>A=aP (aO<|AK n.yu 2<|z r)/\x=f:=rS 2 (z r) O c2 o (by omega);have bd:cA bG 102 #[aA b,aq 3,ah P (z s) c3] f λA x=>A=aP (aO<|AK n.yu 3<|z s)/\x=f:=rS 3 (z s) P c3 o (by omega);have K:∀t,J az f t->cA bG 71 #[aA b,ah mx (z e) mc,aL n.bj] t λA x=>A=aP .nilIface/\lM a x b n m j c (l+1) sn n.bj (λbg=>fj bg<|e::bZ i p r s):=λt hX=>by have Q:=pq (sbqq:=b) u.st.aN hX;have d:=u.fm (am o) Q rfl (ai _) rfl u.loose;have V:bM t b n m:=(hX.block b (am o) id).trans o;have bf:=d.Be;(have av:z e<=100:=by have:=d.WG;omega);have ax:=DT (ah mx (z e) mc) c n.bj V d.st d.Gg d.pr (by rw[<-C];exact d.st.mem) (λq b=>(d.st.tr q (by rw[C];exact b)).lt) d.st.mr d.XC d.st.jb av (λx a=>(d.Ng x a).1) (λx a=>(d.Ng x a).2) (by omega) (by have:=d.st.qK;omega) d.st.mw d.Ti.2.2.1 d.rh d.NK.1 (by have:=d.bn;have:=d.mw;omega) (by have:=d.nx;have:=d.mw;omega) (by have:=d.eU;have:=d.mw;omega) sn d.oY;apply ax.mono;rintro A x⟨rfl,v0,v1,v2,v3,K',num,a',b',c',d',T⟩;exact⟨rfl,_,K',[],a',b',c',d',n.bj,[],T.box,T.inv d.Ti d.nx (by have:=d.bn;omega) hN d.oY d.TD<|ai _,λbg a q=>by rw[mH];exact T.uA bg (a.imp_right (λA=>by rw[A];exact pB _)) q,(B.trans Q).trans T.fm,⟨rfl,rfl,rfl,rfl,rfl,rfl⟩,rfl⟩
 have au:=Z<|show lM a f b n m j c (l+1) sn n.bj (λbg=>fj bg<|e::bZ i p r s)from⟨n,j,e,i,p,r,s,g,k,o,u.mono (ai _) u.st.mw (by omega) hN,λ_ _ _=>rfl,B,⟨rfl,rfl,rfl,rfl,rfl,rfl⟩,rfl⟩;have S:=Z K;clear h w o B u K C ac ad al an D k3 k8;go_wp2;go_loopw [3,20] (λo bm wr=>∃(ao:R)(E:Bool),ao<=4/\bm=aq ao/\o=aO E/\wr=f) (λ_ bm _=>4-(intOf bm).toNat)
 case atStart=>exact⟨0,E,by omega,by go_num,rfl,rfl⟩
 (case round=>obtain⟨ao,E,hj,rfl,rfl,bo⟩:=hrel;subst wr;(have bf:ao=0\/ao=1\/ao=2\/ao=3\/ao=4:=by omega);rcases bf with rfl|rfl|rfl|rfl|rfl;(.cases E;(·(go_wp2_with(go_at_call 102;refine ba.mono ?_;rintro A Q⟨rfl,hw⟩;subst Q));go_roundw;(case rel=>exact⟨1,_,by omega,by go_num,rfl,trivial⟩);case measure=>simp[intOf]);(.go_wp2;go_roundw;(case rel=>exact⟨1,_,by omega,by go_num,rfl,trivial⟩);case measure=>simp[intOf]));(.cases E;(·(go_wp2_with(go_at_call 102;refine bb.mono ?_;rintro A Q⟨rfl,hw⟩;subst Q));go_roundw;(case rel=>exact⟨2,_,by omega,by go_num,rfl,trivial⟩);case measure=>simp[intOf]);(.go_wp2;go_roundw;(case rel=>exact⟨2,_,by omega,by go_num,rfl,trivial⟩);case measure=>simp[intOf]));(.cases E;(·(go_wp2_with(go_at_call 102;refine bc.mono ?_;rintro A Q⟨rfl,hw⟩;subst Q));go_roundw;(case rel=>exact⟨3,_,by omega,by go_num,rfl,trivial⟩);case measure=>simp[intOf]);(.go_wp2;go_roundw;(case rel=>exact⟨3,_,by omega,by go_num,rfl,trivial⟩);case measure=>simp[intOf]));(.cases E;(·(go_wp2_with(go_at_call 102;refine bd.mono ?_;rintro A Q⟨rfl,hw⟩;subst Q));go_roundw;(case rel=>exact⟨4,_,by omega,by go_num,rfl,trivial⟩);case measure=>simp[intOf]);(.go_wp2;go_roundw;(case rel=>exact⟨4,_,by omega,by go_num,rfl,trivial⟩);case measure=>simp[intOf]));(.cases E;(.go_wp2;go_ret;exact⟨rfl,au⟩);(·(go_wp2_with fail);rename_i KK y;have ax:aS f.drew (U b 7)=M (ah mx (z e) mc)/\aS f.drew (U b 9)=M (aL n.bj):=⟨q7,q9⟩;refine lX (λ(t:I)=>aS t (U b 7)=M (ah mx (z e) mc)/\aS t (U b 9)=M (aL n.bj)) 9 (by kernel_rfl) ?_;refine nk 0 ?_;(iterate 9 (refine Bh (v:=?_) ax rfl (by kernel_rfl) iV rfl ?_ ?_;rotate_left;(focus(rintro t⟨z7,z9⟩;go_simp;try rfl));simp only[Act.put,dG,Nat.reduceAdd]));apply sa;refine gW (i:=9) rfl rfl (by kernel_rfl) ?_;intro K9 T;go_simp;apply(S f.drew<|cg _ f).mono;rintro A w7⟨rfl,V⟩;have av:=Z V;refine T _ _ (λq=>by omega) ?_;clear V T;(try simp only[Act.put,dG]);refine gW (i:=10) rfl rfl (by kernel_rfl) ?_;intro bn d;go_simp;refine d _ _ (λq=>by omega) ?_;refine lS (by kernel_rfl) ?_ _;show KK _ _;apply y;clear y d;go_wp2;go_ret;exact⟨rfl,av⟩)))
def SR.tu(s:SR)(u0 u1 u2 u3:aa)(next log a:R)(b:Bool):SR:={s with l0:=u0,l1:=u1,l2:=u2,l3:=u3,next:=next,log:=log,bj:=a,kB:=b}
def WM(cc:I)(a:R)(s:SR)(cb:Y)(next j b nf:R)(ec dm:I->aa->aa->aa->aa->Prop)(E:fN)(h:bM cc a s cb)(bk:∀q,E q->q<G (H cc))(bl:¬E a)(hL:cA bG 93 #[aA s.aN] cc λca N=>∃y t r A u c1 B w c2 C x c3,ca=aP (dE #[eB #[aL next,aL j,aL b,ah y t r,ah A u c1,ah B w c2,ah C x c3],.nilIface])/\ec N (ah y t r) (ah A u c1) (ah B w c2) (ah C x c3)/\J E cc N)(hO:∀W1 db v0 v1 v2 v3,ec W1 v0 v1 v2 v3->J az W1 db->cA bG 94 #[aA s.aN,eB #[v0,v1,v2,v3]] db λca N=>∃y t r A u c1 B w c2 C x c3,ca=aP (dE #[eB #[ah y t r,ah A u c1,ah B w c2,ah C x c3],.nilIface])/\dm N (ah y t r) (ah A u c1) (ah B w c2) (ah C x c3)/\J E db N)(hS:∀db u0 u1 u2 u3,dm db u0 u1 u2 u3->∀W',J (λq=>q=a) db W'->dm W' u0 u1 u2 u3/\cA bG 95 #[aA s.aN] W' λca N=>∃ee D,ca=aP (ah ee nf D)/\J az W' N):cA bG 55 #[aA a] cc λca N=>ca=aP .nilIface/\∃u0 u1 u2 u3,bM N a (s.tu u0 u1 u2 u3 next j b<|decide<|0<nf) cb/\dm N u0 u1 u2 u3/\J (λq=>E q\/q=a) cc N:=by
 have cB:=am h;have k2:=bM.cellAt h 2 rfl;obtain⟨HH,HF,HO,HS⟩:=gD h bk hO hS;clear h bk hO hS;go_in
 go_wp2_with fail
 apply hL.mono;rintro ca f⟨y,t,r,A,u,c1,B,w,c2,C,x,c3,rfl,bo,bb⟩;obtain⟨g,P⟩:∃g,cF f (aw #[aL next,aL j,aL b,ah y t r,ah A u c1,ah B w c2,ah C x c3] 187)=g:=⟨_,rfl⟩;have K:J az f g:=by rw[<-P];exact(cI az f)
 have e:g.heap[G<|H f]?=M (aw #[aL next,aL j,aL b,ah y t r,ah A u c1,ah B w c2,ah C x c3] 187 (0,0)):=by rw[<-P];exact aE _ rfl
 have bc:J E cc g:=bb.cw K;have F:bM g a s cb:=(bc.block a cB bl).trans HH;have ea:=bb.size;obtain⟨cm,bi,ch,ck,O,n⟩:=kD P K bo bc F e;clear bo bb bc F e P K hL;go_wp2_with fail
 rw[ae cm];rename_i KK bn;have F:=ae O;have e:=ae n;have br:aS g.drew (U a 2)=M (aA s.aN)/\aS g.drew (U (G<|H f) 3)=M (ah y t r)/\aS g.drew (U (G<|H f) 4)=M (ah A u c1)/\aS g.drew (U (G<|H f) 5)=M (ah B w c2)/\aS g.drew (U (G<|H f) 6)=M (ah C x c3):=⟨F.cell rfl,by show aS g _=_;rw[bL e];rfl,by show aS g _=_;rw[bL e];rfl,by show aS g _=_;rw[bL e];rfl,by show aS g _=_;rw[bL e];rfl⟩;clear F e;have cj:=Z (show∀c:I,(∀q,q=a\/q=G (H f)->c.heap[q]?=g.heap[q]?)->aS c (U a 2)=M (aA s.aN)/\aS c (U (G<|H f) 3)=M (ah y t r)/\aS c (U (G<|H f) 4)=M (ah A u c1)/\aS c (U (G<|H f) 5)=M (ah B w c2)/\aS c (U (G<|H f) 6)=M (ah C x c3)fromλc hX=>by have hb:bM c a s cb:=(hX a<|.inl rfl).trans O;have hs:=(hX _<|.inr rfl).trans n;exact⟨hb.cell rfl,by rw[bL hs];rfl,by rw[bL hs];rfl,by rw[bL hs];rfl,by rw[bL hs];rfl⟩);refine cz (λ(c:I)=>aS c (U a 2)=M (aA s.aN)/\aS c (U (G<|H f) 3)=M (ah y t r)/\aS c (U (G<|H f) 4)=M (ah A u c1)/\aS c (U (G<|H f) 5)=M (ah B w c2)/\aS c (U (G<|H f) 6)=M (ah C x c3)) 14 (by kernel_rfl) ?_;refine cY 0 ?_;iterate 7 (refine eJ (v:=?_) br rfl (by kernel_rfl) iV rfl ?_ ?_;rotate_left;(focus(rintro c⟨z2,y3,y4,y5,y6⟩;go_simp;try rfl));simp only[Act.put,dG,Nat.reduceAdd])
 apply eA;refine aM (i:=7) rfl rfl (by kernel_rfl) ?_;intro K7 bm;go_simp;apply(HO f g.drew _ _ _ _ ch<|bi.cw<|cg az g).mono;rintro ca X⟨z0,l0,d0,z1,l1,d1,z2,l2,d2,z3,l3,d3,rfl,bp,bx⟩;have o:J E g X:=(cg E g).trans bx<|λ_ D=>.inl D;have dd:=am n
 have i:∀q,q=a\/q=G (H f)->X.heap[q]?=g.heap[q]?:=λq hq=>o.block q (by have:=am O;rcases hq with D|D<;>omega) (λD=>by
  rcases hq with ed|ed
  .exact bl<|ed▸D
  .have:=HF q D;omega)
 have ax:=cj X i;refine bm _ _ (λ_=>ax) ?_;try simp only[Act.put,dG]
 refine cY 8 ?_;iterate 5 (refine eJ (v:=?_) ax rfl (by kernel_rfl) iV rfl ?_ ?_;rotate_left;(focus(rintro c⟨z2,y3,y4,y5,y6⟩;go_simp;try rfl));simp only[Act.put,dG,Nat.reduceAdd])
 apply eA;refine aM (i:=13) rfl rfl (by kernel_rfl) ?_;intro dn al;have m:bM X a s cb:=(i a<|.inl rfl).trans O;have fz:∀cd,X.frozen? (U a cd)=bF:=λcd=>m.free;have cs:=bM.cellAt m 10 rfl;have cu:=bM.cellAt m 11 rfl;have cv:=bM.cellAt m 12 rfl;have cx:=bM.cellAt m 13 rfl;go_simp;obtain⟨l,Q⟩:∃l,ct (ct (ct (ct X (U a 10)<|ah z0 l0 d0) (U a 11)<|ah z1 l1 d1) (U a 12)<|ah z2 l2 d2) (U a 13) (ah z3 l3 d3)=l:=⟨_,rfl⟩;have k:bM l a {s with l0:=ah z0 l0 d0,l1:=ah z1 l1 d1,l2:=ah z2 l2 d2,l3:=ah z3 l3 d3} cb:=by rw[<-Q];exact(aT<|aT<|aT<|aT m).trans rfl
 have p:J (λq=>q=a) X l:=by rw[<-Q];exact(((ij a X).setCell a 11 _<|.inl rfl).setCell a 12 _<|.inl rfl).setCell a 13 _<|.inl rfl
 have d:l.heap[G<|H f]?=M (aw #[aL next,aL j,aL b,ah y t r,ah A u c1,ah B w c2,ah C x c3] 187 (0,0)):=(p.block _ (by have:=o.size;omega)<|by omega).trans<|(i _<|.inr rfl).trans n;rw[Q];have bq:aS l (U a 2)=M (aA s.aN)/\aS l (U (G<|H f) 3)=M (ah y t r)/\aS l (U (G<|H f) 4)=M (ah A u c1)/\aS l (U (G<|H f) 5)=M (ah B w c2)/\aS l (U (G<|H f) 6)=M (ah C x c3):=⟨k.cell rfl,by rw[bL d];rfl,by rw[bL d];rfl,by rw[bL d];rfl,by rw[bL d];rfl⟩;refine al _ _ (λ_=>bq) ?_;try simp only[Act.put,dG]
 refine aM (i:=14) rfl rfl (by kernel_rfl) ?_;intro ds an;go_simp;refine an _ _ wH ?_;refine cX (by kernel_rfl) ?_ _;show KK _ _;apply bn;have s0:=cellAt d 0 rfl;have s1:=cellAt d 1 rfl;have s2:=cellAt d 2 rfl;have v9:=bM.cellAt k 9 rfl;have cM:=bM.cellAt k 14 rfl;have cT:=bM.cellAt k 17 rfl;have cp:∀cd,l.frozen? (U a cd)=bF:=λcd=>k.free;have dk:G (H f)≠a:=by omega
 have dT:=am k;have dx:=am d;have av:J (λq=>E q\/q=a) cc l:=((ck.mono (T:=λq=>E q\/q=a)<|λ_ D=>.inl<|.inl D).trans o<|λ_ D=>.inl<|.inl D).trans p<|λ_ D=>.inl<|.inr D;obtain⟨bh,ce,ac,cl⟩:=gD (HS X _ _ _ _ bp) k p av;clear bn bm al an bq ax br m k p d fz cs cu cv cx i o bx bp Q av k2;go_wp2_with fail
 rename_i co ao;apply Gn co;(.intro cE;(go_region);all_goals exact cE);refine ao _ _ ?_;clear ao;obtain⟨W6,S⟩:∃W6,(ct (ct (ct l (U a 14)<|aL next) (U a 17)<|aL j) (U a 9)<|aL b).drew=W6:=⟨_,rfl⟩;have L:J (λq=>q=a) l W6:=by rw[<-S];exact(((ij a l).setCell a 17 _<|.inl rfl).setCell a 9 _<|.inl rfl).trans (cg (λq=>q=a) _)<|λ_ D=>.inl D
 have ba:bM W6 a (s.tu (ah z0 l0 d0) (ah z1 l1 d1) (ah z2 l2 d2) (ah z3 l3 d3) next j b s.kB) cb:=by rw[<-S];exact Eq.trans (show _=_ from aT<|aT<|aT ce) rfl
 have bu:=bh W6<|ac.trans L<|λ_ D=>.inl D;have r2:=bM.cellAt ba 2 rfl;have bt:=bu.2;obtain⟨bf,ad,cn⟩:=dI ba L S;clear ba L S bu s0 s1 s2 v9 cM cT cp;rw[ae cn];go_wp2_with fail
 apply bt.mono;rintro ca w7⟨x7,c7,rfl,W⟩;have V:bM w7 a (s.tu (ah z0 l0 d0) (ah z1 l1 d1) (ah z2 l2 d2) (ah z3 l3 d3) next j b s.kB) cb:=(W.block a (am bf) id).trans bf;have eb:=bM.cellAt V 21 rfl;have dv:w7.frozen? (U a 21)=bF:=V.free;have bd:J (λq=>q=a) w7 (ct w7 (U a 21)<|aO<|decide<|0<nf):=(ij a w7);have bs:bM (ct w7 (U a 21)<|aO<|decide<|0<nf) a (s.tu (ah z0 l0 d0) (ah z1 l1 d1) (ah z2 l2 d2) (ah z3 l3 d3) next j b<|decide<|0<nf) cb:=(aT V).trans rfl;have au:=((ac.trans ad<|λ_ D=>.inl D).cw W).trans bd<|λ_ D=>.inl D;have bv:=(bh _ au).1;have bT:J (λq=>E q\/q=a) cc (ct w7 (U a 21)<|aO<|decide<|0<nf):=((cl.trans ad<|λ_ D=>.inl<|.inr D).cw W).trans bd<|λ_ D=>.inl<|.inr D;have bg:=Z<|And.intro bs (And.intro bv bT);have dc:decide ((0:Y)<(nf:Y))=decide (0<nf):=by simp
 clear V bd bs au bv bT W bt;go_wp2;go_ret;refine⟨rfl,ah z0 l0 d0,ah z1 l1 d1,ah z2 l2 d2,ah z3 l3 d3,?_⟩;exact bg
def Lc(h:bM a b n m)(f:cU a n.aN j)(u:Pow a)(w:n.log<18446744073709551616)(t:ew (vw j.files) (iU n.log)=none):cA bG 56 #[aA b] a λo l=>o=aP .nilIface/\J az a l:=by
 have c:=wg n.log w u;have A:=bM.cellAt h 17 rfl
 have i:∀W,J az a W->aS W (U b 2)=M (aA n.aN)/\cA bG 96 #[aA n.aN,aj<|iU n.log] W λo l=>o=aP (dE #[aG,.iface 219<|aA<|G<|H W])/\l=cF W (aw #[aj<|iU n.log,aq 10] 222):=λW s=>
  ⟨bM.cell ((s.block b (am h) id).trans h) rfl,GQ (db:=n.aN) (K:=j) (iU n.log) (w:=W) (f.ay s<|λ_ _=>id) t⟩
 have g:∀(W:I),cA bG 97 #[.iface 219<|aA<|G<|H W,.iface 55<|aq 10] (cF W<|aw #[aj<|iU n.log,aq 10] 222) λo l=>o=aP (aO bX)/\l=cF W (aw #[aj<|iU n.log,aq 10] 222):=λW=>PV (G<|H W) 10 _ (by have:(cF W<|aw #[aj<|iU n.log,aq 10] 222).heap[G<|H W]?=M (aw #[aj<|iU n.log,aq 10] 222 (0,0)):=aE _ rfl;rw[bL this];rfl);clear h f u t;generalize iU n.log=k at*;go_in
 go_wp2_with fail
 apply c.mono;rintro o q⟨rfl,e⟩;have d:J az a q:=J.aV e;obtain⟨B,x⟩:=i q d;have v:=g q;have p:=Z<|d.alloc<|aw #[aj k,aq 10] 222;clear i g d e c;go_wp2_with fail
 apply x.mono;rintro o r⟨rfl,y⟩;subst r;go_wp2_with fail
 apply v.mono;rintro o r⟨rfl,y⟩;subst r;go_wp2;go_ret;exact⟨rfl,p⟩
def SR.uB(s:SR)(a:aa)(j n:R):SR:={s with memory:=a,ir:=n,bj:=s.bj+j}
def Ll(s:SR)(a:s.memory=aG)(b:s.ir=0):s.uB aG 0 0=s:=by
 cases s;simp_all[SR.uB]
def Kw{lsqq:dX}(j:R):((lsqq.take j).map z).sum<=(lsqq.map z).sum:=by
 conv=>rhs;rw[<-ci j lsqq]
 rw[aQ,gw];omega
def lz(a:dX):cK:=a.foldl (λm l=>gu [] m l) []
def zB(a:dX)(l:cK):lz (a++[l])=gu [] (lz a) l:=by simp[lz]
def RF(l:cK):∀(p:Option E)(a:ab),(∀q,p=M q->q.key=a)->(p=none->∀e∈l,e.key≠a)->kV [] p l=nA a l:=by
 induction l with
 |nil=>intro p a _ _;rfl
 |cons e r f=>
  intro p a i d;rw[kV,nA];cases p with
  |none=>
   have b:pN [] none e=bX:=rfl;rw[dt b,dh (d rfl e<|by simp),f (M e) e.key (λq c=>by cases c;rfl)<|λg=>by cases g]
  |some q=>
   have c:=i q rfl;by_cases g:e.key=a
   .have b:pN [] (M q) e=bF:=by simp[pN,c,g]
    rw[dh (by rw[b];simp),dt g,f (M e) e.key (λx d=>by cases d;rfl)<|λh=>by cases h]
   .have b:pN [] (M q) e=bX:=by simp[pN,c];exactλh=>g h.symm
    rw[dt b,dh g,f (M e) e.key (λx d=>by cases d;rfl)<|λh=>by cases h]
def Ur(h:gT e)(a:∀x∈e,x.bK<=m):dV [] e=kr m e:=by
 unfold dV kr;rw[fh.2<|λx b=>by simpa using a x b];exact RF e none ⟨#[]⟩ (λq a=>by cases a)<|λ_=>h.key
def Ww(v:FH m k):∀j,j<=z k->lz (k.take j)=gQ [] (k.take j).flatten/\gT (lz<|k.take j)/\(∀x∈lz (k.take j),x.bK<=m+j-1)/\kr (m+j-1) (lz<|k.take j)=lz (k.take j):=by
 intro j;induction j with
 |zero=>intro _;exact⟨rfl,gT.nil,by simp[lz],rfl⟩
 |succ j u=>
  intro w;obtain⟨g,h,i,s⟩:=u (by omega);have a:j<z k:=by omega
  have t:=v.jb k[j]<|ar a;have l:∀x∈k[j],x.bK=(m+j-1)+1:=λx b=>by rw[v.num j a x b];omega
  have n:∀e∈k[j],e.key≠⟨#[]⟩:=λe a=>uk<|t e a;have o:lz (k.take<|j+1)=gu [] (lz<|k.take j) k[j]:=by rw[ak a,zB]
  have d:gT (fJ (lz<|k.take j) k[j]):=h.fJ n;have c:∀x∈fJ (lz<|k.take j) k[j],x.bK<=(m+j-1)+1:=λx b=>by
   rcases xL b with q|q
   .have:=i x q;omega
   .rw[l x q];omega
  have p:=Ur d c;have e:kr ((m+j-1)+1) (gu [] (lz<|k.take j) k[j])=gu [] (lz<|k.take j) k[j]:=by
   show kr _ (dV [] _)=dV [] _;rw[yN d<|.inr c,p]
  have f:=Gz h i n l [];rw[e,s,g]at f;have r:m+((j+1:R):Y)-1=(m+j-1)+1:=by push_cast;omega
  rw[o,r];refine⟨?_,d.sub<|uY [] _ _,λx b=>c x<|(uY [] _ _).subset b,e⟩;rw[g,f,ak a,dQ,zd];simp
def Vh(a:dX):∀m,dS m->dS (a.foldl (λm l=>gu [] m l) m):=by
 induction a with
 |nil=>exactλm h=>h
 |cons l r b=>exactλm h=>b _<|yq h [] l
def GV(a:dX):dS (lz a):=Vh a [] dS.nil
def Vi(a:dX):∀m:cK,z (a.foldl (λm l=>gu [] m l) m)<=z m+(a.map z).sum:=by
 induction a with
 |nil=>intro m;simp
 |cons l r b=>
  intro m;have c:=b<|gu [] m l;have d:=yr [] m l;simp only[fU,aZ,iT];omega
def GW(a:dX):z (lz a)<=(a.map z).sum:=by
 have:=Vi a [];simpa[lz]using this
def NR(c:dX)(h:bM a b n m)(bd:cU a n.aN j)(al:¬j.bw n.aN b)(hp:Pow a)(hT:Steps a)(bx:1≠b/\¬j.bw n.aN 1)(hl:n.log<18446744073709551616)(bf:FH ((n.bj:Y)+1) c)(o:ew (vw j.files) (iU n.log)=M (lY ((n.bj:Y)+1) c))(cp:0<z (lY ((n.bj:Y)+1) c))(ea:z (lY ((n.bj:Y)+1) c)<=200000)(hm:n.memory=aG)(ce:n.ir=0)(es:n.bj<=1000000000)(ec:FK a j b n []):cA bG 56 #[aA b] a λbr s=>br=aP .nilIface/\∃Q k,bM s b {n.uB Q (z c) (c.map z).sum with gF:=bX,vP:=bF,kC:=bX} m/\s.ownsRow (G<|H a) 164 4 Q (z<|lz c) (aH<|lz c)/\gq a s n.aN b j k/\k.files=j.files/\k.eU=j.eU/\(∀m,k.bw n.aN m->j.bw n.aN m):=by
 have eb:=am h;have ad:=wg n.log hl hp;have ee:=bM.cellAt h 17 rfl;have ff:IntKind.u64.wrap ((n.bj:Y)+1)=(n.bj:Y)+1:=by rw[ib];omega
 obtain⟨rb,F⟩:∃rb,lY ((n.bj:Y)+1) c=rb:=⟨_,rfl⟩;have cu:∀W,J az a W->aS W (U b 2)=M (aA n.aN)/\cA bG 96 #[aA n.aN,aj<|iU n.log] W λbr s=>∃c S,br=aP (dE #[bE c 0 (z rb) S,.nilIface])/\eQ s (G<|H W) (bE c 0 (z rb) S) rb/\z rb<=S/\S<=9223372036854775807/\bM s b n m/\Steps s/\∃k,gq a s n.aN b j k/\k.files=j.files/\k.eU=j.eU/\∀m,k.bw n.aN m->j.bw n.aN m:=λW f=>by have d:bM W b n m:=(f.block b eb id).trans h;refine⟨d.cell rfl,?_⟩;refine(Lg (db:=n.aN) (K:=j) (iU n.log) rb (w:=W) (bd.ay f<|λ_ _=>id) (by rw[<-F];exact o) (by rw[<-F];omega)).mono ?_;rintro br s⟨v',rfl,A,k,hd,e1,e2,e3⟩;have l:=(pq (sbqq:=b) bd f).trans<|gq.of hd;have i:bM s b n m:=(hd.ay.block b (am d) al).trans d;have g:Steps s:=λq a=>hd.ay.cell (f.cell (hT q a) id<|dj _ _<|hT q a) bx.2<|ag (dj _ _<|hT q a) f.size;have w:=A;obtain⟨q1,⟨q2,q0⟩|⟨x,C,D,q2,K,N,p,r,y⟩⟩:=w;rw[F]at cp;omega;subst q2;exact⟨x,C,rfl,A,p,by unfold maxLen at r;omega,i,g,k,l,e1,e2,e3⟩
 obtain⟨HH,dk,bt,av,HM⟩:=jX h cu bf F<|And.intro hm ce;have eo:=bf.sum;clear h bd hp hT bx o cp ea cu bf F hm ce hl;generalize iU n.log=eq at*;go_in
 go_wp2_with fail
 apply ad.mono;rintro br w1⟨rfl,ca⟩;have bm:J az a w1:=J.aV ca;obtain⟨k2,hr⟩:=dk w1 bm;have ev:=bm.size;clear bm ca ad;go_wp2_with fail
 apply hr.mono;rintro br w2⟨rx,rc,rfl,E,cc,cd,bb,bv,ba⟩;have q9:=bM.cellAt bb 9 rfl;have ex:G (H w1)<=rx:=(E.lt rx rfl).1;have bg:=Jj rx 0 rc bv bt (by rw[ae av];exact cc) cd (E.lt rx rfl).2 (by rw[ae av];exact eQ.bytes E);rw[ae av]at bg;have ck:=UP 10 w2;have en:=(E.lt rx rfl).2;obtain⟨bs,cT,dn⟩:=dI bb ba (show∃k,FK w2 k b n []from by obtain⟨k,hd,_⟩:=ba;exact⟨k,ec.fm hd⟩);clear bb ba hr E cc cd bv k2 ee;go_wp2_with fail
 apply ck.mono;rintro br ej⟨rfl,hw⟩;subst ej;go_wp2_with fail
 apply bg.mono;rintro br w3⟨x3,c3,X,rfl,bh,bc,bn⟩;obtain⟨t,v⟩:∃t,cF w3 (aw #[ah x3 (z c) c3,aO bF] 199)=t:=⟨_,rfl⟩;have bo:J az w2 t:=by rw[<-v];exact bn.alloc _
 have L:J az w3 t:=by rw[<-v];exact(cI az w3)
 have ey:=bn.size;have bk:G (H t)=G (H w3)+1:=by rw[<-v];simp
 have B:t.heap[G<|H w3]?=M (aw #[ah x3 (z c) c3,aO bF] 199 (0,0)):=by rw[<-v];exact aE _ rfl
 have cb:bM t b n m:=(bo.block b (am bs) id).trans bs;have bu:Row t 1 (ah x3 (z c) c3) (z c) X:=dr<|L.own bh<|λ_ _ S=>S;have bT:∀e(a:e<z X)(b:e<z c),t.ownsRow (G (H w2)+2) 164 4 X[e] (z c[e]) (aH c[e]):=λe a b=>L.own (bc.2 e a b)<|λ_ _ S=>S;have ac:∀x,bY (ah x3 (z c) c3)=M x->G (H w2)+2<=x/\x<G (H w3):=λx o=>bh.lt x o;have el:=cellAt B 0 rfl;obtain⟨dv,dd,ds,cM,dc,cE,ax,dm,dx⟩:=xS bc.1 bu bT ac B cb bo bk v;clear bh bc bn L B cb bu bT ac bo bk bg ck q9 v;go_wp2;rw[ae dx];go_loopw [47] (λbq wr=>∃(e:R)(Q:aa),e<=z c/\bq=aq e/\bM wr b (n.uB Q e ((c.take e).map z).sum) m/\wr.ownsRow (G<|H a) 164 4 Q (z<|lz<|c.take e) (aH<|lz<|c.take e)/\J (λm=>m=b) t wr) (λbq _=>z c-(intOf bq).toNat)
 (case atStart=>have br:=Ll n HM.1 HM.2;refine⟨0,aG,bB _,by go_num,?_,bN _ _ _ _,J.refl _ _⟩;show bM t b (n.uB aG 0 0) m;rw[br];exact cE)
 case round=>
  obtain⟨e,Q,hj,rfl,d,g,i⟩:=hrel;have bk:=ae dm;have fb:=i.size;obtain⟨y,D⟩:∃y,n.bj+e=y:=⟨_,rfl⟩;obtain⟨r,l⟩:∃r,((c.take e).map z).sum=r:=⟨_,rfl⟩;have bl:=Kw (lsqq:=c) e;have cl:z c<=(c.map z).sum:=DO<|λl hl=>(bt.one l hl).1;have em:z c<=31:=by omega
  have cj:z (c.take e).flatten=r:=by rw[<-l,si]
  have bi:=GW<|c.take e;rw[l]at bi;rw[l]at bl;obtain⟨mx,mc,cn⟩:=aB g;have ef:=bM.cellAt d 7 rfl;have eg:aS wr (U b 8)=M (aq r):=by rw[<-l];exact d.cell rfl
  have ei:aS wr (U b 9)=M (aL y):=by rw[<-D];exact d.cell rfl
  by_cases C:e<z c
  .have e1:(e:Y)<(z c:Y):=by omega
   have e2:(0:Y)<=(e:Y):=by omega
   have cm:e<z X:=by rw[ae dv];exact C
   have W:=ds e cm C;have bp:∀x,bY X[e]=M x->G (H w2)+2<=x/\x<G (H t):=λx o=>W.lt x o;have cx:=i.own W (λx o S=>by have:=(bp x o).1;omega);have ch:∃b a,x3=M (U b a)/\aS wr (U b<|a+e)=M X[e]:=by
    obtain⟨q1,⟨q2,q0⟩|⟨x,A,ek,q2,eu,hc⟩⟩:=ae dd
    .omega
    .cases q2;have et:=cM x rfl;exact⟨x,A,rfl,i.cell (hc e _<|aK cm) (by omega)<|by omega⟩
   obtain⟨b3,o3,ed,ch⟩:=ch;subst ed;have V:((c.take<|e+1).map z).sum=r+z c[e]:=by rw[ak C,aQ,gw,l];simp
   have K:=Kw (lsqq:=c)<|e+1;rw[V]at K;have cs:gu [] (lz<|c.take e) c[e]=lz (c.take<|e+1):=by rw[ak C,zB]
   obtain⟨Kx,cv⟩:=ae dn;obtain⟨mb,m1,m2,m3⟩:=cv.ex;have m4:jJ wr mb (Bd []):=m2.dq<|((i.block mb (by have:=ax.size;have:=m3.lt;omega) m3.ne).trans<|ax.block mb m3.lt id);have ao:=Bj b (n.uB Q e ((c.take e).map z).sum) m [] X[e] c[e] d m1 m4 (by simp) (dr g) (λx o=>(g.lt x o).2) (dr cx) (λx o=>by have:=(bp x o).2;omega) (GV _) (by omega);have cB:cA bG 72 #[aA b,X[e]] wr λbr s=>∃v',br=aP v'/\s.ownsRow (G<|H wr) 164 4 v' (z<|lz<|c.take<|e+1) (aH<|lz<|c.take<|e+1)/\J az wr s:=by rw[<-cs];exact ao
   clear ao m1 m2 m3 m4 cv;obtain⟨xj,fn,an⟩:=aB W;obtain⟨P,dT⟩:∃P,z c[e]=P:=⟨_,rfl⟩;rw[dT]at an V K;generalize X[e]=vj at*;have fd:IntKind.i64.wrap ((r:Y)+(P:Y))=(r:Y)+(P:Y):=by rw[bQ];omega
   have fe:IntKind.u64.wrap ((y:Y)+1)=(y:Y)+1:=by rw[ib];omega
   have HF:=Z (show∀p f,J az wr p->p.ownsRow (G<|H wr) 164 4 f (z<|lz<|c.take<|e+1) (aH<|lz<|c.take<|e+1)->(aS p (U b 7)=M Q/\aS p (U b 8)=M (aq r)/\aS p (U b 9)=M (aL y)/\∀bq,p.frozen? (U b bq)=bF)/\bM (ct (ct (ct p (U b 7) f) (U b 8)<|aq<|(r:Y)+P) (U b 9)<|aL<|(y:Y)+1) b (n.uB f (e+1) ((c.take<|e+1).map z).sum) m/\(ct (ct (ct p (U b 7) f) (U b 8)<|aq<|(r:Y)+P) (U b 9)<|aL<|(y:Y)+1).ownsRow (G<|H a) 164 4 f (z<|lz<|c.take<|e+1) (aH<|lz<|c.take<|e+1)/\J (λm=>m=b) t (ct (ct (ct p (U b 7) f) (U b 8)<|aq<|(r:Y)+P) (U b 9)<|aL<|(y:Y)+1)fromλp f N w=>by
    have A:bM p b (n.uB Q e ((c.take e).map z).sum) m:=(N.block b (am d) id).trans d;have O:J (λm=>m=b) p (ct (ct (ct p (U b 7) f) (U b 8)<|aq<|(r:Y)+P) (U b 9)<|aL<|(y:Y)+1):=((ij b p).setCell b 8 _<|.inl rfl).setCell b 9 _<|.inl rfl;refine⟨⟨A.cell rfl,by rw[<-l];exact A.cell rfl,by rw[<-D];exact A.cell rfl,λbq=>A.free⟩,?_,?_,(i.cw N).trans O<|λ_ S=>.inl S⟩
    .have hx:=aT (i:=9) (u:=aL<|(y:Y)+1)<|aT (i:=8) (u:=aq<|(r:Y)+P)<|aT (i:=7) (u:=f) A;have e9:((y:Y)+1)=((n.bj+(e+1):R):Y):=by rw[<-D];push_cast;omega
     have e8:((r:Y)+P)=((((c.take<|e+1).map z).sum:R):Y):=by rw[V];push_cast;omega
     rw[e9,e8]at hx|-;exact hx.trans rfl
    .exact eM (O.own w (λx o S=>by have:=(w.lt x o).1;have:=am d;omega)) (by omega))
   clear d g i W bp cx V K cs bi cj bl cl D l;subst cn;subst an;go_wp2_with fail
   apply cB.mono;rintro br p⟨f,rfl,w,N⟩;obtain⟨fl,fk,co⟩:=aB w;obtain⟨⟨y7,y8,y9,fz⟩,hF⟩:=HF p f N w;have au:=Z hF;clear hF N w cB;subst co;go_wp2;go_roundw;case rel=>exact⟨e+1,_,C,by go_num,au.1,au.2.1,au.2.2⟩
   case measure=>simp[intOf];omega
  .have e1:¬(e:Y)<(z c:Y):=by omega
   have f:e=z c:=by omega
   have p:=(i.block _ (by omega)<|by omega).trans dc;have y1:=cellAt p 1 rfl;have fz:∀bq,wr.frozen? (U b bq)=bF:=λbq=>d.free;have bp:=bM.cellAt d 18 rfl;have ch:=bM.cellAt d 19 rfl;have cm:=bM.cellAt d 20 rfl;have an:=am p;have ao:=am d;have au:G (H w3)≠b:=by omega
   obtain⟨A,N,P,K⟩:=gD d g i f;clear d g i p f bl cl cj bi D l ef eg ei cn;go_wp2_with fail
   rename_i KK w;apply Gn KK
   .intro W;go_region
    all_goals exact W
   apply w;clear w;go_wp2;go_ret;have f:=ae K;subst f;have d:=ae A;have g:=ae N;rw[bP]at d g;obtain⟨k,hd,e3,e4,e5⟩:=ae cT;have O:J (λm=>m=b) wr ((ct (ct (ct wr (U b 18)<|aO bX) (U b 19)<|aO bF) (U b 20)<|aO bX).drew):=(((ij b wr).setCell b 19 _<|.inl rfl).setCell b 20 _<|.inl rfl).trans (cg _ _)<|λ_ S=>.inl S;have V:=((ax.mono (T:=λm=>m=b) cN).trans P<|λ_ S=>.inl S).trans O<|λ_ S=>.inl S;refine⟨rfl,Q,k,?_,O.own g (λx o S=>by have:=(g.lt x o).1;omega),hd.trans<|BS hd.ok (λq=>al<|e5 _ q) V,e3,e4,e5⟩;have hx:=aT (i:=20) (u:=aO bX)<|aT (i:=19) (u:=aO bF)<|aT (i:=18) (u:=aO bX) d;exact Eq.trans (show _=_ from hx) rfl
def jJ.Fw{k:fP}(n:jJ a b k)(o:J (λc=>c=b) a f)(j:aS a (U c g)=M d):aS f (U c g)=M d:=by
 obtain⟨p,e,m,_⟩:=n;have i:c≠b:=by intro l;rw[l]at j;simp[World.cell?,m]at j
 have h:c<G (H a):=by rcases dK c (G<|H a)with l|l;exact l;simp[World.cell?,eL l]at j
 exact o.cell j i h
def jJ.SY{i:fP}(k:jJ a b i)(l:J (λc=>c=b) a f){t:TypeId}{d:R×R}(h:a.heap[c]?=M (aw T t d)):f.heap[c]?=M (aw T t d):=by
 obtain⟨n,e,j,_⟩:=k;have g:c≠b:=by intro m;rw[m,j]at h;cases h
 exact(l.block c (am h) g).trans h
def jJ.PM{k:fP}(n:jJ a b k)(o:J (λr=>r=b) a f)(q:Row a c d g x):Row f c d g x:=by
 obtain⟨j,⟨rfl,l⟩|⟨p,e,h,rfl,i,m⟩⟩:=q;exact⟨j,.inl ⟨rfl,l⟩⟩;exact⟨j,.inr ⟨p,e,h,rfl,i,λq u l=>n.Fw o<|m q u l⟩⟩
def Aside.qw(h:Aside a j b c g)(d:J X a f):Aside f j b c g:=⟨ag h.lt d.size,h.bw,h.ne⟩
def Pow.qw{d:fP}(h:Pow a)(i:jJ a b d)(j:J (λm=>m=b) a f):Pow f:=by
 refine h.ay j<|λk=>?_;obtain⟨l,c,g,_⟩:=i;unfold Pow Lib.TabIs World.var? at h;rw[Ep]at h;simp only[qU]at h;have e:2=b:=k;rw[e,g]at h;simp at h
def FL.qw{q:fP}(r:FL a j b c d i)(n:jJ a g q)(k:J (λu=>u=g) a f):FL f j b c d i:=by
 refine⟨n.PM k r.row,λu t=>(r.loc u t).qw k,λv o=>?_⟩;have h:=r.each v o;obtain⟨p,l,e,m,s⟩:=h.mem;exact⟨⟨p,l,e,⟨n.SY k m.box,λr u o=>n.Fw k<|m.cells r u o,m.ne,m.le,m.small⟩,s.qw k⟩,h.loc.qw k,h.ks,h.num,h.pure,h.idx,h.small,h.file⟩
def ST.qw{o:fP}(h:ST a b n j e i p r s g)(k:jJ a c o)(t:Aside a j n.aN b c)(d:J (λm=>m=c) a f):ST f b n j e i p r s g where
 mem:=k.PM d h.mem
 tr:=λm l=>(h.tr m l).qw d
 l0:=h.l0.qw k d
 l1:=h.l1.qw k d
 l2:=h.l2.qw k d
 l3:=h.l3.qw k d
 aN:=h.aN.ay d<|λm r k=>t.bw (by have q:m=c:=k;rw[<-q];exact r)
 rI:=h.rI
 kW:=⟨λm l=>k.Fw d<|h.kW.steps m l,h.kW.pow.qw k d,h.kW.fC.qw d,h.kW.mJ.qw d⟩
 qK:=h.qK
 mw:=h.mw
 mr:=h.mr
 jb:=h.jb
 s1:=h.s1
 s2:=h.s2
 s3:=h.s3
def Inv.qw{s s':SR}{T:cR}{S m:fw}(h:Inv a b s j e i p r T g l y k S)(V:s.mj=M c)(d:s'={s with ig:=s'.ig})(x:J (λW=>W=c) a f)(P:jJ f c (Bd m))(O:z m<=4)(N:∀X∈m,X.2<=s.bj):Inv f b s' j e i p r T g l y k m:=by
 obtain⟨u,A,Q,B⟩:=h.oY.ex;have L:u=c:=by rw[A]at V;exact dF V
 subst L;have t:=(h.st.qw Q B x).fields (s':=s') (by rw[d];exact⟨rfl,rfl,rfl,rfl,rfl⟩) (by rw[d]);have v:s'.next=s.next:=by rw[d]
 have C:s'.log=s.log:=by rw[d]
 have q:s'.gF=s.gF:=by rw[d]
 have n:s'.bj=s.bj:=by rw[d]
 have D:s'.ir=s.ir:=by rw[d]
 have E:s'.vP=s.vP:=by rw[d]
 have F:s'.mem=s.mem:=by rw[d]
 have K:s'.yu=s.yu:=by rw[d]
 have w:s'.aN=s.aN/\s'.mj=s.mj:=by rw[d];exact⟨rfl,rfl⟩
 have o:s'.kC=s.kC:=by rw[d]
 exact⟨t,by rw[v,C,q];exact h.rh,h.pr,h.lp,by rw[n];exact h.mem,by rw[n];exact h.Ng,h.WH,h.XC,⟨⟨u,w.2.trans A,P,by rw[w.1];exact B.qw x⟩,O⟩,by rw[n];exact N,by rw[n];exact h.Be,by rw[D];exact h.VE,by rw[E];exact h.vP,h.Gg,by rw[v];exact h.nx,by rw[n];exact h.bn,h.eU,by rw[F,K];exact h.Ti,by rw[q,o];exact h.loose,by rw[q];exact h.UD,h.mw⟩
def Wm{sn:fw}{n:R}(h:∀p∈sn,p.1<n)(t:R):(Bd sn).put (n:Y) (aL (t:Y))=Bd (sn++[(n,t)]):=by
 induction sn with
 |nil=>rfl
 |cons p r c=>
  have b:=h p (by simp);have a:=c (λq b=>h q<|by simp[b]);unfold Bd at a|-;rw[aZ,cC,aZ,fP.put,dh (by simp only;omega),a]
def ml:fw->Y->fw
 |[],_=>[]
 |p::r,n=>if(p.1:Y)=n then r else p::ml r n
def PF(n:Y):∀b:fw,(Bd b).del n=Bd (ml b n)
 |[]=>rfl
 |p::r=>by
  have a:=PF n r;unfold Bd at a|-;rw[aZ,fP.del,ml];split
  .rfl
  .rw[a];rfl
def GI(n:Y):∀a:fw,(ml a n).Sublist a
 |[]=>eF _
 |p::r=>by
  rw[ml];split
  .exact qe _ _
  .exact(GI n r).cons_cons _
abbrev Zs:=cD<|Option<|R×iI
abbrev Xp:=cD<|Option iI
def iR:R->Zs->fw
 |_,[]=>[]
 |n,M x::r=>(n,x.1)::iR (n+1) r
 |n,none::r=>iR (n+1) r
def ub(a:Zs):Xp:=a.map<|Option.map Prod.snd
def pu.abs(x:pu):Option iI:=if x.live then M x.l else none
def zM(x:R×iI):∀(b:Zs)(n:R),iR n (b++[M x])=iR n b++[(n+z b,x.1)]
 |[],n=>rfl
 |some a::r,n=>by
  have e:n+z (M a::r)=n+1+z r:=by rw[aC];omega
  rw[cC,iR,iR,zM x r<|n+1,e,cC]
 |none::r,n=>by
  have e:n+z (none::r:Zs)=n+1+z r:=by rw[aC];omega
  rw[cC,iR,iR,zM x r<|n+1,e]
def vp:∀(a:Zs)(n:R)(p:R×R),p∈iR n a->n<=p.1/\p.1<n+z a
 |[],n,p,h=>by cases h
 |some b::r,n,p,h=>by
  rw[aC];rcases aD.1 h with rfl|h
  .exact⟨ai _,by show n<_;omega⟩
  .have:=vp r (n+1) p h;omega
 |none::r,n,p,h=>by
  have:=vp r (n+1) p h;rw[aC];omega
def zu:∀{a:fw},(∀p∈a,(p.1:Y)≠m)->pD a m=none
 |[],_=>rfl
 |p::r,h=>by
  rw[pD,dh<|h p<|by simp];exact zu<|λq b=>h q<|by simp[b]
def BE:∀(b:Zs)(n j:R),pD (iR n b) ((n+j:R):Y)=match b[j]? with|some (M x)=>M x.1|_=>none
 |[],n,j=>rfl
 |some x::r,n,0=>by rw[iR,pD,dt (by simp only;omega)];rfl
 |some x::r,n,j+1=>by
  have a:=BE r (n+1) j;rw[iR,pD,dh (by simp only;omega),show n+(j+1)=n+1+j by omega,a];rfl
 |none::r,n,0=>by
  rw[iR,zu (λp a=>by have:=vp r (n+1) p a;omega)];rfl
 |none::r,n,j+1=>by
  have a:=BE r (n+1) j;rw[iR,show n+(j+1)=n+1+j by omega,a];rfl
def BF:∀(c:Zs)(n j:R)(x:R×iI),c[j]?=M (M x)->ml (iR n c) ((n+j:R):Y)=iR n (c.set j none)
 |[],n,j,x,h=>by cases h
 |none::r,n,0,x,h=>by cases h
 |some b::r,n,0,x,h=>by rw[iR,ml,dt (by simp only;omega)];rfl
 |some b::r,n,j+1,x,h=>by
  have a:=BF r (n+1) j x h;rw[iR,ml,dh (by simp only;omega),show n+(j+1)=n+1+j by omega,a];rfl
 |none::r,n,j+1,x,h=>by
  have a:=BF r (n+1) j x h;rw[iR,show n+(j+1)=n+1+j by omega,a];rfl
def BD:∀(a:Zs)(n:R),z (iR n a)=z ((ub a).filter Option.isSome)
 |[],n=>rfl
 |some c::r,n=>by
  have b:=BD r<|n+1;rw[iR,aC,b];rfl
 |none::r,n=>BD r<|n+1
def yE:∀(a:Zs)(n:R)(x:R×iI),M x∈a->(x.1:Y)∈sG (iR n a)
 |[],n,x,h=>by cases h
 |some b::r,n,x,h=>by
  rcases aD.1 h with e|h
  .cases e;exact dC ..
  .exact aJ _<|yE r (n+1) x h
 |none::r,n,x,h=>by
  rcases aD.1 h with e|h
  .cases e
  .exact yE r (n+1) x h
def Hk:∀(b:cD pu),uh b=z ((b.map pu.abs).filter Option.isSome)
 |[]=>rfl
 |x::r=>by
  have a:=Hk r;unfold uh at*;cases hl:x.live with
  |true=>simp[pu.abs,hl,a]
  |false=>simp[pu.abs,hl,a]
def VM(a:Xp)(n:Y):Option iI:=if n<1 then none else match a[(n-1).toNat]? with
 |some x=>x
 |none=>none
def Bn(b:Zs)(n:Y):(∃(j:R)(a:R×iI),n=(j:Y)+1/\b[j]?=M (M a)/\pD (iR 1 b) n=M a.1/\VM (ub b) n=M a.2)\/(pD (iR 1 b) n=none/\VM (ub b) n=none):=by
 by_cases c:n<1;refine .inr ⟨zu λp d=>?_,by unfold VM;rw[dt c]⟩;have:=vp b 1 p d;omega;obtain⟨j,rfl⟩:∃j:R,n=(j:Y)+1:=⟨(n-1).toNat,by omega⟩;(have e:((j:Y)+1-1).toNat=j:=by omega);have d:=BE b 1 j;rw[show((1+j:R):Y)=(j:Y)+1 by omega]at d;(have f:(ub b)[j]?=b[j]?.map (Option.map Prod.snd):=by unfold ub;rw[dD]);unfold VM;rw[dh c,e,d,f];rcases hz:b[j]? with _|_|a;exact .inr ⟨rfl,rfl⟩;exact .inr ⟨rfl,rfl⟩;exact .inl ⟨j,a,rfl,hz,rfl,rfl⟩
def AX(a:cD pu)(n:Y):(∃(j:R)(x:pu),n=(j:Y)+1/\j<z a/\JV a n=M x/\VM (a.map pu.abs) n=M x.l)\/(JV a n=none/\VM (a.map pu.abs) n=none):=by
 by_cases b:n<1;exact .inr ⟨by unfold JV;rw[dt b],by unfold VM;rw[dt b]⟩
 .obtain⟨j,rfl⟩:∃j:R,n=(j:Y)+1:=⟨(n-1).toNat,by omega⟩;have d:((j:Y)+1-1).toNat=j:=by omega
  unfold JV VM;rw[dh b,dh b,d,dD];rcases hs:a[j]? with _|x
  .exact .inr ⟨rfl,rfl⟩
  .have c:j<z a:=(fF.1 hs).1;cases hl:x.live with
   |true=>exact .inl ⟨j,x,rfl,c,by simp[hl],by simp[pu.abs,hl]⟩
   |false=>exact .inr ⟨by simp[hl],by simp[pu.abs,hl]⟩
def QU(a:Zs):z (ub a)=z a:=by simp[ub]
def QT(a:Zs)(j:R):ub (a.set j none)=(ub a).set j none:=by simp[ub,oe]
def NG(a:Zs)(x:R×iI):ub (a++[M x])=ub a++[M x.2]:=by simp[ub]
def Xn(a:cD pu)(j:R):(a.set j AU).map pu.abs=(a.map pu.abs).set j none:=by rw[oe];rfl
def KY{o:Func}{u:Tmp}(x:o.results=#[.cell u 107])(a:Array aa)(w:I)(q:R)(k l m n:Option Addr)(g h i j c d e f:R)(v:TypeId)(p:R×R)(t:a.getD u iE=aA q)(r:w.heap[q]?=M (aw #[ah k g c,ah l h d,ah m i e,ah n j f] v p)):(results o a).run bG w=.ok (eB #[ah k g c,ah l h d,ah m i e,ah n j f]) w:=by
 have b:a[u]?.getD iE=aA q:=by simpa using t
 have s:=lO (P:=bG) w q v 107 #[ah k g c,ah l h d,ah m i e,ah n j f] p _ r underlying107 rfl (by kernel_rfl);simp[results,x,b,asAddr,s]
def RU(p:eP)(h:ku a d e)(hm:Row a 1 t (z p) (p.map<|Value.int .u64))(hs:dS e)(hg:∀bd∈e,bd.Good)(hl:z e<=1000000)(h4:z p<=4)(hv:∀m,bY d=M m->m<G (H a))(v:∀m,bY t=M m->m<G (H a))(hT:Steps a)(ax:1<G (H a)):cA bG 87 #[d,t] a λac w'=>∃v3,∃l:cR,ac=aP (eB #[aG,aG,aG,v3])/\w'.ownsRow (G<|H a) 224 1 v3 (z l) (l.map bJ.ptr)/\l.map bJ.all=gR (iw<|dV p e)/\qL w' (G<|H a) l/\J az a w':=by
 have k:J az a (cF a<|aw #[aG,aG,aG,aG] 107):=(cI az a);have E:(cF a<|aw #[aG,aG,aG,aG] 107).heap[G<|H a]?=M (aw #[aG,aG,aG,aG] 107 (0,0)):=aE _ rfl;have T:G (H<|cF a<|aw #[aG,aG,aG,aG] 107)=G (H a)+1:=by simp
 have O:=wa p (k.row h<|λm f=>⟨id,hv m f⟩) hs hl (k.row hm<|λm f=>⟨id,v m f⟩) (by omega) (λm f=>ag (hv m f) k.size)<|λm f=>ag (v m f) k.size;obtain⟨x1,n1,ba⟩:=bS h;obtain⟨x2,n2,bb⟩:=bS hm;obtain⟨ao,ad,an⟩:=dI k E hT;clear h hm hv v k E hT;subst ba bb;go_in
 go_wp2_with fail
 apply O.mono;rintro ac w2⟨v2,rfl,n,x⟩;have K:=MP (dr n) (hs.sub<|jy p e) (aF (jy p e).length_le hl)<|λm f=>(n.lt m f).2;obtain⟨y2,d2,rfl⟩:=aB n;have au:=Z<|ao.cw x;have B:=Z<|(x.block _ (by rw[T];omega) id).trans ad;clear n x O;go_wp2_with fail
 apply K.mono;rintro ac w3⟨v3,rfl,o,y⟩;have g:=(kO<|dV p e).trans<|jy p e;have D:=Z<|au.cw y;have P:=uD (dr o) (hs.sub g) (((yt hs).sub<|kO _).mono<|by omega) (λbd a=>hg bd<|g.subset a) (aF g.length_le hl) (λm f=>(o.lt m f).2)<|λm f=>D.cell (an m f) id ax;obtain⟨y3,d3,rfl⟩:=aB o;have r:=Z<|(y.block _ (am B) id).trans B;clear o y K g;go_wp2_with fail
 apply P.mono;rintro ac w4⟨v4,l,rfl,w,S,L,A⟩;have c:=(A.block _ (am r) id).trans r;have bc:G (H a)+1<=G (H w3):=by have:=am r;omega
 have av:=Z<|D.cw A;obtain⟨y4,X,rfl⟩:=aB w;have W:=Z<|And.intro w (And.intro S L);have g0:=cellAt c 0 rfl;have g1:=cellAt c 1 rfl;have g2:=cellAt c 2 rfl;have g3:=cellAt c 3 rfl;have f0:=dW (i:=0) c;have f1:=dW (i:=1) c;have f2:=dW (i:=2) c;have f3:=dW (i:=3) c;obtain⟨s,u⟩:∃s,ct (ct (ct (ct w4 (U (G<|H a) 0) aG) (U (G<|H a) 1) aG) (U (G<|H a) 2) aG) (U (G<|H a) 3) (ah y4 (z l) X)=s:=⟨_,rfl⟩;have F:s.heap[G<|H a]?=M (aw #[aG,aG,aG,ah y4 (z l) X] 107 (0,0)):=by rw[<-u];exact Ji c
 have j:J (λq=>q=G (H a)) w4 s:=by rw[<-u];exact(((ij (G<|H a) w4).setCell _ _ _<|.inl rfl).setCell _ _ _<|.inl rfl).setCell _ _ _<|.inl rfl
 have V:J az a s:=av.trans j<|λm ac=>.inr (by have e':m=G (H a):=ac;omega);have Q:s.ownsRow (G<|H a) 224 1 (ah y4 (z l) X) (z l) (l.map bJ.ptr):=eM (j.own W.1 (λm f c=>by have c':m=G (H a):=c;have:=(W.1.lt m f).1;omega)) (by omega);have N:qL s (G<|H a) l:=(W.2.2.other j (λm ac=>by have e':m=G (H a):=ac;rw[e'];exact⟨_,_,_,c,by decide,by decide,by decide⟩)).base (by omega);have al:=Z F;have C:=Z<|And.intro Q (And.intro W.2.1 (And.intro N V));clear w S L A c F j V Q N P;go_wp2;clear u g0 g1 g2 g3 f0 f1 f2 f3;refine cO (KY rfl _ _ (G<|H a) none none none y4 0 0 0 (z l) 0 0 0 X _ _ rfl al) rfl ?_;exact⟨_,l,rfl,C⟩
section
open Go.Conc.Locks
def Ja{P:Program}{q:Oper}{g:Act}{K:Act->I->Prop}{Q:Exit->Act->I->Prop}(h x i:Operand)(w:TypeId)(f:q.op=Op.mapUpdate w h x i)(u y:TypeId)(n:P.underlying w=M (.map u y))(l:P.underlying u=M (.int .i64))(j:R)(v:fP)(m:g.eval h=.map (M j))(A:jJ a j v)(b:Y)(c:aa)(p:g.eval x=aq b)(o:g.eval i=c)(k:∀d,jJ d j (v.put b c)->a.grownBy d (M j)->G (H d)=G (H a)->K (g.put q.dst iE) d):Oper.wp P q g a K Q:=by
 obtain⟨d,e,r,s,t⟩:=KN n l A b c;unfold Oper.wp;simp[execOp,f,m,p,o,e,Result.andThen];exact k d r s t
def Yc:lC 2=.iface 55 (aq 2):=rfl
def Db(h:bM a b n 0)(l:n.closed=bX):cA bG 17 #[aA b] a λm k=>m=aP (dE #[aq 0,lC 6])/\bM k b n 0/\J (λu=>u=b) a k:=by
 have p:=bM.cellAt h 0 rfl;have r:a.frozen? (U b 0)=bF:=h.free;have j:=h.gK 1;have c:=iB j;rw[l]at c;simp only[iO]at c;have o:=Z<|λg i=>qn (W2:=g) j (ij b a) i;clear h j l;rw[wq]at c|-;go_enter_defers func17,ntmps17
 go_wp2_with fail
 apply(lock_free (U b 0) _ p r).mono;rintro m k⟨rfl,rfl⟩;go_wp2_with fail
 apply c.mono;rintro m g⟨rfl,i⟩;obtain⟨q,s,d⟩:=o g i;have e:=Z d;clear d i c;go_wp2;refine eR (f:=40) (args:=#[aA b]) (by simp) (by simp[go_sem]) ?_;apply(unlock_deferred (U b 0) .returning _ q s).mono;rintro m v t⟨rfl,rfl,rfl⟩;exact⟨_,kY rfl _ _ _,rfl,e⟩
def FT(x:fw)(h:bM a b n 0)(B:ST a b n j e i p r s c)(w:FK a j b n x)(O:n.closed=bF)(h4:4<=z x):cA bG 17 #[aA b] a λL y=>L=aP (dE #[aq 0,lC 2])/\tL a y b n j e i p r s c:=by
 have E:=am h;have W:=bM.cellAt h 0 rfl;have f0:a.frozen? (U b 0)=bF:=h.free;have g:=kM B.aN B.rI 1;have A:=h.gK 1;generalize N:ct a (U b 0) (jo 1)=m at g A;obtain⟨mb,Q,K,q3⟩:=(w.fm g).ex;have d:=iB A;rw[O]at d;have u:cA bG 41 #[aA b] m λL y=>L=aP .nilIface/\Below (G<|H m) m y:=d;obtain⟨V,T,C⟩:=dI (λl(o:Below (G<|H m) m l)=>And.intro (rJ (W2:=l) A B E g o) (K.dq<|o.block _ K.lt)) N Q;clear h B g A O N w Q K q3 d;rw[Yc];go_enter_defers func17,ntmps17
 go_wp2_with fail
 apply(lock_free (U b 0) _ W f0).mono;rintro L y⟨rfl,F⟩;rw[ae T]at F;subst y;go_wp2_with fail
 apply u.mono;rintro L l⟨rfl,o⟩;obtain⟨⟨q,v,k⟩,t⟩:=V l o;have ac:aS l (U b 16)=M (.map<|M mb):=by rw[<-ae C];exact q.cell rfl
 have D:=KO (P:=bG) underlying108 t 3;have hl:z (Bd x)=z x:=by simp[Bd]
 rw[hl]at D;have e4:decide ((4:Y)<=(z x:Y))=bX:=nH (by omega);obtain⟨X,g0,hF⟩:=k l v.Jb<|J.refl _ _;have S:=Z hF;clear q v k o hF t u h4;go_wp2;refine eR (f:=40) (args:=#[aA b]) (by simp) (by simp[go_sem]) ?_;apply(unlock_deferred (U b 0) .returning _ X g0).mono;rintro L u' ad⟨rfl,rfl,rfl⟩;exact⟨_,kY rfl _ _ _,rfl,S⟩
end
def kR.nil:kR []:=⟨by simp,dS.nil,by simp⟩
def Ui{e:Fs}(h:rV a b e X O):Nh a O:=by
 obtain⟨g,d,c,f,_⟩:=h.mem;exact⟨_,_,_,_,_,_,_,_,_,f⟩
def Up(h:VW a b O):Nh a O:=by
 obtain⟨e,c,x,d,h⟩:=h;exact⟨_,_,_,_,_,_,_,_,_,h.mem⟩
def FL.RS(h:FL a j c g d i)(f:z i<=1000000000):iX a d i:=⟨h.row,λl e=>(h.loc l e).lt,λt k=>Ui<|h.each t k,f⟩
def EQ(w:I):iX w aG []:=⟨⟨rfl,.inl ⟨rfl,rfl⟩⟩,λk a=>(by cases a),by simp,by simp⟩
def LS.least{P:aa}{Q o:cR}(v:LS a b c g j i [] l d t L V p r s Q)(B:J (j.bw b) a f)(K:(mN b j).D f)(x:qL f (G<|H a) o)(q:o.map bJ.all=gR e)(A:dS e)(k:rm 5 e)(w:∀W∈e,W.Good)(y:f.ownsRow (G<|H a) 224 1 P (z o) (o.map bJ.ptr))(F:z e<=l):∃u,LS f b c g j i u l aG aG aG P [] [] [] o:=by
 have h':=v.ay B K;obtain⟨u,S,C,D,E,T,N⟩:=v.pM B x q A k w;rw[cJ]at C D E;have m:=ma q;have h:Row f 1 aG (z ([]:cR)) (([]:cR).map bJ.ptr):=⟨rfl,.inl ⟨rfl,rfl⟩⟩;refine⟨u,{h' with news:=C,apart:=D,r0:=h,r1:=h,r2:=h,r3:=dr y,b0:=λO n=>(by cases n),b1:=λO n=>(by cases n),b2:=λO n=>(by cases n),b3:=vY y v.bw v.KM v.le,x0:=by simp,x1:=by simp,x2:=by simp,x3:=E,nodup:=by simpa using N,s1:=kR.nil,s2:=kR.nil,s3:=GJ q x.each A k w,qK:=?_}⟩;rw[m];simpa[cr]using F
section
open Go.Conc.Locks
def TE{s n:SR}{V:cR}{T m:fw}(D:Inv a b s j e i p r V g l y k T)(v:b<G (H a))(E:gq a f s.aN b j j)(q:bM f b n 1)(F:s.mj=M c)(C:n={s with ig:=n.ig})(w:J (λt=>t=c) f B)(P:jJ B c (Bd m))(O:z m<=4)(L:∀W∈m,W.2<=s.bj):aS B ⟨b,0,none⟩=M (.int .i32 1)/\B.frozen? ⟨b,0,none⟩=bF/\bM B b n 1/\bM (ct B ⟨b,0,none⟩<|.int .i32 0) b n 0/\Inv (ct B ⟨b,0,none⟩<|.int .i32 0) b n j e i p r V g l y k m/\J (λt=>(j.bw s.aN t\/t=b)\/t=c) a (ct B ⟨b,0,none⟩<|.int .i32 0):=by
 have o:=D.fm v E rfl (ai _) rfl D.loose;obtain⟨A,Q,X,S⟩:=o.oY.ex;have K:A=c:=by rw[Q]at F;exact dF F
 subst K;have h:=o.qw F C w P O L;have d:bM B b n 1:=(w.block b (am q)<|λr=>S.ne r.symm).trans q;have N:n.aN=s.aN:=by rw[C]
 have u:=kM h.st.aN h.st.rI 0;have x:J (λt=>(j.bw s.aN t\/t=b)\/t=A) a B:=(E.ay.mono<|λ_ r=>.inl<|.inl r).trans w<|λ_ r=>.inl<|.inr r;exact⟨d.cell rfl,d.free,d,d.gK 0,h.fm (am d) u rfl (ai _) rfl h.loose,x.setCell b 0 _<|.inl<|.inl<|.inr rfl⟩
def FR{s:SR}{W br:cR}(u:fw)(t:R)(h:bM a b s 0)(N:Inv a b s j e p r W br c g l k u)(hc:s.closed=bF)(h4:z u<4)(hg:∀bp∈u,bp.1<=s.ig)(bt:s.ig<=1000000000)(E:s.mj=M t):cA bG 17 #[.pointer<|M ⟨b,0,none⟩] a λax T=>ax=.returned (.tuple #[.int .i64<|(s.ig:Y)+1,.nilIface])/\bM T b {s with ig:=s.ig+1} 0/\Inv T b {s with ig:=s.ig+1} j e p r W br c g l k (u++[(s.ig+1,s.bj)])/\J (λV=>(j.bw s.aN V\/V=b)\/V=t) a T:=by
 have bg:=am h;have c0:aS a ⟨b,0,none⟩=M (.int .i32 0):=h.cell rfl;have f0:a.frozen? ⟨b,0,none⟩=bF:=h.free;have C:=kM N.st.aN N.st.rI 1;have h1:=h.gK 1;have O:=N.oY;generalize hW:ct a ⟨b,0,none⟩ (.int .i32 1)=W1 at C h1;have y:=iB h1;rw[hc]at y;have av:cA bG 41 #[.pointer<|M ⟨b,0,none⟩] W1 λax T=>ax=.returned .nilIface/\Below (G<|H W1) W1 T:=y
 have HX:=Z (λq(hb:Below (G<|H W1) W1 q)=>show bM q b s 1/\jJ q t (Bd u)/\∀d,d=ct q ⟨b,15,none⟩ (.int .i64<|(s.ig:Y)+1)->bM d b {s with ig:=s.ig+1} 1/\jJ d t (Bd u)/\∀A,jJ A t ((Bd u).put ((s.ig:Y)+1)<|.int .u64 s.bj)->d.drew.grownBy A (M t)->aS A ⟨b,0,none⟩=M (.int .i32 1)/\A.frozen? ⟨b,0,none⟩=bF/\aS A ⟨b,15,none⟩=M (.int .i64<|(s.ig:Y)+1)/\bM (ct A ⟨b,0,none⟩<|.int .i32 0) b {s with ig:=s.ig+1} 0/\Inv (ct A ⟨b,0,none⟩<|.int .i32 0) b {s with ig:=s.ig+1} j e p r W br c g l k (u++[(s.ig+1,s.bj)])/\J (λV=>(j.bw s.aN V\/V=b)\/V=t) a (ct A ⟨b,0,none⟩<|.int .i32 0)from by
  have ad:=C.trans<|rk (sbqq:=b) C.ok hb;have m:bM q b s 1:=h1.ay (J.aV (S:=λ_=>False) hb) id;obtain⟨b0,q1,q2,q3⟩:=(O.fm ad).ex;have eb:b0=t:=by rw[q1]at E;exact dF E
  subst eb;refine⟨m,q2,λd w=>?_⟩;subst w;have al:=ad.set N.st.rI 15<|.int .i64<|(s.ig:Y)+1;have o:bM (ct q ⟨b,15,none⟩<|.int .i64<|(s.ig:Y)+1) b {s with ig:=s.ig+1} 1:=(aT m).trans rfl;obtain⟨b1,p1,p2,p3⟩:=(O.fm al).ex;have bb:b1=b0:=by rw[p1]at q1;exact dF q1
  subst bb;refine⟨o,p2,λA x D=>?_⟩;have bi:J (λV=>V=b1) (ct q ⟨b,15,none⟩<|.int .i64<|(s.ig:Y)+1) A:=(cg (λV=>V=b1) _).trans (J.dR (S:=λV=>V=b1) D (by rintro V⟨⟩;exact .inl rfl))<|λ_ W=>.inl W;have L:=Wm (sn:=u) (n:=s.ig+1) (λbp hp=>by have:=hg bp hp;omega) s.bj;rw[show(((s.ig+1:R)):Y)=(s.ig:Y)+1 from by push_cast;rfl]at L;rw[L]at x;obtain⟨r1,r2,r3,r4⟩:=TE N bg al o p1 rfl bi x (by simp;omega) (λbp hp=>by
   rcases ap.1 hp with W|W
   .exact N.TD bp W
   .rw[bI]at W;rw[W];exact ai _)
  exact⟨r1,r2,r3.cell rfl,r4⟩)
 have HW:=Z hW;have hi:IntKind.i64.wrap ((s.ig:Y)+1)=(s.ig:Y)+1:=by rw[bQ];omega
 clear h N C h1 hc hW O y hg;go_enter_defers func17,ntmps17
 go_wp2_with fail
 refine(lock_free ⟨b,0,none⟩ _ c0 f0).mono ?_;rintro ax T⟨rfl,bk⟩;rw[ae HW]at bk;subst T;go_wp2_with fail
 refine av.mono ?_;rintro ax q⟨rfl,hb⟩;obtain⟨m,ao,au⟩:=(ae HX) q hb;have bo:aS q ⟨b,16,none⟩=M (.map<|M t):=by rw[<-E];exact m.cell rfl
 have bn:aS q ⟨b,15,none⟩=M (.int .i64 s.ig):=m.cell rfl;have bc:q.frozen? ⟨b,15,none⟩=bF:=m.free;have bf:=KO (P:=bG) underlying108 ao 3;have hl:z (Bd u)=z u:=by simp[Bd]
 rw[hl]at bf;have e4:decide ((4:Y)<=(z u:Y))=bF:=rY (by omega);obtain⟨d,w⟩:∃d,d=ct q ⟨b,15,none⟩ (.int .i64<|(s.ig:Y)+1):=⟨_,rfl⟩;obtain⟨o,an,K⟩:=au d w;have bm:aS d ⟨b,16,none⟩=M (.map<|M t):=by rw[<-E];exact o.cell rfl
 have bl:aS d ⟨b,15,none⟩=M (.int .i64<|(s.ig:Y)+1):=o.cell rfl;have j9:aS d ⟨b,9,none⟩=M (.int .u64 s.bj):=o.cell rfl;have ba:=Z an;have X:=Z K;clear m o an K au ao hl hb av h4;go_wp2_with fail
 rename_i QQ KK ac;rw[<-w];clear w bn bo bc;refine Code.wp_mono (Q:=λax p a=>ax=Exit.normal/\KK p a) (λax p a h=>by obtain⟨rfl,h⟩:=h;exact h) ?_;refine cz (λB=>aS B ⟨b,16,none⟩=M (.map<|M t)/\aS B ⟨b,15,none⟩=M (.int .i64<|(s.ig:Y)+1)/\aS B ⟨b,9,none⟩=M (.int .u64 s.bj)) 12 (by kernel_rfl) ?_;have bd:aS d.drew ⟨b,16,none⟩=M (.map<|M t)/\aS d.drew ⟨b,15,none⟩=M (.int .i64<|(s.ig:Y)+1)/\aS d.drew ⟨b,9,none⟩=M (.int .u64 s.bj):=⟨bm,bl,j9⟩;refine cY 0 ?_;iterate 12 (refine xq (v:=?_) bd rfl (by kernel_rfl) (λ_ _ _ h=>by cases h.1) (Or.inl ⟨by rfl,?_⟩) ?_;rotate_left;(focus(rintro B⟨z0,z1,z2⟩;go_simp;try with_reducible rfl));simp only[Act.put,Nat.reduceAdd,cH,dM,dH,cy,bU,cf])
 refine eA ?_;refine aM (i:=12) rfl rfl (by kernel_rfl) ?_;intro bq F;try simp only[cy,bU,cf]
 refine Ja (.tmp 34) (.tmp 38) (.tmp 42) 108 rfl 3 103 underlying108 underlying3 t _ rfl ((ae ba).dq rfl) ((s.ig:Y)+1) (.int .u64 s.bj) rfl rfl ?_;intro w4 x D bh;refine F _ _ (λW=>(W rfl).elim) ?_;refine cX (by kernel_rfl) ?_ _;obtain⟨d0,g0,bs,hF⟩:=(ae X) w4 x D;have HF:=Z hF;clear hF x D bh F;refine⟨rfl,?_⟩;refine ac _ _ ?_;clear ac;go_wp2;refine eR (f:=40) (args:=#[.pointer<|M ⟨b,0,none⟩]) (by simp) (by simp[go_sem]) ?_;refine(unlock_deferred ⟨b,0,none⟩ .returning _ d0 g0).mono ?_;rintro ax u' bu⟨rfl,rfl,rfl⟩;exact⟨_,kY rfl _ _ _,rfl,ae HF⟩
end
structure XB(w W:I)(sb lb:R)(s:SR)(k:Y)(K:DK)(m:cK)(a b c d:cR)(C tb N:R)(ls:dX)(sn:fw)(v3:aa)(tm:cR)(qs:cD NT):Prop where
 sv:SV w sb s k lb K (a++b++c++d) C s.bj (sG sn) (λt=>fj t<|m::bZ a b c d) W aG aG aG v3 [] [] [] tm qs
 Df:∃K',gq w W s.aN sb K K'/\Inv W sb s K' m a b c d C tb N ls sn
 Yr:iX W v3 tm
 MF:lK tm<=1000000000
def XB.ay{E:I}{W b X ac:cR}{L:fw}{K:cD NT}(r:XB a B c g n m j e W b X ac l y P k L d p K)(h:J az B E):XB a E c g n m j e W b X ac l y P k L d p K:=by
 obtain⟨N,V,w⟩:=r.Df;have u:=pq (sbqq:=c) w.st.aN h;refine⟨⟨r.sv.ls.ay (h.mono cN)<|(mN n.aN j).fq r.sv.ls.D h cN,(h.block g (am r.sv.lb) id).trans r.sv.lb,r.sv.pr,r.sv.uA,(h.block c (am r.sv.box) id).trans r.sv.box,r.sv.ay.cw h⟩,⟨N,V.trans u,w.fm (am r.sv.box) u rfl (ai _) rfl w.loose⟩,⟨h.row r.Yr.row<|λm x=>⟨id,r.Yr.lt m x⟩,λm x=>ag (r.Yr.lt m x) h.size,λad C=>?_,r.Yr.small⟩,r.MF⟩;obtain⟨Q,q,cut,s,D,O,t,o,v,A⟩:=r.Yr.each ad C;exact⟨Q,q,cut,s,D,O,t,o,v,A.dq (h.block _ A.lt.1 id)<|h.block _ A.lt.2 id⟩
def Yf{W:I}{k:Y}{O b Q S:cR}{u:dX}{A:fw}(av:bM a c n k)(p:Inv a c n j e O b Q S l y P u A)(hp:o.Perm (sG A))(T:(mN n.aN j).D f)(F:J (j.bw n.aN) a f)(ad:J az f B)(ho:B.ownsRow (G<|H f) 224 1 d (z i) (i.map bJ.ptr))(r:i.map bJ.all=gR (iw<|dV o<|cQ<|e::bZ O b Q S))(hn:qL B (G<|H f) i)(X:J az B W)(hl:W.heap[g]?=M (aw #[aG,aG,aG,d] 107 (0,0))):∃qs,XB a W c g n k j e O b Q S l y P u A d i qs:=by
 rw[zG hp]at r;have x:=am av;have h:=p.all;obtain⟨p1,p2,p3⟩:=JL h r;have s:dS (cQ<|e::bZ O b Q S):=ph h.mr h.pM;have t:=(kO<|dV (sG A)<|cQ<|e::bZ O b Q S).trans<|jy (sG A)<|cQ<|e::bZ O b Q S;have v:∀ao∈cQ (e::bZ O b Q S),ao.Good:=λao hx=>h.jb ao<|(eK _).mem_iff.1 hx;have al:rm 5 (iw<|dV (sG A)<|cQ<|e::bZ O b Q S):=((yt s).sub<|kO _).mono (by rw[oZ];have:=p.oY.len;omega);have ac:=ma r;have an:=p.st.qK;have L:=p.st.mw;have K:J az f W:=ad.cw X;have m:J (j.bw n.aN) a W:=F.cw K;have C:(mN n.aN j).D W:=(mN n.aN j).fq T K cN;have D:qL W (G<|H f) i:=hn.ay X;have w:W.ownsRow (G<|H f) 224 1 d (z i) (i.map bJ.ptr):=X.own ho<|λ_ _ q=>q;have V:=p.st.Yx (C':=l) x p.Gg (by omega) L;have E:=F.size;obtain⟨qs,N⟩:=V.least m C (D.base E) r (s.sub t) al (λao hx=>v ao<|t.subset hx) (eM w E) (by rw[<-ac];omega);obtain⟨K',hd,e1,e2,e3⟩:=TY (sbqq:=c) (gq.refl p.st.aN) C m;have hb:bM W c n k:=(m.block c x p.st.rI).trans av;refine⟨qs,⟨N,hl,p1,p2,hb,m⟩,⟨K',hd,p.fm x hd (by rw[e1]) (by rw[e2];exact ai _) rfl p.loose⟩,⟨dr w,λk hk=>(w.lt k hk).2,λau ht=>Up<|D.each au ht,?_⟩,?_⟩;have:=lG N.s3.pure;omega;rw[Dq<|λau ht=>N.ks<|N.x3 au ht];omega
