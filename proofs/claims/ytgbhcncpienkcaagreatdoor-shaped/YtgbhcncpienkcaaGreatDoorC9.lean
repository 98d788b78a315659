import Derived.Test.YtgbhcncpienkcaaGreatDoorC7
import Derived.Test.YtgbhcncpienkcaaGreatDoorC8
open _root_ renaming List.length→y,Option.some→H,Array.size→z,Go.World.heap→G,Go.Value.ownBlock→ct,Go.World.cell?→aO,Go.World.setCell→cA,Go.World.alloc→cF,Bool.false→aY,Bool.true→bU,Nat→M,Int→Z,List→cw,Go.Calls→cD,Go.undef→ix,Go.Proofs.Tryz.prog→bz,Go.Value.slice→J,Go.Value.string→aj,Go.Value.bool→aK,Go.Value.pointer→fj,Go.Value.tuple→dw,Go.Value.agg→dW
namespace Go.Proofs.YtgbhcncpienkcaaGreatDoor
open ChangeShapes WideShapes RowKit Proofs.Tryz List
set_option maxHeartbeats 16000000
set_option linter.all false
set_option maxRecDepth 100000
variable{a f C:Y}{b c g l A Q:M}{d u N:aa}{e L:cJ}{i o r s:cf}{j P:DK}{k:dL}{m:Z}{n:SR}{p:eO}{X:fA}{W:ab}{w:E}{x:iC}{D:Bool}{F:jN}{O:bA}{V:Array aa}
structure Gb(t:bA):Prop where
 ks:t.ks=bS 0 t.cs
 pure:tP t.ks t.cs
 idx:Cu (bS 0 t.cs)
 small:y (dG t.cs)<=100000
 num:t.num<18446744073709551616
structure Uu(fs:Fs)(nx lg tb:M)(a b c d:cf)(gE:Bool)(ls:dL):Prop where
 names:∀n bs,dX fs n=H bs->n=gP\/(n=iQ lg/\gE=bU)\/∃t∈a++b++c++d,n=fC t.num
 state:dX fs gP=H (iH nx lg tb [a,b,c,d])\/(dX fs gP=none/\a=[]/\b=[]/\c=[]/\d=[]/\nx=2/\lg=1/\tb=0)
 log:gE=bU->dX fs (iQ lg)=H (lM ((tb:Z)+1) ls)
 Ie:gE=aY->ls=[]
 wT:∀t∈a++b++c++d,dX fs (fC t.num)=H (mR t.cs)
 yW:((a++b++c++d).map bA.num).Nodup
 low:∀t∈a++b++c++d,t.num<nx/\t.num≠lg
 lt:lg<nx
 iX:∀t∈a++b++c++d,Gb t
def vi:∀{l m:cw ab},l.Nodup->(∀x∈l,x∈m)->y l<=y m
 |[],_,_,_=>bj _
 |x::l,m,b,c=>by
  rw[kK]at b;obtain⟨m1,m2,rfl⟩:=sO (c x<|by simp);have d:∀a∈l,a∈m1++m2:=λa e=>by
   have:=c a (by simp[e]);grind
  have f:=vi b.2 d;grind
def pO{a:Fs}(h:W∈a.map (·.1)):∃b,dX a W=H b:=by
 induction a with
 |nil=>simp at h
 |cons f r c=>
  unfold dX;by_cases e:f.1=W
  .simp_all
  grind
def CW{a:Fs}(h:dX a W=H p):W∈a.map (·.1):=bW.2 ⟨_,xZ h,rfl⟩
theorem Kh{a:Fs}(h:W∉a.map (·.1)):dX a W=none:=by
 cases c:dX a W with
 |none=>rfl
 |some b=>exact absurd (CW c) h
def wB{a:Fs}(b:(a.map (·.1)).Nodup){f:ab×eO}(h:f∈a):dX a f.1=H f.2:=by
 induction a with
 |nil=>cases h
 |cons g r c=>
  rw[bZ,kK]at b;unfold dX;grind
def PV(a:Fs)(n:ab):((vF a n).map (·.1)).Sublist (a.map (·.1)):=by
 induction a with
 |nil=>exact nB _
 |cons f r b=>
  unfold vF;grind
theorem TP{a:Fs}(b:(a.map (·.1)).Nodup)(n:ab):dX (vF a n) n=none:=by
 induction a with
 |nil=>rfl
 |cons f r c=>
  rw[bZ,kK]at b;unfold vF;by_cases e:f.1=n
  .rw[dz e];grind[Kh]
  .rw[dr e];unfold dX;rw[dr e];exact c b.2
def PU{a:Fs}(d:(a.map (·.1)).Nodup){b:cw ab}(h:W∈b):dX (vE a b) W=none:=by
 induction b generalizing a with
 |nil=>cases h
 |cons m r e=>
  have c:((vF a m).map (·.1)).Nodup:=d.sublist<|PV a m;show dX (vE (vF a m) r) W=none;by_cases f:W∈r
  .exact e c f
  grind[tD,TP]
def PS{a:Fs}(c:(a.map (·.1)).Nodup){b:cw ab}(h:dX (vE a b) W=H p):W∉b/\dX a W=H p:=by
 by_cases d:W∈b;rw[PU c d]at h;cases h;grind[tD]
def Is(s:ab)(a S:M):∀{b:Fs},(b.map (·.1)).Nodup->(∀f∈b,f.1≠s->y f.2<=a)->(∀f∈b,f.1=s->y f.2<=S)->ij b<=y b*a+S
 |[],_,_,_=>by simp[ij]
 |f::r,i,c,d=>by
  rw[bZ,kK]at i;have j:ij (f::r)=y f.2+ij r:=by simp[ij]
  rw[j,aS,xp,Nat.one_mul];by_cases m:f.1=s
  .have k:ij r<=y r*a:=by
    have:∀{b:Fs},(∀f∈b,y f.2<=a)->ij b<=y b*a:=by
     intro b;induction b with
     |nil=>intro _;simp[ij]
     |cons g q l=>
      intro h;have j:ij (g::q)=y g.2+ij q:=by simp[ij]
      have e:=l (λf a=>h f<|by simp[a]);have n:=h g (by simp);rw[j,aS,xp,Nat.one_mul];omega
    grind
   have e:=d f (by simp) m;omega
  .have k:=Is s a S i.2 (λg b=>c g<|by simp[b]) (λg b=>d g<|by simp[b]);have e:=c f (by simp) m;omega
def RP(c b a:Z)(d e f g:cf):y (iH c b a [d,e,f,g])=44+20*y (d++e++f++g):=by
 unfold iH;rw[gy];simp only[bZ,fW,bG,iB,ee,af,pP,cC];omega
def Uu.total{d:Fs}(j:Uu d b c g i o r s D k)(f:(d.map (·.1)).Nodup)(q:y (lM ((g:Z)+1) k)<=200000)(x:y (i++o++r++s)<=1000000):ij d<=201000000000:=by
 have u:y d<=y (i++o++r++s)+2:=by
  have:=vi (m:=gP::iQ c::(i++o++r++s).map (λt=>fC t.num)) f (λp l=>by
   obtain⟨a,n⟩:=pO l;rcases j.names p a n with e|⟨e,_⟩|⟨t,h,e⟩
   .rw[e];simp
   .rw[e];simp
   grind)
  grind
 have v:=Is gP 200000 21000000 f (λd l c=>by
  have a:=wB f l;rcases j.names _ _ a with e|⟨e,n⟩|⟨t,h,e⟩
  .grind
  .have:=j.log n;rw[<-e,a]at this;rw[gY this];exact q
  .have:=j.wT t h;rw[<-e,a]at this;rw[gY this];exact Nj (j.iX t h).idx (j.iX t h).small) (λd l p=>by
  have a:=wB f l;rw[p]at a;rcases j.state with e|⟨e,_⟩
  .rw[a]at e;rw[gY e,RP];omega
  grind)
 have w:y d*200000<=1000002*200000:=kw _ (by omega);omega
def cQ.nodup(k:cQ a b j):((vw j.files).map (·.1)).Nodup:=by
 obtain⟨e,c,_,h,i⟩:=k.now;have f:e.toList.map (·.key)=(j.files.map df.nm).map (λp=>aj p.1):=by have:=bX (List.map Prod.fst) h;grind[map_map,Function.comp_def]
 have d:=i.2.2;rw[f]at d;have g:(vw j.files).map (·.1)=(j.files.map df.nm).map (·.1):=by simp[vw,df.nm,iz,lD]
 rw[g];rw[iz]at d|-;grind
theorem Tz{c:dL}(k:∀g∈c,∀x∈g,x.Good):kE (dG c):=by
 induction c with
 |nil=>intro x h;simp[dG]at h
 |cons g r j=>
  rw[pq];exact((MW<|k g<|by simp).append<|kE.le 4 _).append<|j<|λh c=>k h<|by simp[c]
theorem Yk{w:Y}(h j l m:Option Addr)(g c1 c2 c3:M)(n o p q:cf)(A:Row w 1 (J h (y n) g) (y n) (n.map bA.ptr))(B:Row w 1 (J j (y o) c1) (y o) (o.map bA.ptr))(C:Row w 1 (J l (y p) c2) (y p) (p.map bA.ptr))(D:Row w 1 (J m (y q) c3) (y q) (q.map bA.ptr))(t:∀k,ct (J h (y n) g)=H k->k<z (G w))(u:∀k,ct (J j (y o) c1)=H k->k<z (G w))(v:∀k,ct (J l (y p) c2)=H k->k<z (G w))(x:∀k,ct (J m (y q) c3)=H k->k<z (G w))(E:y (n++o++p++q)<=10000000):DB (cF w<|ar #[J h (y n) g,J j (y o) c1,J l (y p) c2,J m (y q) c3] 102) (z<|G w) 0 [(J h (y n) g,n),(J j (y o) c1,o),(J l (y p) c2,p),(J m (y q) c3,q)]:=by
 have c:I az w (cF w<|ar #[J h (y n) g,J j (y o) c1,J l (y p) c2,J m (y q) c3] 102):=(cK _ _);have r:(cF w<|ar #[J h (y n) g,J j (y o) c1,J l (y p) c2,J m (y q) c3] 102).heap[z<|G w]?=H (ar #[J h (y n) g,J j (y o) c1,J l (y p) c2,J m (y q) c3] 102 (0,0)):=aB _ rfl;refine⟨rfl,λi s=>?_,λi s=>?_,λi s=>?_,by rw[RF];omega⟩;(have:i=0\/i=1\/i=2\/i=3:=by grind);rcases this with rfl|rfl|rfl|rfl<;>(rw[bL r];rfl);(have:i=0\/i=1\/i=2\/i=3:=by grind);rcases this with rfl|rfl|rfl|rfl;exact c.row A<|λk g=>⟨id,t k g⟩;exact c.row B<|λk g=>⟨id,u k g⟩;exact c.row C<|λk g=>⟨id,v k g⟩;exact c.row D<|λk g=>⟨id,x k g⟩;grind
section
variable{w wr w2:Y}{db sbqq baseqq:M}{K d f:DK}{e:cf}{ps:cw NT}{T us:cf}{a b i num:M}
theorem CM.free(r:CF w db sbqq baseqq K e ps T a b)(j:CM w db sbqq baseqq K e ps T a b wr d us i num):dX (vw d.files) (fC num)=none:=by
 obtain⟨k,g,h⟩:=j.files;rw[g,jM,r.fresh num j.qR.1,mz];cases c:dX k (fC num)with
 |none=>rfl
 |some v=>
  obtain⟨u,l,o,m⟩:=h _<|xZ c;simp only[ji]at o;have s:=sS o.1;rcases j.Rs u l with n|⟨q,t,_,_,_,n⟩
  .have:=r.low u n;omega
  .omega
theorem CM.write(n:CF w db sbqq baseqq K e ps T a b)(g:CM w db sbqq baseqq K e ps T a b wr d us i num)(N:i<y T){p:NT}(q:p∈ps)(l:p.t=T[i]):cD bz 166 #[ay<|T[i].tb,ay db,aJ num] wr λV O=>V=aL .nilIface/\∃s A,CM w db sbqq baseqq K e ps T a b O s A (i+1) (num+1):=by
 have c:=g.rest p q (by rw[l,<-kQ N];grind);have k:=(n.news p q).2;have o:num<18446744073709551616:=by have:=g.qR.2;have:=n.nx;have:=n.small;omega
 have m:ij (vw d.files)+200000<=1099511627776:=by have C:=g.qf;have D:=n.room;have E:=n.small;have F:i*200000<=1000000*200000:=kw _ (by omega);omega
 have x:=(n.news p q).1.lt;have j:∀r,p.has r->¬d.aU db r:=λr B W=>by rcases g.aU r W with S|S;have:=n.aU r S;have:=(x r B).1;omega;grind
 have u:p.bb≠p.t.tb:=by obtain⟨t,L⟩:=fR c.GN (k:=p.bb) rfl;exact lL L c.mem.box<|by decide
 have v:p.bb≠p.x:=by obtain⟨t,L⟩:=fR c.GN (k:=p.bb) rfl;obtain⟨B,S⟩:=fR c.data (k:=p.x) rfl;grind
 have h:=c.mem;rw[c.ks]at h;rw[<-l];refine(Je num o p.x p.GK p.t.cs h c.data (by have:=n.le;have:=g.aw.size;omega) k.idx (Tz k.pure.iX) g.steps g.pow k.small g.aH (g.free n) (by have:=g.eJ;have:=n.eJ;have:=n.small;omega) m (j _<|.inr<|.inr rfl) (j _<|.inl rfl) (j _<|.inr<|.inl rfl) u v).mono ?_;rintro V O⟨rfl,s,C,D,E,F,P,Q⟩;exact⟨rfl,s,_,g.wrote n N q l C D E F P Q o⟩
end
def SR.settled(s:SR)(a b c d:aa)(n num:M):SR:={s with memory:=aD,gK:=0,aW:=n,l0:=a,l1:=b,l2:=c,l3:=d,next:=num+1,log:=num,gE:=aY,vU:=aY,kB:=aY,kA:=aY}
def Zk{h:cf}(j:i.map (λt=>(t.tb,t.ks,t.cs))=(o++r++s++h).map (λt=>(t.tb,t.ks,t.cs))):∃a b c d,i=a++b++c++d/\a.map (λt=>(t.tb,t.ks,t.cs))=o.map (λt=>(t.tb,t.ks,t.cs))/\b.map (λt=>(t.tb,t.ks,t.cs))=r.map (λt=>(t.tb,t.ks,t.cs))/\c.map (λt=>(t.tb,t.ks,t.cs))=s.map (λt=>(t.tb,t.ks,t.cs))/\d.map (λt=>(t.tb,t.ks,t.cs))=h.map (λt=>(t.tb,t.ks,t.cs)):=by
 rw[aQ,aQ,aQ]at j;obtain⟨x,d,rfl,e,k⟩:=iA.1 j;obtain⟨g,c,rfl,f,l⟩:=iA.1 e;obtain⟨a,b,rfl,m,n⟩:=iA.1 f;grind
def jr(h:i.map (λt=>(t.tb,t.ks,t.cs))=o.map (λt=>(t.tb,t.ks,t.cs))):i.map bA.ptr=o.map bA.ptr/\y i=y o/\i.map bA.all=o.map bA.all/\cg i=cg o:=by
 have a:=bX (List.map (λp:M×mq×dL=>fj<|H<|R p.1 0)) h;have d:=bX y h;have b:=bX (List.map (λp:M×mq×dL=>p.2.2.flatten)) h;simp only[iz,lD]at a b;have c:i.map bA.all=o.map bA.all:=b;refine⟨a,by grind,c,?_⟩;unfold cg;rw[c]
def YS(w i:Y)(a:M)(s:SR)(k:Z)(b v o:M)(K:DK)(m:cw NT)(x A B C:aa)(p q r u l:cf):Prop:=∃(n wr:Y)(j c:DK)(h d e f g:cf)(num:M),I az w n/\CM n s.aH a b K l m (p++q++r++u) s.next o wr j h (y<|p++q++r++u) num/\h=d++e++f++g/\d.map (λt=>(t.tb,t.ks,t.cs))=p.map (λt=>(t.tb,t.ks,t.cs))/\e.map (λt=>(t.tb,t.ks,t.cs))=q.map (λt=>(t.tb,t.ks,t.cs))/\f.map (λt=>(t.tb,t.ks,t.cs))=r.map (λt=>(t.tb,t.ks,t.cs))/\g.map (λt=>(t.tb,t.ks,t.cs))=u.map (λt=>(t.tb,t.ks,t.cs))/\bJ i a (s.settled x A B C v num) k/\cQ i s.aH c/\vw c.files=vE (tu (vw j.files) (gP,iH ((num:Z)+1) num v [d,e,f,g])) (pL s l h)/\((tu (vw j.files) (gP,iH ((num:Z)+1) num v [d,e,f,g])).map (·.1)).Nodup/\y c.eJ=y (pL s l h)/\(∀k,k<z (G w)->¬K.aU s.aH k->k≠a->i.heap[k]?=wr.heap[k]?)/\I (λk=>Wr s.aH K m k\/k=a) w i/\(∀k,c.aU s.aH k->K.aU s.aH k\/z (G w)<=k)
def Nt{s:SR}(e rM bt B0:M)(ps:cw NT)(v0 v1 v2 v3:aa)(eb ec bd ed a0 b0 c0 d0:cf)(h:bJ a b s m)(hL:LS a s.aH b e j (a0++b0++c0++d0) ps rM v0 v1 v2 v3 eb ec bd ed)(hF:∀bl,I az a bl->CF bl s.aH b e j (a0++b0++c0++d0) ps (eb++ec++bd++ed) s.next B0)(kt:DB a b 10 [(s.l0,a0),(s.l1,b0),(s.l2,c0),(s.l3,d0)])(px:cQ a s.aH j)(hw:¬j.aU s.aH b)(sb:bt<1000000000000000)(oA:s.log<18446744073709551616)(rs:y (a0++b0++c0++d0)<=1000000)(eF:∀bt gv,dX (vw j.files) bt=H gv->bt≠vf)(bi:∃mn bt bd,s.memory=J mn bt bd)(ks:∀bm,bm=s.l0\/bm=s.l1\/bm=s.l2\/bm=s.l3->∀m,ct bm=H m->KI s.aH b e j m)(cE:∀us,(pL s (a0++b0++c0++d0) us).Nodup/\∀bt∈pL s (a0++b0++c0++d0) us,bt≠gP/\∃gv,dX (vw j.files) bt=H gv):cD bz 101 #[ay b,dW #[v0,v1,v2,v3],aJ bt] a λdT w'=>dT=aL .nilIface/\YS a w' b s m e bt B0 j ps v0 v1 v2 v3 eb ec bd ed (a0++b0++c0++d0):=by
 obtain⟨x0,x,rfl⟩:=bM hL.r0;obtain⟨x1,A,rfl⟩:=bM hL.r1;obtain⟨x2,B,rfl⟩:=bM hL.r2;obtain⟨x3,C,rfl⟩:=bM hL.r3;have pw:=hL.count;have hn:y (eb++ec++bd++ed)<=1000000:=by grind
 have hr:=Yk x0 x1 x2 x3 x A B C eb ec bd ed hL.r0 hL.r1 hL.r2 hL.r3 (λm d=>(hL.b0 m d).1) (λm d=>(hL.b1 m d).1) (λm d=>(hL.b2 m d).1) (λm d=>(hL.b3 m d).1) (by omega);obtain⟨WB,em⟩:∃WB,cF a (ar #[J x0 (y eb) x,J x1 (y ec) A,J x2 (y bd) B,J x3 (y ed) C] 102)=WB:=⟨_,rfl⟩;rw[em]at hr;obtain⟨bv,mo⟩:∃bv,eb++ec++bd++ed=bv:=⟨_,rfl⟩;have cx:=so _ hr;rw[QP,RF,mo]at cx;have hB:I az a WB:=by rw[<-em];exact(cK _ _)
 have iv:WB.heap[z<|G a]?=H (ar #[J x0 (y eb) x,J x1 (y ec) A,J x2 (y bd) B,J x3 (y ed) C] 102 (0,0)):=by rw[<-em];exact aB _ rfl
 have kn:=(hB.block b (am h) id).trans h;have rn:=bJ.cellAt kn 14 rfl;rw[mo]at hF hn;obtain⟨HH,g,HF,nd,hG,hX,cd,eg,mA⟩:=xU h hL hF hB iv mo kt ks cE;obtain⟨ry,rx,rv,bi⟩:=bi;have mI:=U bi;clear h hL hF hr hB iv kn mo kt ks cE bi;go_in
 go_wp2_with fail
 apply cx.mono;rintro dT w1⟨rz,rfl,ht,hz⟩;obtain⟨xT,rT,pe⟩:=aA ht;subst pe;have w:I az a w1:=nd.cr hz;have hi:=HF w1 w;have jB:=px.aw w<|λ_ _=>id;have jA:=CM.start hi (λbf h0=>(g.tM bf h0).Tq<|λm d=>w.block m (by have:=d.1;have:=g.le;omega) id) jB (λm d=>w.cell (g.steps m d) id (by have:=g.fw.1;have:=g.le;omega))<|g.pow.aw w id;obtain⟨hS,fl,aq,mx,ca,bT,nf⟩:=xV ht w hi jA ((w.block b (am HH) id).trans HH) ((hz.block (z<|G a) (am hG) id).trans hG) (show z (G a)+1=z (G WB)by rw[<-em];simp);clear ht hz w hi jA cx jB px;go_wp2_with fail
 go_loopw [7,22] (λdx gk wr=>∃(ea num:M)(X:DK)(us:cf),gk=ap ea/\dx=aJ num/\CM w1 s.aH b e j (a0++b0++c0++d0) ps bv s.next B0 wr X us ea num) (λ_ gk _=>y bv-(intOf gk).toNat)
 case atStart=>exact⟨0,s.next,j,[],rfl,rfl,mx⟩
 case round=>
  obtain⟨ea,num,X,us,rfl,rfl,l⟩:=hrel;have ro:=g.le;have qv:=g.Gw;have bs:∀m,z (G a)<=m->¬Wr s.aH j ps m:=by
   rintro m d(bd|⟨bx,hp,bd|bd⟩)
   .have:=g.aU m bd;omega
   .have:=((g.news bx hp).1.lt m<|.inl bd).2;omega
   .have:=((g.news bx hp).1.lt m<|.inr<|.inr bd).2;omega
  have lc:¬Wr s.aH j ps b:=by
   rintro(bd|⟨bx,hp,bd|bd⟩)
   .exact hw bd
   .have:=((g.news bx hp).1.lt b<|.inl bd).1;omega
   .have:=((g.news bx hp).1.lt b<|.inr<|.inr bd).1;omega
  have rt:=ae nf;have bb:=(l.aw.block b (am ca) lc).trans ca;by_cases cT:ea<y bv
  .have c:=l.aw.own hS<|λm d=>bs m (by have:=(hS.lt m d).1;omega);obtain⟨t,E,u⟩:∃t,xT=H (R t 0)/\aO wr (R t ea)=H bv[ea].ptr:=by
    rcases c.2 with⟨h2,h0⟩|⟨L,i,nm,h2,_⟩
    .omega
    .cases h2;refine⟨L,rfl,?_⟩;have:=pH c ea bv[ea].ptr (by rw[dP,aI cT];rfl);rwa[du,dp]at this
   subst E;unfold bA.ptr at u;have e1:(ea:Z)<(y bv:Z):=by omega
   rcases aq.xt bv[ea] (ak cT)with h0|⟨bx,hp,f⟩
   .obtain⟨hC,al,n,hm,_⟩:=(l.KP bv[ea] h0).mem;have i:=Cx _ hm;have HM:=U<|l.skip aq cT h0;clear l c bb hm h0 bs;generalize bv[ea].tb=p at*;go_wp2_with fail
    apply i.mono;rintro dT N⟨rfl,D⟩;subst N;clear i;go_wp2;go_roundw;case rel=>exact⟨ea+1,num,X,_,by go_num,rfl,HM⟩
    case measure=>simp[intOf];omega
   .have v:=l.rest bx hp (by rw[f,<-kQ cT];grind);have i:=DQ v.mem;rw[f]at i;have o:=l.write aq cT hp f;have ky:num+1<9223372036854775807:=by have:=l.qR.2;have:=aq.nx;have:=aq.small;omega
    have c2:=bJ.cellAt bb 2 rfl;clear l c bb v bs f hp;generalize bv[ea].tb=p at*;go_wp2_with fail
    apply i.mono;rintro dT N⟨rfl,D⟩;subst N;clear i;go_wp2_with fail
    apply o.mono;rintro dT N⟨rfl,K,F,k⟩;have r:=U k;clear k o;go_wp2;go_roundw;case rel=>exact⟨ea+1,num+1,K,F,by go_num,by go_num,r⟩
    case measure=>simp[intOf];omega
  .have ox:ea=y bv:=by have:=l.le;omega
   rw[ox]at l;have kb:us.map (λbf=>(bf.tb,bf.ks,bf.cs))=(eb++ec++bd++ed).map (λbf=>(bf.tb,bf.ks,bf.cs)):=by rw[l.same,aX,ae hX]
   obtain⟨K,O,W,d',F,no,nv,nO,oc⟩:=Zk kb;obtain⟨ha,hb,np,nq⟩:=jr no;obtain⟨hc,hd,nx,nK⟩:=jr nv;obtain⟨he,hf,nS,ob⟩:=jr nO;obtain⟨hg,hh,od,oi⟩:=jr oc;have hs:∀bm,qS a s.aH b e j bm->∀m,ct bm=H m->¬Wr s.aH j ps m:=by
    rintro bm hv m d(q|⟨bx,hp,q|q⟩)
    .exact(hv m d).2.1 q
    .have v:=(g.news bx hp).1;rcases(hv m d).2.2.2 with L|⟨fL,lj,L⟩
     .have:=(v.lt m<|.inl q).1;omega
     .exact lL L v.mem.box (by decide) q
    .have v:=(g.news bx hp).1;rcases(hv m d).2.2.2 with L|⟨fL,lj,L⟩
     .have:=(v.lt m<|.inr<|.inr q).1;omega
     .obtain⟨nm,ov⟩:=fR v.data (k:=bx.x) rfl;grind
   have bk:I (Wr s.aH j ps) a wr:=(fl.mono (T:=Wr s.aH j ps) cO).trans l.aw<|λ_ q=>.inl q;have t:∀bm(ts c:cf),qS a s.aH b e j bm->Row a 1 bm (y ts) (ts.map bA.ptr)->c.map bA.ptr=ts.map bA.ptr->y c=y ts->Row wr 1 bm (y c) (c.map bA.ptr):=λbm ts c hv la e1 e2=>by
    rw[e1,e2];exact bk.row la<|λm d=>⟨hs bm hv m d,(hv m d).1⟩
   have jK:∀bu∈us,KA wr s.aH bu:=λbu hu=>by
    have fL:∀{w:fA},qC wr s.aH (vw X.files) w bu->KA wr s.aH bu:=λho=>by
     obtain⟨hC,al,n,hm,_⟩:=ho.mem;refine⟨hC,al,n,?_⟩;rw[<-ho.ks]at hm;exact hm
    rcases l.Rs bu hu with q|⟨bx,_,_,q,_⟩
    .exact fL<|l.KP bu q
    .exact fL q
   have en:∀bl,I az wr bl->∀bu∈us,KA bl s.aH bu:=λbl hy bu hu=>by
    obtain⟨hC,al,n,hm⟩:=jK bu hu;exact⟨hC,al,n,hm.di (hy.block _ (am hm.box) id)<|hy.block _ hm.lt.2 id⟩
   have db:∀bm(ts:cf),(∀bf∈ts,bf∈us)->y ts<=1000000->(∀m,ct bm=H m->m<z (G wr))->Row wr 1 bm (y ts) (ts.map bA.ptr)->∀bl,I az wr bl->cD bz 167 #[bm] bl λdT w'=>∃a,dT=aL a/\w'.ownsRow (z<|G bl) 289 4 a (y ts) (dy ts)/\Below (z<|G bl) bl w':=λbm ts fL b d la bl hy=>by
    refine PC bl s.aH bm ts ⟨hy.row la<|λm dT=>⟨id,d m dT⟩,λm dT=>ag (d m dT) hy.size,λbf h=>(en bl hy bf<|fL bf h).UG,by omega⟩ (λbf h=>en bl hy bf<|fL bf h)<|by omega
   have sc:=bk.size;have gc:=db _ K (λbf h=>by rw[F];simp[h]) (by omega) (λm d=>by have:=(g.b0 m d).1;omega)<|t _ eb K g.b0 g.r0 ha hb;have ge:=db _ O (λbf h=>by rw[F];simp[h]) (by omega) (λm d=>by have:=(g.b1 m d).1;omega)<|t _ ec O g.b1 g.r1 hc hd;have gf:=db _ W (λbf h=>by rw[F];simp[h]) (by omega) (λm d=>by have:=(g.b2 m d).1;omega)<|t _ bd W g.b2 g.r2 he hf;have gg:=db _ d' (λbf h=>by rw[F];simp[h]) (by omega) (λm d=>by have:=(g.b3 m d).1;omega)<|t _ ed d' g.b3 g.r3 hg hh;obtain⟨hT,hU,hV,hW⟩:=gH (t _ eb K g.b0 g.r0 ha hb) (t _ ec O g.b1 g.r1 hc hd) (t _ bd W g.b2 g.r2 he hf)<|t _ ed d' g.b3 g.r3 hg hh;have T:=(l.aw.block (z<|G a) (am bT)<|bs _<|ai _).trans bT;have bn:=cellAt T 0 rfl;have bo:=cellAt T 1 rfl;have bp:=cellAt T 2 rfl;have bq:=cellAt T 3 rfl;have qr:=am T;have ky:num+1<9223372036854775807:=by have:=l.qR.2;have:=aq.nx;have:=aq.small;omega
   have pf:IntKind.u64.wrap ((num:Z)+1)=(num:Z)+1:=by rw[gZ];omega
   have e1:¬(ea:Z)<(y bv:Z):=by omega
   obtain⟨HM,hO,hP,hQ,hR,ff,fu⟩:=xV l gc ge gf gg bb bk;obtain⟨cv,hH,HEq,rc,ra,rb⟩:=jX F T (And.intro no (And.intro nv (And.intro nO oc))) bs en hs;clear l db gc ge gf gg bb bk F T no nv nO oc ha hb np nq hc hd nx nK he hf nS ob hg hh od oi t jK en hs bs kb lc;go_wp2_with fail
   obtain⟨c,le⟩:∃c,z (G wr)=c:=⟨_,rfl⟩;obtain⟨W0,kc⟩:∃W0,cF wr (ar #[aJ<|(num:Z)+1,aJ num,aJ bt,aD,aD,aD,aD] 202)=W0:=⟨_,rfl⟩;have gi:W0.heap[c]?=H (ar #[aJ<|(num:Z)+1,aJ num,aJ bt,aD,aD,aD,aD] 202 (0,0)):=by rw[<-kc];exact aB _ le.symm
   have gj:I az wr W0:=by rw[<-kc];exact(cK _ _)
   have ac:=U gi;have fn:=U gj;clear gi gj;have qb:∀bl,(Instr.index 102 (dW #[J x0 (y eb) x,J x1 (y ec) A,J x2 (y bd) B,J x3 (y ed) C])<|ap 0).run bz bl=.ok (J x0 (y eb) x) bl:=λ_=>by kernel_rfl
   have qc:∀bl,(Instr.index 102 (dW #[J x0 (y eb) x,J x1 (y ec) A,J x2 (y bd) B,J x3 (y ed) C])<|ap 1).run bz bl=.ok (J x1 (y ec) A) bl:=λ_=>by kernel_rfl
   have qk:∀bl,(Instr.index 102 (dW #[J x0 (y eb) x,J x1 (y ec) A,J x2 (y bd) B,J x3 (y ed) C])<|ap 2).run bz bl=.ok (J x2 (y bd) B) bl:=λ_=>by kernel_rfl
   have qq:∀bl,(Instr.index 102 (dW #[J x0 (y eb) x,J x1 (y ec) A,J x2 (y bd) B,J x3 (y ed) C])<|ap 3).run bz bl=.ok (J x3 (y ed) C) bl:=λ_=>by kernel_rfl
   refine mr 5 ?_;rw[ku];go_wp2_with fail
   apply(hO W0 fn).mono;rintro dT N⟨m0,rfl,ex,Q⟩;obtain⟨y0,z0,oS⟩:=aA ex;subst oS;have r:I az W0 N:=I.aR Q;have k:=(r.block c (am ac) id).trans ac;have g0:=cellAt k 3 rfl;have f0:=dE (i:=3) k;have p:(cA N (R c 3)<|J y0 (y K) z0).heap[c]?=H (ar #[aJ<|(num:Z)+1,aJ num,aJ bt,(J y0 (y K) z0),aD,aD,aD] 202 (0,0)):=(aT k).trans rfl;have i:I (λm=>m=c) W0 (cA N (R c 3)<|J y0 (y K) z0):=(r.mono (T:=λm=>m=c) cO).setCell _ _ _<|.inl rfl;obtain⟨W1,kd⟩:∃W1,cA N (R c 3) (J y0 (y K) z0)=W1:=⟨_,rfl⟩;rw[kd]at p i;obtain⟨av,fq,ce⟩:=dA p (fn.trans i<|λm d=>.inr<|by omega) (show W1.ownsRow (z<|G W0) 289 4 (J y0 (y K) z0) (y K) (dy K)by rw[<-kd];exact ex.kept (de _ _ _ _)<|.inr (λq=>by have:=(ex.lt _ q).1;have:=am ac;omega));clear p i r k Q ex;go_wp2_with fail
   rw[ku];go_wp2_with fail
   apply(hP W1 fq).mono;rintro dT N⟨m1,rfl,ey,Q⟩;obtain⟨y1,z1,oT⟩:=aA ey;subst oT;have r:I az W1 N:=I.aR Q;have k:=(r.block c (am av) id).trans av;have g1:=cellAt k 4 rfl;have f1:=dE (i:=4) k;have p:(cA N (R c 4)<|J y1 (y O) z1).heap[c]?=H (ar #[aJ<|(num:Z)+1,aJ num,aJ bt,(J y0 (y K) z0),(J y1 (y O) z1),aD,aD] 202 (0,0)):=(aT k).trans rfl;have i:I (λm=>m=c) W1 (cA N (R c 4)<|J y1 (y O) z1):=(r.mono (T:=λm=>m=c) cO).setCell _ _ _<|.inl rfl;obtain⟨W2,kf⟩:∃W2,cA N (R c 4) (J y1 (y O) z1)=W2:=⟨_,rfl⟩;rw[kf]at p i;obtain⟨bg,fr,cl,ch⟩:=gH p (fq.trans i<|λm d=>.inr<|by omega) (show W2.ownsRow (z<|G W1) 289 4 (J y1 (y O) z1) (y O) (dy O)by rw[<-kf];exact ey.kept (de _ _ _ _)<|.inr (λq=>by have:=(ey.lt _ q).1;have:=am av;omega))<|i.own ce (λm d q=>by have:=(ce.lt m d).1;have:=am ac;omega);clear p i r k Q ey;go_wp2_with fail
   rw[ku];go_wp2_with fail
   apply(hQ W2 fr).mono;rintro dT N⟨m2,rfl,ez,Q⟩;obtain⟨y2,z2,pb⟩:=aA ez;subst pb;have r:I az W2 N:=I.aR Q;have k:=(r.block c (am bg) id).trans bg;have g2:=cellAt k 5 rfl;have f2:=dE (i:=5) k;have p:(cA N (R c 5)<|J y2 (y W) z2).heap[c]?=H (ar #[aJ<|(num:Z)+1,aJ num,aJ bt,(J y0 (y K) z0),(J y1 (y O) z1),(J y2 (y W) z2),aD] 202 (0,0)):=(aT k).trans rfl;have i:I (λm=>m=c) W2 (cA N (R c 5)<|J y2 (y W) z2):=(r.mono (T:=λm=>m=c) cO).setCell _ _ _<|.inl rfl;obtain⟨W3,kk⟩:∃W3,cA N (R c 5) (J y2 (y W) z2)=W3:=⟨_,rfl⟩;rw[kk]at p i;obtain⟨cs,fs,co,cj,cm⟩:=je p (fr.trans i<|λm d=>.inr<|by omega) (show W3.ownsRow (z<|G W2) 289 4 (J y2 (y W) z2) (y W) (dy W)by rw[<-kk];exact ez.kept (de _ _ _ _)<|.inr (λq=>by have:=(ez.lt _ q).1;have:=am bg;omega)) (i.own ch (λm d q=>by have:=(ch.lt m d).1;have:=am ac;omega))<|i.own cl (λm d q=>by have:=(cl.lt m d).1;have:=am av;omega);clear p i r k Q ez;go_wp2_with fail
   rw[ku];go_wp2_with fail
   apply(hR W3 fs).mono;rintro dT N⟨m3,rfl,eA,Q⟩;obtain⟨y3,z3,pc⟩:=aA eA;subst pc;have r:I az W3 N:=I.aR Q;have k:=(r.block c (am cs) id).trans cs;have g3:=cellAt k 6 rfl;have f3:=dE (i:=6) k;have p:(cA N (R c 6)<|J y3 (y d') z3).heap[c]?=H (ar #[aJ<|(num:Z)+1,aJ num,aJ bt,(J y0 (y K) z0),(J y1 (y O) z1),(J y2 (y W) z2),(J y3 (y d') z3)] 202 (0,0)):=(aT k).trans rfl;have i:I (λm=>m=c) W3 (cA N (R c 6)<|J y3 (y d') z3):=(r.mono (T:=λm=>m=c) cO).setCell _ _ _<|.inl rfl;obtain⟨W4,kl⟩:∃W4,cA N (R c 6) (J y3 (y d') z3)=W4:=⟨_,rfl⟩;rw[kl]at p i;obtain⟨cu,ad,cq,ck,cn,cp⟩:=jX p (fs.trans i<|λm d=>.inr<|by omega) (show W4.ownsRow (z<|G W3) 289 4 (J y3 (y d') z3) (y d') (dy d')by rw[<-kl];exact eA.kept (de _ _ _ _)<|.inr (λq=>by have:=(eA.lt _ q).1;have:=am cs;omega)) (i.own cj (λm d q=>by have:=(cj.lt m d).1;have:=am ac;omega)) (i.own cm (λm d q=>by have:=(cm.lt m d).1;have:=am av;omega))<|i.own co (λm d q=>by have:=(co.lt m d).1;have:=am bg;omega);clear p i r k Q eA;go_wp2_with fail
   rw[ku];go_wp2_with fail
   have cB:bJ W4 b s m:=(ad.block b (am ff) id).trans ff;have ka:∀f:Y,f.heap=W4.heap->(λ(f:Y)=>aO f (R b 2)=H (ay s.aH)/\aO f (R c 0)=H (aJ<|(num:Z)+1)/\aO f (R c 1)=H (aJ num)/\aO f (R c 2)=H (aJ bt)/\aO f (R c 3)=H (J y0 (y K) z0)/\aO f (R c 4)=H (J y1 (y O) z1)/\aO f (R c 5)=H (J y2 (y W) z2)/\aO f (R c 6)=H (J y3 (y d') z3)) f:=by
    intro f fL;have h1:f.heap[b]?=W4.heap[b]?:=by rw[fL]
    have h2:f.heap[c]?=W4.heap[c]?:=by rw[fL]
    have lj:bJ f b s m:=h1.trans cB;have ov:=h2.trans cu;refine⟨lj.cell rfl,?_,?_,?_,?_,?_,?_,?_⟩<;>(rw[bL ov];rfl)
   have gb:=ka W4.drew rfl;have cb:=U cB;clear ka cB;have lg:cD bz 168 #[ay s.aH,dW #[aJ<|(num:Z)+1,aJ num,aJ bt,J y0 (y K) z0,J y1 (y O) z1,J y2 (y W) z2,J y3 (y d') z3]] W4.drew λdT w'=>dT=aL .nilIface/\∃a,qI W4.drew w' s.aH X a/\vw a.files=tu (vw X.files) (gP,iH ((num:Z)+1) num bt [K,O,W,d'])/\a.eJ=[]:=by
    have l:=ae HM;have F:=ae cv;have lj:I az wr W4.drew:=ad.of_heap rfl;have v:∀bu∈us,bu.oD:=λbu hu=>by
     have hD:∀{w:fA},qC wr s.aH (vw X.files) w bu->bu.oD:=λho=>by
      refine⟨ho.num,by have:=ho.small;omega,?_⟩;have h1:=li<|λm d=>(ho.idx.can m d).fits;have h2:=ho.idx.len;rw[ho.ks];unfold fo;rw[af,cC];omega
     rcases l.Rs bu hu with q|⟨bx,_,_,q,_⟩
     .exact hD<|l.KP bu q
     .exact hD q
    have oy:y K+y O+y W+y d'<=1000000:=by
     have:=l.len;rw[F]at this;grind
    have oB:dX (vw X.files) vf=none:=by
     obtain⟨pv,hq,ov⟩:=l.files;rw[hq,jM];cases q:dX (vw j.files) vf with
     |some gv=>grind
     |none=>
      rw[mz];cases q2:dX pv vf with
      |none=>rfl
      |some gv=>
       obtain⟨bu,_,dT,_⟩:=ov _<|xZ q2;grind[Prod.mk.injEq,Eh]
    have fL:ij (vw X.files)+21000000<=1099511627776:=by
     have h1:=l.qf;have h2:=aq.room;have h3:y bv*200000<=1000000*200000:=kw _ hn;omega
    refine Va s.aH X ((num:Z)+1) num bt y0 y1 y2 y3 z0 z1 z2 z3 K O W d' (λm d=>lj.cell (l.steps m d) id l.steps.lt) (da ck) (da cn) (da cp) (da cq) (λm d=>(ck.lt m d).2) (λm d=>(cn.lt m d).2) (λm d=>(cp.lt m d).2) (λm d=>(cq.lt m d).2) (λbf h=>v bf (by rw[F];simp[h])) (λbf h=>v bf (by rw[F];simp[h])) (λbf h=>v bf (by rw[F];simp[h])) (λbf h=>v bf (by rw[F];simp[h])) (by omega) (by omega) (by omega) oy (l.aH.aw lj<|λ_ _=>id) oB (by have:=l.eJ;have:=aq.eJ;omega) fL
   have nb:=U lg;clear lg;rename_i QQ KK jG;refine cI (λ(f:Y)=>aO f (R b 2)=H (ay s.aH)/\aO f (R c 0)=H (aJ<|(num:Z)+1)/\aO f (R c 1)=H (aJ num)/\aO f (R c 2)=H (aJ bt)/\aO f (R c 3)=H (J y0 (y K) z0)/\aO f (R c 4)=H (J y1 (y O) z1)/\aO f (R c 5)=H (J y2 (y W) z2)/\aO f (R c 6)=H (J y3 (y d') z3)) 6 (by kernel_rfl) ?_;refine cY 0 ?_;iterate 5 (refine eM (v:=?_) gb rfl (by kernel_rfl) iW rfl ?_ ?_;rotate_left;(focus(rintro f⟨s2,q0,q1,q2,q3,q4,q5,q6⟩;go_simp;try rfl));simp only[Act.put,dD,Nat.reduceAdd])
   apply eC;refine aM (i:=5) rfl rfl (by kernel_rfl) ?_;intro K5 jD;go_simp;apply nb.mono;rintro dT w5⟨rfl,hY,eo,ll,kv⟩;have kq:∀m,X.aU s.aH m->m<c:=λm d=>by have:=HM.aH.lt m d;omega
   have hx:¬X.aU s.aH b:=λq=>by
    rcases HM.aU b q with L|L
    .exact hw L
    .have:=am ca;omega
   have hk:bJ w5 b s m:=(eo.aw.block b (am cb) hx).trans cb;have u:w5.heap[c]?=_:=(eo.aw.block c (am cu) (λq=>by have:=kq _ q;omega)).trans cu;obtain⟨ef,fk,au,gt,hN,na⟩:=jX hk u eo ll kv hx;refine jD _ _ (λ_=>⟨hk.cell rfl,(by rw[bL u];rfl),(by rw[bL u];rfl),(by rw[bL u];rfl),(by rw[bL u];rfl),(by rw[bL u];rfl),(by rw[bL u];rfl),(by rw[bL u];rfl)⟩) ?_;clear jD eo ll kv hk u kq hx;try simp only[Act.put,dD]
   refine aM (i:=6) rfl rfl (by kernel_rfl) ?_;intro K6 jE;go_simp;refine jE _ _ (λq=>(q rfl).elim) ?_;refine cW (by kernel_rfl) ?_ _;show KK _ _;apply jG;clear jG jE gb;have l:=ae HM;have ln:z (G a)<z (G w1):=am bT;have qx:=l.aw.size;have ao:I (X.aU s.aH) wr w5:=(ad.mono (T:=X.aU s.aH) cO).trans ((ci (X.aU s.aH) W4).trans au.aw<|λ_ q=>.inl q)<|λ_ q=>.inl q;have eB:∀m,m<z (G w1)->¬j.aU s.aH m->¬X.aU s.aH m:=λm h1 h2 q=>(l.aU m q).elim h2 (λL=>by omega);have cM:∀m,m<z (G w1)->¬j.aU s.aH m->w5.heap[m]?=wr.heap[m]?:=λm h1 h2=>ao.block m (by omega)<|eB m h1 h2;have os:=g.le;have oL:∀bx∈ps,∀m,bx.has m->m<z (G w1)/\¬j.aU s.aH m:=λbx hp m d=>by
    have h1:=(g.news bx hp).1.lt m d;exact⟨by omega,λq=>by have:=g.aU m q;omega⟩
   have kz:∀m,KI s.aH b e j m->m<z (G w1)/\¬j.aU s.aH m:=λm d=>⟨by have:=d.1;omega,d.2.1⟩;have jI:∀{w:fA}{bu:bA},qC wr s.aH (vw X.files) w bu->(∀m,w m->m<z (G w1)/\¬j.aU s.aH m)->NR w5 bu:=λho fL=>by
    obtain⟨hC,al,n,hm,lj⟩:=(ho.Tq<|λm d=>cM m (fL m d).1 (fL m d).2).mem;exact⟨ho.num,_,_,_,_,hC,al,n,_,hm⟩
   have hj:∀bf∈a0++b0++c0++d0,NR w5 bf:=λbf h0=>jI (l.KP bf h0) kz;have jH:∀bu∈K++O++W++d',NR w5 bu:=λbu hu=>by
    rw[<-ae cv]at hu;rcases l.Rs bu hu with q|⟨bx,hp,_,q,_⟩
    .exact hj bu q
    grind
   have fx:DB w5 b 10 [(s.l0,a0),(s.l1,b0),(s.l2,c0),(s.l3,d0)]:=by
    refine cd.aw (S:=λm=>Wr s.aH j ps m\/X.aU s.aH m) ((fu.mono (T:=λm=>Wr s.aH j ps m\/X.aU s.aH m)<|λ_ q=>.inl<|.inl q).trans ao<|λ_ q=>.inl<|.inr q) ?_ ?_
    .rintro(q|q)
     .rcases q with L|⟨bx,hp,L|L⟩
      .exact hw L
      .have:=((g.news bx hp).1.lt b<|.inl L).1;omega
      .have:=((g.news bx hp).1.lt b<|.inr<|.inr L).1;omega
     grind
    .intro gk lj k' br q;have fL:KI s.aH b e j k':=by
      have:gk=0\/gk=1\/gk=2\/gk=3:=by grind
      rcases this with rfl|rfl|rfl|rfl
      .exact eg _ (.inl rfl) k' br
      .exact eg _ (.inr<|.inl rfl) k' br
      .exact eg _ (.inr<|.inr<|.inl rfl) k' br
      .exact eg _ (.inr<|.inr<|.inr rfl) k' br
     rcases q with L|L
     .rcases L with L|⟨bx,hp,L|L⟩
      .simp_all
      .have:=((g.news bx hp).1.lt k'<|.inl L).1;have:=fL.1;omega
      .have:=((g.news bx hp).1.lt k'<|.inr<|.inr L).1;have:=fL.1;omega
     simp_all
   have P:∀bm(ts:cf),qS a s.aH b e j bm->Row wr 1 bm (y ts) (ts.map bA.ptr)->Row w5 1 bm (y ts) (ts.map bA.ptr)/\∀m,ct bm=H m->m<z (G w5):=λbm ts hv la=>
    ⟨ao.row la<|λm d=>⟨eB m (by have:=(hv m d).1;omega) (hv m d).2.1,by have:=(hv m d).1;omega⟩,λm d=>by have:=(hv m d).1;have:=ao.size;omega⟩
   have q0:=P _ K g.b0 hT;have q1:=P _ O g.b1 hU;have q2:=P _ W g.b2 hV;have q3:=P _ d' g.b3 hW;have qs:y (K++O++W++d')<=1000000:=by rw[<-ae cv,l.len];exact hn
   have dk:Pow w5:=l.pow.di<|cM _ (by have:=g.mi.1;omega) g.mi.2.1;have dd:=JC a0 b0 c0 d0 K O W d' ef fx q0.1 q1.1 q2.1 q3.1 q0.2 q1.2 q2.2 q3.2 hj jH dk oA (by omega) (by omega);have an:=(cM (z<|G a) ln (λq=>by have:=g.aU _ q;omega)).trans hH;have bn:=cellAt an 0 rfl;have bo:=cellAt an 1 rfl;have bp:=cellAt an 2 rfl;have bq:=cellAt an 3 rfl;rw[<-ae cv]at dd;obtain⟨mC,ax,fe,mK⟩:=gH cM ao an eB;clear l eB cM jI hj jH fx P q0 q1 q2 q3 dk an ao oL kz;go_wp2_with fail
   apply dd.mono;rintro dT w6⟨v6,rfl,fb,dv⟩;obtain⟨ns,dc⟩:∃ns,pL s (a0++b0++c0++d0) us=ns:=⟨_,rfl⟩;rw[dc]at fb;obtain⟨x6,c6,pd⟩:=aA fb;subst pd;have o:bJ w6 b s m:=(dv.block b (am ef) id).trans ef;have dn:w6.heap[c]?=_:=(dv.block c (am fk) id).trans fk;have ba:w6.heap[z<|G a]?=_:=(dv.block (z<|G a) (am fe) id).trans fe;obtain⟨lx,lv,es⟩:=bM (cd.row 0<|by simp);obtain⟨mc,mb,et⟩:=bM (cd.row 1<|by simp);obtain⟨me,md,eu⟩:=bM (cd.row 2<|by simp);obtain⟨mm,mg,ev⟩:=bM (cd.row 3<|by simp);simp only[bQ,bF]at es et eu ev;obtain⟨hI,hJ,hK,hM⟩:=gH es et eu ev;have k7:aO w6 (R b 7)=H (J ry rx rv):=by rw[<-ae mI];exact o.cell rfl
   have k8:=bJ.cellAt o 8 rfl;have k9:=bJ.cellAt o 9 rfl;have lo:aO w6 (R b 10)=H (J lx (y a0) lv):=by rw[<-es];exact o.cell rfl
   have lp:aO w6 (R b 11)=H (J mc (y b0) mb):=by rw[<-et];exact o.cell rfl
   have lr:aO w6 (R b 12)=H (J me (y c0) md):=by rw[<-eu];exact o.cell rfl
   have ls:aO w6 (R b 13)=H (J mm (y d0) mg):=by rw[<-ev];exact o.cell rfl
   have lt:=bJ.cellAt o 14 rfl;have pj:=bJ.cellAt o 17 rfl;have pk:=bJ.cellAt o 18 rfl;have pn:=bJ.cellAt o 19 rfl;have pp:=bJ.cellAt o 20 rfl;have pr:=bJ.cellAt o 21 rfl;have fz:∀gk,w6.frozen? (R b gk)=aY:=λgk=>o.free;have f7:=fz 7;have f8:=fz 8;have f9:=fz 9;have ih:=fz 10;have il:=fz 11;have ip:=fz 12;have it:=fz 13;have iu:=fz 14;have oj:=fz 15;have ol:=fz 16;have om:=fz 17;have on:=fz 18;have op:=fz 19;have bn:=cellAt ba 0 rfl;have bo:=cellAt ba 1 rfl;have bp:=cellAt ba 2 rfl;have bq:=cellAt ba 3 rfl;have t0:=cellAt dn 0 rfl;have t1:=cellAt dn 1 rfl;have n1:z (G a)≠b:=by omega
   have n2:c≠b:=by omega
   have n3:b≠z (G a):=by omega
   have n4:b≠c:=by omega
   obtain⟨mp,ei,nc,gn⟩:=gH o fb dv dc;clear o dn ba fb dv fz es et eu ev dd dc;go_wp2_with fail
   rename_i re nl fv;obtain⟨V,ej⟩:∃V,cA (cA (cA w6 (R b 7) aD) (R b 8)<|ap 0) (R b 9) (aJ bt)=V:=⟨_,rfl⟩;have D:bJ V b {s with memory:=aD,gK:=0,aW:=bt} m:=by rw[<-ej];exact(aT<|aT<|aT mp).trans rfl
   have bc:I (λm=>m=b) w6 V:=by rw[<-ej];exact((gW b w6).setCell _ _ _<|.inl rfl).setCell _ _ _<|.inl rfl
   have bn:aO V (R (z<|G a) 0)=H (J x0 (y eb) x):=bc.cell bn n1<|nh bn;have bo:aO V (R (z<|G a) 1)=H (J x1 (y ec) A):=bc.cell bo n1<|nh bo;have bp:aO V (R (z<|G a) 2)=H (J x2 (y bd) B):=bc.cell bp n1<|nh bp;have bq:aO V (R (z<|G a) 3)=H (J x3 (y ed) C):=bc.cell bq n1<|nh bq;have t0:aO V (R c 0)=H (aJ<|(num:Z)+1):=bc.cell t0 n2<|nh t0;have t1:aO V (R c 1)=H (aJ num):=bc.cell t1 n2<|nh t1;have lo:aO V (R b 10)=H (J lx (y a0) lv):=by rw[<-ae hI];exact D.cell rfl
   have lp:aO V (R b 11)=H (J mc (y b0) mb):=by rw[<-ae hJ];exact D.cell rfl
   have lr:aO V (R b 12)=H (J me (y c0) md):=by rw[<-ae hK];exact D.cell rfl
   have ls:aO V (R b 13)=H (J mm (y d0) mg):=by rw[<-ae hM];exact D.cell rfl
   have lt:=bJ.cellAt D 14 rfl;have ih:V.frozen? (R b 10)=aY:=D.free;have il:V.frozen? (R b 11)=aY:=D.free;have ip:V.frozen? (R b 12)=aY:=D.free;have it:V.frozen? (R b 13)=aY:=D.free;have iu:V.frozen? (R b 14)=aY:=D.free;have ms:=U D;have gr:=U bc;rw[ej];clear ej D bc;apply GL nl
   .intro fL;go_region
    all_goals exact fL
   refine fv _ _ ?_;clear fv;obtain⟨W8,ek⟩:∃W8,(cA (cA (cA (cA (cA V (R b 10)<|J x0 (y eb) x) (R b 11)<|J x1 (y ec) A) (R b 12)<|J x2 (y bd) B) (R b 13)<|J x3 (y ed) C) (R b 14)<|aJ<|(num:Z)+1).drew=W8:=⟨_,rfl⟩;have E:bJ W8 b {s with memory:=aD,gK:=0,aW:=bt,l0:=J x0 (y eb) x,l1:=J x1 (y ec) A,l2:=J x2 (y bd) B,l3:=J x3 (y ed) C,next:=num+1} m:=by
    rw[<-ek];exact(aT<|aT<|aT<|aT<|aT ms).trans rfl
   have hA:I (λm=>m=b) V W8:=by
    rw[<-ek];exact(((((gW b V).setCell _ _ _<|.inl rfl).setCell _ _ _<|.inl rfl).setCell _ _ _<|.inl rfl).setCell _ _ _<|.inl rfl).cr<|ci az _
   have t1:aO W8 (R c 1)=H (aJ num):=hA.cell t1 n2<|nh t1;have pj:=bJ.cellAt E 17 rfl;have pk:=bJ.cellAt E 18 rfl;have pn:=bJ.cellAt E 19 rfl;have pp:=bJ.cellAt E 20 rfl;have pr:=bJ.cellAt E 21 rfl;have oj:W8.frozen? (R b 17)=aY:=E.free;have ol:W8.frozen? (R b 18)=aY:=E.free;have om:W8.frozen? (R b 19)=aY:=E.free;have on:W8.frozen? (R b 20)=aY:=E.free;have op:W8.frozen? (R b 21)=aY:=E.free;have mv:=U E;have gs:=U hA;rw[ek];clear ek E hA lo lp lr ls lt k7 k8 k9 f7 f8 f9 ih il ip it iu bn bo bp bq t0;go_wp2_with fail
   obtain⟨W9,el⟩:∃W9,cA (cA (cA (cA (cA W8 (R b 17)<|aJ num) (R b 18)<|aK aY) (R b 19)<|aK aY) (R b 20)<|aK aY) (R b 21) (aK aY)=W9:=⟨_,rfl⟩;have hl:bJ W9 b (s.settled (J x0 (y eb) x) (J x1 (y ec) A) (J x2 (y bd) B) (J x3 (y ed) C) bt num) m:=by
    rw[<-el];exact(aT<|aT<|aT<|aT<|aT mv).trans rfl
   have fd:I (λm=>m=b) W8 W9:=by
    rw[<-el];exact((((gW b W8).setCell _ _ _<|.inl rfl).setCell _ _ _<|.inl rfl).setCell _ _ _<|.inl rfl).setCell _ _ _<|.inl rfl
   have ds:I (λm=>m=b) w5 W9:=((nc.mono (T:=λm=>m=b) cO).trans (gr.trans (gs.trans fd<|λ_ q=>.inl q)<|λ_ q=>.inl q)<|λ_ q=>.inl q);rw[el];have eF:=ae gn;have eq:=mA us;rw[eF]at eq;have dm:¬hY.aU s.aH b:=λq=>by
    rcases au.aU b q with L|L
    .exact na L
    .have:=am cb;simp at L;omega
   have jC:cQ W9 s.aH hY:=au.ok.aw ds (λm d q=>by rw[q]at d;exact dm d);have lb:=EC (J x6 (y ns) c6) ns hl jC dm (da<|((gr.trans (gs.trans fd<|λ_ q=>.inl q)<|λ_ q=>.inl q)).own ei (λm d q=>by have:=(ei.lt m d).1;have:=am ef;omega)) (λea a=>⟨ag (ei.lt ea a).2<|((gr.trans (gs.trans fd<|λ_ q=>.inl q)<|λ_ q=>.inl q)).size,λq=>by have h1:=(ei.lt ea a).1;have h2:=au.ok.lt ea q;omega⟩) eq.1 (λdx ov=>by
    obtain⟨lj,gv,fL⟩:=eq.2 dx ov;obtain⟨pv,hq,_⟩:=HM.files;refine⟨gv,?_⟩;rw[ae gt,vD,dr (λq=>lj q.symm),hq,jM,fL];rfl) (by
    rw[ae hN];have:y ns<=1+y (a0++b0++c0++d0):=by
     rw[<-eF];unfold pL;rw[af,cV];have h1:y (nD (a0++b0++c0++d0) us)<=y (a0++b0++c0++d0):=eK _ _;split<;>simp<;>simp at h1<;>omega
    grind)
   have hE:=U hl;have bh:=U ds;clear hl fd ds jC eq eF el;apply lb.mono;rintro dT w'⟨rfl,K8,ko,lm,kx⟩;obtain⟨cc,ne,mE⟩:=dA ko lm kx;clear ko lm kx lb;go_wp2;go_ret;refine⟨rfl,w1,wr,X,K8,us,K,O,W,d',num,fl,?_,cv,HEq.1,HEq.2.1,HEq.2.2.1,HEq.2.2.2,?_,cc.ok,?_,?_,?_,?_,?_,?_⟩
   .rw[ae hX];exact HM
   .exact(cc.aw.block b (am hE) dm).trans hE
   .rw[ae ne,ae gt,ae gn]
   .rw[<-ae gt];exact au.ok.nodup
   .rw[ae mE,ae hN,ae gn];simp
   .intro k' h1 h2 h3;have g1:w5.heap[k']?=wr.heap[k']?:=mC k' (by omega) h2;have g2:W9.heap[k']?=w5.heap[k']?:=bh.block k' (by have:=ax.size;omega) h3;refine(cc.aw.block k' (by have:=ax.size;have:=bh.size;omega)<|λq=>?_).trans<|g2.trans g1;rcases au.aU k' q with L|L
    .exact mK k' (by omega) h2 L
    .have:=ad.size;simp at L;omega
   .have pi:=ax.size;have pg:=ad.size;have fL:∀mn,X.aU s.aH mn->(Wr s.aH j ps mn\/mn=b)\/z (G a)<=mn:=λmn hD=>by
     rcases HM.aU mn hD with L|L
     .exact .inl<|.inl<|.inl L
     grind
    refine(((fu.mono (T:=λm=>Wr s.aH j ps m\/m=b)<|λ_ q=>.inl<|.inl q).trans ax fL).trans bh<|λ_ q=>.inl<|.inr q).trans cc.aw<|λmn hD=>?_;rcases au.aU mn hD with L|L
    .exact fL mn L
    .simp at L;grind
   .intro k' br;have pi:=ax.size;have pg:=ad.size;have fL:=bh.size;rcases cc.aU k' br with L|L
    .rcases au.aU k' L with L|L
     .rcases HM.aU k' L with L|L
      .exact .inl L
      grind
     .simp at L;grind
    grind
def Vb(h:i.map (λO=>(O.tb,O.ks,O.cs))=o.map (λO=>(O.tb,O.ks,O.cs)))(b:O∈i):∃u∈o,O.tb=u.tb/\O.ks=u.ks/\O.cs=u.cs:=by
 have a:(O.tb,O.ks,O.cs)∈o.map (λO=>(O.tb,O.ks,O.cs)):=by rw[<-h];grind
 grind
def BD(h:i.map (λt=>(t.tb,t.ks,t.cs))=o.map (λt=>(t.tb,t.ks,t.cs)))(a:kp o):kp i:=by
 refine⟨λt d=>?_,by rw[(jr h).2.2.2];exact a.mh,by rw[(jr h).2.2.1];exact a.Dz⟩;obtain⟨u,e,_,b,c⟩:=Vb h d;rw[b,c];exact a.pure u e
def Sf{e f g h:cf}(a:i.map (λt=>(t.tb,t.ks,t.cs))=e.map (λt=>(t.tb,t.ks,t.cs)))(b:o.map (λt=>(t.tb,t.ks,t.cs))=f.map (λt=>(t.tb,t.ks,t.cs)))(c:r.map (λt=>(t.tb,t.ks,t.cs))=g.map (λt=>(t.tb,t.ks,t.cs)))(d:s.map (λt=>(t.tb,t.ks,t.cs))=h.map (λt=>(t.tb,t.ks,t.cs))):bV i o r s=bV e f g h:=by
 unfold bV;rw[(jr a).2.2.1,(jr b).2.2.2,(jr c).2.2.2,(jr d).2.2.2]
def C4(e f g h a b c d:cf):Prop:=a.map bA.all=e.map bA.all/\b.map bA.all=f.map bA.all/\c.map bA.all=g.map bA.all/\d.map bA.all=h.map bA.all
structure YP(w w':Y)(sb:M)(s:SR)(k:Z)(n C:M)(K:DK)(v0 v1 v2 v3:aa)(a b c d:cf)(K':DK)(num:M)(a' b' c' d':cf):Prop where
 box:bJ w' sb (s.settled v0 v1 v2 v3 n num) k
 st:ST w' sb (s.settled v0 v1 v2 v3 n num) K' [] a' b' c' d' C
 qF:Uu (vw K'.files) (num+1) num n a' b' c' d' aY []
 rows:bV a' b' c' d'=bV a b c d
 EW:((a'++b'++c'++d').map bA.tb).Nodup
 eJ:y K'.eJ<=1000001
 num:s.next<=num/\num<=s.next+1000000
 aU:∀k,K'.aU s.aH k->K.aU s.aH k\/z (G w)<=k
 al:C4 a b c d a' b' c' d'
def Qm(d cq cm bm:M)(ps:cw NT)(v0 v1 v2 v3:aa)(bo bp bn bq k l o p:cf)(bl:dL)(cM:bJ a b n m)(c:LS a n.aH b d j (k++l++o++p) ps cq v0 v1 v2 v3 bo bp bn bq)(bx:DB a b 10 [(n.l0,k),(n.l1,l),(n.l2,o),(n.l3,p)])(hd:cQ a n.aH j)(bi:¬j.aU n.aH b)(F:Uu (vw j.files) n.next n.log bm k l o p n.gE bl)(cd:y (lM ((bm:Z)+1) bl)<=200000)(hn:cm<1000000000000000)(cv:n.next<=900000000000000)(ca:y j.eJ<=10000000000)(bh:y (k++l++o++p)<=1000000)(bf:∃db cm bn,n.memory=J db cm bn)(bv:∀aq,aq=n.l0\/aq=n.l1\/aq=n.l2\/aq=n.l3->∀m,ct aq=H m->KI n.aH b d j m):cD bz 101 #[ay b,dW #[v0,v1,v2,v3],aJ cm] a λX L=>X=aL .nilIface/\∃K' num a' b' c' d',YP a L b n m cm cq j v0 v1 v2 v3 bo bp bn bq K' num a' b' c' d'/\I (λm=>Wr n.aH j ps m\/m=b) a L:=by
 have cn:=c.count;have W:∀t∈k++l++o++p,t.num<n.next:=λt e=>(F.low t e).1;have bk:=F.total hd.nodup cd bh;have bd:∀t∈k++l++o++p,∀v∈k++l++o++p,t.num=v.num->t=v:=by intro t e v S X;obtain⟨cT,B,rfl⟩:=gq.1 e;obtain⟨cE,hj,rfl⟩:=gq.1 S;have hn:=cN.1 F.yW;grind
 have P:∀E,n.next<=E->dX (vw j.files) (fC E)=none:=by
  intro E A;cases q:dX (vw j.files) (fC E)with
  |none=>rfl
  |some bs=>
   rcases F.names _ _ q with X|⟨X,_⟩|⟨t,e,X⟩
   .grind[vY]
   .grind[mZ]
   grind[sS]
 have br:∀g,I az a g->CF g n.aH b d j (k++l++o++p) ps (bo++bp++bn++bq) n.next 201000000000:=λg e=>{le:=aC c.le e.size,aU:=c.aU,Gw:=c.Gw,xt:=λt f=>(by simp only[aE]at f;rcases f with((q|q)|q)|q<;>first|exact c.x0 t q|exact c.x1 t q|exact c.x2 t q|exact c.x3 t q),nodup:=c.nodup,apart:=c.apart,news:=λau C=>⟨(c.news au C).1.aw e<|λ_ _ q=>q,(c.news au C).2⟩,inj:=bd,low:=W,fresh:=P,fw:=c.fw,mi:=c.mi,small:=by grind,nx:=by omega,room:=by omega,qf:=bk,eJ:=ca}
 have x:∀i,(pL n (k++l++o++p) i).Nodup/\∀E∈pL n (k++l++o++p) i,E≠gP/\∃bs,dX (vw j.files) E=H bs:=by
  intro i;have B:(nD (k++l++o++p) i).Sublist (k++l++o++p):=fa;have ax:((nD (k++l++o++p) i).map<|λt=>fC t.num).Nodup:=by
   have h:((nD (k++l++o++p) i).map bA.num).Nodup:=F.yW.sublist<|B.map _;unfold List.Nodup at h|-;rw[jp]at h|-;grind[sS]
  have O:∀E∈(nD (k++l++o++p) i).map (λt=>fC t.num),E≠gP/\∃bs,dX (vw j.files) E=H bs:=by
   intro E A;obtain⟨t,e,rfl⟩:=bW.1 A;exact⟨vY _,_,F.wT t<|B.subset e⟩
  unfold pL;cases an:n.gE with
  |false=>
   rw[dr (by simp),cU];grind
  |true=>
   rw[dz rfl];refine⟨?_,λE A=>?_⟩
   .rw[jU,kK];grind[mZ]
   .rcases aE.1 A with q|q
    .rw[cX]at q;rw[q];exact⟨sq _,_,F.log an⟩
    .exact O E q
 refine(Nt d cq cm 201000000000 ps v0 v1 v2 v3 bo bp bn bq k l o p cM c br bx hd bi hn (by have:=F.lt;omega) bh (λE bs A X=>?_) bf bv x).mono ?_;rcases F.names _ _ A with q|⟨q,_⟩|⟨t,_,q⟩;exact Jk<|q.symm.trans X;(grind[Pv]);grind[Eh]
 rintro X L⟨rfl,w1,wr,KR,K8,i,a',b',c',d',num,ce,V,r,ea,eb,ec,ed,bt,bu,ao,bg,bT,al,Q,ad⟩;have cB:=ce.size;have cu:=c.le;have co:=c.Gw;have cb:∀aq,qS a n.aH b d j aq->∀m,ct aq=H m->¬(Wr n.aH j ps m\/m=b):=by rintro aq K m g(q|q);(rcases q with q|⟨au,C,q|q⟩;exact(K m g).2.1 q;have B:=(c.news au C).1;rcases(K m g).2.2.2 with av|⟨O,fr,av⟩;have:=(B.lt m<|.inl q).1;omega;exact lL av B.mem.box (by decide) q;have B:=(c.news au C).1;rcases(K m g).2.2.2 with av|⟨O,fr,av⟩;have:=(B.lt m<|.inr<|.inr q).1;omega;obtain⟨ax,hc⟩:=fR B.data (k:=au.x) rfl;grind);exact(K m g).2.2.1 q
 have w:∀m,m<z (G a)->¬j.aU n.aH m->m≠b->Aside L K8 n.aH b m:=λm h N B=>
  ⟨ag h Q.size,λq=>(ad m q).elim N (λav=>by omega),B⟩
 have f:∀m,KI n.aH b d j m->m<z (G a)/\¬j.aU n.aH m/\m≠b:=λm g=>⟨by have:=g.1;omega,g.2.1,g.2.2⟩;have cx:∀au∈ps,∀m,au.has m->m<z (G a)/\¬j.aU n.aH m/\m≠b:=λau C m g=>by have h:=(c.news au C).1.lt m g;exact⟨h.2,λq=>by have:=c.aU m q;omega,by omega⟩
 have u:∀v∈i,fC v.num∉pL n (k++l++o++p) i:=by intro v S q;unfold pL at q;rcases aE.1 q with av|av;(grind[mem_singleton,mZ]);obtain⟨t,e,X⟩:=bW.1 av;have e2:=sS X;unfold nD at e;rw[dZ]at e;have:i.any (λv=>v.num==t.num)=bU:=oa.2 ⟨v,S,by rw[e2];grind⟩;rw[this]at e;simp at e
 have ba:∀E,E∉pL n (k++l++o++p) i->E≠gP->dX (vw K8.files) E=dX (vw KR.files) E:=λE h N=>by rw[ao,tD h,vD,dr<|λq=>N q.symm]
 have ac:∀v∈i,∃cp:M->Prop,qC wr n.aH (vw KR.files) cp v/\(∀m,cp m->m<z (G a)/\¬j.aU n.aH m/\m≠b)/\v.num<num:=λv S=>by rcases V.Rs v S with q|⟨au,C,_,q,_,B⟩;exact⟨_,V.KP v q,f,by have:=W v q;have:=V.qR.1;omega⟩;grind
 have hO:∀v∈i,qC L n.aH (vw K8.files) (Aside L K8 n.aH b) v:=λv S=>by obtain⟨cp,ho,O,_⟩:=ac v S;have h:=ho.Tq (w':=L)<|λm g=>al m (O m g).1 (O m g).2.1 (O m g).2.2;obtain⟨bb,ax,B,A,ha⟩:=h.mem;refine⟨⟨bb,ax,B,A,w bb (O bb ha).1 (O bb ha).2.1 (O bb ha).2.2⟩,w _ (O _ h.loc).1 (O _ h.loc).2.1 (O _ h.loc).2.2,h.ks,h.num,h.pure,h.idx,h.small,?_⟩;rw[ba _ (u v S)<|vY _];exact h.file
 have cc:num<=n.next+1000000:=by have:=V.qR.2;grind
 have s:∀aq(f c:cf),qS a n.aH b d j aq->Row a 1 aq (y f) (f.map bA.ptr)->c.map (λt=>(t.tb,t.ks,t.cs))=f.map (λt=>(t.tb,t.ks,t.cs))->(∀t∈c,t∈i)->Gf L K8 n.aH b aq c:=λaq f c K hr he B=>by obtain⟨O,e2,_,_⟩:=jr he;refine⟨?_,λm g=>w m (K m g).1 (K m g).2.1 (K m g).2.2.1,λt e=>hO t<|B t e⟩;rw[O,e2];exact Q.row hr<|λm g=>⟨cb aq K m g,(K m g).1⟩
 have bc:∀m,KI n.aH b d j m->L.heap[m]?=a.heap[m]?:=λm g=>Q.block m (by have:=g.1;omega) (by
  rintro(q|q)
  .rcases q with q|⟨au,C,q|q⟩
   .exact g.2.1 q
   .have:=((c.news au C).1.lt m<|.inl q).1;have:=g.1;omega
   .have:=((c.news au C).1.lt m<|.inr<|.inr q).1;have:=g.1;omega
  grind)
 have ch:∀t∈a',t∈i:=λt e=>by rw[r];simp[e]
 have cj:∀t∈b',t∈i:=λt e=>by rw[r];simp[e]
 have ck:∀t∈c',t∈i:=λt e=>by rw[r];simp[e]
 have cl:∀t∈d',t∈i:=λt e=>by rw[r];simp[e]
 have D:=V.same;rw[aX]at D;refine⟨rfl,K8,num,a',b',c',d',⟨bt,?_,?_,Sf ea eb ec ed,?_,?_,⟨V.qR.1,cc⟩,ad,(jr ea).2.2.1,(jr eb).2.2.1,(jr ec).2.2.1,(jr ed).2.2.1⟩,Q⟩;exact{mem:=⟨rfl,.inl ⟨rfl,rfl⟩⟩,tg:=λm g=>(by cases g),l0:=s v0 bo a' c.b0 c.r0 ea ch,l1:=s v1 bp b' c.b1 c.r1 eb cj,l2:=s v2 bn c' c.b2 c.r2 ec ck,l3:=s v3 bq d' c.b3 c.r3 ed cl,aH:=bu,qZ:=λq=>(ad b q).elim bi (λav=>by omega),kC:=⟨λcE hj=>(cR (w:=a)<|bc _ c.fw).trans<|c.steps cE hj,c.pow.di<|bc _ c.mi,w _ (f _ c.fw).1 (f _ c.fw).2.1 (f _ c.fw).2.2,w _ (f _ c.mi).1 (f _ c.mi).2.1 (f _ c.mi).2.2⟩,qf:=(by rw[(jr ea).2.2.2,(jr eb).2.2.2,(jr ec).2.2.2,(jr ed).2.2.2];have:=c.qf;grind),lV:=c.lV,mh:=dM.nil,iX:=by simp,s1:=BD eb c.s1,s2:=BD ec c.s2,s3:=BD ed c.s3}
 .have B:∀t∈a'++b'++c'++d',t.num<num:=λt e=>by
   rw[<-r]at e;grind
  refine{names:=?_,state:=.inl ?_,log:=λq=>(by cases q),Ie:=λ_=>rfl,wT:=?_,yW:=by rw[<-r];exact V.yW,low:=λt e=>⟨by have:=B t e;omega,by have:=B t e;omega⟩,lt:=by omega,iX:=?_}
  .intro E bs A;rw[ao]at A;obtain⟨h,N⟩:=PS bg A;rw[vD]at N;by_cases q:gP=E
   .grind
   rw[dr q]at N;obtain⟨gs,O,ax⟩:=V.files;rw[O,jM]at N;cases av:dX (vw j.files) E with
   |none=>
    rw[av,mz]at N;obtain⟨v,S,X,_⟩:=ax _<|xZ N;grind
   |some cs=>
    rcases F.names _ _ av with X|⟨X,an⟩|⟨t,e,X⟩
    .grind
    .refine absurd ?_ h;unfold pL;rw[an,dz rfl,X];simp
    .by_cases bb:i.any (λv=>v.num==t.num)=bU
     .grind
     .refine absurd ?_ h;unfold pL;rw[X];refine aE.2<|.inr<|bW.2 ⟨t,?_,rfl⟩;unfold nD;rw[dZ];grind
  .rw[ao,tD<|λq=>((x i).2 _ q).1 rfl,vD,dz rfl];rfl
  .intro t e;rw[<-r]at e;exact(hO t e).file
  .intro t e;rw[<-r]at e;have:=hO t e;exact⟨this.ks,this.pure,this.idx,this.small,this.num⟩
 rw[<-r,VL (T:=bo++bp++bn++bq) (i:=y<|bo++bp++bn++bq) (by rw[aX];exact D),aX];exact c.nodup;rw[bT];unfold pL;rw[af,cV];have h:y (nD (k++l++o++p) i)<=y (k++l++o++p):=eK _ _;grind
def sE(h:Aside a j b c g):KI b c (z<|G a) j g:=⟨h.lt,h.aU,h.ne⟩
def qC.Oe{f:Fs}{B:fA}(h:qC a b f X O)(e:∀k,X k->B k):qC a b f B O:=by
 obtain⟨g,d,c,j,i⟩:=h.mem;exact⟨⟨g,d,c,j,e _ i⟩,e _ h.loc,h.ks,h.num,h.pure,h.idx,h.small,h.file⟩
def ST.k6{C C':M}(h:ST a b n j e i o r s C)(l:b<z (G a))(f:((i++o++r++s).map bA.tb).Nodup)(m:y (cg i)+y (cg o)+y (cg r)+y (cg s)<=C')(g:C'<=1000000):LS a n.aH b (z<|G a) j (i++o++r++s) [] C' n.l0 n.l1 n.l2 n.l3 i o r s where
 D:=h.Pj
 le:=ai _
 aU:=h.aH.lt
 Gw:=l
 steps:=h.kC.steps
 pow:=h.kC.pow
 fw:=sE h.kC.fw
 mi:=sE h.kC.mi
 tM:=λt d=>by
  simp only[aE]at d;rcases d with((q|q)|q)|q
  .exact(h.l0.each t q).Oe<|λ_=>sE
  .exact(h.l1.each t q).Oe<|λ_=>sE
  .exact(h.l2.each t q).Oe<|λ_=>sE
  .exact(h.l3.each t q).Oe<|λ_=>sE
 news:=by simp
 apart:=List.Pairwise.nil
 r0:=h.l0.row
 r1:=h.l1.row
 r2:=h.l2.row
 r3:=h.l3.row
 b0:=λk c=>⟨(h.l0.loc k c).lt,(h.l0.loc k c).aU,(h.l0.loc k c).ne,.inl (h.l0.loc k c).lt⟩
 b1:=λk c=>⟨(h.l1.loc k c).lt,(h.l1.loc k c).aU,(h.l1.loc k c).ne,.inl (h.l1.loc k c).lt⟩
 b2:=λk c=>⟨(h.l2.loc k c).lt,(h.l2.loc k c).aU,(h.l2.loc k c).ne,.inl (h.l2.loc k c).lt⟩
 b3:=λk c=>⟨(h.l3.loc k c).lt,(h.l3.loc k c).aU,(h.l3.loc k c).ne,.inl (h.l3.loc k c).lt⟩
 x0:=λt d=>.inl<|by simp[d]
 x1:=λt d=>.inl<|by simp[d]
 x2:=λt d=>.inl<|by simp[d]
 x3:=λt d=>.inl<|by simp[d]
 nodup:=f
 s1:=h.s1
 s2:=h.s2
 s3:=h.s3
 qf:=m
 lV:=g
def LS.ZS{C m:aa}{w:cf}{p:NT}(h:LS a b c g j i [] l d u N C o r s w)(B:I az a f)(A:p.Ok f (z<|G a))(v:NS p.t)(x:f.ownsRow (z<|G a) 142 1 m (y<|o++[p.t]) ((o++[p.t]).map bA.ptr))(F:y (cg o)+y (cg r)+y (cg s)+y (cg w)+y p.t.all<=l):LS f b c g j i [p] l m u N C (o++[p.t]) r s w:=by
 have h':=h.aw (B.mono cO)<|(lI b j).fD h.D B cO;refine{h' with news:=?_,apart:=by simp,r0:=da x,b0:=wg x h.aU h.Gw h.le,x0:=?_,x1:=λt q=>(h.x1 t q).more [p],x2:=λt q=>(h.x2 t q).more [p],x3:=λt q=>(h.x3 t q).more [p],nodup:=?_,qf:=?_};intro q e;rw[cX]at e;subst e;exact⟨A.base h.le,v⟩;intro t q;rcases aE.1 q with q|q;exact(h.x0 t q).more [p];rw[cX]at q;exact .inr ⟨p,by simp,q.symm⟩;(have e:(o++[p.t]++r++s++w).Perm (p.t::(o++r++s++w)):=by simp_all);rw[(e.map bA.tb).nodup_iff,bZ,kK];refine⟨λq=>?_,h.nodup⟩;obtain⟨t,k,K⟩:=bW.1 q;have D:=A.new;(have E:t.tb<z (G a):=by simp only[aE]at k;rcases k with((n|n)|n)|n;exact XT.qP h<|h.x0 t n;exact XT.qP h<|h.x1 t n;exact XT.qP h<|h.x2 t n;exact XT.qP h<|h.x3 t n);omega;rw[fK];(have:cg [p.t]=p.t.all:=by simp[cg]);rw[this,af];omega
def Wz(i:NX a f b e k c g l A)(h:e≠[])(j:∀x∈e,x.Good)(m:dM e)(n:y e<=100):NT.Ok f (z<|G a) ⟨⟨b,bS 0 k,k,0⟩,c,g,l,A⟩/\NS ⟨b,bS 0 k,k,0⟩/\bA.all ⟨b,bS 0 k,k,0⟩=e:=by
 have d:k.flatten=e:=i.pieces.flat;refine⟨⟨rfl,rfl,by show qB k.flatten k;rw[d];exact i.pieces,i.mem,i.data,i.GN,i.new⟩,⟨i.pieces.qQ h j m,i.pieces.idx h j m n,?_⟩,d⟩;have o:=i.pieces.data;have p:=i.pieces.length;grind
def LS.Zo{w:cw NT}{x:aa}{E:cf}(h:LS a b c g j i w l d u N x o r s E):∃k,LS a b c g k i w l d u N x o r s E/\cQ a b k/\k.files=j.files/\k.eJ=j.eJ/\∀n,k.aU b n->j.aU b n:=by
 obtain⟨B,k,t,v,A,p⟩:=h.D;have f:∀n,KI b c g j n->KI b c g k n:=λn m=>⟨m.1,λq=>m.2.1<|p n q,m.2.2⟩;have e:∀v,qS a b c g j v->qS a b c g k v:=λv f n m=>⟨(f n m).1,λq=>(f n m).2.1<|p n q,(f n m).2.2⟩;refine⟨k,{h with D:=Rc t t.lt,aU:=λn m=>h.aU n<|p n m,fw:=f _ h.fw,mi:=f _ h.mi,tM:=λF C=>?_,b0:=e _ h.b0,b1:=e _ h.b1,b2:=e _ h.b2,b3:=e _ h.b3},t,v,A,p⟩;rw[v];exact(h.tM F C).Oe f
def LS.other{F:cw NT}{K:aa}{V W:cf}(h:LS a b c g j o F l d u N K r s V W)(p:I X a f)(B:∀k,X k->g<=k/\∃v w,a.heap[k]?=H (ar v 102 w)):LS f b c g j o F l d u N K r s V W:=by
 have hF:∀k,X k->¬(lI b j).F k:=λk e q=>by have:=h.aU k q;have:=(B k e).1;omega
 have t:∀k,KI b c g j k->¬X k:=λk e q=>by have:=e.1;have:=(B k q).1;omega
 have m:∀A,qS a b c g j A->∀k,ct A=H k->¬X k:=λA x k e q=>by obtain⟨Q,v,w,q2⟩:=B k q;rcases(x k e).2.2.2 with P|⟨C,L,P⟩;omega;grind
 have n:∀A,qS a b c g j A->qS f b c g j A:=λA x k e=>by obtain⟨C,L,P,Q⟩:=x k e;exact⟨ag C p.size,L,P,Q.imp id<|λ⟨v,w,a⟩=>⟨v,w,(p.block k C<|m A x k e).trans a⟩⟩
 refine{h with D:=(lI b j).fD h.D p hF,le:=aC h.le p.size,steps:=λad S=>p.cell (h.steps ad S) (t _ h.fw)<|ag h.fw.1 h.le,pow:=h.pow.di<|p.block _ (ag h.mi.1 h.le)<|t _ h.mi,tM:=λal O=>(h.tM al O).Tq<|λk e=>p.block k (ag e.1 h.le)<|t k e,news:=λac E=>⟨?_,(h.news ac E).2⟩,r0:=p.row h.r0<|λk e=>⟨m _ h.b0 k e,(h.b0 k e).1⟩,r1:=p.row h.r1<|λk e=>⟨m _ h.b1 k e,(h.b1 k e).1⟩,r2:=p.row h.r2<|λk e=>⟨m _ h.b2 k e,(h.b2 k e).1⟩,r3:=p.row h.r3<|λk e=>⟨m _ h.b3 k e,(h.b3 k e).1⟩,b0:=n _ h.b0,b1:=n _ h.b1,b2:=n _ h.b2,b3:=n _ h.b3};exact Up.other (h.news ac E).1 p<|λk e=>by grind
structure SV(w:Y)(sb:M)(s:SR)(k:Z)(lb:M)(K:DK)(T0:cf)(C n:M)(ms:eO)(R0:Z->ab->Option ab)(wr:Y)(v0 v1 v2 v3:aa)(a b c d:cf)(ps:cw NT):Prop where
 ls:LS wr s.aH sb (z<|G w) K T0 ps C v0 v1 v2 v3 a b c d
 lb:wr.heap[lb]?=H (ar #[v0,v1,v2,v3] 102 (0,0))
 pr:PR n (bV a b c d)
 uC:∀t,(t∈ms\/(n:Z)<=t)->∀q,eY t (bV a b c d) q=R0 t q
 box:bJ wr sb s k
 aw:I (K.aU s.aH) w wr
def NM(w:Y)(a:M)(s:SR)(o:Z)(d:M)(K:DK)(c:cf)(C p:M)(e:eO)(b:Z->ab->Option ab)(wr:Y):Prop:=∃g h i j k l m n f,SV w a s o d K c C p e b wr g h i j k l m n f
def vr(w:Y)(a i:M):M:=match aO w (R a i)with
 |some (.slice _ n _)=>n
 |_=>0
def AK{x:Option Addr}{c:M}(h:aO a (R b g)=H (J x l c)):vr a b g=l:=by
 unfold vr;rw[h]
def SV.put{N wr d:Y}{x:eO}{C:Z->ab->Option ab}{E F K L u0 u1 u2 u3:aa}{ac b ad al o r s t:cf}{X k:cw NT}(u:SV N c n m g j i l A x C wr E F K L ac b ad al X)(P:z (G N)<=g)(w:¬j.aU n.aH c)(O:LS d n.aH c (z<|G N) j i k l u0 u1 u2 u3 o r s t)(Q:PR A (bV o r s t))(V:∀B,(B∈x\/(A:Z)<=B)->∀q,eY B (bV o r s t) q=eY B (bV ac b ad al) q)(e:I (j.aU n.aH) wr d):d.heap[g]?=H (ar #[E,F,K,L] 102 (0,0))/\SV N c n m g j i l A x C (cA (cA (cA (cA d (R g 0) u0) (R g 1) u1) (R g 2) u2) (R g 3) u3) u0 u1 u2 u3 o r s t k:=by
 have v:¬j.aU n.aH g:=λq=>by have:=u.ls.aU g q;omega
 have h:=(e.block g (am u.lb) v).trans u.lb;have a:I (λq=>q=g) d (cA (cA (cA (cA d (R g 0) u0) (R g 1) u1) (R g 2) u2) (R g 3) u3):=(((gW g d).setCell _ _ _<|.inl rfl).setCell _ _ _<|.inl rfl).setCell _ _ _<|.inl rfl;have W:c<z (G N):=u.ls.Gw;refine⟨h,O.other a (λq S=>by grind),Fk h,Q,λB e q=>(V B e q).trans<|u.uC B e q,?_,?_⟩;have D:=(e.block c (am u.box) w).trans u.box;exact(a.block c (am D)<|λq=>by omega).trans D;exact(u.aw.trans e<|λ_ q=>.inl q).trans a<|λq S=>.inr<|by omega
def Gk.aU{g:fh}(k:Gk a j c n g)(e:I (j.aU n.aH) a C):Gk C j c n g:=by
 obtain⟨b,h,i,d⟩:=k.ex;exact⟨⟨b,h,i.di<|e.block _ d.lt d.aU,ag d.lt e.size,d.aU,d.ne⟩,k.len⟩
def LS.Zz{w wr:Y}{m:cw NT}{n e:aa}{v:cf}(t:LS wr b c g j i m l d u N n o r s v)(h:I az wr w)(a:w.ownsRow (z<|G wr) 98 1 e (y p) (p.map<|Value.int .u64)):LS w b c g j i m l d u N n o r s v/\Row w 1 e (y p) (p.map<|Value.int .u64)/\∀k,ct e=H k->k<z (G w)/\¬j.aU b k:=⟨t.aw (h.mono cO)<|(lI b j).fD t.D h cO,da a,λk f=>⟨(aG a k f).2,λq=>by have:=t.aU k q;have:=t.le;have:=(aG a k f).1;omega⟩⟩
structure KD(w w':Y)(sb:M)(s:SR)(k:Z)(n C:M)(K:DK)(ms:eO)(R0:Z->ab->Option ab)(v0 v1 v2 v3:aa)(K':DK)(num:M)(a' b' c' d':cf):Prop where
 box:bJ w' sb (s.settled v0 v1 v2 v3 n num) k
 st:ST w' sb (s.settled v0 v1 v2 v3 n num) K' [] a' b' c' d' C
 qF:Uu (vw K'.files) (num+1) num n a' b' c' d' aY []
 pr:PR n (bV a' b' c' d')
 uC:∀t,(t∈ms\/(n:Z)<=t)->∀q,eY t (bV a' b' c' d') q=R0 t q
 EW:((a'++b'++c'++d').map bA.tb).Nodup
 eJ:y K'.eJ<=1000001
 num:s.next<=num/\num<=s.next+1000000
 eW:fY w w' s.aH sb K K'
def C2(a:Z)(b c d:cf):Prop:=(y b:Z)<a/\(y c:Z)<=a/\(y d:Z)<=a
def A6(a:Z)(b i:M)(w:Y):Prop:=∀j,j<i->pM a j (vr w b j)=aY
def A6.tid{n p q K:Option Addr}{e f L t:cf}(B:A6 m b 4 a)(d:a.heap[b]?=H (ar #[J n (y i) g,J p (y o) l,J q (y r) A,J K c Q] 102 (0,0)))(C:C4 i o r L s e f t):C2 m s e f:=by
 have h:=B 0 (by omega);have j:=B 1 (by omega);have k:=B 2 (by omega);rw[AK (x:=n) (c:=g)<|(bL d).trans rfl]at h;rw[AK (x:=p) (c:=l)<|(bL d).trans rfl]at j;rw[AK (x:=q) (c:=A)<|(bL d).trans rfl]at k;obtain⟨u,v,w,_⟩:=C;have D:=bX y u;have E:=bX y v;have F:=bX y w;simp only[cV]at D E F;simp[pM]at h j k;unfold C2;omega
def PR.mono(h:PR c k)(d:c<=g):PR g k:=⟨h.nR,h.mh,h.iX,λx a=>by have:=h.low x a;omega⟩
def En(lb:M)(an ad:M)(ms:eO)(W:Z->ab->Option ab)(wr:Y)(C D E F:aa)(ao b al aq:cf)(ps:cw NT)(u:SV a c n m lb j (i++o++r++s) an ad ms W wr C D E F ao b al aq ps)(h0:bJ a c n m)(d:ST a c n j e i o r s g)(hI:Uu (vw j.files) n.next n.log l i o r s n.gE k)(S:y (lM ((l:Z)+1) k)<=200000)(hn:ad<1000000000000000)(Q:n.next<=900000000000000)(P:y j.eJ<=10000000000):cD bz 101 #[ay c,dW #[C,D,E,F],aJ ad] wr λau w'=>au=aL .nilIface/\∃K num v w x A,KD a w' c n m ad an j ms W C D E F K num v w x A/\C4 ao b al aq v w x A:=by
 obtain⟨K1,L,N,e1,e2,X⟩:=u.ls.Zo;have ac:=d.count;have V:y (i++o++r++s)<=1000000:=by have B:=d.qf;have h2:=d.lV;have:=lw<|λba t=>(d.l0.each ba t).pure;have:=lw d.s1.pure;have:=lw d.s2.pure;have:=lw d.s3.pure;grind
 have O:DB wr c 10 [(n.l0,i),(n.l1,o),(n.l2,r),(n.l3,s)]:=by refine(d.ZX h0).aw u.aw d.qZ<|λB hi f h=>?_;(have:B=0\/B=1\/B=2\/B=3:=by grind);rcases this with rfl|rfl|rfl|rfl;exact(d.l0.loc f h).aU;exact(d.l1.loc f h).aU;exact(d.l2.loc f h).aU;exact(d.l3.loc f h).aU
 have ax:=u.ls.Gw;refine(Qm (z<|G a) an ad l ps C D E F ao b al aq i o r s k u.box L O N (λq=>d.qZ<|X c q) (by rw[e1];exact hI) S hn Q (by rw[e2];exact P) V ?_ ?_).mono ?_;obtain⟨B,al,au⟩:=bM d.mem;grind
 have B:∀f,Aside a j n.aH c f->KI n.aH c (z<|G a) K1 f:=λf q=>⟨q.lt,λav=>q.aU<|X f av,q.ne⟩;rintro bb(rfl|rfl|rfl|rfl)f h;exact B _<|d.l0.loc f h;exact B _<|d.l1.loc f h;exact B _<|d.l2.loc f h;exact B _<|d.l3.loc f h;rintro au w'⟨rfl,K,num,v,w,x,A,p,t⟩;have hz:=u.aw.size;refine⟨rfl,K,num,v,w,x,A,⟨p.box,p.st,p.qF,by rw[p.rows];exact u.pr,λba t q=>by rw[p.rows];exact u.uC ba t q,p.EW,p.eJ,p.num,p.st.aH,?_,?_⟩,p.al⟩;refine(u.aw.mono (T:=λf=>j.aU n.aH f\/f=c)<|λ_ q=>.inl<|.inl q).trans t<|λf q=>?_;rcases q with(q|⟨bb,B,q⟩)|q;(grind);refine .inr ?_;rcases q with q|q;exact((u.ls.news bb B).1.lt f<|.inl q).1;exact((u.ls.news bb B).1.lt f<|.inr<|.inr q).1;grind
 intro f q;rcases p.aU f q with av|av;(grind);grind
def NM.step{bc wr:Y}{N:fh}{R0:Z->ab->Option ab}(hS:NM bc b n m c j i g l (qY N) R0 wr)(au:z (G bc)<=c)(av:¬j.aU n.aH b)(X:Gk bc j b n N)(bb:2<=n.qQ)(ac:M)(hi:ac<4):∃(v w x A:Option Addr)(n0 n1 n2 n3 B C D E:M)(bh:Option Addr)(al an:M)(bg:Bool),wr.heap[c]?=H (ar #[J v n0 B,J w n1 C,J x n2 D,J A n3 E] 102 (0,0))/\(#[J v n0 B,J w n1 C,J x n2 D,J A n3 E]:Array aa)[ac]?=H (J bh al an)/\(cD bz 113 #[ay b,ap (ac:M),J bh al an] wr λS w2=>S=aL (aK bg)/\w2=wr)/\(bg=bU->∀(t:Y)(Q:Option Addr)(O:M)(o:eO),I az wr t->t.ownsRow (z<|G wr) 98 1 (J Q (y o) O) (y o) (o.map<|Value.int .u64)->o.Perm (qY N)->cD bz 148 #[dW #[J v n0 B,J w n1 C,J x n2 D,J A n3 E],ap (ac:M),J Q (y o) O] t λS w2=>∃(r0 r1 r2 r3:Option Addr)(m0 m1 m2 m3 t0 t1 t2 t3:M),S=aL (dw #[dW #[J r0 m0 t0,J r1 m1 t1,J r2 m2 t2,J r3 m3 t3],.nilIface])/\w2.heap[c]?=H (ar #[J v n0 B,J w n1 C,J x n2 D,J A n3 E] 102 (0,0))/\NM bc b n m c j i g l (qY N) R0 (cA (cA (cA (cA w2 (R c 0)<|J r0 m0 t0) (R c 1)<|J r1 m1 t1) (R c 2)<|J r2 m2 t2) (R c 3)<|J r3 m3 t3)/\vr (cA (cA (cA (cA w2 (R c 0)<|J r0 m0 t0) (R c 1)<|J r1 m1 t1) (R c 2)<|J r2 m2 t2) (R c 3)<|J r3 m3 t3) c ac<vr wr c ac/\∀ad,ad<ac->vr (cA (cA (cA (cA w2 (R c 0)<|J r0 m0 t0) (R c 1)<|J r1 m1 t1) (R c 2)<|J r2 m2 t2) (R c 3)<|J r3 m3 t3) c ad=vr wr c ad)/\bg=pM n.qQ ac (vr wr c ac)/\∀aq,I az wr aq->cD bz 59 #[ay b] aq λS w2=>∃P,∃o:eO,S=aL P/\o.Perm (qY N)/\w2.ownsRow (z<|G wr) 98 1 P (y o) (o.map<|Value.int .u64)/\I az wr w2:=by
 obtain⟨v0,v1,P,v3,bd,ax,ba,bf,ps,d⟩:=hS;obtain⟨v,B,rfl⟩:=bM d.ls.r0;obtain⟨w,C,rfl⟩:=bM d.ls.r1;obtain⟨x,D,rfl⟩:=bM d.ls.r2;obtain⟨A,E,rfl⟩:=bM d.ls.r3;have L:∀aq,I az wr aq->cD bz 59 #[ay b] aq λS w2=>∃P,∃o:eO,S=aL P/\o.Perm (qY N)/\w2.ownsRow (z<|G wr) 98 1 P (y o) (o.map<|Value.int .u64)/\I az wr w2:=λaq hW=>by obtain⟨mb,m1,m2,m3⟩:=(X.aU d.aw).ex;apply(ug (b:=mb) N ((hW.block b (am d.box) id).trans d.box) m1 (m2.di<|hW.block _ m3.lt id) X.len).mono;rintro S w2⟨P,o,rfl,l1,l2,l3⟩;exact⟨P,o,rfl,l1,er l2 hW.size,hW.cr l3⟩
 have h4:∀o:eO,o.Perm (qY N)->y o<=4:=λo s=>by have:=s.length_eq;rw[oY]at this;have:=X.len;omega
 have fin:=λ(t w2:Y)(o:eO)(u0 u1 u2 u3:aa)(a c c' e:cf)(k:cw NT)(K:I az wr t)(s:o.Perm (qY N))(p:LS w2 n.aH b (z<|G bc) j i k g u0 u1 u2 u3 a c c' e)(f:PR l (bV a c c' e))(h:∀ao,(ao∈o\/(l:Z)<=ao)->∀q,eY ao (bV a c c' e) q=eY ao (bV bd ax ba bf) q)(r:I (j.aU n.aH) t w2)=>d.put au av p f (λao u=>h ao<|u.imp_left<|λq=>s.mem_iff.2 q)<|(K.mono (T:=j.aU n.aH) cO).trans r<|λ_ q=>.inl q;have a:∀{aq:Y}{u0 u1 u2 u3:aa}(ad:M)(r:Option Addr)(e ao:M),aq.heap[c]?=H (ar #[u0,u1,u2,u3] 102 (0,0))->#[u0,u1,u2,u3][ad]?=H (J r e ao)->vr aq c ad=e:=λad r e ao b d=>AK (x:=r) (c:=ao)<|(bL b).trans d;rcases(show ac=0\/ac=1\/ac=2\/ac=3 by omega)with rfl|rfl|rfl|rfl;refine⟨v,w,x,A,_,_,_,_,B,C,D,E,v,y bd,B,_,d.lb,rfl,rQ 0 (y bd) v B d.box (by omega),λV t Q O o K ho s=>?_,by rw[a 0 _ _ _ d.lb rfl],L⟩;(have e:0<y bd:=by unfold pM at V;grind);have u:=d.ls.Zz K ho;apply(u.1.s9 d.pr e o Q O u.2.1 u.2.2<|h4 o s).mono;rintro S w2⟨x',n',c',tm,k,rfl,p,f,h,r⟩;obtain⟨x1,F⟩:=fin t w2 o _ _ _ _ _ _ _ _ k K s p f h r;exact⟨_,_,_,_,_,_,_,_,_,_,_,_,rfl,x1,⟨_,_,_,_,_,_,_,_,k,F⟩,by rw[a 0 _ _ _ F.lb rfl,a 0 _ _ _ d.lb rfl];omega,λad hj=>by omega⟩;refine⟨v,w,x,A,_,_,_,_,B,C,D,E,w,y ax,C,_,d.lb,rfl,rQ 1 (y ax) w C d.box (by omega),λV t Q O o K ho s=>?_,by rw[a 1 _ _ _ d.lb rfl],L⟩;(have e:0<y ax:=by unfold pM at V;grind);have u:=d.ls.Zz K ho;apply(u.1.s8 d.pr e o Q O u.2.1 u.2.2<|h4 o s).mono;rintro S w2⟨xl,nl,cl,x',n',c',b2,c2,k,rfl,p,W,f,h,r⟩;obtain⟨x1,F⟩:=fin t w2 o _ _ _ _ _ _ _ _ k K s p f h r;obtain⟨_,_,S⟩:=bM p.r1;cases S;exact⟨_,_,_,_,_,_,_,_,_,_,_,_,rfl,x1,⟨_,_,_,_,_,_,_,_,k,F⟩,by rw[a 1 _ _ _ F.lb rfl,a 1 _ _ _ d.lb rfl];omega,λad hj=>by obtain rfl:ad=0:=(by omega);rw[a 0 _ _ _ F.lb rfl,a 0 _ _ _ d.lb rfl]⟩;refine⟨v,w,x,A,_,_,_,_,B,C,D,E,x,y ba,D,_,d.lb,rfl,rQ 2 (y ba) x D d.box (by omega),λV t Q O o K ho s=>?_,by rw[a 2 _ _ _ d.lb rfl],L⟩;(have e:0<y ba:=by unfold pM at V;grind);have u:=d.ls.Zz K ho;apply(u.1.r9 d.pr e o Q O u.2.1 u.2.2<|h4 o s).mono;rintro S w2⟨xl,nl,cl,x',n',c',c2,d2,k,rfl,p,W,f,h,r⟩;obtain⟨x1,F⟩:=fin t w2 o _ _ _ _ _ _ _ _ k K s p f h r;obtain⟨_,_,S⟩:=bM p.r2;cases S;exact⟨_,_,_,_,_,_,_,_,_,_,_,_,rfl,x1,⟨_,_,_,_,_,_,_,_,k,F⟩,by rw[a 2 _ _ _ F.lb rfl,a 2 _ _ _ d.lb rfl];omega,λad hj=>by rcases(show ad=0\/ad=1 by omega)with rfl|rfl;(rw[a 0 _ _ _ F.lb rfl,a 0 _ _ _ d.lb rfl]);(rw[a 1 _ _ _ F.lb rfl,a 1 _ _ _ d.lb rfl])⟩;refine⟨v,w,x,A,_,_,_,_,B,C,D,E,A,y bf,E,_,d.lb,rfl,rQ 3 (y bf) A E d.box (by omega),λV=>?_,by rw[a 3 _ _ _ d.lb rfl],L⟩;simp[pM]at V
structure Inv(w:Y)(sb:M)(s:SR)(K:DK)(m:cJ)(a b c d:cf)(C tb N:M)(ls:dL)(sn:fh):Prop where
 st:ST w sb s K m a b c d C
 qF:Uu (vw K.files) s.next s.log tb a b c d s.gE ls
 pr:PR tb (bV a b c d)
 lp:Gg ((tb:Z)+1) ls
 mem:jQ s.aW m=gQ [] ls.flatten
 Oa:∀x∈m,(tb:Z)<x.bP/\x.bP<=s.aW
 Xx:y m<=(ls.map y).sum
 Ze:rq 5 m
 oU:Gk w K sb s sn
 UN:∀p∈sn,p.2<=s.aW
 Bq:s.aW=tb+y ls
 Ut:s.gK=(ls.map y).sum
 vU:s.vU=aY
 EW:((a++b++c++d).map bA.tb).Nodup
 nx:s.next<=2+1000001*N
 bn:s.aW<=N
 eJ:y K.eJ<=1000001+2*N
 Mg:1<=s.mem/\s.mem<=32/\2<=s.qQ/\s.qQ<=6
 loose:s.kB=bU->s.gE=bU
 VQ:s.gE=bU->ls≠[]
 lV:N<=100000000
def ST.WQ(h:ST a b n j e i o r s c)(k:b<z (G a))(d:fY a f n.aH b j P)(g:∀l,dX (vw P.files) (fC l)=dX (vw j.files) (fC l)):ST f b n P e i o r s c where
 mem:=An h.mem d h.tg
 tg:=λg b=>(h.tg g b).eW d
 l0:=h.l0.eW d<|λ_ _=>g _
 l1:=h.l1.eW d<|λ_ _=>g _
 l2:=h.l2.eW d<|λ_ _=>g _
 l3:=h.l3.eW d<|λ_ _=>g _
 aH:=d.ok
 qZ:=λr=>(d.aU b r).elim h.qZ<|λg=>by omega
 kC:=h.kC.eW d
 qf:=h.qf
 lV:=h.lV
 mh:=h.mh
 iX:=h.iX
 s1:=h.s1
 s2:=h.s2
 s3:=h.s3
def ST.Vh{f s':SR}{C C':M}(h:ST a b f j e i o r s C)(v:s'.aH=f.aH/\s'.l0=f.l0/\s'.l1=f.l1/\s'.l2=f.l2/\s'.l3=f.l3)(p:kr a s'.memory L)(d:∀u,ct s'.memory=H u->Aside a j f.aH b u)(q:dM L)(n:∀x∈L,x.Good)(w:y L+C<=C'+y e)(t:C'<=1000000):ST a b s' j L i o r s C':=by
 obtain⟨c,g,k,l,m⟩:=v;refine{mem:=p,tg:=by rw[c];exact d,l0:=by rw[c,g];exact h.l0,l1:=by rw[c,k];exact h.l1,l2:=by rw[c,l];exact h.l2,l3:=by rw[c,m];exact h.l3,aH:=by rw[c];exact h.aH,qZ:=by rw[c];exact h.qZ,kC:=by rw[c];exact h.kC,qf:=by have:=h.qf;omega,lV:=t,mh:=q,iX:=n,s1:=h.s1,s2:=h.s2,s3:=h.s3}
def ST.fields{d s':SR}(h:ST a b d j e i o r s c)(g:s'.aH=d.aH/\s'.l0=d.l0/\s'.l1=d.l1/\s'.l2=d.l2/\s'.l3=d.l3)(f:s'.memory=d.memory):ST a b s' j e i o r s c:=h.Vh g (by rw[f];exact h.mem) (by rw[f];exact h.tg) h.mh h.iX (by omega) h.lV
def Ss(f:Z)(a:dL)(l:cJ):lM f (a++[l])=lM f a++Dv (f+y a) l:=by
 induction a generalizing f with
 |nil=>simp[lM]
 |cons x r b=>
  rw[cL,lM,b,lM,bD,aS];grind
def Gg.snoc(h:Gg m k)(j:∀x∈e,x.Good)(f:∀x∈e,x.bP=m+y k)(d:1<=y e/\y e<=8)(b:(k.map y).sum+y e<32)(g:m+y k+1<18446744073709551616):Gg m (k++[e])where
 iX:=λx a=>by
  rcases aE.1 a with c|c
  .exact h.iX x c
  grind
 num:=λi b x a=>by
  by_cases c:i<y k
  .rw[uv c]at a;exact h.num i c x a
  grind
 one:=λx a=>by
  rcases aE.1 a with c|c
  .exact h.one x c
  grind
 sum:=by rw[aQ,eR];simpa using b
 f0:=h.f0
 f1:=by rw[af];grind
def zk(l m n:cJ):gQ l (m++n)=gQ (gQ l m) n:=by
 unfold gQ;rw[iL]
def Ff{l m:cJ}(h:w∈gQ l m):w∈l\/w∈m:=by
 induction m generalizing l with
 |nil=>exact .inl h
 |cons e r a=>
  rcases a (l:=sY l e) h with c|c
  .grind[yG]
  grind
def Gg.wN(h:Gg ((b:Z)+1) k):∀x∈k.flatten,(b:Z)<x.bP/\x.bP<=(b+y k:M):=by
 intro x e;obtain⟨l,d,a⟩:=bE.1 e;obtain⟨i,c,rfl⟩:=gq.1 d;have:=h.num i c x a;grind
def Inv.Yg{d:fh}(h:Inv a b n j e i o r s c g l k d):y e<=31:=by
 have f:=h.Xx;have m:=h.lp.sum;omega
def Inv.row{m:cf}{f:fh}(h:Inv a b n P e o r s m c g l k f):gN e:=⟨h.st.mh,λp d=>uk<|h.st.iX p d⟩
def Inv.all{i b m o:cf}{f:fh}(h:Inv a c n j e i b m o g l A k f):PR n.aW (e::bV i b m o):=h.pr.cons (by have:=h.Bq;omega) h.st.mh h.st.iX (λx d=>(h.Oa x d).1)<|λx d=>(h.Oa x d).2
def gw(b:fh)(m a:cJ):cJ:=dI (qY b)<|fH m a
def Inv.OK{p:fh}(h:Inv a b n j e i o r s c g l k p):y (lM ((g:Z)+1) k)<=200000/\y k<=31:=by
 have q:=ue (f:=(g:Z)+1)<|λm d=>⟨h.lp.iX m d,(h.lp.one m d).2⟩;have t:=Ej<|λm d=>(h.lp.one m d).1;have u:=h.lp.sum;grind
def Inv.DZ{f:fh}(h:Inv a b n j e i o r s c g l k f):y (i++o++r++s)<=1000000:=by
 have d:=h.st.qf;have m:=h.st.lV;have:=lw<|λt d=>(h.st.l0.each t d).pure;have:=lw h.st.s1.pure;have:=lw h.st.s2.pure;have:=lw h.st.s3.pure;grind
def KD.inv{h:fh}{x:Z->ab->Option ab}{w:aa}{num:M}(k:KD a f c n m g l j (qY h) x d u N w P num i o r s)(e:1<=n.mem/\n.mem<=32/\2<=n.qQ/\n.qQ<=6)(D:n.next<=2+1000001*A)(C:g<=A+1)(B:A+1<=100000000)(v:Gk a j c n h)(t:∀E∈h,E.2<=n.aW)(p:n.aW<=g):Inv f c (n.settled d u N w g num) P [] i o r s l g (A+1) [] h where
 st:=k.st
 qF:=k.qF
 pr:=k.pr
 lp:=⟨by simp,by simp,by simp,by simp,by omega,by simp;omega⟩
 mem:=rfl
 Oa:=by simp
 Xx:=by simp
 Ze:=rq.nil _
 oU:=(v.eW k.eW).fields ⟨rfl,rfl⟩
 UN:=λE e=>aC (t E e) p
 Bq:=rfl
 Ut:=rfl
 vU:=rfl
 EW:=k.EW
 nx:=by have:=k.num;show num+1<=_;omega
 bn:=C
 eJ:=by have:=k.eJ;omega
 Mg:=e
 loose:=λq=>(by cases q)
 VQ:=λq=>(by cases q)
 lV:=B
def Eo(mv:aa)(gi ei:M)(h:bJ a b n m)(x:ST a b n j e i o r s c)(cu:((i++o++r++s).map bA.tb).Nodup)(fL:PR g (bV i o r s))(hm:kr a mv L)(ff:∀m,ct mv=H m->m<z (G a))(fr:dM L)(gg:rq 5 L)(fl:∀hy∈L,hy.Good)(hk:y L<=100)(fe:∀hy∈L,(g:Z)<hy.bP)(eF:∀hy∈L,hy.bP<=ei)(gf:g<=ei)(hR:y (cg i)+y (cg o)+y (cg r)+y (cg s)+y L<=gi)(hg:gi<=1000000)(ge:2<=n.qQ)(hI:Uu (vw j.files) n.next n.log g i o r s n.gE k)(hq:y (lM ((g:Z)+1) k)<=200000)(hH:ei<1000000000000000)(ho:n.next<=900000000000000)(hl:y j.eJ<=10000000000)(sn:fh)(gc:Gk a j b n sn):cD bz 87 #[ay b,mv,aJ ei] a λgk w'=>gk=aL .nilIface/\∃v0 v1 v2 v3 K' num a' b' c' d',KD a w' b n m ei gi j (qY sn) (λhv=>eY hv<|L::bV i o r s) v0 v1 v2 v3 K' num a' b' c' d'/\C2 n.qQ a' b' c':=by
 have gb:=am h;have bt:=x.k6 (C':=gi) gb cu (by omega) hg;have cp:=λf wr v0 v1 v2 v3 a1 b1 c1 d1 b a=>En f gi ei (qY sn) (λhv=>eY hv<|L::bV i o r s) wr v0 v1 v2 v3 a1 b1 c1 d1 b a h x hI hq hH ho hl;obtain⟨y0,z0,dv⟩:=bM x.l0.row;obtain⟨y1,z1,dx⟩:=bM x.l1.row;obtain⟨y2,z2,dT⟩:=bM x.l2.row;obtain⟨y3,z3,ea⟩:=bM x.l3.row;have hJ:aO a (R b 10)=H (J y0 (y i) z0):=by rw[<-dv];exact h.cell rfl
 have hK:aO a (R b 11)=H (J y1 (y o) z1):=by rw[<-dx];exact h.cell rfl
 have hL:aO a (R b 12)=H (J y2 (y r) z2):=by rw[<-dT];exact h.cell rfl
 have hM:aO a (R b 13)=H (J y3 (y s) z3):=by rw[<-ea];exact h.cell rfl
 rw[dv,dx,dT,ea]at bt;obtain⟨O,dn⟩:∃O,cF a (ar #[J y0 (y i) z0,J y1 (y o) z1,J y2 (y r) z2,J y3 (y s) z3] 102)=O:=⟨_,rfl⟩;have bl:I az a O:=by rw[<-dn];exact(cK _ _)
 have eu:O.heap[z<|G a]?=H (ar #[J y0 (y i) z0,J y1 (y o) z1,J y2 (y r) z2,J y3 (y s) z3] 102 (0,0)):=by rw[<-dn];exact aB _ rfl
 have cl:=bt.aw (bl.mono cO)<|(lI n.aH j).fD bt.D bl cO;have es:bJ O b n m:=(bl.block b gb id).trans h;have bi:=x.aH.lt;have cB:=x.qZ;obtain⟨mx,mc,fs⟩:=bM hm;obtain⟨eq,HM,ha,dc,db,em,W,A,ej⟩:=xU x hm ff fr fl fL cp cl eu;obtain⟨dk,bo,HH,gv,gr,eo,gn,hE,hb⟩:=xU bl es h fe eF cB bi fs gc;have hA:z (G O)=z (G a)+1:=by rw[<-dn];simp
 clear h x cu fL hm ff fr fl fe eF hI cp bt cl eu bl es cB bi dv dx dT ea gc;subst fs;obtain⟨R0,bu⟩:∃R0:Z->ab->Option ab,(λhv=>eY hv<|L::bV i o r s)=R0:=⟨_,rfl⟩;obtain⟨f,hh⟩:∃f,z (G a)=f:=⟨_,rfl⟩;have fd:z (G a)<=f:=by omega
 have en:=U bu;have Q:=ae W;rw[bu]at Q;clear W;have W:=U Q;rw[bu];clear Q bu;have cd:=U hh;by_cases hC:y L=0;(case' pos=>(have cq:¬(0:Z)<(y L:Z):=by omega);have d:L=[]:=aP hC;have P:=U<|show NM a b n m f j (i++o++r++s) gi ei (qY sn) R0 O from⟨_,_,_,_,i,o,r,s,[],A,by rw[<-ae cd];exact ej,em.mono gf,λhv _ q=>by rw[<-ae en,d];grind[mJ],bo,dk.mono cO⟩;clear d;(go_in);(go_wp2_with fail);obtain⟨W7,S⟩:∃W7,O=W7:=⟨_,rfl⟩;rw[S];rw[S]at P;clear S)
 case' neg=>
  have cq:(0:Z)<(y L:Z):=by omega
  obtain⟨mg,mo,fu,fn,ad⟩:∃hG V,mx=H (R hG V)/\y L<=mc/\∀bn hD,(aF L)[bn]?=H hD->aO a (R hG<|V+bn)=H hD:=by
   obtain⟨_,⟨q1,q2⟩|⟨hG,V,hF,q1,q2,q3⟩⟩:=ae HM
   .grind
   grind
  subst fu;have hn:L≠[]:=λq=>hC (by rw[q];rfl);have eb:mg<z (G a):=ha mg rfl;have bm:I az a O.drew:=dk.cr<|ci az O;have cs:=Ei L mg mo mc O.drew (λbn hj=>bm.cell (eq.kC.steps bn hj) id eq.kC.fw.lt) (by have:=bm.size;omega) (λbn hD hj=>bm.cell (ad bn hD hj) id eb) fn (by omega) db dc (λq l=>aC (gg.keys q l)<|by omega) (by omega);clear ad;go_in
  go_wp2_with fail
  rename_i QQ KK bc hp;have hS:O.drew.heap[f]?=H (ar #[J y0 (y i) z0,J y1 (y o) z1,J y2 (y r) z2,J y3 (y s) z3] 102 (0,0)):=by rw[<-ae cd];exact ej
  refine cI (λ(w:Y)=>w.heap[f]?=H (ar #[J y0 (y i) z0,J y1 (y o) z1,J y2 (y r) z2,J y3 (y s) z3] 102 (0,0))) 8 (by kernel_rfl) ?_;refine cY 0 ?_;iterate 3 (refine eM (v:=?_) hS rfl (by kernel_rfl) iW rfl ?_ ?_;rotate_left;(focus(intro w hX;have x0:aO w (R f 0)=H (J y0 (y i) z0):=(by rw[bL hX];rfl);go_simp;try rfl));simp only[Act.put,dD,Nat.reduceAdd])
  apply eC;refine aM (i:=3) rfl rfl (by kernel_rfl) ?_;intro K3 av;go_simp;apply cs.mono;rintro gk C⟨d,u,hz,X,xb,ac,rfl,hf⟩;obtain⟨fx,fv,bf⟩:=Wz hf hn db dc hk;have an:=(hf.aw.block f (am hS) id).trans hS;refine av _ _ (λ_=>an) ?_;clear av cs;try simp only[Act.put,dD]
  refine aM (i:=4) rfl rfl (by kernel_rfl) ?_;intro K4 ax;go_simp;have ed:I az C (cF C<|ar #[ay d] 142):=(cK _ _);have ex:=(ed.block f (am an) id).trans an;refine ax _ _ (λ_=>ex) ?_;clear ax;try simp only[Act.put,dD]
  refine aM (i:=5) rfl rfl (by kernel_rfl) ?_;intro K5 ba;go_simp;obtain⟨W5,bd⟩:∃W5,cF (cF C<|ar #[ay d] 142) (ar #[J y0 (y i) z0,bB (z<|G C) 0 1 1] 100)=W5:=⟨_,rfl⟩;have bT:I az C W5:=by rw[<-bd];exact ed.alloc _
  have bv:=(bT.block f (am an) id).trans an;have cn:W5.heap[z<|G C]?=H (ar #[ay d] 142 (0,0)):=by rw[<-bd];grind[gl,aB]
  have bg:W5.heap[z (G C)+1]?=H (ar #[J y0 (y i) z0,bB (z<|G C) 0 1 1] 100 (0,0)):=by rw[<-bd];exact aB _<|by simp
  rw[bd];refine ba _ _ (λ_=>bv) ?_;clear ba bd;try simp only[Act.put,dD]
  refine aM (i:=6) rfl rfl (by kernel_rfl) ?_;intro K6 al;go_simp;have K:I az O W5:=((ci az O).cr hf.aw).cr bT;have co:=tE (z (G C)+1) 0 2 [((J y0 (y i) z0:aa),i),(bB (z<|G C) 0 1 1,[⟨d,bS 0 u,u,0⟩])] W5 (by
   intro t hi;have:t=0\/t=1:=by grind
   rcases this with rfl|rfl<;>(rw[bL bg];rfl)) (am bg) (by
    intro t hi;have:t=0\/t=1:=by grind
    rcases this with rfl|rfl
    .exact K.row A.r0<|λm a=>⟨id,(A.b0 m a).1⟩
    .refine⟨rfl,.inr ⟨z (G C),0,1,rfl,ai _,λbn hD hj=>?_⟩⟩;rw[bL cn,dp];simpa[bA.ptr]using hj) (by
    intro t hi;have:t=0\/t=1:=by grind
    rcases this with rfl|rfl
    .exactλm a=>ag (A.b0 m a).1 K.size
    .exactλm a=>by cases a;grind) (by simp) (by have:=A.count;simp[mf];omega)
  apply co.mono;rintro gk w6⟨v6,rfl,bx,ca⟩;have ao:=(ca.block f (am bv) id).trans bv;have cj:mf [((J y0 (y i) z0:aa),i),(bB (z<|G C) 0 1 1,[⟨d,bS 0 u,u,0⟩])]=y (i++[(⟨d,bS 0 u,u,0⟩:bA)]):=by simp[mf]
  have ch:qn [((J y0 (y i) z0:aa),i),(bB (z<|G C) 0 1 1,[⟨d,bS 0 u,u,0⟩])]=(i++[(⟨d,bS 0 u,u,0⟩:bA)]).map bA.ptr:=by simp[qn]
  rw[cj,ch]at bx;obtain⟨x6,c6,hr⟩:=aA bx;subst hr;refine al _ _ (λ_=>ao) ?_;clear al co;try simp only[Act.put,dD]
  refine aM (i:=7) rfl rfl (by kernel_rfl) ?_;intro K7 E;go_simp;refine E _ _ (λ_=>ao) ?_;clear E;try simp only[Act.put,dD]
  refine aM (i:=8) rfl rfl (by kernel_rfl) ?_;intro K8 F;have x0:=cellAt ao 0 rfl;have hw:=dE (i:=0) ao;go_simp;have N:I az O w6:=K.cr ca;have cE:I az C w6:=bT.cr ca;have cv:NT.Ok w6 (z<|G O) ⟨⟨d,bS 0 u,u,0⟩,hz,X,xb,ac⟩:=NT.Ok.aw fx cE<|λ_ _ q=>q;have et:=A.ZS (p:=⟨⟨d,bS 0 u,u,0⟩,hz,X,xb,ac⟩) N cv fv (er bx K.size) (by
   grind)
  have cb:I (λq=>q=f) w6 (cA w6 (R f 0)<|J x6 (y<|i++[(⟨d,bS 0 u,u,0⟩:bA)]) c6):=(gW f w6);have ck:=et.other cb (λq l=>by grind);have cx:PR ei (bV (i++[(⟨d,bS 0 u,u,0⟩:bA)]) o r s):=by
   rw[Ex,bf];exact em.cons gf dc db gv gr
  have P:=U<|show NM a b n m f j (i++o++r++s) gi ei (qY sn) R0 (cA w6 (R f 0)<|J x6 (y<|i++[(⟨d,bS 0 u,u,0⟩:bA)]) c6)from⟨_,_,_,_,_,o,r,s,_,ck,(aT ao).trans rfl,cx,λhv _ q=>by rw[Ex,bf,<-ae en],(cb.block b (ag (am bo) N.size)<|λq=>by omega).trans<|(N.block b (am bo) id).trans bo,((dk.cr N).mono (T:=j.aU n.aH) cO).trans cb<|λq l=>.inr<|by omega⟩;refine F _ _ (λq=>(q rfl).elim) ?_;refine cW (by kernel_rfl) ?_ _;show KK _ _;apply bc;clear bc F ck et cx cb cv cE N ao bx ca cn bg bv bT ex ed an fx fv bf hf hS x0 hw K cj ch;have ce:y (i++[(⟨d,bS 0 u,u,0⟩:bA)])=y i+1:=by simp
  rw[ce]at P;obtain⟨W7,S⟩:∃W7,cA w6 (R f 0) (J x6 (y i+1) c6)=W7:=⟨_,rfl⟩;rw[S];rw[S]at P;clear S ce;go_wp2_with fail
 all_goals
  clear cq;go_loopw [25] (λd wr=>∃(t:M)(gj:Z),t<=4/\gj=t/\d=ap gj/\NM a b n m f j (i++o++r++s) gi ei (qY sn) R0 wr/\A6 n.qQ f t wr) (λd _=>4-(intOf d).toNat)
  case atStart=>exact⟨0,0,by omega,rfl,rfl,P,λbn hj=>absurd hj<|ft bn⟩
  case round=>
   obtain⟨t,gj,hi,hI,rfl,dm,cm⟩:=hrel;have aq:=U cm;clear cm;by_cases h4:t<4
   .have P:=U dm;have dd:=U<|λ(wr:Y)(h:NM a b n m f j (i++o++r++s) gi ei (qY sn) R0 wr)=>h.step fd eo hb ge t h4;obtain⟨me,fk⟩:∃me:Y->M,∀W,me W=vr W f t:=⟨_,λ_=>rfl⟩;have ek:=U fk;clear dm fk;obtain⟨LL,bs⟩:∃LL:Y->Prop,LL=A6 n.qQ f t:=⟨_,rfl⟩;have bq:=U (show∀W,LL W->pM n.qQ t (vr W f t)=aY->A6 n.qQ f (t+1) W fromλW h1 h2 bn hj=>by
     rw[bs]at h1;rcases uu.1 hj with q|q
     .exact h1 bn q
     .rw[q];exact h2)
    have gt:=U (show∀W a,LL W->(∀bn,bn<t->vr a f bn=vr W f bn)->LL a fromλW a h1 h2=>by
     rw[bs]at h1|-;exactλbn hj=>by rw[h2 bn hj];exact h1 bn hj)
    rw[<-bs]at aq;clear bs;rcases(show(t=0/\gj=0)\/(t=1/\gj=1)\/(t=2/\gj=2)\/(t=3/\gj=3)by omega)with⟨rfl,rfl⟩|⟨rfl,rfl⟩|⟨rfl,rfl⟩|⟨rfl,rfl⟩;all_goals
     clear hI;go_wp2_with fail
     go_loopw [9] (λ_ wr=>NM a b n m f j (i++o++r++s) gi ei (qY sn) R0 wr/\LL wr) (λ_ wr=>me wr)
     case atStart=>exact⟨P,aq⟩
     case round=>
      obtain⟨hrel,ev⟩:=hrel;have HR:=U hrel;have au:=U ev;obtain⟨p0,p1,p2,p3,n0,n1,n2,n3,q0,q1,q2,q3,hy,hN,hP,hQ,B,hB,D,ds,eB,fq⟩:=dd wr hrel;have bp:=U eB;cases gY hB;have g0:=cellAt B 0 rfl;have g1:=cellAt B 1 rfl;have g2:=cellAt B 2 rfl;have g3:=cellAt B 3 rfl;have el:=U fq;have br:=U B;clear fq B hB hrel ev eB;cases hQ
      .clear ds el br;go_wp2_with fail
       apply D.mono;rintro gk C⟨rfl,ht⟩;subst C;clear D g0 g1 g2 g3;go_wp2;go_roundw;case rel=>first|exact⟨1,1,by omega,rfl,rfl,HR,bq _ au bp.symm⟩|exact⟨2,2,by omega,rfl,rfl,HR,bq _ au bp.symm⟩|exact⟨3,3,by omega,rfl,rfl,HR,bq _ au bp.symm⟩|exact⟨4,4,by omega,rfl,rfl,HR,bq _ au bp.symm⟩
       case measure=>simp[intOf]
      .have cM:=U<|ds rfl;clear ds;go_wp2_with fail
       apply D.mono;rintro gk C⟨rfl,ht⟩;subst C;clear D;go_wp2_with fail
       rename_i QQ KK bc;have hS:wr.drew.heap[f]?=H (ar #[J p0 n0 q0,J p1 n1 q1,J p2 n2 q2,J p3 n3 q3] 102 (0,0)):=ae br;refine kV (λ(w:Y)=>w.heap[f]?=H (ar #[J p0 n0 q0,J p1 n1 q1,J p2 n2 q2,J p3 n3 q3] 102 (0,0))) 6 (by kernel_rfl) ?_;refine lE 0 ?_;iterate 3 (refine Bu (v:=?_) hS rfl (by kernel_rfl) iW rfl ?_ ?_;rotate_left;(focus(intro w hX;have x0:aO w (R f 0)=H (J p0 n0 q0):=(by rw[bL hX];rfl);have x1:aO w (R f 1)=H (J p1 n1 q1):=(by rw[bL hX];rfl);have x2:aO w (R f 2)=H (J p2 n2 q2):=(by rw[bL hX];rfl);have x3:aO w (R f 3)=H (J p3 n3 q3):=(by rw[bL hX];rfl);go_simp;try rfl));simp only[Act.put,dD,Nat.reduceAdd])
       apply qd;refine gL (i:=3) rfl rfl (by kernel_rfl) ?_;intro K3 av;go_simp;apply(el wr.drew<|ci _ _).mono;rintro gk wm⟨vm,lm,rfl,fz,ec,ef⟩;obtain⟨hx,he,hs⟩:=aA ec;subst hs;have bh:=cM wm hx he lm ef ec fz;have ey:wm.heap[f]?=H (ar #[J p0 n0 q0,J p1 n1 q1,J p2 n2 q2,J p3 n3 q3] 102 (0,0)):=(ef.block f (am br) id).trans br;refine av _ _ (λ_=>ey) ?_;try simp only[Act.put,dD]
       refine gL (i:=4) rfl rfl (by kernel_rfl) ?_;intro K4 ax;go_simp;apply bh.mono;rintro gk C⟨r0,r1,r2,r3,m0,m1,m2,m3,t0,t1,t2,t3,rfl,l,ez,bk,fb⟩;have gs:=U fb;clear fb;have g0:=cellAt l 0 rfl;have f0:=dE (i:=0) l;have g1:=cellAt l 1 rfl;have f1:=dE (i:=1) l;have g2:=cellAt l 2 rfl;have f2:=dE (i:=2) l;have g3:=cellAt l 3 rfl;have f3:=dE (i:=3) l;have hd:=U ez;have cT:=U bk;clear ez bk;refine ax _ _ (λ_=>l) ?_;try simp only[Act.put,dD]
       refine gL (i:=5) rfl rfl (by kernel_rfl) ?_;intro K5 ba;go_simp;refine ba _ _ (λ_=>l) ?_;try simp only[Act.put,dD]
       clear av ax ba;apply GL KK
       .intro eg;refine DW (i:=6) (j:=7) rfl rfl rfl rfl (by kernel_rfl) ?_ ?_
        .intro K6 al;go_simp;refine al _ _ (λr=>(by omega)) ?_;try simp only[Act.put,dD]
         refine DW (i:=7) (j:=8) rfl rfl rfl rfl (by kernel_rfl) ?_ ?_
         .intro K7 E;go_simp;refine E _ _ (λr=>(by omega)) ?_;try simp only[Act.put,dD]
          refine gL (i:=8) rfl rfl (by kernel_rfl) ?_;intro K8 F;go_simp;refine F _ _ (λr=>(by omega)) ?_;try simp only[Act.put,dD]
          refine gL (i:=9) rfl rfl (by kernel_rfl) ?_;intro K9 bb;go_simp;refine bb _ _ (λr=>(by omega)) ?_;try simp only[Act.put,dD]
          refine kW (by kernel_rfl) ?_ _;exact eg
         .intro K8 F;go_simp;refine F _ _ (λr=>(by omega)) ?_;try simp only[Act.put,dD]
          refine gL (i:=7) rfl rfl (by kernel_rfl) ?_;intro K7 E;go_simp;refine E _ _ (λr=>(by omega)) ?_;try simp only[Act.put,dD]
          refine gL (i:=9) rfl rfl (by kernel_rfl) ?_;intro K9 bb;go_simp;refine bb _ _ (λr=>(by omega)) ?_;try simp only[Act.put,dD]
          refine kW (by kernel_rfl) ?_ _;exact eg
        .intro K7 E;go_simp;refine E _ _ (λr=>(by omega)) ?_;try simp only[Act.put,dD]
         refine gL (i:=6) rfl rfl (by kernel_rfl) ?_;intro K6 al;go_simp;refine al _ _ (λr=>(by omega)) ?_;try simp only[Act.put,dD]
         refine gL (i:=8) rfl rfl (by kernel_rfl) ?_;intro K8 F;go_simp;refine F _ _ (λr=>(by omega)) ?_;try simp only[Act.put,dD]
         refine gL (i:=9) rfl rfl (by kernel_rfl) ?_;intro K9 bb;go_simp;refine bb _ _ (λr=>(by omega)) ?_;try simp only[Act.put,dD]
         refine kW (by kernel_rfl) ?_ _;exact eg
       apply bc;clear bc hS ey ec ef fz l bh;go_wp2;go_roundw;case rel=>exact⟨hd,gt _ _ au gs⟩
       case measure=>
        rw[ae ek,ae ek];exact cT
   .obtain⟨rfl,rfl⟩:t=4/\gj=4:=by omega
    clear hI;obtain⟨v0,v1,v2,v3,a1,b1,c1,d1,hu,hV⟩:=dm;obtain⟨p0,q0,rfl⟩:=bM hV.ls.r0;obtain⟨p1,q1,rfl⟩:=bM hV.ls.r1;obtain⟨p2,q2,rfl⟩:=bM hV.ls.r2;obtain⟨p3,q3,rfl⟩:=bM hV.ls.r3;have g0:=cellAt hV.lb 0 rfl;have g1:=cellAt hV.lb 1 rfl;have g2:=cellAt hV.lb 2 rfl;have g3:=cellAt hV.lb 3 rfl;have hc:=U<|λa' b' c' d'(q:C4 a1 b1 c1 d1 a' b' c' d')=>(ae aq).tid hV.lb q;have cc:=U<|W f wr _ _ _ _ a1 b1 c1 d1 hu hV;clear hV;go_wp2_with fail
    apply cc.mono;rintro gk C⟨rfl,K',num,a',b',c',d',hO,eA⟩;have HO:=U hO;have HT:=U<|hc _ _ _ _ eA;clear hO eA cc;go_wp2;go_ret;exact⟨rfl,_,_,_,_,K',num,a',b',c',d',HO,HT⟩
section
variable{w:Y}{sbqq:M}{s:SR}{K:DK}{m e:cJ}{a b c d:cf}{C tbqq N:M}{lsqq:dL}{sn:fh}
theorem uX(sn:fh)(m e:cJ):(gw sn m e).Sublist (fH m e):=js _ _
theorem yw(sn:fh)(m e:cJ):y (gw sn m e)<=y m+y e:=aC (uX sn m e).length_le<|xy m e
theorem Bx{x:E}(h:x∈gw sn m e):x∈m\/x∈e:=xN<|(uX sn m e).subset h
theorem yu(h:dM m)(sn:fh)(e:cJ):dM (gw sn m e):=(h.fH e).sub<|uX sn m e
theorem yt(h:dM m)(f:y sn<=4)(e:cJ):rq 5 (gw sn m e):=(yx<|h.fH e).mono (by rw[oY];omega)
theorem GY(k:gN m){f:Z}(j:∀x∈m,x.bP<=f)(i:∀g∈e,g.key≠⟨#[]⟩)(h:∀g∈e,g.bP=f+1)(sn:fh):jQ (f+1) (gw sn m e)=gQ (jQ f m) e:=by
 have:=xE (rest:=[]) (ms:=qY sn) k (by simp) i h j (by simp);unfold gw;grind
theorem Inv.EU(h:Inv w sbqq s K m a b c d C tbqq N lsqq sn)(g:∀x∈e,x.Good)(i:∀x∈e,x.bP=(s.aW:Z)+1):(∀x∈gw sn m e,x.Good)/\(∀x∈gw sn m e,(tbqq:Z)<x.bP/\x.bP<=(s.aW:Z)+1)/\jQ ((s.aW:Z)+1) (gw sn m e)=gQ (gQ [] lsqq.flatten) e:=by
 have j:=h.Bq;refine⟨λx f=>(Bx f).elim (h.st.iX x)<|g x,λx f=>?_,?_⟩;rcases Bx f with q|q;have:=h.Oa x q;omega;grind
 rw[GY h.row (λx f=>(h.Oa x f).2) (λk j=>uk<|g k j) i sn,h.mem]
theorem Inv.VA(k:Inv w sbqq s K m a b c d C tbqq N lsqq sn)(j:∀x∈e,x.Good)(h:∀x∈e,x.bP=(s.aW:Z)+1){t:Z}(f:t∈qY sn)(q:ab):eY t (gw sn m e::bV a b c d) q=eY t (m::bV a b c d) q:=by
 have g:t<=s.aW:=by unfold qY at f;obtain⟨p,i,rfl⟩:=bW.1 f;exact_mod_cast k.UN p i
 unfold eY;rw[show gw sn m e=dI (qY sn) (fH m e)from rfl,Ev k.row (λl i=>uk<|j l i) h f g]
theorem Inv.VE(h:Inv w sbqq s K m a b c d C tbqq N lsqq sn)(j:∀x∈e,x.Good)(g:∀x∈e,x.bP=(s.aW:Z)+1)(q:ab):eY ((s.aW:Z)+1) (gw sn m e::bV a b c d) q=seen (gQ (jQ s.aW m) e::(bV a b c d).map (jQ s.aW)) q:=by
 unfold eY;rw[show gw sn m e=dI (qY sn) (fH m e)from rfl,xE h.row h.pr.row (λl i=>uk<|j l i) g (λx f=>(h.Oa x f).2) (λr k x f=>by have n:=h.pr.low x<|bE.2 ⟨r,k,f⟩;have:=h.Bq;omega)]
end
def SR.EU(s:SR)(c:aa)(a:M)(b:Bool):SR:={s with memory:=c,gK:=s.gK+a,aW:=s.aW+1,gE:=bU,kB:=bU,kA:=b}
def Yr(h:∀x∈e,x.Good)(c:y e<=8):kE (Dv m e):=by
 have a:kE (iG m e):=by unfold iG;refine(kE.le 8 _).append ?_;intro x b;rcases bH.1 b with q|q;rw[q];constructor<;>omega;exact FA h x q
 unfold Dv iM;exact((((kE.le 4 _).append<|kE.le 4 _).append<|kE.le 4 _)).append a
def OU{s:SR}{hv hw:cf}(sn:fh)(h:bJ a b s m)(f:Inv a b s j e o r hv hw c g l k sn)(he:kr a d L)(ex:∀m,ct d=H m->Aside a j s.aH b m)(bq:0<y L)(h8:y L<=8)(hg:∀fl∈L,fl.Good)(hd:∀fl∈L,fl.bP=(s.aW:Z)+1)(hm:s.gK+y L<32)(hC:c+y L<=1000000)(hN:l+1<=100000000):cD bz 89 #[ay b,d] a λbm w'=>bm=aL .nilIface/\∃mv F K',bJ w' b (s.EU mv (y L) F) m/\Inv w' b (s.EU mv (y L) F) K' (gw sn e L) o r hv hw (c+y L) g (l+1) (k++[L]) sn/\fY a w' s.aH b j K':=by
 have cB:=f.st;have al:=am h;have cx:s.log<18446744073709551616:=by have:=f.qF.lt;have:=f.nx;have:=f.lV;omega
 have ca:=wu s.log cx cB.kC.pow;obtain⟨eb,eo,fn,gg,bb,V⟩:∃cp t K,d=bB cp t (y L) K/\y L<=K/\∀cT fk,(aF L)[cT]?=H fk->aO a (R cp<|t+cT)=H fk:=by obtain⟨_,⟨q1,q2⟩|⟨cp,t,K,q1,q4,O⟩⟩:=he;omega;grind
 have cl:=U bb;clear bb;subst gg;have S:=ex eb rfl;obtain⟨mx,mc,gj⟩:=bM cB.mem;have fL:=bJ.cellAt h 17 rfl;obtain⟨w,HH,HE,HG,HB,dv,cm⟩:=xV f h V hg hd ca gj;clear f cB h he ex V hg hd ca;obtain⟨lg,cv⟩:∃lg,s.gE=lg:=⟨_,rfl⟩;have hh:∀(fl:Bool)(a:Y),(Op.unary .not<|aK fl).run bz a=.ok (aK<|!fl) a:=λ_ _=>rfl;go_in
 go_wp2_with fail
 apply dv.mono;rintro bm w1⟨rfl,es⟩;have bs:I az a w1:=I.aR es;have ev:fY a w1 s.aH b j j:=⟨w.st.aH.aw bs<|λ_ _=>id,bs.mono cO,λ_ q=>.inl q⟩;have p:bJ w1 b s m:=(bs.block b al id).trans HH;have gr:aO w1 (R b 18)=H (aK lg):=by rw[<-cv];exact p.cell rfl
 have k2:=bJ.cellAt p 2 rfl;have gs:=bJ.cellAt p 21 rfl;have gb:w1.frozen? (R b 18)=aY:=p.free;have gc:w1.frozen? (R b 21)=aY:=p.free;obtain⟨P,ck,an⟩:=dA p ev cv;clear es bs p ev cv fL;cases lg
 case' true=>
  go_wp2_with fail
  obtain⟨Q,C⟩:∃Q,w1=Q:=⟨_,rfl⟩;obtain⟨F,bd⟩:∃F,s.kA=F:=⟨_,rfl⟩;have HX:=U (show∃x W,fY a Q s.aH b j x/\sd x.files (iQ s.log)=H W/\W.bytes=lM ((g:Z)+1) k/\y x.eJ<=y j.eJ+1/\(∀q E,tu (vw x.files) (iQ s.log,E)=q->∀bl,dX q bl=if iQ s.log=bl then H E else dX (vw j.files) bl)/\ij (vw x.files)=ij (vw j.files)/\bJ Q b {s with gE:=bU,kA:=F} m from by
   obtain⟨W,q1,q2⟩:=ju<|w.qF.log an;refine⟨j,W,by rw[<-C];exact ck,q1,q2,by omega,λq E bm bl=>by rw[<-bm,vD],rfl,?_⟩;rw[<-C,<-bd];have:=ae P;have bm:s={s with gE:=bU,kA:=s.kA}:=by rw[<-ae an]
   rw[<-bm];exact this)
  rw[C];clear C bd
 case' false=>
  have O:dX (vw j.files) (iQ s.log)=none:=by
   cases q:dX (vw j.files) (iQ s.log)with
   |none=>rfl
   |some E=>
    rcases w.qF.names _ _ q with bm|⟨_,bm⟩|⟨hz,_,bm⟩
    .grind[sq]
    .rw[ae an]at bm;cases bm
    .exact absurd bm.symm<|mZ _ _
  have eu:=Dg (iQ s.log) ck.ok (BY<|wz O) (by have:=w.eJ;have:=w.lV;omega);go_wp2_with fail
  apply eu.mono;rintro bm w2⟨rfl,x,bp,ey,eB⟩;have fb:¬j.aU s.aH b:=w.st.qZ;have t:bJ w2 b s m:=(bp.aw.block b (am P) fb).trans P;have cd:¬x.aU s.aH b:=bp.AA fb<|am P;have gr:aO w2 (R b 18)=H (aK aY):=by rw[<-ae an];exact t.cell rfl
  have k2:=bJ.cellAt t 2 rfl;have gs:=bJ.cellAt t 21 rfl;have gb:w2.frozen? (R b 18)=aY:=t.free;have gc:w2.frozen? (R b 21)=aY:=t.free;obtain⟨dk,fr,fu,fv,bv,K⟩:=jX t bp ey eB cd O;clear t bp ey eB cd eu O;go_wp2_with fail
  obtain⟨Q,C⟩:∃Q,cA (cA w2 (R b 18)<|aK bU) (R b 21) (aK bU)=Q:=⟨_,rfl⟩;obtain⟨F,bd⟩:∃F,bU=F:=⟨_,rfl⟩;have HX:=U (show∃x W,fY a Q s.aH b j x/\sd x.files (iQ s.log)=H W/\W.bytes=lM ((g:Z)+1) k/\y x.eJ<=y j.eJ+1/\(∀q E,tu (vw x.files) (iQ s.log,E)=q->∀bl,dX q bl=if iQ s.log=bl then H E else dX (vw j.files) bl)/\ij (vw x.files)=ij (vw j.files)/\bJ Q b {s with gE:=bU,kA:=F} m from by
   have gi:k=[]:=w.qF.Ie an;have cM:vw x.files=vw j.files++[(iQ s.log,[])]:=by rw[ae fu];simp[vw]
   have eA:dX (vw x.files) (iQ s.log)=H []:=by rw[cM,jM,ae K];simp[dX]
   obtain⟨W,q1,q2⟩:=ju eA;refine⟨x,W,?_,q1,by rw[q2,gi];rfl,by rw[ae fv];omega,λq E bm bl=>?_,by rw[cM,uK];simp[ij],?_⟩
   .rw[<-C];exact((ck.trans<|fY.of fr).set bv _ _).set bv _ _
   .rw[<-bm,cM,Iu [] E K,jM];by_cases cp:iQ s.log=bl
    .rw[dz cp,<-cp,ae K];simp[dX]
    .rw[dr cp];cases dX (vw j.files) bl<;>simp[dX,cp]
   .rw[<-C,<-bd];exact(aT (aT dk)).trans rfl)
  rw[C];clear C bd
 all_goals
  obtain⟨x,W,ac,ef,bx,cb,bc,bk,cq⟩:=ae HX;have ce:¬x.aU s.aH b:=ac.sb w.st.qZ al;have bi:=w.st.WQ al ac (λbl=>by
   have:=bc _ W.bytes rfl (fC bl);rw[dr (λq=>mZ _ _ q.symm)]at this;rw[<-this];grind[kI,Kg,Ca])
  have ax:=S.eW ac;have ba:∀cT fk,(aF L)[cT]?=H fk->aO Q (R eb<|eo+cT)=H fk:=λcT fk hj=>S.cell ac<|HE cT fk hj;have bg:=OV L eb eo fn Q.drew (λcT hj=>bi.kC.steps cT hj) ax.lt ba bq HG h8;have ed:(L[0]'bq).bP=(g:Z)+1+y k:=by
   have h1:=HB _<|ak bq;have h2:=w.Bq;rw[h1,h2];grind
  rw[ed]at bg;have k2:=bJ.cellAt cq 2 rfl;obtain⟨dm,dn,bu,dx,ds,co⟩:=jX ac ef bx cb bc bk;obtain⟨dc,ha,ea,dT,gv,gt⟩:=jX cq bi ce bg ba ax;clear ac ef bx cb bc bk cq bi ce bg ed ba ax;rename_i QQ KK ek;have el:aO Q.drew (R b 2)=H (ay s.aH):=k2;refine cI (λ(ec:Y)=>aO ec (R b 2)=H (ay s.aH)) 8 (by kernel_rfl) ?_;refine cY 0 ?_;iterate 6 (refine eM (v:=?_) el rfl (by kernel_rfl) iW rfl ?_ ?_;rotate_left;(focus(intro ec hX;go_simp;try rfl));simp only[Act.put,dD,Nat.reduceAdd])
  apply eC;refine aM (i:=6) rfl rfl (by kernel_rfl) ?_;intro K6 eg;go_simp;apply dT.mono;rintro bm w4⟨v4,rfl,br,fe⟩;have B:I az Q w4:=(ci az Q).cr fe;have em:aO w4 (R b 2)=H (ay s.aH):=B.cell k2 id<|nh k2;refine eg _ _ (λ_=>em) ?_;clear eg;try simp only[Act.put,dD]
  obtain⟨E,X⟩:∃E,Dv ((g:Z)+1+y k) L=E:=⟨_,rfl⟩;rw[X]at br;have ge:y E<=400:=by rw[<-X];exact CK HG h8
  have et:0<y E:=by rw[<-X];unfold Dv;rw[af,gy];omega
  obtain⟨vb,vc,gk,ff,ch,_⟩:=uE br et;subst gk;have eq:=IN (db:=s.aH) (K:=x) (iQ s.log) W vb 0 vc E (w:=w4) (dm.ok.aw B<|λ_ _=>id) dn (by
   rw[KZ,ae co];have:=w.qF.total w.st.aH.nodup w.OK.1 w.DZ;omega) (by rw[<-X];exact Yr HG h8) (λcT fk hj=>by
    have:=pH br cT fk hj;rwa[du]at this) ch (by rw[ae bu];have:=w.OK.1;omega)
  refine aM (i:=7) rfl rfl (by kernel_rfl) ?_;intro K7 ei;go_simp;apply eq.mono;rintro bm w5⟨rfl,K5,av,⟨x5,ez⟩,eF⟩;have cs:bJ w4 b {s with gE:=bU,kA:=F} m:=(B.block b (am dc) id).trans dc;have aq:bJ w5 b {s with gE:=bU,kA:=F} m:=(av.aw.block b (am cs) ea).trans cs;refine ei _ _ (λ_=>aq.cell rfl) ?_;clear ei eq;try simp only[Act.put,dD]
  refine aM (i:=8) rfl rfl (by kernel_rfl) ?_;intro K8 ej;go_simp;refine ej _ _ (λq=>(q rfl).elim) ?_;refine cW (by kernel_rfl) ?_ _;show KK _ _;apply ek;clear ek ej el em;have au:fY a w5 s.aH b j K5:=dm.trans ⟨av.ok,(B.mono (T:=λm=>x.aU s.aH m\/m=b) cO).trans av.aw<|λ_ q=>.inl<|.inl q,λm q=>(av.aU m q).imp id<|λcp=>aC B.size cp⟩;have bh:¬K5.aU s.aH b:=au.sb w.st.qZ al;have cj:vw K5.files=tu (vw x.files) (iQ s.log,lM ((g:Z)+1)<|k++[L]):=by
   rw[ez,DY,Ss,X,<-ae bu];show tu _ (W.name,_)=_;rw[(kI<|ae dn).1]
  have N:∀bl,dX (vw K5.files) bl=if iQ s.log=bl then H (lM ((g:Z)+1)<|k++[L])else dX (vw j.files) bl:=λbl=>by rw[cj];exact ds _ _ rfl bl
  have hu:=bJ.cellAt aq 20 rfl;have hi:w5.frozen? (R b 20)=aY:=aq.free;obtain⟨W6,en⟩:∃W6,cA w5 (R b 20) (aK bU)=W6:=⟨_,rfl⟩;have bo:bJ W6 b {s with gE:=bU,kA:=F,kB:=bU} m:=by rw[<-en];exact(aT aq).trans rfl
  have u:fY a W6 s.aH b j K5:=by rw[<-en];exact au.set bh _ _
  have A:=w.st.WQ al u (λbl=>by rw[N,dr<|λq=>mZ _ _ q.symm]);have bT:=S.eW u;have bf:=A.mem;rw[ae cm]at bf;obtain⟨mb,m1,m2,m3⟩:=(w.oU.eW u).ex;have bt:=Bw b {s with gE:=bU,kA:=F,kB:=bU} m sn (bB eb eo (y L) fn) L bo m1 m2 w.oU.len A.mem (λm a=>(A.tg m a).lt) ⟨fP L,.inr ⟨eb,eo,fn,rfl,cl,λcT fk hj=>S.cell u<|HE cT fk hj⟩⟩ (λm a=>by cases a;exact bT.lt) A.mh (by have:=w.Yg;omega);have bt:cD bz 88 #[ay b,bB eb eo (y L) fn] W6 λbm w'=>∃a,bm=aL a/\w'.ownsRow (z<|G W6) 180 4 a (y<|gw sn e L) (aF<|gw sn e L)/\I az W6 w':=bt;have k7:aO W6 (R b 7)=H (J mx (y e) mc):=by rw[<-ae cm];exact bo.cell rfl
  obtain⟨n,dd,fs,hb,ao,fx⟩:=jX N bo u A bh eF;clear au cj N cs aq av ez eF br fe B bo u A bT bf bh X ge et ff ch;go_wp2_with fail
  apply bt.mono;rintro bm w7⟨v7,rfl,ad,cE⟩;obtain⟨x7,c7,gn⟩:=aA ad;subst gn;have D:bJ w7 b {s with gE:=bU,kA:=F,kB:=bU} m:=(cE.block b (am dd) id).trans dd;have k7:aO w7 (R b 7)=H (J mx (y e) mc):=by rw[<-ae cm];exact D.cell rfl
  have k8:=bJ.cellAt D 8 rfl;have k9:=bJ.cellAt D 9 rfl;have f7:w7.frozen? (R b 7)=aY:=D.free;have f8:w7.frozen? (R b 8)=aY:=D.free;have f9:w7.frozen? (R b 9)=aY:=D.free;have hk:s.aW<=l:=w.bn;have ho:IntKind.i64.wrap ((s.gK:Z)+(y L:Z))=(s.gK:Z)+(y L:Z):=by rw[bw];omega
  have hr:IntKind.u64.wrap ((s.aW:Z)+1)=(s.aW:Z)+1:=by rw[gZ];omega
  obtain⟨fq,fz,cn⟩:=dA D ad cE;clear D ad cE bt;go_wp2;go_ret;have f:=ae w;have u:=ae fs;have hf:=yw sn e L;obtain⟨n1,n2,n3⟩:=f.EU HG HB;have cu:fY a (cA (cA (cA w7 (R b 7)<|J x7 (y<|gw sn e L) c7) (R b 8)<|ap<|(s.gK:Z)+(y L:Z)) (R b 9)<|aJ<|(s.aW:Z)+1) s.aH b j K5:=by
   have h1:fY a w7 s.aH b j K5:=u.trans ⟨u.ok.aw cn<|λ_ _=>id,cn.mono cO,λ_ q=>.inl q⟩;exact((h1.set ao _ _).set ao _ _).set ao _ _
  have fd:=f.st.WQ al cu (λbl=>by rw[(ae n),dr<|λq=>mZ _ _ q.symm]);have ad:=ae fz;have hc:=cn.size;have hs:z (G a)<=z (G W6):=u.aw.size;have cc:∀q,ct (J x7 (y<|gw sn e L) c7)=H q->z (G W6)<=q/\q<z (G w7):=λq hq=>ad.lt q hq;have hl:=u.ok.lt;refine⟨rfl,J x7 (y<|gw sn e L) c7,F,K5,?_,?_,cu⟩
  .exact(aT<|aT<|aT fq).trans rfl
  .refine{st:=?_,qF:=?_,pr:=f.pr,lp:=?_,mem:=?_,Oa:=?_,Xx:=?_,Ze:=yt f.st.mh f.oU.len L,oU:=(f.oU.eW cu).fields ⟨rfl,rfl⟩,UN:=λhy hp=>(by have:=f.UN hy hp;show hy.2<=s.aW+1;omega),Bq:=?_,Ut:=?_,vU:=f.vU,EW:=f.EW,nx:=?_,bn:=?_,eJ:=?_,Mg:=f.Mg,loose:=λ_=>rfl,VQ:=λ_=>(by simp),lV:=hN}
   .refine fd.Vh (C':=c+y L) ⟨rfl,rfl,rfl,rfl,rfl⟩ ?_ ?_ (yu f.st.mh sn L) n1 (by omega) hC
    .show Row _ 4 (J x7 (y<|gw sn e L) c7) _ _;refine da ((((ad.kept (de _ _ _ _) ?_).kept (de _ _ _ _) ?_).kept (de _ _ _ _) ?_))<;>exact .inr (λq=>by have:=(cc b q).1;omega)
    .intro q hq;have h1:=cc q hq;refine⟨?_,λcp=>?_,by omega⟩
     .simp_all
     grind
   .refine{names:=λbl E hn=>?_,state:=?_,log:=λ_=>?_,Ie:=λq=>(by cases q),wT:=λhz ht=>?_,yW:=f.qF.yW,low:=f.qF.low,lt:=f.qF.lt,iX:=f.qF.iX}
    .rw[ae n]at hn;by_cases cp:iQ s.log=bl
     .exact .inr<|.inl ⟨cp.symm,rfl⟩
     .rw[dr cp]at hn;rcases f.qF.names _ _ hn with q|⟨q,_⟩|q
      .exact .inl q
      .exact absurd q.symm cp
      grind
    .rw[ae n,dr<|sq _];exact f.qF.state
    .rw[ae n];show(if iQ s.log=iQ s.log then _ else _)=_;rw[dz rfl]
    .rw[ae n,dr<|λq=>mZ _ _ q.symm];exact f.qF.wT hz ht
   .have gf:=f.Bq;refine f.lp.snoc HG (λfl hx=>?_) ⟨bq,h8⟩ ?_ ?_
    .rw[(ae HB) fl hx,gf];grind
    .have:=f.Ut;omega
    grind
   .show jQ ((s.aW+1:M):Z) (gw sn e L)=_;rw[dB,bG,iB,ee,zk,<-n3];grind
   .intro fl hx;have:=n2 fl hx;show _/\fl.bP<=((s.aW+1:M):Z);grind
   .rw[aQ,eR];have:=f.Xx;grind
   .show s.aW+1=g+y (k++[L]);have:=f.Bq;rw[af];grind
   .show s.gK+y L=_;rw[aQ,eR,f.Ut];simp
   .show s.next<=_;have:=f.nx;omega
   .show s.aW+1<=l+1;omega
   .have h1:=f.eJ;have h2:=ae fx;have h3:=ae dx;rw[h2];omega
def Inv.mono{s b t u:cf}{d:M}{q:fh}(h:Inv a c n j e s b t u g A Q k q)(v:g<=l)(m:l<=1000000)(r:Q<=d)(o:d<=100000000):Inv a c n j e s b t u l A d k q:={h with st:={h.st with qf:=by have:=h.st.qf;omega,lV:=m},nx:=by have:=h.nx;have:1000001*Q<=1000001*d:=Nat.mul_le_mul_left _ r;omega,bn:=by have:=h.bn;omega,eJ:=by have:=h.eJ;omega,lV:=o}
def Inv.eW{s s':SR}{E b F K:cf}{u:fh}(h:Inv a c s j e E b F K g l A k u)(o:c<z (G a))(r:fY a f s.aH c j P)(t:vw P.files=vw j.files)(L:y P.eJ<=y j.eJ)(d:s'={s with kB:=s'.kB,kA:=s'.kA,closed:=s'.closed})(n:s'.kB=bU->s.gE=bU):Inv f c s' P e E b F K g l A k u:=by
 have p:=(h.st.eW o r t).fields (s':=s') (by rw[d];grind) (by rw[d]);have q:s'.next=s.next:=by rw[d]
 have v:s'.log=s.log:=by rw[d]
 have m:s'.gE=s.gE:=by rw[d]
 have i:s'.aW=s.aW:=by rw[d]
 have w:s'.gK=s.gK:=by rw[d]
 have x:s'.vU=s.vU:=by rw[d]
 have B:s'.mem=s.mem:=by rw[d]
 have C:s'.qQ=s.qQ:=by rw[d]
 have D:s'.aH=s.aH/\s'.lW=s.lW:=by rw[d];grind
 exact⟨p,by rw[t,q,v,m];exact h.qF,h.pr,h.lp,by rw[i];exact h.mem,by rw[i];exact h.Oa,h.Xx,h.Ze,(h.oU.eW r).fields D,by rw[i];exact h.UN,by rw[i];exact h.Bq,by rw[w];exact h.Ut,by rw[x];exact h.vU,h.EW,by rw[q];exact h.nx,by rw[i];exact h.bn,by have:=h.eJ;omega,by rw[B,C];exact h.Mg,by rw[m];exact n,by rw[m];exact h.VQ,h.lV⟩
def Inv.safe{s:SR}{v b w x:cf}{t:fh}(h:Inv a c s j e v b w x g l A k t)(o:bJ a c s m):cD bz 62 #[ay c] a λB i=>B=aL .nilIface/\∃d,fY a i s.aH c j d/\vw d.files=vw j.files/\bJ i c {s with kB:=aY,kA:=aY} m/\Inv i c {s with kB:=aY,kA:=aY} d e v b w x g l A k t:=by
 refine(AE o h.st.aH h.st.qZ h.st.kC.pow (by have:=h.qF.lt;have:=h.nx;have:=h.lV;omega) (λq=>⟨_,h.qF.log<|h.loose q,by have:=h.OK.1;omega⟩) (by have:=h.eJ;have:=h.lV;omega)).mono ?_;rintro B i⟨rfl,d,p,r,u,n⟩;exact⟨rfl,d,p,r,n,h.eW (am o) p r u rfl<|λq=>(by cases q)⟩
theorem FH{c:Qz}(a:1<=c.key.size/\c.key.size<=8)(f:c.del=aY->c.val.size<=16)(b:0<=m)(d:m<18446744073709551616):(ma m c).Good:=by
 refine⟨a.1,a.2,?_,?_,b,d⟩
 .unfold ma;cases q:c.del with
  |true=>simp[ByteArray.size]
  |false=>grind
 intro q;have e:c.del=bU:=q;simp[ma,e]
def GR(s:SR)(a b c:cf):Prop:=(s.gK:Z)<s.mem/\C2 s.qQ a b c
structure Gh(w w':Y)(sb:M)(s:SR)(k:Z)(K:DK)(C N:M)(sn:fh)(nb:M)(R0:Z->ab->Option ab)(s':SR)(K':DK)(m':cJ)(a' b' c' d':cf)(tb':M)(ls':dL):Prop where
 box:bJ w' sb s' k
 inv:Inv w' sb s' K' m' a' b' c' d' C tb' N ls' sn
 uC:∀t,(t∈qY sn\/t=(nb:Z))->∀q,eY t (m'::bV a' b' c' d') q=R0 t q
 eW:fY w w' s.aH sb K K'
 same:s'.aH=s.aH/\s'.closed=s.closed/\s'.mem=s.mem/\s'.qQ=s.qQ/\s'.ie=s.ie/\s'.lW=s.lW
 Bq:s'.aW=nb
 tid:GR s' a' b' c'
def nY(w n:Y)(a:M)(s:SR)(o:Z)(K:DK)(C N:M)(m:fh)(k:M)(e:Z->ab->Option ab):Prop:=∃l d j f g h i c b,Gh w n a s o K C N m k e l d j f g h i c b
def nY.aw{x p w':Y}{o:fh}{e:Z->ab->Option ab}(h:nY p w' c n m j g l o A e)(k:I az x p):nY x w' c n m j g l o A e:=by
 obtain⟨w,r,v,s,b',t,u,d,a,h⟩:=h;exact⟨w,r,v,s,b',t,u,d,a,h.box,h.inv,h.uC,⟨h.eW.ok,(k.mono (T:=λm=>j.aU n.aH m\/m=c) cO).trans h.eW.aw<|λ_ q=>.inl q,λm q=>(h.eW.aU m q).imp id<|λB=>aC k.size B⟩,h.same,h.Bq,h.tid⟩
def Inv.yE{d:fh}(p:Inv a b n j e i o r s c g l k d)(f:m∈qY d\/m=(n.aW:Z))(q:ab):eY m (e::bV i o r s) q=eY m (gw d e []::bV i o r s) q:=by
 unfold eY;rw[show gw d e []=dI (qY d) e from rfl,Jo p.row<|f.imp_right (λt x h=>by rw[t];exact(p.Oa x h).2)]
def wM(n:M)(a:cJ):M:=if y a=0 then n else n+1
def XP{bo:cf}(B:fh){O:uP}(an:Bool)(h:bJ a b n m)(hV:Inv a b n j e o r s bo c g l k B)(hT:GR n o r s)(hc:yp a d O)(bT:∀m,ct d=H m->m<z (G a))(h8:y O<=8)(hk:∀ao∈O,1<=ao.key.size/\ao.key.size<=8)(hv:∀ao∈O,ao.del=aY->ao.val.size<=16)(ce:∀ao∈O,ao.val.size<=140737488351232)(hC:c+y O<=1000000)(hN:l+1<=100000000):cD bz 54 #[ay b,d,aK an] a λbk w'=>bk=aL .nilIface/\nY a w' b n m j (c+y O) (l+1) B (wM n.aW<|O.map<|ma<|(n.aW:Z)+1) (λbn=>eY bn<|gw B e (O.map<|ma<|(n.aW:Z)+1)::bV o r s bo):=by
 have cd:=am h;have dk:=hV.bn;have N:=Nk ((n.aW:Z)+1) hc bT (by omega)<|λao hx=>⟨by have:=(hk ao hx).2;omega,ce ao hx⟩;obtain⟨p,Q⟩:∃p,O.map (ma<|(n.aW:Z)+1)=p:=⟨_,rfl⟩;rw[Q]at N|-;have bm:y p=y O:=by rw[<-Q];simp
 have S:∀ao∈p,ao.Good:=λao hx=>by rw[<-Q]at hx;grind[FH]
 have bd:∀ao∈p,ao.bP=(n.aW:Z)+1:=λao hx=>by rw[<-Q]at hx;obtain⟨f,t,rfl⟩:=bW.1 hx;rfl
 obtain⟨ec,eb,cs⟩:=bM hc;subst cs;rw[<-bm]at N hC h8|-;have k9:=bJ.cellAt h 9 rfl;have ea:IntKind.u64.wrap ((n.aW:Z)+1)=(n.aW:Z)+1:=by rw[gZ];omega
 obtain⟨HH,HV,HG,bq,av⟩:=je h hV S bd hT;have ds:y O=y p:=bm.symm;clear h hV S bd hc bT hk hv ce Q bm hT;go_in
 go_wp2_with fail
 apply N.mono;rintro bk L⟨v1,rfl,ba,ad⟩;obtain⟨x1,c1,cB⟩:=aA ba;subst cB;have bl:fY a L n.aH b j j:=⟨HV.st.aH.aw ad<|λ_ _=>id,ad.mono cO,λ_ q=>.inl q⟩;have bx:bJ L b n m:=(ad.block b cd id).trans HH;have bt:Inv L b n j e o r s bo c g l k B:=HV.eW cd bl rfl (ai _) rfl HV.loose;have hA1:∀q,ct (J x1 (y p) c1)=H q->Aside L j n.aH b q:=λq W=>by have f:=ba.lt q W;exact⟨f.2,λg=>by have:=HV.st.aH.lt q g;omega,by omega⟩
 obtain⟨br,aq,x,w,bp,cT⟩:=jX ba ad bx bt hA1 bl;clear ba ad bx bt hA1 bl N HV HH;by_cases hz:y p=0
 .have f:p=[]:=aP hz;have cv:¬(0:Z)<(y p:Z):=by omega
  cases an with
  |true=>
   have X:=w.safe x;go_wp2_with fail
   apply X.mono;rintro bk w2⟨rfl,K2,F,t,E,D⟩;have HP:=U<|show nY L w2 b n m j (c+y p) (l+1) B (wM n.aW p) (λbn=>eY bn<|gw B e p::bV o r s bo)from⟨_,K2,e,o,r,s,bo,g,k,E,D.mono (by omega) hC (by omega) hN,λbn ht q=>by rw[f]at ht|-;exact D.yE ht q,F,⟨rfl,rfl,rfl,rfl,rfl,rfl⟩,by rw[f];rfl,av⟩;clear F t E D X;go_wp2;go_ret;exact⟨rfl,HP.aw aq⟩
  |false=>
   have HP:=U<|show nY L L b n m j (c+y p) (l+1) B (wM n.aW p) (λbn=>eY bn<|gw B e p::bV o r s bo)from⟨n,j,e,o,r,s,bo,g,k,x,w.mono (by omega) hC (by omega) hN,λbn ht q=>by rw[f]at ht|-;exact w.yE ht q,fY.refl w.st.aH,⟨rfl,rfl,rfl,rfl,rfl,rfl⟩,by rw[f];rfl,av⟩;go_wp2;go_ret;exact⟨rfl,HP.aw aq⟩
 .have cv:(0:Z)<(y p:Z):=by omega
  have k8:=bJ.cellAt x 8 rfl;have k3:=bJ.cellAt x 3 rfl;have cj:aO L (R b 19)=H (aK aY):=by rw[<-(ae w).vU];exact x.cell rfl
  have k7:∃mx mc,n.memory=J mx (y e) mc:=by
   obtain⟨ao,s,bk⟩:=bM w.st.mem;grind
  obtain⟨mx,mc,cc⟩:=k7;have k7:aO L (R b 7)=H (J mx (y e) mc):=by rw[<-cc];exact x.cell rfl
  have k9:=bJ.cellAt x 9 rfl;have dn:n.gK<32:=by rw[(ae w).Ut];exact w.lp.sum
  have dT:IntKind.i64.wrap ((n.gK:Z)+(y p:Z))=(n.gK:Z)+(y p:Z):=by rw[bw];omega
  clear cc;by_cases cu:n.mem<=(n.gK:Z)+(y p:Z)
  .go_wp2_with fail
   go_quiet(fail)
   go_wp2_with fail
   obtain⟨f,hU⟩:∃f,L.drewN nq=f:=⟨_,rfl⟩;have A:I az L f:=by rw[<-hU];exact gD _ _ _
   have K:fY L f n.aH b j j:=⟨w.st.aH.aw A<|λ_ _=>id,A.mono cO,λ_ q=>.inl q⟩;have C:bJ f b n m:=(A.block b (am x) id).trans x;have u:Inv f b n j e o r s bo c g l k B:=w.eW (am x) K rfl (ai _) rfl w.loose;have P:∀q,ct (J x1 (y p) c1)=H q->Aside f j n.aH b q:=λq W=>(bp q W).eW K;have V:=A.own br<|λ_ _ q=>q;have au:=U<|aq.cr A;rw[hU];clear hU;have dv:=u.Yg;have bf:wM n.aW p=n.aW+1:=by unfold wM;rw[dr hz]
   have cb:fY f f.drew n.aH b j j:=rm u.st.aH<|below_drewN (Below.refl _ f) 1;obtain⟨mb,m1,m2,m3⟩:=(u.oU.eW cb).ex;have bh:=Bw b n m B (J x1 (y p) c1) p (by exact C) m1 m2 u.oU.len (by exact u.st.mem) (λq W=>(u.st.tg q W).lt) (da<|by exact V) (λq W=>(P q W).lt) u.st.mh (by omega);have ch:cD bz 88 #[ay b,J x1 (y p) c1] f.drew λbk w'=>∃a,bk=aL a/\w'.ownsRow (z<|G f) 180 4 a (y<|gw B e p) (aF<|gw B e p)/\I az f.drew w':=bh;clear bh m1 m2 m3 cb;have bg:∀w6 v6,w6.ownsRow (z<|G f) 180 4 v6 (y<|gw B e p) (aF<|gw B e p)->I az f.drew w6->cD bz 87 #[ay b,v6,aJ<|(n.aW:Z)+1] w6 λbk w'=>bk=aL .nilIface/\nY w6 w' b n m j (c+y p) (l+1) B (wM n.aW p) (λbn=>eY bn<|gw B e p::bV o r s bo):=λw6 v6 T al=>by
    have ac:I az f w6:=(ci az f).cr al;have ca:fY f w6 n.aH b j j:=⟨u.st.aH.aw ac<|λ_ _=>id,ac.mono cO,λ_ q=>.inl q⟩;have t:=u.eW (am C) ca rfl (ai _) rfl u.loose;have cq:bJ w6 b n m:=(ac.block b (am C) id).trans C;have dx:=yw B e p;obtain⟨n1,n2,n3⟩:=t.EU HG bq;have dm:=t.Bq;have cx:=Eo v6 (c+y p) (n.aW+1) cq t.st t.EW t.pr (da T) (λq W=>(T.lt q W).2) (yu t.st.mh B p) (yt t.st.mh t.oU.len p) n1 (by omega) (λao hx=>(n2 ao hx).1) (λao hx=>by have:=(n2 ao hx).2;grind) (by omega) (by have:=t.st.qf;omega) hC t.Mg.2.2.1 t.qF t.OK.1 (by omega) (by have:=t.nx;have:=t.lV;omega) (by have:=t.eJ;have:=t.lV;omega) B t.oU;apply cx.mono;rintro bk w'⟨rfl,v0,v1,v2,v3,K',num,a',b',c',d',hO,cp⟩;exact⟨rfl,_,K',[],a',b',c',d',n.aW+1,[],hO.box,hO.inv t.Mg t.nx (by omega) hN t.oU t.UN (by omega),λbn ht q=>by rw[mJ];exact hO.uC bn (ht.imp_right (λbk=>by rw[bk,bf];grind)) q,hO.eW,⟨rfl,rfl,rfl,rfl,rfl,rfl⟩,bf.symm,by have:=t.Mg.1;show((0:M):Z)<n.mem;omega,cp⟩
   have cM:=bJ.cellAt C 9 rfl;obtain⟨cm,bs,ck,db⟩:=gH ch bg u C;clear ch bg u C P V K A k7 k8 k9 k3 cj;rename_i KK bv;have ax:aO f.drew (R b 9)=H (aJ n.aW):=cM;refine kV (λ(bi:Y)=>aO bi (R b 9)=H (aJ n.aW)) 9 (by kernel_rfl) ?_;refine lE 0 ?_;iterate 3 (refine Bu (v:=?_) ax rfl (by kernel_rfl) iW rfl ?_ ?_;rotate_left;(focus(rintro bi z9;go_simp;try rfl));simp only[Act.put,dD,Nat.reduceAdd])
   apply qd;refine lE 4 ?_;iterate 5 (refine Bu (v:=?_) ax rfl (by kernel_rfl) iW rfl ?_ ?_;rotate_left;(focus(rintro bi z9;go_simp;try rfl));simp only[Act.put,dD,Nat.reduceAdd])
   apply qd;refine gL (i:=3) rfl rfl (by kernel_rfl) ?_;intro K6 bu;go_simp;apply cm.mono;rintro bk w6⟨v6,rfl,T,al⟩;obtain⟨x6,c6,cE⟩:=aA T;subst cE;have co:aO w6 (R b 9)=H (aJ n.aW):=al.cell ax id<|nh ax;refine bu _ _ (λ_=>co) ?_;clear bu;try simp only[Act.put,dD]
   refine gL (i:=9) rfl rfl (by kernel_rfl) ?_;intro dc bb;go_simp;apply(bs w6 _ T al).mono;rintro bk w7⟨rfl,cn⟩;have cl:=U cn;refine bb _ _ (λq=>by omega) ?_;clear bb;try simp only[Act.put,dD]
   refine gL (i:=10) rfl rfl (by kernel_rfl) ?_;intro dd bc;go_simp;refine bc _ _ (λq=>by omega) ?_;refine kW (by kernel_rfl) ?_ _;show KK _ _;apply bv;clear bv bc;go_wp2;go_ret;exact⟨rfl,cl.aw<|(au.cr<|ci az f).cr al⟩
  .go_wp2_with fail
   go_quiet(fail)
   go_wp2_with fail
   obtain⟨f,hU⟩:∃f,L.drewN nq=f:=⟨_,rfl⟩;have A:I az L f:=by rw[<-hU];exact gD _ _ _
   have K:fY L f n.aH b j j:=⟨w.st.aH.aw A<|λ_ _=>id,A.mono cO,λ_ q=>.inl q⟩;have C:bJ f b n m:=(A.block b (am x) id).trans x;have u:Inv f b n j e o r s bo c g l k B:=w.eW (am x) K rfl (ai _) rfl w.loose;have P:∀q,ct (J x1 (y p) c1)=H q->Aside f j n.aH b q:=λq W=>(bp q W).eW K;have V:=A.own br<|λ_ _ q=>q;have au:=U<|aq.cr A;rw[hU];clear hU;have t:=OU B C u (da V) P (by omega) h8 HG bq (by have:=u.Mg;omega) hC hN;have ck:=U u;clear u C P V K A k7 k8 k9 k3 cj;apply t.mono;rintro bk w2⟨rfl,bf,bc,K2,E,D,F⟩;cases an with
   |true=>
    have X:=D.safe E;have ax:=U F;clear t E D F;go_wp2_with fail
    apply X.mono;rintro bk w3⟨rfl,K3,ac,bb,T,al⟩;have HP:=U<|show nY f w3 b n m j (c+y p) (l+1) B (wM n.aW p) (λbn=>eY bn<|gw B e p::bV o r s bo)from⟨_,K3,_,o,r,s,bo,g,_,T,al,λ_ _ _=>rfl,ax.trans ac,⟨rfl,rfl,rfl,rfl,rfl,rfl⟩,by unfold wM;rw[dr hz];rfl,by show((n.gK+y p:M):Z)<n.mem;omega,av.2⟩;clear ac bb T al X;go_wp2;go_ret;exact⟨rfl,HP.aw au⟩
   |false=>
    have HP:=U<|show nY f w2 b n m j (c+y p) (l+1) B (wM n.aW p) (λbn=>eY bn<|gw B e p::bV o r s bo)from⟨_,K2,_,o,r,s,bo,g,_,E,D,λ_ _ _=>rfl,F,⟨rfl,rfl,rfl,rfl,rfl,rfl⟩,by unfold wM;rw[dr hz];rfl,by show((n.gK+y p:M):Z)<n.mem;omega,av.2⟩;clear t E D F;go_wp2;go_ret;exact⟨rfl,HP.aw au⟩
section
open Conc.Locks
theorem Kq{a:uP}(h:lJ a=0):(∀x∈a,1<=x.key.size/\x.key.size<=8)/\∀x∈a,x.del=aY->x.val.size<=16:=by
 induction a with
 |nil=>simp
 |cons c r b=>
  unfold lJ at h;grind
def Dk{a:uP}(h:ga a=0):y a<=8/\(∀x∈a,1<=x.key.size/\x.key.size<=8)/\∀x∈a,x.del=aY->x.val.size<=16:=by
 unfold ga at h;grind[Kq]
def IA(h:bJ a b n m):cD bz 53 #[ay b,.nilIface] a λg e=>g=aL .nilIface/\Below (z<|G<|cA a (R b 6) .nilIface) (cA a (R b 6) .nilIface) e:=by
 have i:=bJ.cellAt h 6 rfl;have j:a.frozen? (R b 6)=aY:=h.free;have d:=It<|cA a (R b 6) .nilIface;clear h;go_in
 go_wp2_with fail
 apply d.mono;rintro g e⟨rfl,c⟩;have f:=U c;clear c d;go_wp2;go_ret;exact⟨rfl,f⟩
def Ae(r:aa)(g:Bool)(h:bJ a b n 0)(m:n.closed=bU):cD bz 20 #[ay b,r,aK g] a λo l=>o=aL (kN 6)/\bJ l b n 0/\I (λw=>w=b) a l:=by
 have q:=bJ.cellAt h 0 rfl;have t:a.frozen? (R b 0)=aY:=h.free;have k:=h.gx 1;have c:=gS k;rw[m]at c;simp only[ir]at c;have p:=U<|λi j=>oK (W2:=i) k (gW b a) j;clear h k m;rw[uL]at c|-;go_enter_defers func20,ntmps20
 go_wp2_with fail
 apply(lock_free (R b 0) _ q t).mono;rintro o l⟨rfl,rfl⟩;go_wp2_with fail
 apply c.mono;rintro o i⟨rfl,j⟩;obtain⟨s,u,d⟩:=p i j;have e:=U d;clear d j c;go_wp2;refine eH (f:=36) (args:=#[ay b]) (by simp) (by simp[go_sem]) ?_;apply(unlock_deferred (R b 0) .returning _ s u).mono;rintro o x v⟨rfl,rfl,rfl⟩;exact⟨_,gm rfl _ _ _,rfl,e⟩
def lk(a:uP):M:=if ga a=0 then y a else 0
def zm(n:M)(a:uP):M:=if ga a=0 then wM n (a.map<|ma<|(n:Z)+1)else n
def xC(c:fh)(m:cJ)(a:dL)(n:Z)(b:uP)(t:Z):ab->Option ab:=if ga b=0 then eY t (gw c m (b.map<|ma n)::a)else eY t (m::a)
def Gh.fin{E:fh}{D:Z->ab->Option ab}{t:SR}(h:Gh a f b n 1 j c g E l D t P e i o r s A k)(u:Below (z<|G<|cA f (R b 6) .nilIface) (cA f (R b 6) .nilIface) C):aO C (R b 0)=H (iO 1)/\C.frozen? (R b 0)=aY/\Gh a (cA C (R b 0)<|iO 0) b n 0 j c g E l D t P e i o r s A k:=by
 have p:¬P.aU n.aH b:=by have:=h.inv.st.qZ;rw[h.same.1]at this;exact this
 have B:=am h.box;have v:bJ (cA f (R b 6) .nilIface) b t 1:=(aT h.box).trans rfl;have d:bJ C b t 1:=v.aw (I.aR (S:=az) u) id;have m:=h.eW.set p 6 .nilIface;have w:=(m.trans<|rm (sbqq:=b) m.ok u).set p 0<|iO 0;have q:=(fY.refl h.inv.st.aH (sbqq:=b)).set h.inv.st.qZ 6 .nilIface;have x:fY f (cA C (R b 0)<|iO 0) t.aH b P P:=(q.trans<|rm (sbqq:=b) q.ok u).set h.inv.st.qZ 0<|iO 0;exact⟨d.cell rfl,d.free,d.gx 0,h.inv.eW B x rfl (ai _) rfl h.inv.loose,h.uC,w,h.same,h.Bq,h.tid⟩
def DR(S:fh){p:uP}(P:Bool)(h:bJ a b n 0)(hV:Inv a b n j e i o r s c g l k S)(hT:GR n i o r)(bd:n.closed=aY)(hc:yp a d p)(aq:∀T,ct d=H T->T<z (G a)/\T≠b)(hz:∀bl∈p,bl.key.size<=140737488351232/\bl.val.size<=140737488351232)(hr:y p<=1000000000)(hC:c+lk p<=1000000)(hN:l+1<=100000000):cD bz 20 #[ay b,d,aK P] a λal B=>al=aL (kN<|ga p)/\nY a B b n 0 j (c+lk p) (l+1) S (zm n.aW p) (xC S e (bV i o r s) ((n.aW:Z)+1) p):=by
 have bg:=am h;have c0:=bJ.cellAt h 0 rfl;have f0:a.frozen? (R b 0)=aY:=h.free;have F:=jY hV.st.aH hV.st.qZ 1;have h1:=h.gx 1;have A:=hV.eW bg F rfl (ai _) rfl hV.loose;have au:I (λT=>T=b) a (cA a (R b 0)<|iO 1):=(gW b a);have X:yp (cA a (R b 0)<|iO 1) d p:=au.row hc<|λT L=>⟨(aq T L).2,(aq T L).1⟩;have t:∀T,ct d=H T->T<z (G<|cA a (R b 0)<|iO 1):=λT L=>by rw[gM];grind
 generalize hW:cA a (R b 0) (iO 1)=Q at F h1 A au X t;have O:=gS h1;rw[bd]at O;have ad:cD bz 37 #[ay b] Q λal B=>al=aL .nilIface/\Below (z<|G Q) Q B:=O;have u:∀Wr,I az Q Wr->cD bz 52 #[d] Wr λal B=>al=aL (kN<|ga p)/\I az Wr B:=λWr a=>MA (a.row X<|λT L=>⟨id,t T L⟩) (λT L=>ag (t T L) a.size) (by omega) hz;have K:ga p=0->∀x,I az Q x->cD bz 54 #[ay b,d,aK P] x λal B=>al=aL .nilIface/\nY a B b n 1 j (c+lk p) (l+1) S (zm n.aW p) (xC S e (bV i o r s) ((n.aW:Z)+1) p):=λw x m=>by obtain⟨q1,q2,q3⟩:=Dk w;have ac:fY Q x n.aH b j j:=⟨A.st.aH.aw m<|λ_ _=>id,m.mono cO,λ_ q=>.inl q⟩;have bc:=A.eW (am h1) ac rfl (ai _) rfl A.loose;have D:bJ x b n 1:=(m.block b (am h1) id).trans h1;(have bb:lk p=y p:=by unfold lk;rw[dz w]);(have bh:xC S e (bV i o r s) ((n.aW:Z)+1) p=λbm=>eY bm (gw S e (p.map<|ma<|(n.aW:Z)+1)::bV i o r s):=by funext bm;unfold xC;rw[dz w]);(have bf:zm n.aW p=wM n.aW (p.map<|ma<|(n.aW:Z)+1):=by unfold zm;rw[dz w]);rw[bb,bh,bf];refine(XP S P D bc hT (m.row X<|λT L=>⟨id,t T L⟩) (λT L=>ag (t T L) m.size) q1 q2 q3 (λbl hx=>(hz bl hx).2) (by rw[<-bb];exact hC) hN).mono ?_;rintro al B⟨rfl,s',K',m',a',b',c',d',ba,ax,C⟩;exact⟨rfl,s',K',m',a',b',c',d',ba,ax,C.box,C.inv,C.uC,(F.trans ac).trans C.eW,C.same,C.Bq,C.tid⟩
 have N:ga p≠0->∀x,I az Q x->aO x (R b 0)=H (iO 1)/\x.frozen? (R b 0)=aY/\nY a (cA x (R b 0)<|iO 0) b n 0 j (c+lk p) (l+1) S (zm n.aW p) (xC S e (bV i o r s) ((n.aW:Z)+1) p):=λw x m=>by have ac:fY Q x n.aH b j j:=⟨A.st.aH.aw m<|λ_ _=>id,m.mono cO,λ_ q=>.inl q⟩;have D:bJ x b n 1:=(m.block b (am h1) id).trans h1;have bb:=(F.trans ac).set hV.st.qZ 0<|iO 0;refine⟨D.cell rfl,D.free,n,j,e,i,o,r,s,g,k,D.gx 0,(hV.eW bg bb rfl (ai _) rfl hV.loose).mono (by omega) hC (by omega) hN,λbm _ q=>by unfold xC;rw[dr w],bb,⟨rfl,rfl,rfl,rfl,rfl,rfl⟩,by unfold zm;rw[dr w],hT⟩
 obtain⟨cx,cc,bi⟩:=bM hc;subst bi;obtain⟨an,ao,HW,V⟩:=gH K N hW u;clear h hV hT F h1 A bd hW K N hc aq X t au hz O u;by_cases w:ga p=0;(.have K:=an w;(have W:kN (ga p)=.nilIface:=by rw[w];rfl);rw[W]at V|-;clear an ao w;(go_enter_defers func20,ntmps20);(go_wp2_with fail);apply(lock_free (R b 0) _ c0 f0).mono;rintro al B⟨rfl,av⟩;rw[ae HW]at av;subst B;(go_wp2_with fail);apply ad.mono;rintro al Wr⟨rfl,E⟩;have v:I az Q Wr:=I.aR E;have u:=V Wr v;clear E ad;(go_wp2_with fail);apply u.mono;rintro al w2⟨rfl,m⟩;have hd:=K w2<|v.cr m;clear K u m v;(go_wp2_with fail);apply hd.mono;rintro al w3⟨rfl,s',K',m',a',b',c',d',ba,ax,C⟩;have bf:=IA C.box;have HO:=U C;clear C hd;(go_wp2_with fail);apply bf.mono;rintro al w4⟨rfl,bc⟩;obtain⟨d0,g0,bb⟩:=HO.fin bc;have bh:=U bb;clear bb bc bf;go_wp2;refine eH (f:=36) (args:=#[ay b]) (by simp) (by simp[go_sem]) ?_;apply(unlock_deferred (R b 0) .returning _ d0 g0).mono;rintro al u' bk⟨rfl,rfl,rfl⟩;exact⟨_,gm rfl _ _ _,rfl,s',K',m',a',b',c',d',ba,ax,bh⟩);have N:=ao w;obtain⟨bb,hn⟩:∃bb,ga p=bb:=⟨_,rfl⟩;(have W:kN (ga p)=.iface 53 (ap bb):=by unfold kN;rw[dr w,hn]);rw[W]at V|-;clear an ao w hn W;(go_enter_defers func20,ntmps20);(go_wp2_with fail);apply(lock_free (R b 0) _ c0 f0).mono;rintro al B⟨rfl,av⟩;rw[ae HW]at av;subst B;(go_wp2_with fail);apply ad.mono;rintro al Wr⟨rfl,E⟩;have v:I az Q Wr:=I.aR E;have u:=V Wr v;clear E ad;(go_wp2_with fail);apply u.mono;rintro al w2⟨rfl,m⟩;obtain⟨d0,g0,hP⟩:=N w2<|v.cr m;have HP:=U hP;clear N u m v hP;go_wp2;refine eH (f:=36) (args:=#[ay b]) (by simp) (by simp[go_sem]) ?_;apply(unlock_deferred (R b 0) .returning _ d0 g0).mono;rintro al u' bk⟨rfl,rfl,rfl⟩;exact⟨_,gm rfl _ _ _,rfl,HP⟩
end
section
open Shelf
attribute [local go_sem] Oper.semAt_some
def jb(n:Z)(c:qH a):cD bz 13 #[kN n] a λe b=>e=aL (ap n)/\Below (z<|G a) a b:=by
 unfold kN;grind[Ld,Ol]
def YD(w:Y)(c:Qz):yp (cF w<|ar #[aj c.key,aj c.val,aK c.del] 44) (bB (z<|G w) 0 1 1) [c]:=by
 have h:(cF w<|ar #[aj c.key,aj c.val,aK c.del] 44).heap[z<|G w]?=H (ar #[aj c.key,aj c.val,aK c.del] 44 (0,0)):=aB _ rfl;refine⟨rfl,.inr ⟨z<|G w,0,1,rfl,ai _,λj u a=>?_⟩⟩;rw[bL h,dp];simpa[eX,oP]using a
def LA(b:Y)(a:M)(c:jN)(B:fA)(W:Y):Prop:=Acc (λk=>k=a) b [] (z<|G b) 39 163 2 (z (G b)+1) (y c) (ib c) B W
def Hz(an:Y)(a:M)(fb:SR)(lo hi:ab)(D:jN)(K L:ab)(F:Bool)(es:Z)(fd:Y->Prop)(dd:SR->Y->Prop)(F0:fA)(eF:a<z (G an))(hF:∀k,F0 k->k<z (G an))(hA:∀W,I az an W->z (G W)=z (G an)+1->cD bz 83 #[ay a,aj lo,aj hi] W λcs P=>∃en bt bs,cs=aL en/\NW W P a en D bt bs/\I F0 W P/\fd P)(hW:∀r W cv,fd r->I az r W->yp W (bB cv 0 1 1) [⟨K,L,F⟩]->cv<z (G W)->cv≠a->cD bz 20 #[ay a,bB cv 0 1 1,aK aY] W λcs P=>cs=aL (kN es)/\∃e,bJ P a e 0/\e.closed=fb.closed/\I F0 W P/\dd e P)(hQ:∀e W W',dd e W->I (λk=>k=a) W W'->bJ W' a e 0->dd e W')(hE:∀e W,dd e W->qH W)(dT:fb.closed=bU->D=[])(eg:y D<=1000000000):cD bz 82 #[ay a,aj lo,aj hi,dW #[aj K,aj L,aK F]] an λcs P=>∃v' e,cs=aL (dw #[v',ap es])/\zW an P v' D/\dd e P:=by
 obtain⟨i0,eb,ek,el,em⟩:=cH xS;have cn:∀e:SR,e.closed=fb.closed->(if e.closed=bU then []else D)=D:=by grind
 have T:I az an (cF an<|ar #[aj K,aj L,aK F] 44):=(cK az an);have bf:(cF an<|ar #[aj K,aj L,aK F] 44).heap[z<|G an]?=H (ar #[aj K,aj L,aK F] 44 (0,0)):=aB _ rfl;have w:z (G<|cF an<|ar #[aj K,aj L,aK F] 44)=z (G an)+1:=by simp
 have cb:=hA _ T w;obtain⟨db,HX,HW,HQ,HE,HF⟩:=jX cn (And.intro T (And.intro bf w)) hW hQ hE hF;clear cn T bf w hA hW hQ hE dT hF;refine(dh (n:=3)).1 ?_;refine callsIn_of_wp_marks func82 rfl trivial ?_ rfl;simp only[ntmps82,eU,aS,dH,Nat.reduceAdd,Nat.reduceSub,dR,dQ,eV,eD,cU,cL];gi_wp2_with(refine⟨trivial,?_⟩;gi_at_call 83;refine(dh.2 cb).mono ?_;rintro cs o⟨v2,bt,bs,rfl,ea,d,bv⟩;obtain⟨ej,⟨u2,cj,u⟩,ce,cm⟩:=ea;subst ej;have ac:=(d.block _ (am HX.2.1) (λs=>by have:=HF _ s;omega)).trans HX.2.1;have k0:aO o (R (z<|G an) 0)=H (aj K):=(by rw[bL ac];rfl);have k1:aO o (R (z<|G an) 1)=H (aj L):=(by rw[bL ac];rfl);have k2:aO o (R (z<|G an) 2)=H (aK F):=(by rw[bL ac];rfl);have bi:=U cj;have cE:=U u;have bh:=U ce;have cM:=U cm;have bl:=U d;have dc:=U bv;clear cj u ce cm d bv cb ac)
 gi_wp2_with(refine⟨trivial,?_⟩;gi_at_call 20;refine(dh.2<|HW o (cF o<|ar #[aj K,aj L,aK F] 44) (z<|G o) dc (cK az o) (YD o ⟨K,L,F⟩) (by simp) (by have:=bl.size;have:=HX.2.2;omega)).mono ?_;rintro cs f⟨rfl,e,cc,cl,cp,bx⟩;have ef:∃eu eo,kN es=eu/\eu=eo:=⟨_,_,rfl,rfl⟩;have bg:=U cc;have cB:=U cl;have bn:=U cp;have bk:=U bx;clear cc cl cp bx k0 k1 k2 ef)
 obtain⟨T,bf,w⟩:=ae HX;have d:=ae bl;have hF:=ae HF;have eA:=d.size;have ed:=bn.size;simp at ed;obtain⟨ey,ex⟩:=ae cM;have aq:bt<z (G o)/\bs<z (G o):=⟨am bi,am bh⟩;have co:I F0 o f:=((I.refl F0 o).alloc<|ar #[aj K,aj L,aK F] 44).trans bn<|λ_ s=>.inl s;have bc:∀k,z (G an)<=k->¬F0 k:=λk c s=>by have:=hF k s;omega
 have u:=ae cE;have bb:∀k,ct u2=H k->z (G an)+1<=k/\k<z (G o):=λk c=>by have:=u.lt k c;rw[w]at this;exact this
 obtain⟨E,Q⟩:∃E,cF f (ar #[aD] 39)=E:=⟨_,rfl⟩;have A:I az f E:=by rw[<-Q];exact(cK az f)
 have dx:ep E (z<|G f) aD 39:=by rw[<-Q];exact aB _ rfl
 have eB:z (G E)=z (G f)+1:=by rw[<-Q];simp
 have x:I F0 o E:=co.cr A;have ck:ep E bt u2 39:=(x.block _ aq.1<|bc _<|by omega).trans bi;have ch:ep E bs (ay a) 37:=(x.block _ aq.2<|bc _<|by omega).trans bh;have ec:=da<|x.own u<|λk c s=>bc k (by have:=(bb k c).1;omega) s;have dv:bJ E a e 0:=(A.block a (am bg) id).trans bg;have dm:LA f a [] (λk=>k=z (G f)) E:=by refine⟨λp a=>by simp at a,⟨aD,dx,bK _ _ _ _,λk=>by simp[ct]⟩,λp a=>by simp at a,⟨ai _,by omega⟩,A.mono cO⟩
 have v:=IQ (z<|G f) 2 a e D ck ch ec (by omega) (by omega) (λk c=>⟨by have:=(bb k c).2;omega,by have:=(bb k c).1;omega⟩) (by omega) (by omega) eg;rw[(ae db) e<|ae cB]at v;rw[Q];refine Cy (m:=3) (V:=TS a e) (n0:=z<|G f) (gf:=144) (lb:=#[ay bt,ay bs]) (l:=D) (S:=λk=>k=bt\/k=bs\/ct u2=H k) ?geval (enters_of func144 (by kernel_rfl) rfl) (λ_=>rfl) v dv (by omega) ?slt (λb cu W=>LA f a b cu W) (λ_ _ _ _=>False) (λk=>k=z (G f)) dm ?sb ?lt ?st (λ_ _ _ _ _ _ h=>h.elim) ?body ?done ?stop;case geval=>rfl
 (case slt=>grind);(case sb=>grind);(case lt=>intro b cu W h k c;exact h.lt k c);(case st=>intro b cu W W' fe h n j;refine h.stays n<|λk c=>⟨(j k c).1,?_⟩;rcases(j k c).2 with s|s;exact .inl s;grind);(case stop=>grind)
 case body=>
  intro lr b eu cu W ez ca ei au hC t;obtain⟨xk,xv⟩:=eu;have ds:y b+1<=1000000000:=by
   have h1:=au.length_le;grind
  have HC:=U hC;have p:=U t;clear hC t au;unfold Ro;simp only;gi_wp2;refine⟨I.refl _ _,λr d=>?_⟩;have ax:LA f a b cu r:=HC.stays d (λk c=>by grind);obtain⟨en,X,g,B⟩:=ax.row;have ba:aO r (R (z<|G f) 0)=H en:=X.cell;have ev:r.frozen? (R (z<|G f) 0)=aY:=X.free;have ao:z (G f)<z (G r):=am X;obtain⟨O,N,bd⟩:=aA g;obtain⟨br,HV,q,av⟩:=gH ax X g B;have bm:=U d;clear ax X g B d;subst bd;gi_wp2_with(first
   |(gi_at_builtin;refine dV _ rfl (.tmp 26) (.tmp 30) 39 rfl (z (G f)+1) 163 i0 (.agg #[.string ⟨#[]⟩,.string ⟨#[]⟩]) 2 32 underlying39 eb ek el em rfl (by decide) (.slice O (y b) N) (y b) (ib b) rfl (aN q (.cells #[.string xk,.string xv] 163)) (R (z (G r)) 0) 1 1 (qu (xk,xv)) rfl rfl (PD _ (xk,xv) _) (Zv _) (by omega) (by omega) (by simp;omega) ?_;intro v2 w3 j C;obtain⟨al,ad,rfl⟩:=aA j;have n:ep w3 (z (G f)) (.slice O (y b) N) 39:=(C.grown.block _ (am (HV.alloc (.cells #[.string xk,.string xv] 163))) (λs=>by have:=(q.lt _ s.symm).1;omega)).trans (HV.alloc _);have dk:=n.cell;have dn:=n.free;have eq:=am n;clear n;have bu:=U j;have bT:=U C;clear j C))
  have g:=ae q;have bq:=ae bT;have cx:I (λk=>ct (J O (y b) N)=H k) r w3:=((I.refl (λk=>ct (J O (y b) N)=H k) r).alloc<|ar #[aj xk,aj xv] 163).trans (I.dJ (S:=λk=>ct (J O (y b) N)=H k) bq.grown<|λk c=>.inl c)<|λk c=>.inl c;have cq:ct (J al (y b+1) ad)=ct (J O (y b) N)\/∃et,ct (J al (y b+1) ad)=H et/\z (G r)<=et:=by
   rcases bq.ur with cT|⟨et,cT,hg⟩
   .exact .inl cT
   .exact .inr ⟨et,cT,by simp at hg;omega⟩
  obtain⟨B',q1,q2,q3⟩:=br.more HV av g cx cq bu;have cd:LA f a (b++[(xk,xv)]) B' (cA w3 (R (z<|G f) 0)<|J al (y b+1) ad):=by
   unfold LA;rw[Ft,af];exact q1
  have d:=ae bm;have bo:I (λk=>cu k\/k=lr) W (cA w3 (R (z<|G f) 0)<|J al (y b+1) ad):=(d.mono (T:=λk=>cu k\/k=lr)<|λk c=>.inl<|.inr c).trans q2<|λk c=>.inl<|.inl c;have bp:∀k,(cu k\/k=lr)->k≠a:=λk c s=>by
   rcases c with cT|cT
   .have:=(HC.lt k cT).1;omega
   .omega
  exact⟨(TS a e).fD p bo<|λk c s=>bp k c s,B',cd,bo,q2.block lr (by have:=d.size;omega) ca,λk c=>(q3 k c).imp_right (λs=>by have:=d.size;omega)⟩
 (case done=>intro cx cu W eq hC dk t hK;obtain⟨en,X,g,B⟩:=hC.row;have ba:aO W (R (z<|G f) 0)=H en:=X.cell;have ao:=am X;obtain⟨O,N,bd⟩:=aA g;obtain⟨HC,q,av,p,HK⟩:=je hC g B t hK;clear hC X g B t hK;subst bd;have bT:dd e W:=HQ e f W bk HC.aw p;have bm:qH W.drew:=show qH W from HE e W bT;have cq:=jb es bm;have ca:aO W.drew (R (z<|G f) 0)=H (J O (y D) N):=ba;clear bT bm;(gi_wp2_with fail);rename_i QQ KK bu;refine wpIn_mono (Q:=Exit.then KK (λ_ _ _=>False)) ?_ (by intro cs a1 W1 hh;cases cs<;>first|exact hh|exact hh.elim);refine Br (λax=>aO ax (R (z<|G f) 0)=H (J O (y D) N)) 4 (by kernel_rfl) (by kernel_rfl) (λet an h=>h) ?_;refine cY 0 ?_;(iterate 2 (refine eM (v:=?_) ca rfl (by kernel_rfl) iW rfl ?_ ?_;rotate_left;(focus(intro ax hX;go_simp;try rfl));simp only[Act.put,dD,Nat.reduceAdd]));apply eC;refine aM (i:=2) rfl rfl (by kernel_rfl) ?_;intro K2 bo;go_simp;apply cq.mono;rintro cs w5⟨rfl,cd⟩;have j:I az W w5:=(ci az W).cr<|I.aR (S:=az) cd;have C:=j.cell ba id ao;refine bo _ _ (λ_=>C) ?_;(try simp only[Act.put,dD]);refine aM (i:=3) rfl rfl (by kernel_rfl) ?_;intro K3 bp;go_simp;refine bp _ _ (λ_=>C) ?_;(try simp only[Act.put,dD]);refine aM (i:=4) rfl rfl (by kernel_rfl) ?_;intro K4 bq;go_simp;refine bq _ _ wX ?_;refine cW (by kernel_rfl) ?_ _;show KK _ _;apply bu;have n:bJ w5 a e 0:=(j.block a (am p) id).trans p;have br:w5.heap[cx]?=H (.deferred<|H []):=(j.block cx (am HK) id).trans HK;obtain⟨al,cT,au⟩:=dA n br j;clear bu bo bp bq n br j C ca cq cd;gi_wp2;have hB:=ae av;have n3:¬ct (J O (y D) N)=H cx:=λs=>dk<|(hB _).2<|.inr<|.inr s;have ad:=gG w5 cx<|.deferred none;(have dn:cx≠a:=by omega);have ds:bJ (w5.putObj cx<|.deferred none) a e 0:=(ad.block a (am al)<|λs=>dn s.symm).trans al;have ei:I (λk=>k=a) f (w5.putObj cx<|.deferred none):=(HC.aw.cr au).trans ad (λk c=>by grind);refine⟨by simp,.inl ⟨_,_,rfl,run_takeDeferred cT,?_⟩⟩;refine⟨_,jj rfl _ _ _,_,e,rfl,?_,HQ e f _ bk ei ds⟩;have g:=au.own q<|λ_ _ s=>s;exact er (ad.own g<|λk c s=>by simp_all)<|by omega)
end
def bA.qi(t:bA):bA:={t with tb:=0}
def kO(b a:cf):Prop:=a.map bA.qi=b.map bA.qi
def kO.length(h:kO i o):y o=y i:=by
 have:=bX y h;grind
theorem kO.nil(h:kO [] i):i=[]:=py.1 h.length
def kO.append(h:kO i o)(k:kO r s):kO (i++r) (o++s):=by
 unfold kO at*;rw[aQ,aQ,h,k]
def kO.map{α:Type}(h:kO i o)(f:bA->α)(a:∀t,f t.qi=f t):o.map f=i.map f:=by
 have e:∀l:cf,l.map f=(l.map bA.qi).map f:=λl=>by rw[iz];simp_all
 rw[e o,e i];exact bX _ h
def kO.mem(h:kO i o)(a:O∈o):∃u∈i,u.qi=O.qi:=by
 have:O.qi∈o.map bA.qi:=ot a;rw[h]at this;grind
def kO.symm(h:kO i o):kO o i:=Eq.symm h
theorem xD{u:bA}(h:u.qi=O.qi):u.num=O.num:=(bX bA.num h:u.qi.num=O.qi.num)
def Am{u:bA}(h:u.qi=O.qi):u.cs=O.cs:=(bX bA.cs h:u.qi.cs=O.qi.cs)
def QJ{u:bA}(h:u.qi=O.qi):u.ks=O.ks:=(bX bA.ks h:u.qi.ks=O.qi.ks)
def kO.all(h:kO i o):o.map bA.all=i.map bA.all:=h.map _<|λ_=>rfl
def kO.cg(h:kO i o):cg o=cg i:=by unfold Go.Proofs.YtgbhcncpienkcaaGreatDoor.cg;rw[h.all]
def kO.bV{j a b c k d l e:cf}(f:kO j a)(g:kO b c)(h:kO k d)(i:kO l e):bV a c d e=bV j b k l:=by
 unfold Go.Proofs.YtgbhcncpienkcaaGreatDoor.bV;rw[f.all,g.cg,h.cg,i.cg]
theorem kO.se(h:kO i o):se o=se i:=by
 unfold Go.Proofs.YtgbhcncpienkcaaGreatDoor.se;have:o.map uM=i.map uM:=h.map _<|λ_=>rfl;rw[h.length,List.flatMap_def,List.flatMap_def,this]
def kO.side(h:kO i o)(a:kp i):kp o:=by
 refine⟨λt b=>?_,?_,?_⟩;obtain⟨u,c,e⟩:=h.mem b;rw[<-QJ e,<-Am e];exact a.pure u c;rw[h.cg];exact a.mh;rw[h.all];exact a.Dz
def kO.YU(k:kO i o)(g:∀t∈i,Gb t):∀t∈o,Gb t:=λt h=>by
 obtain⟨u,j,f⟩:=k.mem h;obtain⟨a,b,c,d,e⟩:=g u j;rw[QJ f,Am f]at a b;rw[Am f]at c d;rw[xD f]at e;exact⟨a,b,c,d,e⟩
def Uu.D8{p:Fs}{f j l m:cf}(h:Uu p b c g i o r s D k)(v:kO i f)(w:kO o j)(x:kO r l)(A:kO s m):Uu p b c g f j l m D k:=by
 have a:kO (i++o++r++s) (f++j++l++m):=((v.append w).append x).append A;refine⟨λN t B=>?_,?_,h.log,h.Ie,λC d=>?_,?_,λC d=>?_,h.lt,a.YU h.iX⟩;rcases h.names N t B with q|q|⟨C,d,q⟩;exact .inl q;(grind);obtain⟨u,e,n⟩:=a.symm.mem d;grind[xD]
 rcases h.state with q|⟨q,E,F,K,L,O⟩;(refine .inl<|q.trans ?_;unfold iH;grind[kO.se]);grind[kO.nil]
 obtain⟨u,e,n⟩:=a.mem d;rw[<-xD n,<-Am n];exact h.wT u e;rw[a.map bA.num<|λ_=>rfl];exact h.yW;obtain⟨u,e,n⟩:=a.mem d;rw[<-xD n];exact h.low u e
structure uO(w:Y)(db:M)(K:DK)(a b c d:cf)(C tb N nx lg:M)(gE:Bool)(ls:dL):Prop where
 aH:cQ w db K
 qF:Uu (vw K.files) nx lg tb a b c d gE ls
 pr:PR tb (bV a b c d)
 lp:Gg ((tb:Z)+1) ls
 qf:y (gQ [] ls.flatten)+y (cg a)+y (cg b)+y (cg c)+y (cg d)<=C
 lV:C<=1000000
 s1:kp b
 s2:kp c
 s3:kp d
 VQ:gE=bU->ls≠[]
 nx:nx<=2+1000001*N
 bn:tb+y ls<=N
 eJ:y K.eJ<=1000001+2*N
 La:N<=100000000
 steps:Steps w
 pow:Pow w
 fw:¬K.aU db 1
 mi:¬K.aU db 2
def Ah{ts:cf}(h:∀t∈ts,Gb t):y ts<=y (cg ts):=lw<|λt a=>(h t a).pure
def uO.count{f b h i:cf}{n:M}(m:uO a c j f b h i g l A Q n D k):y (f++b++h++i)<=1000000:=by
 have e:=m.qF.iX;have o:=Ah (ts:=f) (λt d=>e t<|by simp[d]);have p:=Ah (ts:=b) (λt d=>e t<|by simp[d]);have q:=Ah (ts:=h) (λt d=>e t<|by simp[d]);have r:=Ah (ts:=i) (λt d=>e t<|by simp[d]);have:=m.qf;have:=m.lV;grind
def Dp(w:Y)(d c:M)(e:iC)(t:bA):Prop:=∃b a,lS w t.tb (ay d) t.num (y<|dG t.cs) (y<|fo<|bS 0 t.cs) (ng<|fo<|bS 0 t.cs) b 0 a aD t.ks/\c<t.tb/\t.tb<z (G w)/\c<b/\b<z (G w)/\∀(j:M)(v:aa),e[j]?=H v->ct v≠H t.tb/\ct v≠H b
structure Dr(w0 wr:Y)(db:M)(K K1:DK)(gb lb:M)(mv vs:iC)(Ts:cw cf):Prop where
 SY:wr.heap[gb]?=H (ar mv.toArray 200 (0,0))
 box:wr.heap[lb]?=H (ar vs.toArray 102 (0,0))
 zx:y vs=4
 DZ:y Ts=4
 rows:∀(j:M)(v:aa)(T:cf),vs[j]?=H v->Ts[j]?=H T->wr.ownsRow (lb+1) 142 1 v (y T) (T.map bA.ptr)
 ne:∀(j j':M)(v v':aa)(q:M),j≠j'->vs[j]?=H v->vs[j']?=H v'->ct v=H q->ct v'≠H q
 aH:cQ wr db K1
 same:K1.files=K.files/\K1.eJ=K.eJ/\∀k,K1.aU db k->K.aU db k
 wT:∀t∈Ts.flatten,Dp wr db lb vs t
 EW:(Ts.flatten.map bA.tb).Nodup
 aw:I (K.aU db) w0 wr
 low:∀k,K.aU db k->k<z (G w0)
 ord:z (G w0)<=gb/\gb<lb/\lb<z (G wr)
def AT{t:bA}:∀{a:cw cf}{b:M},a[b]?=H i->List.Perm (a.set b<|i++[t]).flatten (t::a.flatten)
 |[],b,h=>by simp at h
 |Uqq::a,0,h=>by
  simp_all
 |Uqq::a,b+1,h=>by
  rw[pz]at h;rw[dl,bG,bG];exact((qN Uqq<|AT h).trans uT)
def Dr.row{n wr:Y}{h:DK}{f:iC}{a:cw cf}(k:Dr n wr b P h c g x f a){j:M}(m:f[j]?=H d):∃T,a[j]?=H T/\wr.ownsRow (g+1) 142 1 d (y T) (T.map bA.ptr):=by
 have l:j<4:=by rw[<-k.zx];grind
 have e:a[j]?=H (a[j]'(by rw[k.DZ];exact l)):=aI _;exact⟨_,e,k.rows j d _ m e⟩
def Dr.own{n wr:Y}{a:iC}{e:cw cf}(o:Dr n wr c j P g l x a e)(m:a[A]?=H d){q:M}(h:ct d=H q):l<q/\q<z (G wr):=by
 obtain⟨D,_,k⟩:=o.row m;have:=aG k q h;omega
def Dr.cell{e wr:Y}{a:iC}{d:cw cf}(k:Dr e wr c j P g l x a d)(h:M):aO wr (R l h)=a[h]?:=by
 rw[bL k.box];simp
def Dr.o7{e wr:Y}{d:iC}{a:cw cf}(h:Dr e wr b j P c g x d a)(f:M):aO wr (R c f)=x[f]?:=by
 rw[bL h.SY];simp
def Dp.aw{S:fA}{w w':Y}(l:Dp w c g x O)(d:I S w w')(j:∀q,S q->q<=g):Dp w' c g x O:=by
 obtain⟨k,a,p,m,e,n,h,o⟩:=l;refine⟨k,a,p.di (d.block _ e (λl=>by have:=j _ l;omega))<|d.block _ h (λl=>by have:=j _ l;omega),m,ag e d.size,n,ag h d.size,o⟩
def Dr.move{s wr n:Y}{i:DK}{r:iC}{o:cw cf}(h:Dr s wr b j P c g x r o)(f:I X wr n)(p:∀k,X k->j.aU b k\/c<k/\k<g)(t:cQ n b i)(m:i.files=P.files/\i.eJ=P.eJ/\∀k,i.aU b k->P.aU b k):Dr s n b j i c g x r o:=by
 have l:=h.low;have a:=h.ord;have d:∀k,X k->k<c\/c<k/\k<g:=λk a=>(p k a).imp (λe=>by have:=l k e;omega) id;refine⟨?_,?_,h.zx,h.DZ,?_,h.ne,t,⟨m.1.trans h.same.1,m.2.1.trans h.same.2.1,λk e=>h.same.2.2 k<|m.2.2 k e⟩,?_,h.EW,?_,l,?_⟩;exact(f.block c (am h.SY) (λe=>by have:=d _ e;omega)).trans h.SY;exact(f.block g (am h.box) (λe=>by have:=d _ e;omega)).trans h.box;exactλk v T a c=>f.own (h.rows k v T a c) (λq g e=>by have:=h.own a g;have:=d _ e;omega);exactλt a=>(h.wT t a).aw f (λk e=>by have:=d _ e;omega);exact h.aw.trans f (λk e=>(p k e).imp id<|λe=>by omega);exact⟨a.1,a.2.1,ag a.2.2 f.size⟩
def Dr.still{f wr h:Y}{e:iC}{a:cw cf}(i:Dr f wr b j P c g x e a)(d:I az wr h):Dr f h b j P c g x e a:=i.move d cO (i.aH.aw d<|λ_ _=>id) ⟨rfl,rfl,λ_ k=>k⟩
def Dr.put{w0 wr r:Y}{C:iC}{S:cw cf}{T:cf}(m:Dr w0 wr c j P g l x C S)(v:C[A]?=H d)(hT:S[A]?=H T)(W:eL wr r d u)(ho:r.ownsRow (l+1) 142 1 u (y<|T++[O]) ((T++[O]).map bA.ptr))(al:Dp wr c l C O)(Q:O.tb∉S.flatten.map bA.tb):Dr w0 (cA r (R l A) u) c j P g l x (C.set A u) (S.set A<|T++[O]):=by
 have s:I (λL=>ct d=H L) wr r:=I.eT W;have w:=λq=>m.own (q:=q) v;have ad:=m.ord;have D:=m.low;have N:r.heap[l]?=H (ar C.toArray 102 (0,0)):=(s.block l (am m.box) (λn=>by have:=w _ n;omega)).trans m.box;have i:I (λL=>L=l) r (cA r (R l A) u):=(gW l r);have E:∀q,ct u=H q->l<q/\q<z (G r):=λq e=>by have:=aG ho q e;omega
 have V:∀q,q<z (G wr)->(∀(X:M)(B:aa),C[X]?=H B->ct B≠H q)->ct u≠H q:=λq e a n=>by grind[eL.ur]
 have F:∀B,Dp wr c l C B->Dp (cA r (R l A) u) c l (C.set A u) B:=by rintro B⟨t,h,hm,h1,h2,h3,h4,h5⟩;have k:lS r B.tb (ay c) B.num (y<|dG B.cs) (y<|fo<|bS 0 B.cs) (ng<|fo<|bS 0 B.cs) t 0 h aD B.ks:=hm.di (s.block _ h2<|λn=>(h5 A d v).1 n)<|s.block _ h4<|λn=>(h5 A d v).2 n;have g2:=ag h2 s.size;have g4:=ag h4 s.size;refine⟨t,h,k.di (i.block _ g2<|by omega) (i.block _ g4<|by omega),h1,by rw[gM];exact g2,h3,by rw[gM];exact g4,?_⟩;grind
 have o:=AT (t:=O) hT;refine⟨?_,?_,by rw[eS];exact m.zx,by rw[eS];exact m.DZ,?_,?_,?_,m.same,?_,?_,?_,D,?_⟩;exact(i.block g (ag (am m.SY) s.size)<|by omega).trans<|(s.block g (am m.SY) (λn=>by have:=w _ n;omega)).trans m.SY;rw[aT N];simp;intro X B t a h;by_cases n:A=X;subst n;rw[ik]at a h;rw[v]at a;rw[hT]at h;cases a;cases h;exact i.own ho (λq e n=>by have:=E q e;omega);rw[gu n]at a h;have k:=s.own (m.rows X B t a h)<|λq e K=>m.ne X A B d q (Ne.symm n) a v e K;exact i.own k (λq e n=>by have:=m.own a e;omega);intro X i' B u' q t a k e;by_cases n:A=X;subst n;rw[gu t]at k;rw[ik,v]at a;cases a;intro h;change ct u=H q at e;rcases W.ur with K|⟨ac,K,hy⟩;exact m.ne _ _ _ _ q t v k (K.symm.trans e) h;rw[K]at e;cases e;have:=m.own k h;omega;rw[gu n]at a;by_cases e':A=i';subst e';rw[ik,v]at k;cases k;intro h;change ct u=H q at h;rcases W.ur with K|⟨ac,K,hy⟩;exact m.ne _ _ _ _ q t a v e<|K.symm.trans h;rw[K]at h;cases h;have:=m.own a e;omega;rw[gu e']at k;exact m.ne _ _ _ _ q t a k e;exact(m.aH.aw s (λL K n=>by have:=w _ n;have:=D L<|m.same.2.2 L K;omega)).aw i (λL K n=>by have:=D L<|m.same.2.2 L K;omega);intro B a;rcases bH.1 (o.mem_iff.1 a)with rfl|a;(grind);exact F B<|m.wT B a;rw[(o.map bA.tb).nodup_iff,bZ,kK];exact⟨Q,m.EW⟩;exact(m.aw.trans s<|λL n=>.inr (by have:=w _ n;omega)).trans i<|λL n=>.inr (by have:L=l:=n;omega);grind[gM,Nat.lt_of_lt_of_le,I.size]
def qH.aw{S:fA}{w w':Y}(h:qH w)(c:I S w w')(a:¬S 0):qH w':=by
 unfold qH at*;exact c.cell h a<|dj _ _ h
def Inv.reads{q:fh}(x:Inv a b n j e i o r s c g l k q)(h:b<z (G a))(w:vI a f b n j e i o r s c):∃d,fY a f n.aH b j d/\d.files=j.files/\(∀A,d.aU n.aH A->j.aU n.aH A)/\bJ f b n 0/\Inv f b n d e i o r s c g l k q:=by
 obtain⟨d,p,m,t,u,v,_⟩:=w;exact⟨d,p,m,u,v,x.eW h p (by rw[m]) (by rw[t];grind) rfl x.loose⟩
def po{b sbqq:M}(d:cQ a b j)(c:I az a f):fY a f b sbqq j j:=⟨d.aw c<|λ_ _=>id,c.mono cO,λ_ q=>.inl q⟩
def Ch(e:cQ a b j)(g:¬j.aU b c)(d:I (λk=>k=c) a f):fY a f b c j j:=⟨e.aw d<|λ_ q h=>g<|h▸q,d.mono<|λ_ q=>.inl<|.inr q,λ_ q=>.inl q⟩
def GA(l j q r:ab)(p:Bool)(B:bJ a b n 0)(t:n.closed=bU)(w:qH a)(x:0≠b):cD bz 82 #[ay b,aj l,aj j,dW #[aj q,aj r,aK p]] a λv c=>∃u,v=aL (dw #[u,ap 6])/\zW a c u []/\bJ c b n 0/\I (λk=>k=b) a c:=by
 have h:=am B;refine(Hz a b n l j [] q r p 6 (λc=>bJ c b n 0/\I (λk=>k=b) a c) (λm c=>m=n/\bJ c b n 0/\I (λk=>k=b) a c) (λk=>k=b) h (λk D=>by omega) (λW s _=>?_) ?_ ?_ ?_ (λ_=>rfl)<|by simp).mono ?_;apply(FZ l j ((s.block b h id).trans B) t).mono;rintro v c⟨C,i,g,rfl,A,e,d⟩;exact⟨C,i,g,rfl,A,d,e,(s.mono (T:=λk=>k=b) cO).trans d<|λ_ o=>.inl o⟩;rintro A W C⟨e,f⟩d _ _ _;apply(Ae _ aY ((d.block b (am e) id).trans e) t).mono;rintro v c⟨rfl,g,i⟩;exact⟨rfl,n,g,rfl,i,rfl,g,(f.cr d).trans i<|λ_ o=>.inl o⟩;rintro m W g⟨rfl,_,f⟩d e;exact⟨rfl,e,f.trans d<|λ_ o=>.inl o⟩;rintro m W⟨_,_,f⟩;exact w.aw f x;grind
def Mc(Q:fh)(T S p t:ab)(u:Bool)(av:bJ a b n 0)(V:Inv a b n j e i o r s c g l k Q)(hT:GR n i o r)(hc:n.closed=aY)(hE:qH a)(hg:0≠b/\¬j.aU n.aH 0)(hz:p.size<=140737488351232/\t.size<=140737488351232)(hC:c+lk [⟨p,t,u⟩]<=1000000)(hN:l+1<=100000000)(al:y (sW n.aW T S 0<|e::bV i o r s)<=1000000000):cD bz 82 #[ay b,aj T,aj S,dW #[aj p,aj t,aK u]] a λao v=>∃v',ao=aL (dw #[v',ap<|ga [⟨p,t,u⟩]])/\zW a v v' (sW n.aW T S 0<|e::bV i o r s)/\nY a v b n 0 j (c+lk [⟨p,t,u⟩]) (l+1) Q (zm n.aW [⟨p,t,u⟩]) (xC Q e (bV i o r s) ((n.aW:Z)+1) [⟨p,t,u⟩]):=by
 have O:=am av;refine(Hz a b n T S _ p t u (ga [⟨p,t,u⟩]) (λv=>∃m,fY a v n.aH b j m/\(∀X,m.aU n.aH X->j.aU n.aH X)/\bJ v b n 0/\Inv v b n m e i o r s c g l k Q) (λP v=>∃m K B C D E h f,Gh a v b n 0 j (c+lk [⟨p,t,u⟩]) (l+1) Q (zm n.aW [⟨p,t,u⟩]) (xC Q e (bV i o r s) ((n.aW:Z)+1) [⟨p,t,u⟩]) P m K B C D E h f) (λX=>j.aU n.aH X\/X=b) O ?_ (λan hW _=>?_) ?_ ?_ ?_ (λq=>by rw[hc]at q;cases q) al).mono ?_;rintro X(q|q);exact V.st.aH.lt _ q;omega;have F:=po (sbqq:=b) V.st.aH hW;have x:bJ an b n 0:=(hW.block b O id).trans av;have w:=V.eW O F rfl (ai _) rfl V.loose;apply(NH T S x w.st hc).mono;rintro ao v⟨ac,bt,bs,rfl,hh,hS⟩;obtain⟨m,A,_,e3,N,L⟩:=w.reads (am x) hS;exact⟨ac,bt,bs,rfl,hh,A.aw,m,F.trans A,e3,N,L⟩;rintro W2 an cb⟨K2,ad,e3,N,L⟩W ac aq au;have F:=po (sbqq:=b) L.st.aH W;have x:bJ an b n 0:=(W.block b (am N) id).trans N;have w:=L.eW (am N) F rfl (ai _) rfl L.loose;refine(DR Q aY x w hT hc ac (λX hk=>by cases hk;grind) (λax hx=>by rw[cX]at hx;rw[hx];exact hz) (by simp) hC hN).mono ?_;rintro ao v⟨rfl,P,m,K,B,C,D,E,h,f,d⟩;exact⟨rfl,P,d.box,d.same.2.1,d.eW.aw.mono<|λX q=>.inl<|q.imp (e3 X) id,m,K,B,C,D,E,h,f,d.box,d.inv,d.uC,(ad.trans F).trans d.eW,d.same,d.Bq,d.tid⟩;rintro P an L⟨m,K,B,C,D,E,h,f,d⟩W N;have F:=Ch d.inv.st.aH d.inv.st.qZ W;(have A:fY an L n.aH b m m:=by rw[<-d.same.1];exact F);exact⟨m,K,B,C,D,E,h,f,N,d.inv.eW (am d.box) F rfl (ai _) rfl d.inv.loose,d.uC,d.eW.trans A,d.same,d.Bq,d.tid⟩;rintro P an⟨m,K,B,C,D,E,h,f,d⟩;exact hE.aw d.eW.aw<|λq=>q.elim hg.2 hg.1;rintro ao v⟨v',P,rfl,L,m,K,B,C,D,E,h,f,d⟩;exact⟨v',rfl,L,P,m,K,B,C,D,E,h,f,d⟩
def Steps.aw{S:fA}{w w':Y}(h:Steps w)(d:I S w w')(a:¬S 1):Steps w':=λk c=>d.cell (h k c) a h.lt
def pD(a:cw cf):cw cf:=a.map<|List.map bA.qi
def pC{a:cw cf}(h:a[b]?=H i):(pD a)[b]?=H (i.map bA.qi):=by simp[pD,h]
def Dr.Te{q wr:Y}{k:iC}{e:cw cf}(m:Dr q wr c j P g l x k e)(h:k[A]?=H d)(f:e[A]?=H i)(n:y i<=1000000000):iS wr d i where
 row:=da<|m.rows A d i h f
 lt:=λd a=>(m.own h a).2
 each:=λt p=>by
  obtain⟨r,a,o,_⟩:=m.wT t<|bE.2 ⟨i,gp f,p⟩;exact⟨_,_,_,_,_,_,_,_,_,o⟩
 small:=n
def EP{db:M}{K:DK}(u:cw cf)(x0 x1 x2 x3:Option Addr)(n0 c0 n1 c1 n2 c2 n3 c3:M)(bx:cQ a db K)(r:Steps a)(bl:Pow a)(eb:¬K.aU db 1)(ea:¬K.aU db 2)(h4:y u=4)(ad:∀(P:M)(ao:aa)(m:cf),[J x0 n0 c0,J x1 n1 c1,J x2 n2 c2,J x3 n3 c3][P]?=H ao->u[P]?=H m->Row a 4 ao (y m) (dy m))(ca:∀(P:M)(ao:aa),[J x0 n0 c0,J x1 n1 c1,J x2 n2 c2,J x3 n3 c3][P]?=H ao->∀k,ct ao=H k->k<z (G a)/\¬K.aU db k)(j:∀ei∈u.flatten,Gb ei)(hf:∀ei∈u.flatten,dX (vw K.files) (fC ei.num)=H (mR ei.cs))(al:∀(P:M)(m:cf),0<P->u[P]?=H m->kp m)(ec:y u.flatten<=1000000):cD bz 106 #[ay db,dW #[J x0 n0 c0,J x1 n1 c1,J x2 n2 c2,J x3 n3 c3]] a λck w'=>
 ∃y0 m0 b y1 m1 c y2 m2 d y3 m3 e,ck=aL (dw #[dW #[J y0 m0 b,J y1 m1 c,J y2 m2 d,J y3 m3 e],.nilIface])/\∃f Ts,Dr a w' db K f (z<|G a) (z (G a)+2) [J x0 n0 c0,J x1 n1 c1,J x2 n2 c2,J x3 n3 c3] [J y0 m0 b,J y1 m1 c,J y2 m2 d,J y3 m3 e] Ts/\pD Ts=pD u:=by
 obtain⟨i0,eB,fd,fe,ff⟩:=cH wx
 have fl:∀(fk:Bool)(a:Y),(Op.unary .not<|aK fk).run bz a=.ok (aK<|!fk) a:=λ_ _=>rfl
 obtain⟨mv,cc⟩:∃mv:iC,mv=[J x0 n0 c0,J x1 n1 c1,J x2 n2 c2,J x3 n3 c3]:=⟨_,rfl⟩
 rw[<-cc]at ad ca|-
 obtain⟨W1,x⟩:∃W1,cF (cF (cF a<|ar mv.toArray 200)<|ar #[aD,aD,aD,aD] 102) (ar #[aD,aD,aD,aD] 102)=W1:=⟨_,rfl⟩
 have bs:I az a W1:=by rw[<-x];exact((cK az a).alloc _).alloc _
 have cv:W1.heap[z (G a)+1]?=H (ar #[aD,aD,aD,aD] 102 (0,0)):=by rw[<-x];exact(gl _<|by simp).trans<|aB _<|by simp
 have hA0:Dr a W1 db K K (z<|G a) (z (G a)+2) mv [aD,aD,aD,aD] [[],[],[],[]]:=by
  refine⟨?_,?_,rfl,rfl,?_,?_,bx.aw bs<|λ_ _=>id,⟨rfl,rfl,λ_ L=>L⟩,by simp,by simp,bs.mono cO,bx.lt,?_⟩
  .rw[<-x];grind[gl,aB]
  .rw[<-x];exact aB _<|by simp
  .intro P ao bf l r;have ck:ao=aD/\bf=[]:=by
    rcases P with _|_|_|_|P<;>simp at l r<;>exact⟨l.symm,r⟩
   rw[ck.1,ck.2];grind[World.ownsRow_nil]
  .intro P b ao c q _ l _ hq;have ck:ao=aD:=by
    rcases P with _|_|_|_|P<;>simp at l<;>exact l.symm
   rw[ck]at hq;cases hq
  .refine⟨ai _,by omega,?_⟩;rw[<-x];simp
 obtain⟨cl,eo,HT,HP,cn,cm,en,HF⟩:=FB hA0 cv r bl ad ca j hf
 obtain⟨bq,H4,eu,el,ex,cs,ez⟩:=xV al h4 ec cc x eb ea
 clear bx r bl ad ca j hf al h4 ec cc bs cv hA0 x eb ea
 go_in
 go_wp2_with fail
 rw[ae ex]
 have e2:z (G a)+1+1=z (G a)+2:=rfl
 rw[e2]
 obtain⟨p,bT⟩:∃p,z (G a)+2=p:=⟨_,rfl⟩
 rw[bT]at cl|-
 have dx:∀(i:M)(m:cf),u[i]?=H m->y m<=1000000:=λi m O=>by
  have N:=ae eu;have h2:y m<=y u.flatten:=pZ<|cS<|gp O;omega
 have ek:=U dx
 have au:=U bT
 clear dx e2 bT
 go_loopw [12] (λb wr=>∃(i:M)(K1:DK)(vs:iC)(Ts:cw cf),i<=4/\b=ap i/\Dr a wr db K K1 (z<|G a) p mv vs Ts/\nX (pD u) (pD Ts) i 0/\wr.heap[z (G a)+1]?=H (ar #[aD,aD,aD,aD] 102 (0,0))) (λb _=>4-(intOf b).toNat)
 case atStart=>exact⟨0,_,_,_,bj _,rfl,cl,nX.start<|pD u,eo⟩
 case round=>
  obtain⟨i,K1,vs,Ts,hi,rfl,w,ax,c⟩:=hrel;by_cases E:i<4
  .have Q:=U c;clear c;have dn:i<y u:=by rw[ae H4];exact E
   obtain⟨m,O⟩:∃m,u[i]?=H m:=⟨_,aI dn⟩;have bi:i<y mv:=by rw[ae el];exact E
   obtain⟨ao,l⟩:∃ao,mv[i]?=H ao:=⟨_,aI bi⟩;have ce:=cn i ao m l O;obtain⟨fk,L,fb⟩:∃fk L,ao=J fk (y m) L:=by
    obtain⟨q1,⟨q2,q0⟩|⟨gb,bp,cu,q2,_⟩⟩:=ce
    .grind
    grind
   subst fb;have eF:=ek i m O;have hc:=(w.o7 i).trans l;have e1:(i:Z)<4:=by omega
   have e0:(0:Z)<=(i:Z):=by omega
   obtain⟨HA,es,HM,HV,et⟩:=je w ax O l ce;clear w ax O l ce dn bi;go_wp2_with fail
   go_loopw [19] (λc b=>∃(k:M)(K1:DK)(vs:iC)(Ts:cw cf),k<=y m/\c=ap k/\Dr a b db K K1 (z<|G a) p mv vs Ts/\nX (pD u) (pD Ts) i k/\b.heap[z (G a)+1]?=H (ar #[aD,aD,aD,aD] 102 (0,0))) (λc _=>y m-(intOf c).toNat)
   case atStart=>exact⟨0,_,_,_,bj _,rfl,HA,es,Q⟩
   case round=>
    obtain⟨k,K2,F,n,hk,rfl,hA2,e,ac⟩:=hrel;have d:=U ac;clear ac;by_cases V:k<y m
    .have O:=ae HM;have W:m[k]∈u.flatten:=bE.2 ⟨m,gp O,ak V⟩;have j:=en _ W;have dd:=HF _ W;have bn:=hA2.aw.row et<|λq hq=>⟨(cm i _ HV q hq).2,(cm i _ HV q hq).1⟩;obtain⟨fv,b,hx,T⟩:∃fv b,fk=H (R fv b)/\∀P eg,(m[k].wq)[P]?=H eg->aO wr (R fv<|b+(k*4+P))=H eg:=by
      obtain⟨q1,⟨q2,q0⟩|⟨gb,bp,cu,q2,bh,C⟩⟩:=bn
      .omega
      .cases q2;refine⟨gb,bp,rfl,λP eg hu=>C _ _ ?_⟩;have hj:P<4:=by
        rcases gU P 4 with L|L
        .exact L
        .rw[lq<|by simpa[bA.wq]using L]at hu;cases hu
       rw[Ii m k P V hj];exact hu
     subst hx;have cM:=T 0 _ rfl;have cT:=T 1 _ rfl;have bu:=T 2 _ rfl;have bv:=T 3 _ rfl;have bb:i<y n:=by rw[hA2.DZ];exact E
     obtain⟨bf,r⟩:∃bf,n[i]?=H bf:=⟨_,aI bb⟩;have bt:y bf=k:=by
      have N:=e.now _<|pC O;rw[pC r]at N;have h2:=bX y<|gY N;grind
     have s:bf.map bA.qi=(m.map bA.qi).take k:=by
      have N:=e.now _<|pC O;rw[pC r]at N;simp_all
     have bd:i<y F:=by rw[hA2.zx];exact E
     obtain⟨ao,l⟩:∃ao,F[i]?=H ao:=⟨_,aI bd⟩;have f:=hA2.rows i ao bf l r;rw[bt]at f;obtain⟨ox,oc,cd⟩:=aA f;subst cd;have bm:=e.one<|pC O;have ef:(m.map bA.qi).take (k+1)=(m.map bA.qi).take k++[m[k].qi]:=by
      rw[ah<|by simp_all];simp
     have hA3:=hA2.still<|(I.refl az wr).alloc<|ar #[aJ m[k].num,dq<|y<|dG m[k].cs,dq<|y<|fo<|bS 0 m[k].cs,dq<|ng<|fo<|bS 0 m[k].cs] 289;rw[j.ks]at bu bv;generalize m[k]=ei at*;have o:=Lf ei.num j.num ei.cs j.idx (Steps.aw HT hA3.aw cs) (Pow.aw HP hA3.aw ez) j.small (λL=>cs<|hA2.same.2.2 _ L) hA3.aH (by rw[hA2.same.1];exact dd);unfold Fh at o;have bc:=j.num;have ds:=j.ks;obtain⟨v,aq,fq,S,cp⟩:=je hA2 hA3 f l r;obtain⟨cq,br,ev,D,fn⟩:=je bt s ef bm ds;have e4:(k:Z)<(y m:Z):=by omega
     have e5:(0:Z)<=(k:Z):=by omega
     have k0:aO wr (R p i)=H (J ox k oc):=(hA2.cell i).trans l;have e6:b+(k*4+0)=b+k*4:=by omega
     have e7:b+(k*4+1)=b+k*4+1:=by omega
     have e8:b+(k*4+2)=b+k*4+2:=by omega
     have e9:b+(k*4+3)=b+k*4+3:=by omega
     rw[e6]at cM;rw[e7]at cT;rw[e8]at bu;rw[e9]at bv;clear hA2 hA3 f l r bt s ef bm ds j dd bn T O W bb bd e e6 e7 e8 e9;obtain⟨fL,tk,t,tn⟩:=ei;simp only at cM cT bu bv o bc;generalize cx:y (dG t)=tl at*;generalize cB:y (fo<|bS 0 t)=ti at*;generalize cE:ng (fo<|bS 0 t)=tc at*;obtain⟨fr,fs,fu⟩:=dA cx cB cE;clear cx cB cE;have cb:=v.ord;have co:=U (show z (G wr)<z (G<|cF wr<|ar #[aJ tn,dq tl,dq ti,dq tc] 289)by simp);go_wp2_with fail
     apply o.mono;rintro ck w3⟨g,fx,av,rfl,ba,dk,dm,K3,hd,dc,dv,bg⟩;have hA4:=aq.move hd.aw (λq hq=>.inl<|aq.same.2.2 q hq) hd.ok ⟨dc,dv,bg⟩;have ed:=ae co;have fz:p<z (G wr):=cb.2.2;have B:=(hd.aw.block _ (by have:=am d;omega) (λL=>by have:=aq.low _<|aq.same.2.2 _ L;omega)).trans<|(gl _<|am d).trans d;have bo:Dp w3 db p F ⟨g,tk,t,tn⟩:=by
      refine⟨fx,av,?_,by grind,am ba.box,by omega,?_,λP eg hu=>⟨λL=>?_,λL=>?_⟩⟩
      .grind[ae]
      .have C:0<y (eI<|bS 0 t):=by
        have:=ba.ne;rcases hq:bS 0 t with _|⟨q,gc⟩
        .rw[hq]at this;simp at this
        .simp[eI,rE.cells]
       have:=ba.cells 0 _<|aI C;exact dj w3 _ this
      .have N:=(v.own hu L).2;grind
      .have N:=(v.own hu L).2;omega
     have bk:g∉n.flatten.map bA.tb:=λL=>by
      obtain⟨eg,hu,ck⟩:=bW.1 L;obtain⟨_,_,_,_,h2,_⟩:=v.wT eg hu;omega
     have A:=hA4.rows i _ bf S cp;rw[ae cq]at A;have k1:aO w3 (R p i)=H (J ox k oc):=(hA4.cell i).trans S;have ch:p<z (G w3):=hA4.ord.2.2;have ey:=U (show∀v5 w5,w5.ownsRow (p+1) 142 1 v5 (k+1) (bf.map bA.ptr++[ay g])->eL (cF w3<|ar #[ay g] 142) w5 (J ox k oc) v5->Dr a (cA w5 (R p i) v5) db K K3 (z<|G a) p mv (F.set i v5) (n.set i<|bf++[⟨g,tk,t,tn⟩])/\(cA w5 (R p i) v5).heap[z (G a)+1]?=H (ar #[aD,aD,aD,aD] 102 (0,0))/\aO w5 (R p i)=H (J ox k oc)/\w5.frozen? (R p i)=aY from by
      intro v5 w5 X an;have C:I az w3 (cF w3<|ar #[ay g] 142):=(cK az w3);have hA5:=hA4.still C;have cj:=I.eT an;have dT:ct (J ox k oc)≠H p:=λL=>by have:=(hA4.own S L).1;omega
      have eA:=(cj.block p (ag ch C.size) dT).trans hA5.box;refine⟨hA5.put S cp an ?_ (bo.aw C cO) bk,?_,?_,by simp[World.frozen?,eA]⟩
      .rw[af,ae cq,aQ];exact X
      .have bh:=am B;exact(iw v5 (by have:=ae au;omega)).trans<|(cj.block _ (ag bh C.size) (λL=>by have:=(hA4.own S L).1;have:=ae au;omega)).trans<|(C.block _ bh id).trans B
      .exact cj.cell (C.cell k1 id ch) dT (ag ch C.size))
     have em:=U A;clear ba dk dm hd dc dv bg hA4 bo bk A o k0 ed B;go_wp2_with(first
      |(at_builtin;go_loud(refine bO _ rfl (.tmp 36) (.tmp 38) 100 rfl (p+1) 142 i0 (.pointer none) 1 8 underlying100 eB fd fe ff rfl (by decide) (.slice ox k oc) k (bf.map bA.ptr) rfl (aN em _) (R (z (G w3)) 0) 1 1 [ay g] rfl rfl (pt _ _ _) (by simp[Value.oneCell']) (by omega) (by omega) (by simp;omega) ?_;intro v5 w5 X an;obtain⟨hA5,y2,y0,y1⟩:=ey v5 w5 X an;obtain⟨x5,c5,rfl⟩:=aA X;have ej:=U hA5;have eq:=U y2;clear X an hA5 y2)))
     go_roundw;case rel=>
      refine⟨k+1,K3,_,_,V,by go_num,ej,?_,eq⟩;have N:=ae D;have h2:pD (n.set i<|bf++[⟨g,tk,t,tn⟩])=(pD n).set i ((m.map bA.qi).take<|k+1):=by
       unfold pD;rw[nZ,aQ,ae br,ae ev];rfl
      rw[h2];exact N
     case measure=>simp[intOf];omega
    .have S:k=y m:=by omega
     subst S;have bb:i<y n:=by rw[hA2.DZ];exact E
     obtain⟨bf,r⟩:∃bf,n[i]?=H bf:=⟨_,aI bb⟩;have bd:i<y F:=by rw[hA2.zx];exact E
     obtain⟨ao,l⟩:∃ao,F[i]?=H ao:=⟨_,aI bd⟩;have s:kO m bf:=by
      have N:=e.now _<|pC HM;rw[pC r]at N;have h2:=gY N;rw[cZ<|by simp]at h2;exact h2
     have g:=hA2.Te l r (by rw[s.length];omega);have f:=hA2.rows i ao bf l r;obtain⟨ox,oc,cd⟩:=aA f;subst cd;have k0:aO wr (R p i)=H (J ox (y bf) oc):=(hA2.cell i).trans l;have b:=(show nX (pD u) (pD n) i (y<|m.map bA.qi)by rw[cV];exact e).xP (pC HM) (by unfold pD;rw[cV];exact H4);have e4:¬((y m:Z)<(y m:Z)):=by omega
     have v:=U hA2;have D:=U b;by_cases A:i=0
     .subst A;clear hA2 e g f r l b;go_wp2;go_roundw;case rel=>exact⟨1,_,_,_,by omega,by go_num,v,D,d⟩
      case measure=>simp[intOf]
     .have t:=Ul g (s.side<|bq i m (by omega) HM).apart;have e6:(0:Z)<(i:Z):=by omega
      clear hA2 e g f r l b;go_wp2_with fail
      apply t.mono;rintro ck T⟨rfl,o⟩;have B:=U<|v.still<|I.aR o;have C:=U<|(o.block _<|am d).trans d;clear o t;go_wp2;go_roundw;case rel=>exact⟨i+1,_,_,_,by omega,by go_num,B,D,C⟩
      case measure=>simp[intOf];omega
  .have t:i=4:=by omega
   subst t;have s:=ax.all (by unfold pD;rw[cV];exact H4) (by unfold pD;rw[cV];exact w.DZ);have e:=w.zx;obtain⟨v,A,B,C,rfl⟩:∃v A B C,vs=[v,A,B,C]:=by
    rcases vs with _|⟨v,_|⟨A,_|⟨B,_|⟨C,_|⟨v4,gc⟩⟩⟩⟩⟩<;>simp at e;grind
   obtain⟨f,ac,V⟩:=w.row (j:=0) rfl;obtain⟨g,an,W⟩:=w.row (j:=1) rfl;obtain⟨n,aq,X⟩:=w.row (j:=2) rfl;obtain⟨o,av,o3⟩:=w.row (j:=3) rfl;obtain⟨D,y0,rfl⟩:=aA V;obtain⟨F,y1,rfl⟩:=aA W;obtain⟨S,y2,rfl⟩:=aA X;obtain⟨T,y3,rfl⟩:=aA o3;have r0:=cellAt w.box 0 rfl;have r1:=cellAt w.box 1 rfl;have r2:=cellAt w.box 2 rfl;have r3:=cellAt w.box 3 rfl;have t0:=cellAt c 0 rfl;have t1:=cellAt c 1 rfl;have t2:=cellAt c 2 rfl;have t3:=cellAt c 3 rfl;have ba:∀i,wr.frozen? (R (z (G a)+1) i)=aY:=λi=>by simp[World.frozen?,c]
   obtain⟨HA,br,Q⟩:=dA w s c;have e5:¬((4:Z)<4):=by omega
   clear w ax V W X o3 s c e;go_wp2;have b:=aT (i:=3) (u:=J T (y o) y3)<|aT (i:=2) (u:=J S (y n) y2)<|aT (i:=1) (u:=J F (y g) y1)<|aT (i:=0) (u:=J D (y f) y0) Q;have d:=((((I.refl (λk=>k=z (G a)+1) wr).setCell (z (G a)+1) 0 (J D (y f) y0)<|.inl rfl).setCell (z (G a)+1) 1 (J F (y g) y1)<|.inl rfl).setCell (z (G a)+1) 2 (J S (y n) y2)<|.inl rfl).setCell (z (G a)+1) 3 (J T (y o) y3)<|.inl rfl;refine cP (zG rfl _ _ (z (G a)+1) _ _ _ _ _ _ rfl b ⟨_,_,_,rfl⟩ ⟨_,_,_,rfl⟩ ⟨_,_,_,rfl⟩ ⟨_,_,_,rfl⟩) rfl ?_;refine⟨D,y f,y0,F,y g,y1,S,y n,y2,T,y o,y3,rfl,K1,Ts,?_,br⟩;rw[ae au];have hd:=HA.aH.aw d (λk L ck=>by have:=HA.low k<|HA.same.2.2 k L;have:k=z (G a)+1:=ck;omega);exact HA.move d (λk ck=>.inr (by have:k=z (G a)+1:=ck;have:=ae au;omega)) hd ⟨rfl,rfl,λ_ L=>L⟩
def NF(s:SR)(b c d:cf)(j:M)(a:Bool):Prop:=a=aY->(s.gK:Z)<s.mem/\(1<=j->pM s.qQ 0 (y b)=aY)/\(2<=j->pM s.qQ 1 (y c)=aY)/\(3<=j->pM s.qQ 2 (y d)=aY)
def NF.tt:NF n i o r b bU:=λq=>by cases q
def NF.nx{a b d:cf}(h:NF n a b d c aY)(g:c=0->D=pM n.qQ 0 (y a))(i:c=1->D=pM n.qQ 1 (y b))(j:c=2->D=pM n.qQ 2 (y d)):NF n a b d (c+1) D:=λq=>by
 obtain⟨x,e,f,u⟩:=h rfl;grind
def NF.tid(h:NF n i o r 4 aY):GR n i o r:=by
 obtain⟨x,a,b,u⟩:=h rfl;have a:=a (by omega);have b:=b (by omega);have u:=u (by omega);simp[pM]at a b u;exact⟨x,by omega,by omega,by omega⟩
def OA(sn:fh)(h:bJ a b n m)(x:Inv a b n j e i o r s c g l k sn)(hN:l+1<=100000000):cD bz 67 #[ay b] a λC A=>C=aL .nilIface/\nY a A b n m j c (l+1) sn n.aW (λbl=>eY bl<|e::bV i o r s):=by
 have an:=am h;have k3:=bJ.cellAt h 3 rfl;have k8:=bJ.cellAt h 8 rfl;have HH:=U h;have HV:=U x;clear h x;go_in
 go_wp2;go_quiet(fail)
 rename_i KK B;show KK _ _;apply B;clear B;have K:I az a (a.drewN nq):=(I.refl az a).of_heap rfl;generalize a.drewN nq=f at K|-;obtain⟨w,F⟩:∃w,decide (n.mem<=(n.gK:Z))=w:=⟨_,rfl⟩;have ba:=U (show NF n i o r 0 w fromλq=>by rw[q]at F;exact⟨by simpa using F,λr=>absurd r (by omega),λr=>absurd r (by omega),λr=>absurd r<|by omega⟩);rw[F];clear F;have h:=ae HH;have x:=ae HV;have p:bJ f b n m:=(K.block b an id).trans h;have D:=po (sbqq:=b) x.st.aH K;have u:=x.eW an D rfl (ai _) rfl x.loose;obtain⟨mx,mc,E⟩:=bM x.st.mem;obtain⟨O,L,ao⟩:=bM x.st.l0.row;obtain⟨P,c1,aq⟩:=bM x.st.l1.row;obtain⟨Q,c2,au⟩:=bM x.st.l2.row;obtain⟨S,c3,av⟩:=bM x.st.l3.row;have bt:aO f (R b 10)=H (J O (y i) L):=by rw[<-ao];exact p.cell rfl
 have bu:aO f (R b 11)=H (J P (y o) c1):=by rw[<-aq];exact p.cell rfl
 have bv:aO f (R b 12)=H (J Q (y r) c2):=by rw[<-au];exact p.cell rfl
 have bx:aO f (R b 13)=H (J S (y s) c3):=by rw[<-av];exact p.cell rfl
 have q7:aO f (R b 7)=H (J mx (y e) mc):=by rw[<-E];exact p.cell rfl
 have q9:=bJ.cellAt p 9 rfl;have bm:∀X,(Instr.index 102 (dW #[J O (y i) L,J P (y o) c1,J Q (y r) c2,J S (y s) c3])<|ap 0).run bz X=.ok (J O (y i) L) X:=λ_=>by kernel_rfl
 have bn:∀X,(Instr.index 102 (dW #[J O (y i) L,J P (y o) c1,J Q (y r) c2,J S (y s) c3])<|ap 1).run bz X=.ok (J P (y o) c1) X:=λ_=>by kernel_rfl
 have bo:∀X,(Instr.index 102 (dW #[J O (y i) L,J P (y o) c1,J Q (y r) c2,J S (y s) c3])<|ap 2).run bz X=.ok (J Q (y r) c2) X:=λ_=>by kernel_rfl
 have bp:∀X,(Instr.index 102 (dW #[J O (y i) L,J P (y o) c1,J Q (y r) c2,J S (y s) c3])<|ap 3).run bz X=.ok (J S (y s) c3) X:=λ_=>by kernel_rfl
 have bf:cD bz 113 #[ay b,ap 0,J O (y i) L] f λC A=>C=aL (aK<|pM n.qQ 0<|y i)/\A=f:=rQ 0 (y i) O L p (by omega);have bg:cD bz 113 #[ay b,ap 1,J P (y o) c1] f λC A=>C=aL (aK<|pM n.qQ 1<|y o)/\A=f:=rQ 1 (y o) P c1 p (by omega);have bh:cD bz 113 #[ay b,ap 2,J Q (y r) c2] f λC A=>C=aL (aK<|pM n.qQ 2<|y r)/\A=f:=rQ 2 (y r) Q c2 p (by omega);have bi:cD bz 113 #[ay b,ap 3,J S (y s) c3] f λC A=>C=aL (aK<|pM n.qQ 3<|y s)/\A=f:=rQ 3 (y s) S c3 p (by omega);have N:∀t,I az f t->cD bz 87 #[ay b,J mx (y e) mc,aJ n.aW] t λC A=>C=aL .nilIface/\nY a A b n m j c (l+1) sn n.aW (λbl=>eY bl<|e::bV i o r s):=λt hX=>by have T:=po (sbqq:=b) u.st.aH hX;have d:=u.eW (am p) T rfl (ai _) rfl u.loose;have ad:bJ t b n m:=(hX.block b (am p) id).trans p;have bd:=d.Bq;(have al:y e<=100:=by have:=d.Yg;omega);have bc:=Eo (J mx (y e) mc) c n.aW ad d.st d.EW d.pr (by rw[<-E];exact d.st.mem) (λq b=>(d.st.tg q (by rw[E];exact b)).lt) d.st.mh d.Ze d.st.iX al (λx a=>(d.Oa x a).1) (λx a=>(d.Oa x a).2) (by omega) (by have:=d.st.qf;omega) d.st.lV d.Mg.2.2.1 d.qF d.OK.1 (by have:=d.bn;have:=d.lV;omega) (by have:=d.nx;have:=d.lV;omega) (by have:=d.eJ;have:=d.lV;omega) sn d.oU;apply bc.mono;rintro C A⟨rfl,v0,v1,v2,v3,K',num,a',b',c',d',V,ac⟩;exact⟨rfl,_,K',[],a',b',c',d',n.aW,[],V.box,V.inv d.Mg d.nx (by have:=d.bn;omega) hN d.oU d.UN<|ai _,λbl a q=>by rw[mJ];exact V.uC bl (a.imp_right (λC=>by rw[C];grind)) q,(D.trans T).trans V.eW,⟨rfl,rfl,rfl,rfl,rfl,rfl⟩,rfl,by have:=d.Mg.1;show((0:M):Z)<n.mem;omega,ac⟩
 have bb:=U<|show NF n i o r 4 aY->nY a f b n m j c (l+1) sn n.aW (λbl=>eY bl<|e::bV i o r s)fromλq=>⟨n,j,e,i,o,r,s,g,k,p,u.mono (ai _) u.st.lV (by omega) hN,λ_ _ _=>rfl,D,⟨rfl,rfl,rfl,rfl,rfl,rfl⟩,rfl,q.tid⟩;have W:=U N;clear h x p D u N E ao aq au av K k3 k8;go_wp2;go_loopw [3,20] (λa bq wr=>∃(ax:M)(w:Bool),ax<=4/\bq=ap ax/\a=aK w/\NF n i o r ax w/\wr=f) (λ_ bq _=>4-(intOf bq).toNat)
 case atStart=>exact⟨0,w,by omega,by go_num,rfl,ba,rfl⟩
 (case round=>obtain⟨ax,w,hj,rfl,rfl,al,bs⟩:=hrel;subst wr;have V:=U al;clear al;(have bk:ax=0\/ax=1\/ax=2\/ax=3\/ax=4:=by omega);rcases bk with rfl|rfl|rfl|rfl|rfl;(.cases w;(·(go_wp2_with(go_at_call 113;refine bf.mono ?_;rintro C T⟨rfl,hw⟩;subst T));go_roundw;(case rel=>exact⟨1,_,by omega,by go_num,rfl,V.nx (λ_=>rfl) (λr=>absurd r<|by omega) (λr=>absurd r<|by omega),trivial⟩);case measure=>simp[intOf]);(.go_wp2;go_roundw;(case rel=>exact⟨1,_,by omega,by go_num,rfl,NF.tt,trivial⟩);case measure=>simp[intOf]));(.cases w;(·(go_wp2_with(go_at_call 113;refine bg.mono ?_;rintro C T⟨rfl,hw⟩;subst T));go_roundw;(case rel=>exact⟨2,_,by omega,by go_num,rfl,V.nx (λr=>absurd r<|by omega) (λ_=>rfl) (λr=>absurd r<|by omega),trivial⟩);case measure=>simp[intOf]);(.go_wp2;go_roundw;(case rel=>exact⟨2,_,by omega,by go_num,rfl,NF.tt,trivial⟩);case measure=>simp[intOf]));(.cases w;(·(go_wp2_with(go_at_call 113;refine bh.mono ?_;rintro C T⟨rfl,hw⟩;subst T));go_roundw;(case rel=>exact⟨3,_,by omega,by go_num,rfl,V.nx (λr=>absurd r<|by omega) (λr=>absurd r<|by omega)<|λ_=>rfl,trivial⟩);case measure=>simp[intOf]);(.go_wp2;go_roundw;(case rel=>exact⟨3,_,by omega,by go_num,rfl,NF.tt,trivial⟩);case measure=>simp[intOf]));(.cases w;(·(go_wp2_with(go_at_call 113;refine bi.mono ?_;rintro C T⟨rfl,hw⟩;subst T));go_roundw;(case rel=>exact⟨4,_,by omega,by go_num,rfl,V.nx (λr=>absurd r<|by omega) (λr=>absurd r<|by omega) (λr=>absurd r<|by omega),trivial⟩);case measure=>simp[intOf]);(.go_wp2;go_roundw;(case rel=>exact⟨4,_,by omega,by go_num,rfl,NF.tt,trivial⟩);case measure=>simp[intOf]));(.cases w;(.go_wp2;go_ret;exact⟨rfl,bb V⟩);(·(go_wp2_with fail);rename_i KK B;have bd:aO f.drew (R b 7)=H (J mx (y e) mc)/\aO f.drew (R b 9)=H (aJ n.aW):=⟨q7,q9⟩;refine kV (λ(t:Y)=>aO t (R b 7)=H (J mx (y e) mc)/\aO t (R b 9)=H (aJ n.aW)) 9 (by kernel_rfl) ?_;refine lE 0 ?_;(iterate 9 (refine Bu (v:=?_) bd rfl (by kernel_rfl) iW rfl ?_ ?_;rotate_left;(focus(rintro t⟨z7,z9⟩;go_simp;try rfl));simp only[Act.put,dD,Nat.reduceAdd]));apply qd;refine gL (i:=9) rfl rfl (by kernel_rfl) ?_;intro K9 ac;go_simp;apply(W f.drew<|ci _ f).mono;rintro C w7⟨rfl,ad⟩;have bc:=U ad;refine ac _ _ (λq=>by omega) ?_;clear ad ac;(try simp only[Act.put,dD]);refine gL (i:=10) rfl rfl (by kernel_rfl) ?_;intro br d;go_simp;refine d _ _ (λq=>by omega) ?_;refine kW (by kernel_rfl) ?_ _;show KK _ _;apply B;clear B d;go_wp2;go_ret;exact⟨rfl,bc⟩)))
def SR.th(s:SR)(u0 u1 u2 u3:aa)(next log a:M)(b:Bool):SR:={s with l0:=u0,l1:=u1,l2:=u2,l3:=u3,next:=next,log:=log,aW:=a,kA:=b}
def Yl(ca:Y)(a:M)(s:SR)(bT:Z)(next j b nf:M)(ea dd:Y->aa->aa->aa->aa->Prop)(F:fA)(h:bJ ca a s bT)(bi:∀q,F q->q<z (G ca))(cu:¬F a)(hL:cD bz 105 #[ay s.aH] ca λbx O=>∃A t r B u c1 C w c2 D x c3,bx=aL (dw #[dW #[aJ next,aJ j,aJ b,J A t r,J B u c1,J C w c2,J D x c3],.nilIface])/\ea O (J A t r) (J B u c1) (J C w c2) (J D x c3)/\I F ca O)(hO:∀W1 cM v0 v1 v2 v3,ea W1 v0 v1 v2 v3->I az W1 cM->cD bz 106 #[ay s.aH,dW #[v0,v1,v2,v3]] cM λbx O=>∃A t r B u c1 C w c2 D x c3,bx=aL (dw #[dW #[J A t r,J B u c1,J C w c2,J D x c3],.nilIface])/\dd O (J A t r) (J B u c1) (J C w c2) (J D x c3)/\I F cM O)(hS:∀cM u0 u1 u2 u3,dd cM u0 u1 u2 u3->∀W',I (λq=>q=a) cM W'->dd W' u0 u1 u2 u3/\cD bz 15 #[ay s.aH] W' λbx O=>∃ec E,bx=aL (J ec nf E)/\I az W' O):cD bz 64 #[ay a] ca λbx O=>bx=aL .nilIface/\∃u0 u1 u2 u3,bJ O a (s.th u0 u1 u2 u3 next j b<|decide<|0<nf) bT/\dd O u0 u1 u2 u3/\I (λq=>F q\/q=a) ca O:=by
 have cv:=am h;have k2:=bJ.cellAt h 2 rfl;obtain⟨HH,HF,HO,HS⟩:=gH h bi hO hS;clear h bi hO hS;go_in
 go_wp2_with fail
 apply hL.mono;rintro bx f⟨A,t,r,B,u,c1,C,w,c2,D,x,c3,rfl,bm,ba⟩;obtain⟨g,Q⟩:∃g,cF f (ar #[aJ next,aJ j,aJ b,J A t r,J B u c1,J C w c2,J D x c3] 202)=g:=⟨_,rfl⟩;have L:I az f g:=by rw[<-Q];exact(cK az f)
 have e:g.heap[z<|G f]?=H (ar #[aJ next,aJ j,aJ b,J A t r,J B u c1,J C w c2,J D x c3] 202 (0,0)):=by rw[<-Q];exact aB _ rfl
 have bb:I F ca g:=ba.cr L;have K:bJ g a s bT:=(bb.block a cv cu).trans HH;have dx:=ba.size;obtain⟨ck,bh,cd,ch,P,n⟩:=jX Q L bm bb K e;clear bm ba bb K e Q L hL;go_wp2_with fail
 rw[ae ck];rename_i KK bl;have K:=ae P;have e:=ae n;have bp:aO g.drew (R a 2)=H (ay s.aH)/\aO g.drew (R (z<|G f) 3)=H (J A t r)/\aO g.drew (R (z<|G f) 4)=H (J B u c1)/\aO g.drew (R (z<|G f) 5)=H (J C w c2)/\aO g.drew (R (z<|G f) 6)=H (J D x c3):=⟨K.cell rfl,by show aO g _=_;rw[bL e];rfl,by show aO g _=_;rw[bL e];rfl,by show aO g _=_;rw[bL e];rfl,by show aO g _=_;rw[bL e];rfl⟩;clear K e;have ce:=U (show∀c:Y,(∀q,q=a\/q=z (G f)->c.heap[q]?=g.heap[q]?)->aO c (R a 2)=H (ay s.aH)/\aO c (R (z<|G f) 3)=H (J A t r)/\aO c (R (z<|G f) 4)=H (J B u c1)/\aO c (R (z<|G f) 5)=H (J C w c2)/\aO c (R (z<|G f) 6)=H (J D x c3)fromλc hX=>by have hb:bJ c a s bT:=(hX a<|.inl rfl).trans P;have hs:=(hX _<|.inr rfl).trans n;exact⟨hb.cell rfl,by rw[bL hs];rfl,by rw[bL hs];rfl,by rw[bL hs];rfl,by rw[bL hs];rfl⟩);refine cI (λ(c:Y)=>aO c (R a 2)=H (ay s.aH)/\aO c (R (z<|G f) 3)=H (J A t r)/\aO c (R (z<|G f) 4)=H (J B u c1)/\aO c (R (z<|G f) 5)=H (J C w c2)/\aO c (R (z<|G f) 6)=H (J D x c3)) 14 (by kernel_rfl) ?_;refine cY 0 ?_;iterate 7 (refine eM (v:=?_) bp rfl (by kernel_rfl) iW rfl ?_ ?_;rotate_left;(focus(rintro c⟨z2,y3,y4,y5,y6⟩;go_simp;try rfl));simp only[Act.put,dD,Nat.reduceAdd])
 apply eC;refine aM (i:=7) rfl rfl (by kernel_rfl) ?_;intro K7 bk;go_simp;apply(HO f g.drew _ _ _ _ cd<|bh.cr<|ci az g).mono;rintro bx w3⟨z0,l0,d0,z1,l1,d1,z2,l2,d2,z3,l3,d3,rfl,bn,bu⟩;have o:I F g w3:=(ci F g).trans bu<|λ_ E=>.inl E;have db:=am n
 have i:∀q,q=a\/q=z (G f)->w3.heap[q]?=g.heap[q]?:=λq hq=>o.block q (by have:=am P;rcases hq with E|E<;>omega) (λE=>by
  rcases hq with eb|eb
  .grind
  .have:=HF q E;omega)
 have av:=ce w3 i;refine bk _ _ (λ_=>av) ?_;try simp only[Act.put,dD]
 refine cY 8 ?_;iterate 5 (refine eM (v:=?_) av rfl (by kernel_rfl) iW rfl ?_ ?_;rotate_left;(focus(rintro c⟨z2,y3,y4,y5,y6⟩;go_simp;try rfl));simp only[Act.put,dD,Nat.reduceAdd])
 apply eC;refine aM (i:=13) rfl rfl (by kernel_rfl) ?_;intro dk al;have m:bJ w3 a s bT:=(i a<|.inl rfl).trans P;have fz:∀cb,w3.frozen? (R a cb)=aY:=λcb=>m.free;have co:=bJ.cellAt m 10 rfl;have cp:=bJ.cellAt m 11 rfl;have cq:=bJ.cellAt m 12 rfl;have cs:=bJ.cellAt m 13 rfl;go_simp;obtain⟨l,S⟩:∃l,cA (cA (cA (cA w3 (R a 10)<|J z0 l0 d0) (R a 11)<|J z1 l1 d1) (R a 12)<|J z2 l2 d2) (R a 13) (J z3 l3 d3)=l:=⟨_,rfl⟩;have k:bJ l a {s with l0:=J z0 l0 d0,l1:=J z1 l1 d1,l2:=J z2 l2 d2,l3:=J z3 l3 d3} bT:=by rw[<-S];exact(aT<|aT<|aT<|aT m).trans rfl
 have p:I (λq=>q=a) w3 l:=by rw[<-S];exact(((gW a w3).setCell a 11 _<|.inl rfl).setCell a 12 _<|.inl rfl).setCell a 13 _<|.inl rfl
 have d:l.heap[z<|G f]?=H (ar #[aJ next,aJ j,aJ b,J A t r,J B u c1,J C w c2,J D x c3] 202 (0,0)):=(p.block _ (by have:=o.size;omega)<|by omega).trans<|(i _<|.inr rfl).trans n;rw[S];have bo:aO l (R a 2)=H (ay s.aH)/\aO l (R (z<|G f) 3)=H (J A t r)/\aO l (R (z<|G f) 4)=H (J B u c1)/\aO l (R (z<|G f) 5)=H (J C w c2)/\aO l (R (z<|G f) 6)=H (J D x c3):=⟨k.cell rfl,by rw[bL d];rfl,by rw[bL d];rfl,by rw[bL d];rfl,by rw[bL d];rfl⟩;refine al _ _ (λ_=>bo) ?_;try simp only[Act.put,dD]
 refine aM (i:=14) rfl rfl (by kernel_rfl) ?_;intro dm an;go_simp;refine an _ _ wX ?_;refine cW (by kernel_rfl) ?_ _;show KK _ _;apply bl;have s0:=cellAt d 0 rfl;have s1:=cellAt d 1 rfl;have s2:=cellAt d 2 rfl;have v9:=bJ.cellAt k 9 rfl;have cB:=bJ.cellAt k 14 rfl;have cE:=bJ.cellAt k 17 rfl;have cn:∀cb,l.frozen? (R a cb)=aY:=λcb=>k.free;have dc:z (G f)≠a:=by omega
 have dv:=am k;have ds:=am d;have au:I (λq=>F q\/q=a) ca l:=((ch.mono (T:=λq=>F q\/q=a)<|λ_ E=>.inl<|.inl E).trans o<|λ_ E=>.inl<|.inl E).trans p<|λ_ E=>.inl<|.inr E;obtain⟨bg,cc,ac,cj⟩:=gH (HS w3 _ _ _ _ bn) k p au;clear bl bk al an bo av bp m k p d fz co cp cq cs i o bu bn S au k2;go_wp2_with fail
 rename_i cm ao;apply GL cm;(.intro cx;(go_region);all_goals exact cx);refine ao _ _ ?_;clear ao;obtain⟨W6,V⟩:∃W6,(cA (cA (cA l (R a 14)<|aJ next) (R a 17)<|aJ j) (R a 9)<|aJ b).drew=W6:=⟨_,rfl⟩;have N:I (λq=>q=a) l W6:=by rw[<-V];exact(((gW a l).setCell a 17 _<|.inl rfl).setCell a 9 _<|.inl rfl).trans (ci (λq=>q=a) _)<|λ_ E=>.inl E
 have ax:bJ W6 a (s.th (J z0 l0 d0) (J z1 l1 d1) (J z2 l2 d2) (J z3 l3 d3) next j b s.kA) bT:=by rw[<-V];exact Eq.trans (show _=_ from aT<|aT<|aT cc) rfl
 have bs:=bg W6<|ac.trans N<|λ_ E=>.inl E;have r2:=bJ.cellAt ax 2 rfl;have br:=bs.2;obtain⟨bd,ad,cl⟩:=dA ax N V;clear ax N V bs s0 s1 s2 v9 cB cE cn;rw[ae cl];go_wp2_with fail
 apply br.mono;rintro bx w7⟨x7,c7,rfl,X⟩;have W:bJ w7 a (s.th (J z0 l0 d0) (J z1 l1 d1) (J z2 l2 d2) (J z3 l3 d3) next j b s.kA) bT:=(X.block a (am bd) id).trans bd;have dT:=bJ.cellAt W 21 rfl;have dn:w7.frozen? (R a 21)=aY:=W.free;have bc:I (λq=>q=a) w7 (cA w7 (R a 21)<|aK<|decide<|0<nf):=(gW a w7);have bq:bJ (cA w7 (R a 21)<|aK<|decide<|0<nf) a (s.th (J z0 l0 d0) (J z1 l1 d1) (J z2 l2 d2) (J z3 l3 d3) next j b<|decide<|0<nf) bT:=(aT W).trans rfl;have aq:=((ac.trans ad<|λ_ E=>.inl E).cr X).trans bc<|λ_ E=>.inl E;have bt:=(bg _ aq).1;have bv:I (λq=>F q\/q=a) ca (cA w7 (R a 21)<|aK<|decide<|0<nf):=((cj.trans ad<|λ_ E=>.inl<|.inr E).cr X).trans bc<|λ_ E=>.inl<|.inr E;have bf:=U<|And.intro bq (And.intro bt bv);have cT:decide ((0:Z)<(nf:Z))=decide (0<nf):=by simp
 clear W bc bq aq bt bv X br;go_wp2;go_ret;refine⟨rfl,J z0 l0 d0,J z1 l1 d1,J z2 l2 d2,J z3 l3 d3,?_⟩;exact bf
def LO(h:bJ a b n m)(f:cQ a n.aH j)(u:Pow a)(w:n.log<18446744073709551616)(t:dX (vw j.files) (iQ n.log)=none):cD bz 65 #[ay b] a λo l=>o=aL .nilIface/\I az a l:=by
 have c:=wu n.log w u;have B:=bJ.cellAt h 17 rfl
 have i:∀W,I az a W->aO W (R b 2)=H (ay n.aH)/\cD bz 107 #[ay n.aH,aj<|iQ n.log] W λo l=>o=aL (dw #[aD,.iface 223<|ay<|z<|G W])/\l=cF W (ar #[aj<|iQ n.log,ap 10] 227):=λW s=>
  ⟨bJ.cell ((s.block b (am h) id).trans h) rfl,Hu (db:=n.aH) (K:=j) (iQ n.log) (w:=W) (f.aw s<|λ_ _=>id) t⟩
 have g:∀(W:Y),cD bz 108 #[.iface 223<|ay<|z<|G W,.iface 53<|ap 10] (cF W<|ar #[aj<|iQ n.log,ap 10] 227) λo l=>o=aL (aK bU)/\l=cF W (ar #[aj<|iQ n.log,ap 10] 227):=λW=>QU (z<|G W) 10 _ (by have:(cF W<|ar #[aj<|iQ n.log,ap 10] 227).heap[z<|G W]?=H (ar #[aj<|iQ n.log,ap 10] 227 (0,0)):=aB _ rfl;rw[bL this];rfl);clear h f u t;generalize iQ n.log=k at*;go_in
 go_wp2_with fail
 apply c.mono;rintro o q⟨rfl,e⟩;have d:I az a q:=I.aR e;obtain⟨C,x⟩:=i q d;have v:=g q;have p:=U<|d.alloc<|ar #[aj k,ap 10] 227;clear i g d e c;go_wp2_with fail
 apply x.mono;rintro o r⟨rfl,A⟩;subst r;go_wp2_with fail
 apply v.mono;rintro o r⟨rfl,A⟩;subst r;go_wp2;go_ret;exact⟨rfl,p⟩
def SR.uD(s:SR)(a:aa)(j n:M):SR:={s with memory:=a,gK:=n,aW:=s.aW+j}
def Mb(s:SR)(a:s.memory=aD)(b:s.gK=0):s.uD aD 0 0=s:=by
 cases s;simp_all[SR.uD]
def Lh{lsqq:dL}(j:M):((lsqq.take j).map y).sum<=(lsqq.map y).sum:=by
 grind[take_append_drop]
def lh(a:dL):cJ:=a.foldl (λm l=>gw [] m l) []
theorem zI(a:dL)(l:cJ):lh (a++[l])=gw [] (lh a) l:=by simp[lh]
def SQ(l:cJ):∀(p:Option E)(a:ab),(∀q,p=H q->q.key=a)->(p=none->∀e∈l,e.key≠a)->lY [] p l=nu a l:=by
 induction l with
 |nil=>intro p a _ _;rfl
 |cons e r f=>
  intro p a i d;rw[lY,nu];cases p with
  |none=>
   have b:pJ [] none e=bU:=rfl;rw[dz b,dr (d rfl e<|by simp),f (H e) e.key (λq c=>by cases c;rfl)<|λg=>by cases g]
  |some q=>
   have c:=i q rfl;by_cases g:e.key=a
   .have b:pJ [] (H q) e=aY:=by simp[pJ,c,g]
    rw[dr (by rw[b];simp),dz g,f (H e) e.key (λx d=>by cases d;rfl)<|λh=>by cases h]
   .have b:pJ [] (H q) e=bU:=by simp[pJ,c];grind
    rw[dz b,dr g,f (H e) e.key (λx d=>by cases d;rfl)<|λh=>by cases h]
def Mm(h:gN e)(b:∀x∈e,x.bP<=m):dI [] e=jQ m e:=by
 unfold dI jQ;rw[fB.2<|λx a=>by grind];exact SQ e none ⟨#[]⟩ (λq a=>by cases a)<|λ_=>h.key
def XX(u:Gg m k):∀j,j<=y k->lh (k.take j)=gQ [] (k.take j).flatten/\gN (lh<|k.take j)/\(∀x∈lh (k.take j),x.bP<=m+j-1)/\jQ (m+j-1) (lh<|k.take j)=lh (k.take j):=by
 intro j;induction j with
 |zero=>intro _;exact⟨rfl,gN.nil,by simp[lh],rfl⟩
 |succ j t=>
  intro v;obtain⟨g,h,p,q⟩:=t (by omega);have a:j<y k:=by omega
  have s:=u.iX k[j]<|ak a;have r:∀x∈k[j],x.bP=(m+j-1)+1:=λx b=>by rw[u.num j a x b];omega
  have i:∀e∈k[j],e.key≠⟨#[]⟩:=λe a=>uk<|s e a;have l:lh (k.take<|j+1)=gw [] (lh<|k.take j) k[j]:=by rw[ah a,zI]
  have d:gN (fH (lh<|k.take j) k[j]):=h.fH i;have c:∀x∈fH (lh<|k.take j) k[j],x.bP<=(m+j-1)+1:=λx b=>by
   grind[xN]
  have n:=Mm d c;have e:jQ ((m+j-1)+1) (gw [] (lh<|k.take j) k[j])=gw [] (lh<|k.take j) k[j]:=by
   show jQ _ (dI [] _)=dI [] _;rw[yR d<|.inr c,n]
  have f:=GY h p i r [];rw[e,q,g]at f;have o:m+((j+1:M):Z)-1=(m+j-1)+1:=by grind
  rw[l,o];refine⟨?_,d.sub<|uX [] _ _,λx b=>c x<|(uX [] _ _).subset b,e⟩;rw[g,f,ah a,dB,zk];simp
def WA(a:dL):∀m,dM m->dM (a.foldl (λm l=>gw [] m l) m):=by
 induction a with
 |nil=>grind
 |cons l r b=>grind[yu]
theorem Hx(a:dL):dM (lh a):=WA a [] dM.nil
def WC(a:dL):∀m:cJ,y (a.foldl (λm l=>gw [] m l) m)<=y m+(a.map y).sum:=by
 induction a with
 |nil=>intro m;simp
 |cons l r b=>
  grind[yw]
def Hy(a:dL):y (lh a)<=(a.map y).sum:=by
 have:=WC a [];simpa[lh]using this
def OO(c:dL)(h:bJ a b n m)(bc:cQ a n.aH j)(al:¬j.aU n.aH b)(hp:Pow a)(hT:Steps a)(bv:1≠b/\¬j.aU n.aH 1)(hl:n.log<18446744073709551616)(bd:Gg ((n.aW:Z)+1) c)(o:dX (vw j.files) (iQ n.log)=H (lM ((n.aW:Z)+1) c))(co:0<y (lM ((n.aW:Z)+1) c))(dx:y (lM ((n.aW:Z)+1) c)<=200000)(hm:n.memory=aD)(cd:n.gK=0)(eq:n.aW<=1000000000)(ea:Gk a j b n []):cD bz 65 #[ay b] a λbq s=>bq=aL .nilIface/\∃S k,bJ s b {n.uD S (y c) (c.map y).sum with gE:=bU,vU:=aY,kB:=bU} m/\s.ownsRow (z<|G a) 180 4 S (y<|lh c) (aF<|lh c)/\fY a s n.aH b j k/\k.files=j.files/\k.eJ=j.eJ/\(∀m,k.aU n.aH m->j.aU n.aH m):=by
 have dT:=am h;have ad:=wu n.log hl hp;have ec:=bJ.cellAt h 17 rfl;have eB:IntKind.u64.wrap ((n.aW:Z)+1)=(n.aW:Z)+1:=by rw[gZ];omega
 obtain⟨rb,K⟩:∃rb,lM ((n.aW:Z)+1) c=rb:=⟨_,rfl⟩;have cq:∀W,I az a W->aO W (R b 2)=H (ay n.aH)/\cD bz 107 #[ay n.aH,aj<|iQ n.log] W λbq s=>∃c V,bq=aL (dw #[bB c 0 (y rb) V,.nilIface])/\eP s (z<|G W) (bB c 0 (y rb) V) rb/\y rb<=V/\V<=9223372036854775807/\bJ s b n m/\Steps s/\∃k,fY a s n.aH b j k/\k.files=j.files/\k.eJ=j.eJ/\∀m,k.aU n.aH m->j.aU n.aH m:=λW f=>by have d:bJ W b n m:=(f.block b dT id).trans h;refine⟨d.cell rfl,?_⟩;refine(LU (db:=n.aH) (K:=j) (iQ n.log) rb (w:=W) (bc.aw f<|λ_ _=>id) (by rw[<-K];exact o) (by rw[<-K];omega)).mono ?_;rintro bq s⟨v',rfl,B,k,hd,e1,e2,e3⟩;have l:=(po (sbqq:=b) bc f).trans<|fY.of hd;have i:bJ s b n m:=(hd.aw.block b (am d) al).trans d;have g:Steps s:=λq a=>hd.aw.cell (f.cell (hT q a) id<|dj _ _<|hT q a) bv.2<|ag (dj _ _<|hT q a) f.size;have w:=B;obtain⟨q1,⟨q2,q0⟩|⟨x,D,E,q2,L,O,p,r,A⟩⟩:=w;rw[K]at co;omega;subst q2;exact⟨x,D,rfl,B,p,by unfold maxLen at r;omega,i,g,k,l,e1,e2,e3⟩
 obtain⟨HH,dc,bs,au,HM⟩:=je h cq bd K<|And.intro hm cd;have en:=bd.sum;clear h bc hp hT bv o co dx cq bd K hm cd hl;generalize iQ n.log=eo at*;go_in
 go_wp2_with fail
 apply ad.mono;rintro bq w1⟨rfl,bT⟩;have bl:I az a w1:=I.aR bT;obtain⟨k2,hr⟩:=dc w1 bl;have eu:=bl.size;clear bl bT ad;go_wp2_with fail
 apply hr.mono;rintro bq w2⟨rx,rc,rfl,F,cb,cc,ba,bu,ax⟩;have q9:=bJ.cellAt ba 9 rfl;have ev:z (G w1)<=rx:=(F.lt rx rfl).1;have bf:=JL rx 0 rc bu bs (by rw[ae au];exact cb) cc (F.lt rx rfl).2 (by rw[ae au];exact eP.bytes F);rw[ae au]at bf;have cj:=We 10 w2;have em:=(F.lt rx rfl).2;obtain⟨br,cE,dk⟩:=dA ba ax (show∃k,Gk w2 k b n []from by obtain⟨k,hd,_⟩:=ax;exact⟨k,ea.eW hd⟩);clear ba ax hr F cb cc bu k2 ec;go_wp2_with fail
 apply cj.mono;rintro bq ei⟨rfl,hw⟩;subst ei;go_wp2_with fail
 apply bf.mono;rintro bq w3⟨x3,c3,vs,rfl,bg,bb,bm⟩;obtain⟨t,v⟩:∃t,cF w3 (ar #[J x3 (y c) c3,aK aY] 212)=t:=⟨_,rfl⟩;have bn:I az w2 t:=by rw[<-v];exact bm.alloc _
 have N:I az w3 t:=by rw[<-v];exact(cK az w3)
 have ex:=bm.size;have bi:z (G t)=z (G w3)+1:=by rw[<-v];simp
 have C:t.heap[z<|G w3]?=H (ar #[J x3 (y c) c3,aK aY] 212 (0,0)):=by rw[<-v];exact aB _ rfl
 have ca:bJ t b n m:=(bn.block b (am br) id).trans br;have bt:Row t 1 (J x3 (y c) c3) (y c) vs:=da<|N.own bg<|λ_ _ V=>V;have bx:∀e(a:e<y vs)(b:e<y c),t.ownsRow (z (G w2)+2) 180 4 vs[e] (y c[e]) (aF c[e]):=λe a b=>N.own (bb.2 e a b)<|λ_ _ V=>V;have ac:∀x,ct (J x3 (y c) c3)=H x->z (G w2)+2<=x/\x<z (G w3):=λx o=>bg.lt x o;have ek:=cellAt C 0 rfl;obtain⟨dn,cT,dm,cB,cM,cx,av,dd,ds⟩:=xU bb.1 bt bx ac C ca bn bi v;clear bg bb bm N C ca bt bx ac bn bi bf cj q9 v;go_wp2;rw[ae ds];go_loopw [47] (λbp wr=>∃(e:M)(S:aa),e<=y c/\bp=ap e/\bJ wr b (n.uD S e ((c.take e).map y).sum) m/\wr.ownsRow (z<|G a) 180 4 S (y<|lh<|c.take e) (aF<|lh<|c.take e)/\I (λm=>m=b) t wr) (λbp _=>y c-(intOf bp).toNat)
 (case atStart=>have bq:=Mb n HM.1 HM.2;refine⟨0,aD,bj _,by go_num,?_,bK _ _ _ _,I.refl _ _⟩;show bJ t b (n.uD aD 0 0) m;rw[bq];exact cx)
 case round=>
  obtain⟨e,S,hj,rfl,d,g,i⟩:=hrel;have bi:=ae dd;have ey:=i.size;obtain⟨A,E⟩:∃A,n.aW+e=A:=⟨_,rfl⟩;obtain⟨r,l⟩:∃r,((c.take e).map y).sum=r:=⟨_,rfl⟩;have bk:=Lh (lsqq:=c) e;have ck:y c<=(c.map y).sum:=Ej<|λl hl=>(bs.one l hl).1;have el:y c<=31:=by omega
  have ch:y (c.take e).flatten=r:=by rw[<-l,ml]
  have bh:=Hy<|c.take e;rw[l]at bh;rw[l]at bk;obtain⟨mx,mc,cm⟩:=aA g;have ed:=bJ.cellAt d 7 rfl;have ef:aO wr (R b 8)=H (ap r):=by rw[<-l];exact d.cell rfl
  have eg:aO wr (R b 9)=H (aJ A):=by rw[<-E];exact d.cell rfl
  by_cases D:e<y c
  .have e1:(e:Z)<(y c:Z):=by omega
   have e2:(0:Z)<=(e:Z):=by omega
   have cl:e<y vs:=by rw[ae dn];exact D
   have X:=dm e cl D;have bo:∀x,ct vs[e]=H x->z (G w2)+2<=x/\x<z (G t):=λx o=>X.lt x o;have cu:=i.own X (λx o V=>by have:=(bo x o).1;omega);have ce:∃b a,x3=H (R b a)/\aO wr (R b<|a+e)=H vs[e]:=by
    obtain⟨q1,⟨q2,q0⟩|⟨x,B,ej,q2,et,hc⟩⟩:=ae cT
    .omega
    .cases q2;have es:=cB x rfl;exact⟨x,B,rfl,i.cell (hc e _<|aI cl) (by omega)<|by omega⟩
   obtain⟨b3,o3,eb,ce⟩:=ce;subst eb;have W:((c.take<|e+1).map y).sum=r+y c[e]:=by rw[ah D,aQ,eR,l];simp
   have L:=Lh (lsqq:=c)<|e+1;rw[W]at L;have cp:gw [] (lh<|c.take e) c[e]=lh (c.take<|e+1):=by rw[ah D,zI]
   obtain⟨Kx,cs⟩:=ae dk;obtain⟨mb,m1,m2,m3⟩:=cs.ex;have m4:jw wr mb (Bo []):=m2.di<|((i.block mb (by have:=av.size;have:=m3.lt;omega) m3.ne).trans<|av.block mb m3.lt id);have ao:=Bw b (n.uD S e ((c.take e).map y).sum) m [] vs[e] c[e] d m1 m4 (by simp) (da g) (λx o=>(g.lt x o).2) (da cu) (λx o=>by have:=(bo x o).2;omega) (Hx _) (by omega);have cv:cD bz 88 #[ay b,vs[e]] wr λbq s=>∃v',bq=aL v'/\s.ownsRow (z<|G wr) 180 4 v' (y<|lh<|c.take<|e+1) (aF<|lh<|c.take<|e+1)/\I az wr s:=by rw[<-cp];exact ao
   clear ao m1 m2 m3 m4 cs;obtain⟨xj,fd,an⟩:=aA X;obtain⟨Q,dv⟩:∃Q,y c[e]=Q:=⟨_,rfl⟩;rw[dv]at an W L;generalize vs[e]=vj at*;have ez:IntKind.i64.wrap ((r:Z)+(Q:Z))=(r:Z)+(Q:Z):=by rw[bw];omega
   have eA:IntKind.u64.wrap ((A:Z)+1)=(A:Z)+1:=by rw[gZ];omega
   have HF:=U (show∀p f,I az wr p->p.ownsRow (z<|G wr) 180 4 f (y<|lh<|c.take<|e+1) (aF<|lh<|c.take<|e+1)->(aO p (R b 7)=H S/\aO p (R b 8)=H (ap r)/\aO p (R b 9)=H (aJ A)/\∀bp,p.frozen? (R b bp)=aY)/\bJ (cA (cA (cA p (R b 7) f) (R b 8)<|ap<|(r:Z)+Q) (R b 9)<|aJ<|(A:Z)+1) b (n.uD f (e+1) ((c.take<|e+1).map y).sum) m/\(cA (cA (cA p (R b 7) f) (R b 8)<|ap<|(r:Z)+Q) (R b 9)<|aJ<|(A:Z)+1).ownsRow (z<|G a) 180 4 f (y<|lh<|c.take<|e+1) (aF<|lh<|c.take<|e+1)/\I (λm=>m=b) t (cA (cA (cA p (R b 7) f) (R b 8)<|ap<|(r:Z)+Q) (R b 9)<|aJ<|(A:Z)+1)fromλp f O w=>by
    have B:bJ p b (n.uD S e ((c.take e).map y).sum) m:=(O.block b (am d) id).trans d;have P:I (λm=>m=b) p (cA (cA (cA p (R b 7) f) (R b 8)<|ap<|(r:Z)+Q) (R b 9)<|aJ<|(A:Z)+1):=((gW b p).setCell b 8 _<|.inl rfl).setCell b 9 _<|.inl rfl;refine⟨⟨B.cell rfl,by rw[<-l];exact B.cell rfl,by rw[<-E];exact B.cell rfl,λbp=>B.free⟩,?_,?_,(i.cr O).trans P<|λ_ V=>.inl V⟩
    .have hx:=aT (i:=9) (u:=aJ<|(A:Z)+1)<|aT (i:=8) (u:=ap<|(r:Z)+Q)<|aT (i:=7) (u:=f) B;have e9:((A:Z)+1)=((n.aW+(e+1):M):Z):=by rw[<-E];grind
     have e8:((r:Z)+Q)=((((c.take<|e+1).map y).sum:M):Z):=by rw[W];grind
     rw[e9,e8]at hx|-;exact hx.trans rfl
    .exact er (P.own w (λx o V=>by have:=(w.lt x o).1;have:=am d;omega)) (by omega))
   clear d g i X bo cu W L cp bh ch bk ck E l;subst cm;subst an;go_wp2_with fail
   apply cv.mono;rintro bq p⟨f,rfl,w,O⟩;obtain⟨fb,eF,cn⟩:=aA w;obtain⟨⟨y7,y8,y9,fz⟩,hF⟩:=HF p f O w;have aq:=U hF;clear hF O w cv;subst cn;go_wp2;go_roundw;case rel=>exact⟨e+1,_,D,by go_num,aq.1,aq.2.1,aq.2.2⟩
   case measure=>simp[intOf];omega
  .have e1:¬(e:Z)<(y c:Z):=by omega
   have f:e=y c:=by omega
   have p:=(i.block _ (by omega)<|by omega).trans cM;have y1:=cellAt p 1 rfl;have fz:∀bp,wr.frozen? (R b bp)=aY:=λbp=>d.free;have bo:=bJ.cellAt d 18 rfl;have ce:=bJ.cellAt d 19 rfl;have cl:=bJ.cellAt d 20 rfl;have an:=am p;have ao:=am d;have aq:z (G w3)≠b:=by omega
   obtain⟨B,O,Q,L⟩:=gH d g i f;clear d g i p f bk ck ch bh E l ed ef eg cm;go_wp2_with fail
   rename_i KK w;apply GL KK
   .intro X;go_region
    all_goals exact X
   apply w;clear w;go_wp2;go_ret;have f:=ae L;subst f;have d:=ae B;have g:=ae O;rw[aX]at d g;obtain⟨k,hd,e3,e4,e5⟩:=ae cE;have P:I (λm=>m=b) wr ((cA (cA (cA wr (R b 18)<|aK bU) (R b 19)<|aK aY) (R b 20)<|aK bU).drew):=(((gW b wr).setCell b 19 _<|.inl rfl).setCell b 20 _<|.inl rfl).trans (ci _ _)<|λ_ V=>.inl V;have W:=((av.mono (T:=λm=>m=b) cO).trans Q<|λ_ V=>.inl V).trans P<|λ_ V=>.inl V;refine⟨rfl,S,k,?_,P.own g (λx o V=>by have:=(g.lt x o).1;omega),hd.trans<|Ch hd.ok (λq=>al<|e5 _ q) W,e3,e4,e5⟩;have hx:=aT (i:=20) (u:=aK bU)<|aT (i:=19) (u:=aK aY)<|aT (i:=18) (u:=aK bU) d;exact Eq.trans (show _=_ from hx) rfl
def jw.FT{k:fM}(n:jw a b k)(o:I (λc=>c=b) a f)(j:aO a (R c g)=H d):aO f (R c g)=H d:=by
 obtain⟨p,e,m,_⟩:=n;have i:c≠b:=by intro l;rw[l]at j;simp[World.cell?,m]at j
 have h:c<z (G a):=by rcases gU c (z<|G a)with l|l;exact l;simp[World.cell?,jq l]at j
 exact o.cell j i h
def jw.Ug{h:fM}(i:jw a b h)(j:I (λc=>c=b) a f){t:TypeId}{d:M×M}(k:a.heap[c]?=H (ar V t d)):f.heap[c]?=H (ar V t d):=by
 obtain⟨l,e,m,_⟩:=i;have g:c≠b:=by grind
 exact(j.block c (am k) g).trans k
def jw.QK{k:fM}(n:jw a b k)(o:I (λr=>r=b) a f)(q:Row a c d g x):Row f c d g x:=by
 obtain⟨j,⟨rfl,l⟩|⟨p,e,h,rfl,i,m⟩⟩:=q;exact⟨j,.inl ⟨rfl,l⟩⟩;exact⟨j,.inr ⟨p,e,h,rfl,i,λq u l=>n.FT o<|m q u l⟩⟩
def Aside.qm(h:Aside a j b c g)(d:I X a f):Aside f j b c g:=⟨ag h.lt d.size,h.aU,h.ne⟩
def Pow.qm{d:fM}(h:Pow a)(e:jw a b d)(g:I (λk=>k=b) a f):Pow f:=by
 refine h.aw g<|λl=>?_;obtain⟨i,c,j,_⟩:=e;unfold Pow Lib.TabIs World.var? at h;rw[EL]at h;grind
def Gf.qm{q:fM}(r:Gf a j b c d i)(n:jw a g q)(k:I (λu=>u=g) a f):Gf f j b c d i:=by
 refine⟨n.QK k r.row,λu t=>(r.loc u t).qm k,λv o=>?_⟩;have h:=r.each v o;obtain⟨p,l,e,m,s⟩:=h.mem;exact⟨⟨p,l,e,⟨n.Ug k m.box,λr u o=>n.FT k<|m.cells r u o,m.ne,m.le,m.small⟩,s.qm k⟩,h.loc.qm k,h.ks,h.num,h.pure,h.idx,h.small,h.file⟩
def ST.qm{p:fM}(h:ST a b n j e i o r s g)(k:jw a c p)(t:Aside a j n.aH b c)(d:I (λm=>m=c) a f):ST f b n j e i o r s g where
 mem:=k.QK d h.mem
 tg:=λm l=>(h.tg m l).qm d
 l0:=h.l0.qm k d
 l1:=h.l1.qm k d
 l2:=h.l2.qm k d
 l3:=h.l3.qm k d
 aH:=h.aH.aw d<|λm r k=>t.aU (by have q:m=c:=k;rw[<-q];exact r)
 qZ:=h.qZ
 kC:=⟨λm l=>k.FT d<|h.kC.steps m l,h.kC.pow.qm k d,h.kC.fw.qm d,h.kC.mi.qm d⟩
 qf:=h.qf
 lV:=h.lV
 mh:=h.mh
 iX:=h.iX
 s1:=h.s1
 s2:=h.s2
 s3:=h.s3
def Inv.qm{s s':SR}{V:cf}{T m:fh}(h:Inv a b s j e i o r V g l A k T)(W:s.lW=H c)(d:s'={s with ie:=s'.ie})(x:I (λX=>X=c) a f)(Q:jw f c (Bo m))(P:y m<=4)(O:∀ac∈m,ac.2<=s.aW):Inv f b s' j e i o r V g l A k m:=by
 obtain⟨u,B,S,C⟩:=h.oU.ex;have N:u=c:=by rw[B]at W;grind
 subst N;have t:=(h.st.qm S C x).fields (s':=s') (by rw[d];grind) (by rw[d]);have v:s'.next=s.next:=by rw[d]
 have D:s'.log=s.log:=by rw[d]
 have q:s'.gE=s.gE:=by rw[d]
 have n:s'.aW=s.aW:=by rw[d]
 have E:s'.gK=s.gK:=by rw[d]
 have F:s'.vU=s.vU:=by rw[d]
 have K:s'.mem=s.mem:=by rw[d]
 have L:s'.qQ=s.qQ:=by rw[d]
 have w:s'.aH=s.aH/\s'.lW=s.lW:=by rw[d];grind
 have p:s'.kB=s.kB:=by rw[d]
 exact⟨t,by rw[v,D,q];exact h.qF,h.pr,h.lp,by rw[n];exact h.mem,by rw[n];exact h.Oa,h.Xx,h.Ze,⟨⟨u,w.2.trans B,Q,by rw[w.1];exact C.qm x⟩,P⟩,by rw[n];exact O,by rw[n];exact h.Bq,by rw[E];exact h.Ut,by rw[F];exact h.vU,h.EW,by rw[v];exact h.nx,by rw[n];exact h.bn,h.eJ,by rw[K,L];exact h.Mg,by rw[q,p];exact h.loose,by rw[q];exact h.VQ,h.lV⟩
def XK{sn:fh}{n:M}(h:∀p∈sn,p.1<n)(t:M):(Bo sn).put (n:Z) (aJ (t:Z))=Bo (sn++[(n,t)]):=by
 induction sn with
 |nil=>rfl
 |cons p r c=>
  have b:=h p (by simp);have a:=c (λq b=>h q<|by simp[b]);unfold Bo at a|-;rw[bZ,cL,bZ,fM.put,dr (by grind),a]
def lX:fh->Z->fh
 |[],_=>[]
 |p::r,n=>if(p.1:Z)=n then r else p::lX r n
def QE(n:Z):∀a:fh,(Bo a).del n=Bo (lX a n)
 |[]=>rfl
 |p::r=>by
  have b:=QE n r;unfold Bo at b|-;rw[bZ,fM.del,lX];grind
def Hk(n:Z):∀a:fh,(lX a n).Sublist a
 |[]=>nB _
 |p::r=>by
  rw[lX];split
  .grind
  .exact(Hk n r).cons_cons _
abbrev Zs:=cw<|Option<|M×jN
abbrev YO:=cw<|Option jN
def io:M->Zs->fh
 |_,[]=>[]
 |n,H x::r=>(n,x.1)::io (n+1) r
 |n,none::r=>io (n+1) r
def ub(a:Zs):YO:=a.map<|Option.map Prod.snd
def oo.abs(x:oo):Option jN:=if x.live then H x.l else none
def zP(x:M×jN):∀(b:Zs)(n:M),io n (b++[H x])=io n b++[(n+y b,x.1)]
 |[],n=>rfl
 |some a::r,n=>by
  have e:n+y (H a::r)=n+1+y r:=by rw[aS];omega
  rw[cL,io,io,zP x r<|n+1,e,cL]
 |none::r,n=>by
  have e:n+y (none::r:Zs)=n+1+y r:=by rw[aS];omega
  rw[cL,io,io,zP x r<|n+1,e]
def vq:∀(a:Zs)(n:M)(p:M×M),p∈io n a->n<=p.1/\p.1<n+y a
 |[],n,p,h=>by cases h
 |some b::r,n,p,h=>by
  rw[aS];rcases bH.1 h with rfl|h
  .grind
  .have:=vq r (n+1) p h;omega
 |none::r,n,p,h=>by
  have:=vq r (n+1) p h;rw[aS];omega
def zB:∀{a:fh},(∀p∈a,(p.1:Z)≠m)->pB a m=none
 |[],_=>rfl
 |p::r,h=>by
  rw[pB,dr<|h p<|by simp];exact zB<|λq b=>h q<|by simp[b]
def BT:∀(b:Zs)(n j:M),pB (io n b) ((n+j:M):Z)=match b[j]? with|some (H x)=>H x.1|_=>none
 |[],n,j=>rfl
 |some x::r,n,0=>by rw[io,pB,dz<|by grind];rfl
 |some x::r,n,j+1=>by
  have a:=BT r (n+1) j;rw[io,pB,dr (by grind),show n+(j+1)=n+1+j by omega,a];rfl
 |none::r,n,0=>by
  rw[io,zB (λp a=>by have:=vq r (n+1) p a;omega)];rfl
 |none::r,n,j+1=>by
  have a:=BT r (n+1) j;rw[io,show n+(j+1)=n+1+j by omega,a];rfl
def BU:∀(c:Zs)(n j:M)(x:M×jN),c[j]?=H (H x)->lX (io n c) ((n+j:M):Z)=io n (c.set j none)
 |[],n,j,x,h=>by cases h
 |none::r,n,0,x,h=>by cases h
 |some b::r,n,0,x,h=>by rw[io,lX,dz<|by grind];rfl
 |some b::r,n,j+1,x,h=>by
  have a:=BU r (n+1) j x h;rw[io,lX,dr (by grind),show n+(j+1)=n+1+j by omega,a];rfl
 |none::r,n,j+1,x,h=>by
  have a:=BU r (n+1) j x h;rw[io,show n+(j+1)=n+1+j by omega,a];rfl
def yJ:∀(a:Zs)(n:M),y (io n a)=y ((ub a).filter Option.isSome)
 |[],n=>rfl
 |some c::r,n=>by
  have b:=yJ r<|n+1;rw[io,aS,b];rfl
 |none::r,n=>yJ r<|n+1
def yH:∀(a:Zs)(n:M)(x:M×jN),H x∈a->(x.1:Z)∈qY (io n a)
 |[],n,x,h=>by cases h
 |some b::r,n,x,h=>by
  rcases bH.1 h with e|h
  .cases e;exact ew ..
  .exact bI _<|yH r (n+1) x h
 |none::r,n,x,h=>by
  rcases bH.1 h with e|h
  .cases e
  .exact yH r (n+1) x h
def Il:∀(b:cw oo),uh b=y ((b.map oo.abs).filter Option.isSome)
 |[]=>rfl
 |x::r=>by
  have a:=Il r;unfold uh at*;cases hl:x.live with
  |true=>simp[oo.abs,hl,a]
  |false=>simp[oo.abs,hl,a]
def Xl(a:YO)(n:Z):Option jN:=if n<1 then none else match a[(n-1).toNat]? with
 |some x=>x
 |none=>none
def BA(a:Zs)(n:Z):(∃(j:M)(b:M×jN),n=(j:Z)+1/\a[j]?=H (H b)/\pB (io 1 a) n=H b.1/\Xl (ub a) n=H b.2)\/(pB (io 1 a) n=none/\Xl (ub a) n=none):=by
 by_cases c:n<1;refine .inr ⟨zB λp d=>?_,by unfold Xl;rw[dz c]⟩;have:=vq a 1 p d;omega;obtain⟨j,rfl⟩:∃j:M,n=(j:Z)+1:=⟨(n-1).toNat,by omega⟩;(have e:((j:Z)+1-1).toNat=j:=by omega);have d:=BT a 1 j;rw[show((1+j:M):Z)=(j:Z)+1 by omega]at d;(have f:(ub a)[j]?=a[j]?.map (Option.map Prod.snd):=by unfold ub;rw[dP]);unfold Xl;rw[dr c,e,d,f];rcases hz:a[j]? with _|_|b;(grind);(grind);grind
theorem Bg(a:cw oo)(n:Z):(∃(j:M)(x:oo),n=(j:Z)+1/\j<y a/\Ky a n=H x/\Xl (a.map oo.abs) n=H x.l)\/(Ky a n=none/\Xl (a.map oo.abs) n=none):=by
 by_cases b:n<1;exact .inr ⟨by unfold Ky;rw[dz b],by unfold Xl;rw[dz b]⟩
 .obtain⟨j,rfl⟩:∃j:M,n=(j:Z)+1:=⟨(n-1).toNat,by omega⟩;have d:((j:Z)+1-1).toNat=j:=by omega
  unfold Ky Xl;rw[dr b,dr b,d,dP];rcases hs:a[j]? with _|x
  .grind
  .have c:j<y a:=(iD.1 hs).1;cases hl:x.live with
   |true=>exact .inl ⟨j,x,rfl,c,by simp[hl],by simp[oo.abs,hl]⟩
   |false=>exact .inr ⟨by simp[hl],by simp[oo.abs,hl]⟩
def Sb(a:Zs):y (ub a)=y a:=by simp[ub]
def Sa(a:Zs)(j:M):ub (a.set j none)=(ub a).set j none:=by simp[ub,nZ]
def OH(a:Zs)(x:M×jN):ub (a++[H x])=ub a++[H x.2]:=by simp[ub]
def YM(a:cw oo)(j:M):(a.set j Bc).map oo.abs=(a.map oo.abs).set j none:=by rw[nZ];rfl
def LK{o:Func}{u:Tmp}(x:o.results=#[.cell u 102])(a:Array aa)(w:Y)(q:M)(k l m n:Option Addr)(g h i j c d e f:M)(v:TypeId)(p:M×M)(t:a.getD u ix=ay q)(r:w.heap[q]?=H (ar #[J k g c,J l h d,J m i e,J n j f] v p)):(results o a).run bz w=.ok (dW #[J k g c,J l h d,J m i e,J n j f]) w:=by
 have b:a[u]?.getD ix=ay q:=by simpa using t
 have s:=kJ (P:=bz) w q v 102 #[J k g c,J l h d,J m i e,J n j f] p _ r underlying102 rfl (by kernel_rfl);simp[results,x,b,asAddr,s]
def Th(p:eO)(h:kr a d e)(hm:Row a 1 u (y p) (p.map<|Value.int .u64))(hs:dM e)(hg:∀bc∈e,bc.Good)(hl:y e<=1000000)(h4:y p<=4)(hv:∀m,ct d=H m->m<z (G a))(v:∀m,ct u=H m->m<z (G a))(hT:Steps a)(av:1<z (G a)):cD bz 99 #[d,u] a λac w'=>∃v3,∃l:cf,ac=aL (dW #[aD,aD,aD,v3])/\w'.ownsRow (z<|G a) 142 1 v3 (y l) (l.map bA.ptr)/\l.map bA.all=gR (gA<|dI p e)/\qG w' (z<|G a) l/\I az a w':=by
 have k:I az a (cF a<|ar #[aD,aD,aD,aD] 102):=(cK az a);have F:(cF a<|ar #[aD,aD,aD,aD] 102).heap[z<|G a]?=H (ar #[aD,aD,aD,aD] 102 (0,0)):=aB _ rfl;have V:z (G<|cF a<|ar #[aD,aD,aD,aD] 102)=z (G a)+1:=by simp
 have P:=wk p (k.row h<|λm f=>⟨id,hv m f⟩) hs hl (k.row hm<|λm f=>⟨id,v m f⟩) (by omega) (λm f=>ag (hv m f) k.size)<|λm f=>ag (v m f) k.size;obtain⟨x1,n1,ax⟩:=bM h;obtain⟨x2,n2,ba⟩:=bM hm;obtain⟨ao,ad,an⟩:=dA k F hT;clear h hm hv v k F hT;subst ax ba;go_in
 go_wp2_with fail
 apply P.mono;rintro ac w2⟨v2,rfl,n,x⟩;have L:=NC (da n) (hs.sub<|js p e) (aC (js p e).length_le hl)<|λm f=>(n.lt m f).2;obtain⟨y2,d2,rfl⟩:=aA n;have aq:=U<|ao.cr x;have C:=U<|(x.block _ (by rw[V];omega) id).trans ad;clear n x P;go_wp2_with fail
 apply L.mono;rintro ac w3⟨v3,rfl,o,A⟩;have g:=(kg<|dI p e).trans<|js p e;have E:=U<|aq.cr A;have Q:=uF (da o) (hs.sub g) (((yx hs).sub<|kg _).mono<|by omega) (λbc a=>hg bc<|g.subset a) (aC g.length_le hl) (λm f=>(o.lt m f).2)<|λm f=>E.cell (an m f) id av;obtain⟨y3,d3,rfl⟩:=aA o;have r:=U<|(A.block _ (am C) id).trans C;clear o A L g;go_wp2_with fail
 apply Q.mono;rintro ac w4⟨v4,l,rfl,w,T,N,B⟩;have c:=(B.block _ (am r) id).trans r;have bb:z (G a)+1<=z (G w3):=by have:=am r;omega
 have au:=U<|E.cr B;obtain⟨y4,d4,rfl⟩:=aA w;have X:=U<|And.intro w (And.intro T N);have g0:=cellAt c 0 rfl;have g1:=cellAt c 1 rfl;have g2:=cellAt c 2 rfl;have g3:=cellAt c 3 rfl;have f0:=dE (i:=0) c;have f1:=dE (i:=1) c;have f2:=dE (i:=2) c;have f3:=dE (i:=3) c;obtain⟨s,t⟩:∃s,cA (cA (cA (cA w4 (R (z<|G a) 0) aD) (R (z<|G a) 1) aD) (R (z<|G a) 2) aD) (R (z<|G a) 3) (J y4 (y l) d4)=s:=⟨_,rfl⟩;have K:s.heap[z<|G a]?=H (ar #[aD,aD,aD,J y4 (y l) d4] 102 (0,0)):=by rw[<-t];exact Fk c
 have j:I (λq=>q=z (G a)) w4 s:=by rw[<-t];exact(((gW (z<|G a) w4).setCell _ _ _<|.inl rfl).setCell _ _ _<|.inl rfl).setCell _ _ _<|.inl rfl
 have W:I az a s:=au.trans j<|λm ac=>.inr (by have e':m=z (G a):=ac;omega);have S:s.ownsRow (z<|G a) 142 1 (J y4 (y l) d4) (y l) (l.map bA.ptr):=er (j.own X.1 (λm f c=>by have c':m=z (G a):=c;have:=(X.1.lt m f).1;omega)) (by omega);have O:qG s (z<|G a) l:=(X.2.2.other j (λm ac=>by have e':m=z (G a):=ac;rw[e'];grind)).base (by omega);have al:=U K;have D:=U<|And.intro S (And.intro X.2.1 (And.intro O W));clear w T N B c K j W S O Q;go_wp2;clear t g0 g1 g2 g3 f0 f1 f2 f3;refine cP (LK rfl _ _ (z<|G a) none none none y4 0 0 0 (y l) 0 0 0 d4 _ _ rfl al) rfl ?_;exact⟨_,l,rfl,D⟩
section
open Conc.Locks
def JD{P:Program}{q:Oper}{g:Act}{K:Act->Y->Prop}{Q:Exit->Act->Y->Prop}(h x i:Operand)(w:TypeId)(f:q.op=Op.mapUpdate w h x i)(u A:TypeId)(n:P.underlying w=H (.map u A))(l:P.underlying u=H (.int .i64))(j:M)(v:fM)(m:g.eval h=.map (H j))(B:jw a j v)(b:Z)(c:aa)(p:g.eval x=ap b)(o:g.eval i=c)(k:∀d,jw d j (v.put b c)->a.grownBy d (H j)->z (G d)=z (G a)->K (g.put q.dst ix) d):Oper.wp P q g a K Q:=by
 obtain⟨d,e,r,s,t⟩:=Lw n l B b c;unfold Oper.wp;simp[execOp,f,m,p,o,e,Result.andThen];exact k d r s t
def ZG:kN 2=.iface 53 (ap 2):=rfl
def Du(h:bJ a b n 0)(l:n.closed=bU):cD bz 23 #[ay b] a λm k=>m=aL (dw #[ap 0,kN 6])/\bJ k b n 0/\I (λu=>u=b) a k:=by
 have p:=bJ.cellAt h 0 rfl;have r:a.frozen? (R b 0)=aY:=h.free;have j:=h.gx 1;have c:=gS j;rw[l]at c;simp only[ir]at c;have o:=U<|λg i=>oK (W2:=g) j (gW b a) i;clear h j l;rw[uL]at c|-;go_enter_defers func23,ntmps23
 go_wp2_with fail
 apply(lock_free (R b 0) _ p r).mono;rintro m k⟨rfl,rfl⟩;go_wp2_with fail
 apply c.mono;rintro m g⟨rfl,i⟩;obtain⟨q,s,d⟩:=o g i;have e:=U d;clear d i c;go_wp2;refine eH (f:=36) (args:=#[ay b]) (by simp) (by simp[go_sem]) ?_;apply(unlock_deferred (R b 0) .returning _ q s).mono;rintro m v t⟨rfl,rfl,rfl⟩;exact⟨_,jj rfl _ _ _,rfl,e⟩
def Gr(x:fh)(h:bJ a b n 0)(C:ST a b n j e i o r s c)(w:Gk a j b n x)(Q:n.closed=aY)(h4:4<=y x):cD bz 23 #[ay b] a λN A=>N=aL (dw #[ap 0,kN 2])/\vI a A b n j e i o r s c:=by
 have F:=am h;have X:=bJ.cellAt h 0 rfl;have f0:a.frozen? (R b 0)=aY:=h.free;have g:=jY C.aH C.qZ 1;have B:=h.gx 1;generalize O:cA a (R b 0) (iO 1)=m at g B;obtain⟨mb,S,L,q3⟩:=(w.eW g).ex;have d:=gS B;rw[Q]at d;have u:cD bz 37 #[ay b] m λN A=>N=aL .nilIface/\Below (z<|G m) m A:=d;obtain⟨W,V,D⟩:=dA (λl(p:Below (z<|G m) m l)=>And.intro (sX (W2:=l) B C F g p) (L.di<|p.block _ L.lt)) O S;clear h C g B Q O w S L q3 d;rw[ZG];go_enter_defers func23,ntmps23
 go_wp2_with fail
 apply(lock_free (R b 0) _ X f0).mono;rintro N A⟨rfl,K⟩;rw[ae V]at K;subst A;go_wp2_with fail
 apply u.mono;rintro N l⟨rfl,p⟩;obtain⟨⟨q,v,k⟩,t⟩:=W l p;have ac:aO l (R b 16)=H (.map<|H mb):=by rw[<-ae D];exact q.cell rfl
 have E:=Lx (P:=bz) underlying103 t 3;have hl:y (Bo x)=y x:=by simp[Bo]
 rw[hl]at E;have e4:decide ((4:Z)<=(y x:Z))=bU:=mw (by omega);obtain⟨d0,g0,hF⟩:=k l v.Pj<|I.refl _ _;have T:=U hF;clear q v k p hF t u h4;go_wp2;refine eH (f:=36) (args:=#[ay b]) (by simp) (by simp[go_sem]) ?_;apply(unlock_deferred (R b 0) .returning _ d0 g0).mono;rintro N u' ad⟨rfl,rfl,rfl⟩;exact⟨_,jj rfl _ _ _,rfl,T⟩
end
def kp.nil:kp []:=⟨by simp,dM.nil,by simp⟩
def Vv{e:Fs}(h:qC a b e X O):NU a O:=by
 obtain⟨g,d,c,f,_⟩:=h.mem;exact⟨_,_,_,_,_,_,_,_,_,f⟩
def VD(h:Xs a b O):NU a O:=by
 obtain⟨e,c,x,d,h⟩:=h;exact⟨_,_,_,_,_,_,_,_,_,h.mem⟩
def Gf.Te(h:Gf a j c g d i)(f:y i<=1000000000):iS a d i:=⟨h.row,λl e=>(h.loc l e).lt,λt k=>Vv<|h.each t k,f⟩
def Fo(w:Y):iS w aD []:=⟨⟨rfl,.inl ⟨rfl,rfl⟩⟩,λk a=>(by cases a),by simp,by simp⟩
def LS.least{P S:aa}{T p:cf}(v:LS a b c g j i [] l d u N P o r s T)(C:I (j.aU b) a f)(L:(lI b j).D f)(x:qG f (z<|G a) p)(q:p.map bA.all=gR e)(B:dM e)(k:rq 5 e)(w:∀X∈e,X.Good)(A:f.ownsRow (z<|G a) 142 1 S (y p) (p.map bA.ptr))(K:y e<=l):∃t,LS f b c g j i t l aD aD aD S [] [] [] p:=by
 have h':=v.aw C L;obtain⟨t,V,D,E,F,W,O⟩:=v.nR C x q B k w;rw[cU]at D E F;have m:=lQ q;have h:Row f 1 aD (y ([]:cf)) (([]:cf).map bA.ptr):=⟨rfl,.inl ⟨rfl,rfl⟩⟩;refine⟨t,{h' with news:=D,apart:=E,r0:=h,r1:=h,r2:=h,r3:=da A,b0:=λQ n=>(by cases n),b1:=λQ n=>(by cases n),b2:=λQ n=>(by cases n),b3:=wg A v.aU v.Gw v.le,x0:=by simp,x1:=by simp,x2:=by simp,x3:=F,nodup:=by simpa using O,s1:=kp.nil,s2:=kp.nil,s3:=Hl q x.each B k w,qf:=?_}⟩;rw[m];simpa[cg]using K
structure Zd(w W:Y)(sb lb:M)(s:SR)(k:Z)(K:DK)(m:cJ)(a b c d:cf)(C tb N:M)(ls:dL)(sn:fh)(v3:aa)(tm:cf)(qs:cw NT):Prop where
 sv:SV w sb s k lb K (a++b++c++d) C s.aW (qY sn) (λt=>eY t<|m::bV a b c d) W aD aD aD v3 [] [] [] tm qs
 KP:∃K',fY w W s.aH sb K K'/\Inv W sb s K' m a b c d C tb N ls sn
 ZY:iS W v3 tm
 DL:iF tm<=1000000000
 len:iF tm=y (gA<|dI (qY sn)<|cG<|m::bV a b c d)
def Zd.aw{K:Y}{X b ac ad:cf}{N:fh}{L:cw NT}(r:Zd a C c g n m j e X b ac ad l A Q k N d o L)(h:I az C K):Zd a K c g n m j e X b ac ad l A Q k N d o L:=by
 obtain⟨O,W,w⟩:=r.KP;have u:=po (sbqq:=c) w.st.aH h;refine⟨⟨r.sv.ls.aw (h.mono cO)<|(lI n.aH j).fD r.sv.ls.D h cO,(h.block g (am r.sv.lb) id).trans r.sv.lb,r.sv.pr,r.sv.uC,(h.block c (am r.sv.box) id).trans r.sv.box,r.sv.aw.cr h⟩,⟨O,W.trans u,w.eW (am r.sv.box) u rfl (ai _) rfl w.loose⟩,⟨h.row r.ZY.row<|λm x=>⟨id,r.ZY.lt m x⟩,λm x=>ag (r.ZY.lt m x) h.size,λal D=>?_,r.ZY.small⟩,r.DL,r.len⟩;obtain⟨V,q,cut,s,E,P,t,p,v,B⟩:=r.ZY.each al D;exact⟨V,q,cut,s,E,P,t,p,v,B.di (h.block _ B.lt.1 id)<|h.block _ B.lt.2 id⟩
def ZK{W:Y}{k:Z}{T b V X:cf}{u:dL}{D:fh}(av:bJ a c n k)(o:Inv a c n j e T b V X l A Q u D)(hp:p.Perm (qY D))(ac:(lI n.aH j).D f)(O:I (j.aU n.aH) a f)(al:I az f C)(ho:C.ownsRow (z<|G f) 142 1 d (y i) (i.map bA.ptr))(r:i.map bA.all=gR (gA<|dI p<|cG<|e::bV T b V X))(hn:qG C (z<|G f) i)(hW:I az C W)(hl:W.heap[g]?=H (ar #[aD,aD,aD,d] 102 (0,0))):∃qs,Zd a W c g n k j e T b V X l A Q u D d i qs:=by
 rw[zK hp]at r;have x:=am av;have h:=o.all;obtain⟨p1,p2,p3⟩:=Ko h r;have s:dM (cG<|e::bV T b V X):=oZ h.mh h.nR;have t:=(kg<|dI (qY D)<|cG<|e::bV T b V X).trans<|js (qY D)<|cG<|e::bV T b V X;have v:∀au∈cG (e::bV T b V X),au.Good:=λau hx=>h.iX au<|(dY _).mem_iff.1 hx;have an:rq 5 (gA<|dI (qY D)<|cG<|e::bV T b V X):=((yx s).sub<|kg _).mono (by rw[oY];have:=o.oU.len;omega);have F:=lQ r;have ao:=o.st.qf;have S:=o.st.lV;have P:I az f W:=al.cr hW;have m:I (j.aU n.aH) a W:=O.cr P;have E:(lI n.aH j).D W:=(lI n.aH j).fD ac P cO;have K:qG W (z<|G f) i:=hn.aw hW;have w:W.ownsRow (z<|G f) 142 1 d (y i) (i.map bA.ptr):=hW.own ho<|λ_ _ q=>q;have ad:=o.st.k6 (C':=l) x o.EW (by omega) S;have L:=O.size;obtain⟨qs,B⟩:=ad.least m E (K.base L) r (s.sub t) an (λau hx=>v au<|t.subset hx) (er w L) (by rw[<-F];omega);obtain⟨K',hd,e1,e2,e3⟩:=Zp (sbqq:=c) (fY.refl o.st.aH) E m;have hb:bJ W c n k:=(m.block c x o.st.qZ).trans av;refine⟨qs,⟨B,hl,p1,p2,hb,m⟩,⟨K',hd,o.eW x hd (by rw[e1]) (by rw[e2];grind) rfl o.loose⟩,⟨da w,λk hk=>(w.lt k hk).2,λaq N=>VD<|K.each aq N,?_⟩,?_,?_⟩;have:=lw B.s3.pure;omega;rw[um<|λaq N=>B.ks<|B.x3 aq N];omega;rw[um<|λaq N=>B.ks<|B.x3 aq N,F]
section
open Conc.Locks
def UO{s n:SR}{V:cf}{T m:fh}(E:Inv a b s j e i o r V g l A k T)(v:b<z (G a))(F:fY a f s.aH b j j)(q:bJ f b n 1)(W:s.lW=H c)(D:n={s with ie:=n.ie})(w:I (λt=>t=c) f C)(P:jw C c (Bo m))(O:y m<=4)(L:∀X∈m,X.2<=s.aW):aO C ⟨b,0,none⟩=H (.int .i32 1)/\C.frozen? ⟨b,0,none⟩=aY/\bJ C b n 1/\bJ (cA C ⟨b,0,none⟩<|.int .i32 0) b n 0/\Inv (cA C ⟨b,0,none⟩<|.int .i32 0) b n j e i o r V g l A k m/\I (λt=>(j.aU s.aH t\/t=b)\/t=c) a (cA C ⟨b,0,none⟩<|.int .i32 0):=by
 have p:=E.eW v F rfl (ai _) rfl E.loose;obtain⟨B,Q,q2,S⟩:=p.oU.ex;have K:B=c:=by rw[Q]at W;grind
 subst K;have h:=p.qm W D w P O L;have d:bJ C b n 1:=(w.block b (am q)<|λr=>S.ne r.symm).trans q;have N:n.aH=s.aH:=by rw[D]
 have u:=jY h.st.aH h.st.qZ 0;have x:I (λt=>(j.aU s.aH t\/t=b)\/t=B) a C:=(F.aw.mono<|λ_ r=>.inl<|.inl r).trans w<|λ_ r=>.inl<|.inr r;exact⟨d.cell rfl,d.free,d,d.gx 0,h.eW (am d) u rfl (ai _) rfl h.loose,x.setCell b 0 _<|.inl<|.inl<|.inr rfl⟩
def Gq{s:SR}{av br:cf}(u:fh)(t:M)(h:bJ a b s 0)(N:Inv a b s j e o r av br c g l k u)(hc:s.closed=aY)(h4:y u<4)(hg:∀bp∈u,bp.1<=s.ie)(bt:s.ie<=1000000000)(O:s.lW=H t):cD bz 23 #[.pointer<|H ⟨b,0,none⟩] a λax V=>ax=.returned (.tuple #[.int .i64<|(s.ie:Z)+1,.nilIface])/\bJ V b {s with ie:=s.ie+1} 0/\Inv V b {s with ie:=s.ie+1} j e o r av br c g l k (u++[(s.ie+1,s.aW)])/\I (λW=>(j.aU s.aH W\/W=b)\/W=t) a V:=by
 have bg:=am h;have c0:aO a ⟨b,0,none⟩=H (.int .i32 0):=h.cell rfl;have f0:a.frozen? ⟨b,0,none⟩=aY:=h.free;have D:=jY N.st.aH N.st.qZ 1;have h1:=h.gx 1;have T:=N.oU;generalize hW:cA a ⟨b,0,none⟩ (.int .i32 1)=W1 at D h1;have A:=gS h1;rw[hc]at A;have au:cD bz 37 #[.pointer<|H ⟨b,0,none⟩] W1 λax V=>ax=.returned .nilIface/\Below (z<|G W1) W1 V:=A
 have HX:=U (λq(hb:Below (z<|G W1) W1 q)=>show bJ q b s 1/\jw q t (Bo u)/\∀d,d=cA q ⟨b,15,none⟩ (.int .i64<|(s.ie:Z)+1)->bJ d b {s with ie:=s.ie+1} 1/\jw d t (Bo u)/\∀B,jw B t ((Bo u).put ((s.ie:Z)+1)<|.int .u64 s.aW)->d.drew.grownBy B (H t)->aO B ⟨b,0,none⟩=H (.int .i32 1)/\B.frozen? ⟨b,0,none⟩=aY/\aO B ⟨b,15,none⟩=H (.int .i64<|(s.ie:Z)+1)/\bJ (cA B ⟨b,0,none⟩<|.int .i32 0) b {s with ie:=s.ie+1} 0/\Inv (cA B ⟨b,0,none⟩<|.int .i32 0) b {s with ie:=s.ie+1} j e o r av br c g l k (u++[(s.ie+1,s.aW)])/\I (λW=>(j.aU s.aH W\/W=b)\/W=t) a (cA B ⟨b,0,none⟩<|.int .i32 0)from by
  have ad:=D.trans<|rm (sbqq:=b) D.ok hb;have m:bJ q b s 1:=h1.aw (I.aR (S:=λ_=>False) hb) id;obtain⟨b0,q1,q2,q3⟩:=(T.eW ad).ex;have eb:b0=t:=by rw[q1]at O;grind
  subst eb;refine⟨m,q2,λd w=>?_⟩;subst w;have al:=ad.set N.st.qZ 15<|.int .i64<|(s.ie:Z)+1;have p:bJ (cA q ⟨b,15,none⟩<|.int .i64<|(s.ie:Z)+1) b {s with ie:=s.ie+1} 1:=(aT m).trans rfl;obtain⟨b1,p1,p2,p3⟩:=(T.eW al).ex;have bb:b1=b0:=by rw[p1]at q1;grind
  subst bb;refine⟨p,p2,λB x E=>?_⟩;have bi:I (λW=>W=b1) (cA q ⟨b,15,none⟩<|.int .i64<|(s.ie:Z)+1) B:=(ci (λW=>W=b1) _).trans (I.dJ (S:=λW=>W=b1) E<|by grind)<|λ_ av=>.inl av;have L:=XK (sn:=u) (n:=s.ie+1) (λbp hp=>by have:=hg bp hp;omega) s.aW;rw[show(((s.ie+1:M)):Z)=(s.ie:Z)+1 from by push_cast;rfl]at L;rw[L]at x;obtain⟨r1,r2,r3,r4⟩:=UO N bg al p p1 rfl bi x (by simp;omega) (λbp hp=>by
   rcases aE.1 hp with av|av
   .exact N.UN bp av
   grind)
  exact⟨r1,r2,r3.cell rfl,r4⟩)
 have HW:=U hW;have hi:IntKind.i64.wrap ((s.ie:Z)+1)=(s.ie:Z)+1:=by rw[bw];omega
 clear h N D h1 hc hW T A hg;go_enter_defers func23,ntmps23
 go_wp2_with fail
 refine(lock_free ⟨b,0,none⟩ _ c0 f0).mono ?_;rintro ax V⟨rfl,bk⟩;rw[ae HW]at bk;subst V;go_wp2_with fail
 refine au.mono ?_;rintro ax q⟨rfl,hb⟩;obtain⟨m,ao,aq⟩:=(ae HX) q hb;have bo:aO q ⟨b,16,none⟩=H (.map<|H t):=by rw[<-O];exact m.cell rfl
 have bn:aO q ⟨b,15,none⟩=H (.int .i64 s.ie):=m.cell rfl;have bc:q.frozen? ⟨b,15,none⟩=aY:=m.free;have bf:=Lx (P:=bz) underlying103 ao 3;have hl:y (Bo u)=y u:=by simp[Bo]
 rw[hl]at bf;have e4:decide ((4:Z)<=(y u:Z))=aY:=rW (by omega);obtain⟨d,w⟩:∃d,d=cA q ⟨b,15,none⟩ (.int .i64<|(s.ie:Z)+1):=⟨_,rfl⟩;obtain⟨p,an,K⟩:=aq d w;have bm:aO d ⟨b,16,none⟩=H (.map<|H t):=by rw[<-O];exact p.cell rfl
 have bl:aO d ⟨b,15,none⟩=H (.int .i64<|(s.ie:Z)+1):=p.cell rfl;have j9:aO d ⟨b,9,none⟩=H (.int .u64 s.aW):=p.cell rfl;have ba:=U an;have X:=U K;clear m p an K aq ao hl hb au h4;go_wp2_with fail
 rename_i QQ KK ac;rw[<-w];clear w bn bo bc;refine Code.wp_mono (Q:=λax o a=>ax=Exit.normal/\KK o a) (λax o a h=>by obtain⟨rfl,h⟩:=h;exact h) ?_;refine cI (λC=>aO C ⟨b,16,none⟩=H (.map<|H t)/\aO C ⟨b,15,none⟩=H (.int .i64<|(s.ie:Z)+1)/\aO C ⟨b,9,none⟩=H (.int .u64 s.aW)) 12 (by kernel_rfl) ?_;have bd:aO d.drew ⟨b,16,none⟩=H (.map<|H t)/\aO d.drew ⟨b,15,none⟩=H (.int .i64<|(s.ie:Z)+1)/\aO d.drew ⟨b,9,none⟩=H (.int .u64 s.aW):=⟨bm,bl,j9⟩;refine cY 0 ?_;iterate 12 (refine xw (v:=?_) bd rfl (by kernel_rfl) (λ_ _ _ h=>by cases h.1) (Or.inl ⟨by rfl,?_⟩) ?_;rotate_left;(focus(rintro C⟨z0,z1,z2⟩;go_simp;try with_reducible rfl));simp only[Act.put,Nat.reduceAdd,cz,dC,dl,cy,bF,bQ])
 refine eC ?_;refine aM (i:=12) rfl rfl (by kernel_rfl) ?_;intro bq F;try simp only[cy,bF,bQ]
 refine JD (.tmp 34) (.tmp 38) (.tmp 42) 103 rfl 3 98 underlying103 underlying3 t _ rfl ((ae ba).di rfl) ((s.ie:Z)+1) (.int .u64 s.aW) rfl rfl ?_;intro w4 x E bh;refine F _ _ (λav=>(av rfl).elim) ?_;refine cW (by kernel_rfl) ?_ _;obtain⟨d0,g0,bs,hF⟩:=(ae X) w4 x E;have HF:=U hF;clear hF x E bh F;refine⟨rfl,?_⟩;refine ac _ _ ?_;clear ac;go_wp2;refine eH (f:=36) (args:=#[.pointer<|H ⟨b,0,none⟩]) (by simp) (by simp[go_sem]) ?_;refine(unlock_deferred ⟨b,0,none⟩ .returning _ d0 g0).mono ?_;rintro ax u' bu⟨rfl,rfl,rfl⟩;exact⟨_,jj rfl _ _ _,rfl,ae HF⟩
end
def NJ{m b o p:cf}(i:ST a c n j e m b o p l)(f:Y)(t:aa)(s:I az a f)(r:f.ownsRow (z<|G a) 254 1 t (y (pE (n.l0,m) (n.l1,b) (n.l2,o) (n.l3,p))+1) (xF n.memory (n.l0,m) (n.l1,b) (n.l2,o) (n.l3,p))):cD bz 97 #[t,aj ⟨#[]⟩] f λB u=>∃A v,B=aL A/\jf (lI n.aH j) (z<|G a) A (cG<|e::bV m b o p) v u/\(lI n.aH j).D u/\I (lI n.aH j).F f u/\(∀k,v k->z (G f)<=k):=by
 have hF:∀k,(lI n.aH j).F k->k<z (G a):=i.aH.lt;have d:jF (lI n.aH j) (z<|G a) az a f:=s.same (ai _) cO cO;have h:y (oq n e m b o p)=y (pE (n.l0,m) (n.l1,b) (n.l2,o) (n.l3,p))+1:=by have:=bX y<|yC n e m b o p;rw[cV]at this;rw[this];simp[xF]
 have w:=i.count;have x:=BH (z<|G a) (oq n e m b o p) t ⟨#[]⟩ (by rw[yC,h];exact da r) (λk f=>⟨(r.lt k f).2,λq=>by have:=hF k q;have:=(r.lt k f).1;omega⟩) (by simp only[oq,aS,af,List.length_reverse,cV,dH];omega) (λe a=>(i.Ww _<|ak a).same d) ((lI n.aH j).fD i.Pj s cO) s.size hF;rw[rf,mj (g:=id)<|λa _=>FD a,tW]at x;exact x
def G8(a b c d:cf)(n:M):Prop:=a=[]/\b=[]/\c=[]/\iF d=n
def Gi(w o:Y)(a:M)(s:SR)(p:Z)(K:DK)(C N:M)(n:fh)(l:M)(j:Z->ab->Option ab)(q:M):Prop:=∃m i k e f g h d c,Gh w o a s p K C N n l j m i k e f g h d c/\G8 e f g h q
def map_nil(h:i.map bA.all=([]:cf).map bA.all):i=[]:=by simpa using h
def Nr{Q b L S:cf}(B:fh)(h:bJ a c n m)(f:Inv a c n j e Q b L S g l A k B)(hT:GR n Q b L)(hN:A+1<=100000000):cD bz 61 #[ay c] a λV C=>V=aL .nilIface/\Gi a C c n m j g (A+1) B n.aW (λau=>eY au<|e::bV Q b L S) (y<|gA<|dI (qY B)<|cG<|e::bV Q b L S):=by
 obtain⟨mx,mc,dm⟩:=bM f.st.mem;have cp:=Ew (n.l0,Q) (n.l1,b) (n.l2,L) (n.l3,S) h mx (y e) mc dm<|f.st.ZX h;have bn:=NJ f.st;have N:=f.all;have bm:=f.st.flat;have bk:=f.st.lV;have cb:y (cG<|e::bV Q b L S)<=1000000:=by have:=(dY<|e::bV Q b L S).length_eq;omega
 have cq:=am h;obtain⟨mb,q1,q2,q3⟩:=f.oU.ex;have h4:=f.oU.len
 have cn:∀t,I (j.aU n.aH) a t->cD bz 59 #[ay c] t λV C=>∃d,∃x:eO,V=aL d/\x.Perm (qY B)/\C.ownsRow (z<|G t) 98 1 d (y x) (x.map<|Value.int .u64)/\I az t C:=λt ht=>
  ug (b:=mb) B ((ht.block c cq f.st.qZ).trans h) q1 (q2.di<|ht.block _ q2.lt q3.aU) h4
 have bp:∀t K eb c(x:eO),I (j.aU n.aH) a t->I az t K->x.Perm (qY B)->t.ownsRow (z<|G a) 180 4 eb (y<|cG<|e::bV Q b L S) (aF<|cG<|e::bV Q b L S)->K.ownsRow (z<|G t) 98 1 c (y x) (x.map<|Value.int .u64)->cD bz 99 #[eb,c] K λV C=>∃s,∃d:cf,V=aL (dW #[aD,aD,aD,s])/\C.ownsRow (z<|G K) 142 1 s (y d) (d.map bA.ptr)/\d.map bA.all=gR (gA<|dI x<|cG<|e::bV Q b L S)/\qG C (z<|G K) d/\I az K C:=λt K eb c x F p hp an P=>by have v:=p.own an<|λ_ _ q=>q;exact Th x (da v) (da P) (oZ N.mh N.nR) (λd a=>N.iX d<|(dY _).mem_iff.1 a) cb (by have:=hp.length_eq;rw[oY]at this;omega) (λq hq=>(v.lt q hq).2) (λq hq=>(P.lt q hq).2) (Steps.aw f.st.kC.steps (F.cr p) f.st.kC.fw.aU)<|ag f.st.kC.fw.lt (F.cr p).size
 have bi:∀W w s d u,Zd a W c w n m j e Q b L S g l A k B s d u->cD bz 101 #[ay c,dW #[aD,aD,aD,s],aJ n.aW] W λV C=>V=aL .nilIface/\Gi a C c n m j g (A+1) B n.aW (λau=>eY au<|e::bV Q b L S) (y<|gA<|dI (qY B)<|cG<|e::bV Q b L S):=λW w s d u E=>by refine(En w g n.aW (qY B) _ W _ _ _ _ [] [] [] d u E.sv h f.st f.qF f.OK.1 (by have:=f.bn;have:=f.lV;omega) (by have:=f.nx;have:=f.lV;omega) (by have:=f.eJ;have:=f.lV;omega)).mono ?_;rintro V C⟨rfl,K',num,a',b',c',d',hO,e0,e1,e2,e3⟩;have e0:=map_nil e0;have e1:=map_nil e1;have e2:=map_nil e2;have e4:cg d'=cg d:=bX List.flatten e3;refine⟨rfl,_,K',[],a',b',c',d',n.aW,[],⟨hO.box,hO.inv f.Mg f.nx (by have:=f.bn;omega) hN f.oU f.UN<|ai _,λau ht q=>by rw[mJ];exact hO.uC au (ht.imp_right (λV=>by rw[V];grind)) q,hO.eW,⟨rfl,rfl,rfl,rfl,rfl,rfl⟩,rfl,by have:=f.Mg.1;show((0:M):Z)<n.mem;omega,?_⟩,e0,e1,e2,?_⟩;rw[e0,e1,e2];have:=f.Mg.2.2.1;show(0:Z)<n.qQ/\(0:Z)<=n.qQ/\(0:Z)<=n.qQ;omega;rw[um<|λau q=>(hO.st.l3.each au q).ks,e4,<-E.len,um<|λau ht=>E.sv.ls.ks<|E.sv.ls.x3 au ht]
 have ao:∀W w s d u,AF [Q,b,L,S] [[],[],[],d] 4->Zd a W c w n m j e Q b L S g l A k B s d u->cD bz 62 #[ay c] W λV C=>V=aL .nilIface/\Gi a C c n m j g (A+1) B n.aW (λau=>eY au<|e::bV Q b L S) (y<|gA<|dI (qY B)<|cG<|e::bV Q b L S):=λW w s d u D E=>by obtain⟨K1,ch,O⟩:=E.KP;have f0:=(D 0<|by omega).1;have f1:=(D 1<|by omega).1;have f2:=(D 2<|by omega).1;have f3:=(D 3<|by omega).2;apply(O.safe E.sv.box).mono;rintro V C⟨rfl,K',hd,hf,hb,hI⟩;exact⟨rfl,_,K',e,Q,b,L,S,l,k,⟨hb,hI.mono (ai _) bk (by omega) hN,λ_ _ _=>rfl,ch.trans hd,⟨rfl,rfl,rfl,rfl,rfl,rfl⟩,rfl,hT⟩,aP f0,aP f1,aP f2,f3.trans E.len⟩
 have bh:∀W w s d u,Zd a W c w n m j e Q b L S g l A k B s d u->cD bz 100 #[fj<|H<|R c 10,ay w] W λV C=>∃ec,V=aL (aK ec)/\(ec=bU->AF [Q,b,L,S] [[],[],[],d] 4)/\I az W C:=λW w s d u E=>by have cs:=f.st.count;have cv:=f.st.qf;(have hk:∀a:cf,(∀au∈a,au.ks=bS 0 au.cs)->y (cg a)<=1000000->iF a<=1000000000:=λa c d=>by rw[um c];omega);refine Kz W c w n.l0 n.l1 n.l2 n.l3 aD aD aD s Q b L S [] [] [] d (λo hX=>?_) ⟨hk Q (λau q=>(f.st.l0.each au q).ks) (by omega),hk b (λau q=>(f.st.l1.each au q).ks) (by omega),hk L (λau q=>(f.st.l2.each au q).ks) (by omega),hk S (λau q=>(f.st.l3.each au q).ks) (by omega),by simp[iF],by simp[iF],by simp[iF],E.DL⟩;have ba:=E.aw hX;obtain⟨K1,ch,O⟩:=ba.KP;have hb:=ba.sv.box;have hl:=ba.sv.lb;exact⟨⟨hb.cell rfl,hb.cell rfl,hb.cell rfl,hb.cell rfl⟩,⟨by rw[bL hl];rfl,by rw[bL hl];rfl,by rw[bL hl];rfl,by rw[bL hl];rfl⟩,⟨O.st.l0.Te (by omega),O.st.l1.Te (by omega),O.st.l2.Te (by omega),O.st.l3.Te<|by omega⟩,⟨Fo _,Fo _,Fo _,ba.ZY⟩⟩
 have bd:=U<|λ(t K r W:Y)(w:M)(s:aa)(d:cf)(x:eO)(hp:x.Perm (qY B))(ax:(lI n.aH j).D t)(F:I (j.aU n.aH) a t)(p:I az t K)(bc:I az K r)(g:r.ownsRow (z<|G K) 142 1 s (y d) (d.map bA.ptr))(bb:d.map bA.all=gR (gA<|dI x<|cG<|e::bV Q b L S))(c:qG r (z<|G K) d)(hW:I az r W)(hl:W.heap[w]?=H (ar #[aD,aD,aD,s] 102 (0,0)))=>ZK (k:=m) h f hp ax F (p.cr bc) (er g p.size) bb (c.base p.size) hW hl;have bv:=U (show∀W w s d u,Zd a W c w n m j e Q b L S g l A k B s d u->aO W (R c 8)=H (ap n.gK)/\aO W (R c 9)=H (aJ n.aW)/\W.heap[w]?=H (ar #[aD,aD,aD,s] 102 (0,0))fromλW w s d u E=>⟨E.sv.box.cell rfl,E.sv.box.cell rfl,E.sv.lb⟩);obtain⟨ML,bg⟩:∃ML,cG (e::bV Q b L S)=ML:=⟨_,rfl⟩;rw[bg]at bn bp bd cb;obtain⟨cB,cM,cE,bf,bl,bu⟩:=jX bn cn bp bi ao bh;clear h f hT bn cn bp bi ao bh N bm bk cq q1 q2 q3 h4 bg;go_in
 go_wp2_with fail
 apply cp.mono;rintro V w1⟨v1,rfl,bq,bs⟩;have hf:=cB w1 v1 bs bq;obtain⟨y1,e1,dn⟩:=aA bq;subst dn;have bx:=U bs;clear bq bs cp;go_wp2_with fail
 apply hf.mono;rintro V w2⟨v2,S2,rfl,cj,ca,bt,cc⟩;have dT:=bx.size;have ea:=bt.size;have ce:=Dh cj ca (by omega);have dc:=U<|(bx.mono (T:=j.aU n.aH) cO).trans bt<|λ_ q=>.inl q;have db:=U cc;clear cj ca bt cc hf;go_wp2_with fail
 apply ce.mono;rintro V t⟨s,rfl,an,ax,F⟩;have aq:I (j.aU n.aH) a t:=dc.trans F<|λq hq=>hq.elim (λg=>.inr (by have:=db q g;omega)) .inl;have v:t.ownsRow (z<|G a) 180 4 s (y ML) (aF ML):=er an (by omega);obtain⟨y3,e3,ds⟩:=aA an;subst ds;have cm:=cM t aq;obtain⟨cT,bT,cx⟩:=dA v aq ax;clear an v ax F aq ce dT ea;go_wp2_with fail
 apply cm.mono;rintro V K⟨v4,x,rfl,hp,P,p⟩;have ck:=cE t K _ v4 x bT p hp cT P;obtain⟨y4,e4,dv⟩:=aA P;subst dv;have HP:=U hp;have dd:=U p;clear P p hp cm;go_wp2_with fail
 apply ck.mono;rintro V r⟨v5,d,rfl,br,bb,co,bc⟩;obtain⟨y5,e5,dx⟩:=aA br;subst dx;obtain⟨W,hW⟩:∃W,cF r (ar #[aD,aD,aD,J y5 (y d) e5] 102)=W:=⟨_,rfl⟩;have cd:W.heap[z<|G r]?=H (ar #[aD,aD,aD,J y5 (y d) e5] 102 (0,0)):=by rw[<-hW];exact aB _ rfl
 have cu:I az r W:=by rw[<-hW];exact(cK az r)
 obtain⟨u,hC⟩:=bd t K r W (z<|G r) _ d x HP cx bT dd bc br bb co cu cd;obtain⟨b8,b9,cl⟩:=bv W _ _ d u hC;have HC:=U hC;clear br bb co bc ck cd cu hC;by_cases ed:n.gK=0
 .have dk:decide ((n.gK:Z)=0)=bU:=mw (by omega);go_wp2_with fail
  apply(bu W _ _ d u HC).mono;rintro V W8⟨ec,rfl,D,cs⟩;have cv:=U D;have ba:=HC.aw cs;obtain⟨c8,c9,bo⟩:=bv W8 _ _ d u ba;have av:=U ba;clear ba cs cl b8 b9 D;cases ec with
  |true=>
   go_wp2_with fail
   apply(bl W8 _ _ d u (cv trivial) av).mono;rintro V w9⟨rfl,hP⟩;have X:=U hP;clear hP;go_wp2;go_ret;exact⟨rfl,X⟩
  |false=>
   go_wp2_with fail
   rename_i QQ KK al;have hS:W8.drew.heap[z<|G r]?=H (ar #[aD,aD,aD,J y5 (y d) e5] 102 (0,0))/\aO W8.drew (R c 9)=H (aJ n.aW):=⟨bo,c9⟩;refine kV (λo=>o.heap[z<|G r]?=H (ar #[aD,aD,aD,J y5 (y d) e5] 102 (0,0))/\aO o (R c 9)=H (aJ n.aW)) 6 (by kernel_rfl) ?_;refine lE 0 ?_;iterate 6 (refine Bu (v:=?_) hS rfl (by kernel_rfl) iW rfl ?_ ?_;rotate_left;(focus(rintro o⟨z0,z1⟩;have x0:aO o (R (z<|G r) 0)=H aD:=(by rw[bL z0];rfl);have x1:aO o (R (z<|G r) 1)=H aD:=(by rw[bL z0];rfl);have x2:aO o (R (z<|G r) 2)=H aD:=(by rw[bL z0];rfl);have x3:aO o (R (z<|G r) 3)=H (J y5 (y d) e5):=(by rw[bL z0];rfl);go_simp;try rfl));simp only[Act.put,dD,gz,Nat.reduceAdd])
   apply qd;refine gL (i:=6) rfl rfl (by kernel_rfl) ?_;intro K6 ac;go_simp;apply(bf _ _ _ d u<|av.aw<|ci az _).mono;rintro V w9⟨rfl,hP⟩;have X:=U hP;refine ac _ _ (λL=>(by omega)) ?_;try simp only[Act.put,dD,gz]
   clear ac hP hS;refine gL (i:=7) rfl rfl (by kernel_rfl) ?_;intro K7 ad;go_simp;refine ad _ _ (λL=>(by omega)) ?_;try simp only[Act.put,dD,gz]
   clear ad;refine kW (by kernel_rfl) ?_ _;show KK _ _;apply al;clear al;go_wp2;go_ret;exact⟨rfl,X⟩
 (.have dk:decide ((n.gK:Z)=0)=aY:=rW (by omega);have av:=HC;have bo:=cl;have c9:=b9;(go_wp2_with fail);rename_i QQ KK al;have hS:W.drew.heap[z<|G r]?=H (ar #[aD,aD,aD,J y5 (y d) e5] 102 (0,0))/\aO W.drew (R c 9)=H (aJ n.aW):=⟨bo,c9⟩;refine kV (λo=>o.heap[z<|G r]?=H (ar #[aD,aD,aD,J y5 (y d) e5] 102 (0,0))/\aO o (R c 9)=H (aJ n.aW)) 6 (by kernel_rfl) ?_;refine lE 0 ?_;(iterate 6 (refine Bu (v:=?_) hS rfl (by kernel_rfl) iW rfl ?_ ?_;rotate_left;(focus(rintro o⟨z0,z1⟩;have x0:aO o (R (z<|G r) 0)=H aD:=(by rw[bL z0];rfl);have x1:aO o (R (z<|G r) 1)=H aD:=(by rw[bL z0];rfl);have x2:aO o (R (z<|G r) 2)=H aD:=(by rw[bL z0];rfl);have x3:aO o (R (z<|G r) 3)=H (J y5 (y d) e5):=(by rw[bL z0];rfl);go_simp;try rfl));simp only[Act.put,dD,gz,Nat.reduceAdd]));apply qd;refine gL (i:=6) rfl rfl (by kernel_rfl) ?_;intro K6 ac;go_simp;apply(bf _ _ _ d u<|av.aw<|ci az _).mono;rintro V w9⟨rfl,hP⟩;have X:=U hP;refine ac _ _ (λL=>(by omega)) ?_;(try simp only[Act.put,dD,gz]);clear ac hP hS;refine gL (i:=7) rfl rfl (by kernel_rfl) ?_;intro K7 ad;go_simp;refine ad _ _ (λL=>(by omega)) ?_;(try simp only[Act.put,dD,gz]);clear ad;refine kW (by kernel_rfl) ?_ _;show KK _ _;apply al;clear al;go_wp2;go_ret;exact⟨rfl,X⟩)
section
open Conc.Locks
def Inv.Zx{s:SR}{w:cf}{n:fh}(h:Inv a b s j e i o r w c g l k n)(v:kr a d (gw n e []))(p:∀A,ct d=H A->Aside a j s.aH b A):Inv a b {s with memory:=d} j (gw n e []) i o r w c g l k n:=by
 have f:∀x∈gw n e [],x∈e:=λx m=>(Bx m).elim id (λq=>by cases q);have u:=yw n e [];rw[dH,jn]at u;have t:=h.st.Vh (s':={s with memory:=d}) (C':=c) ⟨rfl,rfl,rfl,rfl,rfl⟩ v p (yu h.st.mh n []) (λx m=>h.st.iX x<|f x m) (by omega) h.st.lV;exact{h with st:=t,mem:=(yR h.row<|.inr<|λx m=>(h.Oa x m).2).trans h.mem,Oa:=λx m=>h.Oa x<|f x m,Xx:=aC u h.Xx,Ze:=yt h.st.mh h.oU.len [],oU:=h.oU.fields ⟨rfl,rfl⟩}
def ED(u:Z)(h:bJ a b n 0)(l:n.closed=bU):cD bz 25 #[ay b,ap u] a λm k=>m=aL (kN 6)/\bJ k b n 0/\I (λv=>v=b) a k:=by
 have p:=bJ.cellAt h 0 rfl;have r:a.frozen? (R b 0)=aY:=h.free;have j:=h.gx 1;have d:=uH u j l;have o:=U<|λg i=>oK (W2:=g) j (gW b a) i;clear h j l;rw[uL]at d|-;go_enter_defers func25,ntmps25
 go_wp2_with fail
 apply(lock_free (R b 0) _ p r).mono;rintro m k⟨rfl,rfl⟩;go_wp2_with fail
 apply d.mono;rintro m g⟨rfl,i⟩;obtain⟨q,s,c⟩:=o g i;have e:=U c;clear c i d;go_wp2;refine eH (f:=36) (args:=#[ay b]) (by simp) (by simp[go_sem]) ?_;apply(unlock_deferred (R b 0) .returning _ q s).mono;rintro m w t⟨rfl,rfl,rfl⟩;exact⟨_,gm rfl _ _ _,rfl,e⟩
def Js(A:fh)(X:Z)(h:bJ a b n 0)(u:ST a b n j e i o r s c)(p:Gk a j b n A)(E:n.closed=aY)(F:pB A X=none):cD bz 25 #[ay b,ap X] a λN B=>N=aL (kN 5)/\vI a B b n j e i o r s c:=by
 have w:=am h;have S:=bJ.cellAt h 0 rfl;have V:a.frozen? (R b 0)=aY:=h.free;have g:=jY u.aH u.qZ 1;have q:=h.gx 1;generalize D:cA a (R b 0) (iO 1)=C at g q;obtain⟨mb,K,L,q3⟩:=(p.eW g).ex;have d:=rN X A q E K L;have Q:=U<|λl(t:Below (z<|G C) C l)=>sX (W2:=l) q u w g t;have P:=U D;clear h u g q E D p K L q3;rw[F]at d;simp only at d;rw[PW]at d|-;clear F;go_enter_defers func25,ntmps25
 go_wp2_with fail
 apply(lock_free (R b 0) _ S V).mono;rintro N B⟨rfl,x⟩;rw[ae P]at x;subst B;go_wp2_with fail
 apply d.mono;rintro N l⟨rfl,t⟩;obtain⟨v,m,k⟩:=Q l t;obtain⟨T,W,hF⟩:=k l m.Pj<|I.refl _ _;have O:=U hF;clear v m k t d hF;go_wp2;refine eH (f:=36) (args:=#[ay b]) (by simp) (by simp[go_sem]) ?_;apply(unlock_deferred (R b 0) .returning _ T W).mono;rintro N u' ac⟨rfl,rfl,rfl⟩;exact⟨_,gm rfl _ _ _,rfl,O⟩
def Jr{s:SR}{aq cq:cf}(d:fh)(D:Z)(mb tt:M)(h:bJ a b s 0)(hV:Inv a b s j e o r aq cq c g l k d)(hc:s.closed=aY)(hg:pB d D=H tt)(bu:s.lW=H mb):cD bz 25 #[ay b,ap D] a λbg T=>bg=aL .nilIface/\∃n,bJ T b {s with memory:=n} 0/\Inv T b {s with memory:=n} j (gw (lX d D) e []) o r aq cq c g l k (lX d D)/\(∀bh,(bh∈qY (lX d D)\/bh=(s.aW:Z))->∀q,eY bh (gw (lX d D) e []::bV o r aq cq) q=eY bh (e::bV o r aq cq) q)/\I (λC=>(j.aU s.aH C\/C=b)\/C=mb) a T:=by
 have cE:=am h;have c0:=bJ.cellAt h 0 rfl;have f0:a.frozen? (R b 0)=aY:=h.free;have N:=jY hV.st.aH hV.st.qZ 1;have h1:=h.gx 1;generalize hW:cA a (R b 0) (iO 1)=W1 at N h1;obtain⟨b0,q1,q2,q3⟩:=(hV.oU.eW N).ex;have eb:b0=mb:=by rw[q1]at bu;grind
 subst eb;have an:=rN D d h1 hc q1 q2;rw[hg]at an;simp only at an
 have HX:=U (λW2(hb:Below (z<|G W1) W1 W2)=>show aO W2 (R b 16)=H (.map<|H b0)/\jw W2 b0 (Bo d)/\∀p,jw p b0 ((Bo d).del D)->W2.grownBy p (H b0)->aO p (R b 7)=H s.memory/\(∀V,I az p V->aO V (R b 7)=H s.memory/\V.frozen? (R b 7)=aY/\cD bz 59 #[ay b] V (λbg T=>∃v',∃P:eO,bg=aL v'/\P.Perm (qY<|lX d D)/\T.ownsRow (z<|G V) 98 1 v' (y P) (P.map<|Value.int .u64)/\I az V T)/\∀v'(P:eO)E,P.Perm (qY<|lX d D)->I az V E->E.ownsRow (z<|G V) 98 1 v' (y P) (P.map<|Value.int .u64)->cD bz 58 #[s.memory,v'] E (λbg T=>∃n,bg=aL n/\T.ownsRow (z<|G E) 180 4 n (y<|gw (lX d D) e []) (aF<|gw (lX d D) e [])/\I az E T))/\∀t n,I az p t->t.ownsRow (z<|G p) 180 4 n (y<|gw (lX d D) e []) (aF<|gw (lX d D) e [])->aO t (R b 7)=H s.memory/\t.frozen? (R b 7)=aY/\∀F,F=cA t (R b 7) n->aO F (R b 0)=H (iO 1)/\F.frozen? (R b 0)=aY/\bJ (cA F (R b 0)<|iO 0) b {s with memory:=n} 0/\Inv (cA F (R b 0)<|iO 0) b {s with memory:=n} j (gw (lX d D) e []) o r aq cq c g l k (lX d D)/\(∀bh,(bh∈qY (lX d D)\/bh=(s.aW:Z))->∀q,eY bh (gw (lX d D) e []::bV o r aq cq) q=eY bh (e::bV o r aq cq) q)/\I (λC=>(j.aU s.aH C\/C=b)\/C=b0) a (cA F (R b 0)<|iO 0)from by
  have br:=N.trans<|rm (sbqq:=b) N.ok hb;have bb:bJ W2 b s 1:=h1.aw (I.aR (S:=az) hb) id;have bl:=hV.eW cE br rfl (ai _) rfl hV.loose;obtain⟨b1,p1,p2,p3⟩:=bl.oU.ex;have cs:b1=b0:=by rw[p1]at q1;grind
  subst cs;refine⟨by rw[<-p1];exact bb.cell rfl,p2,λp w al=>?_⟩;rw[QE]at w;have bf:I (λC=>C=b1) W2 p:=fm al;have ax:=Hk D d;have bs:y (lX d D)<=4:=aC ax.length_le hV.oU.len;have m:=bl.qm (s':=s) p1 rfl bf w bs<|λp hp=>hV.UN p<|ax.subset hp;have L:bJ p b s 1:=(bf.block b (am bb)<|λaq=>p3.ne aq.symm).trans bb;have ch:I (λC=>(j.aU s.aH C\/C=b)\/C=b1) a p:=(br.aw.mono<|λ_ aq=>.inl<|.inl aq).trans bf<|λ_ aq=>.inl<|.inr aq;have cc:=λ(bh:Z)(a:bh∈qY (lX d D)\/bh=(s.aW:Z))(q:ab)=>(m.yE a q).symm;refine⟨L.cell rfl,λV ao=>?_,λt n x B=>?_⟩
  .have W:bJ V b s 1:=L.aw ao id;refine⟨W.cell rfl,W.free,ug (b:=b1) (lX d D) W p1 (w.di<|ao.block _ w.lt id) bs,λv' P E hp u A=>?_⟩;have X:kr E s.memory e:=(ao.cr u).row m.st.mem<|λC hk=>⟨id,(m.st.tg C hk).lt⟩;have:=wk P X m.st.mh (by have:=m.Yg;omega) (da A) (by have:=hp.length_eq;rw[oY]at this;omega) (λC hk=>ag (m.st.tg C hk).lt (ao.cr u).size)<|λC hk=>(aG A C hk).2;rw[zK hp]at this;exact this
  .have ac:bJ t b s 1:=L.aw x id;refine⟨ac.cell rfl,ac.free,λF K=>?_⟩;subst K;have cx:fY p t s.aH b j j:=⟨m.st.aH.aw x<|λ_ _=>id,x.mono cO,λ_ aq=>.inl aq⟩;have W:=m.eW (am L) cx rfl (ai _) rfl m.loose;have hA6:∀C,ct n=H C->Aside t j s.aH b C:=λC hk=>by
    have h1:=aG B C hk;exact⟨h1.2,λaq=>by have:=m.st.aH.lt C aq;omega,λaq=>by have:=am L;omega⟩
   have bd:fY t (cA t (R b 7) n) s.aH b j j:=(fY.refl W.st.aH).set W.st.qZ 7 n;have cu:=W.eW (am ac) bd rfl (ai _) rfl W.loose;have cM:kr (cA t (R b 7) n) n (gw (lX d D) e []):=An (da B) bd hA6;have X:=cu.Zx cM (λC hk=>(hA6 C hk).eW bd);have ad:bJ (cA t (R b 7) n) b {s with memory:=n} 1:=(aT ac).trans rfl;have cB:=jY X.st.aH X.st.qZ 0;have cj:=ch.cr x;exact⟨ad.cell rfl,ad.free,ad.gx 0,X.eW (am ad) cB rfl (ai _) rfl X.loose,cc,(cj.setCell b 7 _ (.inl (.inl (.inr rfl)))).setCell b 0 _ (.inl (.inl (.inr rfl)))⟩)
 obtain⟨x7,n7,cT⟩:=bM hV.st.mem;rw[cT]at HX;have HW:=U hW;clear h hV N h1 hc hW q1 q2 q3 hg bu;go_enter_defers func25,ntmps25
 go_wp2_with fail
 apply(lock_free (R b 0) _ c0 f0).mono;rintro bg T⟨rfl,db⟩;rw[ae HW]at db;subst T;go_wp2_with fail
 apply an.mono;rintro bg W2⟨rfl,hb⟩;obtain⟨dk,bt,ca⟩:=HX W2 hb;have cm:=U bt;have HN:=U ca;clear bt ca hb an;go_wp2_with(at_delete;refine DU _ rfl _ _ 103 3 rfl 98 underlying103 underlying3 b0 (Bo d) rfl cm D rfl ?_;intro p w al;have cn:=U w;have cl:=U al;clear w al)
 rename_i QQ KK bq;obtain⟨j7,bc,cd⟩:=HN p cn cl;have O:I az p p.drew:=ci _ p;obtain⟨cv,_,bv,bx⟩:=bc p.drew O;obtain⟨co,cp,ck⟩:=dA bx cd bc;clear bx cd bc j7 dk;refine Code.wp_mono (Q:=λbg o a=>bg=Exit.normal/\KK o a) (λbg o a h=>by obtain⟨rfl,h⟩:=h;exact h) ?_;refine cI (λbk=>aO bk (R b 7)=H (J x7 (y e) n7)) 10 (by kernel_rfl) ?_;refine cY 0 ?_;iterate 6 (refine eM (v:=?_) cv rfl (by kernel_rfl) (λ_ _ _ h=>by cases h.1) rfl ?_ ?_;rotate_left;(focus(rintro bk z0;go_simp;try rfl));simp only[Act.put,dD,gz,Nat.reduceAdd])
 apply eC;refine aM (i:=6) rfl rfl (by kernel_rfl) ?_;intro K6 bm;go_simp;apply bv.mono;rintro bg E⟨v5,P,rfl,cb,A,u⟩;have bT:=co v5 P E cb u A;obtain⟨y5,d5,dc⟩:=aA A;subst dc;refine bm _ _ (λ_=>(ck E<|O.cr u).1) ?_;try simp only[Act.put,dD,gz]
 clear bm A bv cb;refine aM (i:=7) rfl rfl (by kernel_rfl) ?_;intro K7 bn;go_simp;apply bT.mono;rintro bg t⟨n,rfl,B,x⟩;have ba:I az p t:=(O.cr u).cr x;have ce:z (G p)<=z (G E):=(O.cr u).size;obtain⟨z7,g7,av⟩:=cp t n ba<|er B ce;obtain⟨y6,d6,dd⟩:=aA B;subst dd;refine bn _ _ (λ_=>z7) ?_;try simp only[Act.put,dD,gz]
 have bi:=U av;clear bn B bT av u x ba ce O;refine aM (i:=8) rfl rfl (by kernel_rfl) ?_;intro K8 bo;go_simp;refine bo _ _ (λ_=>z7) ?_;try simp only[Act.put,dD,gz]
 clear bo;refine aM (i:=9) rfl rfl (by kernel_rfl) ?_;intro K9 bp;go_simp;refine bp _ _ (λ_=>z7) ?_;try simp only[Act.put,dD,gz]
 clear bp;refine aM (i:=10) rfl rfl (by kernel_rfl) ?_;intro dm au;go_simp;refine au _ _ wX ?_;try simp only[Act.put,dD,gz]
 clear au;refine cW (by kernel_rfl) ?_ _;refine⟨rfl,?_⟩;obtain⟨F,K⟩:∃F,F=cA t (R b 7) (J y6 (y<|gw (lX d D) e []) d6):=⟨_,rfl⟩;obtain⟨d0,g0,hF⟩:=bi F K;rw[<-K];have HF:=U hF;clear hF K z7 g7;apply bq;clear bq;go_wp2;refine eH (f:=36) (args:=#[ay b]) (by simp) (by simp[go_sem]) ?_;apply(unlock_deferred (R b 0) .returning _ d0 g0).mono;rintro bg u' dn⟨rfl,rfl,rfl⟩;exact⟨_,gm rfl _ _ _,rfl,_,HF⟩
end
section
open Conc.Locks
def Dy(h:bJ a b n 0)(l:n.closed=bU):cD bz 27 #[ay b] a λm k=>m=aL (kN 6)/\bJ k b n 0/\I (λu=>u=b) a k:=by
 have p:=bJ.cellAt h 0 rfl;have r:a.frozen? (R b 0)=aY:=h.free;have j:=h.gx 1;have c:=gS j;rw[l]at c;simp only[ir]at c;have o:=U<|λg i=>oK (W2:=g) j (gW b a) i;clear h j l;rw[uL]at c|-;go_enter_defers func27,ntmps27
 go_wp2_with fail
 apply(lock_free (R b 0) _ p r).mono;rintro m k⟨rfl,rfl⟩;go_wp2_with fail
 apply c.mono;rintro m g⟨rfl,i⟩;obtain⟨q,s,d⟩:=o g i;have e:=U d;clear d i c;go_wp2;refine eH (f:=36) (args:=#[ay b]) (by simp) (by simp[go_sem]) ?_;apply(unlock_deferred (R b 0) .returning _ q s).mono;rintro m v t⟨rfl,rfl,rfl⟩;exact⟨_,gm rfl _ _ _,rfl,e⟩
def GM(C:fh)(h:bJ a b n 0)(L:Inv a b n j e i o r s c g l k C)(hT:GR n i o r)(P:n.closed=aY)(hN:l+1<=100000000):cD bz 27 #[ay b] a λF v=>F=aL .nilIface/\Gi a v b n 0 j c (l+1) C n.aW (λaq=>eY aq<|e::bV i o r s) (y<|gA<|dI (qY C)<|cG<|e::bV i o r s):=by
 have an:=am h;have c0:=bJ.cellAt h 0 rfl;have f0:a.frozen? (R b 0)=aY:=h.free;have t:=jY L.st.aH L.st.qZ 1;have B:=h.gx 1;have d:=L.eW an t rfl (ai _) rfl L.loose;generalize hW:cA a (R b 0) (iO 1)=D at t B d;have p:=gS B;rw[P]at p;have V:cD bz 37 #[ay b] D λF v=>F=aL .nilIface/\Below (z<|G D) D v:=p;have Q:∀E,I az D E->cD bz 61 #[ay b] E λF v=>F=aL .nilIface/\Gi a v b n 1 j c (l+1) C n.aW (λaq=>eY aq<|e::bV i o r s) (y<|gA<|dI (qY C)<|cG<|e::bV i o r s):=λE w=>by have S:fY D E n.aH b j j:=⟨d.st.aH.aw w<|λ_ _=>id,w.mono cO,λ_ q=>.inl q⟩;have ad:=d.eW (am B) S rfl (ai _) rfl d.loose;have al:bJ E b n 1:=(w.block b (am B) id).trans B;apply(Nr C al ad hT hN).mono;rintro F v⟨rfl,s',K',m',a',b',c',d',A,x,m,u⟩;exact⟨rfl,s',K',m',a',b',c',d',A,x,⟨m.box,m.inv,m.uC,(t.trans S).trans m.eW,m.same,m.Bq,m.tid⟩,u⟩
 have W:=U Q;have HW:=U hW;clear h L hT t B d P hW Q p;go_enter_defers func27,ntmps27
 go_wp2_with fail
 apply(lock_free (R b 0) _ c0 f0).mono;rintro F v⟨rfl,ao⟩;rw[ae HW]at ao;subst v;go_wp2_with fail
 apply V.mono;rintro F Wr⟨rfl,O⟩;have hd:=W Wr<|I.aR O;clear O V;go_wp2_with fail
 apply hd.mono;rintro F w3⟨rfl,s',K',m',a',b',c',d',A,x,m,u⟩;have X:=U u;have T:=IA m.box;have HO:=U m;clear m hd u;go_wp2_with fail
 apply T.mono;rintro F w4⟨rfl,N⟩;obtain⟨d0,g0,K⟩:=HO.fin N;have ac:=U K;clear K N T;go_wp2;refine eH (f:=36) (args:=#[ay b]) (by simp) (by simp[go_sem]) ?_;apply(unlock_deferred (R b 0) .returning _ d0 g0).mono;rintro F u' au⟨rfl,rfl,rfl⟩;exact⟨_,gm rfl _ _ _,rfl,s',K',m',a',b',c',d',A,x,ac,X⟩
end
def Ib(h:PR b k)(c:tH (k.map<|jQ m) F):((jQ m<|cG k).filter<|λe=>!e.del).map yX=F:=by
 have d:k.map (fT ⟨#[]⟩)=k:=by rw[mj (g:=id)<|λF _=>FD F,tW]
 have a:=Rn h.row h.nR ⟨#[]⟩ m;rw[d]at a;have e:=IE c (λk e q=>QY q) ⟨#[]⟩ (lP (lN h.row h.nR) m) a;rw[e];exact fB.2 (λp _=>by show(!iP p.1 ⟨#[]⟩)=bU;rw[DI];rfl)
def Xh(h:wO e):gA e=e.filter (λb=>!b.del):=by
 induction e with
 |nil=>rfl
 |cons b r f=>
  have c:(gA r).any (λa=>decide<|a.key=b.key)=aY:=by
   rw[List.any_eq_false];intro a d;have:=h.head a<|(kg r).subset d;simp only[nz];grind[fy]
  rw[wF,c,f h.tail];cases q:b.del<;>simp[List.filter_cons,q]
def Tg(h:PR b k)(c:tH (k.map<|jQ b) F):y (gA<|dI []<|cG k)=y F:=by
 have a:=lN h.row h.nR;rw[Mm a<|λx d=>h.low x<|(dY k).mem_iff.1 d,Xh<|lP a b,<-Ib h c,cV]
def Vs(h:PR b k)(a:tH (k.map<|jQ m) F):y F<=y k.flatten:=by
 rw[<-Ib h a,cV];have c:=eK (λe:E=>!e.del)<|jQ m<|cG k;have d:y (jQ m<|cG k)<=y (cG k):=aC (wA _ _).length_le<|eK _ _;have e:=(dY k).length_eq;omega
