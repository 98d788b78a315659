import Derived.Test.YtmnlcbeggagabaaGreatDoorC23
import Derived.Test.YtmnlcbeggagabaaGreatDoorC24
open _root_ renaming List.length→y,Option.some→H,Array.size→z,Go.World.heap→G,Go.Value.ownBlock→cz,Go.World.cell?→aS,Go.World.setCell→cA,Go.World.alloc→cG,Bool.false→bj,Bool.true→cq,Nat→M,Int→U,List→cS,Go.Calls→cD,Go.Proofs.Tryz.prog→aZ,Go.Value.slice→J,Go.Value.string→am,Go.Value.bool→aK,Go.Value.pointer→dG,Go.Value.tuple→dd,Go.Value.agg→dE
namespace Go.Proofs.YtmnlcbeggagabaaGreatDoor
open ChangeShapes WideShapes RowKit Proofs.Tryz List
set_option maxHeartbeats 16000000
set_option linter.all false
set_option maxRecDepth 100000
variable{a f B:Z}{b c g m x O:M}{d u P:ab}{e:cI}{i L:DK}{j p r s:cN}{k:U}{l:dK}{n:dO}{o:SR}{X:eT}{v:ae}{F:Fs}{K:Bool}{T:bw}
structure EI(t:bw):Prop where
 ks:t.ks=bK 0 t.cs
 pure:tj t.ks t.cs
 idx:Jc (bK 0 t.cs)
 small:y (dw t.cs)<=100000
 num:t.num<18446744073709551616
structure RW(fs:Fs)(nx lg tb:M)(a b c d:cN)(fa:Bool)(ls:dK):Prop where
 names:∀n bs,dB fs n=H bs->n=fo\/(n=fE lg/\fa=cq)\/∃t∈a++b++c++d,n=gv t.num
 state:dB fs fo=H (ix nx lg tb [a,b,c,d])\/(dB fs fo=none/\a=[]/\b=[]/\c=[]/\d=[]/\nx=2/\lg=1/\tb=0)
 log:fa=cq->dB fs (fE lg)=H (ji ((tb:U)+1) ls)
 DL:fa=bj->ls=[]
 xZ:∀t∈a++b++c++d,dB fs (gv t.num)=H (kW t.cs)
 yT:((a++b++c++d).map bw.num).Nodup
 low:∀t∈a++b++c++d,t.num<nx/\t.num≠lg
 lt:lg<nx
 iK:∀t∈a++b++c++d,EI t
def sd:∀{l m:cS ae},l.Nodup->(∀x∈l,x∈m)->y l<=y m
 |[],_,_,_=>bH _
 |x::l,m,b,c=>by
  rw[kr]at b;obtain⟨m1,m2,rfl⟩:=sr (c x<|by simp);have d:∀a∈l,a∈m1++m2:=λa e=>by
   have:=c a (by simp[e]);grind
  have f:=sd b.2 d;grind
def lC(h:v∈F.map (·.1)):∃b,dB F v=H b:=by
 induction F with
 |nil=>simp at h
 |cons f r a=>
  unfold dB;by_cases e:f.1=v
  .simp_all
  grind
def Kr(h:dB F v=H n):v∈F.map (·.1):=bJ.2 ⟨_,xg h,rfl⟩
theorem Iv(h:v∉F.map (·.1)):dB F v=none:=by
 cases c:dB F v with
 |none=>rfl
 |some b=>exact absurd (Kr c) h
def vB(a:(F.map (·.1)).Nodup){f:ae×dO}(h:f∈F):dB F f.1=H f.2:=by
 induction F with
 |nil=>cases h
 |cons g r b=>
  rw[bV,kr]at a;unfold dB;grind
def NC(a:Fs)(n:ae):((uM a n).map (·.1)).Sublist (a.map (·.1)):=by
 induction a with
 |nil=>exact gN _
 |cons f r b=>
  unfold uM;grind
theorem Rj(a:(F.map (·.1)).Nodup)(n:ae):dB (uM F n) n=none:=by
 induction F with
 |nil=>rfl
 |cons f r b=>
  rw[bV,kr]at a;unfold uM;by_cases e:f.1=n
  .rw[dW e];grind[Iv]
  .rw[eI e];unfold dB;rw[eI e];exact b a.2
def NB(c:(F.map (·.1)).Nodup){a:cS ae}(h:v∈a):dB (uL F a) v=none:=by
 induction a generalizing F with
 |nil=>cases h
 |cons m r d=>
  have b:((uM F m).map (·.1)).Nodup:=c.sublist<|NC F m;show dB (uL (uM F m) r) v=none;by_cases e:v∈r
  .exact d b e
  grind[sS,mem_cons,Rj]
def Nz(b:(F.map (·.1)).Nodup){a:cS ae}(h:dB (uL F a) v=H n):v∉a/\dB F v=H n:=by
 by_cases c:v∈a;rw[NB b c]at h;cases h;grind[sS]
def Gp(s:ae)(a S:M):∀{b:Fs},(b.map (·.1)).Nodup->(∀f∈b,f.1≠s->y f.2<=a)->(∀f∈b,f.1=s->y f.2<=S)->im b<=y b*a+S
 |[],_,_,_=>by simp[im]
 |f::r,i,c,d=>by
  rw[bV,kr]at i;have j:im (f::r)=y f.2+im r:=by simp[im]
  rw[j,aW,we,Nat.one_mul];by_cases m:f.1=s
  .have k:im r<=y r*a:=by
    have:∀{b:Fs},(∀f∈b,y f.2<=a)->im b<=y b*a:=by
     intro b;induction b with
     |nil=>intro _;simp[im]
     |cons g q l=>
      intro h;have j:im (g::q)=y g.2+im q:=by simp[im]
      have e:=l (λf a=>h f<|by simp[a]);have n:=h g (by simp);rw[j,aW,we,Nat.one_mul];omega
    grind
   have e:=d f (by simp) m;omega
  .have k:=Gp s a S i.2 (λg b=>c g<|by simp[b]) (λg b=>d g<|by simp[b]);have e:=c f (by simp) m;omega
def Pr(c b a:U)(d e f g:cN):y (ix c b a [d,e,f,g])=44+20*y (d++e++f++g):=by
 unfold ix;rw[fD];simp only[bV,gC,bP,iD,dP,ag,nG,bU];omega
def RW.total(h:RW F b c g j p r s K l)(d:(F.map (·.1)).Nodup)(o:y (ji ((g:U)+1) l)<=200000)(w:y (j++p++r++s)<=1000000):im F<=201000000000:=by
 have q:y F<=y (j++p++r++s)+2:=by
  have:=sd (m:=fo::fE c::(j++p++r++s).map (λt=>gv t.num)) d (λx i=>by
   obtain⟨a,k⟩:=lC i;rcases h.names x a k with e|⟨e,_⟩|⟨t,f,e⟩
   .rw[e];simp
   .rw[e];simp
   grind)
  grind
 have u:=Gp fo 200000 21000000 d (λj i c=>by
  have a:=vB d i;rcases h.names _ _ a with e|⟨e,k⟩|⟨t,f,e⟩
  .grind
  .have:=h.log k;rw[<-e,a]at this;rw[gW this];exact o
  .have:=h.xZ t f;rw[<-e,a]at this;rw[gW this];exact Ll (h.iK t f).idx (h.iK t f).small) (λj i n=>by
  have a:=vB d i;rw[n]at a;rcases h.state with e|⟨e,_⟩
  .rw[a]at e;rw[gW e,Pr];omega
  grind)
 have v:y F*200000<=1000002*200000:=jT _ (by omega);omega
def cH.nodup(k:cH a b i):((vw i.files).map (·.1)).Nodup:=by
 obtain⟨e,c,_,h,j⟩:=k.now;have f:e.toList.map (·.key)=(i.files.map cX.nm).map (λp=>am p.1):=by have:=bR (List.map Prod.fst) h;grind[map_map,Function.comp_def]
 have d:=j.2.2;rw[f]at d;have g:(vw i.files).map (·.1)=(i.files.map cX.nm).map (·.1):=by simp[vw,cX.nm,iR,nj]
 rw[g];rw[iR]at d|-;grind
theorem QO{c:dK}(k:∀g∈c,∀x∈g,x.Good):jp (dw c):=by
 induction c with
 |nil=>intro x h;simp[dw]at h
 |cons g r j=>
  rw[oO];exact((Ei<|k g<|by simp).append<|jp.le 4 _).append<|j<|λh c=>k h<|by simp[c]
theorem Vs{w:Z}(h j l m:Option Addr)(g c1 c2 c3:M)(n o p q:cN)(A:Row w 1 (J h (y n) g) (y n) (n.map bw.ptr))(B:Row w 1 (J j (y o) c1) (y o) (o.map bw.ptr))(C:Row w 1 (J l (y p) c2) (y p) (p.map bw.ptr))(D:Row w 1 (J m (y q) c3) (y q) (q.map bw.ptr))(t:∀k,cz (J h (y n) g)=H k->k<z (G w))(u:∀k,cz (J j (y o) c1)=H k->k<z (G w))(v:∀k,cz (J l (y p) c2)=H k->k<z (G w))(x:∀k,cz (J m (y q) c3)=H k->k<z (G w))(E:y (n++o++p++q)<=10000000):Cz (cG w<|ay #[J h (y n) g,J j (y o) c1,J l (y p) c2,J m (y q) c3] 93) (z<|G w) 0 [(J h (y n) g,n),(J j (y o) c1,o),(J l (y p) c2,p),(J m (y q) c3,q)]:=by
 have c:I az w (cG w<|ay #[J h (y n) g,J j (y o) c1,J l (y p) c2,J m (y q) c3] 93):=(cK _ _);have r:(cG w<|ay #[J h (y n) g,J j (y o) c1,J l (y p) c2,J m (y q) c3] 93).heap[z<|G w]?=H (ay #[J h (y n) g,J j (y o) c1,J l (y p) c2,J m (y q) c3] 93 (0,0)):=aH _ rfl;refine⟨rfl,λi s=>?_,λi s=>?_,λi s=>?_,by rw[Pk];omega⟩;(have:i=0\/i=1\/i=2\/i=3:=by grind);rcases this with rfl|rfl|rfl|rfl<;>(rw[bW r];rfl);(have:i=0\/i=1\/i=2\/i=3:=by grind);rcases this with rfl|rfl|rfl|rfl;exact c.row A<|λk g=>⟨id,t k g⟩;exact c.row B<|λk g=>⟨id,u k g⟩;exact c.row C<|λk g=>⟨id,v k g⟩;exact c.row D<|λk g=>⟨id,x k g⟩;grind
section
variable{w wr w2:Z}{db sbqq baseqq:M}{K d f:DK}{e:cN}{ps:cS NT}{T us:cN}{a b i num:M}
theorem CM.free(r:CF w db sbqq baseqq K e ps T a b)(j:CM w db sbqq baseqq K e ps T a b wr d us i num):dB (vw d.files) (gv num)=none:=by
 obtain⟨k,g,h⟩:=j.files;rw[g,jt,r.fresh num j.qj.1,lS];cases c:dB k (gv num)with
 |none=>rfl
 |some v=>
  obtain⟨u,l,o,m⟩:=h _<|xg c;simp only[jb]at o;have s:=ux o.1;rcases j.OZ u l with n|⟨q,t,_,_,_,n⟩
  .have:=r.low u n;omega
  .omega
theorem CM.write(n:CF w db sbqq baseqq K e ps T a b)(g:CM w db sbqq baseqq K e ps T a b wr d us i num)(N:i<y T){p:NT}(q:p∈ps)(l:p.t=T[i]):cD aZ 174 #[aA<|T[i].tb,aA db,aG num] wr λV O=>V=aJ .nilIface/\∃s A,CM w db sbqq baseqq K e ps T a b O s A (i+1) (num+1):=by
 have c:=g.rest p q (by rw[l,<-kF N];grind);have k:=(n.news p q).2;have o:num<18446744073709551616:=by have:=g.qj.2;have:=n.nx;have:=n.small;omega
 have m:im (vw d.files)+200000<=1099511627776:=by have C:=g.qt;have D:=n.room;have E:=n.small;have F:i*200000<=1000000*200000:=jT _ (by omega);omega
 have x:=(n.news p q).1.lt;have j:∀r,p.has r->¬d.aP db r:=λr B W=>by rcases g.aP r W with S|S;have:=n.aP r S;have:=(x r B).1;omega;grind
 have u:p.bb≠p.t.tb:=by obtain⟨t,L⟩:=fS c.Fo (k:=p.bb) rfl;exact lj L c.mem.box<|by decide
 have v:p.bb≠p.x:=by obtain⟨t,L⟩:=fS c.Fo (k:=p.bb) rfl;obtain⟨B,S⟩:=fS c.data (k:=p.x) rfl;grind
 have h:=c.mem;rw[c.ks]at h;rw[<-l];refine(GX num o p.x p.Fk p.t.cs h c.data (by have:=n.le;have:=g.ap.size;omega) k.idx (QO k.pure.iK) g.steps g.pow k.small g.aM (g.free n) (by have:=g.dN;have:=n.dN;have:=n.small;omega) m (j _<|.inr<|.inr rfl) (j _<|.inl rfl) (j _<|.inr<|.inl rfl) u v).mono ?_;rintro V O⟨rfl,s,C,D,E,F,P,Q⟩;exact⟨rfl,s,_,g.wrote n N q l C D E F P Q o⟩
end
def SR.settled(s:SR)(a b c d:ab)(n num:M):SR:={s with memory:=aw,fT:=0,aT:=n,l0:=a,l1:=b,l2:=c,l3:=d,next:=num+1,log:=num,fa:=bj,vU:=bj,iS:=bj,iY:=bj}
def WH{h:cN}(i:j.map (λt=>(t.tb,t.ks,t.cs))=(p++r++s++h).map (λt=>(t.tb,t.ks,t.cs))):∃a b c d,j=a++b++c++d/\a.map (λt=>(t.tb,t.ks,t.cs))=p.map (λt=>(t.tb,t.ks,t.cs))/\b.map (λt=>(t.tb,t.ks,t.cs))=r.map (λt=>(t.tb,t.ks,t.cs))/\c.map (λt=>(t.tb,t.ks,t.cs))=s.map (λt=>(t.tb,t.ks,t.cs))/\d.map (λt=>(t.tb,t.ks,t.cs))=h.map (λt=>(t.tb,t.ks,t.cs)):=by
 rw[aN,aN,aN]at i;obtain⟨x,d,rfl,e,k⟩:=iC.1 i;obtain⟨g,c,rfl,f,l⟩:=iC.1 e;obtain⟨a,b,rfl,m,n⟩:=iC.1 f;grind
def jh(h:j.map (λt=>(t.tb,t.ks,t.cs))=p.map (λt=>(t.tb,t.ks,t.cs))):j.map bw.ptr=p.map bw.ptr/\y j=y p/\j.map bw.all=p.map bw.all/\cf j=cf p:=by
 have a:=bR (List.map (λe:M×mw×dK=>dG<|H<|R e.1 0)) h;have d:=bR y h;have b:=bR (List.map (λe:M×mw×dK=>e.2.2.flatten)) h;simp only[iR,nj]at a b;have c:j.map bw.all=p.map bw.all:=b;refine⟨a,by simpa using d,c,?_⟩;unfold cf;rw[c]
def Wb(w i:Z)(a:M)(s:SR)(k:U)(b v o:M)(K:DK)(m:cS NT)(x A B C:ab)(p q r u l:cN):Prop:=∃(n wr:Z)(j c:DK)(h d e f g:cN)(num:M),I az w n/\CM n s.aM a b K l m (p++q++r++u) s.next o wr j h (y<|p++q++r++u) num/\h=d++e++f++g/\d.map (λt=>(t.tb,t.ks,t.cs))=p.map (λt=>(t.tb,t.ks,t.cs))/\e.map (λt=>(t.tb,t.ks,t.cs))=q.map (λt=>(t.tb,t.ks,t.cs))/\f.map (λt=>(t.tb,t.ks,t.cs))=r.map (λt=>(t.tb,t.ks,t.cs))/\g.map (λt=>(t.tb,t.ks,t.cs))=u.map (λt=>(t.tb,t.ks,t.cs))/\cg i a (s.settled x A B C v num) k/\cH i s.aM c/\vw c.files=uL (sP (vw j.files) (fo,ix ((num:U)+1) num v [d,e,f,g])) (po s l h)/\((sP (vw j.files) (fo,ix ((num:U)+1) num v [d,e,f,g])).map (·.1)).Nodup/\y c.dN=y (po s l h)/\(∀k,k<z (G w)->¬K.aP s.aM k->k≠a->i.heap[k]?=wr.heap[k]?)/\I (λk=>Wr s.aM K m k\/k=a) w i/\(∀k,c.aP s.aM k->K.aP s.aM k\/z (G w)<=k)
def Ly{s:SR}(e rM bp B0:M)(ps:cS NT)(v0 v1 v2 v3:ab)(dx dT aV ea a0 b0 c0 d0:cN)(h:cg a b s k)(hL:LS a s.aM b e i (a0++b0++c0++d0) ps rM v0 v1 v2 v3 dx dT aV ea)(hF:∀bg,I az a bg->CF bg s.aM b e i (a0++b0++c0++d0) ps (dx++dT++aV++ea) s.next B0)(kd:Cz a b 10 [(s.l0,a0),(s.l1,b0),(s.l2,c0),(s.l3,d0)])(pv:cH a s.aM i)(hp:¬i.aP s.aM b)(sb:bp<1000000000000000)(on:s.log<18446744073709551616)(rs:y (a0++b0++c0++d0)<=1000000)(cE:∀bp gn,dB (vw i.files) bp=H gn->bp≠uA)(bd:∃md bp aV,s.memory=J md bp aV)(kc:∀bh,bh=s.l0\/bh=s.l1\/bh=s.l2\/bh=s.l3->∀k,cz bh=H k->IY s.aM b e i k)(cv:∀us,(po s (a0++b0++c0++d0) us).Nodup/\∀bp∈po s (a0++b0++c0++d0) us,bp≠fo/\∃gn,dB (vw i.files) bp=H gn):cD aZ 112 #[aA b,dE #[v0,v1,v2,v3],aG bp] a λcp w'=>cp=aJ .nilIface/\Wb a w' b s k e bp B0 i ps v0 v1 v2 v3 dx dT aV ea (a0++b0++c0++d0):=by
 obtain⟨x0,x,rfl⟩:=bO hL.r0;obtain⟨x1,A,rfl⟩:=bO hL.r1;obtain⟨x2,B,rfl⟩:=bO hL.r2;obtain⟨x3,C,rfl⟩:=bO hL.r3;have pr:=hL.count;have hi:y (dx++dT++aV++ea)<=1000000:=by grind
 have hk:=Vs x0 x1 x2 x3 x A B C dx dT aV ea hL.r0 hL.r1 hL.r2 hL.r3 (λk d=>(hL.b0 k d).1) (λk d=>(hL.b1 k d).1) (λk d=>(hL.b2 k d).1) (λk d=>(hL.b3 k d).1) (by omega);obtain⟨WB,ej⟩:∃WB,cG a (ay #[J x0 (y dx) x,J x1 (y dT) A,J x2 (y aV) B,J x3 (y ea) C] 93)=WB:=⟨_,rfl⟩;rw[ej]at hk;obtain⟨bs,me⟩:∃bs,dx++dT++aV++ea=bs:=⟨_,rfl⟩;have cs:=rS _ hk;rw[Oy,Pk,me]at cs;have hw:I az a WB:=by rw[<-ej];exact(cK _ _)
 have ia:WB.heap[z<|G a]?=H (ay #[J x0 (y dx) x,J x1 (y dT) A,J x2 (y aV) B,J x3 (y ea) C] 93 (0,0)):=by rw[<-ej];exact aH _ rfl
 have jK:=(hw.block b (ar h) id).trans h;have ro:=cg.cellAt jK 14 rfl;rw[me]at hF hi;obtain⟨HH,g,HF,mI,hA,hT,bE,ec,mp⟩:=wZ h hL hF hw ia me kd kc cv;obtain⟨ry,rx,rv,bd⟩:=bd;have mx:=Y bd;clear h hL hF hk hw ia jK me kd kc cv bd;go_in
 go_wp2_with fail
 apply cs.mono;rintro cp w1⟨rz,rfl,hn,hr⟩;obtain⟨xT,rT,pb⟩:=aC hn;subst pb;have w:I az a w1:=mI.bX hr;have hd:=HF w1 w;have ih:=pv.ap w<|λ_ _=>id;have ib:=CM.start hd (λba h0=>(g.uD ba h0).QH<|λk d=>w.block k (by have:=d.1;have:=g.le;omega) id) ih (λk d=>w.cell (g.steps k d) id (by have:=g.eL.1;have:=g.le;omega))<|g.pow.ap w id;obtain⟨hN,fe,ao,mo,bu,bt,mN⟩:=yu hn w hd ib ((w.block b (ar HH) id).trans HH) ((hr.block (z<|G a) (ar hA) id).trans hA) (show z (G a)+1=z (G WB)by rw[<-ej];simp);clear hn hr w hd ib cs ih pv;go_wp2_with fail
 go_loopw [7,22] (λds gf wr=>∃(dv num:M)(KR:DK)(us:cN),gf=aq dv/\ds=aG num/\CM w1 s.aM b e i (a0++b0++c0++d0) ps bs s.next B0 wr KR us dv num) (λ_ gf _=>y bs-(intOf gf).toNat)
 case atStart=>exact⟨0,s.next,i,[],rfl,rfl,mo⟩
 case round=>
  obtain⟨dv,num,KR,us,rfl,rfl,m⟩:=hrel;have rr:=g.le;have qs:=g.JF;have bo:∀k,z (G a)<=k->¬Wr s.aM i ps k:=by
   rintro k d(aV|⟨br,X,aV|aV⟩)
   .have:=g.aP k aV;omega
   .have:=((g.news br X).1.lt k<|.inl aV).2;omega
   .have:=((g.news br X).1.lt k<|.inr<|.inr aV).2;omega
  have kv:¬Wr s.aM i ps b:=by
   rintro(aV|⟨br,X,aV|aV⟩)
   .exact hp aV
   .have:=((g.news br X).1.lt b<|.inl aV).1;omega
   .have:=((g.news br X).1.lt b<|.inr<|.inr aV).1;omega
  have rt:=af mN;have aF:=(m.ap.block b (ar bu) kv).trans bu;by_cases cx:dv<y bs
  .have c:=m.ap.own hN<|λk d=>bo k (by have:=(hN.lt k d).1;omega);obtain⟨t,E,u⟩:∃t,xT=H (R t 0)/\aS wr (R t dv)=H bs[dv].ptr:=by
    rcases c.2 with⟨h2,h0⟩|⟨L,j,na,h2,_⟩
    .omega
    .cases h2;refine⟨L,rfl,?_⟩;have:=oZ c dv bs[dv].ptr (by rw[fc,aO cx];rfl);rwa[dt,dr]at this
   subst E;unfold bw.ptr at u;have e1:(dv:U)<(y bs:U):=by omega
   rcases ao.xt bs[dv] (ak cx)with h0|⟨br,X,f⟩
   .obtain⟨hx,ad,n,hm,_⟩:=(m.Fa bs[dv] h0).mem;have j:=BE _ hm;have HM:=Y<|m.skip ao cx h0;clear m c aF hm h0 bo;generalize bs[dv].tb=p at*;go_wp2_with fail
    apply j.mono;rintro cp N⟨rfl,D⟩;subst N;clear j;go_wp2;go_roundw;case rel=>exact⟨dv+1,num,KR,_,by go_num,rfl,HM⟩
    case measure=>simp[intOf];omega
   .have v:=m.rest br X (by rw[f,<-kF cx];grind);have j:=CO v.mem;rw[f]at j;have o:=m.write ao cx X f;have kl:num+1<9223372036854775807:=by have:=m.qj.2;have:=ao.nx;have:=ao.small;omega
    have c2:=cg.cellAt aF 2 rfl;clear m c aF v bo f X;generalize bs[dv].tb=p at*;go_wp2_with fail
    apply j.mono;rintro cp N⟨rfl,D⟩;subst N;clear j;go_wp2_with fail
    apply o.mono;rintro cp N⟨rfl,K,F,l⟩;have r:=Y l;clear l o;go_wp2;go_roundw;case rel=>exact⟨dv+1,num+1,K,F,by go_num,by go_num,r⟩
    case measure=>simp[intOf];omega
  .have oj:dv=y bs:=by have:=m.le;omega
   rw[oj]at m;have jC:us.map (λba=>(ba.tb,ba.ks,ba.cs))=(dx++dT++aV++ea).map (λba=>(ba.tb,ba.ks,ba.cs)):=by rw[m.same,bN,af hT]
   obtain⟨K,O,W,d',F,nb,ne,nm,nv⟩:=WH jC;obtain⟨gr,gs,nc,nd⟩:=jh nb;obtain⟨gt,gx,nf,nl⟩:=jh ne;obtain⟨gE,ha,no,nq⟩:=jh nm;obtain⟨hb,hc,nx,nA⟩:=jh nv;have hl:∀bh,ql a s.aM b e i bh->∀k,cz bh=H k->¬Wr s.aM i ps k:=by
    rintro bh hv k d(q|⟨br,X,q|q⟩)
    .exact(hv k d).2.1 q
    .have v:=(g.news br X).1;rcases(hv k d).2.2.2 with L|⟨fu,kz,L⟩
     .have:=(v.lt k<|.inl q).1;omega
     .exact lj L v.mem.box (by decide) q
    .have v:=(g.news br X).1;rcases(hv k d).2.2.2 with L|⟨fu,kz,L⟩
     .have:=(v.lt k<|.inr<|.inr q).1;omega
     .obtain⟨na,oi⟩:=fS v.data (k:=br.x) rfl;grind
   have bf:I (Wr s.aM i ps) a wr:=(fe.mono (T:=Wr s.aM i ps) cC).trans m.ap<|λ_ q=>.inl q;have t:∀bh(ts c:cN),ql a s.aM b e i bh->Row a 1 bh (y ts) (ts.map bw.ptr)->c.map bw.ptr=ts.map bw.ptr->y c=y ts->Row wr 1 bh (y c) (c.map bw.ptr):=λbh ts c hv ks e1 e2=>by
    rw[e1,e2];exact bf.row ks<|λk d=>⟨hl bh hv k d,(hv k d).1⟩
   have jA:∀bq∈us,IU wr s.aM bq:=λbq hu=>by
    have fu:∀{w:eT},qG wr s.aM (vw KR.files) w bq->IU wr s.aM bq:=λho=>by
     obtain⟨hx,ad,n,hm,_⟩:=ho.mem;refine⟨hx,ad,n,?_⟩;rw[<-ho.ks]at hm;exact hm
    rcases m.OZ bq hu with q|⟨br,_,_,q,_⟩
    .exact fu<|m.Fa bq q
    .exact fu q
   have ek:∀bg,I az wr bg->∀bq∈us,IU bg s.aM bq:=λbg ht bq hu=>by
    obtain⟨hx,ad,n,hm⟩:=jA bq hu;exact⟨hx,ad,n,hm.di (ht.block _ (ar hm.box) id)<|ht.block _ hm.lt.2 id⟩
   have cB:∀bh(ts:cN),(∀ba∈ts,ba∈us)->y ts<=1000000->(∀k,cz bh=H k->k<z (G wr))->Row wr 1 bh (y ts) (ts.map bw.ptr)->∀bg,I az wr bg->cD aZ 175 #[bh] bg λcp w'=>∃a,cp=aJ a/\w'.ownsRow (z<|G bg) 188 4 a (y ts) (dq ts)/\Below (z<|G bg) bg w':=λbh ts fu b d ks bg ht=>by
    refine No bg s.aM bh ts ⟨ht.row ks<|λk cp=>⟨id,d k cp⟩,λk cp=>ah (d k cp) ht.size,λba h=>(ek bg ht ba<|fu ba h).Sh,by omega⟩ (λba h=>ek bg ht ba<|fu ba h)<|by omega
   have sc:=bf.size;have fw:=cB _ K (λba h=>by rw[F];simp[h]) (by omega) (λk d=>by have:=(g.b0 k d).1;omega)<|t _ dx K g.b0 g.r0 gr gs;have fx:=cB _ O (λba h=>by rw[F];simp[h]) (by omega) (λk d=>by have:=(g.b1 k d).1;omega)<|t _ dT O g.b1 g.r1 gt gx;have fL:=cB _ W (λba h=>by rw[F];simp[h]) (by omega) (λk d=>by have:=(g.b2 k d).1;omega)<|t _ aV W g.b2 g.r2 gE ha;have gb:=cB _ d' (λba h=>by rw[F];simp[h]) (by omega) (λk d=>by have:=(g.b3 k d).1;omega)<|t _ ea d' g.b3 g.r3 hb hc;obtain⟨hO,hP,hQ,hR⟩:=fY (t _ dx K g.b0 g.r0 gr gs) (t _ dT O g.b1 g.r1 gt gx) (t _ aV W g.b2 g.r2 gE ha)<|t _ ea d' g.b3 g.r3 hb hc;have T:=(m.ap.block (z<|G a) (ar bt)<|bo _<|ai _).trans bt;have bi:=cellAt T 0 rfl;have bk:=cellAt T 1 rfl;have bl:=cellAt T 2 rfl;have bm:=cellAt T 3 rfl;have qq:=ar T;have kl:num+1<9223372036854775807:=by have:=m.qj.2;have:=ao.nx;have:=ao.small;omega
   have pc:IntKind.u64.wrap ((num:U)+1)=(num:U)+1:=by rw[fi];omega
   have e1:¬(dv:U)<(y bs:U):=by omega
   obtain⟨HM,hI,hJ,hK,hM,fb,fn⟩:=yu m fw fx fL gb aF bf;obtain⟨co,hB,HEq,rc,ra,rb⟩:=lf F T (And.intro nb (And.intro ne (And.intro nm nv))) bo ek hl;clear m cB fw fx fL gb aF bf F T nb ne nm nv gr gs nc nd gt gx nf nl gE ha no nq hb hc nx nA t jA ek hl bo jC kv;go_wp2_with fail
   obtain⟨c,kx⟩:∃c,z (G wr)=c:=⟨_,rfl⟩;obtain⟨W0,jD⟩:∃W0,cG wr (ay #[aG<|(num:U)+1,aG num,aG bp,aw,aw,aw,aw] 126)=W0:=⟨_,rfl⟩;have gc:W0.heap[c]?=H (ay #[aG<|(num:U)+1,aG num,aG bp,aw,aw,aw,aw] 126 (0,0)):=by rw[<-jD];exact aH _ kx.symm
   have ge:I az wr W0:=by rw[<-jD];exact(cK _ _)
   have aa:=Y gc;have ff:=Y ge;clear gc ge;have pw:∀bg,(Instr.index 93 (dE #[J x0 (y dx) x,J x1 (y dT) A,J x2 (y aV) B,J x3 (y ea) C])<|aq 0).run aZ bg=.ok (J x0 (y dx) x) bg:=λ_=>by kernel_rfl
   have px:∀bg,(Instr.index 93 (dE #[J x0 (y dx) x,J x1 (y dT) A,J x2 (y aV) B,J x3 (y ea) C])<|aq 1).run aZ bg=.ok (J x1 (y dT) A) bg:=λ_=>by kernel_rfl
   have qb:∀bg,(Instr.index 93 (dE #[J x0 (y dx) x,J x1 (y dT) A,J x2 (y aV) B,J x3 (y ea) C])<|aq 2).run aZ bg=.ok (J x2 (y aV) B) bg:=λ_=>by kernel_rfl
   have qk:∀bg,(Instr.index 93 (dE #[J x0 (y dx) x,J x1 (y dT) A,J x2 (y aV) B,J x3 (y ea) C])<|aq 3).run aZ bg=.ok (J x3 (y ea) C) bg:=λ_=>by kernel_rfl
   refine gH 5 ?_;rw[fU];go_wp2_with fail
   apply(hI W0 ff).mono;rintro cp N⟨m0,rfl,es,Q⟩;obtain⟨y0,z0,os⟩:=aC es;subst os;have r:I az W0 N:=I.aR Q;have l:=(r.block c (ar aa) id).trans aa;have g0:=cellAt l 3 rfl;have f0:=cZ (i:=3) l;have p:(cA N (R c 3)<|J y0 (y K) z0).heap[c]?=H (ay #[aG<|(num:U)+1,aG num,aG bp,(J y0 (y K) z0),aw,aw,aw] 126 (0,0)):=(aL l).trans rfl;have j:I (λk=>k=c) W0 (cA N (R c 3)<|J y0 (y K) z0):=(r.mono (T:=λk=>k=c) cC).setCell _ _ _<|.inl rfl;obtain⟨W1,jE⟩:∃W1,cA N (R c 3) (J y0 (y K) z0)=W1:=⟨_,rfl⟩;rw[jE]at p j;obtain⟨av,fg,bT⟩:=dz p (ff.trans j<|λk d=>.inr<|by omega) (show W1.ownsRow (z<|G W0) 188 4 (J y0 (y K) z0) (y K) (dq K)by rw[<-jE];exact es.kept (du _ _ _ _)<|.inr (λq=>by have:=(es.lt _ q).1;have:=ar aa;omega));clear p j r l Q es;go_wp2_with fail
   rw[fU];go_wp2_with fail
   apply(hJ W1 fg).mono;rintro cp N⟨m1,rfl,et,Q⟩;obtain⟨y1,z1,ov⟩:=aC et;subst ov;have r:I az W1 N:=I.aR Q;have l:=(r.block c (ar av) id).trans av;have g1:=cellAt l 4 rfl;have f1:=cZ (i:=4) l;have p:(cA N (R c 4)<|J y1 (y O) z1).heap[c]?=H (ay #[aG<|(num:U)+1,aG num,aG bp,(J y0 (y K) z0),(J y1 (y O) z1),aw,aw] 126 (0,0)):=(aL l).trans rfl;have j:I (λk=>k=c) W1 (cA N (R c 4)<|J y1 (y O) z1):=(r.mono (T:=λk=>k=c) cC).setCell _ _ _<|.inl rfl;obtain⟨W2,jG⟩:∃W2,cA N (R c 4) (J y1 (y O) z1)=W2:=⟨_,rfl⟩;rw[jG]at p j;obtain⟨bb,fk,cd,ca⟩:=fY p (fg.trans j<|λk d=>.inr<|by omega) (show W2.ownsRow (z<|G W1) 188 4 (J y1 (y O) z1) (y O) (dq O)by rw[<-jG];exact et.kept (du _ _ _ _)<|.inr (λq=>by have:=(et.lt _ q).1;have:=ar av;omega))<|j.own bT (λk d q=>by have:=(bT.lt k d).1;have:=ar aa;omega);clear p j r l Q et;go_wp2_with fail
   rw[fU];go_wp2_with fail
   apply(hK W2 fk).mono;rintro cp N⟨m2,rfl,eu,Q⟩;obtain⟨y2,z2,ox⟩:=aC eu;subst ox;have r:I az W2 N:=I.aR Q;have l:=(r.block c (ar bb) id).trans bb;have g2:=cellAt l 5 rfl;have f2:=cZ (i:=5) l;have p:(cA N (R c 5)<|J y2 (y W) z2).heap[c]?=H (ay #[aG<|(num:U)+1,aG num,aG bp,(J y0 (y K) z0),(J y1 (y O) z1),(J y2 (y W) z2),aw] 126 (0,0)):=(aL l).trans rfl;have j:I (λk=>k=c) W2 (cA N (R c 5)<|J y2 (y W) z2):=(r.mono (T:=λk=>k=c) cC).setCell _ _ _<|.inl rfl;obtain⟨W3,jH⟩:∃W3,cA N (R c 5) (J y2 (y W) z2)=W3:=⟨_,rfl⟩;rw[jH]at p j;obtain⟨cm,fl,cj,cb,ce⟩:=jm p (fk.trans j<|λk d=>.inr<|by omega) (show W3.ownsRow (z<|G W2) 188 4 (J y2 (y W) z2) (y W) (dq W)by rw[<-jH];exact eu.kept (du _ _ _ _)<|.inr (λq=>by have:=(eu.lt _ q).1;have:=ar bb;omega)) (j.own ca (λk d q=>by have:=(ca.lt k d).1;have:=ar aa;omega))<|j.own cd (λk d q=>by have:=(cd.lt k d).1;have:=ar av;omega);clear p j r l Q eu;go_wp2_with fail
   rw[fU];go_wp2_with fail
   apply(hM W3 fl).mono;rintro cp N⟨m3,rfl,ev,Q⟩;obtain⟨y3,z3,oy⟩:=aC ev;subst oy;have r:I az W3 N:=I.aR Q;have l:=(r.block c (ar cm) id).trans cm;have g3:=cellAt l 6 rfl;have f3:=cZ (i:=6) l;have p:(cA N (R c 6)<|J y3 (y d') z3).heap[c]?=H (ay #[aG<|(num:U)+1,aG num,aG bp,(J y0 (y K) z0),(J y1 (y O) z1),(J y2 (y W) z2),(J y3 (y d') z3)] 126 (0,0)):=(aL l).trans rfl;have j:I (λk=>k=c) W3 (cA N (R c 6)<|J y3 (y d') z3):=(r.mono (T:=λk=>k=c) cC).setCell _ _ _<|.inl rfl;obtain⟨W4,jI⟩:∃W4,cA N (R c 6) (J y3 (y d') z3)=W4:=⟨_,rfl⟩;rw[jI]at p j;obtain⟨cn,ac,cl,cc,ch,ck⟩:=lf p (fl.trans j<|λk d=>.inr<|by omega) (show W4.ownsRow (z<|G W3) 188 4 (J y3 (y d') z3) (y d') (dq d')by rw[<-jI];exact ev.kept (du _ _ _ _)<|.inr (λq=>by have:=(ev.lt _ q).1;have:=ar cm;omega)) (j.own cb (λk d q=>by have:=(cb.lt k d).1;have:=ar aa;omega)) (j.own ce (λk d q=>by have:=(ce.lt k d).1;have:=ar av;omega))<|j.own cj (λk d q=>by have:=(cj.lt k d).1;have:=ar bb;omega);clear p j r l Q ev;go_wp2_with fail
   rw[fU];go_wp2_with fail
   have cu:cg W4 b s k:=(ac.block b (ar fb) id).trans fb;have jB:∀f:Z,f.heap=W4.heap->(λ(f:Z)=>aS f (R b 2)=H (aA s.aM)/\aS f (R c 0)=H (aG<|(num:U)+1)/\aS f (R c 1)=H (aG num)/\aS f (R c 2)=H (aG bp)/\aS f (R c 3)=H (J y0 (y K) z0)/\aS f (R c 4)=H (J y1 (y O) z1)/\aS f (R c 5)=H (J y2 (y W) z2)/\aS f (R c 6)=H (J y3 (y d') z3)) f:=by
    intro f fu;have h1:f.heap[b]?=W4.heap[b]?:=by rw[fu]
    have h2:f.heap[c]?=W4.heap[c]?:=by rw[fu]
    have kz:cg f b s k:=h1.trans cu;have oi:=h2.trans cn;refine⟨kz.cell rfl,?_,?_,?_,?_,?_,?_,?_⟩<;>(rw[bW oi];rfl)
   have fv:=jB W4.drew rfl;have bv:=Y cu;clear jB cu;have ky:cD aZ 176 #[aA s.aM,dE #[aG<|(num:U)+1,aG num,aG bp,J y0 (y K) z0,J y1 (y O) z1,J y2 (y W) z2,J y3 (y d') z3]] W4.drew λcp w'=>cp=aJ .nilIface/\∃a,oD W4.drew w' s.aM KR a/\vw a.files=sP (vw KR.files) (fo,ix ((num:U)+1) num bp [K,O,W,d'])/\a.dN=[]:=by
    have m:=af HM;have F:=af co;have kz:I az wr W4.drew:=ac.of_heap rfl;have v:∀bq∈us,bq.og:=λbq hu=>by
     have hy:∀{w:eT},qG wr s.aM (vw KR.files) w bq->bq.og:=λho=>by
      refine⟨ho.num,by have:=ho.small;omega,?_⟩;have h1:=kV<|λk d=>(ho.idx.can k d).fits;have h2:=ho.idx.len;rw[ho.ks];unfold eO;rw[ag,bU];omega
     rcases m.OZ bq hu with q|⟨br,_,_,q,_⟩
     .exact hy<|m.Fa bq q
     .exact hy q
    have om:y K+y O+y W+y d'<=1000000:=by
     have:=m.len;rw[F]at this;simp only[ag]at this;omega
    have op:dB (vw KR.files) uA=none:=by
     obtain⟨pp,hj,oi⟩:=m.files;rw[hj,jt];cases q:dB (vw i.files) uA with
     |some gn=>exact absurd rfl<|cE _ _ q
     |none=>
      rw[lS];cases q2:dB pp uA with
      |none=>rfl
      |some gn=>
       obtain⟨bq,_,cp,_⟩:=oi _<|xg q2;simp only[jb]at cp;exact absurd cp.1.symm<|Dc _
    have fu:im (vw KR.files)+21000000<=1099511627776:=by
     have h1:=m.qt;have h2:=ao.room;have h3:y bs*200000<=1000000*200000:=jT _ hi;omega
    refine Sz s.aM KR ((num:U)+1) num bp y0 y1 y2 y3 z0 z1 z2 z3 K O W d' (λk d=>kz.cell (m.steps k d) id m.steps.lt) (dF cc) (dF ch) (dF ck) (dF cl) (λk d=>(cc.lt k d).2) (λk d=>(ch.lt k d).2) (λk d=>(ck.lt k d).2) (λk d=>(cl.lt k d).2) (λba h=>v ba (by rw[F];simp[h])) (λba h=>v ba (by rw[F];simp[h])) (λba h=>v ba (by rw[F];simp[h])) (λba h=>v ba (by rw[F];simp[h])) (by omega) (by omega) (by omega) om (m.aM.ap kz<|λ_ _=>id) op (by have:=m.dN;have:=ao.dN;omega) fu
   have mC:=Y ky;clear ky;rename_i QQ KK iu;refine dM (λ(f:Z)=>aS f (R b 2)=H (aA s.aM)/\aS f (R c 0)=H (aG<|(num:U)+1)/\aS f (R c 1)=H (aG num)/\aS f (R c 2)=H (aG bp)/\aS f (R c 3)=H (J y0 (y K) z0)/\aS f (R c 4)=H (J y1 (y O) z1)/\aS f (R c 5)=H (J y2 (y W) z2)/\aS f (R c 6)=H (J y3 (y d') z3)) 6 (by kernel_rfl) ?_;refine eR 0 ?_;iterate 5 (refine iF (v:=?_) fv rfl (by kernel_rfl) mj rfl ?_ ?_;rotate_left;(focus(rintro f⟨s2,q0,q1,q2,q3,q4,q5,q6⟩;go_simp;try rfl));simp only[Act.put,eF,Nat.reduceAdd])
   apply ik;refine bC (i:=5) rfl rfl (by kernel_rfl) ?_;intro K5 ip;go_simp;apply mC.mono;rintro cp w5⟨rfl,hU,el,lb,kf⟩;have kb:∀k,KR.aP s.aM k->k<c:=λk d=>by have:=HM.aM.lt k d;omega
   have hq:¬KR.aP s.aM b:=λq=>by
    rcases HM.aP b q with L|L
    .exact hp L
    .have:=ar bu;omega
   have hg:cg w5 b s k:=(el.ap.block b (ar bv) hq).trans bv;have u:w5.heap[c]?=_:=(el.ap.block c (ar cn) (λq=>by have:=kb _ q;omega)).trans cn;obtain⟨eb,fd,au,gk,hH,hS⟩:=lf hg u el lb kf hq;refine ip _ _ (λ_=>⟨hg.cell rfl,(by rw[bW u];rfl),(by rw[bW u];rfl),(by rw[bW u];rfl),(by rw[bW u];rfl),(by rw[bW u];rfl),(by rw[bW u];rfl),(by rw[bW u];rfl)⟩) ?_;clear ip el lb kf hg u kb hq;try simp only[Act.put,eF]
   refine bC (i:=6) rfl rfl (by kernel_rfl) ?_;intro K6 it;go_simp;refine it _ _ (λq=>(q rfl).elim) ?_;refine eN (by kernel_rfl) ?_ _;show KK _ _;apply iu;clear iu it fv;have m:=af HM;have le:z (G a)<z (G w1):=ar bt;have qv:=m.ap.size;have an:I (KR.aP s.aM) wr w5:=(ac.mono (T:=KR.aP s.aM) cC).trans ((cR (KR.aP s.aM) W4).trans au.ap<|λ_ q=>.inl q)<|λ_ q=>.inl q;have ex:∀k,k<z (G w1)->¬i.aP s.aM k->¬KR.aP s.aM k:=λk h1 h2 q=>(m.aP k q).elim h2 (λL=>by omega);have cw:∀k,k<z (G w1)->¬i.aP s.aM k->w5.heap[k]?=wr.heap[k]?:=λk h1 h2=>an.block k (by omega)<|ex k h1 h2;have od:=g.le;have ko:∀br∈ps,∀k,br.has k->k<z (G w1)/\¬i.aP s.aM k:=λbr X k d=>by
    have h1:=(g.news br X).1.lt k d;exact⟨by omega,λq=>by have:=g.aP k q;omega⟩
   have kn:∀k,IY s.aM b e i k->k<z (G w1)/\¬i.aP s.aM k:=λk d=>⟨by have:=d.1;omega,d.2.1⟩;have hf:∀{w:eT}{bq:bw},qG wr s.aM (vw KR.files) w bq->(∀k,w k->k<z (G w1)/\¬i.aP s.aM k)->OW w5 bq:=λho fu=>by
    obtain⟨hx,ad,n,hm,kz⟩:=(ho.QH<|λk d=>cw k (fu k d).1 (fu k d).2).mem;exact⟨ho.num,_,_,_,_,hx,ad,n,_,hm⟩
   have he:∀ba∈a0++b0++c0++d0,OW w5 ba:=λba h0=>hf (m.Fa ba h0) kn;have iv:∀bq∈K++O++W++d',OW w5 bq:=λbq hu=>by
    rw[<-af co]at hu;rcases m.OZ bq hu with q|⟨br,X,_,q,_⟩
    .exact he bq q
    .exact hf q<|ko br X
   have fs:Cz w5 b 10 [(s.l0,a0),(s.l1,b0),(s.l2,c0),(s.l3,d0)]:=by
    refine bE.ap (S:=λk=>Wr s.aM i ps k\/KR.aP s.aM k) ((fn.mono (T:=λk=>Wr s.aM i ps k\/KR.aP s.aM k)<|λ_ q=>.inl<|.inl q).trans an<|λ_ q=>.inl<|.inr q) ?_ ?_
    .rintro(q|q)
     .rcases q with L|⟨br,X,L|L⟩
      .exact hp L
      .have:=((g.news br X).1.lt b<|.inl L).1;omega
      .have:=((g.news br X).1.lt b<|.inr<|.inr L).1;omega
     .exact hS q
    .intro gf kz k' bn q;have fu:IY s.aM b e i k':=by
      have:gf=0\/gf=1\/gf=2\/gf=3:=by simp at kz;omega
      rcases this with rfl|rfl|rfl|rfl
      .exact ec _ (.inl rfl) k' bn
      .exact ec _ (.inr<|.inl rfl) k' bn
      .exact ec _ (.inr<|.inr<|.inl rfl) k' bn
      .exact ec _ (.inr<|.inr<|.inr rfl) k' bn
     rcases q with L|L
     .rcases L with L|⟨br,X,L|L⟩
      .simp_all
      .have:=((g.news br X).1.lt k'<|.inl L).1;have:=fu.1;omega
      .have:=((g.news br X).1.lt k'<|.inr<|.inr L).1;have:=fu.1;omega
     simp_all
   have P:∀bh(ts:cN),ql a s.aM b e i bh->Row wr 1 bh (y ts) (ts.map bw.ptr)->Row w5 1 bh (y ts) (ts.map bw.ptr)/\∀k,cz bh=H k->k<z (G w5):=λbh ts hv ks=>
    ⟨an.row ks<|λk d=>⟨ex k (by have:=(hv k d).1;omega) (hv k d).2.1,by have:=(hv k d).1;omega⟩,λk d=>by have:=(hv k d).1;have:=an.size;omega⟩
   have q0:=P _ K g.b0 hO;have q1:=P _ O g.b1 hP;have q2:=P _ W g.b2 hQ;have q3:=P _ d' g.b3 hR;have qr:y (K++O++W++d')<=1000000:=by rw[<-af co,m.len];exact hi
   have db:Pow w5:=m.pow.di<|cw _ (by have:=g.lk.1;omega) g.lk.2.1;have cT:=Hp a0 b0 c0 d0 K O W d' eb fs q0.1 q1.1 q2.1 q3.1 q0.2 q1.2 q2.2 q3.2 he iv db on (by omega) (by omega);have al:=(cw (z<|G a) le (λq=>by have:=g.aP _ q;omega)).trans hB;have bi:=cellAt al 0 rfl;have bk:=cellAt al 1 rfl;have bl:=cellAt al 2 rfl;have bm:=cellAt al 3 rfl;rw[<-af co]at cT;obtain⟨ms,ax,eB,mA⟩:=fY cw an al ex;clear m ex cw hf he iv fs P q0 q1 q2 q3 db al an ko kn;go_wp2_with fail
   apply cT.mono;rintro cp w6⟨v6,rfl,ey,dn⟩;obtain⟨ns,cM⟩:∃ns,po s (a0++b0++c0++d0) us=ns:=⟨_,rfl⟩;rw[cM]at ey;obtain⟨x6,c6,oL⟩:=aC ey;subst oL;have o:cg w6 b s k:=(dn.block b (ar eb) id).trans eb;have dk:w6.heap[c]?=_:=(dn.block c (ar fd) id).trans fd;have aD:w6.heap[z<|G a]?=_:=(dn.block (z<|G a) (ar eB) id).trans eB;obtain⟨lr,lp,en⟩:=bO (bE.row 0<|by simp);obtain⟨lt,ls,eo⟩:=bO (bE.row 1<|by simp);obtain⟨lx,lv,eq⟩:=bO (bE.row 2<|by simp);obtain⟨mc,mb,er⟩:=bO (bE.row 3<|by simp);simp only[cy,cr]at en eo eq er;obtain⟨hC,hD,hE,hG⟩:=fY en eo eq er;have k7:aS w6 (R b 7)=H (J ry rx rv):=by rw[<-af mx];exact o.cell rfl
   have k8:=cg.cellAt o 8 rfl;have k9:=cg.cellAt o 9 rfl;have lg:aS w6 (R b 10)=H (J lr (y a0) lp):=by rw[<-en];exact o.cell rfl
   have ll:aS w6 (R b 11)=H (J lt (y b0) ls):=by rw[<-eo];exact o.cell rfl
   have lm:aS w6 (R b 12)=H (J lx (y c0) lv):=by rw[<-eq];exact o.cell rfl
   have ln:aS w6 (R b 13)=H (J mc (y d0) mb):=by rw[<-er];exact o.cell rfl
   have lo:=cg.cellAt o 14 rfl;have pf:=cg.cellAt o 17 rfl;have pg:=cg.cellAt o 18 rfl;have pi:=cg.cellAt o 19 rfl;have pk:=cg.cellAt o 20 rfl;have pn:=cg.cellAt o 21 rfl;have fz:∀gf,w6.frozen? (R b gf)=bj:=λgf=>o.free;have f7:=fz 7;have f8:=fz 8;have f9:=fz 9;have hV:=fz 10;have hW:=fz 11;have hX:=fz 12;have hY:=fz 13;have hZ:=fz 14;have nK:=fz 15;have nO:=fz 16;have nS:=fz 17;have ob:=fz 18;have oc:=fz 19;have bi:=cellAt aD 0 rfl;have bk:=cellAt aD 1 rfl;have bl:=cellAt aD 2 rfl;have bm:=cellAt aD 3 rfl;have t0:=cellAt dk 0 rfl;have t1:=cellAt dk 1 rfl;have n1:z (G a)≠b:=by omega
   have n2:c≠b:=by omega
   have n3:b≠z (G a):=by omega
   have n4:b≠c:=by omega
   obtain⟨mg,ed,mE,gg⟩:=fY o ey dn cM;clear o dk aD ey dn fz en eo eq er cT cM;go_wp2_with fail
   rename_i rn mU fr;obtain⟨V,ef⟩:∃V,cA (cA (cA w6 (R b 7) aw) (R b 8)<|aq 0) (R b 9) (aG bp)=V:=⟨_,rfl⟩;have D:cg V b {s with memory:=aw,fT:=0,aT:=bp} k:=by rw[<-ef];exact(aL<|aL<|aL mg).trans rfl
   have aU:I (λk=>k=b) w6 V:=by rw[<-ef];exact((iX b w6).setCell _ _ _<|.inl rfl).setCell _ _ _<|.inl rfl
   have bi:aS V (R (z<|G a) 0)=H (J x0 (y dx) x):=aU.cell bi n1<|qR bi;have bk:aS V (R (z<|G a) 1)=H (J x1 (y dT) A):=aU.cell bk n1<|qR bk;have bl:aS V (R (z<|G a) 2)=H (J x2 (y aV) B):=aU.cell bl n1<|qR bl;have bm:aS V (R (z<|G a) 3)=H (J x3 (y ea) C):=aU.cell bm n1<|qR bm;have t0:aS V (R c 0)=H (aG<|(num:U)+1):=aU.cell t0 n2<|qR t0;have t1:aS V (R c 1)=H (aG num):=aU.cell t1 n2<|qR t1;have lg:aS V (R b 10)=H (J lr (y a0) lp):=by rw[<-af hC];exact D.cell rfl
   have ll:aS V (R b 11)=H (J lt (y b0) ls):=by rw[<-af hD];exact D.cell rfl
   have lm:aS V (R b 12)=H (J lx (y c0) lv):=by rw[<-af hE];exact D.cell rfl
   have ln:aS V (R b 13)=H (J mc (y d0) mb):=by rw[<-af hG];exact D.cell rfl
   have lo:=cg.cellAt D 14 rfl;have hV:V.frozen? (R b 10)=bj:=D.free;have hW:V.frozen? (R b 11)=bj:=D.free;have hX:V.frozen? (R b 12)=bj:=D.free;have hY:V.frozen? (R b 13)=bj:=D.free;have hZ:V.frozen? (R b 14)=bj:=D.free;have mm:=Y D;have gi:=Y aU;rw[ef];clear ef D aU;apply Fl mU
   .intro fu;go_region
    all_goals exact fu
   refine fr _ _ ?_;clear fr;obtain⟨W8,eg⟩:∃W8,(cA (cA (cA (cA (cA V (R b 10)<|J x0 (y dx) x) (R b 11)<|J x1 (y dT) A) (R b 12)<|J x2 (y aV) B) (R b 13)<|J x3 (y ea) C) (R b 14)<|aG<|(num:U)+1).drew=W8:=⟨_,rfl⟩;have E:cg W8 b {s with memory:=aw,fT:=0,aT:=bp,l0:=J x0 (y dx) x,l1:=J x1 (y dT) A,l2:=J x2 (y aV) B,l3:=J x3 (y ea) C,next:=num+1} k:=by
    rw[<-eg];exact(aL<|aL<|aL<|aL<|aL mm).trans rfl
   have hs:I (λk=>k=b) V W8:=by
    rw[<-eg];exact(((((iX b V).setCell _ _ _<|.inl rfl).setCell _ _ _<|.inl rfl).setCell _ _ _<|.inl rfl).setCell _ _ _<|.inl rfl).bX<|cR az _
   have t1:aS W8 (R c 1)=H (aG num):=hs.cell t1 n2<|qR t1;have pf:=cg.cellAt E 17 rfl;have pg:=cg.cellAt E 18 rfl;have pi:=cg.cellAt E 19 rfl;have pk:=cg.cellAt E 20 rfl;have pn:=cg.cellAt E 21 rfl;have nK:W8.frozen? (R b 17)=bj:=E.free;have nO:W8.frozen? (R b 18)=bj:=E.free;have nS:W8.frozen? (R b 19)=bj:=E.free;have ob:W8.frozen? (R b 20)=bj:=E.free;have oc:W8.frozen? (R b 21)=bj:=E.free;have mn:=Y E;have gj:=Y hs;rw[eg];clear eg E hs lg ll lm ln lo k7 k8 k9 f7 f8 f9 hV hW hX hY hZ bi bk bl bm t0;go_wp2_with fail
   obtain⟨W9,ei⟩:∃W9,cA (cA (cA (cA (cA W8 (R b 17)<|aG num) (R b 18)<|aK bj) (R b 19)<|aK bj) (R b 20)<|aK bj) (R b 21) (aK bj)=W9:=⟨_,rfl⟩;have hh:cg W9 b (s.settled (J x0 (y dx) x) (J x1 (y dT) A) (J x2 (y aV) B) (J x3 (y ea) C) bp num) k:=by
    rw[<-ei];exact(aL<|aL<|aL<|aL<|aL mn).trans rfl
   have eA:I (λk=>k=b) W8 W9:=by
    rw[<-ei];exact((((iX b W8).setCell _ _ _<|.inl rfl).setCell _ _ _<|.inl rfl).setCell _ _ _<|.inl rfl).setCell _ _ _<|.inl rfl
   have dm:I (λk=>k=b) w5 W9:=((mE.mono (T:=λk=>k=b) cC).trans (gi.trans (gj.trans eA<|λ_ q=>.inl q)<|λ_ q=>.inl q)<|λ_ q=>.inl q);rw[ei];have cE:=af gg;have em:=mp us;rw[cE]at em;have dc:¬hU.aP s.aM b:=λq=>by
    rcases au.aP b q with L|L
    .exact hS L
    .have:=ar bv;simp at L;omega
   have il:cH W9 s.aM hU:=au.ok.ap dm (λk d q=>by rw[q]at d;exact dc d);have kt:=Dx (J x6 (y ns) c6) ns hh il dc (dF<|((gi.trans (gj.trans eA<|λ_ q=>.inl q)<|λ_ q=>.inl q)).own ed (λk d q=>by have:=(ed.lt k d).1;have:=ar eb;omega)) (λdv a=>⟨ah (ed.lt dv a).2<|((gi.trans (gj.trans eA<|λ_ q=>.inl q)<|λ_ q=>.inl q)).size,λq=>by have h1:=(ed.lt dv a).1;have h2:=au.ok.lt dv q;omega⟩) em.1 (λds oi=>by
    obtain⟨kz,gn,fu⟩:=em.2 ds oi;obtain⟨pp,hj,_⟩:=HM.files;refine⟨gn,?_⟩;rw[af gk,se,eI (λq=>kz q.symm),hj,jt,fu];rfl) (by
    rw[af hH];have:y ns<=1+y (a0++b0++c0++d0):=by
     rw[<-cE];unfold po;rw[ag,df];have h1:y (nk (a0++b0++c0++d0) us)<=y (a0++b0++c0++d0):=fQ _ _;split<;>simp<;>simp at h1<;>omega
    grind)
   have hz:=Y hh;have bc:=Y dm;clear hh eA dm il em cE ei;apply kt.mono;rintro cp w'⟨rfl,K8,ka,lc,kk⟩;obtain⟨bx,mK,mv⟩:=dz ka lc kk;clear ka lc kk kt;go_wp2;go_ret;refine⟨rfl,w1,wr,KR,K8,us,K,O,W,d',num,fe,?_,co,HEq.1,HEq.2.1,HEq.2.2.1,HEq.2.2.2,?_,bx.ok,?_,?_,?_,?_,?_,?_⟩
   .rw[af hT];exact HM
   .exact(bx.ap.block b (ar hz) dc).trans hz
   .rw[af mK,af gk,af gg]
   .rw[<-af gk];exact au.ok.nodup
   .rw[af mv,af hH,af gg];simp
   .intro k' h1 h2 h3;have g1:w5.heap[k']?=wr.heap[k']?:=ms k' (by omega) h2;have g2:W9.heap[k']?=w5.heap[k']?:=bc.block k' (by have:=ax.size;omega) h3;refine(bx.ap.block k' (by have:=ax.size;have:=bc.size;omega)<|λq=>?_).trans<|g2.trans g1;rcases au.aP k' q with L|L
    .exact mA k' (by omega) h2 L
    .have:=ac.size;simp at L;omega
   .have pe:=ax.size;have pd:=ac.size;have fu:∀md,KR.aP s.aM md->(Wr s.aM i ps md\/md=b)\/z (G a)<=md:=λmd hy=>by
     rcases HM.aP md hy with L|L
     .exact .inl<|.inl<|.inl L
     grind
    refine(((fn.mono (T:=λk=>Wr s.aM i ps k\/k=b)<|λ_ q=>.inl<|.inl q).trans ax fu).trans bc<|λ_ q=>.inl<|.inr q).trans bx.ap<|λmd hy=>?_;rcases au.aP md hy with L|L
    .exact fu md L
    .simp at L;grind
   .intro k' bn;have pe:=ax.size;have pd:=ac.size;have fu:=bc.size;rcases bx.aP k' bn with L|L
    .rcases au.aP k' L with L|L
     .rcases HM.aP k' L with L|L
      .exact .inl L
      grind
     .simp at L;grind
    grind
def SA(h:j.map (λT=>(T.tb,T.ks,T.cs))=p.map (λT=>(T.tb,T.ks,T.cs)))(b:T∈j):∃u∈p,T.tb=u.tb/\T.ks=u.ks/\T.cs=u.cs:=by
 have a:(T.tb,T.ks,T.cs)∈p.map (λT=>(T.tb,T.ks,T.cs)):=by rw[<-h];grind
 grind
def AS(h:j.map (λt=>(t.tb,t.ks,t.cs))=p.map (λt=>(t.tb,t.ks,t.cs)))(a:jY p):jY j:=by
 refine⟨λt d=>?_,by rw[(jh h).2.2.2];exact a.mq,by rw[(jh h).2.2.1];exact a.Cx⟩;obtain⟨u,e,_,b,c⟩:=SA h d;rw[b,c];exact a.pure u e
def PD{e f g h:cN}(a:j.map (λt=>(t.tb,t.ks,t.cs))=e.map (λt=>(t.tb,t.ks,t.cs)))(b:p.map (λt=>(t.tb,t.ks,t.cs))=f.map (λt=>(t.tb,t.ks,t.cs)))(c:r.map (λt=>(t.tb,t.ks,t.cs))=g.map (λt=>(t.tb,t.ks,t.cs)))(d:s.map (λt=>(t.tb,t.ks,t.cs))=h.map (λt=>(t.tb,t.ks,t.cs))):bZ j p r s=bZ e f g h:=by
 unfold bZ;rw[(jh a).2.2.1,(jh b).2.2.2,(jh c).2.2.2,(jh d).2.2.2]
def YB(e f g h a b c d:cN):Prop:=a.map bw.all=e.map bw.all/\b.map bw.all=f.map bw.all/\c.map bw.all=g.map bw.all/\d.map bw.all=h.map bw.all
structure VY(w w':Z)(sb:M)(s:SR)(k:U)(n C:M)(K:DK)(v0 v1 v2 v3:ab)(a b c d:cN)(K':DK)(num:M)(a' b' c' d':cN):Prop where
 box:cg w' sb (s.settled v0 v1 v2 v3 n num) k
 st:ST w' sb (s.settled v0 v1 v2 v3 n num) K' [] a' b' c' d' C
 oh:RW (vw K'.files) (num+1) num n a' b' c' d' bj []
 rows:bZ a' b' c' d'=bZ a b c d
 Fc:((a'++b'++c'++d').map bw.tb).Nodup
 dN:y K'.dN<=1000001
 num:s.next<=num/\num<=s.next+1000000
 aP:∀k,K'.aP s.aM k->K.aP s.aM k\/z (G w)<=k
 al:YB a b c d a' b' c' d'
def NZ(d cl ce bh:M)(ps:cS NT)(v0 v1 v2 v3:ab)(bk bl bi bm l m n p:cN)(bg:dK)(cv:cg a b o k)(c:LS a o.aM b d i (l++m++n++p) ps cl v0 v1 v2 v3 bk bl bi bm)(br:Cz a b 10 [(o.l0,l),(o.l1,m),(o.l2,n),(o.l3,p)])(hd:cH a o.aM i)(bd:¬i.aP o.aM b)(F:RW (vw i.files) o.next o.log bh l m n p o.fa bg)(bE:y (ji ((bh:U)+1) bg)<=200000)(hn:ce<1000000000000000)(co:o.next<=900000000000000)(bu:y i.dN<=10000000000)(bc:y (l++m++n++p)<=1000000)(aV:∃cx ce bi,o.memory=J cx ce bi)(bq:∀ao,ao=o.l0\/ao=o.l1\/ao=o.l2\/ao=o.l3->∀k,cz ao=H k->IY o.aM b d i k):cD aZ 112 #[aA b,dE #[v0,v1,v2,v3],aG ce] a λX L=>X=aJ .nilIface/\∃K' num a' b' c' d',VY a L b o k ce cl i v0 v1 v2 v3 bk bl bi bm K' num a' b' c' d'/\I (λk=>Wr o.aM i ps k\/k=b) a L:=by
 have ch:=c.count;have W:∀t∈l++m++n++p,t.num<o.next:=λt e=>(F.low t e).1;have bf:=F.total hd.nodup bE bc;have aU:∀t∈l++m++n++p,∀v∈l++m++n++p,t.num=v.num->t=v:=by intro t e v S X;obtain⟨cw,B,rfl⟩:=gQ.1 e;obtain⟨cu,hj,rfl⟩:=gQ.1 S;have hn:=cJ.1 F.yT;grind
 have P:∀E,o.next<=E->dB (vw i.files) (gv E)=none:=by
  intro E A;cases q:dB (vw i.files) (gv E)with
  |none=>rfl
  |some bs=>
   rcases F.names _ _ q with X|⟨X,_⟩|⟨t,e,X⟩
   .grind[vg]
   .grind[lG]
   grind[ux]
 have bn:∀g,I az a g->CF g o.aM b d i (l++m++n++p) ps (bk++bl++bi++bm) o.next 201000000000:=λg e=>{le:=aB c.le e.size,aP:=c.aP,JF:=c.JF,xt:=λt f=>(by simp only[aE]at f;rcases f with((q|q)|q)|q<;>first|exact c.x0 t q|exact c.x1 t q|exact c.x2 t q|exact c.x3 t q),nodup:=c.nodup,apart:=c.apart,news:=λau C=>⟨(c.news au C).1.ap e<|λ_ _ q=>q,(c.news au C).2⟩,inj:=aU,low:=W,fresh:=P,eL:=c.eL,lk:=c.lk,small:=by grind,nx:=by omega,room:=by omega,qt:=bf,dN:=bu}
 have x:∀j,(po o (l++m++n++p) j).Nodup/\∀E∈po o (l++m++n++p) j,E≠fo/\∃bs,dB (vw i.files) E=H bs:=by
  intro j;have B:(nk (l++m++n++p) j).Sublist (l++m++n++p):=eS;have ax:((nk (l++m++n++p) j).map<|λt=>gv t.num).Nodup:=by
   have h:((nk (l++m++n++p) j).map bw.num).Nodup:=F.yT.sublist<|B.map _;unfold List.Nodup at h|-;rw[ke]at h|-;grind[ux]
  have O:∀E∈(nk (l++m++n++p) j).map (λt=>gv t.num),E≠fo/\∃bs,dB (vw i.files) E=H bs:=by
   intro E A;obtain⟨t,e,rfl⟩:=bJ.1 A;exact⟨vg _,_,F.xZ t<|B.subset e⟩
  unfold po;cases al:o.fa with
  |false=>
   rw[eI (by simp),de];grind
  |true=>
   rw[dW rfl];refine⟨?_,λE A=>?_⟩
   .rw[jw,kr];grind[lG]
   .rcases aE.1 A with q|q
    .rw[dA]at q;rw[q];exact⟨nU _,_,F.log al⟩
    .exact O E q
 refine(Ly d cl ce 201000000000 ps v0 v1 v2 v3 bk bl bi bm l m n p cv c bn br hd bd hn (by have:=F.lt;omega) bc (λE bs A X=>?_) aV bq x).mono ?_;rcases F.names _ _ A with q|⟨q,_⟩|⟨t,_,q⟩;exact He<|q.symm.trans X;(grind[Nk]);grind[Dc]
 rintro X L⟨rfl,w1,wr,KR,K8,j,a',b',c',d',num,bT,V,r,ea,eb,ec,ed,bo,bp,an,ba,bt,ad,Q,ac⟩;have cs:=bT.size;have cn:=c.le;have cj:=c.JF;have bv:∀ao,ql a o.aM b d i ao->∀k,cz ao=H k->¬(Wr o.aM i ps k\/k=b):=by rintro ao K k g(q|q);(rcases q with q|⟨au,C,q|q⟩;exact(K k g).2.1 q;have B:=(c.news au C).1;rcases(K k g).2.2.2 with av|⟨O,fr,av⟩;have:=(B.lt k<|.inl q).1;omega;exact lj av B.mem.box (by decide) q;have B:=(c.news au C).1;rcases(K k g).2.2.2 with av|⟨O,fr,av⟩;have:=(B.lt k<|.inr<|.inr q).1;omega;obtain⟨ax,hc⟩:=fS B.data (k:=au.x) rfl;grind);exact(K k g).2.2.1 q
 have w:∀k,k<z (G a)->¬i.aP o.aM k->k≠b->Aside L K8 o.aM b k:=λk h N B=>
  ⟨ah h Q.size,λq=>(ac k q).elim N (λav=>by omega),B⟩
 have f:∀k,IY o.aM b d i k->k<z (G a)/\¬i.aP o.aM k/\k≠b:=λk g=>⟨by have:=g.1;omega,g.2.1,g.2.2⟩;have cp:∀au∈ps,∀k,au.has k->k<z (G a)/\¬i.aP o.aM k/\k≠b:=λau C k g=>by have h:=(c.news au C).1.lt k g;exact⟨h.2,λq=>by have:=c.aP k q;omega,by omega⟩
 have u:∀v∈j,gv v.num∉po o (l++m++n++p) j:=by intro v S q;unfold po at q;rcases aE.1 q with av|av;(grind[mem_singleton,lG]);obtain⟨t,e,X⟩:=bJ.1 av;have e2:=ux X;unfold nk at e;rw[dC]at e;have:j.any (λv=>v.num==t.num)=cq:=nQ.2 ⟨v,S,by rw[e2];grind⟩;rw[this]at e;simp at e
 have aD:∀E,E∉po o (l++m++n++p) j->E≠fo->dB (vw K8.files) E=dB (vw KR.files) E:=λE h N=>by rw[an,sS h,se,eI<|λq=>N q.symm]
 have aa:∀v∈j,∃ck:M->Prop,qG wr o.aM (vw KR.files) ck v/\(∀k,ck k->k<z (G a)/\¬i.aP o.aM k/\k≠b)/\v.num<num:=λv S=>by rcases V.OZ v S with q|⟨au,C,_,q,_,B⟩;exact⟨_,V.Fa v q,f,by have:=W v q;have:=V.qj.1;omega⟩;grind
 have hO:∀v∈j,qG L o.aM (vw K8.files) (Aside L K8 o.aM b) v:=λv S=>by obtain⟨ck,ho,O,_⟩:=aa v S;have h:=ho.QH (w':=L)<|λk g=>ad k (O k g).1 (O k g).2.1 (O k g).2.2;obtain⟨bb,ax,B,A,ha⟩:=h.mem;refine⟨⟨bb,ax,B,A,w bb (O bb ha).1 (O bb ha).2.1 (O bb ha).2.2⟩,w _ (O _ h.loc).1 (O _ h.loc).2.1 (O _ h.loc).2.2,h.ks,h.num,h.pure,h.idx,h.small,?_⟩;rw[aD _ (u v S)<|vg _];exact h.file
 have bx:num<=o.next+1000000:=by have:=V.qj.2;grind
 have s:∀ao(f c:cN),ql a o.aM b d i ao->Row a 1 ao (y f) (f.map bw.ptr)->c.map (λt=>(t.tb,t.ks,t.cs))=f.map (λt=>(t.tb,t.ks,t.cs))->(∀t∈c,t∈j)->Zg L K8 o.aM b ao c:=λao f c K hr he B=>by obtain⟨O,e2,_,_⟩:=jh he;refine⟨?_,λk g=>w k (K k g).1 (K k g).2.1 (K k g).2.2.1,λt e=>hO t<|B t e⟩;rw[O,e2];exact Q.row hr<|λk g=>⟨bv ao K k g,(K k g).1⟩
 have aF:∀k,IY o.aM b d i k->L.heap[k]?=a.heap[k]?:=λk g=>Q.block k (by have:=g.1;omega) (by
  rintro(q|q)
  .rcases q with q|⟨au,C,q|q⟩
   .exact g.2.1 q
   .have:=((c.news au C).1.lt k<|.inl q).1;have:=g.1;omega
   .have:=((c.news au C).1.lt k<|.inr<|.inr q).1;have:=g.1;omega
  grind)
 have ca:∀t∈a',t∈j:=λt e=>by rw[r];simp[e]
 have cb:∀t∈b',t∈j:=λt e=>by rw[r];simp[e]
 have cc:∀t∈c',t∈j:=λt e=>by rw[r];simp[e]
 have cd:∀t∈d',t∈j:=λt e=>by rw[r];simp[e]
 have D:=V.same;rw[bN]at D;refine⟨rfl,K8,num,a',b',c',d',⟨bo,?_,?_,PD ea eb ec ed,?_,?_,⟨V.qj.1,bx⟩,ac,(jh ea).2.2.1,(jh eb).2.2.1,(jh ec).2.2.1,(jh ed).2.2.1⟩,Q⟩;exact{mem:=⟨rfl,.inl ⟨rfl,rfl⟩⟩,vq:=λk g=>(by cases g),l0:=s v0 bk a' c.b0 c.r0 ea ca,l1:=s v1 bl b' c.b1 c.r1 eb cb,l2:=s v2 bi c' c.b2 c.r2 ec cc,l3:=s v3 bm d' c.b3 c.r3 ed cd,aM:=bp,yP:=λq=>(ac b q).elim bd (λav=>by omega),lP:=⟨λcu hj=>(da (w:=a)<|aF _ c.eL).trans<|c.steps cu hj,c.pow.di<|aF _ c.lk,w _ (f _ c.eL).1 (f _ c.eL).2.1 (f _ c.eL).2.2,w _ (f _ c.lk).1 (f _ c.lk).2.1 (f _ c.lk).2.2⟩,qt:=(by rw[(jh ea).2.2.2,(jh eb).2.2.2,(jh ec).2.2.2,(jh ed).2.2.2];have:=c.qt;grind),oR:=c.oR,mq:=dL.nil,iK:=by simp,s1:=AS eb c.s1,s2:=AS ec c.s2,s3:=AS ed c.s3}
 .have B:∀t∈a'++b'++c'++d',t.num<num:=λt e=>by
   rw[<-r]at e;grind
  refine{names:=?_,state:=.inl ?_,log:=λq=>(by cases q),DL:=λ_=>rfl,xZ:=?_,yT:=by rw[<-r];exact V.yT,low:=λt e=>⟨by have:=B t e;omega,by have:=B t e;omega⟩,lt:=by omega,iK:=?_}
  .intro E bs A;rw[an]at A;obtain⟨h,N⟩:=Nz ba A;rw[se]at N;by_cases q:fo=E
   .grind
   rw[eI q]at N;obtain⟨gs,O,ax⟩:=V.files;rw[O,jt]at N;cases av:dB (vw i.files) E with
   |none=>
    rw[av,lS]at N;obtain⟨v,S,X,_⟩:=ax _<|xg N;grind
   |some cm=>
    rcases F.names _ _ av with X|⟨X,al⟩|⟨t,e,X⟩
    .grind
    .refine absurd ?_ h;unfold po;rw[al,dW rfl,X];simp
    .by_cases bb:j.any (λv=>v.num==t.num)=cq
     .grind
     .refine absurd ?_ h;unfold po;rw[X];refine aE.2<|.inr<|bJ.2 ⟨t,?_,rfl⟩;unfold nk;rw[dC];grind
  .rw[an,sS<|λq=>((x j).2 _ q).1 rfl,se,dW rfl];rfl
  .intro t e;rw[<-r]at e;exact(hO t e).file
  .intro t e;rw[<-r]at e;have:=hO t e;exact⟨this.ks,this.pure,this.idx,this.small,this.num⟩
 rw[<-r,Ti (T:=bk++bl++bi++bm) (i:=y<|bk++bl++bi++bm) (by rw[bN];exact D),bN];exact c.nodup;rw[bt];unfold po;rw[ag,df];have h:y (nk (l++m++n++p) j)<=y (l++m++n++p):=fQ _ _;grind
def sg(h:Aside a i b c g):IY b c (z<|G a) i g:=⟨h.lt,h.aP,h.ne⟩
def qG.Mj{B:eT}(h:qG a b F X T)(e:∀k,X k->B k):qG a b F B T:=by
 obtain⟨f,d,c,i,g⟩:=h.mem;exact⟨⟨f,d,c,i,e _ g⟩,e _ h.loc,h.ks,h.num,h.pure,h.idx,h.small,h.file⟩
def ST.XI{C C':M}(h:ST a b o i e j p r s C)(l:b<z (G a))(f:((j++p++r++s).map bw.tb).Nodup)(m:y (cf j)+y (cf p)+y (cf r)+y (cf s)<=C')(g:C'<=1000000):LS a o.aM b (z<|G a) i (j++p++r++s) [] C' o.l0 o.l1 o.l2 o.l3 j p r s where
 D:=h.Qh
 le:=ai _
 aP:=h.aM.lt
 JF:=l
 steps:=h.lP.steps
 pow:=h.lP.pow
 eL:=sg h.lP.eL
 lk:=sg h.lP.lk
 uD:=λt d=>by
  simp only[aE]at d;rcases d with((q|q)|q)|q
  .exact(h.l0.each t q).Mj<|λ_=>sg
  .exact(h.l1.each t q).Mj<|λ_=>sg
  .exact(h.l2.each t q).Mj<|λ_=>sg
  .exact(h.l3.each t q).Mj<|λ_=>sg
 news:=by simp
 apart:=List.Pairwise.nil
 r0:=h.l0.row
 r1:=h.l1.row
 r2:=h.l2.row
 r3:=h.l3.row
 b0:=λk c=>⟨(h.l0.loc k c).lt,(h.l0.loc k c).aP,(h.l0.loc k c).ne,.inl (h.l0.loc k c).lt⟩
 b1:=λk c=>⟨(h.l1.loc k c).lt,(h.l1.loc k c).aP,(h.l1.loc k c).ne,.inl (h.l1.loc k c).lt⟩
 b2:=λk c=>⟨(h.l2.loc k c).lt,(h.l2.loc k c).aP,(h.l2.loc k c).ne,.inl (h.l2.loc k c).lt⟩
 b3:=λk c=>⟨(h.l3.loc k c).lt,(h.l3.loc k c).aP,(h.l3.loc k c).ne,.inl (h.l3.loc k c).lt⟩
 x0:=λt d=>.inl<|by simp[d]
 x1:=λt d=>.inl<|by simp[d]
 x2:=λt d=>.inl<|by simp[d]
 x3:=λt d=>.inl<|by simp[d]
 nodup:=f
 s1:=h.s1
 s2:=h.s2
 s3:=h.s3
 qt:=m
 oR:=g
def LS.Xr{C l:ab}{v w:cN}{p:NT}(h:LS a b c g i j [] m d u P C r s v w)(B:I az a f)(A:p.Ok f (z<|G a))(o:LY p.t)(x:f.ownsRow (z<|G a) 189 1 l (y<|r++[p.t]) ((r++[p.t]).map bw.ptr))(F:y (cf r)+y (cf s)+y (cf v)+y (cf w)+y p.t.all<=m):LS f b c g i j [p] m l u P C (r++[p.t]) s v w:=by
 have h':=h.ap (B.mono cC)<|(pU b i).eQ h.D B cC;refine{h' with news:=?_,apart:=by simp,r0:=dF x,b0:=vk x h.aP h.JF h.le,x0:=?_,x1:=λt q=>(h.x1 t q).more [p],x2:=λt q=>(h.x2 t q).more [p],x3:=λt q=>(h.x3 t q).more [p],nodup:=?_,qt:=?_};intro q e;rw[dA]at e;subst e;exact⟨A.base h.le,o⟩;intro t q;rcases aE.1 q with q|q;exact(h.x0 t q).more [p];rw[dA]at q;exact .inr ⟨p,by simp,q.symm⟩;(have e:(r++[p.t]++s++v++w).Perm (p.t::(r++s++v++w)):=by simp_all);rw[(e.map bw.tb).nodup_iff,bV,kr];refine⟨λq=>?_,h.nodup⟩;obtain⟨t,k,K⟩:=bJ.1 q;have D:=A.new;(have E:t.tb<z (G a):=by simp only[aE]at k;rcases k with((n|n)|n)|n;exact XT.qh h<|h.x0 t n;exact XT.qh h<|h.x1 t n;exact XT.qh h<|h.x2 t n;exact XT.qh h<|h.x3 t n);omega;rw[fG];(have:cf [p.t]=p.t.all:=by simp[cf]);rw[this,ag];omega
def TT(i:Mb a f b e l c g m x)(h:e≠[])(j:∀q∈e,q.Good)(k:dL e)(n:y e<=100):NT.Ok f (z<|G a) ⟨⟨b,bK 0 l,l,0⟩,c,g,m,x⟩/\LY ⟨b,bK 0 l,l,0⟩/\bw.all ⟨b,bK 0 l,l,0⟩=e:=by
 have d:l.flatten=e:=i.pieces.flat;refine⟨⟨rfl,rfl,by show pR l.flatten l;rw[d];exact i.pieces,i.mem,i.data,i.Fo,i.new⟩,⟨i.pieces.nR h j k,i.pieces.idx h j k n,?_⟩,d⟩;have o:=i.pieces.data;have p:=i.pieces.length;grind
def LS.WN{w:cS NT}{x:ab}{E:cN}(h:LS a b c g i j w m d u P x p r s E):∃k,LS a b c g k j w m d u P x p r s E/\cH a b k/\k.files=i.files/\k.dN=i.dN/\∀n,k.aP b n->i.aP b n:=by
 obtain⟨B,k,t,v,A,o⟩:=h.D;have f:∀n,IY b c g i n->IY b c g k n:=λn l=>⟨l.1,λq=>l.2.1<|o n q,l.2.2⟩;have e:∀v,ql a b c g i v->ql a b c g k v:=λv f n l=>⟨(f n l).1,λq=>(f n l).2.1<|o n q,(f n l).2.2⟩;refine⟨k,{h with D:=Iz t t.lt,aP:=λn l=>h.aP n<|o n l,eL:=f _ h.eL,lk:=f _ h.lk,uD:=λF C=>?_,b0:=e _ h.b0,b1:=e _ h.b1,b2:=e _ h.b2,b3:=e _ h.b3},t,v,A,o⟩;rw[v];exact(h.uD F C).Mj f
def LS.other{F:cS NT}{K:ab}{W:cN}(h:LS a b c g L j F m d u P K p r s W)(o:I X a f)(B:∀k,X k->g<=k/\∃v w,a.heap[k]?=H (ay v 93 w)):LS f b c g L j F m d u P K p r s W:=by
 have hF:∀k,X k->¬(pU b L).F k:=λk e q=>by have:=h.aP k q;have:=(B k e).1;omega
 have t:∀k,IY b c g L k->¬X k:=λk e q=>by have:=e.1;have:=(B k q).1;omega
 have l:∀A,ql a b c g L A->∀k,cz A=H k->¬X k:=λA x k e q=>by obtain⟨S,v,w,q2⟩:=B k q;rcases(x k e).2.2.2 with Q|⟨C,N,Q⟩;omega;grind
 have n:∀A,ql a b c g L A->ql f b c g L A:=λA x k e=>by obtain⟨C,N,Q,S⟩:=x k e;exact⟨ah C o.size,N,Q,S.imp id<|λ⟨v,w,a⟩=>⟨v,w,(o.block k C<|l A x k e).trans a⟩⟩
 refine{h with D:=(pU b L).eQ h.D o hF,le:=aB h.le o.size,steps:=λac V=>o.cell (h.steps ac V) (t _ h.eL)<|ah h.eL.1 h.le,pow:=h.pow.di<|o.block _ (ah h.lk.1 h.le)<|t _ h.lk,uD:=λad O=>(h.uD ad O).QH<|λk e=>o.block k (ah e.1 h.le)<|t k e,news:=λaa E=>⟨?_,(h.news aa E).2⟩,r0:=o.row h.r0<|λk e=>⟨l _ h.b0 k e,(h.b0 k e).1⟩,r1:=o.row h.r1<|λk e=>⟨l _ h.b1 k e,(h.b1 k e).1⟩,r2:=o.row h.r2<|λk e=>⟨l _ h.b2 k e,(h.b2 k e).1⟩,r3:=o.row h.r3<|λk e=>⟨l _ h.b3 k e,(h.b3 k e).1⟩,b0:=n _ h.b0,b1:=n _ h.b1,b2:=n _ h.b2,b3:=n _ h.b3};exact RR.other (h.news aa E).1 o<|λk e=>by grind
structure SV(w:Z)(sb:M)(s:SR)(k:U)(lb:M)(K:DK)(T0:cN)(C n:M)(ms:dO)(R0:U->ae->Option ae)(wr:Z)(v0 v1 v2 v3:ab)(a b c d:cN)(ps:cS NT):Prop where
 ls:LS wr s.aM sb (z<|G w) K T0 ps C v0 v1 v2 v3 a b c d
 lb:wr.heap[lb]?=H (ay #[v0,v1,v2,v3] 93 (0,0))
 pr:PR n (bZ a b c d)
 uz:∀t,(t∈ms\/(n:U)<=t)->∀q,fy t (bZ a b c d) q=R0 t q
 box:cg wr sb s k
 ap:I (K.aP s.aM) w wr
def LR(w:Z)(a:M)(s:SR)(o:U)(d:M)(K:DK)(c:cN)(C p:M)(e:dO)(b:U->ae->Option ae)(wr:Z):Prop:=∃g h i j k l m n f,SV w a s o d K c C p e b wr g h i j k l m n f
def uG(w:Z)(a i:M):M:=match aS w (R a i)with
 |some (.slice _ n _)=>n
 |_=>0
def zY{x:Option Addr}{c:M}(h:aS a (R b g)=H (J x m c)):uG a b g=m:=by
 unfold uG;rw[h]
def SV.put{N wr d:Z}{C:U->ae->Option ae}{E F K L u0 u1 u2 u3:ab}{aa b ac ad r s t u:cN}{X l:cS NT}(v:SV N c o k g i j m x n C wr E F K L aa b ac ad X)(P:z (G N)<=g)(A:¬i.aP o.aM c)(O:LS d o.aM c (z<|G N) i j l m u0 u1 u2 u3 r s t u)(Q:PR x (bZ r s t u))(V:∀B,(B∈n\/(x:U)<=B)->∀q,fy B (bZ r s t u) q=fy B (bZ aa b ac ad) q)(e:I (i.aP o.aM) wr d):d.heap[g]?=H (ay #[E,F,K,L] 93 (0,0))/\SV N c o k g i j m x n C (cA (cA (cA (cA d (R g 0) u0) (R g 1) u1) (R g 2) u2) (R g 3) u3) u0 u1 u2 u3 r s t u l:=by
 have w:¬i.aP o.aM g:=λq=>by have:=v.ls.aP g q;omega
 have h:=(e.block g (ar v.lb) w).trans v.lb;have a:I (λq=>q=g) d (cA (cA (cA (cA d (R g 0) u0) (R g 1) u1) (R g 2) u2) (R g 3) u3):=(((iX g d).setCell _ _ _<|.inl rfl).setCell _ _ _<|.inl rfl).setCell _ _ _<|.inl rfl;have W:c<z (G N):=v.ls.JF;refine⟨h,O.other a (λq S=>by grind),Hy h,Q,λB e q=>(V B e q).trans<|v.uz B e q,?_,?_⟩;have D:=(e.block c (ar v.box) A).trans v.box;exact(a.block c (ar D)<|λq=>by omega).trans D;exact(v.ap.trans e<|λ_ q=>.inl q).trans a<|λq S=>.inr<|by omega
def Jg.aP{g:gw}(k:Jg a i c o g)(e:I (i.aP o.aM) a B):Jg B i c o g:=by
 obtain⟨b,h,j,d⟩:=k.ex;exact⟨⟨b,h,j.di<|e.block _ d.lt d.aP,ah d.lt e.size,d.aP,d.ne⟩,k.len⟩
def LS.WW{w wr:Z}{l:cS NT}{o e:ab}{v:cN}(t:LS wr b c g i j l m d u P o p r s v)(h:I az wr w)(a:w.ownsRow (z<|G wr) 89 1 e (y n) (n.map<|Value.int .u64)):LS w b c g i j l m d u P o p r s v/\Row w 1 e (y n) (n.map<|Value.int .u64)/\∀k,cz e=H k->k<z (G w)/\¬i.aP b k:=⟨t.ap (h.mono cC)<|(pU b i).eQ t.D h cC,dF a,λk f=>⟨(bM a k f).2,λq=>by have:=t.aP k q;have:=t.le;have:=(bM a k f).1;omega⟩⟩
structure IW(w w':Z)(sb:M)(s:SR)(k:U)(n C:M)(K:DK)(ms:dO)(R0:U->ae->Option ae)(v0 v1 v2 v3:ab)(K':DK)(num:M)(a' b' c' d':cN):Prop where
 box:cg w' sb (s.settled v0 v1 v2 v3 n num) k
 st:ST w' sb (s.settled v0 v1 v2 v3 n num) K' [] a' b' c' d' C
 oh:RW (vw K'.files) (num+1) num n a' b' c' d' bj []
 pr:PR n (bZ a' b' c' d')
 uz:∀t,(t∈ms\/(n:U)<=t)->∀q,fy t (bZ a' b' c' d') q=R0 t q
 Fc:((a'++b'++c'++d').map bw.tb).Nodup
 dN:y K'.dN<=1000001
 num:s.next<=num/\num<=s.next+1000000
 fF:gu w w' s.aM sb K K'
def UT(a:U)(b c d:cN):Prop:=(y b:U)<a/\(y c:U)<=a/\(y d:U)<=a
def Yj(a:U)(b i:M)(w:Z):Prop:=∀j,j<i->jV a j (uG w b j)=bj
def Yj.tid{K:M}{n o q F:Option Addr}{e f L t:cN}(A:Yj k b 4 a)(d:a.heap[b]?=H (ay #[J n (y j) g,J o (y p) m,J q (y r) O,J F c K] 93 (0,0)))(B:YB j p r L s e f t):UT k s e f:=by
 have h:=A 0 (by omega);have i:=A 1 (by omega);have l:=A 2 (by omega);rw[zY (x:=n) (c:=g)<|(bW d).trans rfl]at h;rw[zY (x:=o) (c:=m)<|(bW d).trans rfl]at i;rw[zY (x:=q) (c:=O)<|(bW d).trans rfl]at l;obtain⟨u,v,w,_⟩:=B;have C:=bR y u;have D:=bR y v;have E:=bR y w;simp only[df]at C D E;simp[jV]at h i l;unfold UT;omega
def PR.mono(h:PR c l)(d:c<=g):PR g l:=⟨h.ph,h.mq,h.iK,λx a=>by have:=h.low x a;omega⟩
def Dg(lb:M)(al ac:M)(ms:dO)(W:U->ae->Option ae)(wr:Z)(C D E F:ab)(an b ad ao:cN)(ps:cS NT)(u:SV a c o k lb i (j++p++r++s) al ac ms W wr C D E F an b ad ao ps)(h0:cg a c o k)(d:ST a c o i e j p r s g)(hI:RW (vw i.files) o.next o.log m j p r s o.fa l)(S:y (ji ((m:U)+1) l)<=200000)(hn:ac<1000000000000000)(Q:o.next<=900000000000000)(P:y i.dN<=10000000000):cD aZ 112 #[aA c,dE #[C,D,E,F],aG ac] wr λau w'=>au=aJ .nilIface/\∃K num v w x A,IW a w' c o k ac al i ms W C D E F K num v w x A/\YB an b ad ao v w x A:=by
 obtain⟨K1,L,N,e1,e2,X⟩:=u.ls.WN;have aa:=d.count;have V:y (j++p++r++s)<=1000000:=by have B:=d.qt;have h2:=d.oR;have:=la<|λaD t=>(d.l0.each aD t).pure;have:=la d.s1.pure;have:=la d.s2.pure;have:=la d.s3.pure;grind
 have O:Cz wr c 10 [(o.l0,j),(o.l1,p),(o.l2,r),(o.l3,s)]:=by refine(d.WZ h0).ap u.ap d.yP<|λB hi f h=>?_;(have:B=0\/B=1\/B=2\/B=3:=by grind);rcases this with rfl|rfl|rfl|rfl;exact(d.l0.loc f h).aP;exact(d.l1.loc f h).aP;exact(d.l2.loc f h).aP;exact(d.l3.loc f h).aP
 have ax:=u.ls.JF;refine(NZ (z<|G a) al ac m ps C D E F an b ad ao j p r s l u.box L O N (λq=>d.yP<|X c q) (by rw[e1];exact hI) S hn Q (by rw[e2];exact P) V ?_ ?_).mono ?_;obtain⟨B,ad,au⟩:=bO d.mem;grind
 have B:∀f,Aside a i o.aM c f->IY o.aM c (z<|G a) K1 f:=λf q=>⟨q.lt,λav=>q.aP<|X f av,q.ne⟩;rintro aF(rfl|rfl|rfl|rfl)f h;exact B _<|d.l0.loc f h;exact B _<|d.l1.loc f h;exact B _<|d.l2.loc f h;exact B _<|d.l3.loc f h;rintro au w'⟨rfl,K,num,v,w,x,A,n,t⟩;have hz:=u.ap.size;refine⟨rfl,K,num,v,w,x,A,⟨n.box,n.st,n.oh,by rw[n.rows];exact u.pr,λaD t q=>by rw[n.rows];exact u.uz aD t q,n.Fc,n.dN,n.num,n.st.aM,?_,?_⟩,n.al⟩;refine(u.ap.mono (T:=λf=>i.aP o.aM f\/f=c)<|λ_ q=>.inl<|.inl q).trans t<|λf q=>?_;rcases q with(q|⟨aF,B,q⟩)|q;(grind);refine .inr ?_;rcases q with q|q;exact((u.ls.news aF B).1.lt f<|.inl q).1;exact((u.ls.news aF B).1.lt f<|.inr<|.inr q).1;grind
 intro f q;rcases n.aP f q with av|av;(grind);grind
def LR.step{aU wr:Z}{N:gw}{R0:U->ae->Option ae}(hS:LR aU b o k c i j g m (sE N) R0 wr)(au:z (G aU)<=c)(av:¬i.aP o.aM b)(X:Jg aU i b o N)(aF:2<=o.nR)(aa:M)(hi:aa<4):∃(v w x A:Option Addr)(n0 n1 n2 n3 B C D E:M)(bc:Option Addr)(ad al:M)(bb:Bool),wr.heap[c]?=H (ay #[J v n0 B,J w n1 C,J x n2 D,J A n3 E] 93 (0,0))/\(#[J v n0 B,J w n1 C,J x n2 D,J A n3 E]:Array ab)[aa]?=H (J bc ad al)/\(cD aZ 61 #[aA b,aq (aa:M),J bc ad al] wr λS w2=>S=aJ (aK bb)/\w2=wr)/\(bb=cq->∀(t:Z)(Q:Option Addr)(O:M)(n:dO),I az wr t->t.ownsRow (z<|G wr) 89 1 (J Q (y n) O) (y n) (n.map<|Value.int .u64)->n.Perm (sE N)->cD aZ 111 #[dE #[J v n0 B,J w n1 C,J x n2 D,J A n3 E],aq (aa:M),J Q (y n) O] t λS w2=>∃(r0 r1 r2 r3:Option Addr)(m0 m1 m2 m3 t0 t1 t2 t3:M),S=aJ (dd #[dE #[J r0 m0 t0,J r1 m1 t1,J r2 m2 t2,J r3 m3 t3],.nilIface])/\w2.heap[c]?=H (ay #[J v n0 B,J w n1 C,J x n2 D,J A n3 E] 93 (0,0))/\LR aU b o k c i j g m (sE N) R0 (cA (cA (cA (cA w2 (R c 0)<|J r0 m0 t0) (R c 1)<|J r1 m1 t1) (R c 2)<|J r2 m2 t2) (R c 3)<|J r3 m3 t3)/\uG (cA (cA (cA (cA w2 (R c 0)<|J r0 m0 t0) (R c 1)<|J r1 m1 t1) (R c 2)<|J r2 m2 t2) (R c 3)<|J r3 m3 t3) c aa<uG wr c aa/\∀ac,ac<aa->uG (cA (cA (cA (cA w2 (R c 0)<|J r0 m0 t0) (R c 1)<|J r1 m1 t1) (R c 2)<|J r2 m2 t2) (R c 3)<|J r3 m3 t3) c ac=uG wr c ac)/\bb=jV o.nR aa (uG wr c aa)/\∀ao,I az wr ao->cD aZ 104 #[aA b] ao λS w2=>∃P,∃n:dO,S=aJ P/\n.Perm (sE N)/\w2.ownsRow (z<|G wr) 89 1 P (y n) (n.map<|Value.int .u64)/\I az wr w2:=by
 obtain⟨v0,v1,P,v3,aV,ax,aD,ba,ps,d⟩:=hS;obtain⟨v,B,rfl⟩:=bO d.ls.r0;obtain⟨w,C,rfl⟩:=bO d.ls.r1;obtain⟨x,D,rfl⟩:=bO d.ls.r2;obtain⟨A,E,rfl⟩:=bO d.ls.r3;have L:∀ao,I az wr ao->cD aZ 104 #[aA b] ao λS w2=>∃P,∃n:dO,S=aJ P/\n.Perm (sE N)/\w2.ownsRow (z<|G wr) 89 1 P (y n) (n.map<|Value.int .u64)/\I az wr w2:=λao hW=>by obtain⟨mb,m1,m2,m3⟩:=(X.aP d.ap).ex;apply(wM (b:=mb) N ((hW.block b (ar d.box) id).trans d.box) m1 (m2.di<|hW.block _ m3.lt id) X.len).mono;rintro S w2⟨P,n,rfl,l1,l2,l3⟩;exact⟨P,n,rfl,l1,fN l2 hW.size,hW.bX l3⟩
 have h4:∀n:dO,n.Perm (sE N)->y n<=4:=λn s=>by have:=s.length_eq;rw[qw]at this;have:=X.len;omega
 have fin:=λ(t w2:Z)(n:dO)(u0 u1 u2 u3:ab)(a c c' e:cN)(l:cS NT)(K:I az wr t)(s:n.Perm (sE N))(p:LS w2 o.aM b (z<|G aU) i j l g u0 u1 u2 u3 a c c' e)(f:PR m (bZ a c c' e))(h:∀an,(an∈n\/(m:U)<=an)->∀q,fy an (bZ a c c' e) q=fy an (bZ aV ax aD ba) q)(r:I (i.aP o.aM) t w2)=>d.put au av p f (λan u=>h an<|u.imp_left<|λq=>s.mem_iff.2 q)<|(K.mono (T:=i.aP o.aM) cC).trans r<|λ_ q=>.inl q;have a:∀{ao:Z}{u0 u1 u2 u3:ab}(ac:M)(r:Option Addr)(m an:M),ao.heap[c]?=H (ay #[u0,u1,u2,u3] 93 (0,0))->#[u0,u1,u2,u3][ac]?=H (J r m an)->uG ao c ac=m:=λac r m an b d=>zY (x:=r) (c:=an)<|(bW b).trans d;rcases(show aa=0\/aa=1\/aa=2\/aa=3 by omega)with rfl|rfl|rfl|rfl;refine⟨v,w,x,A,_,_,_,_,B,C,D,E,v,y aV,B,_,d.lb,rfl,mO 0 (y aV) v B d.box (by omega),λV t Q O n K ho s=>?_,by rw[a 0 _ _ _ d.lb rfl],L⟩;(have e:0<y aV:=by unfold jV at V;grind);have u:=d.ls.WW K ho;apply(u.1.Yc d.pr e n Q O u.2.1 u.2.2<|h4 n s).mono;rintro S w2⟨x',n',c',tm,l,rfl,p,f,h,r⟩;obtain⟨x1,F⟩:=fin t w2 n _ _ _ _ _ _ _ _ l K s p f h r;exact⟨_,_,_,_,_,_,_,_,_,_,_,_,rfl,x1,⟨_,_,_,_,_,_,_,_,l,F⟩,by rw[a 0 _ _ _ F.lb rfl,a 0 _ _ _ d.lb rfl];omega,λac hj=>by omega⟩;refine⟨v,w,x,A,_,_,_,_,B,C,D,E,w,y ax,C,_,d.lb,rfl,mO 1 (y ax) w C d.box (by omega),λV t Q O n K ho s=>?_,by rw[a 1 _ _ _ d.lb rfl],L⟩;(have e:0<y ax:=by unfold jV at V;grind);have u:=d.ls.WW K ho;apply(u.1.Yb d.pr e n Q O u.2.1 u.2.2<|h4 n s).mono;rintro S w2⟨xl,nl,cl,x',n',c',b2,c2,l,rfl,p,W,f,h,r⟩;obtain⟨x1,F⟩:=fin t w2 n _ _ _ _ _ _ _ _ l K s p f h r;obtain⟨_,_,S⟩:=bO p.r1;cases S;exact⟨_,_,_,_,_,_,_,_,_,_,_,_,rfl,x1,⟨_,_,_,_,_,_,_,_,l,F⟩,by rw[a 1 _ _ _ F.lb rfl,a 1 _ _ _ d.lb rfl];omega,λac hj=>by obtain rfl:ac=0:=(by omega);rw[a 0 _ _ _ F.lb rfl,a 0 _ _ _ d.lb rfl]⟩;refine⟨v,w,x,A,_,_,_,_,B,C,D,E,x,y aD,D,_,d.lb,rfl,mO 2 (y aD) x D d.box (by omega),λV t Q O n K ho s=>?_,by rw[a 2 _ _ _ d.lb rfl],L⟩;(have e:0<y aD:=by unfold jV at V;grind);have u:=d.ls.WW K ho;apply(u.1.Ya d.pr e n Q O u.2.1 u.2.2<|h4 n s).mono;rintro S w2⟨xl,nl,cl,x',n',c',c2,d2,l,rfl,p,W,f,h,r⟩;obtain⟨x1,F⟩:=fin t w2 n _ _ _ _ _ _ _ _ l K s p f h r;obtain⟨_,_,S⟩:=bO p.r2;cases S;exact⟨_,_,_,_,_,_,_,_,_,_,_,_,rfl,x1,⟨_,_,_,_,_,_,_,_,l,F⟩,by rw[a 2 _ _ _ F.lb rfl,a 2 _ _ _ d.lb rfl];omega,λac hj=>by rcases(show ac=0\/ac=1 by omega)with rfl|rfl;(rw[a 0 _ _ _ F.lb rfl,a 0 _ _ _ d.lb rfl]);(rw[a 1 _ _ _ F.lb rfl,a 1 _ _ _ d.lb rfl])⟩;refine⟨v,w,x,A,_,_,_,_,B,C,D,E,A,y ba,E,_,d.lb,rfl,mO 3 (y ba) A E d.box (by omega),λV=>?_,by rw[a 3 _ _ _ d.lb rfl],L⟩;simp[jV]at V
