import Derived.Test.YtmnlcbeggagabaaGreatDoorC23
import Derived.Test.YtmnlcbeggagabaaGreatDoorC24
open _root_ renaming List.length→y,Option.some→H,Array.size→z,Go.World.heap→G,Go.Value.ownBlock→cz,Go.World.cell?→aS,Go.World.setCell→cA,Go.World.alloc→cG,Bool.false→bj,Bool.true→ci,Nat→M,Int→U,List→cS,Go.Calls→cD,Go.Proofs.Tryz.prog→aZ,Go.Value.slice→J,Go.Value.string→am,Go.Value.bool→aK,Go.Value.pointer→dF,Go.Value.tuple→dd,Go.Value.agg→dD
namespace Go.Proofs.YtmnlcbeggagabaaGreatDoor
open ChangeShapes WideShapes RowKit Proofs.Tryz List
set_option maxHeartbeats 16000000
set_option linter.all false
set_option maxRecDepth 100000
variable{a f B:Z}{b c g m x O:M}{d u P:ab}{e:cI}{i L:DK}{j p r s:cN}{k:U}{l:dJ}{n:dN}{o:SR}{X:eT}{v:ae}{F:Fs}{K:Bool}{T:bw}
structure EH(t:bw):Prop where
 ks:t.ks=bI 0 t.cs
 pure:tg t.ks t.cs
 idx:Jb (bI 0 t.cs)
 small:y (dw t.cs)<=100000
 num:t.num<18446744073709551616
structure RV(fs:Fs)(nx lg tb:M)(a b c d:cN)(fa:Bool)(ls:dJ):Prop where
 names:∀n bs,dB fs n=H bs->n=fm\/(n=fD lg/\fa=ci)\/∃t∈a++b++c++d,n=gu t.num
 state:dB fs fm=H (iq nx lg tb [a,b,c,d])\/(dB fs fm=none/\a=[]/\b=[]/\c=[]/\d=[]/\nx=2/\lg=1/\tb=0)
 log:fa=ci->dB fs (fD lg)=H (jg ((tb:U)+1) ls)
 DJ:fa=bj->ls=[]
 xY:∀t∈a++b++c++d,dB fs (gu t.num)=H (kS t.cs)
 yS:((a++b++c++d).map bw.num).Nodup
 low:∀t∈a++b++c++d,t.num<nx/\t.num≠lg
 lt:lg<nx
 iH:∀t∈a++b++c++d,EH t
def rZ:∀{l m:cS ae},l.Nodup->(∀x∈l,x∈m)->y l<=y m
 |[],_,_,_=>bG _
 |x::l,m,b,c=>by
  rw[km]at b;obtain⟨m1,m2,rfl⟩:=so (c x<|by simp);have d:∀a∈l,a∈m1++m2:=λa e=>by
   have:=c a (by simp[e]);grind
  have f:=rZ b.2 d;grind
def ly(h:v∈F.map (·.1)):∃b,dB F v=H b:=by
 induction F with
 |nil=>simp at h
 |cons f r a=>
  unfold dB;by_cases e:f.1=v
  .simp_all
  grind
def Kq(h:dB F v=H n):v∈F.map (·.1):=bM.2 ⟨_,xe h,rfl⟩
theorem Iu(h:v∉F.map (·.1)):dB F v=none:=by
 cases c:dB F v with
 |none=>rfl
 |some b=>exact absurd (Kq c) h
def vA(a:(F.map (·.1)).Nodup){f:ae×dN}(h:f∈F):dB F f.1=H f.2:=by
 induction F with
 |nil=>cases h
 |cons g r b=>
  rw[cr,km]at a;unfold dB;grind
def NB(a:Fs)(n:ae):((uL a n).map (·.1)).Sublist (a.map (·.1)):=by
 induction a with
 |nil=>exact pD _
 |cons f r b=>
  unfold uL;grind
theorem Ri(a:(F.map (·.1)).Nodup)(n:ae):dB (uL F n) n=none:=by
 induction F with
 |nil=>rfl
 |cons f r b=>
  rw[cr,km]at a;unfold uL;by_cases e:f.1=n
  .rw[dV e];grind[Iu]
  .rw[eI e];unfold dB;rw[eI e];exact b a.2
def NA(c:(F.map (·.1)).Nodup){a:cS ae}(h:v∈a):dB (uK F a) v=none:=by
 induction a generalizing F with
 |nil=>cases h
 |cons m r d=>
  have b:((uL F m).map (·.1)).Nodup:=c.sublist<|NB F m;show dB (uK (uL F m) r) v=none;by_cases e:v∈r
  .exact d b e
  grind[sQ,Ri]
def Ny(b:(F.map (·.1)).Nodup){a:cS ae}(h:dB (uK F a) v=H n):v∉a/\dB F v=H n:=by
 by_cases c:v∈a;rw[NA b c]at h;cases h;grind[sQ]
def Gn(s:ae)(a S:M):∀{b:Fs},(b.map (·.1)).Nodup->(∀f∈b,f.1≠s->y f.2<=a)->(∀f∈b,f.1=s->y f.2<=S)->ii b<=y b*a+S
 |[],_,_,_=>by simp[ii]
 |f::r,i,c,d=>by
  rw[cr,km]at i;have j:ii (f::r)=y f.2+ii r:=by simp[ii]
  rw[j,aW,wb,Nat.one_mul];by_cases m:f.1=s
  .have k:ii r<=y r*a:=by
    have:∀{b:Fs},(∀f∈b,y f.2<=a)->ii b<=y b*a:=by
     intro b;induction b with
     |nil=>intro _;simp[ii]
     |cons g q l=>
      intro h;have j:ii (g::q)=y g.2+ii q:=by simp[ii]
      have e:=l (λf a=>h f<|by simp[a]);have n:=h g (by simp);rw[j,aW,wb,Nat.one_mul];omega
    grind
   have e:=d f (by simp) m;omega
  .have k:=Gn s a S i.2 (λg b=>c g<|by simp[b]) (λg b=>d g<|by simp[b]);have e:=c f (by simp) m;omega
def Pq(c b a:U)(d e f g:cN):y (iq c b a [d,e,f,g])=44+20*y (d++e++f++g):=by
 unfold iq;rw[fC];simp only[cr,gQ,bO,iA,dO,ag,nD,bU];omega
def RV.total(h:RV F b c g j p r s K l)(d:(F.map (·.1)).Nodup)(o:y (jg ((g:U)+1) l)<=200000)(w:y (j++p++r++s)<=1000000):ii F<=201000000000:=by
 have q:y F<=y (j++p++r++s)+2:=by
  have:=rZ (m:=fm::fD c::(j++p++r++s).map (λt=>gu t.num)) d (λx i=>by
   obtain⟨a,k⟩:=ly i;rcases h.names x a k with e|⟨e,_⟩|⟨t,f,e⟩
   .rw[e];simp
   .rw[e];simp
   grind)
  grind
 have u:=Gn fm 200000 21000000 d (λj i c=>by
  have a:=vA d i;rcases h.names _ _ a with e|⟨e,k⟩|⟨t,f,e⟩
  .grind
  .have:=h.log k;rw[<-e,a]at this;rw[gT this];exact o
  .have:=h.xY t f;rw[<-e,a]at this;rw[gT this];exact Lk (h.iH t f).idx (h.iH t f).small) (λj i n=>by
  have a:=vA d i;rw[n]at a;rcases h.state with e|⟨e,_⟩
  .rw[a]at e;rw[gT e,Pq];omega
  grind)
 have v:y F*200000<=1000002*200000:=jQ _ (by omega);omega
def cH.nodup(k:cH a b i):((vw i.files).map (·.1)).Nodup:=by
 obtain⟨e,c,_,h,j⟩:=k.now;have f:e.toList.map (·.key)=(i.files.map cX.nm).map (λp=>am p.1):=by have:=bQ (List.map Prod.fst) h;grind[map_map,Function.comp_def]
 have d:=j.2.2;rw[f]at d;have g:(vw i.files).map (·.1)=(i.files.map cX.nm).map (·.1):=by simp[vw,cX.nm,iP,ng]
 rw[g];rw[iP]at d|-;grind
theorem QN{c:dJ}(k:∀g∈c,∀x∈g,x.Good):jn (dw c):=by
 induction c with
 |nil=>intro x h;simp[dw]at h
 |cons g r j=>
  rw[oK];exact((Eh<|k g<|by simp).append<|jn.le 4 _).append<|j<|λh c=>k h<|by simp[c]
theorem Vr{w:Z}(h j l m:Option Addr)(g c1 c2 c3:M)(n o p q:cN)(A:Row w 1 (J h (y n) g) (y n) (n.map bw.ptr))(B:Row w 1 (J j (y o) c1) (y o) (o.map bw.ptr))(C:Row w 1 (J l (y p) c2) (y p) (p.map bw.ptr))(D:Row w 1 (J m (y q) c3) (y q) (q.map bw.ptr))(t:∀k,cz (J h (y n) g)=H k->k<z (G w))(u:∀k,cz (J j (y o) c1)=H k->k<z (G w))(v:∀k,cz (J l (y p) c2)=H k->k<z (G w))(x:∀k,cz (J m (y q) c3)=H k->k<z (G w))(E:y (n++o++p++q)<=10000000):Cy (cG w<|ay #[J h (y n) g,J j (y o) c1,J l (y p) c2,J m (y q) c3] 93) (z<|G w) 0 [(J h (y n) g,n),(J j (y o) c1,o),(J l (y p) c2,p),(J m (y q) c3,q)]:=by
 have c:I az w (cG w<|ay #[J h (y n) g,J j (y o) c1,J l (y p) c2,J m (y q) c3] 93):=(cK _ _);have r:(cG w<|ay #[J h (y n) g,J j (y o) c1,J l (y p) c2,J m (y q) c3] 93).heap[z<|G w]?=H (ay #[J h (y n) g,J j (y o) c1,J l (y p) c2,J m (y q) c3] 93 (0,0)):=aH _ rfl;refine⟨rfl,λi s=>?_,λi s=>?_,λi s=>?_,by rw[Pj];omega⟩;(have:i=0\/i=1\/i=2\/i=3:=by grind);rcases this with rfl|rfl|rfl|rfl<;>(rw[bV r];rfl);(have:i=0\/i=1\/i=2\/i=3:=by grind);rcases this with rfl|rfl|rfl|rfl;exact c.row A<|λk g=>⟨id,t k g⟩;exact c.row B<|λk g=>⟨id,u k g⟩;exact c.row C<|λk g=>⟨id,v k g⟩;exact c.row D<|λk g=>⟨id,x k g⟩;grind
section
variable{w wr w2:Z}{db sbqq baseqq:M}{K d f:DK}{e:cN}{ps:cS NT}{T us:cN}{a b i num:M}
theorem CM.free(r:CF w db sbqq baseqq K e ps T a b)(j:CM w db sbqq baseqq K e ps T a b wr d us i num):dB (vw d.files) (gu num)=none:=by
 obtain⟨k,g,h⟩:=j.files;rw[g,jr,r.fresh num j.qh.1,lO];cases c:dB k (gu num)with
 |none=>rfl
 |some v=>
  obtain⟨u,l,o,m⟩:=h _<|xe c;simp only[iZ]at o;have s:=uw o.1;rcases j.OY u l with n|⟨q,t,_,_,_,n⟩
  .have:=r.low u n;omega
  .omega
theorem CM.write(n:CF w db sbqq baseqq K e ps T a b)(g:CM w db sbqq baseqq K e ps T a b wr d us i num)(N:i<y T){p:NT}(q:p∈ps)(l:p.t=T[i]):cD aZ 174 #[aA<|T[i].tb,aA db,aE num] wr λV O=>V=aJ .nilIface/\∃s A,CM w db sbqq baseqq K e ps T a b O s A (i+1) (num+1):=by
 have c:=g.rest p q (by rw[l,<-kC N];grind);have k:=(n.news p q).2;have o:num<18446744073709551616:=by have:=g.qh.2;have:=n.nx;have:=n.small;omega
 have m:ii (vw d.files)+200000<=1099511627776:=by have C:=g.qp;have D:=n.room;have E:=n.small;have F:i*200000<=1000000*200000:=jQ _ (by omega);omega
 have x:=(n.news p q).1.lt;have j:∀r,p.has r->¬d.aO db r:=λr B W=>by rcases g.aO r W with S|S;have:=n.aO r S;have:=(x r B).1;omega;grind
 have u:p.bb≠p.t.tb:=by obtain⟨t,L⟩:=fR c.Fm (k:=p.bb) rfl;exact ld L c.mem.box<|by decide
 have v:p.bb≠p.x:=by obtain⟨t,L⟩:=fR c.Fm (k:=p.bb) rfl;obtain⟨B,S⟩:=fR c.data (k:=p.x) rfl;grind
 have h:=c.mem;rw[c.ks]at h;rw[<-l];refine(GW num o p.x p.Fj p.t.cs h c.data (by have:=n.le;have:=g.ap.size;omega) k.idx (QN k.pure.iH) g.steps g.pow k.small g.aM (g.free n) (by have:=g.dM;have:=n.dM;have:=n.small;omega) m (j _<|.inr<|.inr rfl) (j _<|.inl rfl) (j _<|.inr<|.inl rfl) u v).mono ?_;rintro V O⟨rfl,s,C,D,E,F,P,Q⟩;exact⟨rfl,s,_,g.wrote n N q l C D E F P Q o⟩
end
def SR.settled(s:SR)(a b c d:ab)(n num:M):SR:={s with memory:=aw,fS:=0,aT:=n,l0:=a,l1:=b,l2:=c,l3:=d,next:=num+1,log:=num,fa:=bj,vT:=bj,iQ:=bj,iW:=bj}
def WG{h:cN}(i:j.map (λt=>(t.tb,t.ks,t.cs))=(p++r++s++h).map (λt=>(t.tb,t.ks,t.cs))):∃a b c d,j=a++b++c++d/\a.map (λt=>(t.tb,t.ks,t.cs))=p.map (λt=>(t.tb,t.ks,t.cs))/\b.map (λt=>(t.tb,t.ks,t.cs))=r.map (λt=>(t.tb,t.ks,t.cs))/\c.map (λt=>(t.tb,t.ks,t.cs))=s.map (λt=>(t.tb,t.ks,t.cs))/\d.map (λt=>(t.tb,t.ks,t.cs))=h.map (λt=>(t.tb,t.ks,t.cs)):=by
 rw[aR,aR,aR]at i;obtain⟨x,d,rfl,e,k⟩:=iz.1 i;obtain⟨g,c,rfl,f,l⟩:=iz.1 e;obtain⟨a,b,rfl,m,n⟩:=iz.1 f;grind
def jf(h:j.map (λt=>(t.tb,t.ks,t.cs))=p.map (λt=>(t.tb,t.ks,t.cs))):j.map bw.ptr=p.map bw.ptr/\y j=y p/\j.map bw.all=p.map bw.all/\bZ j=bZ p:=by
 have a:=bQ (List.map (λe:M×ml×dJ=>dF<|H<|R e.1 0)) h;have d:=bQ y h;have b:=bQ (List.map (λe:M×ml×dJ=>e.2.2.flatten)) h;simp only[iP,ng]at a b;have c:j.map bw.all=p.map bw.all:=b;refine⟨a,by simpa using d,c,?_⟩;unfold bZ;rw[c]
def VZ(w i:Z)(a:M)(s:SR)(k:U)(b v o:M)(K:DK)(m:cS NT)(x A B C:ab)(p q r u l:cN):Prop:=∃(n wr:Z)(j c:DK)(h d e f g:cN)(num:M),I az w n/\CM n s.aM a b K l m (p++q++r++u) s.next o wr j h (y<|p++q++r++u) num/\h=d++e++f++g/\d.map (λt=>(t.tb,t.ks,t.cs))=p.map (λt=>(t.tb,t.ks,t.cs))/\e.map (λt=>(t.tb,t.ks,t.cs))=q.map (λt=>(t.tb,t.ks,t.cs))/\f.map (λt=>(t.tb,t.ks,t.cs))=r.map (λt=>(t.tb,t.ks,t.cs))/\g.map (λt=>(t.tb,t.ks,t.cs))=u.map (λt=>(t.tb,t.ks,t.cs))/\cf i a (s.settled x A B C v num) k/\cH i s.aM c/\vw c.files=uK (sN (vw j.files) (fm,iq ((num:U)+1) num v [d,e,f,g])) (ph s l h)/\((sN (vw j.files) (fm,iq ((num:U)+1) num v [d,e,f,g])).map (·.1)).Nodup/\y c.dM=y (ph s l h)/\(∀k,k<z (G w)->¬K.aO s.aM k->k≠a->i.heap[k]?=wr.heap[k]?)/\I (λk=>Wr s.aM K m k\/k=a) w i/\(∀k,c.aO s.aM k->K.aO s.aM k\/z (G w)<=k)
def Lx{s:SR}(e rM bp B0:M)(ps:cS NT)(v0 v1 v2 v3:ab)(dx dT aV ea a0 b0 c0 d0:cN)(h:cf a b s k)(hL:LS a s.aM b e i (a0++b0++c0++d0) ps rM v0 v1 v2 v3 dx dT aV ea)(hF:∀bg,I az a bg->CF bg s.aM b e i (a0++b0++c0++d0) ps (dx++dT++aV++ea) s.next B0)(kd:Cy a b 10 [(s.l0,a0),(s.l1,b0),(s.l2,c0),(s.l3,d0)])(pv:cH a s.aM i)(hp:¬i.aO s.aM b)(sb:bp<1000000000000000)(on:s.log<18446744073709551616)(rs:y (a0++b0++c0++d0)<=1000000)(cE:∀bp gn,dB (vw i.files) bp=H gn->bp≠uz)(bd:∃md bp aV,s.memory=J md bp aV)(kc:∀bh,bh=s.l0\/bh=s.l1\/bh=s.l2\/bh=s.l3->∀k,cz bh=H k->IX s.aM b e i k)(cv:∀us,(ph s (a0++b0++c0++d0) us).Nodup/\∀bp∈ph s (a0++b0++c0++d0) us,bp≠fm/\∃gn,dB (vw i.files) bp=H gn):cD aZ 112 #[aA b,dD #[v0,v1,v2,v3],aE bp] a λcp w'=>cp=aJ .nilIface/\VZ a w' b s k e bp B0 i ps v0 v1 v2 v3 dx dT aV ea (a0++b0++c0++d0):=by
 obtain⟨x0,x,rfl⟩:=bN hL.r0;obtain⟨x1,A,rfl⟩:=bN hL.r1;obtain⟨x2,B,rfl⟩:=bN hL.r2;obtain⟨x3,C,rfl⟩:=bN hL.r3;have pr:=hL.count;have hi:y (dx++dT++aV++ea)<=1000000:=by grind
 have hk:=Vr x0 x1 x2 x3 x A B C dx dT aV ea hL.r0 hL.r1 hL.r2 hL.r3 (λk d=>(hL.b0 k d).1) (λk d=>(hL.b1 k d).1) (λk d=>(hL.b2 k d).1) (λk d=>(hL.b3 k d).1) (by omega);obtain⟨WB,ej⟩:∃WB,cG a (ay #[J x0 (y dx) x,J x1 (y dT) A,J x2 (y aV) B,J x3 (y ea) C] 93)=WB:=⟨_,rfl⟩;rw[ej]at hk;obtain⟨bs,me⟩:∃bs,dx++dT++aV++ea=bs:=⟨_,rfl⟩;have cs:=rQ _ hk;rw[Ox,Pj,me]at cs;have hw:I az a WB:=by rw[<-ej];exact(cK _ _)
 have ia:WB.heap[z<|G a]?=H (ay #[J x0 (y dx) x,J x1 (y dT) A,J x2 (y aV) B,J x3 (y ea) C] 93 (0,0)):=by rw[<-ej];exact aH _ rfl
 have jK:=(hw.block b (ar h) id).trans h;have ro:=cf.cellAt jK 14 rfl;rw[me]at hF hi;obtain⟨HH,g,HF,mI,hA,hT,bE,ec,mp⟩:=wY h hL hF hw ia me kd kc cv;obtain⟨ry,rx,rv,bd⟩:=bd;have mx:=Y bd;clear h hL hF hk hw ia jK me kd kc cv bd;go_in
 go_wp2_with fail
 apply cs.mono;rintro cp w1⟨rz,rfl,hn,hr⟩;obtain⟨xT,rT,pb⟩:=aC hn;subst pb;have w:I az a w1:=mI.bW hr;have hd:=HF w1 w;have ih:=pv.ap w<|λ_ _=>id;have ib:=CM.start hd (λba h0=>(g.uC ba h0).QG<|λk d=>w.block k (by have:=d.1;have:=g.le;omega) id) ih (λk d=>w.cell (g.steps k d) id (by have:=g.eL.1;have:=g.le;omega))<|g.pow.ap w id;obtain⟨hN,fe,ao,mo,bu,bt,mN⟩:=yt hn w hd ib ((w.block b (ar HH) id).trans HH) ((hr.block (z<|G a) (ar hA) id).trans hA) (show z (G a)+1=z (G WB)by rw[<-ej];simp);clear hn hr w hd ib cs ih pv;go_wp2_with fail
 go_loopw [7,22] (λds gf wr=>∃(dv num:M)(KR:DK)(us:cN),gf=aq dv/\ds=aE num/\CM w1 s.aM b e i (a0++b0++c0++d0) ps bs s.next B0 wr KR us dv num) (λ_ gf _=>y bs-(intOf gf).toNat)
 case atStart=>exact⟨0,s.next,i,[],rfl,rfl,mo⟩
 case round=>
  obtain⟨dv,num,KR,us,rfl,rfl,m⟩:=hrel;have rr:=g.le;have qs:=g.JE;have bo:∀k,z (G a)<=k->¬Wr s.aM i ps k:=by
   rintro k d(aV|⟨br,X,aV|aV⟩)
   .have:=g.aO k aV;omega
   .have:=((g.news br X).1.lt k<|.inl aV).2;omega
   .have:=((g.news br X).1.lt k<|.inr<|.inr aV).2;omega
  have kv:¬Wr s.aM i ps b:=by
   rintro(aV|⟨br,X,aV|aV⟩)
   .exact hp aV
   .have:=((g.news br X).1.lt b<|.inl aV).1;omega
   .have:=((g.news br X).1.lt b<|.inr<|.inr aV).1;omega
  have rt:=af mN;have aF:=(m.ap.block b (ar bu) kv).trans bu;by_cases cx:dv<y bs
  .have c:=m.ap.own hN<|λk d=>bo k (by have:=(hN.lt k d).1;omega);obtain⟨t,E,u⟩:∃t,xT=H (R t 0)/\aS wr (R t dv)=H bs[dv].ptr:=by
    rcases c.2 with⟨h2,h0⟩|⟨L,j,na,h2,_⟩
    .omega
    .cases h2;refine⟨L,rfl,?_⟩;have:=oW c dv bs[dv].ptr (by rw[fc,aN cx];rfl);rwa[dt,dr]at this
   subst E;unfold bw.ptr at u;have e1:(dv:U)<(y bs:U):=by omega
   rcases ao.xt bs[dv] (ak cx)with h0|⟨br,X,f⟩
   .obtain⟨hx,ad,n,hm,_⟩:=(m.EZ bs[dv] h0).mem;have j:=BD _ hm;have HM:=Y<|m.skip ao cx h0;clear m c aF hm h0 bo;generalize bs[dv].tb=p at*;go_wp2_with fail
    apply j.mono;rintro cp N⟨rfl,D⟩;subst N;clear j;go_wp2;go_roundw;case rel=>exact⟨dv+1,num,KR,_,by go_num,rfl,HM⟩
    case measure=>simp[intOf];omega
   .have v:=m.rest br X (by rw[f,<-kC cx];grind);have j:=CN v.mem;rw[f]at j;have o:=m.write ao cx X f;have kl:num+1<9223372036854775807:=by have:=m.qh.2;have:=ao.nx;have:=ao.small;omega
    have c2:=cf.cellAt aF 2 rfl;clear m c aF v bo f X;generalize bs[dv].tb=p at*;go_wp2_with fail
    apply j.mono;rintro cp N⟨rfl,D⟩;subst N;clear j;go_wp2_with fail
    apply o.mono;rintro cp N⟨rfl,K,F,l⟩;have r:=Y l;clear l o;go_wp2;go_roundw;case rel=>exact⟨dv+1,num+1,K,F,by go_num,by go_num,r⟩
    case measure=>simp[intOf];omega
  .have oj:dv=y bs:=by have:=m.le;omega
   rw[oj]at m;have jC:us.map (λba=>(ba.tb,ba.ks,ba.cs))=(dx++dT++aV++ea).map (λba=>(ba.tb,ba.ks,ba.cs)):=by rw[m.same,bL,af hT]
   obtain⟨K,O,W,d',F,nb,ne,nm,nv⟩:=WG jC;obtain⟨gr,gs,nc,nd⟩:=jf nb;obtain⟨gt,gx,nf,nl⟩:=jf ne;obtain⟨gE,ha,no,nq⟩:=jf nm;obtain⟨hb,hc,nx,nA⟩:=jf nv;have hl:∀bh,qi a s.aM b e i bh->∀k,cz bh=H k->¬Wr s.aM i ps k:=by
    rintro bh hv k d(q|⟨br,X,q|q⟩)
    .exact(hv k d).2.1 q
    .have v:=(g.news br X).1;rcases(hv k d).2.2.2 with L|⟨fu,kz,L⟩
     .have:=(v.lt k<|.inl q).1;omega
     .exact ld L v.mem.box (by decide) q
    .have v:=(g.news br X).1;rcases(hv k d).2.2.2 with L|⟨fu,kz,L⟩
     .have:=(v.lt k<|.inr<|.inr q).1;omega
     .obtain⟨na,oi⟩:=fR v.data (k:=br.x) rfl;grind
   have bf:I (Wr s.aM i ps) a wr:=(fe.mono (T:=Wr s.aM i ps) cC).trans m.ap<|λ_ q=>.inl q;have t:∀bh(ts c:cN),qi a s.aM b e i bh->Row a 1 bh (y ts) (ts.map bw.ptr)->c.map bw.ptr=ts.map bw.ptr->y c=y ts->Row wr 1 bh (y c) (c.map bw.ptr):=λbh ts c hv ks e1 e2=>by
    rw[e1,e2];exact bf.row ks<|λk d=>⟨hl bh hv k d,(hv k d).1⟩
   have jA:∀bq∈us,IT wr s.aM bq:=λbq hu=>by
    have fu:∀{w:eT},qF wr s.aM (vw KR.files) w bq->IT wr s.aM bq:=λho=>by
     obtain⟨hx,ad,n,hm,_⟩:=ho.mem;refine⟨hx,ad,n,?_⟩;rw[<-ho.ks]at hm;exact hm
    rcases m.OY bq hu with q|⟨br,_,_,q,_⟩
    .exact fu<|m.EZ bq q
    .exact fu q
   have ek:∀bg,I az wr bg->∀bq∈us,IT bg s.aM bq:=λbg ht bq hu=>by
    obtain⟨hx,ad,n,hm⟩:=jA bq hu;exact⟨hx,ad,n,hm.di (ht.block _ (ar hm.box) id)<|ht.block _ hm.lt.2 id⟩
   have cB:∀bh(ts:cN),(∀ba∈ts,ba∈us)->y ts<=1000000->(∀k,cz bh=H k->k<z (G wr))->Row wr 1 bh (y ts) (ts.map bw.ptr)->∀bg,I az wr bg->cD aZ 175 #[bh] bg λcp w'=>∃a,cp=aJ a/\w'.ownsRow (z<|G bg) 188 4 a (y ts) (dq ts)/\Below (z<|G bg) bg w':=λbh ts fu b d ks bg ht=>by
    refine Nn bg s.aM bh ts ⟨ht.row ks<|λk cp=>⟨id,d k cp⟩,λk cp=>ah (d k cp) ht.size,λba h=>(ek bg ht ba<|fu ba h).Sg,by omega⟩ (λba h=>ek bg ht ba<|fu ba h)<|by omega
   have sc:=bf.size;have fw:=cB _ K (λba h=>by rw[F];simp[h]) (by omega) (λk d=>by have:=(g.b0 k d).1;omega)<|t _ dx K g.b0 g.r0 gr gs;have fx:=cB _ O (λba h=>by rw[F];simp[h]) (by omega) (λk d=>by have:=(g.b1 k d).1;omega)<|t _ dT O g.b1 g.r1 gt gx;have fL:=cB _ W (λba h=>by rw[F];simp[h]) (by omega) (λk d=>by have:=(g.b2 k d).1;omega)<|t _ aV W g.b2 g.r2 gE ha;have gb:=cB _ d' (λba h=>by rw[F];simp[h]) (by omega) (λk d=>by have:=(g.b3 k d).1;omega)<|t _ ea d' g.b3 g.r3 hb hc;obtain⟨hO,hP,hQ,hR⟩:=fX (t _ dx K g.b0 g.r0 gr gs) (t _ dT O g.b1 g.r1 gt gx) (t _ aV W g.b2 g.r2 gE ha)<|t _ ea d' g.b3 g.r3 hb hc;have T:=(m.ap.block (z<|G a) (ar bt)<|bo _<|ai _).trans bt;have bi:=cellAt T 0 rfl;have bk:=cellAt T 1 rfl;have bl:=cellAt T 2 rfl;have bm:=cellAt T 3 rfl;have qq:=ar T;have kl:num+1<9223372036854775807:=by have:=m.qh.2;have:=ao.nx;have:=ao.small;omega
   have pc:IntKind.u64.wrap ((num:U)+1)=(num:U)+1:=by rw[fi];omega
   have e1:¬(dv:U)<(y bs:U):=by omega
   obtain⟨HM,hI,hJ,hK,hM,fb,fn⟩:=yt m fw fx fL gb aF bf;obtain⟨co,hB,HEq,rc,ra,rb⟩:=kY F T (And.intro nb (And.intro ne (And.intro nm nv))) bo ek hl;clear m cB fw fx fL gb aF bf F T nb ne nm nv gr gs nc nd gt gx nf nl gE ha no nq hb hc nx nA t jA ek hl bo jC kv;go_wp2_with fail
   obtain⟨c,kx⟩:∃c,z (G wr)=c:=⟨_,rfl⟩;obtain⟨W0,jD⟩:∃W0,cG wr (ay #[aE<|(num:U)+1,aE num,aE bp,aw,aw,aw,aw] 126)=W0:=⟨_,rfl⟩;have gc:W0.heap[c]?=H (ay #[aE<|(num:U)+1,aE num,aE bp,aw,aw,aw,aw] 126 (0,0)):=by rw[<-jD];exact aH _ kx.symm
   have ge:I az wr W0:=by rw[<-jD];exact(cK _ _)
   have aa:=Y gc;have ff:=Y ge;clear gc ge;have pw:∀bg,(Instr.index 93 (dD #[J x0 (y dx) x,J x1 (y dT) A,J x2 (y aV) B,J x3 (y ea) C])<|aq 0).run aZ bg=.ok (J x0 (y dx) x) bg:=λ_=>by kernel_rfl
   have px:∀bg,(Instr.index 93 (dD #[J x0 (y dx) x,J x1 (y dT) A,J x2 (y aV) B,J x3 (y ea) C])<|aq 1).run aZ bg=.ok (J x1 (y dT) A) bg:=λ_=>by kernel_rfl
   have qb:∀bg,(Instr.index 93 (dD #[J x0 (y dx) x,J x1 (y dT) A,J x2 (y aV) B,J x3 (y ea) C])<|aq 2).run aZ bg=.ok (J x2 (y aV) B) bg:=λ_=>by kernel_rfl
   have qk:∀bg,(Instr.index 93 (dD #[J x0 (y dx) x,J x1 (y dT) A,J x2 (y aV) B,J x3 (y ea) C])<|aq 3).run aZ bg=.ok (J x3 (y ea) C) bg:=λ_=>by kernel_rfl
   refine gF 5 ?_;rw[fT];go_wp2_with fail
   apply(hI W0 ff).mono;rintro cp N⟨m0,rfl,es,Q⟩;obtain⟨y0,z0,os⟩:=aC es;subst os;have r:I az W0 N:=I.aQ Q;have l:=(r.block c (ar aa) id).trans aa;have g0:=cellAt l 3 rfl;have f0:=cZ (i:=3) l;have p:(cA N (R c 3)<|J y0 (y K) z0).heap[c]?=H (ay #[aE<|(num:U)+1,aE num,aE bp,(J y0 (y K) z0),aw,aw,aw] 126 (0,0)):=(aL l).trans rfl;have j:I (λk=>k=c) W0 (cA N (R c 3)<|J y0 (y K) z0):=(r.mono (T:=λk=>k=c) cC).setCell _ _ _<|.inl rfl;obtain⟨W1,jE⟩:∃W1,cA N (R c 3) (J y0 (y K) z0)=W1:=⟨_,rfl⟩;rw[jE]at p j;obtain⟨av,fg,bT⟩:=dz p (ff.trans j<|λk d=>.inr<|by omega) (show W1.ownsRow (z<|G W0) 188 4 (J y0 (y K) z0) (y K) (dq K)by rw[<-jE];exact es.kept (du _ _ _ _)<|.inr (λq=>by have:=(es.lt _ q).1;have:=ar aa;omega));clear p j r l Q es;go_wp2_with fail
   rw[fT];go_wp2_with fail
   apply(hJ W1 fg).mono;rintro cp N⟨m1,rfl,et,Q⟩;obtain⟨y1,z1,ov⟩:=aC et;subst ov;have r:I az W1 N:=I.aQ Q;have l:=(r.block c (ar av) id).trans av;have g1:=cellAt l 4 rfl;have f1:=cZ (i:=4) l;have p:(cA N (R c 4)<|J y1 (y O) z1).heap[c]?=H (ay #[aE<|(num:U)+1,aE num,aE bp,(J y0 (y K) z0),(J y1 (y O) z1),aw,aw] 126 (0,0)):=(aL l).trans rfl;have j:I (λk=>k=c) W1 (cA N (R c 4)<|J y1 (y O) z1):=(r.mono (T:=λk=>k=c) cC).setCell _ _ _<|.inl rfl;obtain⟨W2,jG⟩:∃W2,cA N (R c 4) (J y1 (y O) z1)=W2:=⟨_,rfl⟩;rw[jG]at p j;obtain⟨bb,fk,cd,ca⟩:=fX p (fg.trans j<|λk d=>.inr<|by omega) (show W2.ownsRow (z<|G W1) 188 4 (J y1 (y O) z1) (y O) (dq O)by rw[<-jG];exact et.kept (du _ _ _ _)<|.inr (λq=>by have:=(et.lt _ q).1;have:=ar av;omega))<|j.own bT (λk d q=>by have:=(bT.lt k d).1;have:=ar aa;omega);clear p j r l Q et;go_wp2_with fail
   rw[fT];go_wp2_with fail
   apply(hK W2 fk).mono;rintro cp N⟨m2,rfl,eu,Q⟩;obtain⟨y2,z2,ox⟩:=aC eu;subst ox;have r:I az W2 N:=I.aQ Q;have l:=(r.block c (ar bb) id).trans bb;have g2:=cellAt l 5 rfl;have f2:=cZ (i:=5) l;have p:(cA N (R c 5)<|J y2 (y W) z2).heap[c]?=H (ay #[aE<|(num:U)+1,aE num,aE bp,(J y0 (y K) z0),(J y1 (y O) z1),(J y2 (y W) z2),aw] 126 (0,0)):=(aL l).trans rfl;have j:I (λk=>k=c) W2 (cA N (R c 5)<|J y2 (y W) z2):=(r.mono (T:=λk=>k=c) cC).setCell _ _ _<|.inl rfl;obtain⟨W3,jH⟩:∃W3,cA N (R c 5) (J y2 (y W) z2)=W3:=⟨_,rfl⟩;rw[jH]at p j;obtain⟨cm,fl,cj,cb,ce⟩:=jk p (fk.trans j<|λk d=>.inr<|by omega) (show W3.ownsRow (z<|G W2) 188 4 (J y2 (y W) z2) (y W) (dq W)by rw[<-jH];exact eu.kept (du _ _ _ _)<|.inr (λq=>by have:=(eu.lt _ q).1;have:=ar bb;omega)) (j.own ca (λk d q=>by have:=(ca.lt k d).1;have:=ar aa;omega))<|j.own cd (λk d q=>by have:=(cd.lt k d).1;have:=ar av;omega);clear p j r l Q eu;go_wp2_with fail
   rw[fT];go_wp2_with fail
   apply(hM W3 fl).mono;rintro cp N⟨m3,rfl,ev,Q⟩;obtain⟨y3,z3,oy⟩:=aC ev;subst oy;have r:I az W3 N:=I.aQ Q;have l:=(r.block c (ar cm) id).trans cm;have g3:=cellAt l 6 rfl;have f3:=cZ (i:=6) l;have p:(cA N (R c 6)<|J y3 (y d') z3).heap[c]?=H (ay #[aE<|(num:U)+1,aE num,aE bp,(J y0 (y K) z0),(J y1 (y O) z1),(J y2 (y W) z2),(J y3 (y d') z3)] 126 (0,0)):=(aL l).trans rfl;have j:I (λk=>k=c) W3 (cA N (R c 6)<|J y3 (y d') z3):=(r.mono (T:=λk=>k=c) cC).setCell _ _ _<|.inl rfl;obtain⟨W4,jI⟩:∃W4,cA N (R c 6) (J y3 (y d') z3)=W4:=⟨_,rfl⟩;rw[jI]at p j;obtain⟨cn,ac,cl,cc,ch,ck⟩:=kY p (fl.trans j<|λk d=>.inr<|by omega) (show W4.ownsRow (z<|G W3) 188 4 (J y3 (y d') z3) (y d') (dq d')by rw[<-jI];exact ev.kept (du _ _ _ _)<|.inr (λq=>by have:=(ev.lt _ q).1;have:=ar cm;omega)) (j.own cb (λk d q=>by have:=(cb.lt k d).1;have:=ar aa;omega)) (j.own ce (λk d q=>by have:=(ce.lt k d).1;have:=ar av;omega))<|j.own cj (λk d q=>by have:=(cj.lt k d).1;have:=ar bb;omega);clear p j r l Q ev;go_wp2_with fail
   rw[fT];go_wp2_with fail
   have cu:cf W4 b s k:=(ac.block b (ar fb) id).trans fb;have jB:∀f:Z,f.heap=W4.heap->(λ(f:Z)=>aS f (R b 2)=H (aA s.aM)/\aS f (R c 0)=H (aE<|(num:U)+1)/\aS f (R c 1)=H (aE num)/\aS f (R c 2)=H (aE bp)/\aS f (R c 3)=H (J y0 (y K) z0)/\aS f (R c 4)=H (J y1 (y O) z1)/\aS f (R c 5)=H (J y2 (y W) z2)/\aS f (R c 6)=H (J y3 (y d') z3)) f:=by
    intro f fu;have h1:f.heap[b]?=W4.heap[b]?:=by rw[fu]
    have h2:f.heap[c]?=W4.heap[c]?:=by rw[fu]
    have kz:cf f b s k:=h1.trans cu;have oi:=h2.trans cn;refine⟨kz.cell rfl,?_,?_,?_,?_,?_,?_,?_⟩<;>(rw[bV oi];rfl)
   have fv:=jB W4.drew rfl;have bv:=Y cu;clear jB cu;have ky:cD aZ 176 #[aA s.aM,dD #[aE<|(num:U)+1,aE num,aE bp,J y0 (y K) z0,J y1 (y O) z1,J y2 (y W) z2,J y3 (y d') z3]] W4.drew λcp w'=>cp=aJ .nilIface/\∃a,oA W4.drew w' s.aM KR a/\vw a.files=sN (vw KR.files) (fm,iq ((num:U)+1) num bp [K,O,W,d'])/\a.dM=[]:=by
    have m:=af HM;have F:=af co;have kz:I az wr W4.drew:=ac.of_heap rfl;have v:∀bq∈us,bq.nZ:=λbq hu=>by
     have hy:∀{w:eT},qF wr s.aM (vw KR.files) w bq->bq.nZ:=λho=>by
      refine⟨ho.num,by have:=ho.small;omega,?_⟩;have h1:=kR<|λk d=>(ho.idx.can k d).fits;have h2:=ho.idx.len;rw[ho.ks];unfold eO;rw[ag,bU];omega
     rcases m.OY bq hu with q|⟨br,_,_,q,_⟩
     .exact hy<|m.EZ bq q
     .exact hy q
    have om:y K+y O+y W+y d'<=1000000:=by
     have:=m.len;rw[F]at this;simp only[ag]at this;omega
    have op:dB (vw KR.files) uz=none:=by
     obtain⟨pp,hj,oi⟩:=m.files;rw[hj,jr];cases q:dB (vw i.files) uz with
     |some gn=>exact absurd rfl<|cE _ _ q
     |none=>
      rw[lO];cases q2:dB pp uz with
      |none=>rfl
      |some gn=>
       obtain⟨bq,_,cp,_⟩:=oi _<|xe q2;simp only[iZ]at cp;exact absurd cp.1.symm<|Db _
    have fu:ii (vw KR.files)+21000000<=1099511627776:=by
     have h1:=m.qp;have h2:=ao.room;have h3:y bs*200000<=1000000*200000:=jQ _ hi;omega
    refine Sy s.aM KR ((num:U)+1) num bp y0 y1 y2 y3 z0 z1 z2 z3 K O W d' (λk d=>kz.cell (m.steps k d) id m.steps.lt) (dE cc) (dE ch) (dE ck) (dE cl) (λk d=>(cc.lt k d).2) (λk d=>(ch.lt k d).2) (λk d=>(ck.lt k d).2) (λk d=>(cl.lt k d).2) (λba h=>v ba (by rw[F];simp[h])) (λba h=>v ba (by rw[F];simp[h])) (λba h=>v ba (by rw[F];simp[h])) (λba h=>v ba (by rw[F];simp[h])) (by omega) (by omega) (by omega) om (m.aM.ap kz<|λ_ _=>id) op (by have:=m.dM;have:=ao.dM;omega) fu
   have mC:=Y ky;clear ky;rename_i QQ KK iu;refine dL (λ(f:Z)=>aS f (R b 2)=H (aA s.aM)/\aS f (R c 0)=H (aE<|(num:U)+1)/\aS f (R c 1)=H (aE num)/\aS f (R c 2)=H (aE bp)/\aS f (R c 3)=H (J y0 (y K) z0)/\aS f (R c 4)=H (J y1 (y O) z1)/\aS f (R c 5)=H (J y2 (y W) z2)/\aS f (R c 6)=H (J y3 (y d') z3)) 6 (by kernel_rfl) ?_;refine eR 0 ?_;iterate 5 (refine iC (v:=?_) fv rfl (by kernel_rfl) ma rfl ?_ ?_;rotate_left;(focus(rintro f⟨s2,q0,q1,q2,q3,q4,q5,q6⟩;go_simp;try rfl));simp only[Act.put,eF,Nat.reduceAdd])
   apply ig;refine bC (i:=5) rfl rfl (by kernel_rfl) ?_;intro K5 ip;go_simp;apply mC.mono;rintro cp w5⟨rfl,hU,el,lb,kf⟩;have kb:∀k,KR.aO s.aM k->k<c:=λk d=>by have:=HM.aM.lt k d;omega
   have hq:¬KR.aO s.aM b:=λq=>by
    rcases HM.aO b q with L|L
    .exact hp L
    .have:=ar bu;omega
   have hg:cf w5 b s k:=(el.ap.block b (ar bv) hq).trans bv;have u:w5.heap[c]?=_:=(el.ap.block c (ar cn) (λq=>by have:=kb _ q;omega)).trans cn;obtain⟨eb,fd,au,gk,hH,hS⟩:=kY hg u el lb kf hq;refine ip _ _ (λ_=>⟨hg.cell rfl,(by rw[bV u];rfl),(by rw[bV u];rfl),(by rw[bV u];rfl),(by rw[bV u];rfl),(by rw[bV u];rfl),(by rw[bV u];rfl),(by rw[bV u];rfl)⟩) ?_;clear ip el lb kf hg u kb hq;try simp only[Act.put,eF]
   refine bC (i:=6) rfl rfl (by kernel_rfl) ?_;intro K6 it;go_simp;refine it _ _ (λq=>(q rfl).elim) ?_;refine eN (by kernel_rfl) ?_ _;show KK _ _;apply iu;clear iu it fv;have m:=af HM;have le:z (G a)<z (G w1):=ar bt;have qv:=m.ap.size;have an:I (KR.aO s.aM) wr w5:=(ac.mono (T:=KR.aO s.aM) cC).trans ((cR (KR.aO s.aM) W4).trans au.ap<|λ_ q=>.inl q)<|λ_ q=>.inl q;have ex:∀k,k<z (G w1)->¬i.aO s.aM k->¬KR.aO s.aM k:=λk h1 h2 q=>(m.aO k q).elim h2 (λL=>by omega);have cw:∀k,k<z (G w1)->¬i.aO s.aM k->w5.heap[k]?=wr.heap[k]?:=λk h1 h2=>an.block k (by omega)<|ex k h1 h2;have od:=g.le;have ko:∀br∈ps,∀k,br.has k->k<z (G w1)/\¬i.aO s.aM k:=λbr X k d=>by
    have h1:=(g.news br X).1.lt k d;exact⟨by omega,λq=>by have:=g.aO k q;omega⟩
   have kn:∀k,IX s.aM b e i k->k<z (G w1)/\¬i.aO s.aM k:=λk d=>⟨by have:=d.1;omega,d.2.1⟩;have hf:∀{w:eT}{bq:bw},qF wr s.aM (vw KR.files) w bq->(∀k,w k->k<z (G w1)/\¬i.aO s.aM k)->OV w5 bq:=λho fu=>by
    obtain⟨hx,ad,n,hm,kz⟩:=(ho.QG<|λk d=>cw k (fu k d).1 (fu k d).2).mem;exact⟨ho.num,_,_,_,_,hx,ad,n,_,hm⟩
   have he:∀ba∈a0++b0++c0++d0,OV w5 ba:=λba h0=>hf (m.EZ ba h0) kn;have iv:∀bq∈K++O++W++d',OV w5 bq:=λbq hu=>by
    rw[<-af co]at hu;rcases m.OY bq hu with q|⟨br,X,_,q,_⟩
    .exact he bq q
    .exact hf q<|ko br X
   have fs:Cy w5 b 10 [(s.l0,a0),(s.l1,b0),(s.l2,c0),(s.l3,d0)]:=by
    refine bE.ap (S:=λk=>Wr s.aM i ps k\/KR.aO s.aM k) ((fn.mono (T:=λk=>Wr s.aM i ps k\/KR.aO s.aM k)<|λ_ q=>.inl<|.inl q).trans an<|λ_ q=>.inl<|.inr q) ?_ ?_
    .rintro(q|q)
     .rcases q with L|⟨br,X,L|L⟩
      .exact hp L
      .have:=((g.news br X).1.lt b<|.inl L).1;omega
      .have:=((g.news br X).1.lt b<|.inr<|.inr L).1;omega
     .exact hS q
    .intro gf kz k' bn q;have fu:IX s.aM b e i k':=by
      have:gf=0\/gf=1\/gf=2\/gf=3:=by simp at kz;omega
      rcases this with rfl|rfl|rfl|rfl
      .exact ec _ (.inl rfl) k' bn
      .exact ec _ (.inr<|.inl rfl) k' bn
      .exact ec _ (.inr<|.inr<|.inl rfl) k' bn
      .exact ec _ (.inr<|.inr<|.inr rfl) k' bn
     rcases q with L|L
     .rcases L with L|⟨br,X,L|L⟩
      .simp_all
      .have:=((g.news br X).1.lt k'<|.inl L).1;have:=fu.1;omega
      .have:=((g.news br X).1.lt k'<|.inr<|.inr L).1;have:=fu.1;omega
     simp_all
   have P:∀bh(ts:cN),qi a s.aM b e i bh->Row wr 1 bh (y ts) (ts.map bw.ptr)->Row w5 1 bh (y ts) (ts.map bw.ptr)/\∀k,cz bh=H k->k<z (G w5):=λbh ts hv ks=>
    ⟨an.row ks<|λk d=>⟨ex k (by have:=(hv k d).1;omega) (hv k d).2.1,by have:=(hv k d).1;omega⟩,λk d=>by have:=(hv k d).1;have:=an.size;omega⟩
   have q0:=P _ K g.b0 hO;have q1:=P _ O g.b1 hP;have q2:=P _ W g.b2 hQ;have q3:=P _ d' g.b3 hR;have qr:y (K++O++W++d')<=1000000:=by rw[<-af co,m.len];exact hi
   have db:Pow w5:=m.pow.di<|cw _ (by have:=g.lf.1;omega) g.lf.2.1;have cT:=Ho a0 b0 c0 d0 K O W d' eb fs q0.1 q1.1 q2.1 q3.1 q0.2 q1.2 q2.2 q3.2 he iv db on (by omega) (by omega);have al:=(cw (z<|G a) le (λq=>by have:=g.aO _ q;omega)).trans hB;have bi:=cellAt al 0 rfl;have bk:=cellAt al 1 rfl;have bl:=cellAt al 2 rfl;have bm:=cellAt al 3 rfl;rw[<-af co]at cT;obtain⟨ms,ax,eB,mA⟩:=fX cw an al ex;clear m ex cw hf he iv fs P q0 q1 q2 q3 db al an ko kn;go_wp2_with fail
   apply cT.mono;rintro cp w6⟨v6,rfl,ey,dn⟩;obtain⟨ns,cM⟩:∃ns,ph s (a0++b0++c0++d0) us=ns:=⟨_,rfl⟩;rw[cM]at ey;obtain⟨x6,c6,oL⟩:=aC ey;subst oL;have o:cf w6 b s k:=(dn.block b (ar eb) id).trans eb;have dk:w6.heap[c]?=_:=(dn.block c (ar fd) id).trans fd;have aD:w6.heap[z<|G a]?=_:=(dn.block (z<|G a) (ar eB) id).trans eB;obtain⟨lr,lp,en⟩:=bN (bE.row 0<|by simp);obtain⟨lt,ls,eo⟩:=bN (bE.row 1<|by simp);obtain⟨lx,lv,eq⟩:=bN (bE.row 2<|by simp);obtain⟨mc,mb,er⟩:=bN (bE.row 3<|by simp);simp only[cy,cq]at en eo eq er;obtain⟨hC,hD,hE,hG⟩:=fX en eo eq er;have k7:aS w6 (R b 7)=H (J ry rx rv):=by rw[<-af mx];exact o.cell rfl
   have k8:=cf.cellAt o 8 rfl;have k9:=cf.cellAt o 9 rfl;have lg:aS w6 (R b 10)=H (J lr (y a0) lp):=by rw[<-en];exact o.cell rfl
   have ll:aS w6 (R b 11)=H (J lt (y b0) ls):=by rw[<-eo];exact o.cell rfl
   have lm:aS w6 (R b 12)=H (J lx (y c0) lv):=by rw[<-eq];exact o.cell rfl
   have ln:aS w6 (R b 13)=H (J mc (y d0) mb):=by rw[<-er];exact o.cell rfl
   have lo:=cf.cellAt o 14 rfl;have pf:=cf.cellAt o 17 rfl;have pg:=cf.cellAt o 18 rfl;have pi:=cf.cellAt o 19 rfl;have pk:=cf.cellAt o 20 rfl;have pn:=cf.cellAt o 21 rfl;have fz:∀gf,w6.frozen? (R b gf)=bj:=λgf=>o.free;have f7:=fz 7;have f8:=fz 8;have f9:=fz 9;have hV:=fz 10;have hW:=fz 11;have hX:=fz 12;have hY:=fz 13;have hZ:=fz 14;have nK:=fz 15;have nO:=fz 16;have nS:=fz 17;have ob:=fz 18;have oc:=fz 19;have bi:=cellAt aD 0 rfl;have bk:=cellAt aD 1 rfl;have bl:=cellAt aD 2 rfl;have bm:=cellAt aD 3 rfl;have t0:=cellAt dk 0 rfl;have t1:=cellAt dk 1 rfl;have n1:z (G a)≠b:=by omega
   have n2:c≠b:=by omega
   have n3:b≠z (G a):=by omega
   have n4:b≠c:=by omega
   obtain⟨mg,ed,mE,gg⟩:=fX o ey dn cM;clear o dk aD ey dn fz en eo eq er cT cM;go_wp2_with fail
   rename_i rn mU fr;obtain⟨V,ef⟩:∃V,cA (cA (cA w6 (R b 7) aw) (R b 8)<|aq 0) (R b 9) (aE bp)=V:=⟨_,rfl⟩;have D:cf V b {s with memory:=aw,fS:=0,aT:=bp} k:=by rw[<-ef];exact(aL<|aL<|aL mg).trans rfl
   have aU:I (λk=>k=b) w6 V:=by rw[<-ef];exact((iV b w6).setCell _ _ _<|.inl rfl).setCell _ _ _<|.inl rfl
   have bi:aS V (R (z<|G a) 0)=H (J x0 (y dx) x):=aU.cell bi n1<|qP bi;have bk:aS V (R (z<|G a) 1)=H (J x1 (y dT) A):=aU.cell bk n1<|qP bk;have bl:aS V (R (z<|G a) 2)=H (J x2 (y aV) B):=aU.cell bl n1<|qP bl;have bm:aS V (R (z<|G a) 3)=H (J x3 (y ea) C):=aU.cell bm n1<|qP bm;have t0:aS V (R c 0)=H (aE<|(num:U)+1):=aU.cell t0 n2<|qP t0;have t1:aS V (R c 1)=H (aE num):=aU.cell t1 n2<|qP t1;have lg:aS V (R b 10)=H (J lr (y a0) lp):=by rw[<-af hC];exact D.cell rfl
   have ll:aS V (R b 11)=H (J lt (y b0) ls):=by rw[<-af hD];exact D.cell rfl
   have lm:aS V (R b 12)=H (J lx (y c0) lv):=by rw[<-af hE];exact D.cell rfl
   have ln:aS V (R b 13)=H (J mc (y d0) mb):=by rw[<-af hG];exact D.cell rfl
   have lo:=cf.cellAt D 14 rfl;have hV:V.frozen? (R b 10)=bj:=D.free;have hW:V.frozen? (R b 11)=bj:=D.free;have hX:V.frozen? (R b 12)=bj:=D.free;have hY:V.frozen? (R b 13)=bj:=D.free;have hZ:V.frozen? (R b 14)=bj:=D.free;have mm:=Y D;have gi:=Y aU;rw[ef];clear ef D aU;apply Fk mU
   .intro fu;go_region
    all_goals exact fu
   refine fr _ _ ?_;clear fr;obtain⟨W8,eg⟩:∃W8,(cA (cA (cA (cA (cA V (R b 10)<|J x0 (y dx) x) (R b 11)<|J x1 (y dT) A) (R b 12)<|J x2 (y aV) B) (R b 13)<|J x3 (y ea) C) (R b 14)<|aE<|(num:U)+1).drew=W8:=⟨_,rfl⟩;have E:cf W8 b {s with memory:=aw,fS:=0,aT:=bp,l0:=J x0 (y dx) x,l1:=J x1 (y dT) A,l2:=J x2 (y aV) B,l3:=J x3 (y ea) C,next:=num+1} k:=by
    rw[<-eg];exact(aL<|aL<|aL<|aL<|aL mm).trans rfl
   have hs:I (λk=>k=b) V W8:=by
    rw[<-eg];exact(((((iV b V).setCell _ _ _<|.inl rfl).setCell _ _ _<|.inl rfl).setCell _ _ _<|.inl rfl).setCell _ _ _<|.inl rfl).bW<|cR az _
   have t1:aS W8 (R c 1)=H (aE num):=hs.cell t1 n2<|qP t1;have pf:=cf.cellAt E 17 rfl;have pg:=cf.cellAt E 18 rfl;have pi:=cf.cellAt E 19 rfl;have pk:=cf.cellAt E 20 rfl;have pn:=cf.cellAt E 21 rfl;have nK:W8.frozen? (R b 17)=bj:=E.free;have nO:W8.frozen? (R b 18)=bj:=E.free;have nS:W8.frozen? (R b 19)=bj:=E.free;have ob:W8.frozen? (R b 20)=bj:=E.free;have oc:W8.frozen? (R b 21)=bj:=E.free;have mn:=Y E;have gj:=Y hs;rw[eg];clear eg E hs lg ll lm ln lo k7 k8 k9 f7 f8 f9 hV hW hX hY hZ bi bk bl bm t0;go_wp2_with fail
   obtain⟨W9,ei⟩:∃W9,cA (cA (cA (cA (cA W8 (R b 17)<|aE num) (R b 18)<|aK bj) (R b 19)<|aK bj) (R b 20)<|aK bj) (R b 21) (aK bj)=W9:=⟨_,rfl⟩;have hh:cf W9 b (s.settled (J x0 (y dx) x) (J x1 (y dT) A) (J x2 (y aV) B) (J x3 (y ea) C) bp num) k:=by
    rw[<-ei];exact(aL<|aL<|aL<|aL<|aL mn).trans rfl
   have eA:I (λk=>k=b) W8 W9:=by
    rw[<-ei];exact((((iV b W8).setCell _ _ _<|.inl rfl).setCell _ _ _<|.inl rfl).setCell _ _ _<|.inl rfl).setCell _ _ _<|.inl rfl
   have dm:I (λk=>k=b) w5 W9:=((mE.mono (T:=λk=>k=b) cC).trans (gi.trans (gj.trans eA<|λ_ q=>.inl q)<|λ_ q=>.inl q)<|λ_ q=>.inl q);rw[ei];have cE:=af gg;have em:=mp us;rw[cE]at em;have dc:¬hU.aO s.aM b:=λq=>by
    rcases au.aO b q with L|L
    .exact hS L
    .have:=ar bv;simp at L;omega
   have il:cH W9 s.aM hU:=au.ok.ap dm (λk d q=>by rw[q]at d;exact dc d);have kt:=Dw (J x6 (y ns) c6) ns hh il dc (dE<|((gi.trans (gj.trans eA<|λ_ q=>.inl q)<|λ_ q=>.inl q)).own ed (λk d q=>by have:=(ed.lt k d).1;have:=ar eb;omega)) (λdv a=>⟨ah (ed.lt dv a).2<|((gi.trans (gj.trans eA<|λ_ q=>.inl q)<|λ_ q=>.inl q)).size,λq=>by have h1:=(ed.lt dv a).1;have h2:=au.ok.lt dv q;omega⟩) em.1 (λds oi=>by
    obtain⟨kz,gn,fu⟩:=em.2 ds oi;obtain⟨pp,hj,_⟩:=HM.files;refine⟨gn,?_⟩;rw[af gk,sa,eI (λq=>kz q.symm),hj,jr,fu];rfl) (by
    rw[af hH];have:y ns<=1+y (a0++b0++c0++d0):=by
     rw[<-cE];unfold ph;rw[ag,df];have h1:y (nh (a0++b0++c0++d0) us)<=y (a0++b0++c0++d0):=fP _ _;split<;>simp<;>simp at h1<;>omega
    grind)
   have hz:=Y hh;have bc:=Y dm;clear hh eA dm il em cE ei;apply kt.mono;rintro cp w'⟨rfl,K8,ka,lc,kk⟩;obtain⟨bx,mK,mv⟩:=dz ka lc kk;clear ka lc kk kt;go_wp2;go_ret;refine⟨rfl,w1,wr,KR,K8,us,K,O,W,d',num,fe,?_,co,HEq.1,HEq.2.1,HEq.2.2.1,HEq.2.2.2,?_,bx.ok,?_,?_,?_,?_,?_,?_⟩
   .rw[af hT];exact HM
   .exact(bx.ap.block b (ar hz) dc).trans hz
   .rw[af mK,af gk,af gg]
   .rw[<-af gk];exact au.ok.nodup
   .rw[af mv,af hH,af gg];simp
   .intro k' h1 h2 h3;have g1:w5.heap[k']?=wr.heap[k']?:=ms k' (by omega) h2;have g2:W9.heap[k']?=w5.heap[k']?:=bc.block k' (by have:=ax.size;omega) h3;refine(bx.ap.block k' (by have:=ax.size;have:=bc.size;omega)<|λq=>?_).trans<|g2.trans g1;rcases au.aO k' q with L|L
    .exact mA k' (by omega) h2 L
    .have:=ac.size;simp at L;omega
   .have pe:=ax.size;have pd:=ac.size;have fu:∀md,KR.aO s.aM md->(Wr s.aM i ps md\/md=b)\/z (G a)<=md:=λmd hy=>by
     rcases HM.aO md hy with L|L
     .exact .inl<|.inl<|.inl L
     grind
    refine(((fn.mono (T:=λk=>Wr s.aM i ps k\/k=b)<|λ_ q=>.inl<|.inl q).trans ax fu).trans bc<|λ_ q=>.inl<|.inr q).trans bx.ap<|λmd hy=>?_;rcases au.aO md hy with L|L
    .exact fu md L
    .simp at L;grind
   .intro k' bn;have pe:=ax.size;have pd:=ac.size;have fu:=bc.size;rcases bx.aO k' bn with L|L
    .rcases au.aO k' L with L|L
     .rcases HM.aO k' L with L|L
      .exact .inl L
      grind
     .simp at L;grind
    grind
def Sz(h:j.map (λT=>(T.tb,T.ks,T.cs))=p.map (λT=>(T.tb,T.ks,T.cs)))(b:T∈j):∃u∈p,T.tb=u.tb/\T.ks=u.ks/\T.cs=u.cs:=by
 have a:(T.tb,T.ks,T.cs)∈p.map (λT=>(T.tb,T.ks,T.cs)):=by rw[<-h];grind
 grind
def AR(h:j.map (λt=>(t.tb,t.ks,t.cs))=p.map (λt=>(t.tb,t.ks,t.cs)))(a:jV p):jV j:=by
 refine⟨λt d=>?_,by rw[(jf h).2.2.2];exact a.mh,by rw[(jf h).2.2.1];exact a.Cw⟩;obtain⟨u,e,_,b,c⟩:=Sz h d;rw[b,c];exact a.pure u e
def PC{e f g h:cN}(a:j.map (λt=>(t.tb,t.ks,t.cs))=e.map (λt=>(t.tb,t.ks,t.cs)))(b:p.map (λt=>(t.tb,t.ks,t.cs))=f.map (λt=>(t.tb,t.ks,t.cs)))(c:r.map (λt=>(t.tb,t.ks,t.cs))=g.map (λt=>(t.tb,t.ks,t.cs)))(d:s.map (λt=>(t.tb,t.ks,t.cs))=h.map (λt=>(t.tb,t.ks,t.cs))):bY j p r s=bY e f g h:=by
 unfold bY;rw[(jf a).2.2.1,(jf b).2.2.2,(jf c).2.2.2,(jf d).2.2.2]
def YA(e f g h a b c d:cN):Prop:=a.map bw.all=e.map bw.all/\b.map bw.all=f.map bw.all/\c.map bw.all=g.map bw.all/\d.map bw.all=h.map bw.all
structure VX(w w':Z)(sb:M)(s:SR)(k:U)(n C:M)(K:DK)(v0 v1 v2 v3:ab)(a b c d:cN)(K':DK)(num:M)(a' b' c' d':cN):Prop where
 box:cf w' sb (s.settled v0 v1 v2 v3 n num) k
 st:ST w' sb (s.settled v0 v1 v2 v3 n num) K' [] a' b' c' d' C
 oa:RV (vw K'.files) (num+1) num n a' b' c' d' bj []
 rows:bY a' b' c' d'=bY a b c d
 Fb:((a'++b'++c'++d').map bw.tb).Nodup
 dM:y K'.dM<=1000001
 num:s.next<=num/\num<=s.next+1000000
 aO:∀k,K'.aO s.aM k->K.aO s.aM k\/z (G w)<=k
 al:YA a b c d a' b' c' d'
def NY(d cl ce bh:M)(ps:cS NT)(v0 v1 v2 v3:ab)(bk bl bi bm l m n p:cN)(bg:dJ)(cv:cf a b o k)(c:LS a o.aM b d i (l++m++n++p) ps cl v0 v1 v2 v3 bk bl bi bm)(br:Cy a b 10 [(o.l0,l),(o.l1,m),(o.l2,n),(o.l3,p)])(hd:cH a o.aM i)(bd:¬i.aO o.aM b)(F:RV (vw i.files) o.next o.log bh l m n p o.fa bg)(bE:y (jg ((bh:U)+1) bg)<=200000)(hn:ce<1000000000000000)(co:o.next<=900000000000000)(bu:y i.dM<=10000000000)(bc:y (l++m++n++p)<=1000000)(aV:∃cx ce bi,o.memory=J cx ce bi)(bq:∀ao,ao=o.l0\/ao=o.l1\/ao=o.l2\/ao=o.l3->∀k,cz ao=H k->IX o.aM b d i k):cD aZ 112 #[aA b,dD #[v0,v1,v2,v3],aE ce] a λX L=>X=aJ .nilIface/\∃K' num a' b' c' d',VX a L b o k ce cl i v0 v1 v2 v3 bk bl bi bm K' num a' b' c' d'/\I (λk=>Wr o.aM i ps k\/k=b) a L:=by
 have ch:=c.count;have W:∀t∈l++m++n++p,t.num<o.next:=λt e=>(F.low t e).1;have bf:=F.total hd.nodup bE bc;have aU:∀t∈l++m++n++p,∀v∈l++m++n++p,t.num=v.num->t=v:=by intro t e v S X;obtain⟨cw,B,rfl⟩:=gM.1 e;obtain⟨cu,hj,rfl⟩:=gM.1 S;have hn:=cJ.1 F.yS;grind
 have P:∀E,o.next<=E->dB (vw i.files) (gu E)=none:=by
  intro E A;cases q:dB (vw i.files) (gu E)with
  |none=>rfl
  |some bs=>
   rcases F.names _ _ q with X|⟨X,_⟩|⟨t,e,X⟩
   .grind[vf]
   .grind[lC]
   grind[uw]
 have bn:∀g,I az a g->CF g o.aM b d i (l++m++n++p) ps (bk++bl++bi++bm) o.next 201000000000:=λg e=>{le:=aB c.le e.size,aO:=c.aO,JE:=c.JE,xt:=λt f=>(by simp only[aG]at f;rcases f with((q|q)|q)|q<;>first|exact c.x0 t q|exact c.x1 t q|exact c.x2 t q|exact c.x3 t q),nodup:=c.nodup,apart:=c.apart,news:=λau C=>⟨(c.news au C).1.ap e<|λ_ _ q=>q,(c.news au C).2⟩,inj:=aU,low:=W,fresh:=P,eL:=c.eL,lf:=c.lf,small:=by grind,nx:=by omega,room:=by omega,qp:=bf,dM:=bu}
 have x:∀j,(ph o (l++m++n++p) j).Nodup/\∀E∈ph o (l++m++n++p) j,E≠fm/\∃bs,dB (vw i.files) E=H bs:=by
  intro j;have B:(nh (l++m++n++p) j).Sublist (l++m++n++p):=eS;have ax:((nh (l++m++n++p) j).map<|λt=>gu t.num).Nodup:=by
   have h:((nh (l++m++n++p) j).map bw.num).Nodup:=F.yS.sublist<|B.map _;unfold List.Nodup at h|-;rw[jX]at h|-;grind[uw]
  have O:∀E∈(nh (l++m++n++p) j).map (λt=>gu t.num),E≠fm/\∃bs,dB (vw i.files) E=H bs:=by
   intro E A;obtain⟨t,e,rfl⟩:=bM.1 A;exact⟨vf _,_,F.xY t<|B.subset e⟩
  unfold ph;cases al:o.fa with
  |false=>
   rw[eI (by simp),de];grind
  |true=>
   rw[dV rfl];refine⟨?_,λE A=>?_⟩
   .rw[ju,km];grind[lC]
   .rcases aG.1 A with q|q
    .rw[dA]at q;rw[q];exact⟨nQ _,_,F.log al⟩
    .exact O E q
 refine(Lx d cl ce 201000000000 ps v0 v1 v2 v3 bk bl bi bm l m n p cv c bn br hd bd hn (by have:=F.lt;omega) bc (λE bs A X=>?_) aV bq x).mono ?_;rcases F.names _ _ A with q|⟨q,_⟩|⟨t,_,q⟩;exact Hc<|q.symm.trans X;(grind[Nj]);grind[Db]
 rintro X L⟨rfl,w1,wr,KR,K8,j,a',b',c',d',num,bT,V,r,ea,eb,ec,ed,bo,bp,an,ba,bt,ad,Q,ac⟩;have cs:=bT.size;have cn:=c.le;have cj:=c.JE;have bv:∀ao,qi a o.aM b d i ao->∀k,cz ao=H k->¬(Wr o.aM i ps k\/k=b):=by rintro ao K k g(q|q);(rcases q with q|⟨au,C,q|q⟩;exact(K k g).2.1 q;have B:=(c.news au C).1;rcases(K k g).2.2.2 with av|⟨O,fr,av⟩;have:=(B.lt k<|.inl q).1;omega;exact ld av B.mem.box (by decide) q;have B:=(c.news au C).1;rcases(K k g).2.2.2 with av|⟨O,fr,av⟩;have:=(B.lt k<|.inr<|.inr q).1;omega;obtain⟨ax,hc⟩:=fR B.data (k:=au.x) rfl;grind);exact(K k g).2.2.1 q
 have w:∀k,k<z (G a)->¬i.aO o.aM k->k≠b->Aside L K8 o.aM b k:=λk h N B=>
  ⟨ah h Q.size,λq=>(ac k q).elim N (λav=>by omega),B⟩
 have f:∀k,IX o.aM b d i k->k<z (G a)/\¬i.aO o.aM k/\k≠b:=λk g=>⟨by have:=g.1;omega,g.2.1,g.2.2⟩;have cp:∀au∈ps,∀k,au.has k->k<z (G a)/\¬i.aO o.aM k/\k≠b:=λau C k g=>by have h:=(c.news au C).1.lt k g;exact⟨h.2,λq=>by have:=c.aO k q;omega,by omega⟩
 have u:∀v∈j,gu v.num∉ph o (l++m++n++p) j:=by intro v S q;unfold ph at q;rcases aG.1 q with av|av;(grind[mem_singleton,lC]);obtain⟨t,e,X⟩:=bM.1 av;have e2:=uw X;unfold nh at e;rw[dY]at e;have:j.any (λv=>v.num==t.num)=ci:=nM.2 ⟨v,S,by rw[e2];grind⟩;rw[this]at e;simp at e
 have aD:∀E,E∉ph o (l++m++n++p) j->E≠fm->dB (vw K8.files) E=dB (vw KR.files) E:=λE h N=>by rw[an,sQ h,sa,eI<|λq=>N q.symm]
 have aa:∀v∈j,∃ck:M->Prop,qF wr o.aM (vw KR.files) ck v/\(∀k,ck k->k<z (G a)/\¬i.aO o.aM k/\k≠b)/\v.num<num:=λv S=>by rcases V.OY v S with q|⟨au,C,_,q,_,B⟩;exact⟨_,V.EZ v q,f,by have:=W v q;have:=V.qh.1;omega⟩;grind
 have hO:∀v∈j,qF L o.aM (vw K8.files) (Aside L K8 o.aM b) v:=λv S=>by obtain⟨ck,ho,O,_⟩:=aa v S;have h:=ho.QG (w':=L)<|λk g=>ad k (O k g).1 (O k g).2.1 (O k g).2.2;obtain⟨bb,ax,B,A,ha⟩:=h.mem;refine⟨⟨bb,ax,B,A,w bb (O bb ha).1 (O bb ha).2.1 (O bb ha).2.2⟩,w _ (O _ h.loc).1 (O _ h.loc).2.1 (O _ h.loc).2.2,h.ks,h.num,h.pure,h.idx,h.small,?_⟩;rw[aD _ (u v S)<|vf _];exact h.file
 have bx:num<=o.next+1000000:=by have:=V.qh.2;grind
 have s:∀ao(f c:cN),qi a o.aM b d i ao->Row a 1 ao (y f) (f.map bw.ptr)->c.map (λt=>(t.tb,t.ks,t.cs))=f.map (λt=>(t.tb,t.ks,t.cs))->(∀t∈c,t∈j)->Zf L K8 o.aM b ao c:=λao f c K hr he B=>by obtain⟨O,e2,_,_⟩:=jf he;refine⟨?_,λk g=>w k (K k g).1 (K k g).2.1 (K k g).2.2.1,λt e=>hO t<|B t e⟩;rw[O,e2];exact Q.row hr<|λk g=>⟨bv ao K k g,(K k g).1⟩
 have aF:∀k,IX o.aM b d i k->L.heap[k]?=a.heap[k]?:=λk g=>Q.block k (by have:=g.1;omega) (by
  rintro(q|q)
  .rcases q with q|⟨au,C,q|q⟩
   .exact g.2.1 q
   .have:=((c.news au C).1.lt k<|.inl q).1;have:=g.1;omega
   .have:=((c.news au C).1.lt k<|.inr<|.inr q).1;have:=g.1;omega
  grind)
 have ca:∀t∈a',t∈j:=λt e=>by rw[r];simp[e]
 have cb:∀t∈b',t∈j:=λt e=>by rw[r];simp[e]
 have cc:∀t∈c',t∈j:=λt e=>by rw[r];simp[e]
 have cd:∀t∈d',t∈j:=λt e=>by rw[r];simp[e]
 have D:=V.same;rw[bL]at D;refine⟨rfl,K8,num,a',b',c',d',⟨bo,?_,?_,PC ea eb ec ed,?_,?_,⟨V.qh.1,bx⟩,ac,(jf ea).2.2.1,(jf eb).2.2.1,(jf ec).2.2.1,(jf ed).2.2.1⟩,Q⟩;exact{mem:=⟨rfl,.inl ⟨rfl,rfl⟩⟩,vp:=λk g=>(by cases g),l0:=s v0 bk a' c.b0 c.r0 ea ca,l1:=s v1 bl b' c.b1 c.r1 eb cb,l2:=s v2 bi c' c.b2 c.r2 ec cc,l3:=s v3 bm d' c.b3 c.r3 ed cd,aM:=bp,yO:=λq=>(ac b q).elim bd (λav=>by omega),lL:=⟨λcu hj=>(da (w:=a)<|aF _ c.eL).trans<|c.steps cu hj,c.pow.di<|aF _ c.lf,w _ (f _ c.eL).1 (f _ c.eL).2.1 (f _ c.eL).2.2,w _ (f _ c.lf).1 (f _ c.lf).2.1 (f _ c.lf).2.2⟩,qp:=(by rw[(jf ea).2.2.2,(jf eb).2.2.2,(jf ec).2.2.2,(jf ed).2.2.2];have:=c.qp;grind),oO:=c.oO,mh:=dK.nil,iH:=by simp,s1:=AR eb c.s1,s2:=AR ec c.s2,s3:=AR ed c.s3}
 .have B:∀t∈a'++b'++c'++d',t.num<num:=λt e=>by
   rw[<-r]at e;grind
  refine{names:=?_,state:=.inl ?_,log:=λq=>(by cases q),DJ:=λ_=>rfl,xY:=?_,yS:=by rw[<-r];exact V.yS,low:=λt e=>⟨by have:=B t e;omega,by have:=B t e;omega⟩,lt:=by omega,iH:=?_}
  .intro E bs A;rw[an]at A;obtain⟨h,N⟩:=Ny ba A;rw[sa]at N;by_cases q:fm=E
   .grind
   rw[eI q]at N;obtain⟨gs,O,ax⟩:=V.files;rw[O,jr]at N;cases av:dB (vw i.files) E with
   |none=>
    rw[av,lO]at N;obtain⟨v,S,X,_⟩:=ax _<|xe N;grind
   |some cm=>
    rcases F.names _ _ av with X|⟨X,al⟩|⟨t,e,X⟩
    .grind
    .refine absurd ?_ h;unfold ph;rw[al,dV rfl,X];simp
    .by_cases bb:j.any (λv=>v.num==t.num)=ci
     .grind
     .refine absurd ?_ h;unfold ph;rw[X];refine aG.2<|.inr<|bM.2 ⟨t,?_,rfl⟩;unfold nh;rw[dY];grind
  .rw[an,sQ<|λq=>((x j).2 _ q).1 rfl,sa,dV rfl];rfl
  .intro t e;rw[<-r]at e;exact(hO t e).file
  .intro t e;rw[<-r]at e;have:=hO t e;exact⟨this.ks,this.pure,this.idx,this.small,this.num⟩
 rw[<-r,Th (T:=bk++bl++bi++bm) (i:=y<|bk++bl++bi++bm) (by rw[bL];exact D),bL];exact c.nodup;rw[bt];unfold ph;rw[ag,df];have h:y (nh (l++m++n++p) j)<=y (l++m++n++p):=fP _ _;grind
def sd(h:Aside a i b c g):IX b c (z<|G a) i g:=⟨h.lt,h.aO,h.ne⟩
def qF.Mi{B:eT}(h:qF a b F X T)(e:∀k,X k->B k):qF a b F B T:=by
 obtain⟨f,d,c,i,g⟩:=h.mem;exact⟨⟨f,d,c,i,e _ g⟩,e _ h.loc,h.ks,h.num,h.pure,h.idx,h.small,h.file⟩
def ST.XH{C C':M}(h:ST a b o i e j p r s C)(l:b<z (G a))(f:((j++p++r++s).map bw.tb).Nodup)(m:y (bZ j)+y (bZ p)+y (bZ r)+y (bZ s)<=C')(g:C'<=1000000):LS a o.aM b (z<|G a) i (j++p++r++s) [] C' o.l0 o.l1 o.l2 o.l3 j p r s where
 D:=h.Qg
 le:=ai _
 aO:=h.aM.lt
 JE:=l
 steps:=h.lL.steps
 pow:=h.lL.pow
 eL:=sd h.lL.eL
 lf:=sd h.lL.lf
 uC:=λt d=>by
  simp only[aG]at d;rcases d with((q|q)|q)|q
  .exact(h.l0.each t q).Mi<|λ_=>sd
  .exact(h.l1.each t q).Mi<|λ_=>sd
  .exact(h.l2.each t q).Mi<|λ_=>sd
  .exact(h.l3.each t q).Mi<|λ_=>sd
 news:=by simp
 apart:=List.Pairwise.nil
 r0:=h.l0.row
 r1:=h.l1.row
 r2:=h.l2.row
 r3:=h.l3.row
 b0:=λk c=>⟨(h.l0.loc k c).lt,(h.l0.loc k c).aO,(h.l0.loc k c).ne,.inl (h.l0.loc k c).lt⟩
 b1:=λk c=>⟨(h.l1.loc k c).lt,(h.l1.loc k c).aO,(h.l1.loc k c).ne,.inl (h.l1.loc k c).lt⟩
 b2:=λk c=>⟨(h.l2.loc k c).lt,(h.l2.loc k c).aO,(h.l2.loc k c).ne,.inl (h.l2.loc k c).lt⟩
 b3:=λk c=>⟨(h.l3.loc k c).lt,(h.l3.loc k c).aO,(h.l3.loc k c).ne,.inl (h.l3.loc k c).lt⟩
 x0:=λt d=>.inl<|by simp[d]
 x1:=λt d=>.inl<|by simp[d]
 x2:=λt d=>.inl<|by simp[d]
 x3:=λt d=>.inl<|by simp[d]
 nodup:=f
 s1:=h.s1
 s2:=h.s2
 s3:=h.s3
 qp:=m
 oO:=g
def LS.Xq{C l:ab}{v w:cN}{p:NT}(h:LS a b c g i j [] m d u P C r s v w)(B:I az a f)(A:p.Ok f (z<|G a))(o:LX p.t)(x:f.ownsRow (z<|G a) 189 1 l (y<|r++[p.t]) ((r++[p.t]).map bw.ptr))(F:y (bZ r)+y (bZ s)+y (bZ v)+y (bZ w)+y p.t.all<=m):LS f b c g i j [p] m l u P C (r++[p.t]) s v w:=by
 have h':=h.ap (B.mono cC)<|(pT b i).eQ h.D B cC;refine{h' with news:=?_,apart:=by simp,r0:=dE x,b0:=vi x h.aO h.JE h.le,x0:=?_,x1:=λt q=>(h.x1 t q).more [p],x2:=λt q=>(h.x2 t q).more [p],x3:=λt q=>(h.x3 t q).more [p],nodup:=?_,qp:=?_};intro q e;rw[dA]at e;subst e;exact⟨A.base h.le,o⟩;intro t q;rcases aG.1 q with q|q;exact(h.x0 t q).more [p];rw[dA]at q;exact .inr ⟨p,by simp,q.symm⟩;(have e:(r++[p.t]++s++v++w).Perm (p.t::(r++s++v++w)):=by simp_all);rw[(e.map bw.tb).nodup_iff,cr,km];refine⟨λq=>?_,h.nodup⟩;obtain⟨t,k,K⟩:=bM.1 q;have D:=A.new;(have E:t.tb<z (G a):=by simp only[aG]at k;rcases k with((n|n)|n)|n;exact XT.qf h<|h.x0 t n;exact XT.qf h<|h.x1 t n;exact XT.qf h<|h.x2 t n;exact XT.qf h<|h.x3 t n);omega;rw[fF];(have:bZ [p.t]=p.t.all:=by simp[bZ]);rw[this,ag];omega
def TS(i:Ma a f b e l c g m x)(h:e≠[])(j:∀q∈e,q.Good)(k:dK e)(n:y e<=100):NT.Ok f (z<|G a) ⟨⟨b,bI 0 l,l,0⟩,c,g,m,x⟩/\LX ⟨b,bI 0 l,l,0⟩/\bw.all ⟨b,bI 0 l,l,0⟩=e:=by
 have d:l.flatten=e:=i.pieces.flat;refine⟨⟨rfl,rfl,by show pQ l.flatten l;rw[d];exact i.pieces,i.mem,i.data,i.Fm,i.new⟩,⟨i.pieces.nN h j k,i.pieces.idx h j k n,?_⟩,d⟩;have o:=i.pieces.data;have p:=i.pieces.length;grind
def LS.WM{w:cS NT}{x:ab}{E:cN}(h:LS a b c g i j w m d u P x p r s E):∃k,LS a b c g k j w m d u P x p r s E/\cH a b k/\k.files=i.files/\k.dM=i.dM/\∀n,k.aO b n->i.aO b n:=by
 obtain⟨B,k,t,v,A,o⟩:=h.D;have f:∀n,IX b c g i n->IX b c g k n:=λn l=>⟨l.1,λq=>l.2.1<|o n q,l.2.2⟩;have e:∀v,qi a b c g i v->qi a b c g k v:=λv f n l=>⟨(f n l).1,λq=>(f n l).2.1<|o n q,(f n l).2.2⟩;refine⟨k,{h with D:=Iy t t.lt,aO:=λn l=>h.aO n<|o n l,eL:=f _ h.eL,lf:=f _ h.lf,uC:=λF C=>?_,b0:=e _ h.b0,b1:=e _ h.b1,b2:=e _ h.b2,b3:=e _ h.b3},t,v,A,o⟩;rw[v];exact(h.uC F C).Mi f
def LS.other{F:cS NT}{K:ab}{W:cN}(h:LS a b c g L j F m d u P K p r s W)(o:I X a f)(B:∀k,X k->g<=k/\∃v w,a.heap[k]?=H (ay v 93 w)):LS f b c g L j F m d u P K p r s W:=by
 have hF:∀k,X k->¬(pT b L).F k:=λk e q=>by have:=h.aO k q;have:=(B k e).1;omega
 have t:∀k,IX b c g L k->¬X k:=λk e q=>by have:=e.1;have:=(B k q).1;omega
 have l:∀A,qi a b c g L A->∀k,cz A=H k->¬X k:=λA x k e q=>by obtain⟨S,v,w,q2⟩:=B k q;rcases(x k e).2.2.2 with Q|⟨C,N,Q⟩;omega;grind
 have n:∀A,qi a b c g L A->qi f b c g L A:=λA x k e=>by obtain⟨C,N,Q,S⟩:=x k e;exact⟨ah C o.size,N,Q,S.imp id<|λ⟨v,w,a⟩=>⟨v,w,(o.block k C<|l A x k e).trans a⟩⟩
 refine{h with D:=(pT b L).eQ h.D o hF,le:=aB h.le o.size,steps:=λac V=>o.cell (h.steps ac V) (t _ h.eL)<|ah h.eL.1 h.le,pow:=h.pow.di<|o.block _ (ah h.lf.1 h.le)<|t _ h.lf,uC:=λad O=>(h.uC ad O).QG<|λk e=>o.block k (ah e.1 h.le)<|t k e,news:=λaa E=>⟨?_,(h.news aa E).2⟩,r0:=o.row h.r0<|λk e=>⟨l _ h.b0 k e,(h.b0 k e).1⟩,r1:=o.row h.r1<|λk e=>⟨l _ h.b1 k e,(h.b1 k e).1⟩,r2:=o.row h.r2<|λk e=>⟨l _ h.b2 k e,(h.b2 k e).1⟩,r3:=o.row h.r3<|λk e=>⟨l _ h.b3 k e,(h.b3 k e).1⟩,b0:=n _ h.b0,b1:=n _ h.b1,b2:=n _ h.b2,b3:=n _ h.b3};exact RQ.other (h.news aa E).1 o<|λk e=>by grind
structure SV(w:Z)(sb:M)(s:SR)(k:U)(lb:M)(K:DK)(T0:cN)(C n:M)(ms:dN)(R0:U->ae->Option ae)(wr:Z)(v0 v1 v2 v3:ab)(a b c d:cN)(ps:cS NT):Prop where
 ls:LS wr s.aM sb (z<|G w) K T0 ps C v0 v1 v2 v3 a b c d
 lb:wr.heap[lb]?=H (ay #[v0,v1,v2,v3] 93 (0,0))
 pr:PR n (bY a b c d)
 uy:∀t,(t∈ms\/(n:U)<=t)->∀q,ft t (bY a b c d) q=R0 t q
 box:cf wr sb s k
 ap:I (K.aO s.aM) w wr
def LQ(w:Z)(a:M)(s:SR)(o:U)(d:M)(K:DK)(c:cN)(C p:M)(e:dN)(b:U->ae->Option ae)(wr:Z):Prop:=∃g h i j k l m n f,SV w a s o d K c C p e b wr g h i j k l m n f
def uF(w:Z)(a i:M):M:=match aS w (R a i)with
 |some (.slice _ n _)=>n
 |_=>0
def zX{x:Option Addr}{c:M}(h:aS a (R b g)=H (J x m c)):uF a b g=m:=by
 unfold uF;rw[h]
def SV.put{N wr d:Z}{C:U->ae->Option ae}{E F K L u0 u1 u2 u3:ab}{aa b ac ad r s t u:cN}{X l:cS NT}(v:SV N c o k g i j m x n C wr E F K L aa b ac ad X)(P:z (G N)<=g)(A:¬i.aO o.aM c)(O:LS d o.aM c (z<|G N) i j l m u0 u1 u2 u3 r s t u)(Q:PR x (bY r s t u))(V:∀B,(B∈n\/(x:U)<=B)->∀q,ft B (bY r s t u) q=ft B (bY aa b ac ad) q)(e:I (i.aO o.aM) wr d):d.heap[g]?=H (ay #[E,F,K,L] 93 (0,0))/\SV N c o k g i j m x n C (cA (cA (cA (cA d (R g 0) u0) (R g 1) u1) (R g 2) u2) (R g 3) u3) u0 u1 u2 u3 r s t u l:=by
 have w:¬i.aO o.aM g:=λq=>by have:=v.ls.aO g q;omega
 have h:=(e.block g (ar v.lb) w).trans v.lb;have a:I (λq=>q=g) d (cA (cA (cA (cA d (R g 0) u0) (R g 1) u1) (R g 2) u2) (R g 3) u3):=(((iV g d).setCell _ _ _<|.inl rfl).setCell _ _ _<|.inl rfl).setCell _ _ _<|.inl rfl;have W:c<z (G N):=v.ls.JE;refine⟨h,O.other a (λq S=>by grind),Hx h,Q,λB e q=>(V B e q).trans<|v.uy B e q,?_,?_⟩;have D:=(e.block c (ar v.box) A).trans v.box;exact(a.block c (ar D)<|λq=>by omega).trans D;exact(v.ap.trans e<|λ_ q=>.inl q).trans a<|λq S=>.inr<|by omega
def Jf.aO{g:gv}(k:Jf a i c o g)(e:I (i.aO o.aM) a B):Jf B i c o g:=by
 obtain⟨b,h,j,d⟩:=k.ex;exact⟨⟨b,h,j.di<|e.block _ d.lt d.aO,ah d.lt e.size,d.aO,d.ne⟩,k.len⟩
def LS.WV{w wr:Z}{l:cS NT}{o e:ab}{v:cN}(t:LS wr b c g i j l m d u P o p r s v)(h:I az wr w)(a:w.ownsRow (z<|G wr) 89 1 e (y n) (n.map<|Value.int .u64)):LS w b c g i j l m d u P o p r s v/\Row w 1 e (y n) (n.map<|Value.int .u64)/\∀k,cz e=H k->k<z (G w)/\¬i.aO b k:=⟨t.ap (h.mono cC)<|(pT b i).eQ t.D h cC,dE a,λk f=>⟨(bK a k f).2,λq=>by have:=t.aO k q;have:=t.le;have:=(bK a k f).1;omega⟩⟩
structure IV(w w':Z)(sb:M)(s:SR)(k:U)(n C:M)(K:DK)(ms:dN)(R0:U->ae->Option ae)(v0 v1 v2 v3:ab)(K':DK)(num:M)(a' b' c' d':cN):Prop where
 box:cf w' sb (s.settled v0 v1 v2 v3 n num) k
 st:ST w' sb (s.settled v0 v1 v2 v3 n num) K' [] a' b' c' d' C
 oa:RV (vw K'.files) (num+1) num n a' b' c' d' bj []
 pr:PR n (bY a' b' c' d')
 uy:∀t,(t∈ms\/(n:U)<=t)->∀q,ft t (bY a' b' c' d') q=R0 t q
 Fb:((a'++b'++c'++d').map bw.tb).Nodup
 dM:y K'.dM<=1000001
 num:s.next<=num/\num<=s.next+1000000
 fE:gq w w' s.aM sb K K'
def US(a:U)(b c d:cN):Prop:=(y b:U)<a/\(y c:U)<=a/\(y d:U)<=a
def Yi(a:U)(b i:M)(w:Z):Prop:=∀j,j<i->jS a j (uF w b j)=bj
def Yi.tid{K:M}{n o q F:Option Addr}{e f L t:cN}(A:Yi k b 4 a)(d:a.heap[b]?=H (ay #[J n (y j) g,J o (y p) m,J q (y r) O,J F c K] 93 (0,0)))(B:YA j p r L s e f t):US k s e f:=by
 have h:=A 0 (by omega);have i:=A 1 (by omega);have l:=A 2 (by omega);rw[zX (x:=n) (c:=g)<|(bV d).trans rfl]at h;rw[zX (x:=o) (c:=m)<|(bV d).trans rfl]at i;rw[zX (x:=q) (c:=O)<|(bV d).trans rfl]at l;obtain⟨u,v,w,_⟩:=B;have C:=bQ y u;have D:=bQ y v;have E:=bQ y w;simp only[df]at C D E;simp[jS]at h i l;unfold US;omega
def PR.mono(h:PR c l)(d:c<=g):PR g l:=⟨h.oY,h.mh,h.iH,λx a=>by have:=h.low x a;omega⟩
def Df(lb:M)(al ac:M)(ms:dN)(W:U->ae->Option ae)(wr:Z)(C D E F:ab)(an b ad ao:cN)(ps:cS NT)(u:SV a c o k lb i (j++p++r++s) al ac ms W wr C D E F an b ad ao ps)(h0:cf a c o k)(d:ST a c o i e j p r s g)(hI:RV (vw i.files) o.next o.log m j p r s o.fa l)(S:y (jg ((m:U)+1) l)<=200000)(hn:ac<1000000000000000)(Q:o.next<=900000000000000)(P:y i.dM<=10000000000):cD aZ 112 #[aA c,dD #[C,D,E,F],aE ac] wr λau w'=>au=aJ .nilIface/\∃K num v w x A,IV a w' c o k ac al i ms W C D E F K num v w x A/\YA an b ad ao v w x A:=by
 obtain⟨K1,L,N,e1,e2,X⟩:=u.ls.WM;have aa:=d.count;have V:y (j++p++r++s)<=1000000:=by have B:=d.qp;have h2:=d.oO;have:=kW<|λaD t=>(d.l0.each aD t).pure;have:=kW d.s1.pure;have:=kW d.s2.pure;have:=kW d.s3.pure;grind
 have O:Cy wr c 10 [(o.l0,j),(o.l1,p),(o.l2,r),(o.l3,s)]:=by refine(d.WY h0).ap u.ap d.yO<|λB hi f h=>?_;(have:B=0\/B=1\/B=2\/B=3:=by grind);rcases this with rfl|rfl|rfl|rfl;exact(d.l0.loc f h).aO;exact(d.l1.loc f h).aO;exact(d.l2.loc f h).aO;exact(d.l3.loc f h).aO
 have ax:=u.ls.JE;refine(NY (z<|G a) al ac m ps C D E F an b ad ao j p r s l u.box L O N (λq=>d.yO<|X c q) (by rw[e1];exact hI) S hn Q (by rw[e2];exact P) V ?_ ?_).mono ?_;obtain⟨B,ad,au⟩:=bN d.mem;grind
 have B:∀f,Aside a i o.aM c f->IX o.aM c (z<|G a) K1 f:=λf q=>⟨q.lt,λav=>q.aO<|X f av,q.ne⟩;rintro aF(rfl|rfl|rfl|rfl)f h;exact B _<|d.l0.loc f h;exact B _<|d.l1.loc f h;exact B _<|d.l2.loc f h;exact B _<|d.l3.loc f h;rintro au w'⟨rfl,K,num,v,w,x,A,n,t⟩;have hz:=u.ap.size;refine⟨rfl,K,num,v,w,x,A,⟨n.box,n.st,n.oa,by rw[n.rows];exact u.pr,λaD t q=>by rw[n.rows];exact u.uy aD t q,n.Fb,n.dM,n.num,n.st.aM,?_,?_⟩,n.al⟩;refine(u.ap.mono (T:=λf=>i.aO o.aM f\/f=c)<|λ_ q=>.inl<|.inl q).trans t<|λf q=>?_;rcases q with(q|⟨aF,B,q⟩)|q;(grind);refine .inr ?_;rcases q with q|q;exact((u.ls.news aF B).1.lt f<|.inl q).1;exact((u.ls.news aF B).1.lt f<|.inr<|.inr q).1;grind
 intro f q;rcases n.aO f q with av|av;(grind);grind
def LQ.step{aU wr:Z}{N:gv}{R0:U->ae->Option ae}(hS:LQ aU b o k c i j g m (sC N) R0 wr)(au:z (G aU)<=c)(av:¬i.aO o.aM b)(X:Jf aU i b o N)(aF:2<=o.nN)(aa:M)(hi:aa<4):∃(v w x A:Option Addr)(n0 n1 n2 n3 B C D E:M)(bc:Option Addr)(ad al:M)(bb:Bool),wr.heap[c]?=H (ay #[J v n0 B,J w n1 C,J x n2 D,J A n3 E] 93 (0,0))/\(#[J v n0 B,J w n1 C,J x n2 D,J A n3 E]:Array ab)[aa]?=H (J bc ad al)/\(cD aZ 61 #[aA b,aq (aa:M),J bc ad al] wr λS w2=>S=aJ (aK bb)/\w2=wr)/\(bb=ci->∀(t:Z)(Q:Option Addr)(O:M)(n:dN),I az wr t->t.ownsRow (z<|G wr) 89 1 (J Q (y n) O) (y n) (n.map<|Value.int .u64)->n.Perm (sC N)->cD aZ 111 #[dD #[J v n0 B,J w n1 C,J x n2 D,J A n3 E],aq (aa:M),J Q (y n) O] t λS w2=>∃(r0 r1 r2 r3:Option Addr)(m0 m1 m2 m3 t0 t1 t2 t3:M),S=aJ (dd #[dD #[J r0 m0 t0,J r1 m1 t1,J r2 m2 t2,J r3 m3 t3],.nilIface])/\w2.heap[c]?=H (ay #[J v n0 B,J w n1 C,J x n2 D,J A n3 E] 93 (0,0))/\LQ aU b o k c i j g m (sC N) R0 (cA (cA (cA (cA w2 (R c 0)<|J r0 m0 t0) (R c 1)<|J r1 m1 t1) (R c 2)<|J r2 m2 t2) (R c 3)<|J r3 m3 t3)/\uF (cA (cA (cA (cA w2 (R c 0)<|J r0 m0 t0) (R c 1)<|J r1 m1 t1) (R c 2)<|J r2 m2 t2) (R c 3)<|J r3 m3 t3) c aa<uF wr c aa/\∀ac,ac<aa->uF (cA (cA (cA (cA w2 (R c 0)<|J r0 m0 t0) (R c 1)<|J r1 m1 t1) (R c 2)<|J r2 m2 t2) (R c 3)<|J r3 m3 t3) c ac=uF wr c ac)/\bb=jS o.nN aa (uF wr c aa)/\∀ao,I az wr ao->cD aZ 104 #[aA b] ao λS w2=>∃P,∃n:dN,S=aJ P/\n.Perm (sC N)/\w2.ownsRow (z<|G wr) 89 1 P (y n) (n.map<|Value.int .u64)/\I az wr w2:=by
 obtain⟨v0,v1,P,v3,aV,ax,aD,ba,ps,d⟩:=hS;obtain⟨v,B,rfl⟩:=bN d.ls.r0;obtain⟨w,C,rfl⟩:=bN d.ls.r1;obtain⟨x,D,rfl⟩:=bN d.ls.r2;obtain⟨A,E,rfl⟩:=bN d.ls.r3;have L:∀ao,I az wr ao->cD aZ 104 #[aA b] ao λS w2=>∃P,∃n:dN,S=aJ P/\n.Perm (sC N)/\w2.ownsRow (z<|G wr) 89 1 P (y n) (n.map<|Value.int .u64)/\I az wr w2:=λao hW=>by obtain⟨mb,m1,m2,m3⟩:=(X.aO d.ap).ex;apply(wL (b:=mb) N ((hW.block b (ar d.box) id).trans d.box) m1 (m2.di<|hW.block _ m3.lt id) X.len).mono;rintro S w2⟨P,n,rfl,l1,l2,l3⟩;exact⟨P,n,rfl,l1,fM l2 hW.size,hW.bW l3⟩
 have h4:∀n:dN,n.Perm (sC N)->y n<=4:=λn s=>by have:=s.length_eq;rw[qu]at this;have:=X.len;omega
 have fin:=λ(t w2:Z)(n:dN)(u0 u1 u2 u3:ab)(a c c' e:cN)(l:cS NT)(K:I az wr t)(s:n.Perm (sC N))(p:LS w2 o.aM b (z<|G aU) i j l g u0 u1 u2 u3 a c c' e)(f:PR m (bY a c c' e))(h:∀an,(an∈n\/(m:U)<=an)->∀q,ft an (bY a c c' e) q=ft an (bY aV ax aD ba) q)(r:I (i.aO o.aM) t w2)=>d.put au av p f (λan u=>h an<|u.imp_left<|λq=>s.mem_iff.2 q)<|(K.mono (T:=i.aO o.aM) cC).trans r<|λ_ q=>.inl q;have a:∀{ao:Z}{u0 u1 u2 u3:ab}(ac:M)(r:Option Addr)(m an:M),ao.heap[c]?=H (ay #[u0,u1,u2,u3] 93 (0,0))->#[u0,u1,u2,u3][ac]?=H (J r m an)->uF ao c ac=m:=λac r m an b d=>zX (x:=r) (c:=an)<|(bV b).trans d;rcases(show aa=0\/aa=1\/aa=2\/aa=3 by omega)with rfl|rfl|rfl|rfl;refine⟨v,w,x,A,_,_,_,_,B,C,D,E,v,y aV,B,_,d.lb,rfl,mJ 0 (y aV) v B d.box (by omega),λV t Q O n K ho s=>?_,by rw[a 0 _ _ _ d.lb rfl],L⟩;(have e:0<y aV:=by unfold jS at V;grind);have u:=d.ls.WV K ho;apply(u.1.Yb d.pr e n Q O u.2.1 u.2.2<|h4 n s).mono;rintro S w2⟨x',n',c',tm,l,rfl,p,f,h,r⟩;obtain⟨x1,F⟩:=fin t w2 n _ _ _ _ _ _ _ _ l K s p f h r;exact⟨_,_,_,_,_,_,_,_,_,_,_,_,rfl,x1,⟨_,_,_,_,_,_,_,_,l,F⟩,by rw[a 0 _ _ _ F.lb rfl,a 0 _ _ _ d.lb rfl];omega,λac hj=>by omega⟩;refine⟨v,w,x,A,_,_,_,_,B,C,D,E,w,y ax,C,_,d.lb,rfl,mJ 1 (y ax) w C d.box (by omega),λV t Q O n K ho s=>?_,by rw[a 1 _ _ _ d.lb rfl],L⟩;(have e:0<y ax:=by unfold jS at V;grind);have u:=d.ls.WV K ho;apply(u.1.Ya d.pr e n Q O u.2.1 u.2.2<|h4 n s).mono;rintro S w2⟨xl,nl,cl,x',n',c',b2,c2,l,rfl,p,W,f,h,r⟩;obtain⟨x1,F⟩:=fin t w2 n _ _ _ _ _ _ _ _ l K s p f h r;obtain⟨_,_,S⟩:=bN p.r1;cases S;exact⟨_,_,_,_,_,_,_,_,_,_,_,_,rfl,x1,⟨_,_,_,_,_,_,_,_,l,F⟩,by rw[a 1 _ _ _ F.lb rfl,a 1 _ _ _ d.lb rfl];omega,λac hj=>by obtain rfl:ac=0:=(by omega);rw[a 0 _ _ _ F.lb rfl,a 0 _ _ _ d.lb rfl]⟩;refine⟨v,w,x,A,_,_,_,_,B,C,D,E,x,y aD,D,_,d.lb,rfl,mJ 2 (y aD) x D d.box (by omega),λV t Q O n K ho s=>?_,by rw[a 2 _ _ _ d.lb rfl],L⟩;(have e:0<y aD:=by unfold jS at V;grind);have u:=d.ls.WV K ho;apply(u.1.XZ d.pr e n Q O u.2.1 u.2.2<|h4 n s).mono;rintro S w2⟨xl,nl,cl,x',n',c',c2,d2,l,rfl,p,W,f,h,r⟩;obtain⟨x1,F⟩:=fin t w2 n _ _ _ _ _ _ _ _ l K s p f h r;obtain⟨_,_,S⟩:=bN p.r2;cases S;exact⟨_,_,_,_,_,_,_,_,_,_,_,_,rfl,x1,⟨_,_,_,_,_,_,_,_,l,F⟩,by rw[a 2 _ _ _ F.lb rfl,a 2 _ _ _ d.lb rfl];omega,λac hj=>by rcases(show ac=0\/ac=1 by omega)with rfl|rfl;(rw[a 0 _ _ _ F.lb rfl,a 0 _ _ _ d.lb rfl]);(rw[a 1 _ _ _ F.lb rfl,a 1 _ _ _ d.lb rfl])⟩;refine⟨v,w,x,A,_,_,_,_,B,C,D,E,A,y ba,E,_,d.lb,rfl,mJ 3 (y ba) A E d.box (by omega),λV=>?_,by rw[a 3 _ _ _ d.lb rfl],L⟩;simp[jS]at V
