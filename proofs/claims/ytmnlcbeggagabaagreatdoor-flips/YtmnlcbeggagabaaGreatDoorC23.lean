import Derived.Test.YtmnlcbeggagabaaGreatDoorC21
import Derived.Test.YtmnlcbeggagabaaGreatDoorC22
open _root_ renaming List.length→y,Option.some→H,Array.size→z,Go.World.heap→G,Go.Value.ownBlock→cz,Bool.false→bj,Bool.true→ci,Nat→M,Int→U,List→cS,Go.Calls→cD,Go.Proofs.Tryz.prog→aZ,Go.Value.slice→J,Go.Value.tuple→dd,Go.Value.agg→dD
namespace Go.Proofs.YtmnlcbeggagabaaGreatDoor
open ChangeShapes WideShapes RowKit Proofs.Tryz List
set_option maxHeartbeats 16000000
set_option linter.all false
set_option maxRecDepth 100000
theorem qF.QG{w w':Z}{db:M}{m:Fs}{A:eT}{t:bw}(l:qF w db m A t)(o:∀r,A r->w'.heap[r]?=w.heap[r]?):qF w' db m A t:=by
 obtain⟨p,k,j,q,n⟩:=l.mem;exact⟨⟨p,k,j,q.di (o _ l.loc)<|o _ n,n⟩,l.loc,l.ks,l.num,l.pure,l.idx,l.small,l.file⟩
structure LX(t:bw):Prop where
 pure:tg t.ks t.cs
 idx:Jb (bI 0 t.cs)
 small:y (dw t.cs)<=100000
def IX(db sbqq baseqq:M)(K:DK)(k:M):Prop:=k<baseqq/\¬K.aO db k/\k≠sbqq
def XT(e:cN)(ps:cS NT)(t:bw):Prop:=t∈e\/∃p∈ps,p.t=t
def qi(w:Z)(db sbqq baseqq:M)(K:DK)(v:ab):Prop:=∀k,cz v=H k->k<z (G w)/\¬K.aO db k/\k≠sbqq/\(k<baseqq\/∃j l,w.heap[k]?=H (ay j 189 l))
theorem qi.ap{w w':Z}{db sbqq baseqq:M}{K:DK}{v:ab}(n:qi w db sbqq baseqq K v)(l:I (K.aO db) w w'):qi w' db sbqq baseqq K v:=λq m=>by
 obtain⟨j,k,o,p⟩:=n q m;exact⟨ah j l.size,k,o,p.imp id<|λ⟨m,n,r⟩=>⟨m,n,(l.block q j k).trans r⟩⟩
structure LS(w:Z)(db sb base:M)(K:DK)(e:cN)(ps:cS NT)(C:M)(g h i f:ab)(a b c d:cN):Prop where
 D:(pT db K).D w
 le:base<=z (G w)
 aO:∀k,K.aO db k->k<base
 JE:sb<base
 steps:Steps w
 pow:Pow w
 eL:IX db sb base K 1
 lf:IX db sb base K 2
 uC:∀t∈e,qF w db (vw K.files) (IX db sb base K) t
 news:∀p∈ps,p.Ok w base/\LX p.t
 apart:ps.Pairwise NT.mL
 r0:Row w 1 g (y a) (a.map bw.ptr)
 r1:Row w 1 h (y b) (b.map bw.ptr)
 r2:Row w 1 i (y c) (c.map bw.ptr)
 r3:Row w 1 f (y d) (d.map bw.ptr)
 b0:qi w db sb base K g
 b1:qi w db sb base K h
 b2:qi w db sb base K i
 b3:qi w db sb base K f
 x0:∀t∈a,XT e ps t
 x1:∀t∈b,XT e ps t
 x2:∀t∈c,XT e ps t
 x3:∀t∈d,XT e ps t
 nodup:((a++b++c++d).map bw.tb).Nodup
 s1:jV b
 s2:jV c
 s3:jV d
 qp:y (bZ a)+y (bZ b)+y (bZ c)+y (bZ d)<=C
 oO:C<=1000000
section
variable{w w':Z}{db sbqq baseqq C:M}{K:DK}{e:cN}{ps:cS NT}{g h i f:ab}{a b c d:cN}
theorem XT.more{t:bw}(j:XT e ps t)(l:cS NT):XT e (ps++l) t:=by
 rcases j with j|⟨p,k,m⟩;exact .inl j;exact .inr ⟨p,by simp[k],m⟩
theorem LS.ap(j:LS w db sbqq baseqq K e ps C g h i f a b c d)(l:I (K.aO db) w w')(n:(pT db K).D w'):LS w' db sbqq baseqq K e ps C g h i f a b c d where
 D:=n
 le:=aB j.le l.size
 aO:=j.aO
 JE:=j.JE
 steps:=λm k=>l.cell (j.steps m k) j.eL.2.1<|ah j.eL.1 j.le
 pow:=j.pow.di<|l.block _ (ah j.lf.1 j.le) j.lf.2.1
 eL:=j.eL
 lf:=j.lf
 uC:=λt n=>(j.uC t n).QG<|λm k=>l.block m (ah k.1 j.le) k.2.1
 news:=λp n=>⟨(j.news p n).1.ap l (λm k c=>by have:=((j.news p n).1.lt m k).1;have:=j.aO m c;omega),(j.news p n).2⟩
 apart:=j.apart
 r0:=l.row j.r0<|λm k=>⟨(j.b0 m k).2.1,(j.b0 m k).1⟩
 r1:=l.row j.r1<|λm k=>⟨(j.b1 m k).2.1,(j.b1 m k).1⟩
 r2:=l.row j.r2<|λm k=>⟨(j.b2 m k).2.1,(j.b2 m k).1⟩
 r3:=l.row j.r3<|λm k=>⟨(j.b3 m k).2.1,(j.b3 m k).1⟩
 b0:=j.b0.ap l
 b1:=j.b1.ap l
 b2:=j.b2.ap l
 b3:=j.b3.ap l
 x0:=j.x0
 x1:=j.x1
 x2:=j.x2
 x3:=j.x3
 nodup:=j.nodup
 s1:=j.s1
 s2:=j.s2
 s3:=j.s3
 qp:=j.qp
 oO:=j.oO
theorem LS.WN(l:LS w db sbqq baseqq K e ps C g h i f a b c d){t:bw}(j:XT e ps t):tg t.ks t.cs:=by
 rcases j with j|⟨p,k,rfl⟩;exact(l.uC t j).pure;exact(l.news p k).2.pure
theorem LS.UW(l:LS w db sbqq baseqq K e ps C g h i f a b c d){t:bw}(j:XT e ps t):mV (pT db K) (z<|G w) t.tb t.ks t.cs w:=by
 have A:=l.le;have o:1<z (G w)/\¬(pT db K).F 1:=⟨by have:=l.eL.1;omega,l.eL.2.1⟩;rcases j with j|⟨p,D,rfl⟩;obtain⟨u,n,k,B,s⟩:=(l.uC t j).mem;obtain⟨E,x,m⟩:=gR (l.uC t j).file;refine mV.OA False db K.files K.dM (K.aO db) (z<|G w) t.tb t.num (l.uC t j).num _ _ _ u n k aw t.ks t.cs E (eO<|bI 0 t.cs) w B (l.uC t j).pure x (by rw[m];rfl) (λL v=>.inl (by rw[m];exact zb _ _ L v)) ?_ ⟨by have:=(l.uC t j).loc.1;omega,(l.uC t j).loc.2.1⟩ ⟨by have:=s.1;omega,s.2.1⟩ l.steps o l.pow ⟨by have:=l.lf.1;omega,l.lf.2.1⟩;rw[m];have F:=kR<|λr q=>((l.uC t j).idx.can r q).fits;have:=(l.uC t j).small;have:=(l.uC t j).idx.len;unfold kS eO;rw[ag,ag,bU];omega;obtain⟨k,n⟩:=l.news p D;have u:=k.lt;have s:∀r,p.has r->r<z (G w)/\¬(pT db K).F r:=λr q=>⟨(u r q).2,λc=>by have:=l.aO r c;have:=(u r q).1;omega⟩;(have m:y (dw p.t.cs)<=p.Fj:=by rcases k.data.2 with⟨c,_⟩|⟨E,v,x,c,_,_,B,_⟩;cases c;grind);exact mV.WT (pT db K) (z<|G w) p.t.tb 0 0 0 0 p.bb 0 p.vV p.x 0 p.Fj p.t.ks p.t.cs w k.mem n.pure (eE.bytes k.data) m (by have:=n.small;omega) (s _<|.inl rfl) (s _<|.inr<|.inl rfl) (s _<|.inr<|.inr rfl) l.steps o
theorem LS.count(j:LS w db sbqq baseqq K e ps C g h i f a b c d):y a+y b+y c+y d<=1000000:=by
 have:=j.qp;have:=j.oO;have:=kW<|λt k=>j.WN<|j.x0 t k;have:=kW j.s1.pure;have:=kW j.s2.pure;have:=kW j.s3.pure;omega
theorem LS.XU(j:LS w db sbqq baseqq K e ps C g h i f a b c d):rB (pT db K) (z<|G w) h b w:=⟨j.r1,λm k=>⟨(j.b1 m k).1,(j.b1 m k).2.1⟩,λt l=>j.UW<|j.x1 t l,j.s1,by have:=j.count;omega⟩
theorem LS.XR(j:LS w db sbqq baseqq K e ps C g h i f a b c d):rB (pT db K) (z<|G w) i c w:=⟨j.r2,λm k=>⟨(j.b2 m k).1,(j.b2 m k).2.1⟩,λt l=>j.UW<|j.x2 t l,j.s2,by have:=j.count;omega⟩
theorem LS.YQ(j:LS w db sbqq baseqq K e ps C g h i f a b c d):rB (pT db K) (z<|G w) f d w:=⟨j.r3,λm k=>⟨(j.b3 m k).1,(j.b3 m k).2.1⟩,λt l=>j.UW<|j.x3 t l,j.s3,by have:=j.count;omega⟩
theorem vE{j:cN}(n:∀t∈j,t.ks=bI 0 t.cs):jT j=y (bZ j):=by
 induction j with
 |nil=>rfl
 |cons t r m=>
  have k:=m (λu j=>n u<|by simp[j]);have l:=n t (by simp);unfold jT at k|-;rw[cr,tQ,k,xW,ag,l,Bu];rfl
theorem LS.ks(l:LS w db sbqq baseqq K e ps C g h i f a b c d){t:bw}(j:XT e ps t):t.ks=bI 0 t.cs:=by
 rcases j with j|⟨p,k,rfl⟩;exact(l.uC t j).ks;exact(l.news p k).1.ks
theorem Dr{l n:M}{v:ab}{o:iF}(p:Row w l v n o)(r:0<n):∃b j k,v=aY b j n k/\n<=k:=by
 rcases p.2 with⟨_,q⟩|⟨b,j,k,s,m,_⟩;omega;grind
theorem LS.oY{m:cN}{D:cI}(v:LS w db sbqq baseqq K e ps C g h i f a b c d)(O:I (K.aO db) w w')(A:pU w' (z<|G w) m)(F:m.map bw.all=gL D)(N:dK D)(t:qE 5 D)(E:∀X∈D,X.Good):∃l:cS NT,l.map NT.t=m/\(∀p∈ps++l,p.Ok w' baseqq/\LX p.t)/\(ps++l).Pairwise NT.mL/\(∀B∈m,XT e (ps++l) B)/\(∀B∈m,z (G w)<=B.tb)/\(m.map bw.tb).Nodup:=by
 have L:=xM F A.each N t E;obtain⟨l,n,o,x⟩:=A;have s:∀p∈ps,∀u,p.has u->u<z (G w):=λp j u r=>((v.news p j).1.lt u r).2;refine⟨l,n,λp j=>?_,?_,λB k=>?_,λB k=>?_,?_⟩;rcases aG.1 j with c|c;exact⟨(v.news p c).1.ap O (λu r d=>by have:=((v.news p c).1.lt u r).1;have:=v.aO u d;omega),(v.news p c).2⟩;obtain⟨P,Q,S,T⟩:=L p.t (by rw[<-n];grind);refine⟨(o p c).base v.le,P,Q,?_⟩;have V:=(o p c).pieces.data;have W:=(o p c).pieces.length;omega;rw[bP];exact⟨v.apart,x,λp j q l u r k=>by have:=s p j u r;have:=((o q l).lt u k).1;omega⟩;rw[<-n]at k;obtain⟨p,j,rfl⟩:=bM.1 k;exact .inr ⟨p,by simp[j],rfl⟩;rw[<-n]at k;obtain⟨p,j,rfl⟩:=bM.1 k;exact(o p j).new;rw[<-n,iP];unfold List.Nodup;rw[jX];refine x.imp<|λ{p q}j k=>j p.t.tb (.inl rfl)<|.inl k
theorem XT.qf(k:LS w db sbqq baseqq K e ps C g h i f a b c d){t:bw}(j:XT e ps t):t.tb<z (G w):=by
 rcases j with j|⟨p,l,rfl⟩;have:=(k.uC t j).loc.1;have:=k.le;omega;exact((k.news p l).1.lt _<|.inl rfl).2
theorem Oo{j:cN}(k:∀t∈j,tg t.ks t.cs)(l:dK (bZ j))(m:(j.map bw.all).Pairwise gS):jV j:=⟨k,l,m⟩
theorem vi{j s:M}{v:ab}{o:iF}(m:w'.ownsRow (z<|G w) 189 j v s o)(r:∀k,K.aO db k->k<baseqq)(n:sbqq<baseqq)(q:baseqq<=z (G w)):qi w' db sbqq baseqq K v:=λk l=>by
 have p:=m.lt k l;grind[fR]
end
theorem Ro{n:M}{a b c d:cN}(k:PR n (bY a b c d)):dK (cL<|bZ b::a.map bw.all):=by
 have j:bY a b c d=[]++((a.map bw.all).reverse++[bZ b])++[bZ c,bZ d]:=by simp[bY]
 rw[j]at k;exact(yE (ms:=[]) (lowest:=bj) (λr j=>k.row r<|by grind) (k.row _<|by simp) (bP.1 k.oY).1).1
theorem OE{u v j:cN}{o:M}(q:jV u)(r:jV v)(p:Over (bZ u) (bZ v))(l:o<y u)(n:j.Sublist v):dK (cL<|bZ j::[u[o]].map bw.all):=by
 have k:∀t∈[u[o].all,bZ j],dK t:=by intro t s;simp only[bR,gW,oe]at s;rcases s with rfl|rfl;exact q.each<|ak l;exact r.mh.sub<|nG n
 have m:jL [u[o].all,bZ j]:=Nb<|λx q k r=>p x (lY.2 ⟨_,ak l,q⟩) k<|(nG n).subset r;show dK (cL [bZ j,u[o].all]);rw[sJ k m<|List.Perm.swap _ _ _];exact oF k m
theorem LS.Yb{w:Z}{db sbqq baseqq C an:M}{K:DK}{e:cN}{ps:cS NT}{g h i f:ab}{a b c d:cN}(j:LS w db sbqq baseqq K e ps C g h i f a b c d)(W:PR an (bY a b c d))(ha:0<y a)(o:dN)(P:Option Addr)(O:M)(hm:Row w 1 (J P (y o) O) (y o) (o.map<|Value.int .u64))(V:∀v,cz (J P (y o) O)=H v->v<z (G w)/\¬K.aO db v)(E:y o<=4):cD aZ 111 #[dD #[g,h,i,f],aq 0,J P (y o) O] w λad w'=>∃Q k N,∃x:cN,∃aa,ad=aJ (dd #[dD #[aw,J Q k N,i,f],.nilIface])/\LS w' db sbqq baseqq K e aa C aw (J Q k N) i f [] x c d/\PR an (bY [] x c d)/\(∀A,(A∈o\/(an:U)<=A)->∀v,ft A (bY [] x c d) v=ft A (bY a b c d) v)/\I (K.aO db) w w':=by
 obtain⟨b0,o0,c0,rfl,al⟩:=Dr j.r0 ha;obtain⟨x1,c1,rfl⟩:=bN j.r1;obtain⟨x2,c2,rfl⟩:=bN j.r2;obtain⟨x3,c3,rfl⟩:=bN j.r3;have B:∀ac∈cL (bZ b::a.map bw.all),ac.Good:=by intro ac X;have:=(eH _).mem_iff.1 X;rw[bO,aG]at this;refine W.iH ac ?_;unfold bY;rw[eK,aG];grind[mem_flatten]
 have q:y (cL<|bZ b::a.map bw.all)<=1000000:=by have S:=(eH<|bZ b::a.map bw.all).length_eq;rw[bO,ag]at S;have h2:(a.map bw.all).flatten=bZ a:=rfl;rw[h2]at S;have:=j.qp;have:=j.oO;omega
 have F:=Ro W;refine(Rp (λj=>j) b0 o0 c0 x1 x2 x3 _ _ _ c1 c2 c3 a c d j.r0 ⟨(j.b0 _ rfl).1,(j.b0 _ rfl).2.1⟩ (λA L=>j.UW<|j.x0 A L) j.XU j.r2 j.r3 (λv p=>⟨(j.b2 v p).1,(j.b2 v p).2.1⟩) (λv p=>⟨(j.b3 v p).1,(j.b3 v p).2.1⟩) j.D (ai _) (λv p=>by have:=j.aO v p;have:=j.le;omega) j.steps ⟨by have:=j.eL.1;have:=j.le;omega,j.eL.2.1⟩ j.count o P O hm V E _ rfl F B q).mono ?_;rintro ad w'⟨Q,k,N,x,rfl,r,l,m,T,L⟩;obtain⟨_,s,p1,p2,p3⟩:=NH W l;obtain⟨_,t,D,_⟩:=sI (ms:=o) (lowest:=c.isEmpty&&d.isEmpty) F B q E;obtain⟨qs,q0,q1,q2,q3,q4,q5⟩:=j.oY L m l s t D;have u:jV x:=FG l m.each s t D;refine⟨Q,k,N,x,ps++qs,rfl,?_,p1,p2,L⟩;have h':=j.ap L T;refine{h' with news:=q1,apart:=q2,r0:=⟨rfl,.inl ⟨rfl,rfl⟩⟩,r1:=dE r,b0:=?_,b1:=vi r j.aO j.JE j.le,x0:=?_,x1:=q3,x2:=λA n=>(h'.x2 A n).more qs,x3:=λA n=>(h'.x3 A n).more qs,nodup:=?_,s1:=u,qp:=?_};intro v p;cases p;grind
 rw[de,bz,aR,jd];have hn:=j.nodup;rw[bz,aR,jd]at hn;refine⟨q5,hn.2.1,λac X au hy ad=>?_⟩;obtain⟨A,n,rfl⟩:=bM.1 X;obtain⟨ao,hu,rfl⟩:=bM.1 hy;have S:=q4 A n;(have h2:ao.tb<z (G w):=by rcases aG.1 hu with c|c;exact XT.qf j<|j.x2 ao c;exact XT.qf j<|j.x3 ao c);omega;have:=j.qp;have e0:y (bZ ([]:cN))=0:=rfl;omega
theorem LS.Ya{w:Z}{db sbqq baseqq C aD:M}{K:DK}{e:cN}{ps:cS NT}{g h i f:ab}{a b c d:cN}(j:LS w db sbqq baseqq K e ps C g h i f a b c d)(hp:PR aD (bY a b c d))(hb:0<y b)(u:dN)(mx:Option Addr)(mc:M)(hm:Row w 1 (J mx (y u) mc) (y u) (u.map<|Value.int .u64))(an:∀O,cz (J mx (y u) mc)=H O->O<z (G w)/\¬K.aO db O)(T:y u<=4):cD aZ 111 #[dD #[g,h,i,f],aq 1,J mx (y u) mc] w λaa w'=>∃xl nl cl xm n cm,∃b' c':cN,∃au,aa=aJ (dd #[dD #[g,J xl nl cl,J xm n cm,f],.nilIface])/\LS w' db sbqq baseqq K e au C g (J xl nl cl) (J xm n cm) f a b' c' d/\y b'+1=y b/\PR aD (bY a b' c' d)/\(∀t,(t∈u\/(aD:U)<=t)->∀O,ft t (bY a b' c' d) O=ft t (bY a b c d) O)/\I (K.aO db) w w':=by
 obtain⟨b0,o0,c0,rfl,ad⟩:=Dr j.r1 hb;obtain⟨x1,c1,rfl⟩:=bN j.r0;obtain⟨x2,c2,rfl⟩:=bN j.r2;obtain⟨x3,c3,rfl⟩:=bN j.r3;have al:∀l(v:l<y b)(s:cN),s.Sublist c->∀N∈(bZ s::[b[l]].map bw.all).flatten,N∈bZ b\/N∈bZ c:=by intro l v s hw N P;simp only[cr,gQ,bO,iA,dO,aG]at P;grind[nG,lY,getElem_mem]
 have E:∀N,N∈bZ b\/N∈bZ c->N.Good:=λN P=>hp.iH N (by unfold bY;rw[eK,aG];grind);have o:∀l(v:l<y b)(s:cN),s.Sublist c->dK (cL<|bZ s::[b[l]].map bw.all)/\(∀N∈cL (bZ s::[b[l]].map bw.all),N.Good)/\y (cL<|bZ s::[b[l]].map bw.all)<=1000000:=by intro l v s hw;refine⟨OE j.s1 j.s2 (CC (C:=(a.map bw.all).reverse) (D:=[bZ d]) (by have:=hp.oY;simpa[bY]using this)) v hw,λN P=>E N<|al l v s hw N<|(eH _).mem_iff.1 P,?_⟩;have h1:=(eH<|bZ s::[b[l]].map bw.all).length_eq;simp only[cr,gQ,bO,iA,dO,ag]at h1;have h2:=(nG hw).length_le;(have L:y b[l].all<=y (bZ b):=by have:=(nG (us:=[b[l]]) (ts:=b)<|uS.2<|ak v).length_le;simpa[bZ]using this);have:=j.qp;have:=j.oO;grind
 refine(Es (λj=>j) b0 o0 c0 x2 x1 x3 _ _ _ _ _ _ a d j.XU ad hb j.XR j.r0 j.r3 (λO F=>⟨(j.b0 O F).1,(j.b0 O F).2.1⟩) (λO F=>⟨(j.b3 O F).1,(j.b3 O F).2.1⟩) j.D (ai _) (λO F=>by have:=j.aO O F;have:=j.le;omega) j.steps ⟨by have:=j.eL.1;have:=j.le;omega,j.eL.2.1⟩ (by have:=j.count;omega) (by rw[vE<|λt X=>j.ks<|j.x2 t X];have:=j.qp;have:=j.oO;omega) _ (.inl ⟨rfl,rfl,rfl,rfl,rfl,rfl,rfl⟩) o u mx mc hm an T).mono ?_;rintro aa w'⟨xl,nl,cl,xm,n,cm,x,l,v,Q,q,rfl,hcut,V,W,m,p,ac,X⟩;obtain⟨p1,p2,p3,p0,p4,p5⟩:=NG hp j.s1 j.s2 v hcut m;rw[lE m]at p3 p4;obtain⟨s1,s2,s3⟩:=o l v _ ((mZ _ _).trans (jZ _ _):(List.take (q-Q)<|List.drop Q _).Sublist _);obtain⟨_,B,_,_⟩:=sI (ms:=u) (lowest:=d.isEmpty) s1 s2 s3 T;obtain⟨qs,q0,q1,q2,q3,q4,q5⟩:=j.oY X p m p3 B p4;have ax:=xM m p.each p3 B p4;have r:(b.take l++b.drop (l+1)).Sublist b:=by grind[Rt,append_assoc,sublist_append_right]
 have ao:(c.take Q++c.drop q).Sublist c:=by grind[VH,yA.le,append_assoc,sublist_append_right]
 refine⟨xl,nl,cl,xm,n,cm,b.take l++b.drop (l+1),c.take Q++x++c.drop q,ps++qs,rfl,?_,by simp;omega,p1,p2,X⟩;have h':=j.ap X ac;have A:∀t∈c.take Q++x++c.drop q,t∈c\/t∈x:=by grind
 refine{h' with news:=q1,apart:=q2,r1:=dE V,r2:=dE W,b1:=vi V j.aO j.JE j.le,b2:=vi W j.aO j.JE j.le,x0:=λt k=>(h'.x0 t k).more qs,x1:=λt k=>(h'.x1 t<|r.subset k).more qs,x2:=?_,x3:=λt k=>(h'.x3 t k).more qs,nodup:=?_,s1:=j.s1.sub r,s2:=?_,qp:=?_};intro t k;rcases A t k with aa|aa;exact(h'.x2 t aa).more qs;exact q3 t aa;(have hn:((a++(b.take l++b.drop (l+1))++(c.take Q++c.drop q)++d).map bw.tb).Nodup:=by refine List.Nodup.sublist (List.Sublist.map _ ?_) j.nodup;grind);(have L:(a++(b.take l++b.drop (l+1))++(c.take Q++x++c.drop q)++d).Perm (x++(a++(b.take l++b.drop (l+1))++(c.take Q++c.drop q)++d)):=by(have S:a++(b.take l++b.drop (l+1))++(c.take Q++x++c.drop q)++d=(a++(b.take l++b.drop (l+1))++c.take Q)++x++(c.drop q++d):=by grind);(have e2:x++(a++(b.take l++b.drop (l+1))++(c.take Q++c.drop q)++d)=x++(a++(b.take l++b.drop (l+1))++c.take Q)++(c.drop q++d):=by grind);rw[S,e2];exact uU _ pX);rw[(L.map bw.tb).nodup_iff,aR,jd];refine⟨q5,hn,λN P aF hy aa=>?_⟩;obtain⟨t,k,rfl⟩:=bM.1 P;obtain⟨av,hu,rfl⟩:=bM.1 hy;have h1:=q4 t k;(have h2:av.tb<z (G w):=by simp only[aG]at hu;rcases hu with((S|S|S)|S|S)|S;exact XT.qf j<|j.x0 av S;exact XT.qf j<|j.x1 av<|dU S;exact XT.qf j<|j.x1 av<|dH S;exact XT.qf j<|j.x2 av<|dU S;exact XT.qf j<|j.x2 av<|dH S;exact XT.qf j<|j.x3 av S);omega;refine Oo (λt k=>?_) (p1.mh _<|by simp[bY]) p0;rcases A t k with aa|aa;exact j.s2.pure t aa;grind
 have:=j.qp;omega
theorem LS.XZ{w:Z}{db sbqq baseqq C aD:M}{K:DK}{e:cN}{ps:cS NT}{g h i f:ab}{a b c d:cN}(j:LS w db sbqq baseqq K e ps C g h i f a b c d)(hp:PR aD (bY a b c d))(hc:0<y c)(u:dN)(mx:Option Addr)(mc:M)(hm:Row w 1 (J mx (y u) mc) (y u) (u.map<|Value.int .u64))(an:∀O,cz (J mx (y u) mc)=H O->O<z (G w)/\¬K.aO db O)(T:y u<=4):cD aZ 111 #[dD #[g,h,i,f],aq 2,J mx (y u) mc] w λaa w'=>∃xl nl cl xm n cm,∃c' d':cN,∃au,aa=aJ (dd #[dD #[g,h,J xl nl cl,J xm n cm],.nilIface])/\LS w' db sbqq baseqq K e au C g h (J xl nl cl) (J xm n cm) a b c' d'/\y c'+1=y c/\PR aD (bY a b c' d')/\(∀t,(t∈u\/(aD:U)<=t)->∀O,ft t (bY a b c' d') O=ft t (bY a b c d) O)/\I (K.aO db) w w':=by
 obtain⟨b0,o0,c0,rfl,ad⟩:=Dr j.r2 hc;obtain⟨x1,c1,rfl⟩:=bN j.r0;obtain⟨x2,c2,rfl⟩:=bN j.r1;obtain⟨x3,c3,rfl⟩:=bN j.r3;have al:∀l(v:l<y c)(s:cN),s.Sublist d->∀N∈(bZ s::[c[l]].map bw.all).flatten,N∈bZ c\/N∈bZ d:=by intro l v s hw N P;simp only[cr,gQ,bO,iA,dO,aG]at P;grind[nG,lY,getElem_mem]
 have E:∀N,N∈bZ c\/N∈bZ d->N.Good:=λN P=>hp.iH N (by unfold bY;rw[eK,aG];grind);have o:∀l(v:l<y c)(s:cN),s.Sublist d->dK (cL<|bZ s::[c[l]].map bw.all)/\(∀N∈cL (bZ s::[c[l]].map bw.all),N.Good)/\y (cL<|bZ s::[c[l]].map bw.all)<=1000000:=by intro l v s hw;refine⟨OE j.s2 j.s3 (CC (C:=(a.map bw.all).reverse++[bZ b]) (D:=[]) (by have:=hp.oY;simpa[bY]using this)) v hw,λN P=>E N<|al l v s hw N<|(eH _).mem_iff.1 P,?_⟩;have h1:=(eH<|bZ s::[c[l]].map bw.all).length_eq;simp only[cr,gQ,bO,iA,dO,ag]at h1;have h2:=(nG hw).length_le;(have L:y c[l].all<=y (bZ c):=by have:=(nG (us:=[c[l]]) (ts:=c)<|uS.2<|ak v).length_le;simpa[bZ]using this);have:=j.qp;have:=j.oO;grind
 refine(Es (λj=>j) b0 o0 c0 x3 x1 x2 _ _ _ _ _ _ a b j.XR ad hc j.YQ j.r0 j.r1 (λO F=>⟨(j.b0 O F).1,(j.b0 O F).2.1⟩) (λO F=>⟨(j.b1 O F).1,(j.b1 O F).2.1⟩) j.D (ai _) (λO F=>by have:=j.aO O F;have:=j.le;omega) j.steps ⟨by have:=j.eL.1;have:=j.le;omega,j.eL.2.1⟩ (by have:=j.count;omega) (by rw[vE<|λt X=>j.ks<|j.x3 t X];have:=j.qp;have:=j.oO;omega) _ (.inr ⟨rfl,rfl,rfl,rfl,rfl,rfl,rfl⟩) o u mx mc hm an T).mono ?_;rintro aa w'⟨xl,nl,cl,xm,n,cm,x,l,v,Q,q,rfl,hcut,V,W,m,p,ac,X⟩;obtain⟨p1,p2,p3,p0,p4,p5⟩:=NE hp j.s2 j.s3 v hcut m;rw[lE m]at p3 p4;obtain⟨s1,s2,s3⟩:=o l v _ ((mZ _ _).trans (jZ _ _):(List.take (q-Q)<|List.drop Q _).Sublist _);obtain⟨_,B,_,_⟩:=sI (ms:=u) (lowest:=ci) s1 s2 s3 T;obtain⟨qs,q0,q1,q2,q3,q4,q5⟩:=j.oY X p m p3 B p4;have ax:=xM m p.each p3 B p4;have r:(c.take l++c.drop (l+1)).Sublist c:=by grind[Rt,append_assoc,sublist_append_right]
 have ao:(d.take Q++d.drop q).Sublist d:=by grind[VH,yA.le,append_assoc,sublist_append_right]
 refine⟨xl,nl,cl,xm,n,cm,c.take l++c.drop (l+1),d.take Q++x++d.drop q,ps++qs,rfl,?_,by simp;omega,p1,p2,X⟩;have h':=j.ap X ac;have A:∀t∈d.take Q++x++d.drop q,t∈d\/t∈x:=by grind
 refine{h' with news:=q1,apart:=q2,r2:=dE V,r3:=dE W,b2:=vi V j.aO j.JE j.le,b3:=vi W j.aO j.JE j.le,x0:=λt k=>(h'.x0 t k).more qs,x1:=λt k=>(h'.x1 t k).more qs,x2:=λt k=>(h'.x2 t<|r.subset k).more qs,x3:=?_,nodup:=?_,s2:=j.s2.sub r,s3:=?_,qp:=?_};intro t k;rcases A t k with aa|aa;exact(h'.x3 t aa).more qs;exact q3 t aa;(have hn:((a++b++(c.take l++c.drop (l+1))++(d.take Q++d.drop q)).map bw.tb).Nodup:=by refine List.Nodup.sublist (List.Sublist.map _ ?_) j.nodup;grind);(have L:(a++b++(c.take l++c.drop (l+1))++(d.take Q++x++d.drop q)).Perm (x++(a++b++(c.take l++c.drop (l+1))++(d.take Q++d.drop q))):=by(have S:a++b++(c.take l++c.drop (l+1))++(d.take Q++x++d.drop q)=(a++b++(c.take l++c.drop (l+1))++d.take Q)++x++d.drop q:=by grind);(have e2:x++(a++b++(c.take l++c.drop (l+1))++(d.take Q++d.drop q))=x++(a++b++(c.take l++c.drop (l+1))++d.take Q)++d.drop q:=by grind);rw[S,e2];exact uU _ pX);rw[(L.map bw.tb).nodup_iff,aR,jd];refine⟨q5,hn,λN P aF hy aa=>?_⟩;obtain⟨t,k,rfl⟩:=bM.1 P;obtain⟨av,hu,rfl⟩:=bM.1 hy;have h1:=q4 t k;(have h2:av.tb<z (G w):=by simp only[aG]at hu;rcases hu with((S|S)|S|S)|S|S;exact XT.qf j<|j.x0 av S;exact XT.qf j<|j.x1 av S;exact XT.qf j<|j.x2 av<|dU S;exact XT.qf j<|j.x2 av<|dH S;exact XT.qf j<|j.x3 av<|dU S;exact XT.qf j<|j.x3 av<|dH S);omega;refine Oo (λt k=>?_) (p1.mh _<|by simp[bY]) p0;rcases A t k with aa|aa;exact j.s3.pure t aa;grind
 have:=j.qp;omega
theorem NT.mL.symm{p q:NT}(j:p.mL q):q.mL p:=λk h g=>j k g h
theorem UE{ps:cS NT}(m:ps.Pairwise NT.mL){p q:NT}(k:p∈ps)(l:q∈ps)(j:p≠q):p.mL q:=by
 obtain⟨i,g,rfl⟩:=gM.1 k;obtain⟨n,h,rfl⟩:=gM.1 l;rw[cJ]at m;rcases mY i n with f|f|f;grind
 grind
 exact(m n i h g f).symm
theorem FY{w l:Z}{baseqq s f v k u g:M}{m:iF}(t:w.ownsRow baseqq s f (aY k 0 u g) v m)(r:l.heap[k]?=w.heap[k]?):l.ownsRow baseqq s f (aY k 0 u g) v m:=by
 refine⟨t.1,.inr ?_⟩;rcases t.2 with⟨n,_⟩|⟨x,j,h,n,o,p,q⟩;cases n;cases n;exact⟨k,g,h,rfl,o,r.trans p,q⟩
theorem Lk{f:dJ}(g:Jb (bI 0 f))(j:y (dw f)<=100000):y (kS f)<=200000:=by
 have k:=kR<|λl h=>(g.can l h).fits;have:=g.len;unfold kS eO;rw[ag,ag,bU];omega
structure CF(w:Z)(db sb base:M)(K:DK)(c:cN)(ps:cS NT)(T:cN)(a d:M):Prop where
 le:base<=z (G w)
 aO:∀k,K.aO db k->k<base
 JE:sb<base
 xt:∀t∈T,XT c ps t
 nodup:(T.map bw.tb).Nodup
 apart:ps.Pairwise NT.mL
 news:∀p∈ps,p.Ok w base/\LX p.t
 inj:∀t∈c,∀u∈c,t.num=u.num->t=u
 low:∀t∈c,t.num<a
 fresh:∀n,a<=n->dB (vw K.files) (gu n)=none
 eL:IX db sb base K 1
 lf:IX db sb base K 2
 small:y T<=1000000
 nx:a<=1000000000000000
 room:d<=800000000000
 qp:ii (vw K.files)<=d
 dM:y K.dM<=10000000000
def Wr(db:M)(K:DK)(ps:cS NT)(k:M):Prop:=K.aO db k\/∃p∈ps,k=p.t.tb\/k=p.x
structure CM(w:Z)(db sb base:M)(K:DK)(c:cN)(ps:cS NT)(T:cN)(a d:M)(wr:Z)(b:DK)(us:cN)(i num:M):Prop where
 len:y us=i
 le:i<=y T
 same:us.map (λt=>(t.tb,t.ks,t.cs))=(T.take i).map (λt=>(t.tb,t.ks,t.cs))
 EZ:∀t∈c,qF wr db (vw b.files) (IX db sb base K) t
 OY:∀u∈us,u∈c\/∃p∈ps,p.t.tb=u.tb/\qF wr db (vw b.files) p.has u/\a<=u.num/\u.num<num
 rest:∀p∈ps,p.t∈T.drop i->p.Ok wr base
 files:∃gs:Fs,vw b.files=vw K.files++gs/\(∀g∈gs,∃u∈us,g=(gu u.num,kS u.cs)/\a<=u.num)
 qp:ii (vw b.files)<=d+i*200000
 yS:(us.map bw.num).Nodup
 qh:a<=num/\num<=a+i
 aM:cH wr db b
 dM:y b.dM<=y K.dM+i
 ap:I (Wr db K ps) w wr
 aO:∀k,b.aO db k->K.aO db k\/z (G w)<=k
 steps:Steps wr
 pow:Pow wr
section
variable{w wr w2:Z}{db sbqq baseqq:M}{K b e:DK}{c:cN}{ps:cS NT}{T us:cN}{a d i num:M}
theorem CM.start(h:CF w db sbqq baseqq K c ps T a d)(j:∀t∈c,qF w db (vw K.files) (IX db sbqq baseqq K) t)(g:cH w db K)(k:Steps w)(f:Pow w):CM w db sbqq baseqq K c ps T a d w K [] 0 a where
 len:=rfl
 le:=bG _
 same:=by simp
 EZ:=j
 OY:=by simp
 rest:=λp f _=>(h.news p f).1
 files:=⟨[],by simp,by simp⟩
 qp:=by have:=h.qp;omega
 yS:=by simp
 qh:=⟨ai _,ai _⟩
 aM:=g
 dM:=ai _
 ap:=I.refl _ _
 aO:=λ_ h=>.inl h
 steps:=k
 pow:=f
theorem Th(h:us.map (λt=>(t.tb,t.ks,t.cs))=(T.take i).map (λt=>(t.tb,t.ks,t.cs))):us.map bw.tb=(T.take i).map bw.tb:=by
 have:=bQ (List.map Prod.fst) h;grind[map_map,Function.comp_def]
theorem Sh(l:(T.map bw.tb).Nodup)(k:i<y T)(j:us.map (λt=>(t.tb,t.ks,t.cs))=(T.take i).map (λt=>(t.tb,t.ks,t.cs))):∀u∈us,u.tb≠T[i].tb:=by
 intro u n g;have f:u.tb∈(T.take i).map bw.tb:=by rw[<-Th j];grind
 rw[g]at f;obtain⟨t,m,h⟩:=bM.1 f;grind[mem_iff_getElem,length_take,pairwise_iff_getElem]
theorem FM(f:i<y T)(h:us.map (λt=>(t.tb,t.ks,t.cs))=(T.take i).map (λt=>(t.tb,t.ks,t.cs)))(u:bw)(g:(u.tb,u.ks,u.cs)=(T[i].tb,T[i].ks,T[i].cs)):(us++[u]).map (λt=>(t.tb,t.ks,t.cs))=(T.take<|i+1).map (λt=>(t.tb,t.ks,t.cs)):=by
 rw[aj f,aR,aR,h];grind
theorem DL{l:cS M}{x:M}(h:l.Nodup)(f:x∉l):(l++[x]).Nodup:=by
 rw[jd];grind
theorem CM.skip(o:CF w db sbqq baseqq K c ps T a d)(hm:CM w db sbqq baseqq K c ps T a d wr b us i num)(g:i<y T)(k:T[i]∈c):CM w db sbqq baseqq K c ps T a d wr b (us++[T[i]]) (i+1) num:=by
 have f:=Sh o.nodup g hm.same;obtain⟨n,j,p⟩:=hm.files;refine{hm with len:=by rw[ag,hm.len];rfl,le:=g,same:=FM g hm.same _ rfl,OY:=?_,rest:=?_,files:=⟨n,j,λv t=>?_⟩,qp:=aB hm.qp<|Nat.add_le_add_left (jQ _<|Nat.le_succ i) _,yS:=?_,qh:=⟨hm.qh.1,by have:=hm.qh.2;omega⟩,dM:=by have:=hm.dM;omega};intro u h;rcases aG.1 h with m|m;exact hm.OY u m;grind
 intro r l q;refine hm.rest r l ?_;rw[<-kC g];grind
 grind
 rw[aR];refine DL hm.yS<|λm=>?_;obtain⟨u,h,s⟩:=bM.1 m;rcases hm.OY u h with q|⟨r,l,_,_,q,_⟩;exact f u h (by rw[o.inj u q _ k s]);have:=o.low _ k;omega
theorem CM.wrote(B:CF w db sbqq baseqq K c ps T a d)(f:CM w db sbqq baseqq K c ps T a d wr b us i num)(F:i<y T){p:NT}(D:p∈ps)(s:p.t=T[i])(hd:cH w2 db e)(ht:I (λk=>b.aO db k\/k=p.t.tb\/k=p.x) wr w2)(hf:∀k,e.aO db k->b.aO db k\/z (G wr)<=k)(S:vw e.files=vw b.files++[(gu num,kS p.t.cs)])(ao:y e.dM=y b.dM+1)(hT:lB w2 p.t.tb (aA db) num (y<|dw p.t.cs) (y<|eO<|bI 0 p.t.cs) (kO<|eO<|bI 0 p.t.cs) p.bb 0 p.vV aw (bI 0 p.t.cs))(N:num<18446744073709551616):CM w db sbqq baseqq K c ps T a d w2 e (us++[{T[i]with num:=num}]) (i+1) (num+1):=by
 have ad:=Sh B.nodup F f.same;obtain⟨gs,E,W⟩:=f.files;have o:=(B.news p D).1;have aa:=o.lt;have au:=f.ap.size;have an:=B.le
 have l:∀k,k<z (G w)->¬K.aO db k->¬p.has k->w2.heap[k]?=wr.heap[k]?:=λk h O j=>ht.block k (by omega) (λg=>by
  rcases g with g|g|g
  .rcases f.aO k g with A|A
   .exact O A
   .omega
  .exact j<|.inl g
  .exact j (.inr (.inr g)))
 have n:∀k,IX db sbqq baseqq K k->w2.heap[k]?=wr.heap[k]?:=λk h=>l k (by have:=h.1;omega) h.2.1 (λg=>by have:=(aa k g).1;have:=h.1;omega);have r:∀q∈ps,q≠p->∀k,q.has k->w2.heap[k]?=wr.heap[k]?:=λq t v k h=>by have j:=(B.news q t).1.lt k h;exact l k j.2 (λg=>by have:=B.aO k g;omega)<|λg=>UE B.apart t D v k h g
 have u:∀n f,dB (vw b.files) n=H f->dB (vw e.files) n=H f:=λn f C=>by rw[S,jr,C];rfl
 have x:dB (vw b.files) (gu num)=none:=by
  rw[E,jr,B.fresh num f.qh.1,lO];cases g:dB gs (gu num)with
  |none=>rfl
  |some X=>
   obtain⟨V,P,Q,j⟩:=W _<|xe g;simp only[iZ]at Q;have O:=uw Q.1;rcases f.OY V P with A|⟨q,t,_,_,_,A⟩
   .have:=B.low V A;omega
   .omega
 have ac:∀{A:eT}{al:bw},qF wr db (vw b.files) A al->(∀k,A k->w2.heap[k]?=wr.heap[k]?)->qF w2 db (vw e.files) A al:=λho h=>by have j:=ho.QG h;exact⟨j.mem,j.loc,j.ks,j.num,j.pure,j.idx,j.small,u _ _ j.file⟩
 have m:=(B.news p D).2;have L:qF w2 db (vw e.files) p.has {T[i]with num:=num}:=by rw[<-s];refine⟨⟨p.bb,0,p.vV,?_,.inr<|.inl rfl⟩,.inl rfl,o.ks,N,m.pure,m.idx,m.small,?_⟩;show lB w2 p.t.tb _ num _ _ _ p.bb 0 p.vV _ p.t.ks;rw[o.ks];exact hT;show dB (vw e.files) (gu num)=H (kS p.t.cs);rw[S,jr,x];simp[dB]
 refine{len:=by rw[ag,f.len];rfl,le:=F,same:=FM F f.same _ rfl,EZ:=λal h0=>ac (f.EZ al h0) n,OY:=?_,rest:=?_,files:=⟨gs++[(gu num,kS p.t.cs)],by rw[S,E,bz],λax hg=>?_⟩,qp:=?_,yS:=?_,qh:=⟨by have:=f.qh.1;omega,by have:=f.qh.2;omega⟩,aM:=hd,dM:=by have:=f.dM;omega,ap:=?_,aO:=?_,steps:=?_,pow:=?_};intro V P;rcases aG.1 P with g|g;(rcases f.OY V g with A|⟨q,t,Q,ho,j,O⟩;exact .inl A;grind);rw[dA]at g;subst g;exact .inr ⟨p,D,by rw[s],L,f.qh.1,by grind⟩;intro q t O;(have v:q≠p:=λQ=>by subst Q;rw[s]at O;obtain⟨av,hj,Q⟩:=gM.1 O;rw[pA]at Q;(have X:i+1+av<y T:=by rw[gX]at hj;omega);have h2:=cJ.1 B.nodup i (i+1+av) (by simpa using F) (by simpa using X) (by omega);grind);have j:=f.rest q t (by rw[<-kC F];grind);have C:=r q t v;exact⟨j.ks,j.num,j.pieces,j.mem.di (C _<|.inl rfl)<|C _<|.inr<|.inl rfl,FY j.data<|C _<|.inr<|.inr rfl,FY j.Fm<|C _<|.inr<|.inl rfl,j.new⟩;rcases aG.1 hg with g|g;(grind);rw[dA]at g;refine⟨{T[i]with num:=num},by simp,?_,f.qh.1⟩;rw[g,s];rw[S,ud];have:=Lk m.idx m.small;have:=f.qp;simp only[ii,cr,gQ,tQ,List.sum_nil]at*;omega;rw[aR];refine DL f.yS<|λg=>?_;obtain⟨V,P,Q⟩:=bM.1 g;have j:V.num=num:=Q;rcases f.OY V P with A|⟨q,t,_,_,_,A⟩;have:=B.low V A;have:=f.qh.1;omega;omega;refine f.ap.trans ht<|λk h=>?_;rcases h with g|g|g;rcases f.aO k g with A|A;exact .inl<|.inl A;exact .inr A;exact .inl<|.inr ⟨p,D,.inl g⟩;exact .inl<|.inr ⟨p,D,.inr g⟩;intro k h;rcases hf k h with g|g;exact f.aO k g;grind
 exactλk h=>(da (w:=wr)<|n _ B.eL).trans<|f.steps k h;exact f.pow.di<|n _ B.lf
end
