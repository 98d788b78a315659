import Derived.Test.YtojeeoclojldpaaGreatDoorC23
import Derived.Test.YtojeeoclojldpaaGreatDoorC24
import Derived.Test.YtojeeoclojldpaaGreatDoorC25
open _root_ renaming List.length→y,Option.some→H,Array.size→z,Go.World.heap→G,Go.Value.ownBlock→bV,Go.World.cell?→aT,Go.World.setCell→bZ,Go.World.alloc→ct,Bool.false→bF,Bool.true→bW,Nat→M,Int→Z,List→cr,Go.Calls→cy,Go.Proofs.Tryz.prog→bG,Go.Value.slice→J,Go.Value.string→ai,Go.Value.bool→aL,Go.Value.pointer→fp,Go.Value.tuple→dB,Go.Value.agg→eC
namespace Go.Proofs.YtojeeoclojldpaaGreatDoor
open ChangeShapes WideShapes RowKit Proofs.Tryz
set_option maxHeartbeats 16000000
set_option linter.all false
set_option maxRecDepth 100000
variable{a:I}{b c g:M}{i p t u:cP}{j:DK}{k:dW}{m:Z}{o:eI}{v:ab}{D:Bool}
theorem rO.Ry{w w':I}{db:M}{m:Fs}{A:fJ}{t:bJ}(l:rO w db m A t)(o:∀r,A r->w'.heap[r]?=w.heap[r]?):rO w' db m A t:=by
 obtain⟨p,k,j,q,n⟩:=l.mem;exact⟨⟨p,k,j,q.de (o _ l.loc)<|o _ n,n⟩,l.loc,l.ks,l.num,l.pure,l.idx,l.small,l.file⟩
structure Mz(t:bJ):Prop where
 pure:tD t.ks t.cs
 idx:JN (bO 0 t.cs)
 small:y (dG t.cs)<=100000
def JJ(db sbqq baseqq:M)(K:DK)(k:M):Prop:=k<baseqq/\¬K.bj db k/\k≠sbqq
def XT(e:cP)(ps:cr NT)(t:bJ):Prop:=t∈e\/∃p∈ps,p.t=t
def qD(w:I)(db sbqq baseqq:M)(K:DK)(v:aa):Prop:=∀k,bV v=H k->k<z (G w)/\¬K.bj db k/\k≠sbqq/\(k<baseqq\/∃j l,w.heap[k]?=H (ar j 224 l))
theorem qD.aw{w w':I}{db sbqq baseqq:M}{K:DK}{v:aa}(n:qD w db sbqq baseqq K v)(l:Y (K.bj db) w w'):qD w' db sbqq baseqq K v:=λq m=>by
 obtain⟨j,k,o,p⟩:=n q m;exact⟨ag j l.size,k,o,p.imp id<|λ⟨m,n,r⟩=>⟨m,n,(l.block q j k).trans r⟩⟩
structure LS(w:I)(db sb base:M)(K:DK)(e:cP)(ps:cr NT)(C:M)(g h i f:aa)(a b c d:cP):Prop where
 D:(ql db K).D w
 le:base<=z (G w)
 bj:∀k,K.bj db k->k<base
 ME:sb<base
 steps:Steps w
 pow:Pow w
 fC:JJ db sb base K 1
 me:JJ db sb base K 2
 uT:∀t∈e,rO w db (vw K.files) (JJ db sb base K) t
 news:∀p∈ps,p.Ok w base/\Mz p.t
 apart:ps.Pairwise NT.mP
 r0:Row w 1 g (y a) (a.map bJ.ptr)
 r1:Row w 1 h (y b) (b.map bJ.ptr)
 r2:Row w 1 i (y c) (c.map bJ.ptr)
 r3:Row w 1 f (y d) (d.map bJ.ptr)
 b0:qD w db sb base K g
 b1:qD w db sb base K h
 b2:qD w db sb base K i
 b3:qD w db sb base K f
 x0:∀t∈a,XT e ps t
 x1:∀t∈b,XT e ps t
 x2:∀t∈c,XT e ps t
 x3:∀t∈d,XT e ps t
 nodup:((a++b++c++d).map bJ.tb).Nodup
 s1:ly b
 s2:ly c
 s3:ly d
 qI:y (cg a)+y (cg b)+y (cg c)+y (cg d)<=C
 mJ:C<=1000000
section
variable{w w':I}{db sbqq baseqq C:M}{K:DK}{e:cP}{ps:cr NT}{g h i f:aa}{a b c d:cP}
theorem XT.more{t:bJ}(j:XT e ps t)(l:cr NT):XT e (ps++l) t:=by
 rcases j with j|⟨p,k,m⟩;exact .inl j;exact .inr ⟨p,by simp[k],m⟩
theorem LS.aw(j:LS w db sbqq baseqq K e ps C g h i f a b c d)(l:Y (K.bj db) w w')(n:(ql db K).D w'):LS w' db sbqq baseqq K e ps C g h i f a b c d where
 D:=n
 le:=aE j.le l.size
 bj:=j.bj
 ME:=j.ME
 steps:=λm k=>l.cell (j.steps m k) j.fC.2.1<|ag j.fC.1 j.le
 pow:=j.pow.de<|l.block _ (ag j.me.1 j.le) j.me.2.1
 fC:=j.fC
 me:=j.me
 uT:=λt n=>(j.uT t n).Ry<|λm k=>l.block m (ag k.1 j.le) k.2.1
 news:=λp n=>⟨(j.news p n).1.aw l (λm k c=>by have:=((j.news p n).1.lt m k).1;have:=j.bj m c;omega),(j.news p n).2⟩
 apart:=j.apart
 r0:=l.row j.r0<|λm k=>⟨(j.b0 m k).2.1,(j.b0 m k).1⟩
 r1:=l.row j.r1<|λm k=>⟨(j.b1 m k).2.1,(j.b1 m k).1⟩
 r2:=l.row j.r2<|λm k=>⟨(j.b2 m k).2.1,(j.b2 m k).1⟩
 r3:=l.row j.r3<|λm k=>⟨(j.b3 m k).2.1,(j.b3 m k).1⟩
 b0:=j.b0.aw l
 b1:=j.b1.aw l
 b2:=j.b2.aw l
 b3:=j.b3.aw l
 x0:=j.x0
 x1:=j.x1
 x2:=j.x2
 x3:=j.x3
 nodup:=j.nodup
 s1:=j.s1
 s2:=j.s2
 s3:=j.s3
 qI:=j.qI
 mJ:=j.mJ
theorem LS.Xg(l:LS w db sbqq baseqq K e ps C g h i f a b c d){t:bJ}(j:XT e ps t):tD t.ks t.cs:=by
 rcases j with j|⟨p,k,rfl⟩;exact(l.uT t j).pure;exact(l.news p k).2.pure
theorem LS.Vy(l:LS w db sbqq baseqq K e ps C g h i f a b c d){t:bJ}(j:XT e ps t):nE (ql db K) (z<|G w) t.tb t.ks t.cs w:=by
 have B:=l.le;have o:1<z (G w)/\¬(ql db K).F 1:=⟨by have:=l.fC.1;omega,l.fC.2.1⟩;rcases j with j|⟨p,D,rfl⟩;obtain⟨u,m,k,x,s⟩:=(l.uT t j).mem;obtain⟨A,v,n⟩:=js (l.uT t j).file;refine nE.Pn db K.files K.eM (K.bj db) (z<|G w) t.tb t.num (l.uT t j).num _ _ _ u m k aK t.ks t.cs A (fa<|bO 0 t.cs) w x (l.uT t j).pure v n ?_ ⟨by have:=(l.uT t j).loc.1;omega,(l.uT t j).loc.2.1⟩ ⟨by have:=s.1;omega,s.2.1⟩ l.steps o l.pow ⟨by have:=l.me.1;omega,l.me.2.1⟩;rw[n];have E:=lq<|λr q=>((l.uT t j).idx.can r q).fits;have:=(l.uT t j).small;have:=(l.uT t j).idx.len;unfold mu fa;rw[af,af,bY];omega;obtain⟨k,n⟩:=l.news p D;have u:=k.lt;have s:∀r,p.has r->r<z (G w)/\¬(ql db K).F r:=λr q=>⟨(u r q).2,λc=>by have:=l.bj r c;have:=(u r q).1;omega⟩;(have m:y (dG p.t.cs)<=p.FU:=by rcases k.data.2 with⟨c,_⟩|⟨E,v,x,c,_,_,A,_⟩;cases c;cases c;simpa using A);exact nE.Xm (ql db K) (z<|G w) p.t.tb 0 0 0 0 p.bb 0 p.wL p.x 0 p.FU p.t.ks p.t.cs w k.mem n.pure (eH.bytes k.data) m (by have:=n.small;omega) (s _<|.inl rfl) (s _<|.inr<|.inl rfl) (s _<|.inr<|.inr rfl) l.steps o
theorem LS.count(j:LS w db sbqq baseqq K e ps C g h i f a b c d):y a+y b+y c+y d<=1000000:=by
 have:=j.qI;have:=j.mJ;have:=lK<|λt k=>j.Xg<|j.x0 t k;have:=lK j.s1.pure;have:=lK j.s2.pure;have:=lK j.s3.pure;omega
theorem LS.XY(j:LS w db sbqq baseqq K e ps C g h i f a b c d):sh (ql db K) (z<|G w) h b w:=⟨j.r1,λm k=>⟨(j.b1 m k).1,(j.b1 m k).2.1⟩,λt l=>j.Vy<|j.x1 t l,j.s1,by have:=j.count;omega⟩
theorem LS.XX(j:LS w db sbqq baseqq K e ps C g h i f a b c d):sh (ql db K) (z<|G w) i c w:=⟨j.r2,λm k=>⟨(j.b2 m k).1,(j.b2 m k).2.1⟩,λt l=>j.Vy<|j.x2 t l,j.s2,by have:=j.count;omega⟩
theorem LS.YG(j:LS w db sbqq baseqq K e ps C g h i f a b c d):sh (ql db K) (z<|G w) f d w:=⟨j.r3,λm k=>⟨(j.b3 m k).1,(j.b3 m k).2.1⟩,λt l=>j.Vy<|j.x3 t l,j.s3,by have:=j.count;omega⟩
theorem PF{j:cP}(n:∀t∈j,t.ks=bO 0 t.cs):sg j=y (cg j):=by
 induction j with
 |nil=>rfl
 |cons t r m=>
  have k:=m (λu j=>n u<|by simp[j]);have l:=n t (by simp);unfold sg at k|-;rw[aY,iL,k,yA,af,l,BF];rfl
theorem LS.ks(l:LS w db sbqq baseqq K e ps C g h i f a b c d){t:bJ}(j:XT e ps t):t.ks=bO 0 t.cs:=by
 rcases j with j|⟨p,k,rfl⟩;exact(l.uT t j).ks;exact(l.news p k).1.ks
theorem DJ{l n:M}{v:aa}{o:iU}(q:Row w l v n o)(s:0<n):∃b j k,v=bD b j n k/\n<=k:=by
 rcases q.2 with⟨_,r⟩|⟨b,j,k,p,m,_⟩;omega;exact⟨b,j,k,p,m⟩
theorem LS.sQ{m:cP}{D:cA}(v:LS w db sbqq baseqq K e ps C g h i f a b c d)(O:Y (K.bj db) w w')(A:uy w' (z<|G w) m)(F:m.map bJ.all=iz D)(N:dQ D)(t:rN 5 D)(E:∀X∈D,X.Good):∃l:cr NT,l.map NT.t=m/\(∀p∈ps++l,p.Ok w' baseqq/\Mz p.t)/\(ps++l).Pairwise NT.mP/\(∀B∈m,XT e (ps++l) B)/\(∀B∈m,z (G w)<=B.tb)/\(m.map bJ.tb).Nodup:=by
 have L:=yp F A.each N t E;obtain⟨l,n,o,x⟩:=A;have s:∀p∈ps,∀u,p.has u->u<z (G w):=λp j u r=>((v.news p j).1.lt u r).2;refine⟨l,n,λp j=>?_,?_,λB k=>?_,λB k=>?_,?_⟩;rcases am.1 j with c|c;exact⟨(v.news p c).1.aw O (λu r d=>by have:=((v.news p c).1.lt u r).1;have:=v.bj u d;omega),(v.news p c).2⟩;obtain⟨P,Q,S,T⟩:=L p.t (by rw[<-n];exact gY c);refine⟨(o p c).base v.le,P,Q,?_⟩;have V:=(o p c).pieces.data;have W:=(o p c).pieces.length;omega;rw[bR];exact⟨v.apart,x,λp j q l u r k=>by have:=s p j u r;have:=((o q l).lt u k).1;omega⟩;rw[<-n]at k;obtain⟨p,j,rfl⟩:=aZ.1 k;exact .inr ⟨p,by simp[j],rfl⟩;rw[<-n]at k;obtain⟨p,j,rfl⟩:=aZ.1 k;exact(o p j).new;rw[<-n,iQ];unfold List.Nodup;rw[jp];refine x.imp<|λ{p q}j k=>j p.t.tb (.inl rfl)<|.inl k
theorem XT.qz(k:LS w db sbqq baseqq K e ps C g h i f a b c d){t:bJ}(j:XT e ps t):t.tb<z (G w):=by
 rcases j with j|⟨p,l,rfl⟩;have:=(k.uT t j).loc.1;have:=k.le;omega;exact((k.news p l).1.lt _<|.inl rfl).2
theorem Pa{j:cP}(k:∀t∈j,tD t.ks t.cs)(l:dQ (cg j))(m:(j.map bJ.all).Pairwise gQ):ly j:=⟨k,l,m⟩
theorem yi{j u:M}{v:aa}{s:iU}(m:w'.ownsRow (z<|G w) 224 j v u s)(q:∀n,K.bj db n->n<baseqq)(r:sbqq<baseqq)(t:baseqq<=z (G w)):qD w' db sbqq baseqq K v:=λn l=>by
 have o:=m.lt n l;obtain⟨k,p⟩:=fD m l;exact⟨o.2,λc=>by have:=q n c;omega,by omega,.inr ⟨k,_,p⟩⟩
end
theorem Sh{n:M}{a b c d:cP}(k:PR n (cF a b c d)):dQ (df<|cg b::a.map bJ.all):=by
 have j:cF a b c d=[]++((a.map bJ.all).reverse++[cg b])++[cg c,cg d]:=by simp[cF]
 rw[j]at k;exact(De (ms:=[]) (lowest:=bF) (λr j=>k.row r (by simp only[cC,am,iX];exact .inl<|.inl j)) (k.row _<|by simp) (bR.1 k.sQ).1).1
theorem Po{u v j:cP}{o:M}(q:ly u)(r:ly v)(p:Over (cg u) (cg v))(l:o<y u)(n:j.Sublist v):dQ (df<|cg j::[u[o]].map bJ.all):=by
 have k:∀t∈[u[o].all,cg j],dQ t:=by intro t s;simp only[az,eG,kK]at s;rcases s with rfl|rfl;exact q.each<|aq l;exact r.mq.sub<|nD n
 have m:ku [u[o].all,cg j]:=NE<|λx q k r=>p x (lk.2 ⟨_,aq l,q⟩) k<|(nD n).subset r;show dQ (df [cg j,u[o].all]);rw[vR k m<|List.Perm.swap _ _ _];exact sU k m
theorem LS.Yf{w:I}{db sbqq baseqq C ao:M}{K:DK}{e:cP}{ps:cr NT}{g h i f:aa}{a b c d:cP}(j:LS w db sbqq baseqq K e ps C g h i f a b c d)(hp:PR ao (cF a b c d))(ha:0<y a)(o:eI)(Q:Option Addr)(P:M)(hm:Row w 1 (J Q (y o) P) (y o) (o.map<|Value.int .u64))(ac:∀v,bV (J Q (y o) P)=H v->v<z (G w)/\¬K.bj db v)(E:y o<=4):cy bG 119 #[eC #[g,h,i,f],ap 0,J Q (y o) P] w λV w'=>∃S l O,∃A:cP,∃ad,V=aO (dB #[eC #[aK,J S l O,i,f],.nilIface])/\LS w' db sbqq baseqq K e ad C aK (J S l O) i f [] A c d/\PR ao (cF [] A c d)/\(∀x,(x∈o\/(ao:Z)<=x)->∀v,fV x (cF [] A c d) v=fV x (cF a b c d) v)/\Y (K.bj db) w w':=by
 obtain⟨b0,o0,c0,rfl,an⟩:=DJ j.r0 ha;obtain⟨x1,c1,rfl⟩:=bM j.r1;obtain⟨x2,c2,rfl⟩:=bM j.r2;obtain⟨x3,c3,rfl⟩:=bM j.r3;have B:∀al∈df (cg b::a.map bJ.all),al.Good:=by intro al N;have:=(fH _).mem_iff.1 N;rw[aX,am]at this;refine hp.jc al ?_;unfold cF;rw[dP,am];rcases this with V|V;right;simp[V];left;obtain⟨au,hl,N⟩:=bz.1 V;exact bz.2 ⟨au,iX.2 hl,N⟩
 have q:y (df<|cg b::a.map bJ.all)<=1000000:=by have W:=(fH<|cg b::a.map bJ.all).length_eq;rw[aX,af]at W;have h2:(a.map bJ.all).flatten=cg a:=rfl;rw[h2]at W;have:=j.qI;have:=j.mJ;omega
 have F:=Sh hp;refine(Si b0 o0 c0 x1 x2 x3 _ _ _ c1 c2 c3 a c d j.r0 ⟨(j.b0 _ rfl).1,(j.b0 _ rfl).2.1⟩ (λx L=>j.Vy<|j.x0 x L) j.XY j.r2 j.r3 (λv p=>⟨(j.b2 v p).1,(j.b2 v p).2.1⟩) (λv p=>⟨(j.b3 v p).1,(j.b3 v p).2.1⟩) j.D (ah _) (λv p=>by have:=j.bj v p;have:=j.le;omega) j.steps ⟨by have:=j.fC.1;have:=j.le;omega,j.fC.2.1⟩ j.count o Q P hm ac E _ rfl F B q).mono ?_;rintro V w'⟨S,l,O,A,rfl,r,m,n,X,L⟩;obtain⟨_,s,p1,p2,p3⟩:=Ov hp m;obtain⟨_,t,D,_⟩:=sS (ms:=o) (lowest:=c.isEmpty&&d.isEmpty) F B q E;obtain⟨qs,q0,q1,q2,q3,q4,q5⟩:=j.sQ L n m s t D;have u:ly A:=Qr m n.each s t D;refine⟨S,l,O,A,ps++qs,rfl,?_,p1,p2,L⟩;have h':=j.aw L X;refine{h' with news:=q1,apart:=q2,r0:=⟨rfl,.inl ⟨rfl,rfl⟩⟩,r1:=dH r,b0:=?_,b1:=yi r j.bj j.ME j.le,x0:=?_,x1:=q3,x2:=λx k=>(h'.x2 x k).more qs,x3:=λx k=>(h'.x3 x k).more qs,nodup:=?_,s1:=u,qI:=?_};intro v p;cases p;intro x k;cases k;rw[cC,aU,aM,jq];have hn:=j.nodup;rw[aU,aM,jq]at hn;refine⟨q5,hn.2.1,λal N av hy V=>?_⟩;obtain⟨x,k,rfl⟩:=aZ.1 N;obtain⟨au,hu,rfl⟩:=aZ.1 hy;have W:=q4 x k;(have h2:au.tb<z (G w):=by rcases am.1 hu with c|c;exact XT.qz j<|j.x2 au c;exact XT.qz j<|j.x3 au c);omega;have:=j.qI;have e0:y (cg ([]:cP))=0:=rfl;omega
theorem LS.Ye{w:I}{db sbqq baseqq C bb:M}{K:DK}{e:cP}{ps:cr NT}{g h i f:aa}{a b c d:cP}(k:LS w db sbqq baseqq K e ps C g h i f a b c d)(hp:PR bb (cF a b c d))(hb:0<y b)(x:eI)(mx:Option Addr)(mc:M)(hm:Row w 1 (J mx (y x) mc) (y x) (x.map<|Value.int .u64))(av:∀S,bV (J mx (y x) mc)=H S->S<z (G w)/\¬K.bj db S)(X:y x<=4):cy bG 119 #[eC #[g,h,i,f],ap 1,J mx (y x) mc] w λp w'=>∃xl nl cl xm o cm,∃b' c':cP,∃ax,p=aO (dB #[eC #[g,J xl nl cl,J xm o cm,f],.nilIface])/\LS w' db sbqq baseqq K e ax C g (J xl nl cl) (J xm o cm) f a b' c' d/\y b'+1=y b/\PR bb (cF a b' c' d)/\(∀t,(t∈x\/(bb:Z)<=t)->∀S,fV t (cF a b' c' d) S=fV t (cF a b c d) S)/\Y (K.bj db) w w':=by
 obtain⟨b0,o0,c0,rfl,ao⟩:=DJ k.r1 hb;obtain⟨x1,c1,rfl⟩:=bM k.r0;obtain⟨x2,c2,rfl⟩:=bM k.r2;obtain⟨x3,c3,rfl⟩:=bM k.r3;have au:∀l(s:l<y b)(v:cP),v.Sublist c->∀Q∈(cg v::[b[l]].map bJ.all).flatten,Q∈cg b\/Q∈cg c:=by intro l s v hw Q F;simp only[aY,eW,aX,fM,dJ,am]at F;rcases F with p|p;exact .inr<|(nD hw).subset p;exact .inl<|lk.2 ⟨_,aq s,p⟩
 have L:∀Q,Q∈cg b\/Q∈cg c->Q.Good:=λQ F=>hp.jc Q (by
  unfold cF;rw[dP,am];right;simp only[aX,fM,dJ,am];rcases F with p|p
  .exact .inl p
  .exact .inr (.inl p))
 have r:∀l(s:l<y b)(v:cP),v.Sublist c->dQ (df<|cg v::[b[l]].map bJ.all)/\(∀Q∈df (cg v::[b[l]].map bJ.all),Q.Good)/\y (df<|cg v::[b[l]].map bJ.all)<=1000000:=by intro l s v hw;refine⟨Po k.s1 k.s2 (CV (C:=(a.map bJ.all).reverse) (D:=[cg d]) (by have:=hp.sQ;simpa[cF]using this)) s hw,λQ F=>L Q<|au l s v hw Q<|(fH _).mem_iff.1 F,?_⟩;have h1:=(fH<|cg v::[b[l]].map bJ.all).length_eq;simp only[aY,eW,aX,fM,dJ,af]at h1;have h2:=(nD hw).length_le;(have O:y b[l].all<=y (cg b):=by have:=(nD (us:=[b[l]]) (ts:=b)<|vB.2<|aq s).length_le;simpa[cg]using this);have:=k.qI;have:=k.mJ;simp only[aY,eW];omega
 refine(EU b0 o0 c0 x2 x1 x3 _ _ _ _ _ _ a d k.XY ao hb k.XX k.r0 k.r3 (λS N=>⟨(k.b0 S N).1,(k.b0 S N).2.1⟩) (λS N=>⟨(k.b3 S N).1,(k.b3 S N).2.1⟩) k.D (ah _) (λS N=>by have:=k.bj S N;have:=k.le;omega) k.steps ⟨by have:=k.fC.1;have:=k.le;omega,k.fC.2.1⟩ (by have:=k.count;omega) (by rw[PF<|λt ht=>k.ks<|k.x2 t ht];have:=k.qI;have:=k.mJ;omega) _ (.inl ⟨rfl,rfl,rfl,rfl,rfl,rfl,rfl⟩) r x mx mc hm av X).mono ?_;rintro p w'⟨xl,nl,cl,xm,o,cm,A,l,s,V,q,rfl,hcut,ac,ad,n,u,an,ht⟩;obtain⟨p1,p2,p3,p0,p4,p5⟩:=Ou hp k.s1 k.s2 s hcut n;rw[oO n]at p3 p4;obtain⟨s1,s2,s3⟩:=r l s _ ((mW _ _).trans (kC _ _):(List.take (q-V)<|List.drop V _).Sublist _);obtain⟨_,E,_,_⟩:=sS (ms:=x) (lowest:=d.isEmpty) s1 s2 s3 X;obtain⟨qs,q0,q1,q2,q3,q4,q5⟩:=k.sQ ht u n p3 E p4;have al:=yp n u.each p3 E p4;have m:(b.take l++b.drop (l+1)).Sublist b:=by(conv=>rhs;rw[Sk b l s]);rw[aU];exact(ew _).append<|ga _ _
 have P:(c.take V++c.drop q).Sublist c:=by(conv=>rhs;rw[Wk c hcut.le]);rw[aU];exact(ew _).append<|ga _ _
 refine⟨xl,nl,cl,xm,o,cm,b.take l++b.drop (l+1),c.take V++A++c.drop q,ps++qs,rfl,?_,by simp;omega,p1,p2,ht⟩;have h':=k.aw ht an;have B:∀t∈c.take V++A++c.drop q,t∈c\/t∈A:=by intro t j;simp only[am]at j;rcases j with(p|p)|p;exact .inl<|eB p;exact .inr p;exact .inl<|di p
 refine{h' with news:=q1,apart:=q2,r1:=dH ac,r2:=dH ad,b1:=yi ac k.bj k.ME k.le,b2:=yi ad k.bj k.ME k.le,x0:=λt j=>(h'.x0 t j).more qs,x1:=λt j=>(h'.x1 t<|m.subset j).more qs,x2:=?_,x3:=λt j=>(h'.x3 t j).more qs,nodup:=?_,s1:=k.s1.sub m,s2:=?_,qI:=?_};intro t j;rcases B t j with p|p;exact(h'.x2 t p).more qs;exact q3 t p;(have hn:((a++(b.take l++b.drop (l+1))++(c.take V++c.drop q)++d).map bJ.tb).Nodup:=by refine sI (List.Sublist.map _ ?_) k.nodup;exact((((ew a).append m).append P).append<|ew d));(have O:(a++(b.take l++b.drop (l+1))++(c.take V++A++c.drop q)++d).Perm (A++(a++(b.take l++b.drop (l+1))++(c.take V++c.drop q)++d)):=by(have W:a++(b.take l++b.drop (l+1))++(c.take V++A++c.drop q)++d=(a++(b.take l++b.drop (l+1))++c.take V)++A++(c.drop q++d):=by simp only[aU]);(have e2:A++(a++(b.take l++b.drop (l+1))++(c.take V++c.drop q)++d)=A++(a++(b.take l++b.drop (l+1))++c.take V)++(c.drop q++d):=by simp only[aU]);rw[W,e2];exact vD _ wB);rw[(O.map bJ.tb).nodup_iff,aM,jq];refine⟨q5,hn,λQ F bc hy p=>?_⟩;obtain⟨t,j,rfl⟩:=aZ.1 F;obtain⟨ba,hu,rfl⟩:=aZ.1 hy;have h1:=q4 t j;(have h2:ba.tb<z (G w):=by simp only[am]at hu;rcases hu with((W|W|W)|W|W)|W;exact XT.qz k<|k.x0 ba W;exact XT.qz k<|k.x1 ba<|eB W;exact XT.qz k<|k.x1 ba<|di W;exact XT.qz k<|k.x2 ba<|eB W;exact XT.qz k<|k.x2 ba<|di W;exact XT.qz k<|k.x3 ba W);omega;refine Pa (λt j=>?_) (p1.mq _<|by simp[cF]) p0;rcases B t j with p|p;exact k.s2.pure t p;exact(al t p).1;have:=k.qI;omega
theorem LS.Yd{w:I}{db sbqq baseqq C bb:M}{K:DK}{e:cP}{ps:cr NT}{g h i f:aa}{a b c d:cP}(k:LS w db sbqq baseqq K e ps C g h i f a b c d)(hp:PR bb (cF a b c d))(hc:0<y c)(x:eI)(mx:Option Addr)(mc:M)(hm:Row w 1 (J mx (y x) mc) (y x) (x.map<|Value.int .u64))(av:∀S,bV (J mx (y x) mc)=H S->S<z (G w)/\¬K.bj db S)(X:y x<=4):cy bG 119 #[eC #[g,h,i,f],ap 2,J mx (y x) mc] w λp w'=>∃xl nl cl xm o cm,∃c' d':cP,∃ax,p=aO (dB #[eC #[g,h,J xl nl cl,J xm o cm],.nilIface])/\LS w' db sbqq baseqq K e ax C g h (J xl nl cl) (J xm o cm) a b c' d'/\y c'+1=y c/\PR bb (cF a b c' d')/\(∀t,(t∈x\/(bb:Z)<=t)->∀S,fV t (cF a b c' d') S=fV t (cF a b c d) S)/\Y (K.bj db) w w':=by
 obtain⟨b0,o0,c0,rfl,ao⟩:=DJ k.r2 hc;obtain⟨x1,c1,rfl⟩:=bM k.r0;obtain⟨x2,c2,rfl⟩:=bM k.r1;obtain⟨x3,c3,rfl⟩:=bM k.r3;have au:∀l(s:l<y c)(v:cP),v.Sublist d->∀Q∈(cg v::[c[l]].map bJ.all).flatten,Q∈cg c\/Q∈cg d:=by intro l s v hw Q F;simp only[aY,eW,aX,fM,dJ,am]at F;rcases F with p|p;exact .inr<|(nD hw).subset p;exact .inl<|lk.2 ⟨_,aq s,p⟩
 have L:∀Q,Q∈cg c\/Q∈cg d->Q.Good:=λQ F=>hp.jc Q (by
  unfold cF;rw[dP,am];right;simp only[aX,fM,dJ,am];rcases F with p|p
  .exact .inr<|.inl p
  .exact .inr (.inr p))
 have r:∀l(s:l<y c)(v:cP),v.Sublist d->dQ (df<|cg v::[c[l]].map bJ.all)/\(∀Q∈df (cg v::[c[l]].map bJ.all),Q.Good)/\y (df<|cg v::[c[l]].map bJ.all)<=1000000:=by intro l s v hw;refine⟨Po k.s2 k.s3 (CV (C:=(a.map bJ.all).reverse++[cg b]) (D:=[]) (by have:=hp.sQ;simpa[cF]using this)) s hw,λQ F=>L Q<|au l s v hw Q<|(fH _).mem_iff.1 F,?_⟩;have h1:=(fH<|cg v::[c[l]].map bJ.all).length_eq;simp only[aY,eW,aX,fM,dJ,af]at h1;have h2:=(nD hw).length_le;(have O:y c[l].all<=y (cg c):=by have:=(nD (us:=[c[l]]) (ts:=c)<|vB.2<|aq s).length_le;simpa[cg]using this);have:=k.qI;have:=k.mJ;simp only[aY,eW];omega
 refine(EU b0 o0 c0 x3 x1 x2 _ _ _ _ _ _ a b k.XX ao hc k.YG k.r0 k.r1 (λS N=>⟨(k.b0 S N).1,(k.b0 S N).2.1⟩) (λS N=>⟨(k.b1 S N).1,(k.b1 S N).2.1⟩) k.D (ah _) (λS N=>by have:=k.bj S N;have:=k.le;omega) k.steps ⟨by have:=k.fC.1;have:=k.le;omega,k.fC.2.1⟩ (by have:=k.count;omega) (by rw[PF<|λt ht=>k.ks<|k.x3 t ht];have:=k.qI;have:=k.mJ;omega) _ (.inr ⟨rfl,rfl,rfl,rfl,rfl,rfl,rfl⟩) r x mx mc hm av X).mono ?_;rintro p w'⟨xl,nl,cl,xm,o,cm,A,l,s,V,q,rfl,hcut,ac,ad,n,u,an,ht⟩;obtain⟨p1,p2,p3,p0,p4,p5⟩:=Ot hp k.s2 k.s3 s hcut n;rw[oO n]at p3 p4;obtain⟨s1,s2,s3⟩:=r l s _ ((mW _ _).trans (kC _ _):(List.take (q-V)<|List.drop V _).Sublist _);obtain⟨_,E,_,_⟩:=sS (ms:=x) (lowest:=bW) s1 s2 s3 X;obtain⟨qs,q0,q1,q2,q3,q4,q5⟩:=k.sQ ht u n p3 E p4;have al:=yp n u.each p3 E p4;have m:(c.take l++c.drop (l+1)).Sublist c:=by(conv=>rhs;rw[Sk c l s]);rw[aU];exact(ew _).append<|ga _ _
 have P:(d.take V++d.drop q).Sublist d:=by(conv=>rhs;rw[Wk d hcut.le]);rw[aU];exact(ew _).append<|ga _ _
 refine⟨xl,nl,cl,xm,o,cm,c.take l++c.drop (l+1),d.take V++A++d.drop q,ps++qs,rfl,?_,by simp;omega,p1,p2,ht⟩;have h':=k.aw ht an;have B:∀t∈d.take V++A++d.drop q,t∈d\/t∈A:=by intro t j;simp only[am]at j;rcases j with(p|p)|p;exact .inl<|eB p;exact .inr p;exact .inl<|di p
 refine{h' with news:=q1,apart:=q2,r2:=dH ac,r3:=dH ad,b2:=yi ac k.bj k.ME k.le,b3:=yi ad k.bj k.ME k.le,x0:=λt j=>(h'.x0 t j).more qs,x1:=λt j=>(h'.x1 t j).more qs,x2:=λt j=>(h'.x2 t<|m.subset j).more qs,x3:=?_,nodup:=?_,s2:=k.s2.sub m,s3:=?_,qI:=?_};intro t j;rcases B t j with p|p;exact(h'.x3 t p).more qs;exact q3 t p;(have hn:((a++b++(c.take l++c.drop (l+1))++(d.take V++d.drop q)).map bJ.tb).Nodup:=by refine sI (List.Sublist.map _ ?_) k.nodup;exact(((ew<|a++b).append m).append P));(have O:(a++b++(c.take l++c.drop (l+1))++(d.take V++A++d.drop q)).Perm (A++(a++b++(c.take l++c.drop (l+1))++(d.take V++d.drop q))):=by(have W:a++b++(c.take l++c.drop (l+1))++(d.take V++A++d.drop q)=(a++b++(c.take l++c.drop (l+1))++d.take V)++A++d.drop q:=by simp only[aU]);(have e2:A++(a++b++(c.take l++c.drop (l+1))++(d.take V++d.drop q))=A++(a++b++(c.take l++c.drop (l+1))++d.take V)++d.drop q:=by simp only[aU]);rw[W,e2];exact vD _ wB);rw[(O.map bJ.tb).nodup_iff,aM,jq];refine⟨q5,hn,λQ F bc hy p=>?_⟩;obtain⟨t,j,rfl⟩:=aZ.1 F;obtain⟨ba,hu,rfl⟩:=aZ.1 hy;have h1:=q4 t j;(have h2:ba.tb<z (G w):=by simp only[am]at hu;rcases hu with((W|W)|W|W)|W|W;exact XT.qz k<|k.x0 ba W;exact XT.qz k<|k.x1 ba W;exact XT.qz k<|k.x2 ba<|eB W;exact XT.qz k<|k.x2 ba<|di W;exact XT.qz k<|k.x3 ba<|eB W;exact XT.qz k<|k.x3 ba<|di W);omega;refine Pa (λt j=>?_) (p1.mq _<|by simp[cF]) p0;rcases B t j with p|p;exact k.s3.pure t p;exact(al t p).1;have:=k.qI;omega
theorem NT.mP.symm{p q:NT}(j:p.mP q):q.mP p:=λk h g=>j k g h
theorem Vh{ps:cr NT}(k:ps.Pairwise NT.mP){p q:NT}(l:p∈ps)(m:q∈ps)(f:p≠q):p.mP q:=by
 obtain⟨i,h,rfl⟩:=gL.1 l;obtain⟨n,j,rfl⟩:=gL.1 m;rw[cw]at k;rcases kB i n with g|g|g;exact k i n h j g;subst g;exact absurd rfl f;exact(k n i j h g).symm
theorem GI{w l:I}{baseqq s f v k u g:M}{m:iU}(t:w.ownsRow baseqq s f (bD k 0 u g) v m)(r:l.heap[k]?=w.heap[k]?):l.ownsRow baseqq s f (bD k 0 u g) v m:=by
 refine⟨t.1,.inr ?_⟩;rcases t.2 with⟨n,_⟩|⟨x,j,h,n,o,p,q⟩;cases n;cases n;exact⟨k,g,h,rfl,o,r.trans p,q⟩
theorem LX{f:dW}(g:JN (bO 0 f))(j:y (dG f)<=100000):y (mu f)<=200000:=by
 have k:=lq<|λl h=>(g.can l h).fits;have:=g.len;unfold mu fa;rw[af,af,bY];omega
structure CF(w:I)(db sb base:M)(K:DK)(c:cP)(ps:cr NT)(T:cP)(a d:M):Prop where
 le:base<=z (G w)
 bj:∀k,K.bj db k->k<base
 ME:sb<base
 xt:∀t∈T,XT c ps t
 nodup:(T.map bJ.tb).Nodup
 apart:ps.Pairwise NT.mP
 news:∀p∈ps,p.Ok w base/\Mz p.t
 inj:∀t∈c,∀u∈c,t.num=u.num->t=u
 low:∀t∈c,t.num<a
 fresh:∀n,a<=n->dX (vw K.files) (gI n)=none
 fC:JJ db sb base K 1
 me:JJ db sb base K 2
 small:y T<=1000000
 nx:a<=1000000000000000
 room:d<=800000000000
 qI:ij (vw K.files)<=d
 eM:y K.eM<=10000000000
def Wr(db:M)(K:DK)(ps:cr NT)(k:M):Prop:=K.bj db k\/∃p∈ps,k=p.t.tb\/k=p.x
structure CM(w:I)(db sb base:M)(K:DK)(c:cP)(ps:cr NT)(T:cP)(a d:M)(wr:I)(b:DK)(us:cP)(i num:M):Prop where
 len:y us=i
 le:i<=y T
 same:us.map (λt=>(t.tb,t.ks,t.cs))=(T.take i).map (λt=>(t.tb,t.ks,t.cs))
 FN:∀t∈c,rO wr db (vw b.files) (JJ db sb base K) t
 PQ:∀u∈us,u∈c\/∃p∈ps,p.t.tb=u.tb/\rO wr db (vw b.files) p.has u/\a<=u.num/\u.num<num
 rest:∀p∈ps,p.t∈T.drop i->p.Ok wr base
 files:∃gs:Fs,vw b.files=vw K.files++gs/\(∀g∈gs,∃u∈us,g=(gI u.num,mu u.cs)/\a<=u.num)
 qI:ij (vw b.files)<=d+i*200000
 zn:(us.map bJ.num).Nodup
 qC:a<=num/\num<=a+i
 aN:cK wr db b
 eM:y b.eM<=y K.eM+i
 aw:Y (Wr db K ps) w wr
 bj:∀k,b.bj db k->K.bj db k\/z (G w)<=k
 steps:Steps wr
 pow:Pow wr
section
variable{w wr w2:I}{db sbqq baseqq:M}{K b e:DK}{c:cP}{ps:cr NT}{T us:cP}{a d i num:M}
theorem CM.start(h:CF w db sbqq baseqq K c ps T a d)(j:∀t∈c,rO w db (vw K.files) (JJ db sbqq baseqq K) t)(g:cK w db K)(k:Steps w)(f:Pow w):CM w db sbqq baseqq K c ps T a d w K [] 0 a where
 len:=rfl
 le:=bA _
 same:=by simp
 FN:=j
 PQ:=by simp
 rest:=λp f _=>(h.news p f).1
 files:=⟨[],by simp,by simp⟩
 qI:=by have:=h.qI;omega
 zn:=by simp
 qC:=⟨ah _,ah _⟩
 aN:=g
 eM:=ah _
 aw:=Y.refl _ _
 bj:=λ_ h=>.inl h
 steps:=k
 pow:=f
theorem TS(h:us.map (λt=>(t.tb,t.ks,t.cs))=(T.take i).map (λt=>(t.tb,t.ks,t.cs))):us.map bJ.tb=(T.take i).map bJ.tb:=by
 have:=bU (List.map Prod.fst) h;simpa[iQ,mY]using this
theorem SU(m:(T.map bJ.tb).Nodup)(k:i<y T)(r:us.map (λt=>(t.tb,t.ks,t.cs))=(T.take i).map (λt=>(t.tb,t.ks,t.cs))):∀u∈us,u.tb≠T[i].tb:=by
 intro u o q;have h:u.tb∈(T.take i).map bJ.tb:=by rw[<-TS r];exact gY o
 rw[q]at h;obtain⟨t,n,g⟩:=aZ.1 h;obtain⟨p,l,rfl⟩:=gL.1 n;have f:p<i/\p<y T:=by rw[dL]at l;omega
 rw[gq]at g;have j:=cw.1 m p i (by simpa using f.2) (by simpa using k) f.1;simp only[jS]at j;exact j g
theorem Gu(f:i<y T)(h:us.map (λt=>(t.tb,t.ks,t.cs))=(T.take i).map (λt=>(t.tb,t.ks,t.cs)))(u:bJ)(g:(u.tb,u.ks,u.cs)=(T[i].tb,T[i].ks,T[i].cs)):(us++[u]).map (λt=>(t.tb,t.ks,t.cs))=(T.take<|i+1).map (λt=>(t.tb,t.ks,t.cs)):=by
 rw[aj f,aM,aM,h];simp only[aY,eW,g]
theorem Ej{l:cr M}{x:M}(k:l.Nodup)(h:x∉l):(l++[x]).Nodup:=by
 rw[jq];exact⟨k,by simp,λm f n g j=>by rw[bH]at g;rw[j,g]at f;exact h f⟩
theorem CM.skip(r:CF w db sbqq baseqq K c ps T a d)(hm:CM w db sbqq baseqq K c ps T a d wr b us i num)(h:i<y T)(j:T[i]∈c):CM w db sbqq baseqq K c ps T a d wr b (us++[T[i]]) (i+1) num:=by
 have g:=SU r.nodup h hm.same;obtain⟨q,k,l⟩:=hm.files;refine{hm with len:=by rw[af,hm.len];rfl,le:=h,same:=Gu h hm.same _ rfl,PQ:=?_,rest:=?_,files:=⟨q,k,λv s=>?_⟩,qI:=aE hm.qI<|Nat.add_le_add_left (kh _<|Nat.le_succ i) _,zn:=?_,qC:=⟨hm.qC.1,by have:=hm.qC.2;omega⟩,eM:=by have:=hm.eM;omega};intro u f;rcases am.1 f with n|n;exact hm.PQ u n;rw[bH]at n;subst n;exact .inl j;intro t o m;refine hm.rest t o ?_;rw[<-kQ h];exact aJ _ m;obtain⟨u,f,p⟩:=l v s;exact⟨u,by simp[f],p⟩;rw[aM];refine Ej hm.zn<|λn=>?_;obtain⟨u,f,p⟩:=aZ.1 n;rcases hm.PQ u f with m|⟨t,o,_,_,m,_⟩;exact g u f (by rw[r.inj u m _ j p]);have:=r.low _ j;omega
theorem CM.wrote(E:CF w db sbqq baseqq K c ps T a d)(f:CM w db sbqq baseqq K c ps T a d wr b us i num)(P:i<y T){p:NT}(L:p∈ps)(s:p.t=T[i])(hd:cK w2 db e)(ht:Y (λk=>b.bj db k\/k=p.t.tb\/k=p.x) wr w2)(hf:∀k,e.bj db k->b.bj db k\/z (G wr)<=k)(hv:vw e.files=vw b.files++[(gI num,mu p.t.cs)])(ao:y e.eM=y b.eM+1)(hT:lR w2 p.t.tb (aA db) num (y<|dG p.t.cs) (y<|fa<|bO 0 p.t.cs) (mr<|fa<|bO 0 p.t.cs) p.bb 0 p.wL aK (bO 0 p.t.cs))(V:num<18446744073709551616):CM w db sbqq baseqq K c ps T a d w2 e (us++[{T[i]with num:=num}]) (i+1) (num+1):=by
 have S:=SU E.nodup P f.same;obtain⟨gs,N,O⟩:=f.files;have r:=(E.news p L).1;have ad:=r.lt;have au:=f.aw.size;have an:=E.le
 have m:∀k,k<z (G w)->¬K.bj db k->¬p.has k->w2.heap[k]?=wr.heap[k]?:=λk h B j=>ht.block k (by omega) (λg=>by
  rcases g with g|g|g
  .rcases f.bj k g with D|D
   .exact B D
   .omega
  .exact j<|.inl g
  .exact j (.inr (.inr g)))
 have o:∀k,JJ db sbqq baseqq K k->w2.heap[k]?=wr.heap[k]?:=λk h=>m k (by have:=h.1;omega) h.2.1 (λg=>by have:=(ad k g).1;have:=h.1;omega);have l:∀q∈ps,q≠p->∀k,q.has k->w2.heap[k]?=wr.heap[k]?:=λq t x k h=>by have j:=(E.news q t).1.lt k h;exact m k j.2 (λg=>by have:=E.bj k g;omega)<|λg=>Vh E.apart t L x k h g
 have v:∀n f,dX (vw b.files) n=H f->dX (vw e.files) n=H f:=λn f F=>by rw[hv,jw,F];rfl
 have A:dX (vw b.files) (gI num)=none:=by
  rw[N,jw,E.fresh num f.qC.1,lX];cases g:dX gs (gI num)with
  |none=>rfl
  |some B=>
   obtain⟨X,C,u,j⟩:=O _<|xK g;simp only[gT]at u;have e2:=uQ u.1;rcases f.PQ X C with D|⟨q,t,_,_,_,D⟩
   .have:=E.low X D;omega
   .omega
 have W:∀{A:fJ}{al:bJ},rO wr db (vw b.files) A al->(∀k,A k->w2.heap[k]?=wr.heap[k]?)->rO w2 db (vw e.files) A al:=λho h=>by have j:=ho.Ry h;exact⟨j.mem,j.loc,j.ks,j.num,j.pure,j.idx,j.small,v _ _ j.file⟩
 have n:=(E.news p L).2;have Q:rO w2 db (vw e.files) p.has {T[i]with num:=num}:=by rw[<-s];refine⟨⟨p.bb,0,p.wL,?_,.inr<|.inl rfl⟩,.inl rfl,r.ks,V,n.pure,n.idx,n.small,?_⟩;show lR w2 p.t.tb _ num _ _ _ p.bb 0 p.wL _ p.t.ks;rw[r.ks];exact hT;show dX (vw e.files) (gI num)=H (mu p.t.cs);rw[hv,jw,A];simp[dX]
 refine{len:=by rw[af,f.len];rfl,le:=P,same:=Gu P f.same _ rfl,FN:=λal h0=>W (f.FN al h0) o,PQ:=?_,rest:=?_,files:=⟨gs++[(gI num,mu p.t.cs)],by rw[hv,N,aU],λax hg=>?_⟩,qI:=?_,zn:=?_,qC:=⟨by have:=f.qC.1;omega,by have:=f.qC.2;omega⟩,aN:=hd,eM:=by have:=f.eM;omega,aw:=?_,bj:=?_,steps:=?_,pow:=?_};intro X C;rcases am.1 C with g|g;rcases f.PQ X g with D|⟨q,t,u,ho,j,B⟩;exact .inl D;refine .inr ⟨q,t,u,W ho<|l q t<|λe2=>?_,j,by omega⟩;rw[e2,s]at u;exact S X g u.symm;rw[bH]at g;subst g;exact .inr ⟨p,L,by rw[s],Q,f.qC.1,by show num<num+1;omega⟩;intro q t B;(have x:q≠p:=λu=>by subst u;rw[s]at B;obtain⟨av,hj,u⟩:=gL.1 B;rw[mX]at u;(have ac:i+1+av<y T:=by rw[ix]at hj;omega);have h2:=cw.1 E.nodup i (i+1+av) (by simpa using P) (by simpa using ac) (by omega);simp only[jS]at h2;exact h2<|by rw[u]);have j:=f.rest q t (by rw[<-kQ P];exact aJ _ B);have F:=l q t x;exact⟨j.ks,j.num,j.pieces,j.mem.de (F _<|.inl rfl)<|F _<|.inr<|.inl rfl,GI j.data<|F _<|.inr<|.inr rfl,GI j.FW<|F _<|.inr<|.inl rfl,j.new⟩;rcases am.1 hg with g|g;obtain⟨X,C,u⟩:=O ax g;exact⟨X,by simp[C],u⟩;rw[bH]at g;refine⟨{T[i]with num:=num},by simp,?_,f.qC.1⟩;rw[g,s];rw[hv,uv];have:=LX n.idx n.small;have:=f.qI;simp only[ij,aY,eW,iL,List.sum_nil]at*;omega;rw[aM];refine Ej f.zn<|λg=>?_;obtain⟨X,C,u⟩:=aZ.1 g;have j:X.num=num:=u;rcases f.PQ X C with D|⟨q,t,_,_,_,D⟩;have:=E.low X D;have:=f.qC.1;omega;omega;refine f.aw.trans ht<|λk h=>?_;rcases h with g|g|g;rcases f.bj k g with D|D;exact .inl<|.inl D;exact .inr D;exact .inl<|.inr ⟨p,L,.inl g⟩;exact .inl<|.inr ⟨p,L,.inr g⟩;intro k h;rcases hf k h with g|g;exact f.bj k g;exact .inr (by omega);exactλk h=>(cH (w:=wr)<|o _ E.fC).trans<|f.steps k h;exact f.pow.de<|o _ E.me
end
structure Fj(t:bJ):Prop where
 ks:t.ks=bO 0 t.cs
 pure:tD t.ks t.cs
 idx:JN (bO 0 t.cs)
 small:y (dG t.cs)<=100000
 num:t.num<18446744073709551616
structure SF(fs:Fs)(nx lg tb:M)(a b c d:cP)(gB:Bool)(ls:dW):Prop where
 names:∀n bs,dX fs n=H bs->n=gP\/(n=iM lg/\gB=bW)\/∃t∈a++b++c++d,n=gI t.num
 state:dX fs gP=H (iF nx lg tb [a,b,c,d])\/(dX fs gP=none/\a=[]/\b=[]/\c=[]/\d=[]/\nx=2/\lg=1/\tb=0)
 log:gB=bW->dX fs (iM lg)=H (lO ((tb:Z)+1) ls)
 GJ:gB=bF->ls=[]
 zc:∀t∈a++b++c++d,dX fs (gI t.num)=H (mu t.cs)
 zn:((a++b++c++d).map bJ.num).Nodup
 low:∀t∈a++b++c++d,t.num<nx/\t.num≠lg
 lt:lg<nx
 jc:∀t∈a++b++c++d,Fj t
def yj:∀{l m:cr ab},l.Nodup->(∀x∈l,x∈m)->y l<=y m
 |[],_,_,_=>bA _
 |x::l,m,b,e=>by
  rw[kI]at b;obtain⟨m1,m2,rfl⟩:=sH (e x<|by simp);have f:∀a∈l,a∈m1++m2:=λa c=>by
   have:=e a (by simp[c]);simp only[am,az]at this|-;rcases this with d|d|d
   .exact .inl d
   .rw[d]at c;exact absurd c b.1
   .exact .inr d
  have g:=yj b.2 f;simp only[ay,af]at g|-;omega
def rF{a:Fs}(h:v∈a.map (·.1)):∃d,dX a v=H d:=by
 induction a with
 |nil=>simp at h
 |cons f r b=>
  unfold dX;by_cases e:f.1=v
  .exact⟨f.2,by rw[dw e]⟩
  .rw[cW e];refine b ?_;rw[aY,az]at h;rcases h with c|c
   .exact absurd c.symm e
   .exact c
def Lg{a:Fs}(h:dX a v=H o):v∈a.map (·.1):=aZ.2 ⟨_,xK h,rfl⟩
def Jj{a:Fs}(h:v∉a.map (·.1)):dX a v=none:=by
 cases c:dX a v with
 |none=>rfl
 |some b=>exact absurd (Lg c) h
def vX{a:Fs}(b:(a.map (·.1)).Nodup){f:ab×eI}(h:f∈a):dX a f.1=H f.2:=by
 induction a with
 |nil=>cases h
 |cons g r d=>
  rw[aY,kI]at b;unfold dX;rcases az.1 h with c|c
  .subst c;rw[dw rfl]
  .have:g.1≠f.1:=λe=>b.1 (by rw[e];exact gY c);rw[cW this];exact d b.2 c
def On(a:Fs)(n:ab):((vi a n).map (·.1)).Sublist (a.map (·.1)):=by
 induction a with
 |nil=>exact ew _
 |cons f r b=>
  unfold vi;split
  .exact pN _ _
  .rw[aY,aY];exact b.cons_cons _
def RZ{a:Fs}(b:(a.map (·.1)).Nodup)(n:ab):dX (vi a n) n=none:=by
 induction a with
 |nil=>rfl
 |cons f r c=>
  rw[aY,kI]at b;unfold vi;by_cases e:f.1=n
  .rw[dw e];exact Jj (by rw[<-e];exact b.1)
  .rw[cW e];unfold dX;rw[cW e];exact c b.2
def Om{a:Fs}(c:(a.map (·.1)).Nodup){b:cr ab}(h:v∈b):dX (vh a b) v=none:=by
 induction b generalizing a with
 |nil=>cases h
 |cons m r g=>
  have f:((vi a m).map (·.1)).Nodup:=c.sublist<|On a m;show dX (vh (vi a m) r) v=none;by_cases d:v∈r
  .exact g f d
  .rw[tj d];rcases az.1 h with e|e
   .rw[e];exact RZ c m
   .exact absurd e d
def Oj{a:Fs}(d:(a.map (·.1)).Nodup){b:cr ab}(h:dX (vh a b) v=H o):v∉b/\dX a v=H o:=by
 by_cases c:v∈b;rw[Om d c]at h;cases h;rw[tj c]at h;exact⟨c,h⟩
def GX(s:ab)(a S:M):∀{b:Fs},(b.map (·.1)).Nodup->(∀f∈b,f.1≠s->y f.2<=a)->(∀f∈b,f.1=s->y f.2<=S)->ij b<=y b*a+S
 |[],_,_,_=>by simp[ij]
 |f::r,e,d,i=>by
  rw[aY,kI]at e;have h:ij (f::r)=y f.2+ij r:=by simp[ij]
  rw[h,ay,wR,Nat.one_mul];by_cases l:f.1=s
  .have m:ij r<=y r*a:=by
    have:∀{b:Fs},(∀f∈b,y f.2<=a)->ij b<=y b*a:=by
     intro b;induction b with
     |nil=>intro _;simp[ij]
     |cons g q n=>
      intro k;have h:ij (g::q)=y g.2+ij q:=by simp[ij]
      have j:=n (λf a=>k f<|by simp[a]);have o:=k g (by simp);rw[h,ay,wR,Nat.one_mul];omega
    exact this<|λg c=>d g (by simp[c])<|λh=>e.1 (by rw[l,<-h];exact gY c)
   have j:=i f (by simp) l;omega
  .have m:=GX s a S e.2 (λg c=>d g<|by simp[c]) (λg c=>i g<|by simp[c]);have j:=d f (by simp) l;omega
def Qi(c b a:Z)(d e f g:cP):y (iF c b a [d,e,f,g])=44+20*y (d++e++f++g):=by
 unfold iF;rw[gu];simp only[aY,eW,aX,fM,dJ,af,py,bY];omega
def SF.total{d:Fs}(j:SF d b c g i p t u D k)(h:(d.map (·.1)).Nodup)(s:y (lO ((g:Z)+1) k)<=200000)(A:y (i++p++t++u)<=1000000):ij d<=201000000000:=by
 have v:y d<=y (i++p++t++u)+2:=by
  have:=yj (m:=gP::iM c::(i++p++t++u).map (λq=>gI q.num)) h (λo l=>by
   obtain⟨a,n⟩:=rF l;rcases j.names o a n with e|⟨e,_⟩|⟨q,f,e⟩
   .rw[e];simp
   .rw[e];simp
   .rw[e];exact aJ _ (aJ _ (aZ.2 ⟨q,f,rfl⟩)))
  simp only[cU,ay]at this;omega
 have w:=GX gP 200000 21000000 h (λc l o=>by
  have a:=vX h l;rcases j.names _ _ a with e|⟨e,n⟩|⟨q,f,e⟩
  .exact absurd e o
  .have:=j.log n;rw[<-e,a]at this;rw[dD this];exact s
  .have:=j.zc q f;rw[<-e,a]at this;rw[dD this];exact LX (j.jc q f).idx (j.jc q f).small) (λc l r=>by
  have a:=vX h l;rw[r]at a;rcases j.state with e|⟨e,_⟩
  .rw[a]at e;rw[dD e,Qi];omega
  .rw[a]at e;cases e)
 have x:y d*200000<=1000002*200000:=kh _ (by omega);omega
def cK.nodup(k:cK a b j):((vw j.files).map (·.1)).Nodup:=by
 obtain⟨e,d,_,h,i⟩:=k.now;have f:e.toList.map (·.key)=(j.files.map da.nm).map (λp=>ai p.1):=by have:=bU (List.map Prod.fst) h;simpa[iQ,mY]using this
 have c:=i.2.2;rw[f]at c;have g:(vw j.files).map (·.1)=(j.files.map da.nm).map (·.1):=by simp[vw,da.nm,iQ,mY]
 rw[g];rw[iQ]at c|-;unfold List.Nodup at c|-;rw[jp]at c|-;exact c.imp<|λd e=>d (by simp only[Function.comp]at*;rw[e])
theorem RH{c:dW}(k:∀g∈c,∀x∈g,x.Good):kA (dG c):=by
 induction c with
 |nil=>intro x h;simp[dG]at h
 |cons g r j=>
  rw[oN];exact((LH<|k g<|by simp).append<|kA.le 4 _).append<|j<|λh c=>k h<|by simp[c]
theorem VV{w:I}(j l m n:Option Addr)(h c1 c2 c3:M)(o p q r:cP)(B:Row w 1 (J j (y o) h) (y o) (o.map bJ.ptr))(C:Row w 1 (J l (y p) c1) (y p) (p.map bJ.ptr))(D:Row w 1 (J m (y q) c2) (y q) (q.map bJ.ptr))(E:Row w 1 (J n (y r) c3) (y r) (r.map bJ.ptr))(u:∀k,bV (J j (y o) h)=H k->k<z (G w))(v:∀k,bV (J l (y p) c1)=H k->k<z (G w))(x:∀k,bV (J m (y q) c2)=H k->k<z (G w))(A:∀k,bV (J n (y r) c3)=H k->k<z (G w))(F:y (o++p++q++r)<=10000000):Dd (ct w<|ar #[J j (y o) h,J l (y p) c1,J m (y q) c2,J n (y r) c3] 107) (z<|G w) 0 [(J j (y o) h,o),(J l (y p) c1,p),(J m (y q) c2,q),(J n (y r) c3,r)]:=by
 have c:Y aB w (ct w<|ar #[J j (y o) h,J l (y p) c1,J m (y q) c2,J n (y r) c3] 107):=(Y.refl _ _).alloc _;have t:(ct w<|ar #[J j (y o) h,J l (y p) c1,J m (y q) c2,J n (y r) c3] 107).heap[z<|G w]?=H (ar #[J j (y o) h,J l (y p) c1,J m (y q) c2,J n (y r) c3] 107 (0,0)):=aD _ rfl;refine⟨rfl,λi s=>?_,λi s=>?_,λi s=>?_,by rw[Qc];omega⟩;(have:i=0\/i=1\/i=2\/i=3:=by simp at s;omega);rcases this with rfl|rfl|rfl|rfl<;>(rw[bN t];rfl);(have:i=0\/i=1\/i=2\/i=3:=by simp at s;omega);rcases this with rfl|rfl|rfl|rfl;exact c.row B<|λk g=>⟨id,u k g⟩;exact c.row C<|λk g=>⟨id,v k g⟩;exact c.row D<|λk g=>⟨id,x k g⟩;exact c.row E<|λk g=>⟨id,A k g⟩;(have:i=0\/i=1\/i=2\/i=3:=by simp at s;omega);rcases this with rfl|rfl|rfl|rfl;exactλk g=>ag (u k g) c.size;exactλk g=>ag (v k g) c.size;exactλk g=>ag (x k g) c.size;exactλk g=>ag (A k g) c.size
section
variable{w wr w2:I}{db sbqq baseqq:M}{K d f:DK}{e:cP}{ps:cr NT}{T us:cP}{a b i num:M}
theorem CM.free(r:CF w db sbqq baseqq K e ps T a b)(j:CM w db sbqq baseqq K e ps T a b wr d us i num):dX (vw d.files) (gI num)=none:=by
 obtain⟨k,g,h⟩:=j.files;rw[g,jw,r.fresh num j.qC.1,lX];cases c:dX k (gI num)with
 |none=>rfl
 |some v=>
  obtain⟨u,l,o,m⟩:=h _<|xK c;simp only[gT]at o;have s:=uQ o.1;rcases j.PQ u l with n|⟨q,t,_,_,_,n⟩
  .have:=r.low u n;omega
  .omega
theorem CM.write(n:CF w db sbqq baseqq K e ps T a b)(g:CM w db sbqq baseqq K e ps T a b wr d us i num)(O:i<y T){p:NT}(s:p∈ps)(l:p.t=T[i]):cy bG 140 #[aA<|T[i].tb,aA db,aH num] wr λV P=>V=aO .nilIface/\∃t C,CM w db sbqq baseqq K e ps T a b P t C (i+1) (num+1):=by
 have c:=g.rest p s (by rw[l,<-kQ O];exact dy);have k:=(n.news p s).2;have o:num<18446744073709551616:=by have:=g.qC.2;have:=n.nx;have:=n.small;omega
 have m:ij (vw d.files)+200000<=1099511627776:=by have E:=g.qI;have F:=n.room;have L:=n.small;have N:i*200000<=1000000*200000:=kh _ (by omega);omega
 have q:=(n.news p s).1.lt;have j:∀r,p.has r->¬d.bj db r:=λr B W=>by rcases g.bj r W with D|D;have:=n.bj r D;have:=(q r B).1;omega;have:=(q r B).2;omega
 have v:p.bb≠p.t.tb:=by obtain⟨u,A⟩:=fD c.FW (k:=p.bb) rfl;exact io A c.mem.box<|by decide
 have x:p.bb≠p.x:=by obtain⟨u,A⟩:=fD c.FW (k:=p.bb) rfl;obtain⟨D,B⟩:=fD c.data (k:=p.x) rfl;exact io A B<|by decide
 have h:=c.mem;rw[c.ks]at h;rw[<-l];refine(Ik num o p.x p.FU p.t.cs h c.data (by have:=n.le;have:=g.aw.size;omega) k.idx (RH k.pure.jc) g.steps g.pow k.small g.aN (g.free n) (by have:=g.eM;have:=n.eM;have:=n.small;omega) m (j _<|.inr<|.inr rfl) (j _<|.inl rfl) (j _<|.inr<|.inl rfl) v x).mono ?_;rintro V P⟨rfl,t,E,F,L,N,Q,S⟩;exact⟨rfl,t,_,g.wrote n O s l E F L N Q S o⟩
end
def SR.settled(s:SR)(a b c d:aa)(n num:M):SR:={s with memory:=aK,iS:=0,bC:=n,l0:=a,l1:=b,l2:=c,l3:=d,next:=num+1,log:=num,gB:=bF,vG:=bF,km:=bF,kj:=bF}
def WZ{n:cP}(o:i.map (λa=>(a.tb,a.ks,a.cs))=(p++t++u++n).map (λa=>(a.tb,a.ks,a.cs))):∃b c d e,i=b++c++d++e/\b.map (λa=>(a.tb,a.ks,a.cs))=p.map (λa=>(a.tb,a.ks,a.cs))/\c.map (λa=>(a.tb,a.ks,a.cs))=t.map (λa=>(a.tb,a.ks,a.cs))/\d.map (λa=>(a.tb,a.ks,a.cs))=u.map (λa=>(a.tb,a.ks,a.cs))/\e.map (λa=>(a.tb,a.ks,a.cs))=n.map (λa=>(a.tb,a.ks,a.cs)):=by
 rw[aM,aM,aM]at o;obtain⟨x,e,rfl,f,g⟩:=iw.1 o;obtain⟨m,d,rfl,h,j⟩:=iw.1 f;obtain⟨b,c,rfl,k,l⟩:=iw.1 h;exact⟨b,c,d,e,rfl,k,l,j,g⟩
def lh(h:i.map (λt=>(t.tb,t.ks,t.cs))=p.map (λt=>(t.tb,t.ks,t.cs))):i.map bJ.ptr=p.map bJ.ptr/\y i=y p/\i.map bJ.all=p.map bJ.all/\cg i=cg p:=by
 have a:=bU (List.map (λe:M×mw×dW=>fp<|H<|R e.1 0)) h;have d:=bU y h;have b:=bU (List.map (λe:M×mw×dW=>e.2.2.flatten)) h;simp only[iQ,mY]at a b;have c:i.map bJ.all=p.map bJ.all:=b;refine⟨a,by simpa using d,c,?_⟩;unfold cg;rw[c]
def WI(w i:I)(a:M)(s:SR)(k:Z)(b v o:M)(K:DK)(m:cr NT)(x A B C:aa)(p q r u l:cP):Prop:=∃(n wr:I)(j c:DK)(h d e f g:cP)(num:M),Y aB w n/\CM n s.aN a b K l m (p++q++r++u) s.next o wr j h (y<|p++q++r++u) num/\h=d++e++f++g/\d.map (λt=>(t.tb,t.ks,t.cs))=p.map (λt=>(t.tb,t.ks,t.cs))/\e.map (λt=>(t.tb,t.ks,t.cs))=q.map (λt=>(t.tb,t.ks,t.cs))/\f.map (λt=>(t.tb,t.ks,t.cs))=r.map (λt=>(t.tb,t.ks,t.cs))/\g.map (λt=>(t.tb,t.ks,t.cs))=u.map (λt=>(t.tb,t.ks,t.cs))/\bL i a (s.settled x A B C v num) k/\cK i s.aN c/\vw c.files=vh (td (vw j.files) (gP,iF ((num:Z)+1) num v [d,e,f,g])) (pt s l h)/\((td (vw j.files) (gP,iF ((num:Z)+1) num v [d,e,f,g])).map (·.1)).Nodup/\y c.eM=y (pt s l h)/\(∀k,k<z (G w)->¬K.bj s.aN k->k≠a->i.heap[k]?=wr.heap[k]?)/\Y (λk=>Wr s.aN K m k\/k=a) w i/\(∀k,c.bj s.aN k->K.bj s.aN k\/z (G w)<=k)
def Me{s:SR}(e sv bv B0:M)(ps:cr NT)(v0 v1 v2 v3:aa)(eg ei bg ej a0 b0 c0 d0:cP)(h:bL a b s m)(hL:LS a s.aN b e j (a0++b0++c0++d0) ps sv v0 v1 v2 v3 eg ei bg ej)(hF:∀bn,Y aB a bn->CF bn s.aN b e j (a0++b0++c0++d0) ps (eg++ei++bg++ej) s.next B0)(la:Dd a b 10 [(s.l0,a0),(s.l1,b0),(s.l2,c0),(s.l3,d0)])(ra:cK a s.aN j)(hB:¬j.bj s.aN b)(sz:bv<1000000000000000)(pe:s.log<18446744073709551616)(sc:y (a0++b0++c0++d0)<=1000000)(ds:∀bv he,dX (vw j.files) bv=H he->bv≠uS)(bl:∃mE bv bg,s.memory=J mE bv bg)(kz:∀bo,bo=s.l0\/bo=s.l1\/bo=s.l2\/bo=s.l3->∀m,bV bo=H m->JJ s.aN b e j m)(dc:∀us,(pt s (a0++b0++c0++d0) us).Nodup/\∀bv∈pt s (a0++b0++c0++d0) us,bv≠gP/\∃he,dX (vw j.files) bv=H he):cy bG 89 #[aA b,eC #[v0,v1,v2,v3],aH bv] a λcM w'=>cM=aO .nilIface/\WI a w' b s m e bv B0 j ps v0 v1 v2 v3 eg ei bg ej (a0++b0++c0++d0):=by
 obtain⟨x0,A,rfl⟩:=bM hL.r0;obtain⟨x1,B,rfl⟩:=bM hL.r1;obtain⟨x2,C,rfl⟩:=bM hL.r2;obtain⟨x3,D,rfl⟩:=bM hL.r3;have qv:=hL.count;have hw:y (eg++ei++bg++ej)<=1000000:=by simp only[af];omega
 have hy:=VV x0 x1 x2 x3 A B C D eg ei bg ej hL.r0 hL.r1 hL.r2 hL.r3 (λm d=>(hL.b0 m d).1) (λm d=>(hL.b1 m d).1) (λm d=>(hL.b2 m d).1) (λm d=>(hL.b3 m d).1) (by omega);obtain⟨WB,es⟩:∃WB,ct a (ar #[J x0 (y eg) A,J x1 (y ei) B,J x2 (y bg) C,J x3 (y ej) D] 107)=WB:=⟨_,rfl⟩;rw[es]at hy;obtain⟨ca,mI⟩:∃ca,eg++ei++bg++ej=ca:=⟨_,rfl⟩;have cT:=sa _ hy;rw[Pj,Qc,mI]at cT;have hH:Y aB a WB:=by rw[<-es];exact(Y.refl _ _).alloc _
 have jG:WB.heap[z<|G a]?=H (ar #[J x0 (y eg) A,J x1 (y ei) B,J x2 (y bg) C,J x3 (y ej) D] 107 (0,0)):=by rw[<-es];exact aD _ rfl
 have kv:=(hH.block b (ak h) id).trans h;have rT:=bL.cellAt kv 14 rfl;rw[mI]at hF hw;obtain⟨HH,g,HF,nv,hM,iu,ch,el,nd⟩:=xG h hL hF hH jG mI la kz dc;obtain⟨ss,sp,sn,bl⟩:=bl;have nl:=U bl;clear h hL hF hy hH jG kv mI la kz dc bl;go_in
 go_wp2_with fail
 apply cT.mono;rintro cM w1⟨st,rfl,hA,hE⟩;obtain⟨xT,sx,pp⟩:=aC hA;subst pp;have w:Y aB a w1:=nv.ci hE;have hp:=HF w1 w;have jI:=ra.aw w<|λ_ _=>id;have jH:=CM.start hp (λbh h0=>(g.uT bh h0).Ry<|λm d=>w.block m (by have:=d.1;have:=g.le;omega) id) jI (λm d=>w.cell (g.steps m d) id (by have:=g.fC.1;have:=g.le;omega))<|g.pow.aw w id;obtain⟨hX,fx,au,nc,cc,cb,nK⟩:=ww hA w hp jH ((w.block b (ak HH) id).trans HH) ((hE.block (z<|G a) (ak hM) id).trans hM) (show z (G a)+1=z (G WB)by rw[<-es];simp);clear hA hE w hp jH cT jI ra;go_wp2_with fail
 go_loopw [7,22] (λee gA wr=>∃(ef num:M)(KR:DK)(us:cP),gA=ap ef/\ee=aH num/\CM w1 s.aN b e j (a0++b0++c0++d0) ps ca s.next B0 wr KR us ef num) (λ_ gA _=>y ca-(intOf gA).toNat)
 case atStart=>exact⟨0,s.next,j,[],rfl,rfl,nc⟩
 case round=>
  obtain⟨ef,num,KR,us,rfl,rfl,l⟩:=hrel;have sb:=g.le;have rt:=g.ME;have bu:∀m,z (G a)<=m->¬Wr s.aN j ps m:=by
   rintro m d(bg|⟨bT,X,bg|bg⟩)
   .have:=g.bj m bg;omega
   .have:=((g.news bT X).1.lt m<|.inl bg).2;omega
   .have:=((g.news bT X).1.lt m<|.inr<|.inr bg).2;omega
  have lo:¬Wr s.aN j ps b:=by
   rintro(bg|⟨bT,X,bg|bg⟩)
   .exact hB bg
   .have:=((g.news bT X).1.lt b<|.inl bg).1;omega
   .have:=((g.news bT X).1.lt b<|.inr<|.inr bg).1;omega
  have sl:=ae nK;have bd:=(l.aw.block b (ak cc) lo).trans cc;by_cases dk:ef<y ca
  .have c:=l.aw.own hX<|λm d=>bu m (by have:=(hX.lt m d).1;omega);obtain⟨t,F,u⟩:∃t,xT=H (R t 0)/\aT wr (R t ef)=H ca[ef].ptr:=by
    rcases c.2 with⟨h2,h0⟩|⟨x,i,nS,h2,_⟩
    .omega
    .cases h2;refine⟨x,rfl,?_⟩;have:=ph c ef ca[ef].ptr (by rw[dz,aG dk];rfl);rwa[dt,cQ]at this
   subst F;unfold bJ.ptr at u;have e1:(ef:Z)<(y ca:Z):=by omega
   rcases au.xt ca[ef] (aq dk)with h0|⟨bT,X,f⟩
   .obtain⟨hI,al,n,hm,_⟩:=(l.FN ca[ef] h0).mem;have i:=BR _ hm;have HM:=U<|l.skip au dk h0;clear l c bd hm h0 bu;generalize ca[ef].tb=p at*;go_wp2_with fail
    apply i.mono;rintro cM N⟨rfl,E⟩;subst N;clear i;go_wp2;go_roundw;case rel=>exact⟨ef+1,num,KR,_,by go_num,rfl,HM⟩
    case measure=>simp[intOf];omega
   .have v:=l.rest bT X (by rw[f,<-kQ dk];exact dy);have i:=Df v.mem;rw[f]at i;have o:=l.write au dk X f;have le:num+1<9223372036854775807:=by have:=l.qC.2;have:=au.nx;have:=au.small;omega
    have c2:=bL.cellAt bd 2 rfl;clear l c bd v bu f X;generalize ca[ef].tb=p at*;go_wp2_with fail
    apply i.mono;rintro cM N⟨rfl,E⟩;subst N;clear i;go_wp2_with fail
    apply o.mono;rintro cM N⟨rfl,L,K,k⟩;have r:=U k;clear k o;go_wp2;go_roundw;case rel=>exact⟨ef+1,num+1,L,K,by go_num,by go_num,r⟩
    case measure=>simp[intOf];omega
  .have pc:ef=y ca:=by have:=l.le;omega
   rw[pc]at l;have kl:us.map (λbh=>(bh.tb,bh.ks,bh.cs))=(eg++ei++bg++ej).map (λbh=>(bh.tb,bh.ks,bh.cs)):=by rw[l.same,bP,ae iu]
   obtain⟨L,O,W,d',K,ob,oi,om,os⟩:=WZ kl;obtain⟨hf,hg,oc,od⟩:=lh ob;obtain⟨hh,hi,oj,ol⟩:=lh oi;obtain⟨hj,hk,on,op⟩:=lh om;obtain⟨hl,hn,ov,ox⟩:=lh os;have hz:∀bo,qD a s.aN b e j bo->∀m,bV bo=H m->¬Wr s.aN j ps m:=by
    rintro bo hv m d(q|⟨bT,X,q|q⟩)
    .exact(hv m d).2.1 q
    .have v:=(g.news bT X).1;rcases(hv m d).2.2.2 with x|⟨bb,ls,x⟩
     .have:=(v.lt m<|.inl q).1;omega
     .exact io x v.mem.box (by decide) q
    .have v:=(g.news bT X).1;rcases(hv m d).2.2.2 with x|⟨bb,ls,x⟩
     .have:=(v.lt m<|.inr<|.inr q).1;omega
     .obtain⟨nS,pb⟩:=fD v.data (k:=bT.x) rfl;exact io x pb (by decide) q
   have bm:Y (Wr s.aN j ps) a wr:=(fx.mono (T:=Wr s.aN j ps) cG).trans l.aw<|λ_ q=>.inl q;have t:∀bo(ts c:cP),qD a s.aN b e j bo->Row a 1 bo (y ts) (ts.map bJ.ptr)->c.map bJ.ptr=ts.map bJ.ptr->y c=y ts->Row wr 1 bo (y c) (c.map bJ.ptr):=λbo ts c hv lm e1 e2=>by
    rw[e1,e2];exact bm.row lm<|λm d=>⟨hz bo hv m d,(hv m d).1⟩
   have kf:∀bx∈us,JD wr s.aN bx:=λbx hu=>by
    have bb:∀{w:fJ},rO wr s.aN (vw KR.files) w bx->JD wr s.aN bx:=λho=>by
     obtain⟨hI,al,n,hm,_⟩:=ho.mem;refine⟨hI,al,n,?_⟩;rw[<-ho.ks]at hm;exact hm
    rcases l.PQ bx hu with q|⟨bT,_,_,q,_⟩
    .exact bb<|l.FN bx q
    .exact bb q
   have et:∀bn,Y aB wr bn->∀bx∈us,JD bn s.aN bx:=λbn hD bx hu=>by
    obtain⟨hI,al,n,hm⟩:=kf bx hu;exact⟨hI,al,n,hm.de (hD.block _ (ak hm.box) id)<|hD.block _ hm.lt.2 id⟩
   have dm:∀bo(ts:cP),(∀bh∈ts,bh∈us)->y ts<=1000000->(∀m,bV bo=H m->m<z (G wr))->Row wr 1 bo (y ts) (ts.map bJ.ptr)->∀bn,Y aB wr bn->cy bG 141 #[bo] bn λcM w'=>∃a,cM=aO a/\w'.ownsRow (z<|G bn) 266 4 a (y ts) (dh ts)/\Below (z<|G bn) bn w':=λbo ts bb b d lm bn hD=>by
    refine NS bn s.aN bo ts ⟨hD.row lm<|λm cM=>⟨id,d m cM⟩,λm cM=>ag (d m cM) hD.size,λbh h=>(et bn hD bh<|bb bh h).SS,by omega⟩ (λbh h=>et bn hD bh<|bb bh h)<|by omega
   have sT:=bm.size;have gk:=dm _ L (λbh h=>by rw[K];simp[h]) (by omega) (λm d=>by have:=(g.b0 m d).1;omega)<|t _ eg L g.b0 g.r0 hf hg;have gn:=dm _ O (λbh h=>by rw[K];simp[h]) (by omega) (λm d=>by have:=(g.b1 m d).1;omega)<|t _ ei O g.b1 g.r1 hh hi;have gr:=dm _ W (λbh h=>by rw[K];simp[h]) (by omega) (λm d=>by have:=(g.b2 m d).1;omega)<|t _ bg W g.b2 g.r2 hj hk;have gs:=dm _ d' (λbh h=>by rw[K];simp[h]) (by omega) (λm d=>by have:=(g.b3 m d).1;omega)<|t _ ej d' g.b3 g.r3 hl hn;obtain⟨hY,ih,il,ip⟩:=gx (t _ eg L g.b0 g.r0 hf hg) (t _ ei O g.b1 g.r1 hh hi) (t _ bg W g.b2 g.r2 hj hk)<|t _ ej d' g.b3 g.r3 hl hn;have T:=(l.aw.block (z<|G a) (ak cb)<|bu _<|ah _).trans cb;have bp:=cellAt T 0 rfl;have bq:=cellAt T 1 rfl;have br:=cellAt T 2 rfl;have bs:=cellAt T 3 rfl;have ro:=ak T;have le:num+1<9223372036854775807:=by have:=l.qC.2;have:=au.nx;have:=au.small;omega
   have pr:IntKind.u64.wrap ((num:Z)+1)=(num:Z)+1:=by rw[gV];omega
   have e1:¬(ef:Z)<(y ca:Z):=by omega
   obtain⟨HM,hT,hU,hV,hW,fu,gf⟩:=ww l gk gn gr gs bd bm;obtain⟨cE,hN,HEq,rz,rx,ry⟩:=kG K T (And.intro ob (And.intro oi (And.intro om os))) bu et hz;clear l dm gk gn gr gs bd bm K T ob oi om os hf hg oc od hh hi oj ol hj hk on op hl hn ov ox t kf et hz bu kl lo;go_wp2_with fail
   obtain⟨c,lp⟩:∃c,z (G wr)=c:=⟨_,rfl⟩;obtain⟨W0,kn⟩:∃W0,ct wr (ar #[aH<|(num:Z)+1,aH num,aH bv,aK,aK,aK,aK] 187)=W0:=⟨_,rfl⟩;have gt:W0.heap[c]?=H (ar #[aH<|(num:Z)+1,aH num,aH bv,aK,aK,aK,aK] 187 (0,0)):=by rw[<-kn];exact aD _ lp.symm
   have gv:Y aB wr W0:=by rw[<-kn];exact(Y.refl _ _).alloc _
   have ac:=U gt;have fL:=U gv;clear gt gv;have rb:∀bn,(Instr.index 107 (eC #[J x0 (y eg) A,J x1 (y ei) B,J x2 (y bg) C,J x3 (y ej) D])<|ap 0).run bG bn=.ok (J x0 (y eg) A) bn:=λ_=>by kernel_rfl
   have rc:∀bn,(Instr.index 107 (eC #[J x0 (y eg) A,J x1 (y ei) B,J x2 (y bg) C,J x3 (y ej) D])<|ap 1).run bG bn=.ok (J x1 (y ei) B) bn:=λ_=>by kernel_rfl
   have re:∀bn,(Instr.index 107 (eC #[J x0 (y eg) A,J x1 (y ei) B,J x2 (y bg) C,J x3 (y ej) D])<|ap 2).run bG bn=.ok (J x2 (y bg) C) bn:=λ_=>by kernel_rfl
   have rn:∀bn,(Instr.index 107 (eC #[J x0 (y eg) A,J x1 (y ei) B,J x2 (y bg) C,J x3 (y ej) D])<|ap 3).run bG bn=.ok (J x3 (y ej) D) bn:=λ_=>by kernel_rfl
   refine ld 5 ?_;rw[gX];go_wp2_with fail
   apply(hT W0 fL).mono;rintro cM N⟨m0,rfl,fe,Q⟩;obtain⟨y0,z0,pg⟩:=aC fe;subst pg;have r:Y aB W0 N:=Y.aW Q;have k:=(r.block c (ak ac) id).trans ac;have g0:=cellAt k 3 rfl;have f0:=dK (i:=3) k;have p:(bZ N (R c 3)<|J y0 (y L) z0).heap[c]?=H (ar #[aH<|(num:Z)+1,aH num,aH bv,(J y0 (y L) z0),aK,aK,aK] 187 (0,0)):=(aR k).trans rfl;have i:Y (λm=>m=c) W0 (bZ N (R c 3)<|J y0 (y L) z0):=(r.mono (T:=λm=>m=c) cG).setCell _ _ _<|.inl rfl;obtain⟨W1,ko⟩:∃W1,bZ N (R c 3) (J y0 (y L) z0)=W1:=⟨_,rfl⟩;rw[ko]at p i;obtain⟨ax,gb,cj⟩:=dC p (fL.trans i<|λm d=>.inr<|by omega) (show W1.ownsRow (z<|G W0) 266 4 (J y0 (y L) z0) (y L) (dh L)by rw[<-ko];exact fe.kept (cV _ _ _ _)<|.inr (λq=>by have:=(fe.lt _ q).1;have:=ak ac;omega));clear p i r k Q fe;go_wp2_with fail
   rw[gX];go_wp2_with fail
   apply(hU W1 gb).mono;rintro cM N⟨m1,rfl,ff,Q⟩;obtain⟨y1,z1,pi⟩:=aC ff;subst pi;have r:Y aB W1 N:=Y.aW Q;have k:=(r.block c (ak ax) id).trans ax;have g1:=cellAt k 4 rfl;have f1:=dK (i:=4) k;have p:(bZ N (R c 4)<|J y1 (y O) z1).heap[c]?=H (ar #[aH<|(num:Z)+1,aH num,aH bv,(J y0 (y L) z0),(J y1 (y O) z1),aK,aK] 187 (0,0)):=(aR k).trans rfl;have i:Y (λm=>m=c) W1 (bZ N (R c 4)<|J y1 (y O) z1):=(r.mono (T:=λm=>m=c) cG).setCell _ _ _<|.inl rfl;obtain⟨W2,kq⟩:∃W2,bZ N (R c 4) (J y1 (y O) z1)=W2:=⟨_,rfl⟩;rw[kq]at p i;obtain⟨bi,gc,cn,ck⟩:=gx p (gb.trans i<|λm d=>.inr<|by omega) (show W2.ownsRow (z<|G W1) 266 4 (J y1 (y O) z1) (y O) (dh O)by rw[<-kq];exact ff.kept (cV _ _ _ _)<|.inr (λq=>by have:=(ff.lt _ q).1;have:=ak ax;omega))<|i.own cj (λm d q=>by have:=(cj.lt m d).1;have:=ak ac;omega);clear p i r k Q ff;go_wp2_with fail
   rw[gX];go_wp2_with fail
   apply(hV W2 gc).mono;rintro cM N⟨m2,rfl,fk,Q⟩;obtain⟨y2,z2,pj⟩:=aC fk;subst pj;have r:Y aB W2 N:=Y.aW Q;have k:=(r.block c (ak bi) id).trans bi;have g2:=cellAt k 5 rfl;have f2:=dK (i:=5) k;have p:(bZ N (R c 5)<|J y2 (y W) z2).heap[c]?=H (ar #[aH<|(num:Z)+1,aH num,aH bv,(J y0 (y L) z0),(J y1 (y O) z1),(J y2 (y W) z2),aK] 187 (0,0)):=(aR k).trans rfl;have i:Y (λm=>m=c) W2 (bZ N (R c 5)<|J y2 (y W) z2):=(r.mono (T:=λm=>m=c) cG).setCell _ _ _<|.inl rfl;obtain⟨W3,ks⟩:∃W3,bZ N (R c 5) (J y2 (y W) z2)=W3:=⟨_,rfl⟩;rw[ks]at p i;obtain⟨cx,ge,cs,cl,co⟩:=jP p (gc.trans i<|λm d=>.inr<|by omega) (show W3.ownsRow (z<|G W2) 266 4 (J y2 (y W) z2) (y W) (dh W)by rw[<-ks];exact fk.kept (cV _ _ _ _)<|.inr (λq=>by have:=(fk.lt _ q).1;have:=ak bi;omega)) (i.own ck (λm d q=>by have:=(ck.lt m d).1;have:=ak ac;omega))<|i.own cn (λm d q=>by have:=(cn.lt m d).1;have:=ak ax;omega);clear p i r k Q fk;go_wp2_with fail
   rw[gX];go_wp2_with fail
   apply(hW W3 ge).mono;rintro cM N⟨m3,rfl,fl,Q⟩;obtain⟨y3,z3,pk⟩:=aC fl;subst pk;have r:Y aB W3 N:=Y.aW Q;have k:=(r.block c (ak cx) id).trans cx;have g3:=cellAt k 6 rfl;have f3:=dK (i:=6) k;have p:(bZ N (R c 6)<|J y3 (y d') z3).heap[c]?=H (ar #[aH<|(num:Z)+1,aH num,aH bv,(J y0 (y L) z0),(J y1 (y O) z1),(J y2 (y W) z2),(J y3 (y d') z3)] 187 (0,0)):=(aR k).trans rfl;have i:Y (λm=>m=c) W3 (bZ N (R c 6)<|J y3 (y d') z3):=(r.mono (T:=λm=>m=c) cG).setCell _ _ _<|.inl rfl;obtain⟨W4,kt⟩:∃W4,bZ N (R c 6) (J y3 (y d') z3)=W4:=⟨_,rfl⟩;rw[kt]at p i;obtain⟨cB,ad,cv,cm,cp,cu⟩:=kG p (ge.trans i<|λm d=>.inr<|by omega) (show W4.ownsRow (z<|G W3) 266 4 (J y3 (y d') z3) (y d') (dh d')by rw[<-kt];exact fl.kept (cV _ _ _ _)<|.inr (λq=>by have:=(fl.lt _ q).1;have:=ak cx;omega)) (i.own cl (λm d q=>by have:=(cl.lt m d).1;have:=ak ac;omega)) (i.own co (λm d q=>by have:=(co.lt m d).1;have:=ak ax;omega))<|i.own cs (λm d q=>by have:=(cs.lt m d).1;have:=ak bi;omega);clear p i r k Q fl;go_wp2_with fail
   rw[gX];go_wp2_with fail
   have db:bL W4 b s m:=(ad.block b (ak fu) id).trans fu;have kk:∀f:I,f.heap=W4.heap->(λ(f:I)=>aT f (R b 2)=H (aA s.aN)/\aT f (R c 0)=H (aH<|(num:Z)+1)/\aT f (R c 1)=H (aH num)/\aT f (R c 2)=H (aH bv)/\aT f (R c 3)=H (J y0 (y L) z0)/\aT f (R c 4)=H (J y1 (y O) z1)/\aT f (R c 5)=H (J y2 (y W) z2)/\aT f (R c 6)=H (J y3 (y d') z3)) f:=by
    intro f bb;have h1:f.heap[b]?=W4.heap[b]?:=by rw[bb]
    have h2:f.heap[c]?=W4.heap[c]?:=by rw[bb]
    have ls:bL f b s m:=h1.trans db;have pb:=h2.trans cB;refine⟨ls.cell rfl,?_,?_,?_,?_,?_,?_,?_⟩<;>(rw[bN pb];rfl)
   have gj:=kk W4.drew rfl;have cd:=U db;clear kk db;have lr:cy bG 142 #[aA s.aN,eC #[aH<|(num:Z)+1,aH num,aH bv,J y0 (y L) z0,J y1 (y O) z1,J y2 (y W) z2,J y3 (y d') z3]] W4.drew λcM w'=>cM=aO .nilIface/\∃a,rG W4.drew w' s.aN KR a/\vw a.files=td (vw KR.files) (gP,iF ((num:Z)+1) num bv [L,O,W,d'])/\a.eM=[]:=by
    have l:=ae HM;have K:=ae cE;have ls:Y aB wr W4.drew:=ad.of_heap rfl;have v:∀bx∈us,bx.oa:=λbx hu=>by
     have hJ:∀{w:fJ},rO wr s.aN (vw KR.files) w bx->bx.oa:=λho=>by
      refine⟨ho.num,by have:=ho.small;omega,?_⟩;have h1:=lq<|λm d=>(ho.idx.can m d).fits;have h2:=ho.idx.len;rw[ho.ks];unfold fa;rw[af,bY];omega
     rcases l.PQ bx hu with q|⟨bT,_,_,q,_⟩
     .exact hJ<|l.FN bx q
     .exact hJ q
    have pd:y L+y O+y W+y d'<=1000000:=by
     have:=l.len;rw[K]at this;simp only[af]at this;omega
    have pf:dX (vw KR.files) uS=none:=by
     obtain⟨qs,hx,pb⟩:=l.files;rw[hx,jw];cases q:dX (vw j.files) uS with
     |some he=>exact absurd rfl<|ds _ _ q
     |none=>
      rw[lX];cases q2:dX qs uS with
      |none=>rfl
      |some he=>
       obtain⟨bx,_,cM,_⟩:=pb _<|xK q2;simp only[gT]at cM;exact absurd cM.1.symm<|Du _
    have bb:ij (vw KR.files)+21000000<=1099511627776:=by
     have h1:=l.qI;have h2:=au.room;have h3:y ca*200000<=1000000*200000:=kh _ hw;omega
    refine Tk s.aN KR ((num:Z)+1) num bv y0 y1 y2 y3 z0 z1 z2 z3 L O W d' (λm d=>ls.cell (l.steps m d) id l.steps.lt) (dH cm) (dH cp) (dH cu) (dH cv) (λm d=>(cm.lt m d).2) (λm d=>(cp.lt m d).2) (λm d=>(cu.lt m d).2) (λm d=>(cv.lt m d).2) (λbh h=>v bh (by rw[K];simp[h])) (λbh h=>v bh (by rw[K];simp[h])) (λbh h=>v bh (by rw[K];simp[h])) (λbh h=>v bh (by rw[K];simp[h])) (by omega) (by omega) (by omega) pd (l.aN.aw ls<|λ_ _=>id) pf (by have:=l.eM;have:=au.eM;omega) bb
   have no:=U lr;clear lr;rename_i QQ KK kc;refine cJ (λ(f:I)=>aT f (R b 2)=H (aA s.aN)/\aT f (R c 0)=H (aH<|(num:Z)+1)/\aT f (R c 1)=H (aH num)/\aT f (R c 2)=H (aH bv)/\aT f (R c 3)=H (J y0 (y L) z0)/\aT f (R c 4)=H (J y1 (y O) z1)/\aT f (R c 5)=H (J y2 (y W) z2)/\aT f (R c 6)=H (J y3 (y d') z3)) 6 (by kernel_rfl) ?_;refine dA 0 ?_;iterate 5 (refine fw (v:=?_) gj rfl (by kernel_rfl) jU rfl ?_ ?_;rotate_left;(focus(rintro f⟨s2,q0,q1,q2,q3,q4,q5,q6⟩;go_simp;try rfl));simp only[Act.put,du,Nat.reduceAdd])
   apply eX;refine aP (i:=5) rfl rfl (by kernel_rfl) ?_;intro K5 ka;go_simp;apply no.mono;rintro cM w5⟨rfl,iv,eu,lt,lb⟩;have ky:∀m,KR.bj s.aN m->m<c:=λm d=>by have:=HM.aN.lt m d;omega
   have hC:¬KR.bj s.aN b:=λq=>by
    rcases HM.bj b q with x|x
    .exact hB x
    .have:=ak cc;omega
   have hs:bL w5 b s m:=(eu.aw.block b (ak cd) hC).trans cd;have u:w5.heap[c]?=_:=(eu.aw.block c (ak cB) (λq=>by have:=ky _ q;omega)).trans cB;obtain⟨ek,fv,av,hd,hS,it⟩:=kG hs u eu lt lb hC;refine ka _ _ (λ_=>⟨hs.cell rfl,(by rw[bN u];rfl),(by rw[bN u];rfl),(by rw[bN u];rfl),(by rw[bN u];rfl),(by rw[bN u];rfl),(by rw[bN u];rfl),(by rw[bN u];rfl)⟩) ?_;clear ka eu lt lb hs u ky hC;try simp only[Act.put,du]
   refine aP (i:=6) rfl rfl (by kernel_rfl) ?_;intro K6 kb;go_simp;refine kb _ _ (λq=>(q rfl).elim) ?_;refine dp (by kernel_rfl) ?_ _;show KK _ _;apply kc;clear kc kb gj;have l:=ae HM;have lx:z (G a)<z (G w1):=ak cb;have rv:=l.aw.size;have ao:Y (KR.bj s.aN) wr w5:=(ad.mono (T:=KR.bj s.aN) cG).trans ((cf (KR.bj s.aN) W4).trans av.aw<|λ_ q=>.inl q)<|λ_ q=>.inl q;have dn:∀m,m<z (G w1)->¬j.bj s.aN m->¬KR.bj s.aN m:=λm h1 h2 q=>(l.bj m q).elim h2 (λx=>by omega);have dd:∀m,m<z (G w1)->¬j.bj s.aN m->w5.heap[m]?=wr.heap[m]?:=λm h1 h2=>ao.block m (by omega)<|dn m h1 h2;have oT:=g.le;have ll:∀bT∈ps,∀m,bT.has m->m<z (G w1)/\¬j.bj s.aN m:=λbT X m d=>by
    have h1:=(g.news bT X).1.lt m d;exact⟨by omega,λq=>by have:=g.bj m q;omega⟩
   have lg:∀m,JJ s.aN b e j m->m<z (G w1)/\¬j.bj s.aN m:=λm d=>⟨by have:=d.1;omega,d.2.1⟩;have hr:∀{w:fJ}{bx:bJ},rO wr s.aN (vw KR.files) w bx->(∀m,w m->m<z (G w1)/\¬j.bj s.aN m)->Sy w5 bx:=λho bb=>by
    obtain⟨hI,al,n,hm,ls⟩:=(ho.Ry<|λm d=>dd m (bb m d).1 (bb m d).2).mem;exact⟨ho.num,_,_,_,_,hI,al,n,_,hm⟩
   have hq:∀bh∈a0++b0++c0++d0,Sy w5 bh:=λbh h0=>hr (l.FN bh h0) lg;have kd:∀bx∈L++O++W++d',Sy w5 bx:=λbx hu=>by
    rw[<-ae cE]at hu;rcases l.PQ bx hu with q|⟨bT,X,_,q,_⟩
    .exact hq bx q
    .exact hr q<|ll bT X
   have gi:Dd w5 b 10 [(s.l0,a0),(s.l1,b0),(s.l2,c0),(s.l3,d0)]:=by
    refine ch.aw (S:=λm=>Wr s.aN j ps m\/KR.bj s.aN m) ((gf.mono (T:=λm=>Wr s.aN j ps m\/KR.bj s.aN m)<|λ_ q=>.inl<|.inl q).trans ao<|λ_ q=>.inl<|.inr q) ?_ ?_
    .rintro(q|q)
     .rcases q with x|⟨bT,X,x|x⟩
      .exact hB x
      .have:=((g.news bT X).1.lt b<|.inl x).1;omega
      .have:=((g.news bT X).1.lt b<|.inr<|.inr x).1;omega
     .exact it q
    .intro gA ls k' bt q;have bb:JJ s.aN b e j k':=by
      have:gA=0\/gA=1\/gA=2\/gA=3:=by simp at ls;omega
      rcases this with rfl|rfl|rfl|rfl
      .exact el _ (.inl rfl) k' bt
      .exact el _ (.inr<|.inl rfl) k' bt
      .exact el _ (.inr<|.inr<|.inl rfl) k' bt
      .exact el _ (.inr<|.inr<|.inr rfl) k' bt
     rcases q with x|x
     .rcases x with x|⟨bT,X,x|x⟩
      .exact bb.2.1 x
      .have:=((g.news bT X).1.lt k'<|.inl x).1;have:=bb.1;omega
      .have:=((g.news bT X).1.lt k'<|.inr<|.inr x).1;have:=bb.1;omega
     .exact dn k' (by have:=bb.1;omega) bb.2.1 x
   have P:∀bo(ts:cP),qD a s.aN b e j bo->Row wr 1 bo (y ts) (ts.map bJ.ptr)->Row w5 1 bo (y ts) (ts.map bJ.ptr)/\∀m,bV bo=H m->m<z (G w5):=λbo ts hv lm=>
    ⟨ao.row lm<|λm d=>⟨dn m (by have:=(hv m d).1;omega) (hv m d).2.1,by have:=(hv m d).1;omega⟩,λm d=>by have:=(hv m d).1;have:=ao.size;omega⟩
   have q0:=P _ L g.b0 hY;have q1:=P _ O g.b1 ih;have q2:=P _ W g.b2 il;have q3:=P _ d' g.b3 ip;have rs:y (L++O++W++d')<=1000000:=by rw[<-ae cE,l.len];exact hw
   have dT:Pow w5:=l.pow.de<|dd _ (by have:=g.me.1;omega) g.me.2.1;have dx:=IF a0 b0 c0 d0 L O W d' ek gi q0.1 q1.1 q2.1 q3.1 q0.2 q1.2 q2.2 q3.2 hq kd dT pe (by omega) (by omega);have an:=(dd (z<|G a) lx (λq=>by have:=g.bj _ q;omega)).trans hN;have bp:=cellAt an 0 rfl;have bq:=cellAt an 1 rfl;have br:=cellAt an 2 rfl;have bs:=cellAt an 3 rfl;rw[<-ae cE]at dx;obtain⟨ne,ba,fs,nm⟩:=gx dd ao an dn;clear l dn dd hr hq kd gi P q0 q1 q2 q3 dT an ao ll lg;go_wp2_with fail
   apply dx.mono;rintro cM w6⟨v6,rfl,fn,ed⟩;obtain⟨ns,dv⟩:∃ns,pt s (a0++b0++c0++d0) us=ns:=⟨_,rfl⟩;rw[dv]at fn;obtain⟨x6,c6,pn⟩:=aC fn;subst pn;have o:bL w6 b s m:=(ed.block b (ak ek) id).trans ek;have eb:w6.heap[c]?=_:=(ed.block c (ak fv) id).trans fv;have bc:w6.heap[z<|G a]?=_:=(ed.block (z<|G a) (ak fs) id).trans fs;obtain⟨mo,mn,ex⟩:=bM (ch.row 0<|by simp);obtain⟨ms,mp,ey⟩:=bM (ch.row 1<|by simp);obtain⟨mx,mv,fb⟩:=bM (ch.row 2<|by simp);obtain⟨mC,mA,fd⟩:=bM (ch.row 3<|by simp);simp only[cO,cD]at ex ey fb fd;obtain⟨hO,hP,hQ,hR⟩:=gx ex ey fb fd;have k7:aT w6 (R b 7)=H (J ss sp sn):=by rw[<-ae nl];exact o.cell rfl
   have k8:=bL.cellAt o 8 rfl;have k9:=bL.cellAt o 9 rfl;have mb:aT w6 (R b 10)=H (J mo (y a0) mn):=by rw[<-ex];exact o.cell rfl
   have mc:aT w6 (R b 11)=H (J ms (y b0) mp):=by rw[<-ey];exact o.cell rfl
   have md:aT w6 (R b 12)=H (J mx (y c0) mv):=by rw[<-fb];exact o.cell rfl
   have mg:aT w6 (R b 13)=H (J mC (y d0) mA):=by rw[<-fd];exact o.cell rfl
   have mm:=bL.cellAt o 14 rfl;have px:=bL.cellAt o 17 rfl;have qb:=bL.cellAt o 18 rfl;have qk:=bL.cellAt o 19 rfl;have qq:=bL.cellAt o 20 rfl;have qr:=bL.cellAt o 21 rfl;have fz:∀gA,w6.frozen? (R b gA)=bF:=λgA=>o.free;have f7:=fz 7;have f8:=fz 8;have f9:=fz 9;have jA:=fz 10;have jB:=fz 11;have jC:=fz 12;have jD:=fz 13;have jE:=fz 14;have oy:=fz 15;have oA:=fz 16;have oB:=fz 17;have oL:=fz 18;have oS:=fz 19;have bp:=cellAt bc 0 rfl;have bq:=cellAt bc 1 rfl;have br:=cellAt bc 2 rfl;have bs:=cellAt bc 3 rfl;have t0:=cellAt eb 0 rfl;have t1:=cellAt eb 1 rfl;have n1:z (G a)≠b:=by omega
   have n2:c≠b:=by omega
   have n3:b≠z (G a):=by omega
   have n4:b≠c:=by omega
   obtain⟨mK,em,nq,ha⟩:=gx o fn ed dv;clear o eb bc fn ed fz ex ey fb fd dx dv;go_wp2_with fail
   rename_i rM nO gg;obtain⟨V,en⟩:∃V,bZ (bZ (bZ w6 (R b 7) aK) (R b 8)<|ap 0) (R b 9) (aH bv)=V:=⟨_,rfl⟩;have E:bL V b {s with memory:=aK,iS:=0,bC:=bv} m:=by rw[<-en];exact(aR<|aR<|aR mK).trans rfl
   have bf:Y (λm=>m=b) w6 V:=by rw[<-en];exact(((Y.refl (λm=>m=b) w6).setCell _ _ _<|.inl rfl).setCell _ _ _<|.inl rfl).setCell _ _ _<|.inl rfl
   have bp:aT V (R (z<|G a) 0)=H (J x0 (y eg) A):=bf.cell bp n1<|qZ bp;have bq:aT V (R (z<|G a) 1)=H (J x1 (y ei) B):=bf.cell bq n1<|qZ bq;have br:aT V (R (z<|G a) 2)=H (J x2 (y bg) C):=bf.cell br n1<|qZ br;have bs:aT V (R (z<|G a) 3)=H (J x3 (y ej) D):=bf.cell bs n1<|qZ bs;have t0:aT V (R c 0)=H (aH<|(num:Z)+1):=bf.cell t0 n2<|qZ t0;have t1:aT V (R c 1)=H (aH num):=bf.cell t1 n2<|qZ t1;have mb:aT V (R b 10)=H (J mo (y a0) mn):=by rw[<-ae hO];exact E.cell rfl
   have mc:aT V (R b 11)=H (J ms (y b0) mp):=by rw[<-ae hP];exact E.cell rfl
   have md:aT V (R b 12)=H (J mx (y c0) mv):=by rw[<-ae hQ];exact E.cell rfl
   have mg:aT V (R b 13)=H (J mC (y d0) mA):=by rw[<-ae hR];exact E.cell rfl
   have mm:=bL.cellAt E 14 rfl;have jA:V.frozen? (R b 10)=bF:=E.free;have jB:V.frozen? (R b 11)=bF:=E.free;have jC:V.frozen? (R b 12)=bF:=E.free;have jD:V.frozen? (R b 13)=bF:=E.free;have jE:V.frozen? (R b 14)=bF:=E.free;have na:=U E;have hb:=U bf;rw[en];clear en E bf;apply CR nO
   .intro bb;go_region
    all_goals exact bb
   refine gg _ _ ?_;clear gg;obtain⟨W8,eo⟩:∃W8,(bZ (bZ (bZ (bZ (bZ V (R b 10)<|J x0 (y eg) A) (R b 11)<|J x1 (y ei) B) (R b 12)<|J x2 (y bg) C) (R b 13)<|J x3 (y ej) D) (R b 14)<|aH<|(num:Z)+1).drew=W8:=⟨_,rfl⟩;have F:bL W8 b {s with memory:=aK,iS:=0,bC:=bv,l0:=J x0 (y eg) A,l1:=J x1 (y ei) B,l2:=J x2 (y bg) C,l3:=J x3 (y ej) D,next:=num+1} m:=by
    rw[<-eo];exact(aR<|aR<|aR<|aR<|aR na).trans rfl
   have hG:Y (λm=>m=b) V W8:=by
    rw[<-eo];exact((((((Y.refl (λm=>m=b) V).setCell _ _ _<|.inl rfl).setCell _ _ _<|.inl rfl).setCell _ _ _<|.inl rfl).setCell _ _ _<|.inl rfl).setCell _ _ _<|.inl rfl).ci<|cf aB _
   have t1:aT W8 (R c 1)=H (aH num):=hG.cell t1 n2<|qZ t1;have px:=bL.cellAt F 17 rfl;have qb:=bL.cellAt F 18 rfl;have qk:=bL.cellAt F 19 rfl;have qq:=bL.cellAt F 20 rfl;have qr:=bL.cellAt F 21 rfl;have oy:W8.frozen? (R b 17)=bF:=F.free;have oA:W8.frozen? (R b 18)=bF:=F.free;have oB:W8.frozen? (R b 19)=bF:=F.free;have oL:W8.frozen? (R b 20)=bF:=F.free;have oS:W8.frozen? (R b 21)=bF:=F.free;have nb:=U F;have hc:=U hG;rw[eo];clear eo F hG mb mc md mg mm k7 k8 k9 f7 f8 f9 jA jB jC jD jE bp bq br bs t0;go_wp2_with fail
   obtain⟨W9,eq⟩:∃W9,bZ (bZ (bZ (bZ (bZ W8 (R b 17)<|aH num) (R b 18)<|aL bF) (R b 19)<|aL bF) (R b 20)<|aL bF) (R b 21) (aL bF)=W9:=⟨_,rfl⟩;have ht:bL W9 b (s.settled (J x0 (y eg) A) (J x1 (y ei) B) (J x2 (y bg) C) (J x3 (y ej) D) bv num) m:=by
    rw[<-eq];exact(aR<|aR<|aR<|aR<|aR nb).trans rfl
   have fr:Y (λm=>m=b) W8 W9:=by
    rw[<-eq];exact(((((Y.refl (λm=>m=b) W8).setCell _ _ _<|.inl rfl).setCell _ _ _<|.inl rfl).setCell _ _ _<|.inl rfl).setCell _ _ _<|.inl rfl).setCell _ _ _<|.inl rfl
   have ec:Y (λm=>m=b) w5 W9:=((nq.mono (T:=λm=>m=b) cG).trans (hb.trans (hc.trans fr<|λ_ q=>.inl q)<|λ_ q=>.inl q)<|λ_ q=>.inl q);rw[eq];have ds:=ae ha;have ev:=nd us;rw[ds]at ev;have ea:¬iv.bj s.aN b:=λq=>by
    rcases av.bj b q with x|x
    .exact it x
    .have:=ak cd;simp at x;omega
   have jK:cK W9 s.aN iv:=av.ok.aw ec (λm d q=>by rw[q]at d;exact ea d);have ln:=DP (J x6 (y ns) c6) ns ht jK ea (dH<|((hb.trans (hc.trans fr<|λ_ q=>.inl q)<|λ_ q=>.inl q)).own em (λm d q=>by have:=(em.lt m d).1;have:=ak ek;omega)) (λef a=>⟨ag (em.lt ef a).2<|((hb.trans (hc.trans fr<|λ_ q=>.inl q)<|λ_ q=>.inl q)).size,λq=>by have h1:=(em.lt ef a).1;have h2:=av.ok.lt ef q;omega⟩) ev.1 (λee pb=>by
    obtain⟨ls,he,bb⟩:=ev.2 ee pb;obtain⟨qs,hx,_⟩:=HM.files;refine⟨he,?_⟩;rw[ae hd,vg,cW (λq=>ls q.symm),hx,jw,bb];rfl) (by
    rw[ae hS];have:y ns<=1+y (a0++b0++c0++d0):=by
     rw[<-ds];unfold pt;rw[af,cU];have h1:y (mZ (a0++b0++c0++d0) us)<=y (a0++b0++c0++d0):=fh _ _;split<;>simp<;>simp at h1<;>omega
    simp only[cL];omega)
   have hK:=U ht;have bk:=U ec;clear ht fr ec jK ev ds eq;apply ln.mono;rintro cM w'⟨rfl,K8,kx,lv,lc⟩;obtain⟨ce,nx,nf⟩:=dC kx lv lc;clear kx lv lc ln;go_wp2;go_ret;refine⟨rfl,w1,wr,KR,K8,us,L,O,W,d',num,fx,?_,cE,HEq.1,HEq.2.1,HEq.2.2.1,HEq.2.2.2,?_,ce.ok,?_,?_,?_,?_,?_,?_⟩
   .rw[ae iu];exact HM
   .exact(ce.aw.block b (ak hK) ea).trans hK
   .rw[ae nx,ae hd,ae ha]
   .rw[<-ae hd];exact av.ok.nodup
   .rw[ae nf,ae hS,ae ha];simp
   .intro k' h1 h2 h3;have g1:w5.heap[k']?=wr.heap[k']?:=ne k' (by omega) h2;have g2:W9.heap[k']?=w5.heap[k']?:=bk.block k' (by have:=ba.size;omega) h3;refine(ce.aw.block k' (by have:=ba.size;have:=bk.size;omega)<|λq=>?_).trans<|g2.trans g1;rcases av.bj k' q with x|x
    .exact nm k' (by omega) h2 x
    .have:=ad.size;simp at x;omega
   .have pw:=ba.size;have pv:=ad.size;have bb:∀mE,KR.bj s.aN mE->(Wr s.aN j ps mE\/mE=b)\/z (G a)<=mE:=λmE hJ=>by
     rcases HM.bj mE hJ with x|x
     .exact .inl<|.inl<|.inl x
     .exact .inr<|by omega
    refine(((gf.mono (T:=λm=>Wr s.aN j ps m\/m=b)<|λ_ q=>.inl<|.inl q).trans ba bb).trans bk<|λ_ q=>.inl<|.inr q).trans ce.aw<|λmE hJ=>?_;rcases av.bj mE hJ with x|x
    .exact bb mE x
    .simp at x;exact .inr<|by omega
   .intro k' bt;have pw:=ba.size;have pv:=ad.size;have bb:=bk.size;rcases ce.bj k' bt with x|x
    .rcases av.bj k' x with x|x
     .rcases HM.bj k' x with x|x
      .exact .inl x
      .exact .inr<|by omega
     .simp at x;exact .inr<|by omega
    .exact .inr<|by omega
