import Derived.Test.YtnfehfmncheoiaaGreatDoorC12
import Derived.Test.YtnfehfmncheoiaaGreatDoorC13
import Derived.Test.YtnfehfmncheoiaaGreatDoorC14
open _root_ renaming List.length→y,Option.some→H,Array.size→z,Go.World.heap→G,Go.Value.ownBlock→bV,Go.World.cell?→aS,Go.World.setCell→bZ,Go.World.alloc→ct,Bool.false→bE,Bool.true→bU,Nat→M,Int→X,List→cr,Go.Calls→cw,Go.Proofs.Tryz.prog→bF,Go.Value.slice→I,Go.Value.string→J,Go.Value.bool→aL,Go.Value.pointer→fh,Go.Value.tuple→dA,Go.Value.agg→eD
namespace Go.Proofs.YtnfehfmncheoiaaGreatDoor
open ChangeShapes WideShapes RowKit Proofs.Tryz
set_option maxHeartbeats 16000000
set_option linter.all false
set_option maxRecDepth 100000
variable{a f C:Y}{b c g l B:M}{d s N:aa}{e:cA}{i p t u:cP}{j O:DK}{k:dW}{m:X}{n:SR}{o:eK}{W:fI}{r:jm}{v:ab}{x:iV}{D:Bool}{S:bI}
structure Aside(w:Y)(K:DK)(db sb k:M):Prop where
 lt:k<z (G w)
 aZ:¬K.aZ db k
 ne:k≠sb
def Aside.ft(h:Aside a j b c g)(d:gw a f b c j O):Aside f O b c g:=⟨ag h.lt d.ar.size,λe=>(d.aZ g e).elim h.aZ (λi=>by have:=h.lt;omega),h.ne⟩
def Aside.block{w w':Y}(h:Aside w j b c g)(a:gw w w' b c j O):w'.heap[g]?=w.heap[g]?:=a.ar.block g h.lt<|λd=>d.elim h.aZ h.ne
def Aside.cell{w w':Y}{b a k i:M}(h:Aside w j b a k)(e:gw w w' b a j O)(c:aS w (R k i)=H d):aS w' (R k i)=H d:=(cH (w:=w)<|h.block e).trans c
def zW(n:Row a g d l x)(i:gw a f b c j O)(e:∀k,bV d=H k->Aside a j b c k):Row f g d l x:=i.ar.row n<|λk h=>⟨λm=>m.elim (e k h).aZ (e k h).ne,(e k h).lt⟩
structure rO(w:Y)(db:M)(fs:Fs)(A:fI)(t:bI):Prop where
 mem:∃bb boff wL,lR w t.tb (aw db) t.num (y<|dG t.cs) (y<|fc<|bM 0 t.cs) (mr<|fc<|bM 0 t.cs) bb boff wL aK t.ks/\A bb
 loc:A t.tb
 ks:t.ks=bM 0 t.cs
 num:t.num<18446744073709551616
 pure:tE t.ks t.cs
 idx:JL (bM 0 t.cs)
 small:y (dG t.cs)<=100000
 file:dX fs (gJ t.num)=H (mw t.cs)
def rO.ft(h:rO a b (vw j.files) (Aside a j b c) S)(g:gw a f b c j O)(l:dX (vw O.files) (gJ S.num)=dX (vw j.files) (gJ S.num)):rO f b (vw O.files) (Aside f O b c) S:=by
 obtain⟨k,e,d,m,i⟩:=h.mem;exact⟨⟨k,e,d,m.dh (h.loc.block g)<|i.block g,i.ft g⟩,h.loc.ft g,h.ks,h.num,h.pure,h.idx,h.small,l.trans h.file⟩
structure SK(w:Y)(K:DK)(db sb:M):Prop where
 steps:Steps w
 pow:Pow w
 fC:Aside w K db sb 1
 me:Aside w K db sb 2
def SK.ft(h:SK a j b c)(d:gw a f b c j O):SK f O b c:=⟨λk e=>h.fC.cell d<|h.steps k e,h.pow.dh<|h.me.block d,h.fC.ft d,h.me.ft d⟩
structure Hy(w:Y)(K:DK)(db sb:M)(v:aa)(ts:cP):Prop where
 row:Row w 1 v (y ts) (ts.map bI.ptr)
 loc:∀k,bV v=H k->Aside w K db sb k
 each:∀t∈ts,rO w db (vw K.files) (Aside w K db sb) t
def Hy.ft(h:Hy a j b c d i)(e:gw a f b c j O)(k:∀t∈i,dX (vw O.files) (gJ t.num)=dX (vw j.files) (gJ t.num)):Hy f O b c d i:=⟨zW h.row e h.loc,λm l=>(h.loc m l).ft e,λt g=>(h.each t g).ft e<|k t g⟩
def lK(h:∀t∈i,tE t.ks t.cs):y i<=y (cf i):=by
 induction i with
 |nil=>simp
 |cons t r b=>
  obtain⟨x,a,_⟩:=(h t<|by simp).xD;have c:1<=y t.all:=vB a;have d:=b (λu a=>h u<|by simp[a]);have e:y (cf<|t::r)=y t.all+y (cf r):=by simp[cf]
  simp only[ay];omega
structure ST(w:Y)(sb:M)(s:SR)(K:DK)(m:cA)(a b c d:cP)(C:M):Prop where
 mem:ku w s.memory m
 sW:∀k,bV s.memory=H k->Aside w K s.aN sb k
 l0:Hy w K s.aN sb s.l0 a
 l1:Hy w K s.aN sb s.l1 b
 l2:Hy w K s.aN sb s.l2 c
 l3:Hy w K s.aN sb s.l3 d
 aN:cJ w s.aN K
 rV:¬K.aZ s.aN sb
 lu:SK w K s.aN sb
 qI:y m+y (cf a)+y (cf b)+y (cf c)+y (cf d)<=C
 mN:C<=1000000
 mq:dQ m
 jd:∀x∈m,x.Good
 s1:ly b
 s2:ly c
 s3:ly d
def ST.len(h:ST a b n j e i p t u c):y e<=2000000:=by have:=h.qI;have:=h.mN;omega
def ST.count(h:ST a b n j e i p t u c):y i+y p+y t+y u<=2000000:=by
 have:=h.qI;have:=h.mN;have:=lK<|λf d=>(h.l0.each f d).pure;have:=lK h.s1.pure;have:=lK h.s2.pure;have:=lK h.s3.pure;omega
def ST.ft(h:ST a b n j e i p t u c)(k:b<z (G a))(d:gw a f n.aN b j O)(g:vw O.files=vw j.files):ST f b n O e i p t u c where
 mem:=zW h.mem d h.sW
 sW:=λg b=>(h.sW g b).ft d
 l0:=h.l0.ft d<|λ_ _=>by rw[g]
 l1:=h.l1.ft d<|λ_ _=>by rw[g]
 l2:=h.l2.ft d<|λ_ _=>by rw[g]
 l3:=h.l3.ft d<|λ_ _=>by rw[g]
 aN:=d.ok
 rV:=λt=>(d.aZ b t).elim h.rV<|λg=>by omega
 lu:=h.lu.ft d
 qI:=h.qI
 mN:=h.mN
 mq:=h.mq
 jd:=h.jd
 s1:=h.s1
 s2:=h.s2
 s3:=h.s3
def qB(s:SR)(m:cA)(a b c d:cP):cr (aa×cA):=(.iface 102 s.memory,m)::(((a.map<|λt=>(Nk t,t.all)).reverse)++[(FE (s.l1,b),cf b)]++[(FE (s.l2,c),cf c)]++[(FE (s.l3,d),cf d)])
def Gu(s:SR)(m:cA)(a b c d:cP):(qB s m a b c d).map (·.1)=zV s.memory (s.l0,a) (s.l1,b) (s.l2,c) (s.l3,d):=by
 simp[qB,zV,qA,uE]
def ST.Ys(h:ST a b n j e i p t u c)(d:bK a b n m):De a b 10 [(n.l0,i),(n.l1,p),(n.l2,t),(n.l3,u)]:=by
 refine⟨rfl,λf g=>?_,λf g=>?_,λf g=>?_,?_⟩;(have:f=0\/f=1\/f=2\/f=3:=by simp at g;omega);rcases this with rfl|rfl|rfl|rfl<;>exact d.cell rfl;(have:f=0\/f=1\/f=2\/f=3:=by simp at g;omega);rcases this with rfl|rfl|rfl|rfl;exact h.l0.row;exact h.l1.row;exact h.l2.row;exact h.l3.row;(have:f=0\/f=1\/f=2\/f=3:=by simp at g;omega);rcases this with rfl|rfl|rfl|rfl;exactλm d=>(h.l0.loc m d).lt;exactλm d=>(h.l1.loc m d).lt;exactλm d=>(h.l2.loc m d).lt;exactλm d=>(h.l3.loc m d).lt;have:=h.count;simp[ma];omega
def ql(a:M)(K:DK):jm:=AF a K.files K.eO<|K.aZ a
def Ih(h:rO a b (vw j.files) (Aside a j b c) S)(e:SK a j b c):nG (AF b j.files j.eO<|j.aZ b) (z<|G a) S.tb S.ks S.cs a:=by
 obtain⟨k,f,d,m,i⟩:=h.mem;obtain⟨n,l,g⟩:=ju h.file;refine nG.Pr b j.files j.eO (j.aZ b) (z<|G a) S.tb S.num h.num _ _ _ k f d aK S.ks S.cs n (fc<|bM 0 S.cs) a m h.pure l g ?_ ⟨h.loc.lt,h.loc.aZ⟩ ⟨i.lt,i.aZ⟩ e.steps ⟨e.fC.lt,e.fC.aZ⟩ e.pow ⟨e.me.lt,e.me.aZ⟩;rw[g];have o:=lq<|λk a=>(h.idx.can k a).fits;have:=h.small;have:=h.idx.len;unfold mw fc;rw[af,af,bY];omega
def yr(h:Hy a j b c d i)(f:SK a j b c)(k:ly i)(g:y i<=1000000000):sh (AF b j.files j.eO<|j.aZ b) (z<|G a) d i a:=⟨h.row,λm e=>⟨(h.loc m e).lt,(h.loc m e).aZ⟩,λt l=>Ih (h.each t l) f,k,g⟩
def PC(c:cJ a b j)(d:∀k,j.aZ b k->k<z (G a)):(AF b j.files j.eO<|j.aZ b).D a:=⟨d,j,c,rfl,rfl,λ_ h=>h⟩
def ST.KU(h:ST a b n j e i p t u c):(ql n.aN j).D a:=PC h.aN h.aN.lt
def ST.XD(h:ST a b n j e i p t u c):∀r∈qB n e i p t u,qR (ql n.aN j) (z<|G a) r.1 r.2 a:=by
 have hF:∀k,(ql n.aN j).F k->k<z (G a):=h.aN.lt;have g:=h.count;intro r d;simp only[qB,aA,ak,iY,aY,eI,kJ]at d;rcases d with rfl|((⟨l,f,rfl⟩|rfl)|rfl)|rfl;exact qR.list h.mem h.mq (show y e<=1000000000000 by have:=h.len;omega) (λk a=>⟨(h.sW k a).lt,(h.sW k a).aZ⟩)<|ah _;exact qR.table (Ih (h.l0.each l f) h.lu) (ah _) hF;exact qR.xC (yr h.l1 h.lu h.s1<|by omega) (ah _) hF;exact qR.xC (yr h.l2 h.lu h.s2<|by omega) (ah _) hF;exact qR.xC (yr h.l3 h.lu h.s3<|by omega) (ah _) hF
def Bb(h:ly i):∀x∈cf i,x.Good:=by
 intro x a;unfold cf at a;obtain⟨l,c,a⟩:=bz.1 a;obtain⟨t,d,rfl⟩:=aY.1 c;obtain⟨e,b,a⟩:=bz.1 a;exact(h.pure t d).jd e b x a
def Tf(h:tE S.ks S.cs):∀x∈S.all,x.Good:=by
 intro x a;obtain⟨c,b,a⟩:=bz.1 a;exact h.jd c b x a
def ST.Kt(h:ST a b n j e i p t u c):∀r∈qB n e i p t u,∀x∈r.2,x.Good:=by
 intro r d;simp only[qB,aA,ak,iY,aY,eI,kJ]at d;rcases d with rfl|((⟨g,f,rfl⟩|rfl)|rfl)|rfl;exact h.jd;exact Tf (h.l0.each g f).pure;exact Bb h.s1;exact Bb h.s2;exact Bb h.s3
def kX(c:cJ a n.aN j)(d:¬j.aZ n.aN b)(e:X):gw a (bZ a (R b 0)<|jn e) n.aN b j j:=(gw.refl c).set d 0 _
def gw.sb(h:gw a C b c j O)(d:¬j.aZ b c)(g:c<z (G a)):¬O.aZ b c:=λe=>(h.aZ c e).elim d<|λi=>by omega
def qP{b sbqq:M}(d:cJ a b j)(c:Below (z<|G a) a f):gw a f b sbqq j j:=⟨d.ar (Z.aT (S:=az) c)<|λ_ _=>id,(Z.aT (S:=az) c).mono cG,λ_ e=>.inl e⟩
structure FZ(w:Y)(K:DK)(sb:M)(s:SR)(sn:fR):Prop where
 ex:∃b,s.lT=H b/\jw w b (AQ sn)/\Aside w K s.aN sb b
 len:y sn<=4
def FZ.ft{e:fR}(i:FZ a j b n e)(d:gw a f n.aN b j O):FZ f O b n e:=by
 obtain⟨k,g,h,c⟩:=i.ex;exact⟨⟨k,g,h.dh<|c.block d,c.ft d⟩,i.len⟩
def FZ.fields{s s':SR}{c:fR}(h:FZ a j b s c)(g:s'.aN=s.aN/\s'.lT=s.lT):FZ a j b s' c:=by
 obtain⟨i,d,e,f⟩:=h.ex;exact⟨⟨i,g.2.trans d,e,by rw[g.1];exact f⟩,h.len⟩
theorem rO.RI{w w':Y}{db:M}{m:Fs}{A:fI}{t:bI}(l:rO w db m A t)(o:∀r,A r->w'.heap[r]?=w.heap[r]?):rO w' db m A t:=by
 obtain⟨p,k,j,q,n⟩:=l.mem;exact⟨⟨p,k,j,q.dh (o _ l.loc)<|o _ n,n⟩,l.loc,l.ks,l.num,l.pure,l.idx,l.small,l.file⟩
structure Mz(t:bI):Prop where
 pure:tE t.ks t.cs
 idx:JL (bM 0 t.cs)
 small:y (dG t.cs)<=100000
def JH(db sbqq baseqq:M)(K:DK)(k:M):Prop:=k<baseqq/\¬K.aZ db k/\k≠sbqq
def XT(e:cP)(ps:cr NT)(t:bI):Prop:=t∈e\/∃p∈ps,p.t=t
def qD(w:Y)(db sbqq baseqq:M)(K:DK)(v:aa):Prop:=∀k,bV v=H k->k<z (G w)/\¬K.aZ db k/\k≠sbqq/\(k<baseqq\/∃j l,w.heap[k]?=H (aq j 224 l))
theorem qD.ar{w w':Y}{db sbqq baseqq:M}{K:DK}{v:aa}(n:qD w db sbqq baseqq K v)(l:Z (K.aZ db) w w'):qD w' db sbqq baseqq K v:=λq m=>by
 obtain⟨j,k,o,p⟩:=n q m;exact⟨ag j l.size,k,o,p.imp id<|λ⟨m,n,r⟩=>⟨m,n,(l.block q j k).trans r⟩⟩
structure LS(w:Y)(db sb base:M)(K:DK)(e:cP)(ps:cr NT)(C:M)(g h i f:aa)(a b c d:cP):Prop where
 D:(ql db K).D w
 le:base<=z (G w)
 aZ:∀k,K.aZ db k->k<base
 ME:sb<base
 steps:Steps w
 pow:Pow w
 fC:JH db sb base K 1
 me:JH db sb base K 2
 uS:∀t∈e,rO w db (vw K.files) (JH db sb base K) t
 news:∀p∈ps,p.Ok w base/\Mz p.t
 apart:ps.Pairwise NT.mR
 r0:Row w 1 g (y a) (a.map bI.ptr)
 r1:Row w 1 h (y b) (b.map bI.ptr)
 r2:Row w 1 i (y c) (c.map bI.ptr)
 r3:Row w 1 f (y d) (d.map bI.ptr)
 b0:qD w db sb base K g
 b1:qD w db sb base K h
 b2:qD w db sb base K i
 b3:qD w db sb base K f
 x0:∀t∈a,XT e ps t
 x1:∀t∈b,XT e ps t
 x2:∀t∈c,XT e ps t
 x3:∀t∈d,XT e ps t
 nodup:((a++b++c++d).map bI.tb).Nodup
 s1:ly b
 s2:ly c
 s3:ly d
 qI:y (cf a)+y (cf b)+y (cf c)+y (cf d)<=C
 mN:C<=1000000
section
variable{w w':Y}{db sbqq baseqq C:M}{K:DK}{e:cP}{ps:cr NT}{g h i f:aa}{a b c d:cP}
theorem XT.more{t:bI}(j:XT e ps t)(l:cr NT):XT e (ps++l) t:=by
 rcases j with j|⟨p,k,m⟩;exact .inl j;exact .inr ⟨p,by simp[k],m⟩
theorem LS.ar(j:LS w db sbqq baseqq K e ps C g h i f a b c d)(l:Z (K.aZ db) w w')(n:(ql db K).D w'):LS w' db sbqq baseqq K e ps C g h i f a b c d where
 D:=n
 le:=aD j.le l.size
 aZ:=j.aZ
 ME:=j.ME
 steps:=λm k=>l.cell (j.steps m k) j.fC.2.1<|ag j.fC.1 j.le
 pow:=j.pow.dh<|l.block _ (ag j.me.1 j.le) j.me.2.1
 fC:=j.fC
 me:=j.me
 uS:=λt n=>(j.uS t n).RI<|λm k=>l.block m (ag k.1 j.le) k.2.1
 news:=λp n=>⟨(j.news p n).1.ar l (λm k c=>by have:=((j.news p n).1.lt m k).1;have:=j.aZ m c;omega),(j.news p n).2⟩
 apart:=j.apart
 r0:=l.row j.r0<|λm k=>⟨(j.b0 m k).2.1,(j.b0 m k).1⟩
 r1:=l.row j.r1<|λm k=>⟨(j.b1 m k).2.1,(j.b1 m k).1⟩
 r2:=l.row j.r2<|λm k=>⟨(j.b2 m k).2.1,(j.b2 m k).1⟩
 r3:=l.row j.r3<|λm k=>⟨(j.b3 m k).2.1,(j.b3 m k).1⟩
 b0:=j.b0.ar l
 b1:=j.b1.ar l
 b2:=j.b2.ar l
 b3:=j.b3.ar l
 x0:=j.x0
 x1:=j.x1
 x2:=j.x2
 x3:=j.x3
 nodup:=j.nodup
 s1:=j.s1
 s2:=j.s2
 s3:=j.s3
 qI:=j.qI
 mN:=j.mN
theorem LS.Xq(l:LS w db sbqq baseqq K e ps C g h i f a b c d){t:bI}(j:XT e ps t):tE t.ks t.cs:=by
 rcases j with j|⟨p,k,rfl⟩;exact(l.uS t j).pure;exact(l.news p k).2.pure
theorem LS.VJ(l:LS w db sbqq baseqq K e ps C g h i f a b c d){t:bI}(j:XT e ps t):nG (ql db K) (z<|G w) t.tb t.ks t.cs w:=by
 have B:=l.le;have o:1<z (G w)/\¬(ql db K).F 1:=⟨by have:=l.fC.1;omega,l.fC.2.1⟩;rcases j with j|⟨p,D,rfl⟩;obtain⟨u,m,k,x,s⟩:=(l.uS t j).mem;obtain⟨A,v,n⟩:=ju (l.uS t j).file;refine nG.Pr db K.files K.eO (K.aZ db) (z<|G w) t.tb t.num (l.uS t j).num _ _ _ u m k aK t.ks t.cs A (fc<|bM 0 t.cs) w x (l.uS t j).pure v n ?_ ⟨by have:=(l.uS t j).loc.1;omega,(l.uS t j).loc.2.1⟩ ⟨by have:=s.1;omega,s.2.1⟩ l.steps o l.pow ⟨by have:=l.me.1;omega,l.me.2.1⟩;rw[n];have E:=lq<|λr q=>((l.uS t j).idx.can r q).fits;have:=(l.uS t j).small;have:=(l.uS t j).idx.len;unfold mw fc;rw[af,af,bY];omega;obtain⟨k,n⟩:=l.news p D;have u:=k.lt;have s:∀r,p.has r->r<z (G w)/\¬(ql db K).F r:=λr q=>⟨(u r q).2,λc=>by have:=l.aZ r c;have:=(u r q).1;omega⟩;(have m:y (dG p.t.cs)<=p.FU:=by rcases k.data.2 with⟨c,_⟩|⟨E,v,x,c,_,_,A,_⟩;cases c;cases c;simpa using A);exact nG.Xw (ql db K) (z<|G w) p.t.tb 0 0 0 0 p.bb 0 p.wL p.x 0 p.FU p.t.ks p.t.cs w k.mem n.pure (eJ.bytes k.data) m (by have:=n.small;omega) (s _<|.inl rfl) (s _<|.inr<|.inl rfl) (s _<|.inr<|.inr rfl) l.steps o
theorem LS.count(j:LS w db sbqq baseqq K e ps C g h i f a b c d):y a+y b+y c+y d<=1000000:=by
 have:=j.qI;have:=j.mN;have:=lK<|λt k=>j.Xq<|j.x0 t k;have:=lK j.s1.pure;have:=lK j.s2.pure;have:=lK j.s3.pure;omega
theorem LS.Yd(j:LS w db sbqq baseqq K e ps C g h i f a b c d):sh (ql db K) (z<|G w) h b w:=⟨j.r1,λm k=>⟨(j.b1 m k).1,(j.b1 m k).2.1⟩,λt l=>j.VJ<|j.x1 t l,j.s1,by have:=j.count;omega⟩
theorem LS.Yc(j:LS w db sbqq baseqq K e ps C g h i f a b c d):sh (ql db K) (z<|G w) i c w:=⟨j.r2,λm k=>⟨(j.b2 m k).1,(j.b2 m k).2.1⟩,λt l=>j.VJ<|j.x2 t l,j.s2,by have:=j.count;omega⟩
theorem LS.YK(j:LS w db sbqq baseqq K e ps C g h i f a b c d):sh (ql db K) (z<|G w) f d w:=⟨j.r3,λm k=>⟨(j.b3 m k).1,(j.b3 m k).2.1⟩,λt l=>j.VJ<|j.x3 t l,j.s3,by have:=j.count;omega⟩
theorem PJ{j:cP}(n:∀t∈j,t.ks=bM 0 t.cs):sg j=y (cf j):=by
 induction j with
 |nil=>rfl
 |cons t r m=>
  have k:=m (λu j=>n u<|by simp[j]);have l:=n t (by simp);unfold sg at k|-;rw[aX,iL,k,yB,af,l,BI];rfl
theorem LS.ks(l:LS w db sbqq baseqq K e ps C g h i f a b c d){t:bI}(j:XT e ps t):t.ks=bM 0 t.cs:=by
 rcases j with j|⟨p,k,rfl⟩;exact(l.uS t j).ks;exact(l.news p k).1.ks
theorem DJ{l n:M}{v:aa}{o:iV}(q:Row w l v n o)(s:0<n):∃b j k,v=bC b j n k/\n<=k:=by
 rcases q.2 with⟨_,r⟩|⟨b,j,k,p,m,_⟩;omega;exact⟨b,j,k,p,m⟩
theorem LS.sR{m:cP}{D:cA}(v:LS w db sbqq baseqq K e ps C g h i f a b c d)(O:Z (K.aZ db) w w')(A:uy w' (z<|G w) m)(F:m.map bI.all=iz D)(N:dQ D)(t:rN 5 D)(E:∀ac∈D,ac.Good):∃l:cr NT,l.map NT.t=m/\(∀p∈ps++l,p.Ok w' baseqq/\Mz p.t)/\(ps++l).Pairwise NT.mR/\(∀B∈m,XT e (ps++l) B)/\(∀B∈m,z (G w)<=B.tb)/\(m.map bI.tb).Nodup:=by
 have L:=yq F A.each N t E;obtain⟨l,n,o,x⟩:=A;have s:∀p∈ps,∀u,p.has u->u<z (G w):=λp j u r=>((v.news p j).1.lt u r).2;refine⟨l,n,λp j=>?_,?_,λB k=>?_,λB k=>?_,?_⟩;rcases ak.1 j with c|c;exact⟨(v.news p c).1.ar O (λu r d=>by have:=((v.news p c).1.lt u r).1;have:=v.aZ u d;omega),(v.news p c).2⟩;obtain⟨P,Q,S,T⟩:=L p.t (by rw[<-n];exact hZ c);refine⟨(o p c).base v.le,P,Q,?_⟩;have V:=(o p c).pieces.data;have W:=(o p c).pieces.length;omega;rw[bP];exact⟨v.apart,x,λp j q l u r k=>by have:=s p j u r;have:=((o q l).lt u k).1;omega⟩;rw[<-n]at k;obtain⟨p,j,rfl⟩:=aY.1 k;exact .inr ⟨p,by simp[j],rfl⟩;rw[<-n]at k;obtain⟨p,j,rfl⟩:=aY.1 k;exact(o p j).new;rw[<-n,iR];unfold List.Nodup;rw[js];refine x.imp<|λ{p q}j k=>j p.t.tb (.inl rfl)<|.inl k
theorem XT.qz(k:LS w db sbqq baseqq K e ps C g h i f a b c d){t:bI}(j:XT e ps t):t.tb<z (G w):=by
 rcases j with j|⟨p,l,rfl⟩;have:=(k.uS t j).loc.1;have:=k.le;omega;exact((k.news p l).1.lt _<|.inl rfl).2
theorem Pf{j:cP}(k:∀t∈j,tE t.ks t.cs)(l:dQ (cf j))(m:(j.map bI.all).Pairwise gS):ly j:=⟨k,l,m⟩
theorem yj{j u:M}{v:aa}{s:iV}(m:w'.ownsRow (z<|G w) 224 j v u s)(q:∀n,K.aZ db n->n<baseqq)(r:sbqq<baseqq)(t:baseqq<=z (G w)):qD w' db sbqq baseqq K v:=λn l=>by
 have o:=m.lt n l;obtain⟨k,p⟩:=fD m l;exact⟨o.2,λc=>by have:=q n c;omega,by omega,.inr ⟨k,_,p⟩⟩
end
theorem Sr{n:M}{a b c d:cP}(k:PR n (cF a b c d)):dQ (di<|cf b::a.map bI.all):=by
 have j:cF a b c d=[]++((a.map bI.all).reverse++[cf b])++[cf c,cf d]:=by simp[cF]
 rw[j]at k;exact(Df (ms:=[]) (lowest:=bE) (λr j=>k.row r (by simp only[cC,ak,iY];exact .inl<|.inl j)) (k.row _<|by simp) (bP.1 k.sR).1).1
theorem Ps{u v j:cP}{o:M}(q:ly u)(r:ly v)(p:Over (cf u) (cf v))(l:o<y u)(n:j.Sublist v):dQ (di<|cf j::[u[o]].map bI.all):=by
 have k:∀t∈[u[o].all,cf j],dQ t:=by intro t s;simp only[aA,eI,kJ]at s;rcases s with rfl|rfl;exact q.each<|ap l;exact r.mq.sub<|nF n
 have m:kr [u[o].all,cf j]:=NI<|λx q k r=>p x (lk.2 ⟨_,ap l,q⟩) k<|(nF n).subset r;show dQ (di [cf j,u[o].all]);rw[vQ k m<|List.Perm.swap _ _ _];exact sV k m
theorem LS.Yk{w:Y}{db sbqq baseqq C au:M}{K:DK}{e:cP}{ps:cr NT}{g h i f:aa}{a b c d:cP}(j:LS w db sbqq baseqq K e ps C g h i f a b c d)(hp:PR au (cF a b c d))(ha:0<y a)(o:eK)(Q:Option Addr)(P:M)(hm:Row w 1 (I Q (y o) P) (y o) (o.map<|Value.int .u64))(ad:∀v,bV (I Q (y o) P)=H v->v<z (G w)/\¬K.aZ db v)(E:y o<=4):cw bF 120 #[eD #[g,h,i,f],am 0,I Q (y o) P] w λV w'=>∃S l O,∃A:cP,∃al,V=aO (dA #[eD #[aK,I S l O,i,f],.nilIface])/\LS w' db sbqq baseqq K e al C aK (I S l O) i f [] A c d/\PR au (cF [] A c d)/\(∀x,(x∈o\/(au:X)<=x)->∀v,fU x (cF [] A c d) v=fU x (cF a b c d) v)/\Z (K.aZ db) w w':=by
 obtain⟨b0,o0,c0,rfl,ao⟩:=DJ j.r0 ha;obtain⟨x1,c1,rfl⟩:=bL j.r1;obtain⟨x2,c2,rfl⟩:=bL j.r2;obtain⟨x3,c3,rfl⟩:=bL j.r3;have B:∀an∈di (cf b::a.map bI.all),an.Good:=by intro an N;have:=(fG _).mem_iff.1 N;rw[aW,ak]at this;refine hp.jd an ?_;unfold cF;rw[dP,ak];rcases this with V|V;right;simp[V];left;obtain⟨av,hl,N⟩:=bz.1 V;exact bz.2 ⟨av,iY.2 hl,N⟩
 have q:y (di<|cf b::a.map bI.all)<=1000000:=by have W:=(fG<|cf b::a.map bI.all).length_eq;rw[aW,af]at W;have h2:(a.map bI.all).flatten=cf a:=rfl;rw[h2]at W;have:=j.qI;have:=j.mN;omega
 have F:=Sr hp;refine(Ss b0 o0 c0 x1 x2 x3 _ _ _ c1 c2 c3 a c d j.r0 ⟨(j.b0 _ rfl).1,(j.b0 _ rfl).2.1⟩ (λx L=>j.VJ<|j.x0 x L) j.Yd j.r2 j.r3 (λv p=>⟨(j.b2 v p).1,(j.b2 v p).2.1⟩) (λv p=>⟨(j.b3 v p).1,(j.b3 v p).2.1⟩) j.D (ah _) (λv p=>by have:=j.aZ v p;have:=j.le;omega) j.steps ⟨by have:=j.fC.1;have:=j.le;omega,j.fC.2.1⟩ j.count o Q P hm ad E _ rfl F B q).mono ?_;rintro V w'⟨S,l,O,A,rfl,r,m,n,ac,L⟩;obtain⟨_,s,p1,p2,p3⟩:=OA hp m;obtain⟨_,t,D,_⟩:=sU (ms:=o) (lowest:=c.isEmpty&&d.isEmpty) F B q E;obtain⟨qs,q0,q1,q2,q3,q4,q5⟩:=j.sR L n m s t D;have u:ly A:=Qy m n.each s t D;refine⟨S,l,O,A,ps++qs,rfl,?_,p1,p2,L⟩;have h':=j.ar L ac;refine{h' with news:=q1,apart:=q2,r0:=⟨rfl,.inl ⟨rfl,rfl⟩⟩,r1:=dF r,b0:=?_,b1:=yj r j.aZ j.ME j.le,x0:=?_,x1:=q3,x2:=λx k=>(h'.x2 x k).more qs,x3:=λx k=>(h'.x3 x k).more qs,nodup:=?_,s1:=u,qI:=?_};intro v p;cases p;intro x k;cases k;rw[cC,aU,aM,jt];have hn:=j.nodup;rw[aU,aM,jt]at hn;refine⟨q5,hn.2.1,λan N ax hy V=>?_⟩;obtain⟨x,k,rfl⟩:=aY.1 N;obtain⟨av,hu,rfl⟩:=aY.1 hy;have W:=q4 x k;(have h2:av.tb<z (G w):=by rcases ak.1 hu with c|c;exact XT.qz j<|j.x2 av c;exact XT.qz j<|j.x3 av c);omega;have:=j.qI;have e0:y (cf ([]:cP))=0:=rfl;omega
theorem LS.Yj{w:Y}{db sbqq baseqq C bc:M}{K:DK}{e:cP}{ps:cr NT}{g h i f:aa}{a b c d:cP}(k:LS w db sbqq baseqq K e ps C g h i f a b c d)(hp:PR bc (cF a b c d))(hb:0<y b)(x:eK)(mx:Option Addr)(mc:M)(hm:Row w 1 (I mx (y x) mc) (y x) (x.map<|Value.int .u64))(ax:∀S,bV (I mx (y x) mc)=H S->S<z (G w)/\¬K.aZ db S)(ac:y x<=4):cw bF 120 #[eD #[g,h,i,f],am 1,I mx (y x) mc] w λp w'=>∃xl nl cl xm o cm,∃b' c':cP,∃ba,p=aO (dA #[eD #[g,I xl nl cl,I xm o cm,f],.nilIface])/\LS w' db sbqq baseqq K e ba C g (I xl nl cl) (I xm o cm) f a b' c' d/\y b'+1=y b/\PR bc (cF a b' c' d)/\(∀t,(t∈x\/(bc:X)<=t)->∀S,fU t (cF a b' c' d) S=fU t (cF a b c d) S)/\Z (K.aZ db) w w':=by
 obtain⟨b0,o0,c0,rfl,au⟩:=DJ k.r1 hb;obtain⟨x1,c1,rfl⟩:=bL k.r0;obtain⟨x2,c2,rfl⟩:=bL k.r2;obtain⟨x3,c3,rfl⟩:=bL k.r3;have av:∀l(s:l<y b)(v:cP),v.Sublist c->∀Q∈(cf v::[b[l]].map bI.all).flatten,Q∈cf b\/Q∈cf c:=by intro l s v hw Q F;simp only[aX,eY,aW,fK,dI,ak]at F;rcases F with p|p;exact .inr<|(nF hw).subset p;exact .inl<|lk.2 ⟨_,ap s,p⟩
 have L:∀Q,Q∈cf b\/Q∈cf c->Q.Good:=λQ F=>hp.jd Q (by
  unfold cF;rw[dP,ak];right;simp only[aW,fK,dI,ak];rcases F with p|p
  .exact .inl p
  .exact .inr (.inl p))
 have r:∀l(s:l<y b)(v:cP),v.Sublist c->dQ (di<|cf v::[b[l]].map bI.all)/\(∀Q∈di (cf v::[b[l]].map bI.all),Q.Good)/\y (di<|cf v::[b[l]].map bI.all)<=1000000:=by intro l s v hw;refine⟨Ps k.s1 k.s2 (CW (C:=(a.map bI.all).reverse) (D:=[cf d]) (by have:=hp.sR;simpa[cF]using this)) s hw,λQ F=>L Q<|av l s v hw Q<|(fG _).mem_iff.1 F,?_⟩;have h1:=(fG<|cf v::[b[l]].map bI.all).length_eq;simp only[aX,eY,aW,fK,dI,af]at h1;have h2:=(nF hw).length_le;(have O:y b[l].all<=y (cf b):=by have:=(nF (us:=[b[l]]) (ts:=b)<|vA.2<|ap s).length_le;simpa[cf]using this);have:=k.qI;have:=k.mN;simp only[aX,eY];omega
 refine(EU b0 o0 c0 x2 x1 x3 _ _ _ _ _ _ a d k.Yd au hb k.Yc k.r0 k.r3 (λS N=>⟨(k.b0 S N).1,(k.b0 S N).2.1⟩) (λS N=>⟨(k.b3 S N).1,(k.b3 S N).2.1⟩) k.D (ah _) (λS N=>by have:=k.aZ S N;have:=k.le;omega) k.steps ⟨by have:=k.fC.1;have:=k.le;omega,k.fC.2.1⟩ (by have:=k.count;omega) (by rw[PJ<|λt ht=>k.ks<|k.x2 t ht];have:=k.qI;have:=k.mN;omega) _ (.inl ⟨rfl,rfl,rfl,rfl,rfl,rfl,rfl⟩) r x mx mc hm ax ac).mono ?_;rintro p w'⟨xl,nl,cl,xm,o,cm,A,l,s,V,q,rfl,hcut,ad,al,n,u,ao,ht⟩;obtain⟨p1,p2,p3,p0,p4,p5⟩:=Oz hp k.s1 k.s2 s hcut n;rw[oO n]at p3 p4;obtain⟨s1,s2,s3⟩:=r l s _ ((mZ _ _).trans (kB _ _):(List.take (q-V)<|List.drop V _).Sublist _);obtain⟨_,E,_,_⟩:=sU (ms:=x) (lowest:=d.isEmpty) s1 s2 s3 ac;obtain⟨qs,q0,q1,q2,q3,q4,q5⟩:=k.sR ht u n p3 E p4;have an:=yq n u.each p3 E p4;have m:(b.take l++b.drop (l+1)).Sublist b:=by(conv=>rhs;rw[Su b l s]);rw[aU];exact(ez _).append<|ga _ _
 have P:(c.take V++c.drop q).Sublist c:=by(conv=>rhs;rw[Wy c hcut.le]);rw[aU];exact(ez _).append<|ga _ _
 refine⟨xl,nl,cl,xm,o,cm,b.take l++b.drop (l+1),c.take V++A++c.drop q,ps++qs,rfl,?_,by simp;omega,p1,p2,ht⟩;have h':=k.ar ht ao;have B:∀t∈c.take V++A++c.drop q,t∈c\/t∈A:=by intro t j;simp only[ak]at j;rcases j with(p|p)|p;exact .inl<|eC p;exact .inr p;exact .inl<|dl p
 refine{h' with news:=q1,apart:=q2,r1:=dF ad,r2:=dF al,b1:=yj ad k.aZ k.ME k.le,b2:=yj al k.aZ k.ME k.le,x0:=λt j=>(h'.x0 t j).more qs,x1:=λt j=>(h'.x1 t<|m.subset j).more qs,x2:=?_,x3:=λt j=>(h'.x3 t j).more qs,nodup:=?_,s1:=k.s1.sub m,s2:=?_,qI:=?_};intro t j;rcases B t j with p|p;exact(h'.x2 t p).more qs;exact q3 t p;(have hn:((a++(b.take l++b.drop (l+1))++(c.take V++c.drop q)++d).map bI.tb).Nodup:=by refine sI (List.Sublist.map _ ?_) k.nodup;exact((((ez a).append m).append P).append<|ez d));(have O:(a++(b.take l++b.drop (l+1))++(c.take V++A++c.drop q)++d).Perm (A++(a++(b.take l++b.drop (l+1))++(c.take V++c.drop q)++d)):=by(have W:a++(b.take l++b.drop (l+1))++(c.take V++A++c.drop q)++d=(a++(b.take l++b.drop (l+1))++c.take V)++A++(c.drop q++d):=by simp only[aU]);(have e2:A++(a++(b.take l++b.drop (l+1))++(c.take V++c.drop q)++d)=A++(a++(b.take l++b.drop (l+1))++c.take V)++(c.drop q++d):=by simp only[aU]);rw[W,e2];exact vC _ wB);rw[(O.map bI.tb).nodup_iff,aM,jt];refine⟨q5,hn,λQ F bd hy p=>?_⟩;obtain⟨t,j,rfl⟩:=aY.1 F;obtain⟨bb,hu,rfl⟩:=aY.1 hy;have h1:=q4 t j;(have h2:bb.tb<z (G w):=by simp only[ak]at hu;rcases hu with((W|W|W)|W|W)|W;exact XT.qz k<|k.x0 bb W;exact XT.qz k<|k.x1 bb<|eC W;exact XT.qz k<|k.x1 bb<|dl W;exact XT.qz k<|k.x2 bb<|eC W;exact XT.qz k<|k.x2 bb<|dl W;exact XT.qz k<|k.x3 bb W);omega;refine Pf (λt j=>?_) (p1.mq _<|by simp[cF]) p0;rcases B t j with p|p;exact k.s2.pure t p;exact(an t p).1;have:=k.qI;omega
theorem LS.Yi{w:Y}{db sbqq baseqq C bc:M}{K:DK}{e:cP}{ps:cr NT}{g h i f:aa}{a b c d:cP}(k:LS w db sbqq baseqq K e ps C g h i f a b c d)(hp:PR bc (cF a b c d))(hc:0<y c)(x:eK)(mx:Option Addr)(mc:M)(hm:Row w 1 (I mx (y x) mc) (y x) (x.map<|Value.int .u64))(ax:∀S,bV (I mx (y x) mc)=H S->S<z (G w)/\¬K.aZ db S)(ac:y x<=4):cw bF 120 #[eD #[g,h,i,f],am 2,I mx (y x) mc] w λp w'=>∃xl nl cl xm o cm,∃c' d':cP,∃ba,p=aO (dA #[eD #[g,h,I xl nl cl,I xm o cm],.nilIface])/\LS w' db sbqq baseqq K e ba C g h (I xl nl cl) (I xm o cm) a b c' d'/\y c'+1=y c/\PR bc (cF a b c' d')/\(∀t,(t∈x\/(bc:X)<=t)->∀S,fU t (cF a b c' d') S=fU t (cF a b c d) S)/\Z (K.aZ db) w w':=by
 obtain⟨b0,o0,c0,rfl,au⟩:=DJ k.r2 hc;obtain⟨x1,c1,rfl⟩:=bL k.r0;obtain⟨x2,c2,rfl⟩:=bL k.r1;obtain⟨x3,c3,rfl⟩:=bL k.r3;have av:∀l(s:l<y c)(v:cP),v.Sublist d->∀Q∈(cf v::[c[l]].map bI.all).flatten,Q∈cf c\/Q∈cf d:=by intro l s v hw Q F;simp only[aX,eY,aW,fK,dI,ak]at F;rcases F with p|p;exact .inr<|(nF hw).subset p;exact .inl<|lk.2 ⟨_,ap s,p⟩
 have L:∀Q,Q∈cf c\/Q∈cf d->Q.Good:=λQ F=>hp.jd Q (by
  unfold cF;rw[dP,ak];right;simp only[aW,fK,dI,ak];rcases F with p|p
  .exact .inr<|.inl p
  .exact .inr (.inr p))
 have r:∀l(s:l<y c)(v:cP),v.Sublist d->dQ (di<|cf v::[c[l]].map bI.all)/\(∀Q∈di (cf v::[c[l]].map bI.all),Q.Good)/\y (di<|cf v::[c[l]].map bI.all)<=1000000:=by intro l s v hw;refine⟨Ps k.s2 k.s3 (CW (C:=(a.map bI.all).reverse++[cf b]) (D:=[]) (by have:=hp.sR;simpa[cF]using this)) s hw,λQ F=>L Q<|av l s v hw Q<|(fG _).mem_iff.1 F,?_⟩;have h1:=(fG<|cf v::[c[l]].map bI.all).length_eq;simp only[aX,eY,aW,fK,dI,af]at h1;have h2:=(nF hw).length_le;(have O:y c[l].all<=y (cf c):=by have:=(nF (us:=[c[l]]) (ts:=c)<|vA.2<|ap s).length_le;simpa[cf]using this);have:=k.qI;have:=k.mN;simp only[aX,eY];omega
 refine(EU b0 o0 c0 x3 x1 x2 _ _ _ _ _ _ a b k.Yc au hc k.YK k.r0 k.r1 (λS N=>⟨(k.b0 S N).1,(k.b0 S N).2.1⟩) (λS N=>⟨(k.b1 S N).1,(k.b1 S N).2.1⟩) k.D (ah _) (λS N=>by have:=k.aZ S N;have:=k.le;omega) k.steps ⟨by have:=k.fC.1;have:=k.le;omega,k.fC.2.1⟩ (by have:=k.count;omega) (by rw[PJ<|λt ht=>k.ks<|k.x3 t ht];have:=k.qI;have:=k.mN;omega) _ (.inr ⟨rfl,rfl,rfl,rfl,rfl,rfl,rfl⟩) r x mx mc hm ax ac).mono ?_;rintro p w'⟨xl,nl,cl,xm,o,cm,A,l,s,V,q,rfl,hcut,ad,al,n,u,ao,ht⟩;obtain⟨p1,p2,p3,p0,p4,p5⟩:=Oy hp k.s2 k.s3 s hcut n;rw[oO n]at p3 p4;obtain⟨s1,s2,s3⟩:=r l s _ ((mZ _ _).trans (kB _ _):(List.take (q-V)<|List.drop V _).Sublist _);obtain⟨_,E,_,_⟩:=sU (ms:=x) (lowest:=bU) s1 s2 s3 ac;obtain⟨qs,q0,q1,q2,q3,q4,q5⟩:=k.sR ht u n p3 E p4;have an:=yq n u.each p3 E p4;have m:(c.take l++c.drop (l+1)).Sublist c:=by(conv=>rhs;rw[Su c l s]);rw[aU];exact(ez _).append<|ga _ _
 have P:(d.take V++d.drop q).Sublist d:=by(conv=>rhs;rw[Wy d hcut.le]);rw[aU];exact(ez _).append<|ga _ _
 refine⟨xl,nl,cl,xm,o,cm,c.take l++c.drop (l+1),d.take V++A++d.drop q,ps++qs,rfl,?_,by simp;omega,p1,p2,ht⟩;have h':=k.ar ht ao;have B:∀t∈d.take V++A++d.drop q,t∈d\/t∈A:=by intro t j;simp only[ak]at j;rcases j with(p|p)|p;exact .inl<|eC p;exact .inr p;exact .inl<|dl p
 refine{h' with news:=q1,apart:=q2,r2:=dF ad,r3:=dF al,b2:=yj ad k.aZ k.ME k.le,b3:=yj al k.aZ k.ME k.le,x0:=λt j=>(h'.x0 t j).more qs,x1:=λt j=>(h'.x1 t j).more qs,x2:=λt j=>(h'.x2 t<|m.subset j).more qs,x3:=?_,nodup:=?_,s2:=k.s2.sub m,s3:=?_,qI:=?_};intro t j;rcases B t j with p|p;exact(h'.x3 t p).more qs;exact q3 t p;(have hn:((a++b++(c.take l++c.drop (l+1))++(d.take V++d.drop q)).map bI.tb).Nodup:=by refine sI (List.Sublist.map _ ?_) k.nodup;exact(((ez<|a++b).append m).append P));(have O:(a++b++(c.take l++c.drop (l+1))++(d.take V++A++d.drop q)).Perm (A++(a++b++(c.take l++c.drop (l+1))++(d.take V++d.drop q))):=by(have W:a++b++(c.take l++c.drop (l+1))++(d.take V++A++d.drop q)=(a++b++(c.take l++c.drop (l+1))++d.take V)++A++d.drop q:=by simp only[aU]);(have e2:A++(a++b++(c.take l++c.drop (l+1))++(d.take V++d.drop q))=A++(a++b++(c.take l++c.drop (l+1))++d.take V)++d.drop q:=by simp only[aU]);rw[W,e2];exact vC _ wB);rw[(O.map bI.tb).nodup_iff,aM,jt];refine⟨q5,hn,λQ F bd hy p=>?_⟩;obtain⟨t,j,rfl⟩:=aY.1 F;obtain⟨bb,hu,rfl⟩:=aY.1 hy;have h1:=q4 t j;(have h2:bb.tb<z (G w):=by simp only[ak]at hu;rcases hu with((W|W)|W|W)|W|W;exact XT.qz k<|k.x0 bb W;exact XT.qz k<|k.x1 bb W;exact XT.qz k<|k.x2 bb<|eC W;exact XT.qz k<|k.x2 bb<|dl W;exact XT.qz k<|k.x3 bb<|eC W;exact XT.qz k<|k.x3 bb<|dl W);omega;refine Pf (λt j=>?_) (p1.mq _<|by simp[cF]) p0;rcases B t j with p|p;exact k.s3.pure t p;exact(an t p).1;have:=k.qI;omega
def SI(w:Y)(t:bI):Prop:=t.num<18446744073709551616/\∃g cut b e f c a d,lR w t.tb g t.num cut b e f c a d t.ks
def SI.ar{w w':Y}{t:bI}(m:SI w t)(h:Z az w w'):SI w' t:=by
 obtain⟨l,k,cut,b,g,j,c,a,d,e⟩:=m;exact⟨l,k,cut,b,g,j,c,a,d,e.dh (h.block _ (aj e.box) id)<|h.block _ e.lt.2 id⟩
def SI.name(n:SI a S)(l:Pow a):cw bF 160 #[aw S.tb] a λm w'=>m=aO (J<|gJ S.num)/\Below (z<|G a) a w':=by
 obtain⟨j,i,cut,c,g,h,d,b,e,k⟩:=n;exact BY S.tb i S.num j cut c g h d b e S.ks k l
def EI:(prog.info? 94).map (λi=>(i.zero,i.size,i.bytes))=H (H<|eD #[],0,0):=by kernel_rfl
def Pp(a b c d:aa)(e f g h:cP):qc [(a,e),(b,f),(c,g),(d,h)]=(e++f++g++h).map bI.ptr:=by simp[qc]
def Qg(a b c d:aa)(e f g h:cP):ma [(a,e),(b,f),(c,g),(d,h)]=y (e++f++g++h):=by simp[ma]
def nj(T a:cP):cP:=T.filter<|λt=>!(a.any<|λu=>u.num==t.num)
def Ol{T T':cP}(h:b<y T):nj (T.take<|b+1) T'=nj (T.take b) T'++(if T'.any (λu=>u.num==T[b].num)then []else [T[b]]):=by
 unfold nj;rw[ai h,iW];cases hc:T'.any (λu=>u.num==T[b].num)<;>simp[hc]
def Vu{T':cP}(t:bI):T'.any (λu=>u.num==t.num)=bU↔∃u∈T',J (gJ t.num)=J (gJ u.num):=by
 rw[iZ];constructor;rintro⟨u,a,e⟩;exact⟨u,a,by rw[eq_of_beq e]⟩;rintro⟨u,a,e⟩;refine⟨u,a,?_⟩;(have:gJ t.num=gJ u.num:=by simpa using e);rw[uQ this];exact beq_self_eq_true _
def pu(s:SR)(T a:cP):cr ab:=(if s.gC then [iM s.log]else [])++(nj T a).map (λt=>gJ t.num)
def IF(gj cM F ek w x A B:cP){v3:aa}(h:bK a b n m)(hl:De a b 10 [(n.l0,gj),(n.l1,cM),(n.l2,F),(n.l3,ek)])(r0:Row a 1 d (y w) (w.map bI.ptr))(r1:Row a 1 s (y x) (x.map bI.ptr))(r2:Row a 1 N (y A) (A.map bI.ptr))(r3:Row a 1 v3 (y B) (B.map bI.ptr))(k0:∀m,bV d=H m->m<z (G a))(k1:∀m,bV s=H m->m<z (G a))(k2:∀m,bV N=H m->m<z (G a))(k3:∀m,bV v3=H m->m<z (G a))(hT:∀v∈gj++cM++F++ek,SI a v)(cm:∀v∈w++x++A++B,SI a v)(hp:Pow a)(gv:n.log<18446744073709551616)(hb:y (gj++cM++F++ek)<=10000000)(hc:y (w++x++A++B)<=10000000):cw bF 144 #[aw b,eD #[d,s,N,v3]] a λbo w'=>∃v',bo=aO v'/\w'.ownsRow (z<|G a) 9 1 v' (y<|pu n (gj++cM++F++ek)<|w++x++A++B) (strs<|pu n (gj++cM++F++ek)<|w++x++A++B)/\Z az a w':=by
 have hy:=@tG bF;have hm:∀(fu:Bool)(a:Y),(Op.unary .not<|aL fu).run bF a=.ok (aL<|!fu) a:=λ_ _=>rfl;obtain⟨i0,eq,ff,fk,fl⟩:=cz EJ;obtain⟨i1,gt,hj,hA,hB⟩:=cz EI;obtain⟨x0,c0,rfl⟩:=bL r0;obtain⟨x1,c1,rfl⟩:=bL r1;obtain⟨x2,c2,rfl⟩:=bL r2;obtain⟨x3,c3,rfl⟩:=bL r3;have gA:=aj h;have es:De (ct a<|aq #[I x0 (y w) c0,I x1 (y x) c1,I x2 (y A) c2,I x3 (y B) c3] 107) (z<|G a) 0 [(I x0 (y w) c0,w),(I x1 (y x) c1,x),(I x2 (y A) c2,A),(I x3 (y B) c3,B)]:=by have q:Z az a (ct a<|aq #[I x0 (y w) c0,I x1 (y x) c1,I x2 (y A) c2,I x3 (y B) c3] 107):=(Z.refl _ _).alloc _;have ce:(ct a<|aq #[I x0 (y w) c0,I x1 (y x) c1,I x2 (y A) c2,I x3 (y B) c3] 107).heap[z<|G a]?=H (aq #[I x0 (y w) c0,I x1 (y x) c1,I x2 (y A) c2,I x3 (y B) c3] 107 (0,0)):=aC _ rfl;refine⟨rfl,λQ hi=>?_,λQ hi=>?_,λQ hi=>?_,by rw[Qg];omega⟩;(have:Q=0\/Q=1\/Q=2\/Q=3:=by simp at hi;omega);rcases this with rfl|rfl|rfl|rfl<;>(rw[bR ce];rfl);(have:Q=0\/Q=1\/Q=2\/Q=3:=by simp at hi;omega);rcases this with rfl|rfl|rfl|rfl;exact q.row r0<|λm f=>⟨id,k0 m f⟩;exact q.row r1<|λm f=>⟨id,k1 m f⟩;exact q.row r2<|λm f=>⟨id,k2 m f⟩;exact q.row r3<|λm f=>⟨id,k3 m f⟩;(have:Q=0\/Q=1\/Q=2\/Q=3:=by simp at hi;omega);rcases this with rfl|rfl|rfl|rfl;exactλm f=>ag (k0 m f) q.size;exactλm f=>ag (k1 m f) q.size;exactλm f=>ag (k2 m f) q.size;exactλm f=>ag (k3 m f) q.size
 obtain⟨T,cn⟩:∃T,gj++cM++F++ek=T:=⟨_,rfl⟩;obtain⟨e,ad⟩:∃e,w++x++A++B=e:=⟨_,rfl⟩;have bx:∀ck,Z az a ck->cw bF 139 #[fh<|H<|R b 10] ck λbo w'=>∃v',bo=aO v'/\w'.ownsRow (z<|G ck) 224 1 v' (y T) (T.map bI.ptr)/\Z az ck w':=λck j=>by have:=sa (w:=ck) (lb:=b) (lo:=10) _<|hl.ar j id<|λ_ _ _ _ F=>F;rw[Pp,Qg,cn]at this;exact this
 have ao:∀ck,Z az (ct a<|aq #[I x0 (y w) c0,I x1 (y x) c1,I x2 (y A) c2,I x3 (y B) c3] 107) ck->cw bF 139 #[aw<|z<|G a] ck λbo w'=>∃v',bo=aO v'/\w'.ownsRow (z<|G ck) 224 1 v' (y e) (e.map bI.ptr)/\Z az ck w':=λck j=>by have:=sa (w:=ck) (lb:=z<|G a) (lo:=0) _<|es.ar j id<|λ_ _ _ _ F=>F;rw[Pp,Qg,ad]at this;exact this
 rw[cn]at hT hb|-;rw[ad]at cm hc|-;have ds:=U hT;have cc:=U cm;obtain⟨HB,HP,fx⟩:=dB h hp bx;have bq:=U ao;clear hT cm h hl r0 r1 r2 r3 k0 k1 k2 k3 es cn ad hp bx ao gj cM F ek;obtain⟨WB,em⟩:∃WB,ct a (aq #[I x0 (y w) c0,I x1 (y x) c1,I x2 (y A) c2,I x3 (y B) c3] 107)=WB:=⟨_,rfl⟩;have bl:Z az a WB:=by rw[<-em];exact(Z.refl _ _).alloc _
 have cl:=bl.block b gA id|>.trans HB;have gk:=bK.cellAt cl 18 rfl;have hu:=bK.cellAt cl 17 rfl;have ey:Pow WB:=HP.ar bl id;have bv:=vR n.log gv ey;have ch:=U bl;rw[em]at bq;clear bl cl ey;have dk:=U bv;clear bv;obtain⟨lg,bu⟩:∃lg,n.gC=lg:=⟨_,rfl⟩;have dd:=U (show pu n T e=(if lg then [iM n.log]else [])++(nj T e).map (λv=>gJ v.num)by rw[<-bu];rfl);rw[bu]at gk;generalize n.log=fn at*;go_in
 cases lg;(case' false=>(go_wp2_with fail);generalize q:WB=W5;have bi:=U (show Z az WB W5 by rw[<-q];exact Z.refl _ _);obtain⟨v5,o⟩:∃v5,v5=I none 0 0:=⟨_,rfl⟩;obtain⟨c,g⟩:∃c:cr ab,c=[]:=⟨_,rfl⟩;have p:=U (show W5.ownsRow (z<|G a) 9 1 v5 (y c) (strs c)by rw[o,g];exact bJ _ _ _ _);have bp:=U (show pu n T e=c++(nj T e).map (λv=>gJ v.num)by rw[g];exact dd);(have ha:y c<=1:=by rw[g];simp);have cj:=U o;clear q o g);(case' true=>(go_wp2_with fail);apply dk.mono;rintro bo w2⟨rfl,en⟩;have ce:=U<|Z.aT (S:=az) en;clear en;(go_wp2_with(at_builtin;refine bQ _ rfl (.tmp 17) (.tmp 23) 192 rfl (z<|G a) 9 i0 (J ⟨#[]⟩) 1 16 underlying192 eq ff fk fl rfl (by decide) aK 0 [] rfl (bJ _ _ _ _) (R (z<|G w2) 0) 1 1 [J<|iM fn] rfl rfl (tu _ _ _) (by simp[Value.oneCell']) (by omega) (by omega) (by have:=ch.size;have:=ce.size;simp;omega) ?_;intro v3 W5 cu fe;obtain⟨x5,c5,o⟩:=aB cu;subst o;have p:=U cu;have ei:=U fe;clear cu fe));have bi:=U<|show Z az WB W5 from((ce.alloc _).ci<|Z.dM (S:=az) ei.grown<|λm f=>by cases f);obtain⟨v5,o⟩:∃v5,v5=I x5 1 c5:=⟨_,rfl⟩;obtain⟨c,g⟩:∃c:cr ab,c=[iM fn]:=⟨_,rfl⟩;have q:=ae p;clear p;have p:=U (show W5.ownsRow (z<|G a) 9 1 v5 (y c) (strs c)by rw[o,g];exact q);have bp:=U (show pu n T e=c++(nj T e).map (λv=>gJ v.num)by rw[g];exact dd);(have ha:y c<=1:=by rw[g];simp);have cj:=U o;clear ei ce o g q)
 all_goals
  have hd:=bi.size;have hz:=ch.size;apply(bq (ct W5<|.map #[] 0)<|bi.alloc _).mono;rintro bo w6⟨v6,rfl,cv,bk⟩;obtain⟨x6,c6,he⟩:=aB cv;subst he;obtain⟨ee,ge,ea,ec⟩:=gx ((lD.new W5 .string).dh<|bk.block _ (by simp) id) (ch.ci<|(bi.alloc<|.map #[] 0).trans bk cG) ((((Z.refl az W5).alloc<|.map #[] 0).ci bk).own p<|λ_ _ F=>F) cv;clear cv bk;obtain⟨E,et⟩:∃E,z (G W5)=E:=⟨_,rfl⟩;rw[et]at ee;have hk:z (G a)<=E:=by omega
  have fz:=U (show E<z (G<|ct W5<|.map #[] 0)by rw[<-et];simp);clear hd;go_wp2_with fail
  go_loopw [28] (λQ wr=>∃bn:M,bn<=y e/\Q=am bn/\lD wr E .string (λfu=>∃v∈e.take bn,fu=J (gJ v.num))/\Z (λm=>m=E) w6 wr) (λQ _=>y e-(intOf Q).toNat)
  case atStart=>exact⟨0,bw _,rfl,ee.congr (by simp),Z.refl _ _⟩
  case round=>
   obtain⟨bn,hH,rfl,i,P⟩:=hrel;have bm:Z az a wr:=ge.trans P (λm f=>.inr<|by omega);by_cases K:bn<y e
   .have D:=P.own ec (λm f F=>by have:=(ec.lt m f).1;have:=ae fz;omega);obtain⟨b6,hg,cp⟩:∃b6,x6=H (R b6 0)/\aS wr (R b6 bn)=H e[bn].ptr:=by
     rcases D.2 with⟨h2,h0⟩|⟨hq,gn,gr,h2,_⟩
     .omega
     .cases h2;refine⟨hq,rfl,?_⟩;have:=pm D bn e[bn].ptr (by rw[dz,aH K];rfl);rwa[du,cR]at this
    subst hg;have au:=(cc e[bn]<|ap K).ar bm|>.name (HP.ar bm id);have bh:=U (show∀fu,(∃v∈e.take (bn+1),fu=J (gJ v.num))↔(∃v∈e.take bn,fu=J (gJ v.num))\/fu=J (gJ e[bn].num)fromλfu=>by
     rw[ai K];simp only[ak,bG];constructor
     .rintro⟨v,j|rfl,bo⟩
      .exact .inl ⟨v,j,bo⟩
      .exact .inr bo
     .rintro(⟨v,j,bo⟩|bo)
      .exact⟨v,.inl j,bo⟩
      .exact⟨_,.inr rfl,bo⟩)
    have L:=i.lt;have V:=U i;have gi:=U P;have e1:(bn:X)<(y e:X):=by omega
    clear i P bm D;unfold bI.ptr at cp;generalize gJ e[bn].num=u at*;generalize e[bn].tb=fr at*;go_wp2_with fail
    apply au.mono;rintro bo w7⟨rfl,co⟩;have fL:=U<|V.dh<|co.block E L;have gf:=U<|gi.ci<|Z.aT (S:=az) co;clear co au;go_wp2_with(at_mapUpdate;refine uj _ rfl _ _ _ 277 rfl 9 94 underlying277 .string underlying9 E _ rfl fL (J u) trivial rfl rfl ?_;intro w8 fb eo;have gb:=U fb;have fv:=U eo;clear fb eo)
    go_roundw;case rel=>exact⟨bn+1,K,by go_num,gb.congr bh,gf.trans (fi fv)<|λ_ F=>.inl F⟩
    case measure=>simp[intOf];omega
   .have av:bn=y e:=by omega
    rw[av,bN]at i;have e1:¬(bn:X)<(y e:X):=by omega
    have L:=i.lt;obtain⟨V,ef,br⟩:=dB i bm<|P.own ea (λm f F=>by have:=(p.lt m f).2;omega);clear i P av;go_wp2_with fail
    apply(fx wr ef).mono;rintro bo w9⟨v9,rfl,cx,bd⟩;obtain⟨x9,c9,hf⟩:=aB cx;subst hf;obtain⟨gc,ed,eb,gg,bg,dm⟩:=kF (V.dh<|bd.block E L id) cx (bd.own br<|λ_ _ F=>F) (ef.ci bd) (show∀m,bV v5=H m->z (G a)<=m/\m<z (G wr)/\m≠E fromλm f=>⟨(p.lt m f).1,(br.lt m f).2,by have:=(p.lt m f).2;omega⟩)<|show E<z (G wr)/\z (G wr)<=z (G w9)from⟨L,bd.size⟩;clear cx bd;go_wp2_with fail
    go_loopw [5,42] (λo Q b=>∃O:M,O<=y T/\Q=am O/\b.ownsRow (z<|G a) 9 1 o (y<|c++(nj (T.take O) e).map (λv=>gJ v.num)) (strs<|c++(nj (T.take O) e).map (λv=>gJ v.num))/\eR w9 b v5 o) (λ_ Q _=>y T-(intOf Q).toNat)
    case atStart=>
     refine⟨0,bw _,rfl,?_,?_⟩
     .rw[<-ae cj];have:c++(nj (T.take 0) e).map (λv=>gJ v.num)=c:=by simp[nj]
      rw[this];exact eb
     .rw[<-ae cj];exact eR.refl _ _
    case round=>
     obtain⟨O,hG,rfl,ho,bf⟩:=hrel;obtain⟨ox,oc,ev⟩:=aB ho;have t:Z (λm=>bV v5=H m) w9 wr:=Z.dM bf.grown<|λm f=>.inl f;have k:Z az a wr:=gg.trans t<|λm f=>.inr (bg m f).1;have l:=gc.dh<|t.block E (by have:=ae dm;omega)<|λF=>(bg E F).2.2 rfl;have cB:∀m,bV u5=H m->m≠E:=λm f F=>by
      rcases bf.uc with ek|⟨hq,ek,hF⟩
      .exact(bg m<|ek.symm.trans f).2.2 F
      .rw[ek]at f;cases f;have:=ae dm;omega
     by_cases r:O<y T
     .have D:=t.own ed (λm f F=>by have:=(ed.lt m f).1;have:=(bg m F).2.1;omega);obtain⟨b9,hh,cp⟩:∃b9,x9=H (R b9 0)/\aS wr (R b9 O)=H T[O].ptr:=by
       rcases D.2 with⟨h2,h0⟩|⟨hq,gn,gr,h2,_⟩
       .omega
       .cases h2;refine⟨hq,rfl,?_⟩;have:=pm D O T[O].ptr (by rw[dz,aH r];rfl);rwa[du,cR]at this
      subst hh;have ba:=HP.ar k id;have C:=(ds T[O]<|ap r).ar k;have au:=C.name ba;have bT:=λck(j:Z az wr ck)=>(C.ar j).name<|ba.ar j id;have bh:=U<|Ol (T':=e) r;have al:=Vu (T':=e) T[O];have e1:(O:X)<(y T:X):=by omega
      have cs:=l.lt;have hw:y (c++(nj (T.take O) e).map (λv=>gJ v.num))<=20000000:=by
       have:y (nj (T.take O) e)<=y (T.take O):=fj _ _;rw[dK]at this;rw[af,cV];omega
      obtain⟨cd,HO,ej,ac,hs,dn⟩:=kF l ho bf k cB bT;clear l ho bf k cB D t bT C ba;unfold bI.ptr at cp;have dc:=U (show∀cM,e.any (λb=>b.num==T[O].num)=cM->(c++(nj (T.take<|O+1) e).map (λv=>gJ v.num))=(c++(nj (T.take O) e).map (λv=>gJ v.num))++(if cM then []else [gJ T[O].num])fromλcM hv=>by
       rw[ae bh,hv,aM,aU];cases cM<;>rfl)
      clear bh;obtain⟨hn,hr⟩:∃hn,e.any (λb=>b.num==T[O].num)=hn:=⟨_,rfl⟩;have el:=dc hn hr;rw[hr]at al;have db:=U el;clear el hr dc;generalize gs:c++(nj (T.take O) e).map (λv=>gJ v.num)=Lm at*;clear gs;have cT:=U al;clear al;generalize eu:gJ T[O].num=u at*;clear eu;generalize T[O].tb=fr at*;subst ev;go_wp2_with fail
      apply au.mono;rintro bo fs⟨rfl,an⟩;have bb:Z az wr fs:=Z.aT an;have ca:=cd.dh<|an.block E cs;have hx:=Be underlying277 underlying9 gt hj ca (J u) trivial hn cT;have dv:=U<|bb.own HO<|λ_ _ F=>F;have W:=U bb;clear ca bb an au;cases hn with
      |true=>
       go_wp2;go_roundw;case rel=>
        refine⟨O+1,r,by go_num,?_,?_⟩
        .rw[ae db];simp only[jf,dI];exact aR dv _
        .have j:=(W.alloc<|aq #[] 94);refine ej.trans ⟨⟨j.os,j.tape,j.output,j.size,λQ hi _=>j.block Q hi id⟩,.inl rfl⟩
       case measure=>simp[intOf];omega
      |false=>
       go_wp2_with fail
       apply(dn (ct fs<|aq #[] 94)<|W.alloc _).mono;rintro bo cE⟨rfl,bt⟩;have bc:Z az wr cE:=(W.alloc<|aq #[] 94).ci<|Z.aT (S:=az) bt;have dx:=U<|bc.own HO<|λ_ _ F=>F;have bs:=U bc;clear bc bt;go_wp2_with(at_builtin;refine bQ _ rfl (.tmp 55) (.tmp 58) 192 rfl (z<|G a) 9 i0 (J ⟨#[]⟩) 1 16 underlying192 eq ff fk fl rfl (by decide) (I ox (y Lm) oc) (y Lm) (strs Lm) rfl (aR dx<|aq #[J u] 9) (R (z<|G cE) 0) 1 1 [J u] rfl rfl (tu _ _ _) (by simp[Value.oneCell']) (by omega) (by omega) (by have:=ac.size;have:=bs.size;simp;omega) ?_;intro hC hD ax cb;obtain⟨hE,ht,fd⟩:=aB ax;subst fd;have dT:=U ax;have eg:=U cb;clear ax cb)
       go_roundw;case rel=>
        refine⟨O+1,r,by go_num,?_,?_⟩
        .rw[ae db];simp only[io,ke];rw[Gl,af];exact dT
        .have j:=ae bs;have h1:eR wr cE (I ox (y Lm) oc) (I ox (y Lm) oc):=⟨⟨j.os,j.tape,j.output,j.size,λQ hi _=>j.block Q hi id⟩,.inl rfl⟩;exact ej.trans<|h1.trans<|eR.alloc _ eg
       case measure=>simp[intOf];omega
     .have av:O=y T:=by omega
      rw[av,bN,<-ae bp]at ho;have e1:¬(O:X)<(y T:X):=by omega
      obtain⟨oy,od,ex⟩:=aB ho;have HO:=U ho;have ac:=U k;clear ho bf k t l cB av ev;subst ex;go_wp2;go_ret;exact⟨_,rfl,HO,ac⟩
theorem NT.mR.symm{p q:NT}(j:p.mR q):q.mR p:=λk h g=>j k g h
theorem Vs{ps:cr NT}(k:ps.Pairwise NT.mR){p q:NT}(l:p∈ps)(m:q∈ps)(f:p≠q):p.mR q:=by
 obtain⟨i,h,rfl⟩:=gM.1 l;obtain⟨n,j,rfl⟩:=gM.1 m;rw[cy]at k;rcases kA i n with g|g|g;exact k i n h j g;subst g;exact absurd rfl f;exact(k n i j h g).symm
theorem GH{w l:Y}{baseqq s f v k u g:M}{m:iV}(t:w.ownsRow baseqq s f (bC k 0 u g) v m)(r:l.heap[k]?=w.heap[k]?):l.ownsRow baseqq s f (bC k 0 u g) v m:=by
 refine⟨t.1,.inr ?_⟩;rcases t.2 with⟨n,_⟩|⟨x,j,h,n,o,p,q⟩;cases n;cases n;exact⟨k,g,h,rfl,o,r.trans p,q⟩
theorem LX{f:dW}(g:JL (bM 0 f))(j:y (dG f)<=100000):y (mw f)<=200000:=by
 have k:=lq<|λl h=>(g.can l h).fits;have:=g.len;unfold mw fc;rw[af,af,bY];omega
structure CF(w:Y)(db sb base:M)(K:DK)(c:cP)(ps:cr NT)(T:cP)(a d:M):Prop where
 le:base<=z (G w)
 aZ:∀k,K.aZ db k->k<base
 ME:sb<base
 xt:∀t∈T,XT c ps t
 nodup:(T.map bI.tb).Nodup
 apart:ps.Pairwise NT.mR
 news:∀p∈ps,p.Ok w base/\Mz p.t
 inj:∀t∈c,∀u∈c,t.num=u.num->t=u
 low:∀t∈c,t.num<a
 fresh:∀n,a<=n->dX (vw K.files) (gJ n)=none
 fC:JH db sb base K 1
 me:JH db sb base K 2
 small:y T<=1000000
 nx:a<=1000000000000000
 room:d<=800000000000
 qI:ik (vw K.files)<=d
 eO:y K.eO<=10000000000
def Wr(db:M)(K:DK)(ps:cr NT)(k:M):Prop:=K.aZ db k\/∃p∈ps,k=p.t.tb\/k=p.x
structure CM(w:Y)(db sb base:M)(K:DK)(c:cP)(ps:cr NT)(T:cP)(a d:M)(wr:Y)(b:DK)(us:cP)(i num:M):Prop where
 len:y us=i
 le:i<=y T
 same:us.map (λt=>(t.tb,t.ks,t.cs))=(T.take i).map (λt=>(t.tb,t.ks,t.cs))
 FN:∀t∈c,rO wr db (vw b.files) (JH db sb base K) t
 PV:∀u∈us,u∈c\/∃p∈ps,p.t.tb=u.tb/\rO wr db (vw b.files) p.has u/\a<=u.num/\u.num<num
 rest:∀p∈ps,p.t∈T.drop i->p.Ok wr base
 files:∃gs:Fs,vw b.files=vw K.files++gs/\(∀g∈gs,∃u∈us,g=(gJ u.num,mw u.cs)/\a<=u.num)
 qI:ik (vw b.files)<=d+i*200000
 zp:(us.map bI.num).Nodup
 qC:a<=num/\num<=a+i
 aN:cJ wr db b
 eO:y b.eO<=y K.eO+i
 ar:Z (Wr db K ps) w wr
 aZ:∀k,b.aZ db k->K.aZ db k\/z (G w)<=k
 steps:Steps wr
 pow:Pow wr
section
variable{w wr w2:Y}{db sbqq baseqq:M}{K b e:DK}{c:cP}{ps:cr NT}{T us:cP}{a d i num:M}
theorem CM.start(h:CF w db sbqq baseqq K c ps T a d)(j:∀t∈c,rO w db (vw K.files) (JH db sbqq baseqq K) t)(g:cJ w db K)(k:Steps w)(f:Pow w):CM w db sbqq baseqq K c ps T a d w K [] 0 a where
 len:=rfl
 le:=bw _
 same:=by simp
 FN:=j
 PV:=by simp
 rest:=λp f _=>(h.news p f).1
 files:=⟨[],by simp,by simp⟩
 qI:=by have:=h.qI;omega
 zp:=by simp
 qC:=⟨ah _,ah _⟩
 aN:=g
 eO:=ah _
 ar:=Z.refl _ _
 aZ:=λ_ h=>.inl h
 steps:=k
 pow:=f
theorem Uc(h:us.map (λt=>(t.tb,t.ks,t.cs))=(T.take i).map (λt=>(t.tb,t.ks,t.cs))):us.map bI.tb=(T.take i).map bI.tb:=by
 have:=bS (List.map Prod.fst) h;simpa[iR,nh]using this
theorem Te(m:(T.map bI.tb).Nodup)(k:i<y T)(r:us.map (λt=>(t.tb,t.ks,t.cs))=(T.take i).map (λt=>(t.tb,t.ks,t.cs))):∀u∈us,u.tb≠T[i].tb:=by
 intro u o q;have h:u.tb∈(T.take i).map bI.tb:=by rw[<-Uc r];exact hZ o
 rw[q]at h;obtain⟨t,n,g⟩:=aY.1 h;obtain⟨p,l,rfl⟩:=gM.1 n;have f:p<i/\p<y T:=by rw[dK]at l;omega
 rw[gq]at g;have j:=cy.1 m p i (by simpa using f.2) (by simpa using k) f.1;simp only[jS]at j;exact j g
theorem Gt(f:i<y T)(h:us.map (λt=>(t.tb,t.ks,t.cs))=(T.take i).map (λt=>(t.tb,t.ks,t.cs)))(u:bI)(g:(u.tb,u.ks,u.cs)=(T[i].tb,T[i].ks,T[i].cs)):(us++[u]).map (λt=>(t.tb,t.ks,t.cs))=(T.take<|i+1).map (λt=>(t.tb,t.ks,t.cs)):=by
 rw[ai f,aM,aM,h];simp only[aX,eY,g]
theorem Ej{l:cr M}{x:M}(k:l.Nodup)(h:x∉l):(l++[x]).Nodup:=by
 rw[jt];exact⟨k,by simp,λm f n g j=>by rw[bG]at g;rw[j,g]at f;exact h f⟩
theorem CM.skip(r:CF w db sbqq baseqq K c ps T a d)(hm:CM w db sbqq baseqq K c ps T a d wr b us i num)(h:i<y T)(j:T[i]∈c):CM w db sbqq baseqq K c ps T a d wr b (us++[T[i]]) (i+1) num:=by
 have g:=Te r.nodup h hm.same;obtain⟨q,k,l⟩:=hm.files;refine{hm with len:=by rw[af,hm.len];rfl,le:=h,same:=Gt h hm.same _ rfl,PV:=?_,rest:=?_,files:=⟨q,k,λv s=>?_⟩,qI:=aD hm.qI<|Nat.add_le_add_left (kg _<|Nat.le_succ i) _,zp:=?_,qC:=⟨hm.qC.1,by have:=hm.qC.2;omega⟩,eO:=by have:=hm.eO;omega};intro u f;rcases ak.1 f with n|n;exact hm.PV u n;rw[bG]at n;subst n;exact .inl j;intro t o m;refine hm.rest t o ?_;rw[<-kP h];exact aG _ m;obtain⟨u,f,p⟩:=l v s;exact⟨u,by simp[f],p⟩;rw[aM];refine Ej hm.zp<|λn=>?_;obtain⟨u,f,p⟩:=aY.1 n;rcases hm.PV u f with m|⟨t,o,_,_,m,_⟩;exact g u f (by rw[r.inj u m _ j p]);have:=r.low _ j;omega
theorem CM.wrote(E:CF w db sbqq baseqq K c ps T a d)(f:CM w db sbqq baseqq K c ps T a d wr b us i num)(P:i<y T){p:NT}(L:p∈ps)(s:p.t=T[i])(hd:cJ w2 db e)(ht:Z (λk=>b.aZ db k\/k=p.t.tb\/k=p.x) wr w2)(hf:∀k,e.aZ db k->b.aZ db k\/z (G wr)<=k)(hv:vw e.files=vw b.files++[(gJ num,mw p.t.cs)])(au:y e.eO=y b.eO+1)(hT:lR w2 p.t.tb (aw db) num (y<|dG p.t.cs) (y<|fc<|bM 0 p.t.cs) (mr<|fc<|bM 0 p.t.cs) p.bb 0 p.wL aK (bM 0 p.t.cs))(V:num<18446744073709551616):CM w db sbqq baseqq K c ps T a d w2 e (us++[{T[i]with num:=num}]) (i+1) (num+1):=by
 have S:=Te E.nodup P f.same;obtain⟨gs,N,O⟩:=f.files;have r:=(E.news p L).1;have al:=r.lt;have av:=f.ar.size;have ao:=E.le
 have m:∀k,k<z (G w)->¬K.aZ db k->¬p.has k->w2.heap[k]?=wr.heap[k]?:=λk h B j=>ht.block k (by omega) (λg=>by
  rcases g with g|g|g
  .rcases f.aZ k g with D|D
   .exact B D
   .omega
  .exact j<|.inl g
  .exact j (.inr (.inr g)))
 have o:∀k,JH db sbqq baseqq K k->w2.heap[k]?=wr.heap[k]?:=λk h=>m k (by have:=h.1;omega) h.2.1 (λg=>by have:=(al k g).1;have:=h.1;omega);have l:∀q∈ps,q≠p->∀k,q.has k->w2.heap[k]?=wr.heap[k]?:=λq t x k h=>by have j:=(E.news q t).1.lt k h;exact m k j.2 (λg=>by have:=E.aZ k g;omega)<|λg=>Vs E.apart t L x k h g
 have v:∀n f,dX (vw b.files) n=H f->dX (vw e.files) n=H f:=λn f F=>by rw[hv,jy,F];rfl
 have A:dX (vw b.files) (gJ num)=none:=by
  rw[N,jy,E.fresh num f.qC.1,lX];cases g:dX gs (gJ num)with
  |none=>rfl
  |some B=>
   obtain⟨ac,C,u,j⟩:=O _<|xL g;simp only[gV]at u;have e2:=uQ u.1;rcases f.PV ac C with D|⟨q,t,_,_,_,D⟩
   .have:=E.low ac D;omega
   .omega
 have W:∀{A:fI}{an:bI},rO wr db (vw b.files) A an->(∀k,A k->w2.heap[k]?=wr.heap[k]?)->rO w2 db (vw e.files) A an:=λho h=>by have j:=ho.RI h;exact⟨j.mem,j.loc,j.ks,j.num,j.pure,j.idx,j.small,v _ _ j.file⟩
 have n:=(E.news p L).2;have Q:rO w2 db (vw e.files) p.has {T[i]with num:=num}:=by rw[<-s];refine⟨⟨p.bb,0,p.wL,?_,.inr<|.inl rfl⟩,.inl rfl,r.ks,V,n.pure,n.idx,n.small,?_⟩;show lR w2 p.t.tb _ num _ _ _ p.bb 0 p.wL _ p.t.ks;rw[r.ks];exact hT;show dX (vw e.files) (gJ num)=H (mw p.t.cs);rw[hv,jy,A];simp[dX]
 refine{len:=by rw[af,f.len];rfl,le:=P,same:=Gt P f.same _ rfl,FN:=λan h0=>W (f.FN an h0) o,PV:=?_,rest:=?_,files:=⟨gs++[(gJ num,mw p.t.cs)],by rw[hv,N,aU],λba hg=>?_⟩,qI:=?_,zp:=?_,qC:=⟨by have:=f.qC.1;omega,by have:=f.qC.2;omega⟩,aN:=hd,eO:=by have:=f.eO;omega,ar:=?_,aZ:=?_,steps:=?_,pow:=?_};intro ac C;rcases ak.1 C with g|g;rcases f.PV ac g with D|⟨q,t,u,ho,j,B⟩;exact .inl D;refine .inr ⟨q,t,u,W ho<|l q t<|λe2=>?_,j,by omega⟩;rw[e2,s]at u;exact S ac g u.symm;rw[bG]at g;subst g;exact .inr ⟨p,L,by rw[s],Q,f.qC.1,by show num<num+1;omega⟩;intro q t B;(have x:q≠p:=λu=>by subst u;rw[s]at B;obtain⟨ax,hj,u⟩:=gM.1 B;rw[ng]at u;(have ad:i+1+ax<y T:=by rw[iy]at hj;omega);have h2:=cy.1 E.nodup i (i+1+ax) (by simpa using P) (by simpa using ad) (by omega);simp only[jS]at h2;exact h2<|by rw[u]);have j:=f.rest q t (by rw[<-kP P];exact aG _ B);have F:=l q t x;exact⟨j.ks,j.num,j.pieces,j.mem.dh (F _<|.inl rfl)<|F _<|.inr<|.inl rfl,GH j.data<|F _<|.inr<|.inr rfl,GH j.FV<|F _<|.inr<|.inl rfl,j.new⟩;rcases ak.1 hg with g|g;obtain⟨ac,C,u⟩:=O ba g;exact⟨ac,by simp[C],u⟩;rw[bG]at g;refine⟨{T[i]with num:=num},by simp,?_,f.qC.1⟩;rw[g,s];rw[hv,uv];have:=LX n.idx n.small;have:=f.qI;simp only[ik,aX,eY,iL,List.sum_nil]at*;omega;rw[aM];refine Ej f.zp<|λg=>?_;obtain⟨ac,C,u⟩:=aY.1 g;have j:ac.num=num:=u;rcases f.PV ac C with D|⟨q,t,_,_,_,D⟩;have:=E.low ac D;have:=f.qC.1;omega;omega;refine f.ar.trans ht<|λk h=>?_;rcases h with g|g|g;rcases f.aZ k g with D|D;exact .inl<|.inl D;exact .inr D;exact .inl<|.inr ⟨p,L,.inl g⟩;exact .inl<|.inr ⟨p,L,.inr g⟩;intro k h;rcases hf k h with g|g;exact f.aZ k g;exact .inr (by omega);exactλk h=>(cH (w:=wr)<|o _ E.fC).trans<|f.steps k h;exact f.pow.dh<|o _ E.me
end
structure Fj(t:bI):Prop where
 ks:t.ks=bM 0 t.cs
 pure:tE t.ks t.cs
 idx:JL (bM 0 t.cs)
 small:y (dG t.cs)<=100000
 num:t.num<18446744073709551616
structure SP(fs:Fs)(nx lg tb:M)(a b c d:cP)(gC:Bool)(ls:dW):Prop where
 names:∀n bs,dX fs n=H bs->n=gR\/(n=iM lg/\gC=bU)\/∃t∈a++b++c++d,n=gJ t.num
 state:dX fs gR=H (iG nx lg tb [a,b,c,d])\/(dX fs gR=none/\a=[]/\b=[]/\c=[]/\d=[]/\nx=2/\lg=1/\tb=0)
 log:gC=bU->dX fs (iM lg)=H (lO ((tb:X)+1) ls)
 GI:gC=bE->ls=[]
 ze:∀t∈a++b++c++d,dX fs (gJ t.num)=H (mw t.cs)
 zp:((a++b++c++d).map bI.num).Nodup
 low:∀t∈a++b++c++d,t.num<nx/\t.num≠lg
 lt:lg<nx
 jd:∀t∈a++b++c++d,Fj t
def yl:∀{l m:cr ab},l.Nodup->(∀x∈l,x∈m)->y l<=y m
 |[],_,_,_=>bw _
 |x::l,m,b,e=>by
  rw[kH]at b;obtain⟨m1,m2,rfl⟩:=sH (e x<|by simp);have f:∀a∈l,a∈m1++m2:=λa c=>by
   have:=e a (by simp[c]);simp only[ak,aA]at this|-;rcases this with d|d|d
   .exact .inl d
   .rw[d]at c;exact absurd c b.1
   .exact .inr d
  have g:=yl b.2 f;simp only[ay,af]at g|-;omega
def rF{a:Fs}(h:v∈a.map (·.1)):∃d,dX a v=H d:=by
 induction a with
 |nil=>simp at h
 |cons f r b=>
  unfold dX;by_cases e:f.1=v
  .exact⟨f.2,by rw[dw e]⟩
  .rw[cY e];refine b ?_;rw[aX,aA]at h;rcases h with c|c
   .exact absurd c.symm e
   .exact c
def Lg{a:Fs}(h:dX a v=H o):v∈a.map (·.1):=aY.2 ⟨_,xL h,rfl⟩
def Jk{a:Fs}(h:v∉a.map (·.1)):dX a v=none:=by
 cases c:dX a v with
 |none=>rfl
 |some b=>exact absurd (Lg c) h
def vW{a:Fs}(b:(a.map (·.1)).Nodup){f:ab×eK}(h:f∈a):dX a f.1=H f.2:=by
 induction a with
 |nil=>cases h
 |cons g r d=>
  rw[aX,kH]at b;unfold dX;rcases aA.1 h with c|c
  .subst c;rw[dw rfl]
  .have:g.1≠f.1:=λe=>b.1 (by rw[e];exact hZ c);rw[cY this];exact d b.2 c
def Ov(a:Fs)(n:ab):((vh a n).map (·.1)).Sublist (a.map (·.1)):=by
 induction a with
 |nil=>exact ez _
 |cons f r b=>
  unfold vh;split
  .exact pN _ _
  .rw[aX,aX];exact b.cons_cons _
def Si{a:Fs}(b:(a.map (·.1)).Nodup)(n:ab):dX (vh a n) n=none:=by
 induction a with
 |nil=>rfl
 |cons f r c=>
  rw[aX,kH]at b;unfold vh;by_cases e:f.1=n
  .rw[dw e];exact Jk (by rw[<-e];exact b.1)
  .rw[cY e];unfold dX;rw[cY e];exact c b.2
def Ou{a:Fs}(c:(a.map (·.1)).Nodup){b:cr ab}(h:v∈b):dX (vg a b) v=none:=by
 induction b generalizing a with
 |nil=>cases h
 |cons m r g=>
  have f:((vh a m).map (·.1)).Nodup:=c.sublist<|Ov a m;show dX (vg (vh a m) r) v=none;by_cases d:v∈r
  .exact g f d
  .rw[tq d];rcases aA.1 h with e|e
   .rw[e];exact Si c m
   .exact absurd e d
def Oq{a:Fs}(d:(a.map (·.1)).Nodup){b:cr ab}(h:dX (vg a b) v=H o):v∉b/\dX a v=H o:=by
 by_cases c:v∈b;rw[Ou d c]at h;cases h;rw[tq c]at h;exact⟨c,h⟩
def GW(s:ab)(a S:M):∀{b:Fs},(b.map (·.1)).Nodup->(∀f∈b,f.1≠s->y f.2<=a)->(∀f∈b,f.1=s->y f.2<=S)->ik b<=y b*a+S
 |[],_,_,_=>by simp[ik]
 |f::r,e,d,i=>by
  rw[aX,kH]at e;have h:ik (f::r)=y f.2+ik r:=by simp[ik]
  rw[h,ay,wS,Nat.one_mul];by_cases l:f.1=s
  .have m:ik r<=y r*a:=by
    have:∀{b:Fs},(∀f∈b,y f.2<=a)->ik b<=y b*a:=by
     intro b;induction b with
     |nil=>intro _;simp[ik]
     |cons g q n=>
      intro k;have h:ik (g::q)=y g.2+ik q:=by simp[ik]
      have j:=n (λf a=>k f<|by simp[a]);have o:=k g (by simp);rw[h,ay,wS,Nat.one_mul];omega
    exact this<|λg c=>d g (by simp[c])<|λh=>e.1 (by rw[l,<-h];exact hZ c)
   have j:=i f (by simp) l;omega
  .have m:=GW s a S e.2 (λg c=>d g<|by simp[c]) (λg c=>i g<|by simp[c]);have j:=d f (by simp) l;omega
def Qn(c b a:X)(d e f g:cP):y (iG c b a [d,e,f,g])=44+20*y (d++e++f++g):=by
 unfold iG;rw[gu];simp only[aX,eY,aW,fK,dI,af,pz,bY];omega
def SP.total{d:Fs}(j:SP d b c g i p t u D k)(h:(d.map (·.1)).Nodup)(s:y (lO ((g:X)+1) k)<=200000)(A:y (i++p++t++u)<=1000000):ik d<=201000000000:=by
 have v:y d<=y (i++p++t++u)+2:=by
  have:=yl (m:=gR::iM c::(i++p++t++u).map (λq=>gJ q.num)) h (λo l=>by
   obtain⟨a,n⟩:=rF l;rcases j.names o a n with e|⟨e,_⟩|⟨q,f,e⟩
   .rw[e];simp
   .rw[e];simp
   .rw[e];exact aG _ (aG _ (aY.2 ⟨q,f,rfl⟩)))
  simp only[cV,ay]at this;omega
 have w:=GW gR 200000 21000000 h (λc l o=>by
  have a:=vW h l;rcases j.names _ _ a with e|⟨e,n⟩|⟨q,f,e⟩
  .exact absurd e o
  .have:=j.log n;rw[<-e,a]at this;rw[dC this];exact s
  .have:=j.ze q f;rw[<-e,a]at this;rw[dC this];exact LX (j.jd q f).idx (j.jd q f).small) (λc l r=>by
  have a:=vW h l;rw[r]at a;rcases j.state with e|⟨e,_⟩
  .rw[a]at e;rw[dC e,Qn];omega
  .rw[a]at e;cases e)
 have x:y d*200000<=1000002*200000:=kg _ (by omega);omega
def cJ.nodup(k:cJ a b j):((vw j.files).map (·.1)).Nodup:=by
 obtain⟨e,d,_,h,i⟩:=k.now;have f:e.toList.map (·.key)=(j.files.map df.nm).map (λp=>J p.1):=by have:=bS (List.map Prod.fst) h;simpa[iR,nh]using this
 have c:=i.2.2;rw[f]at c;have g:(vw j.files).map (·.1)=(j.files.map df.nm).map (·.1):=by simp[vw,df.nm,iR,nh]
 rw[g];rw[iR]at c|-;unfold List.Nodup at c|-;rw[js]at c|-;exact c.imp<|λd e=>d (by simp only[Function.comp]at*;rw[e])
theorem RS{c:dW}(k:∀g∈c,∀x∈g,x.Good):kw (dG c):=by
 induction c with
 |nil=>intro x h;simp[dG]at h
 |cons g r j=>
  rw[oN];exact((LI<|k g<|by simp).append<|kw.le 4 _).append<|j<|λh c=>k h<|by simp[c]
theorem Wj{w:Y}(j l m n:Option Addr)(h c1 c2 c3:M)(o p q r:cP)(B:Row w 1 (I j (y o) h) (y o) (o.map bI.ptr))(C:Row w 1 (I l (y p) c1) (y p) (p.map bI.ptr))(D:Row w 1 (I m (y q) c2) (y q) (q.map bI.ptr))(E:Row w 1 (I n (y r) c3) (y r) (r.map bI.ptr))(u:∀k,bV (I j (y o) h)=H k->k<z (G w))(v:∀k,bV (I l (y p) c1)=H k->k<z (G w))(x:∀k,bV (I m (y q) c2)=H k->k<z (G w))(A:∀k,bV (I n (y r) c3)=H k->k<z (G w))(F:y (o++p++q++r)<=10000000):De (ct w<|aq #[I j (y o) h,I l (y p) c1,I m (y q) c2,I n (y r) c3] 107) (z<|G w) 0 [(I j (y o) h,o),(I l (y p) c1,p),(I m (y q) c2,q),(I n (y r) c3,r)]:=by
 have c:Z az w (ct w<|aq #[I j (y o) h,I l (y p) c1,I m (y q) c2,I n (y r) c3] 107):=(Z.refl _ _).alloc _;have t:(ct w<|aq #[I j (y o) h,I l (y p) c1,I m (y q) c2,I n (y r) c3] 107).heap[z<|G w]?=H (aq #[I j (y o) h,I l (y p) c1,I m (y q) c2,I n (y r) c3] 107 (0,0)):=aC _ rfl;refine⟨rfl,λi s=>?_,λi s=>?_,λi s=>?_,by rw[Qg];omega⟩;(have:i=0\/i=1\/i=2\/i=3:=by simp at s;omega);rcases this with rfl|rfl|rfl|rfl<;>(rw[bR t];rfl);(have:i=0\/i=1\/i=2\/i=3:=by simp at s;omega);rcases this with rfl|rfl|rfl|rfl;exact c.row B<|λk g=>⟨id,u k g⟩;exact c.row C<|λk g=>⟨id,v k g⟩;exact c.row D<|λk g=>⟨id,x k g⟩;exact c.row E<|λk g=>⟨id,A k g⟩;(have:i=0\/i=1\/i=2\/i=3:=by simp at s;omega);rcases this with rfl|rfl|rfl|rfl;exactλk g=>ag (u k g) c.size;exactλk g=>ag (v k g) c.size;exactλk g=>ag (x k g) c.size;exactλk g=>ag (A k g) c.size
section
variable{w wr w2:Y}{db sbqq baseqq:M}{K d f:DK}{e:cP}{ps:cr NT}{T us:cP}{a b i num:M}
theorem CM.free(r:CF w db sbqq baseqq K e ps T a b)(j:CM w db sbqq baseqq K e ps T a b wr d us i num):dX (vw d.files) (gJ num)=none:=by
 obtain⟨k,g,h⟩:=j.files;rw[g,jy,r.fresh num j.qC.1,lX];cases c:dX k (gJ num)with
 |none=>rfl
 |some v=>
  obtain⟨u,l,o,m⟩:=h _<|xL c;simp only[gV]at o;have s:=uQ o.1;rcases j.PV u l with n|⟨q,t,_,_,_,n⟩
  .have:=r.low u n;omega
  .omega
theorem CM.write(n:CF w db sbqq baseqq K e ps T a b)(g:CM w db sbqq baseqq K e ps T a b wr d us i num)(O:i<y T){p:NT}(s:p∈ps)(l:p.t=T[i]):cw bF 141 #[aw<|T[i].tb,aw db,aI num] wr λV P=>V=aO .nilIface/\∃t C,CM w db sbqq baseqq K e ps T a b P t C (i+1) (num+1):=by
 have c:=g.rest p s (by rw[l,<-kP O];exact dy);have k:=(n.news p s).2;have o:num<18446744073709551616:=by have:=g.qC.2;have:=n.nx;have:=n.small;omega
 have m:ik (vw d.files)+200000<=1099511627776:=by have E:=g.qI;have F:=n.room;have L:=n.small;have N:i*200000<=1000000*200000:=kg _ (by omega);omega
 have q:=(n.news p s).1.lt;have j:∀r,p.has r->¬d.aZ db r:=λr B W=>by rcases g.aZ r W with D|D;have:=n.aZ r D;have:=(q r B).1;omega;have:=(q r B).2;omega
 have v:p.bb≠p.t.tb:=by obtain⟨u,A⟩:=fD c.FV (k:=p.bb) rfl;exact iq A c.mem.box<|by decide
 have x:p.bb≠p.x:=by obtain⟨u,A⟩:=fD c.FV (k:=p.bb) rfl;obtain⟨D,B⟩:=fD c.data (k:=p.x) rfl;exact iq A B<|by decide
 have h:=c.mem;rw[c.ks]at h;rw[<-l];refine(Ij num o p.x p.FU p.t.cs h c.data (by have:=n.le;have:=g.ar.size;omega) k.idx (RS k.pure.jd) g.steps g.pow k.small g.aN (g.free n) (by have:=g.eO;have:=n.eO;have:=n.small;omega) m (j _<|.inr<|.inr rfl) (j _<|.inl rfl) (j _<|.inr<|.inl rfl) v x).mono ?_;rintro V P⟨rfl,t,E,F,L,N,Q,S⟩;exact⟨rfl,t,_,g.wrote n O s l E F L N Q S o⟩
end
def SR.settled(s:SR)(a b c d:aa)(n num:M):SR:={s with memory:=aK,iT:=0,bB:=n,l0:=a,l1:=b,l2:=c,l3:=d,next:=num+1,log:=num,gC:=bE,vF:=bE,kj:=bE,ki:=bE}
def Xk{n:cP}(o:i.map (λa=>(a.tb,a.ks,a.cs))=(p++t++u++n).map (λa=>(a.tb,a.ks,a.cs))):∃b c d e,i=b++c++d++e/\b.map (λa=>(a.tb,a.ks,a.cs))=p.map (λa=>(a.tb,a.ks,a.cs))/\c.map (λa=>(a.tb,a.ks,a.cs))=t.map (λa=>(a.tb,a.ks,a.cs))/\d.map (λa=>(a.tb,a.ks,a.cs))=u.map (λa=>(a.tb,a.ks,a.cs))/\e.map (λa=>(a.tb,a.ks,a.cs))=n.map (λa=>(a.tb,a.ks,a.cs)):=by
 rw[aM,aM,aM]at o;obtain⟨x,e,rfl,f,g⟩:=ix.1 o;obtain⟨m,d,rfl,h,j⟩:=ix.1 f;obtain⟨b,c,rfl,k,l⟩:=ix.1 h;exact⟨b,c,d,e,rfl,k,l,j,g⟩
def lh(h:i.map (λt=>(t.tb,t.ks,t.cs))=p.map (λt=>(t.tb,t.ks,t.cs))):i.map bI.ptr=p.map bI.ptr/\y i=y p/\i.map bI.all=p.map bI.all/\cf i=cf p:=by
 have a:=bS (List.map (λe:M×mz×dW=>fh<|H<|R e.1 0)) h;have d:=bS y h;have b:=bS (List.map (λe:M×mz×dW=>e.2.2.flatten)) h;simp only[iR,nh]at a b;have c:i.map bI.all=p.map bI.all:=b;refine⟨a,by simpa using d,c,?_⟩;unfold cf;rw[c]
def WW(w i:Y)(a:M)(s:SR)(k:X)(b v o:M)(K:DK)(m:cr NT)(x A B C:aa)(p q r u l:cP):Prop:=∃(n wr:Y)(j c:DK)(h d e f g:cP)(num:M),Z az w n/\CM n s.aN a b K l m (p++q++r++u) s.next o wr j h (y<|p++q++r++u) num/\h=d++e++f++g/\d.map (λt=>(t.tb,t.ks,t.cs))=p.map (λt=>(t.tb,t.ks,t.cs))/\e.map (λt=>(t.tb,t.ks,t.cs))=q.map (λt=>(t.tb,t.ks,t.cs))/\f.map (λt=>(t.tb,t.ks,t.cs))=r.map (λt=>(t.tb,t.ks,t.cs))/\g.map (λt=>(t.tb,t.ks,t.cs))=u.map (λt=>(t.tb,t.ks,t.cs))/\bK i a (s.settled x A B C v num) k/\cJ i s.aN c/\vw c.files=vg (tf (vw j.files) (gR,iG ((num:X)+1) num v [d,e,f,g])) (pu s l h)/\((tf (vw j.files) (gR,iG ((num:X)+1) num v [d,e,f,g])).map (·.1)).Nodup/\y c.eO=y (pu s l h)/\(∀k,k<z (G w)->¬K.aZ s.aN k->k≠a->i.heap[k]?=wr.heap[k]?)/\Z (λk=>Wr s.aN K m k\/k=a) w i/\(∀k,c.aZ s.aN k->K.aZ s.aN k\/z (G w)<=k)
def Me{s:SR}(e sx bv B0:M)(ps:cr NT)(v0 v1 v2 v3:aa)(eg ei bg ej a0 b0 c0 d0:cP)(h:bK a b s m)(hL:LS a s.aN b e j (a0++b0++c0++d0) ps sx v0 v1 v2 v3 eg ei bg ej)(hF:∀bn,Z az a bn->CF bn s.aN b e j (a0++b0++c0++d0) ps (eg++ei++bg++ej) s.next B0)(lb:De a b 10 [(s.l0,a0),(s.l1,b0),(s.l2,c0),(s.l3,d0)])(rb:cJ a s.aN j)(hC:¬j.aZ s.aN b)(sT:bv<1000000000000000)(pf:s.log<18446744073709551616)(sl:y (a0++b0++c0++d0)<=1000000)(ds:∀bv he,dX (vw j.files) bv=H he->bv≠uR)(bl:∃mI bv bg,s.memory=I mI bv bg)(la:∀bo,bo=s.l0\/bo=s.l1\/bo=s.l2\/bo=s.l3->∀m,bV bo=H m->JH s.aN b e j m)(dc:∀us,(pu s (a0++b0++c0++d0) us).Nodup/\∀bv∈pu s (a0++b0++c0++d0) us,bv≠gR/\∃he,dX (vw j.files) bv=H he):cw bF 90 #[aw b,eD #[v0,v1,v2,v3],aI bv] a λcM w'=>cM=aO .nilIface/\WW a w' b s m e bv B0 j ps v0 v1 v2 v3 eg ei bg ej (a0++b0++c0++d0):=by
 obtain⟨x0,A,rfl⟩:=bL hL.r0;obtain⟨x1,B,rfl⟩:=bL hL.r1;obtain⟨x2,C,rfl⟩:=bL hL.r2;obtain⟨x3,D,rfl⟩:=bL hL.r3;have ra:=hL.count;have hx:y (eg++ei++bg++ej)<=1000000:=by simp only[af];omega
 have hz:=Wj x0 x1 x2 x3 A B C D eg ei bg ej hL.r0 hL.r1 hL.r2 hL.r3 (λm d=>(hL.b0 m d).1) (λm d=>(hL.b1 m d).1) (λm d=>(hL.b2 m d).1) (λm d=>(hL.b3 m d).1) (by omega);obtain⟨WB,es⟩:∃WB,ct a (aq #[I x0 (y eg) A,I x1 (y ei) B,I x2 (y bg) C,I x3 (y ej) D] 107)=WB:=⟨_,rfl⟩;rw[es]at hz;obtain⟨ca,mK⟩:∃ca,eg++ei++bg++ej=ca:=⟨_,rfl⟩;have cT:=sa _ hz;rw[Pp,Qg,mK]at cT;have hI:Z az a WB:=by rw[<-es];exact(Z.refl _ _).alloc _
 have jH:WB.heap[z<|G a]?=H (aq #[I x0 (y eg) A,I x1 (y ei) B,I x2 (y bg) C,I x3 (y ej) D] 107 (0,0)):=by rw[<-es];exact aC _ rfl
 have kx:=(hI.block b (aj h) id).trans h;have sb:=bK.cellAt kx 14 rfl;rw[mK]at hF hx;obtain⟨HH,g,HF,nx,hN,iv,ch,el,ne⟩:=xH h hL hF hI jH mK lb la dc;obtain⟨st,ss,sp,bl⟩:=bl;have nm:=U bl;clear h hL hF hz hI jH kx mK lb la dc bl;go_in
 go_wp2_with fail
 apply cT.mono;rintro cM w1⟨sv,rfl,hB,hG⟩;obtain⟨xT,sz,pr⟩:=aB hB;subst pr;have w:Z az a w1:=nx.ci hG;have hq:=HF w1 w;have jK:=rb.ar w<|λ_ _=>id;have jI:=CM.start hq (λbh h0=>(g.uS bh h0).RI<|λm d=>w.block m (by have:=d.1;have:=g.le;omega) id) jK (λm d=>w.cell (g.steps m d) id (by have:=g.fC.1;have:=g.le;omega))<|g.pow.ar w id;obtain⟨hY,fx,au,nd,cc,cb,nO⟩:=ww hB w hq jI ((w.block b (aj HH) id).trans HH) ((hG.block (z<|G a) (aj hN) id).trans hN) (show z (G a)+1=z (G WB)by rw[<-es];simp);clear hB hG w hq jI cT jK rb;go_wp2_with fail
 go_loopw [7,22] (λee gA wr=>∃(ef num:M)(KR:DK)(us:cP),gA=am ef/\ee=aI num/\CM w1 s.aN b e j (a0++b0++c0++d0) ps ca s.next B0 wr KR us ef num) (λ_ gA _=>y ca-(intOf gA).toNat)
 case atStart=>exact⟨0,s.next,j,[],rfl,rfl,nd⟩
 case round=>
  obtain⟨ef,num,KR,us,rfl,rfl,l⟩:=hrel;have sc:=g.le;have rv:=g.ME;have bu:∀m,z (G a)<=m->¬Wr s.aN j ps m:=by
   rintro m d(bg|⟨bT,hp,bg|bg⟩)
   .have:=g.aZ m bg;omega
   .have:=((g.news bT hp).1.lt m<|.inl bg).2;omega
   .have:=((g.news bT hp).1.lt m<|.inr<|.inr bg).2;omega
  have lp:¬Wr s.aN j ps b:=by
   rintro(bg|⟨bT,hp,bg|bg⟩)
   .exact hC bg
   .have:=((g.news bT hp).1.lt b<|.inl bg).1;omega
   .have:=((g.news bT hp).1.lt b<|.inr<|.inr bg).1;omega
  have sn:=ae nO;have bd:=(l.ar.block b (aj cc) lp).trans cc;by_cases dk:ef<y ca
  .have c:=l.ar.own hY<|λm d=>bu m (by have:=(hY.lt m d).1;omega);obtain⟨t,F,u⟩:∃t,xT=H (R t 0)/\aS wr (R t ef)=H ca[ef].ptr:=by
    rcases c.2 with⟨h2,h0⟩|⟨x,i,ob,h2,_⟩
    .omega
    .cases h2;refine⟨x,rfl,?_⟩;have:=pm c ef ca[ef].ptr (by rw[dz,aH dk];rfl);rwa[du,cR]at this
   subst F;unfold bI.ptr at u;have e1:(ef:X)<(y ca:X):=by omega
   rcases au.xt ca[ef] (ap dk)with h0|⟨bT,hp,f⟩
   .obtain⟨hJ,al,n,hm,_⟩:=(l.FN ca[ef] h0).mem;have i:=BT _ hm;have HM:=U<|l.skip au dk h0;clear l c bd hm h0 bu;generalize ca[ef].tb=p at*;go_wp2_with fail
    apply i.mono;rintro cM N⟨rfl,E⟩;subst N;clear i;go_wp2;go_roundw;case rel=>exact⟨ef+1,num,KR,_,by go_num,rfl,HM⟩
    case measure=>simp[intOf];omega
   .have v:=l.rest bT hp (by rw[f,<-kP dk];exact dy);have i:=Dg v.mem;rw[f]at i;have o:=l.write au dk hp f;have lg:num+1<9223372036854775807:=by have:=l.qC.2;have:=au.nx;have:=au.small;omega
    have c2:=bK.cellAt bd 2 rfl;clear l c bd v bu f hp;generalize ca[ef].tb=p at*;go_wp2_with fail
    apply i.mono;rintro cM N⟨rfl,E⟩;subst N;clear i;go_wp2_with fail
    apply o.mono;rintro cM N⟨rfl,L,K,k⟩;have r:=U k;clear k o;go_wp2;go_roundw;case rel=>exact⟨ef+1,num+1,L,K,by go_num,by go_num,r⟩
    case measure=>simp[intOf];omega
  .have pd:ef=y ca:=by have:=l.le;omega
   rw[pd]at l;have kn:us.map (λbh=>(bh.tb,bh.ks,bh.cs))=(eg++ei++bg++ej).map (λbh=>(bh.tb,bh.ks,bh.cs)):=by rw[l.same,bN,ae iv]
   obtain⟨L,O,W,d',K,oc,oj,on,ov⟩:=Xk kn;obtain⟨hf,hg,od,oi⟩:=lh oc;obtain⟨hh,hi,ol,om⟩:=lh oj;obtain⟨hj,hk,op,os⟩:=lh on;obtain⟨hl,hn,ox,oy⟩:=lh ov;have hA:∀bo,qD a s.aN b e j bo->∀m,bV bo=H m->¬Wr s.aN j ps m:=by
    rintro bo hv m d(q|⟨bT,hp,q|q⟩)
    .exact(hv m d).2.1 q
    .have v:=(g.news bT hp).1;rcases(hv m d).2.2.2 with x|⟨bb,lt,x⟩
     .have:=(v.lt m<|.inl q).1;omega
     .exact iq x v.mem.box (by decide) q
    .have v:=(g.news bT hp).1;rcases(hv m d).2.2.2 with x|⟨bb,lt,x⟩
     .have:=(v.lt m<|.inr<|.inr q).1;omega
     .obtain⟨ob,pc⟩:=fD v.data (k:=bT.x) rfl;exact iq x pc (by decide) q
   have bm:Z (Wr s.aN j ps) a wr:=(fx.mono (T:=Wr s.aN j ps) cG).trans l.ar<|λ_ q=>.inl q;have t:∀bo(ts c:cP),qD a s.aN b e j bo->Row a 1 bo (y ts) (ts.map bI.ptr)->c.map bI.ptr=ts.map bI.ptr->y c=y ts->Row wr 1 bo (y c) (c.map bI.ptr):=λbo ts c hv ln e1 e2=>by
    rw[e1,e2];exact bm.row ln<|λm d=>⟨hA bo hv m d,(hv m d).1⟩
   have kk:∀bx∈us,JB wr s.aN bx:=λbx hu=>by
    have bb:∀{w:fI},rO wr s.aN (vw KR.files) w bx->JB wr s.aN bx:=λho=>by
     obtain⟨hJ,al,n,hm,_⟩:=ho.mem;refine⟨hJ,al,n,?_⟩;rw[<-ho.ks]at hm;exact hm
    rcases l.PV bx hu with q|⟨bT,_,_,q,_⟩
    .exact bb<|l.FN bx q
    .exact bb q
   have et:∀bn,Z az wr bn->∀bx∈us,JB bn s.aN bx:=λbn hE bx hu=>by
    obtain⟨hJ,al,n,hm⟩:=kk bx hu;exact⟨hJ,al,n,hm.dh (hE.block _ (aj hm.box) id)<|hE.block _ hm.lt.2 id⟩
   have dm:∀bo(ts:cP),(∀bh∈ts,bh∈us)->y ts<=1000000->(∀m,bV bo=H m->m<z (G wr))->Row wr 1 bo (y ts) (ts.map bI.ptr)->∀bn,Z az wr bn->cw bF 142 #[bo] bn λcM w'=>∃a,cM=aO a/\w'.ownsRow (z<|G bn) 266 4 a (y ts) (dj ts)/\Below (z<|G bn) bn w':=λbo ts bb b d ln bn hE=>by
    refine NY bn s.aN bo ts ⟨hE.row ln<|λm cM=>⟨id,d m cM⟩,λm cM=>ag (d m cM) hE.size,λbh h=>(et bn hE bh<|bb bh h).Td,by omega⟩ (λbh h=>et bn hE bh<|bb bh h)<|by omega
   have ta:=bm.size;have gk:=dm _ L (λbh h=>by rw[K];simp[h]) (by omega) (λm d=>by have:=(g.b0 m d).1;omega)<|t _ eg L g.b0 g.r0 hf hg;have gn:=dm _ O (λbh h=>by rw[K];simp[h]) (by omega) (λm d=>by have:=(g.b1 m d).1;omega)<|t _ ei O g.b1 g.r1 hh hi;have gr:=dm _ W (λbh h=>by rw[K];simp[h]) (by omega) (λm d=>by have:=(g.b2 m d).1;omega)<|t _ bg W g.b2 g.r2 hj hk;have gs:=dm _ d' (λbh h=>by rw[K];simp[h]) (by omega) (λm d=>by have:=(g.b3 m d).1;omega)<|t _ ej d' g.b3 g.r3 hl hn;obtain⟨ih,il,ip,it⟩:=gx (t _ eg L g.b0 g.r0 hf hg) (t _ ei O g.b1 g.r1 hh hi) (t _ bg W g.b2 g.r2 hj hk)<|t _ ej d' g.b3 g.r3 hl hn;have T:=(l.ar.block (z<|G a) (aj cb)<|bu _<|ah _).trans cb;have bp:=cellAt T 0 rfl;have bq:=cellAt T 1 rfl;have br:=cellAt T 2 rfl;have bs:=cellAt T 3 rfl;have rs:=aj T;have lg:num+1<9223372036854775807:=by have:=l.qC.2;have:=au.nx;have:=au.small;omega
   have pv:IntKind.u64.wrap ((num:X)+1)=(num:X)+1:=by rw[gX];omega
   have e1:¬(ef:X)<(y ca:X):=by omega
   obtain⟨HM,hU,hV,hW,hX,fu,gf⟩:=ww l gk gn gr gs bd bm;obtain⟨cE,hO,HEq,rM,ry,rz⟩:=kF K T (And.intro oc (And.intro oj (And.intro on ov))) bu et hA;clear l dm gk gn gr gs bd bm K T oc oj on ov hf hg od oi hh hi ol om hj hk op os hl hn ox oy t kk et hA bu kn lp;go_wp2_with fail
   obtain⟨c,lr⟩:∃c,z (G wr)=c:=⟨_,rfl⟩;obtain⟨W0,ko⟩:∃W0,ct wr (aq #[aI<|(num:X)+1,aI num,aI bv,aK,aK,aK,aK] 187)=W0:=⟨_,rfl⟩;have gt:W0.heap[c]?=H (aq #[aI<|(num:X)+1,aI num,aI bv,aK,aK,aK,aK] 187 (0,0)):=by rw[<-ko];exact aC _ lr.symm
   have gv:Z az wr W0:=by rw[<-ko];exact(Z.refl _ _).alloc _
   have ac:=U gt;have fL:=U gv;clear gt gv;have rc:∀bn,(Instr.index 107 (eD #[I x0 (y eg) A,I x1 (y ei) B,I x2 (y bg) C,I x3 (y ej) D])<|am 0).run bF bn=.ok (I x0 (y eg) A) bn:=λ_=>by kernel_rfl
   have re:∀bn,(Instr.index 107 (eD #[I x0 (y eg) A,I x1 (y ei) B,I x2 (y bg) C,I x3 (y ej) D])<|am 1).run bF bn=.ok (I x1 (y ei) B) bn:=λ_=>by kernel_rfl
   have rn:∀bn,(Instr.index 107 (eD #[I x0 (y eg) A,I x1 (y ei) B,I x2 (y bg) C,I x3 (y ej) D])<|am 2).run bF bn=.ok (I x2 (y bg) C) bn:=λ_=>by kernel_rfl
   have ro:∀bn,(Instr.index 107 (eD #[I x0 (y eg) A,I x1 (y ei) B,I x2 (y bg) C,I x3 (y ej) D])<|am 3).run bF bn=.ok (I x3 (y ej) D) bn:=λ_=>by kernel_rfl
   refine ld 5 ?_;rw[gZ];go_wp2_with fail
   apply(hU W0 fL).mono;rintro cM N⟨m0,rfl,fe,Q⟩;obtain⟨y0,z0,pi⟩:=aB fe;subst pi;have r:Z az W0 N:=Z.aT Q;have k:=(r.block c (aj ac) id).trans ac;have g0:=cellAt k 3 rfl;have f0:=dJ (i:=3) k;have p:(bZ N (R c 3)<|I y0 (y L) z0).heap[c]?=H (aq #[aI<|(num:X)+1,aI num,aI bv,(I y0 (y L) z0),aK,aK,aK] 187 (0,0)):=(aQ k).trans rfl;have i:Z (λm=>m=c) W0 (bZ N (R c 3)<|I y0 (y L) z0):=(r.mono (T:=λm=>m=c) cG).setCell _ _ _<|.inl rfl;obtain⟨W1,kq⟩:∃W1,bZ N (R c 3) (I y0 (y L) z0)=W1:=⟨_,rfl⟩;rw[kq]at p i;obtain⟨ax,gb,cj⟩:=dB p (fL.trans i<|λm d=>.inr<|by omega) (show W1.ownsRow (z<|G W0) 266 4 (I y0 (y L) z0) (y L) (dj L)by rw[<-kq];exact fe.kept (cW _ _ _ _)<|.inr (λq=>by have:=(fe.lt _ q).1;have:=aj ac;omega));clear p i r k Q fe;go_wp2_with fail
   rw[gZ];go_wp2_with fail
   apply(hV W1 gb).mono;rintro cM N⟨m1,rfl,ff,Q⟩;obtain⟨y1,z1,pj⟩:=aB ff;subst pj;have r:Z az W1 N:=Z.aT Q;have k:=(r.block c (aj ax) id).trans ax;have g1:=cellAt k 4 rfl;have f1:=dJ (i:=4) k;have p:(bZ N (R c 4)<|I y1 (y O) z1).heap[c]?=H (aq #[aI<|(num:X)+1,aI num,aI bv,(I y0 (y L) z0),(I y1 (y O) z1),aK,aK] 187 (0,0)):=(aQ k).trans rfl;have i:Z (λm=>m=c) W1 (bZ N (R c 4)<|I y1 (y O) z1):=(r.mono (T:=λm=>m=c) cG).setCell _ _ _<|.inl rfl;obtain⟨W2,ks⟩:∃W2,bZ N (R c 4) (I y1 (y O) z1)=W2:=⟨_,rfl⟩;rw[ks]at p i;obtain⟨bi,gc,cn,ck⟩:=gx p (gb.trans i<|λm d=>.inr<|by omega) (show W2.ownsRow (z<|G W1) 266 4 (I y1 (y O) z1) (y O) (dj O)by rw[<-ks];exact ff.kept (cW _ _ _ _)<|.inr (λq=>by have:=(ff.lt _ q).1;have:=aj ax;omega))<|i.own cj (λm d q=>by have:=(cj.lt m d).1;have:=aj ac;omega);clear p i r k Q ff;go_wp2_with fail
   rw[gZ];go_wp2_with fail
   apply(hW W2 gc).mono;rintro cM N⟨m2,rfl,fk,Q⟩;obtain⟨y2,z2,pk⟩:=aB fk;subst pk;have r:Z az W2 N:=Z.aT Q;have k:=(r.block c (aj bi) id).trans bi;have g2:=cellAt k 5 rfl;have f2:=dJ (i:=5) k;have p:(bZ N (R c 5)<|I y2 (y W) z2).heap[c]?=H (aq #[aI<|(num:X)+1,aI num,aI bv,(I y0 (y L) z0),(I y1 (y O) z1),(I y2 (y W) z2),aK] 187 (0,0)):=(aQ k).trans rfl;have i:Z (λm=>m=c) W2 (bZ N (R c 5)<|I y2 (y W) z2):=(r.mono (T:=λm=>m=c) cG).setCell _ _ _<|.inl rfl;obtain⟨W3,kt⟩:∃W3,bZ N (R c 5) (I y2 (y W) z2)=W3:=⟨_,rfl⟩;rw[kt]at p i;obtain⟨cx,ge,cs,cl,co⟩:=jR p (gc.trans i<|λm d=>.inr<|by omega) (show W3.ownsRow (z<|G W2) 266 4 (I y2 (y W) z2) (y W) (dj W)by rw[<-kt];exact fk.kept (cW _ _ _ _)<|.inr (λq=>by have:=(fk.lt _ q).1;have:=aj bi;omega)) (i.own ck (λm d q=>by have:=(ck.lt m d).1;have:=aj ac;omega))<|i.own cn (λm d q=>by have:=(cn.lt m d).1;have:=aj ax;omega);clear p i r k Q fk;go_wp2_with fail
   rw[gZ];go_wp2_with fail
   apply(hX W3 ge).mono;rintro cM N⟨m3,rfl,fl,Q⟩;obtain⟨y3,z3,pn⟩:=aB fl;subst pn;have r:Z az W3 N:=Z.aT Q;have k:=(r.block c (aj cx) id).trans cx;have g3:=cellAt k 6 rfl;have f3:=dJ (i:=6) k;have p:(bZ N (R c 6)<|I y3 (y d') z3).heap[c]?=H (aq #[aI<|(num:X)+1,aI num,aI bv,(I y0 (y L) z0),(I y1 (y O) z1),(I y2 (y W) z2),(I y3 (y d') z3)] 187 (0,0)):=(aQ k).trans rfl;have i:Z (λm=>m=c) W3 (bZ N (R c 6)<|I y3 (y d') z3):=(r.mono (T:=λm=>m=c) cG).setCell _ _ _<|.inl rfl;obtain⟨W4,kv⟩:∃W4,bZ N (R c 6) (I y3 (y d') z3)=W4:=⟨_,rfl⟩;rw[kv]at p i;obtain⟨cB,ad,cv,cm,cp,cu⟩:=kF p (ge.trans i<|λm d=>.inr<|by omega) (show W4.ownsRow (z<|G W3) 266 4 (I y3 (y d') z3) (y d') (dj d')by rw[<-kv];exact fl.kept (cW _ _ _ _)<|.inr (λq=>by have:=(fl.lt _ q).1;have:=aj cx;omega)) (i.own cl (λm d q=>by have:=(cl.lt m d).1;have:=aj ac;omega)) (i.own co (λm d q=>by have:=(co.lt m d).1;have:=aj ax;omega))<|i.own cs (λm d q=>by have:=(cs.lt m d).1;have:=aj bi;omega);clear p i r k Q fl;go_wp2_with fail
   rw[gZ];go_wp2_with fail
   have db:bK W4 b s m:=(ad.block b (aj fu) id).trans fu;have kl:∀f:Y,f.heap=W4.heap->(λ(f:Y)=>aS f (R b 2)=H (aw s.aN)/\aS f (R c 0)=H (aI<|(num:X)+1)/\aS f (R c 1)=H (aI num)/\aS f (R c 2)=H (aI bv)/\aS f (R c 3)=H (I y0 (y L) z0)/\aS f (R c 4)=H (I y1 (y O) z1)/\aS f (R c 5)=H (I y2 (y W) z2)/\aS f (R c 6)=H (I y3 (y d') z3)) f:=by
    intro f bb;have h1:f.heap[b]?=W4.heap[b]?:=by rw[bb]
    have h2:f.heap[c]?=W4.heap[c]?:=by rw[bb]
    have lt:bK f b s m:=h1.trans db;have pc:=h2.trans cB;refine⟨lt.cell rfl,?_,?_,?_,?_,?_,?_,?_⟩<;>(rw[bR pc];rfl)
   have gj:=kl W4.drew rfl;have cd:=U db;clear kl db;have ls:cw bF 143 #[aw s.aN,eD #[aI<|(num:X)+1,aI num,aI bv,I y0 (y L) z0,I y1 (y O) z1,I y2 (y W) z2,I y3 (y d') z3]] W4.drew λcM w'=>cM=aO .nilIface/\∃a,rG W4.drew w' s.aN KR a/\vw a.files=tf (vw KR.files) (gR,iG ((num:X)+1) num bv [L,O,W,d'])/\a.eO=[]:=by
    have l:=ae HM;have K:=ae cE;have lt:Z az wr W4.drew:=ad.of_heap rfl;have v:∀bx∈us,bx.oe:=λbx hu=>by
     have hK:∀{w:fI},rO wr s.aN (vw KR.files) w bx->bx.oe:=λho=>by
      refine⟨ho.num,by have:=ho.small;omega,?_⟩;have h1:=lq<|λm d=>(ho.idx.can m d).fits;have h2:=ho.idx.len;rw[ho.ks];unfold fc;rw[af,bY];omega
     rcases l.PV bx hu with q|⟨bT,_,_,q,_⟩
     .exact hK<|l.FN bx q
     .exact hK q
    have pe:y L+y O+y W+y d'<=1000000:=by
     have:=l.len;rw[K]at this;simp only[af]at this;omega
    have pg:dX (vw KR.files) uR=none:=by
     obtain⟨qv,hy,pc⟩:=l.files;rw[hy,jy];cases q:dX (vw j.files) uR with
     |some he=>exact absurd rfl<|ds _ _ q
     |none=>
      rw[lX];cases q2:dX qv uR with
      |none=>rfl
      |some he=>
       obtain⟨bx,_,cM,_⟩:=pc _<|xL q2;simp only[gV]at cM;exact absurd cM.1.symm<|Dv _
    have bb:ik (vw KR.files)+21000000<=1099511627776:=by
     have h1:=l.qI;have h2:=au.room;have h3:y ca*200000<=1000000*200000:=kg _ hx;omega
    refine Tu s.aN KR ((num:X)+1) num bv y0 y1 y2 y3 z0 z1 z2 z3 L O W d' (λm d=>lt.cell (l.steps m d) id l.steps.lt) (dF cm) (dF cp) (dF cu) (dF cv) (λm d=>(cm.lt m d).2) (λm d=>(cp.lt m d).2) (λm d=>(cu.lt m d).2) (λm d=>(cv.lt m d).2) (λbh h=>v bh (by rw[K];simp[h])) (λbh h=>v bh (by rw[K];simp[h])) (λbh h=>v bh (by rw[K];simp[h])) (λbh h=>v bh (by rw[K];simp[h])) (by omega) (by omega) (by omega) pe (l.aN.ar lt<|λ_ _=>id) pg (by have:=l.eO;have:=au.eO;omega) bb
   have nq:=U ls;clear ls;rename_i QQ KK kd;refine cg (λ(f:Y)=>aS f (R b 2)=H (aw s.aN)/\aS f (R c 0)=H (aI<|(num:X)+1)/\aS f (R c 1)=H (aI num)/\aS f (R c 2)=H (aI bv)/\aS f (R c 3)=H (I y0 (y L) z0)/\aS f (R c 4)=H (I y1 (y O) z1)/\aS f (R c 5)=H (I y2 (y W) z2)/\aS f (R c 6)=H (I y3 (y d') z3)) 6 (by kernel_rfl) ?_;refine cQ 0 ?_;iterate 5 (refine eE (v:=?_) gj rfl (by kernel_rfl) iO rfl ?_ ?_;rotate_left;(focus(rintro f⟨s2,q0,q1,q2,q3,q4,q5,q6⟩;go_simp;try rfl));simp only[Act.put,cX,Nat.reduceAdd])
   apply eh;refine aJ (i:=5) rfl rfl (by kernel_rfl) ?_;intro K5 kb;go_simp;apply nq.mono;rintro cM w5⟨rfl,jA,eu,lv,lc⟩;have kz:∀m,KR.aZ s.aN m->m<c:=λm d=>by have:=HM.aN.lt m d;omega
   have hD:¬KR.aZ s.aN b:=λq=>by
    rcases HM.aZ b q with x|x
    .exact hC x
    .have:=aj cc;omega
   have ht:bK w5 b s m:=(eu.ar.block b (aj cd) hD).trans cd;have u:w5.heap[c]?=_:=(eu.ar.block c (aj cB) (λq=>by have:=kz _ q;omega)).trans cB;obtain⟨ek,fv,av,hd,hT,iu⟩:=kF ht u eu lv lc hD;refine kb _ _ (λ_=>⟨ht.cell rfl,(by rw[bR u];rfl),(by rw[bR u];rfl),(by rw[bR u];rfl),(by rw[bR u];rfl),(by rw[bR u];rfl),(by rw[bR u];rfl),(by rw[bR u];rfl)⟩) ?_;clear kb eu lv lc ht u kz hD;try simp only[Act.put,cX]
   refine aJ (i:=6) rfl rfl (by kernel_rfl) ?_;intro K6 kc;go_simp;refine kc _ _ (λq=>(q rfl).elim) ?_;refine cO (by kernel_rfl) ?_ _;show KK _ _;apply kd;clear kd kc gj;have l:=ae HM;have mb:z (G a)<z (G w1):=aj cb;have rx:=l.ar.size;have ao:Z (KR.aZ s.aN) wr w5:=(ad.mono (T:=KR.aZ s.aN) cG).trans ((bX (KR.aZ s.aN) W4).trans av.ar<|λ_ q=>.inl q)<|λ_ q=>.inl q;have dn:∀m,m<z (G w1)->¬j.aZ s.aN m->¬KR.aZ s.aN m:=λm h1 h2 q=>(l.aZ m q).elim h2 (λx=>by omega);have dd:∀m,m<z (G w1)->¬j.aZ s.aN m->w5.heap[m]?=wr.heap[m]?:=λm h1 h2=>ao.block m (by omega)<|dn m h1 h2;have pb:=g.le;have lm:∀bT∈ps,∀m,bT.has m->m<z (G w1)/\¬j.aZ s.aN m:=λbT hp m d=>by
    have h1:=(g.news bT hp).1.lt m d;exact⟨by omega,λq=>by have:=g.aZ m q;omega⟩
   have ll:∀m,JH s.aN b e j m->m<z (G w1)/\¬j.aZ s.aN m:=λm d=>⟨by have:=d.1;omega,d.2.1⟩;have hs:∀{w:fI}{bx:bI},rO wr s.aN (vw KR.files) w bx->(∀m,w m->m<z (G w1)/\¬j.aZ s.aN m)->SI w5 bx:=λho bb=>by
    obtain⟨hJ,al,n,hm,lt⟩:=(ho.RI<|λm d=>dd m (bb m d).1 (bb m d).2).mem;exact⟨ho.num,_,_,_,_,hJ,al,n,_,hm⟩
   have hr:∀bh∈a0++b0++c0++d0,SI w5 bh:=λbh h0=>hs (l.FN bh h0) ll;have kf:∀bx∈L++O++W++d',SI w5 bx:=λbx hu=>by
    rw[<-ae cE]at hu;rcases l.PV bx hu with q|⟨bT,hp,_,q,_⟩
    .exact hr bx q
    .exact hs q<|lm bT hp
   have gi:De w5 b 10 [(s.l0,a0),(s.l1,b0),(s.l2,c0),(s.l3,d0)]:=by
    refine ch.ar (S:=λm=>Wr s.aN j ps m\/KR.aZ s.aN m) ((gf.mono (T:=λm=>Wr s.aN j ps m\/KR.aZ s.aN m)<|λ_ q=>.inl<|.inl q).trans ao<|λ_ q=>.inl<|.inr q) ?_ ?_
    .rintro(q|q)
     .rcases q with x|⟨bT,hp,x|x⟩
      .exact hC x
      .have:=((g.news bT hp).1.lt b<|.inl x).1;omega
      .have:=((g.news bT hp).1.lt b<|.inr<|.inr x).1;omega
     .exact iu q
    .intro gA lt k' bt q;have bb:JH s.aN b e j k':=by
      have:gA=0\/gA=1\/gA=2\/gA=3:=by simp at lt;omega
      rcases this with rfl|rfl|rfl|rfl
      .exact el _ (.inl rfl) k' bt
      .exact el _ (.inr<|.inl rfl) k' bt
      .exact el _ (.inr<|.inr<|.inl rfl) k' bt
      .exact el _ (.inr<|.inr<|.inr rfl) k' bt
     rcases q with x|x
     .rcases x with x|⟨bT,hp,x|x⟩
      .exact bb.2.1 x
      .have:=((g.news bT hp).1.lt k'<|.inl x).1;have:=bb.1;omega
      .have:=((g.news bT hp).1.lt k'<|.inr<|.inr x).1;have:=bb.1;omega
     .exact dn k' (by have:=bb.1;omega) bb.2.1 x
   have P:∀bo(ts:cP),qD a s.aN b e j bo->Row wr 1 bo (y ts) (ts.map bI.ptr)->Row w5 1 bo (y ts) (ts.map bI.ptr)/\∀m,bV bo=H m->m<z (G w5):=λbo ts hv ln=>
    ⟨ao.row ln<|λm d=>⟨dn m (by have:=(hv m d).1;omega) (hv m d).2.1,by have:=(hv m d).1;omega⟩,λm d=>by have:=(hv m d).1;have:=ao.size;omega⟩
   have q0:=P _ L g.b0 ih;have q1:=P _ O g.b1 il;have q2:=P _ W g.b2 ip;have q3:=P _ d' g.b3 it;have rt:y (L++O++W++d')<=1000000:=by rw[<-ae cE,l.len];exact hx
   have dT:Pow w5:=l.pow.dh<|dd _ (by have:=g.me.1;omega) g.me.2.1;have dx:=IF a0 b0 c0 d0 L O W d' ek gi q0.1 q1.1 q2.1 q3.1 q0.2 q1.2 q2.2 q3.2 hr kf dT pf (by omega) (by omega);have an:=(dd (z<|G a) mb (λq=>by have:=g.aZ _ q;omega)).trans hO;have bp:=cellAt an 0 rfl;have bq:=cellAt an 1 rfl;have br:=cellAt an 2 rfl;have bs:=cellAt an 3 rfl;rw[<-ae cE]at dx;obtain⟨nf,ba,fs,no⟩:=gx dd ao an dn;clear l dn dd hs hr kf gi P q0 q1 q2 q3 dT an ao lm ll;go_wp2_with fail
   apply dx.mono;rintro cM w6⟨v6,rfl,fn,ed⟩;obtain⟨ns,dv⟩:∃ns,pu s (a0++b0++c0++d0) us=ns:=⟨_,rfl⟩;rw[dv]at fn;obtain⟨x6,c6,pp⟩:=aB fn;subst pp;have o:bK w6 b s m:=(ed.block b (aj ek) id).trans ek;have eb:w6.heap[c]?=_:=(ed.block c (aj fv) id).trans fv;have bc:w6.heap[z<|G a]?=_:=(ed.block (z<|G a) (aj fs) id).trans fs;obtain⟨mp,mo,ex⟩:=bL (ch.row 0<|by simp);obtain⟨mv,ms,ey⟩:=bL (ch.row 1<|by simp);obtain⟨mA,mx,fb⟩:=bL (ch.row 2<|by simp);obtain⟨mE,mC,fd⟩:=bL (ch.row 3<|by simp);simp only[cN,cD]at ex ey fb fd;obtain⟨hP,hQ,hR,hS⟩:=gx ex ey fb fd;have k7:aS w6 (R b 7)=H (I st ss sp):=by rw[<-ae nm];exact o.cell rfl
   have k8:=bK.cellAt o 8 rfl;have k9:=bK.cellAt o 9 rfl;have mc:aS w6 (R b 10)=H (I mp (y a0) mo):=by rw[<-ex];exact o.cell rfl
   have md:aS w6 (R b 11)=H (I mv (y b0) ms):=by rw[<-ey];exact o.cell rfl
   have mg:aS w6 (R b 12)=H (I mA (y c0) mx):=by rw[<-fb];exact o.cell rfl
   have mm:aS w6 (R b 13)=H (I mE (y d0) mC):=by rw[<-fd];exact o.cell rfl
   have mn:=bK.cellAt o 14 rfl;have qb:=bK.cellAt o 17 rfl;have qk:=bK.cellAt o 18 rfl;have qq:=bK.cellAt o 19 rfl;have qr:=bK.cellAt o 20 rfl;have qs:=bK.cellAt o 21 rfl;have fz:∀gA,w6.frozen? (R b gA)=bE:=λgA=>o.free;have f7:=fz 7;have f8:=fz 8;have f9:=fz 9;have jB:=fz 10;have jC:=fz 11;have jD:=fz 12;have jE:=fz 13;have jG:=fz 14;have oA:=fz 15;have oB:=fz 16;have oL:=fz 17;have oS:=fz 18;have oT:=fz 19;have bp:=cellAt bc 0 rfl;have bq:=cellAt bc 1 rfl;have br:=cellAt bc 2 rfl;have bs:=cellAt bc 3 rfl;have t0:=cellAt eb 0 rfl;have t1:=cellAt eb 1 rfl;have n1:z (G a)≠b:=by omega
   have n2:c≠b:=by omega
   have n3:b≠z (G a):=by omega
   have n4:b≠c:=by omega
   obtain⟨na,em,nv,ha⟩:=gx o fn ed dv;clear o eb bc fn ed fz ex ey fb fd dx dv;go_wp2_with fail
   rename_i rT nS gg;obtain⟨V,en⟩:∃V,bZ (bZ (bZ w6 (R b 7) aK) (R b 8)<|am 0) (R b 9) (aI bv)=V:=⟨_,rfl⟩;have E:bK V b {s with memory:=aK,iT:=0,bB:=bv} m:=by rw[<-en];exact(aQ<|aQ<|aQ na).trans rfl
   have bf:Z (λm=>m=b) w6 V:=by rw[<-en];exact(((Z.refl (λm=>m=b) w6).setCell _ _ _<|.inl rfl).setCell _ _ _<|.inl rfl).setCell _ _ _<|.inl rfl
   have bp:aS V (R (z<|G a) 0)=H (I x0 (y eg) A):=bf.cell bp n1<|qZ bp;have bq:aS V (R (z<|G a) 1)=H (I x1 (y ei) B):=bf.cell bq n1<|qZ bq;have br:aS V (R (z<|G a) 2)=H (I x2 (y bg) C):=bf.cell br n1<|qZ br;have bs:aS V (R (z<|G a) 3)=H (I x3 (y ej) D):=bf.cell bs n1<|qZ bs;have t0:aS V (R c 0)=H (aI<|(num:X)+1):=bf.cell t0 n2<|qZ t0;have t1:aS V (R c 1)=H (aI num):=bf.cell t1 n2<|qZ t1;have mc:aS V (R b 10)=H (I mp (y a0) mo):=by rw[<-ae hP];exact E.cell rfl
   have md:aS V (R b 11)=H (I mv (y b0) ms):=by rw[<-ae hQ];exact E.cell rfl
   have mg:aS V (R b 12)=H (I mA (y c0) mx):=by rw[<-ae hR];exact E.cell rfl
   have mm:aS V (R b 13)=H (I mE (y d0) mC):=by rw[<-ae hS];exact E.cell rfl
   have mn:=bK.cellAt E 14 rfl;have jB:V.frozen? (R b 10)=bE:=E.free;have jC:V.frozen? (R b 11)=bE:=E.free;have jD:V.frozen? (R b 12)=bE:=E.free;have jE:V.frozen? (R b 13)=bE:=E.free;have jG:V.frozen? (R b 14)=bE:=E.free;have nb:=U E;have hb:=U bf;rw[en];clear en E bf;apply CS nS
   .intro bb;go_region
    all_goals exact bb
   refine gg _ _ ?_;clear gg;obtain⟨W8,eo⟩:∃W8,(bZ (bZ (bZ (bZ (bZ V (R b 10)<|I x0 (y eg) A) (R b 11)<|I x1 (y ei) B) (R b 12)<|I x2 (y bg) C) (R b 13)<|I x3 (y ej) D) (R b 14)<|aI<|(num:X)+1).drew=W8:=⟨_,rfl⟩;have F:bK W8 b {s with memory:=aK,iT:=0,bB:=bv,l0:=I x0 (y eg) A,l1:=I x1 (y ei) B,l2:=I x2 (y bg) C,l3:=I x3 (y ej) D,next:=num+1} m:=by
    rw[<-eo];exact(aQ<|aQ<|aQ<|aQ<|aQ nb).trans rfl
   have hH:Z (λm=>m=b) V W8:=by
    rw[<-eo];exact((((((Z.refl (λm=>m=b) V).setCell _ _ _<|.inl rfl).setCell _ _ _<|.inl rfl).setCell _ _ _<|.inl rfl).setCell _ _ _<|.inl rfl).setCell _ _ _<|.inl rfl).ci<|bX az _
   have t1:aS W8 (R c 1)=H (aI num):=hH.cell t1 n2<|qZ t1;have qb:=bK.cellAt F 17 rfl;have qk:=bK.cellAt F 18 rfl;have qq:=bK.cellAt F 19 rfl;have qr:=bK.cellAt F 20 rfl;have qs:=bK.cellAt F 21 rfl;have oA:W8.frozen? (R b 17)=bE:=F.free;have oB:W8.frozen? (R b 18)=bE:=F.free;have oL:W8.frozen? (R b 19)=bE:=F.free;have oS:W8.frozen? (R b 20)=bE:=F.free;have oT:W8.frozen? (R b 21)=bE:=F.free;have nc:=U F;have hc:=U hH;rw[eo];clear eo F hH mc md mg mm mn k7 k8 k9 f7 f8 f9 jB jC jD jE jG bp bq br bs t0;go_wp2_with fail
   obtain⟨W9,eq⟩:∃W9,bZ (bZ (bZ (bZ (bZ W8 (R b 17)<|aI num) (R b 18)<|aL bE) (R b 19)<|aL bE) (R b 20)<|aL bE) (R b 21) (aL bE)=W9:=⟨_,rfl⟩;have hw:bK W9 b (s.settled (I x0 (y eg) A) (I x1 (y ei) B) (I x2 (y bg) C) (I x3 (y ej) D) bv num) m:=by
    rw[<-eq];exact(aQ<|aQ<|aQ<|aQ<|aQ nc).trans rfl
   have fr:Z (λm=>m=b) W8 W9:=by
    rw[<-eq];exact(((((Z.refl (λm=>m=b) W8).setCell _ _ _<|.inl rfl).setCell _ _ _<|.inl rfl).setCell _ _ _<|.inl rfl).setCell _ _ _<|.inl rfl).setCell _ _ _<|.inl rfl
   have ec:Z (λm=>m=b) w5 W9:=((nv.mono (T:=λm=>m=b) cG).trans (hb.trans (hc.trans fr<|λ_ q=>.inl q)<|λ_ q=>.inl q)<|λ_ q=>.inl q);rw[eq];have ds:=ae ha;have ev:=ne us;rw[ds]at ev;have ea:¬jA.aZ s.aN b:=λq=>by
    rcases av.aZ b q with x|x
    .exact iu x
    .have:=aj cd;simp at x;omega
   have ka:cJ W9 s.aN jA:=av.ok.ar ec (λm d q=>by rw[q]at d;exact ea d);have lo:=DP (I x6 (y ns) c6) ns hw ka ea (dF<|((hb.trans (hc.trans fr<|λ_ q=>.inl q)<|λ_ q=>.inl q)).own em (λm d q=>by have:=(em.lt m d).1;have:=aj ek;omega)) (λef a=>⟨ag (em.lt ef a).2<|((hb.trans (hc.trans fr<|λ_ q=>.inl q)<|λ_ q=>.inl q)).size,λq=>by have h1:=(em.lt ef a).1;have h2:=av.ok.lt ef q;omega⟩) ev.1 (λee pc=>by
    obtain⟨lt,he,bb⟩:=ev.2 ee pc;obtain⟨qv,hy,_⟩:=HM.files;refine⟨he,?_⟩;rw[ae hd,vf,cY (λq=>lt q.symm),hy,jy,bb];rfl) (by
    rw[ae hT];have:y ns<=1+y (a0++b0++c0++d0):=by
     rw[<-ds];unfold pu;rw[af,cV];have h1:y (nj (a0++b0++c0++d0) us)<=y (a0++b0++c0++d0):=fj _ _;split<;>simp<;>simp at h1<;>omega
    simp only[cK];omega)
   have hM:=U hw;have bk:=U ec;clear hw fr ec ka ev ds eq;apply lo.mono;rintro cM w'⟨rfl,K8,ky,lx,le⟩;obtain⟨ce,nK,nl⟩:=dB ky lx le;clear ky lx le lo;go_wp2;go_ret;refine⟨rfl,w1,wr,KR,K8,us,L,O,W,d',num,fx,?_,cE,HEq.1,HEq.2.1,HEq.2.2.1,HEq.2.2.2,?_,ce.ok,?_,?_,?_,?_,?_,?_⟩
   .rw[ae iv];exact HM
   .exact(ce.ar.block b (aj hM) ea).trans hM
   .rw[ae nK,ae hd,ae ha]
   .rw[<-ae hd];exact av.ok.nodup
   .rw[ae nl,ae hT,ae ha];simp
   .intro k' h1 h2 h3;have g1:w5.heap[k']?=wr.heap[k']?:=nf k' (by omega) h2;have g2:W9.heap[k']?=w5.heap[k']?:=bk.block k' (by have:=ba.size;omega) h3;refine(ce.ar.block k' (by have:=ba.size;have:=bk.size;omega)<|λq=>?_).trans<|g2.trans g1;rcases av.aZ k' q with x|x
    .exact no k' (by omega) h2 x
    .have:=ad.size;simp at x;omega
   .have px:=ba.size;have pw:=ad.size;have bb:∀mI,KR.aZ s.aN mI->(Wr s.aN j ps mI\/mI=b)\/z (G a)<=mI:=λmI hK=>by
     rcases HM.aZ mI hK with x|x
     .exact .inl<|.inl<|.inl x
     .exact .inr<|by omega
    refine(((gf.mono (T:=λm=>Wr s.aN j ps m\/m=b)<|λ_ q=>.inl<|.inl q).trans ba bb).trans bk<|λ_ q=>.inl<|.inr q).trans ce.ar<|λmI hK=>?_;rcases av.aZ mI hK with x|x
    .exact bb mI x
    .simp at x;exact .inr<|by omega
   .intro k' bt;have px:=ba.size;have pw:=ad.size;have bb:=bk.size;rcases ce.aZ k' bt with x|x
    .rcases av.aZ k' x with x|x
     .rcases HM.aZ k' x with x|x
      .exact .inl x
      .exact .inr<|by omega
     .simp at x;exact .inr<|by omega
    .exact .inr<|by omega
def Tv(h:i.map (λS=>(S.tb,S.ks,S.cs))=p.map (λS=>(S.tb,S.ks,S.cs)))(b:S∈i):∃u∈p,S.tb=u.tb/\S.ks=u.ks/\S.cs=u.cs:=by
 have a:(S.tb,S.ks,S.cs)∈p.map (λS=>(S.tb,S.ks,S.cs)):=by rw[<-h];exact aY.2 ⟨S,b,rfl⟩
 obtain⟨u,c,e⟩:=aY.1 a;simp only[gV]at e;exact⟨u,c,e.1.symm,e.2.1.symm,e.2.2.symm⟩
def Bd(h:i.map (λt=>(t.tb,t.ks,t.cs))=p.map (λt=>(t.tb,t.ks,t.cs)))(a:ly p):ly i:=by
 refine⟨λt d=>?_,by rw[(lh h).2.2.2];exact a.mq,by rw[(lh h).2.2.1];exact a.CT⟩;obtain⟨u,e,_,b,c⟩:=Tv h d;rw[b,c];exact a.pure u e
def QF{f g h j:cP}(b:i.map (λa=>(a.tb,a.ks,a.cs))=f.map (λa=>(a.tb,a.ks,a.cs)))(c:p.map (λa=>(a.tb,a.ks,a.cs))=g.map (λa=>(a.tb,a.ks,a.cs)))(d:t.map (λa=>(a.tb,a.ks,a.cs))=h.map (λa=>(a.tb,a.ks,a.cs)))(e:u.map (λa=>(a.tb,a.ks,a.cs))=j.map (λa=>(a.tb,a.ks,a.cs))):cF i p t u=cF f g h j:=by
 unfold cF;rw[(lh b).2.2.1,(lh c).2.2.2,(lh d).2.2.2,(lh e).2.2.2]
structure WR(w w':Y)(sb:M)(s:SR)(k:X)(n C:M)(K:DK)(v0 v1 v2 v3:aa)(a b c d:cP)(K':DK)(num:M)(a' b' c' d':cP):Prop where
 box:bK w' sb (s.settled v0 v1 v2 v3 n num) k
 st:ST w' sb (s.settled v0 v1 v2 v3 n num) K' [] a' b' c' d' C
 qX:SP (vw K'.files) (num+1) num n a' b' c' d' bE []
 rows:cF a' b' c' d'=cF a b c d
 GJ:((a'++b'++c'++d').map bI.tb).Nodup
 eO:y K'.eO<=1000001
 num:s.next<=num/\num<=s.next+1000000
 aZ:∀k,K'.aZ s.aN k->K.aZ s.aN k\/z (G w)<=k
def OM(d cB co bn:M)(ps:cr NT)(v0 v1 v2 v3:aa)(bp bq bo br l o p r:cP)(bm:dW)(dc:bK a b n m)(c:LS a n.aN b d j (l++o++p++r) ps cB v0 v1 v2 v3 bp bq bo br)(bT:De a b 10 [(n.l0,l),(n.l1,o),(n.l2,p),(n.l3,r)])(hd:cJ a n.aN j)(bk:¬j.aZ n.aN b)(O:SP (vw j.files) n.next n.log bn l o p r n.gC bm)(ch:y (lO ((bn:X)+1) bm)<=200000)(hn:co<1000000000000000)(cT:n.next<=900000000000000)(cb:y j.eO<=10000000000)(bi:y (l++o++p++r)<=1000000)(bg:∃dd co bo,n.memory=I dd co bo)(bx:∀ax,ax=n.l0\/ax=n.l1\/ax=n.l2\/ax=n.l3->∀m,bV ax=H m->JH n.aN b d j m):cw bF 90 #[aw b,eD #[v0,v1,v2,v3],aI co] a λs Q=>s=aO .nilIface/\∃K' num a' b' c' d',WR a Q b n m co cB j v0 v1 v2 v3 bp bq bo br K' num a' b' c' d'/\Z (λm=>Wr n.aN j ps m\/m=b) a Q:=by
 have cp:=c.count;have E:∀t∈l++o++p++r,t.num<n.next:=λt e=>(O.low t e).1;have bl:=O.total hd.nodup ch bi;have bf:∀t∈l++o++p++r,∀w∈l++o++p++r,t.num=w.num->t=w:=by intro t e w A s;obtain⟨cv,K,rfl⟩:=gM.1 e;obtain⟨cu,hj,rfl⟩:=gM.1 A;have hn:=cy.1 O.zp;rcases kA cv cu with q|q|q;have:=hn cv cu (by simpa using K) (by simpa using hj) q;simp only[jS]at this;exact absurd s this;subst q;rfl;have:=hn cu cv (by simpa using hj) (by simpa using K) q;simp only[jS]at this;exact absurd s.symm this
 have W:∀N,n.next<=N->dX (vw j.files) (gJ N)=none:=by
  intro N F;cases q:dX (vw j.files) (gJ N)with
  |none=>rfl
  |some bs=>
   rcases O.names _ _ q with s|⟨s,_⟩|⟨t,e,s⟩
   .exact absurd s<|vJ _
   .exact absurd s<|mH _ _
   .have:=uQ s;have:=E t e;omega
 have bt:∀g,Z az a g->CF g n.aN b d j (l++o++p++r) ps (bp++bq++bo++br) n.next 201000000000:=λg e=>{le:=aD c.le e.size,aZ:=c.aZ,ME:=c.ME,xt:=λt f=>(by simp only[ak]at f;rcases f with((q|q)|q)|q<;>first|exact c.x0 t q|exact c.x1 t q|exact c.x2 t q|exact c.x3 t q),nodup:=c.nodup,apart:=c.apart,news:=λav x=>⟨(c.news av x).1.ar e<|λ_ _ q=>q,(c.news av x).2⟩,inj:=bf,low:=E,fresh:=W,fC:=c.fC,me:=c.me,small:=by simp only[af];omega,nx:=by omega,room:=by omega,qI:=bl,eO:=cb}
 have D:∀k,(pu n (l++o++p++r) k).Nodup/\∀N∈pu n (l++o++p++r) k,N≠gR/\∃bs,dX (vw j.files) N=H bs:=by
  intro k;have V:(nj (l++o++p++r) k).Sublist (l++o++p++r):=eW;have ba:((nj (l++o++p++r) k).map<|λt=>gJ t.num).Nodup:=by
   have h:((nj (l++o++p++r) k).map bI.num).Nodup:=O.zp.sublist<|V.map _;unfold List.Nodup at h|-;rw[js]at h|-;exact h.imp<|λa s=>a<|uQ s
  have K:∀N∈(nj (l++o++p++r) k).map (λt=>gJ t.num),N≠gR/\∃bs,dX (vw j.files) N=H bs:=by
   intro N F;obtain⟨t,e,rfl⟩:=aY.1 F;exact⟨vJ _,_,O.ze t<|V.subset e⟩
  unfold pu;cases ao:n.gC with
  |false=>
   rw[cY (by simp),cC];exact⟨ba,K⟩
  |true=>
   rw[dw rfl];refine⟨?_,λN F=>?_⟩
   .rw[jO,kH];refine⟨λq=>?_,ba⟩;obtain⟨t,_,s⟩:=aY.1 q;exact mH _ _ s
   .rcases ak.1 F with q|q
    .rw[bG]at q;rw[q];exact⟨sd _,_,O.log ao⟩
    .exact K N q
 refine(Me d cB co 201000000000 ps v0 v1 v2 v3 bp bq bo br l o p r dc c bt bT hd bk hn (by have:=O.lt;omega) bi (λN bs F s=>?_) bg bx D).mono ?_;rcases O.names _ _ F with q|⟨q,_⟩|⟨t,_,q⟩;exact Ip<|q.symm.trans s;exact NV _<|q.symm.trans s;exact Dv _<|q.symm.trans s;rintro s Q⟨rfl,w1,wr,KR,K8,k,a',b',c',d',num,cj,hM,i,ea,eb,ec,ed,bu,bv,au,bh,ca,an,ac,al⟩;have db:=cj.size;have cM:=c.le;have cs:=c.ME;have cc:∀ax,qD a n.aN b d j ax->∀m,bV ax=H m->¬(Wr n.aN j ps m\/m=b):=by rintro ax P m g(q|q);rcases q with q|⟨av,x,q|q⟩;exact(P m g).2.1 q;have K:=(c.news av x).1;rcases(P m g).2.2.2 with ad|⟨V,fr,ad⟩;have:=(K.lt m<|.inl q).1;omega;exact iq ad K.mem.box (by decide) q;have K:=(c.news av x).1;rcases(P m g).2.2.2 with ad|⟨V,fr,ad⟩;have:=(K.lt m<|.inr<|.inr q).1;omega;obtain⟨ba,hc⟩:=fD K.data (k:=av.x) rfl;exact iq ad hc (by decide) q;exact(P m g).2.2.1 q
 have B:∀m,m<z (G a)->¬j.aZ n.aN m->m≠b->Aside Q K8 n.aN b m:=λm h S h3=>
  ⟨ag h ac.size,λq=>(al m q).elim S (λad=>by omega),h3⟩
 have f:∀m,JH n.aN b d j m->m<z (G a)/\¬j.aZ n.aN m/\m≠b:=λm g=>⟨by have:=g.1;omega,g.2.1,g.2.2⟩;have ce:∀av∈ps,∀m,av.has m->m<z (G a)/\¬j.aZ n.aN m/\m≠b:=λav x m g=>by have h:=(c.news av x).1.lt m g;exact⟨h.2,λq=>by have:=c.aZ m q;omega,by omega⟩
 have v:∀w∈k,gJ w.num∉pu n (l++o++p++r) k:=by intro w A q;unfold pu at q;rcases ak.1 q with ad|ad;split at ad;rw[bG]at ad;exact mH _ _ ad;cases ad;obtain⟨t,e,s⟩:=aY.1 ad;have e2:=uQ s;unfold nj at e;rw[cU]at e;have:k.any (λw=>w.num==t.num)=bU:=iZ.2 ⟨w,A,by rw[e2];exact beq_self_eq_true _⟩;rw[this]at e;simp at e
 have bc:∀N,N∉pu n (l++o++p++r) k->N≠gR->dX (vw K8.files) N=dX (vw KR.files) N:=λN h S=>by rw[au,tq h,vf,cY<|λq=>S q.symm]
 have C:∀w∈k,∃cx:M->Prop,rO wr n.aN (vw KR.files) cx w/\(∀m,cx m->m<z (G a)/\¬j.aZ n.aN m/\m≠b)/\w.num<num:=λw A=>by rcases hM.PV w A with q|⟨av,x,_,q,_,K⟩;exact⟨_,hM.FN w q,f,by have:=E w q;have:=hM.qC.1;omega⟩;exact⟨_,q,ce av x,K⟩
 have hO:∀w∈k,rO Q n.aN (vw K8.files) (Aside Q K8 n.aN b) w:=λw A=>by obtain⟨cx,ho,V,_⟩:=C w A;have h:=ho.RI (w':=Q)<|λm g=>an m (V m g).1 (V m g).2.1 (V m g).2.2;obtain⟨bb,ba,K,F,ha⟩:=h.mem;refine⟨⟨bb,ba,K,F,B bb (V bb ha).1 (V bb ha).2.1 (V bb ha).2.2⟩,B _ (V _ h.loc).1 (V _ h.loc).2.1 (V _ h.loc).2.2,h.ks,h.num,h.pure,h.idx,h.small,?_⟩;rw[bc _ (v w A)<|vJ _];exact h.file
 have cd:num<=n.next+1000000:=by have:=hM.qC.2;simp only[af]at this;omega
 have u:∀ax(f c:cP),qD a n.aN b d j ax->Row a 1 ax (y f) (f.map bI.ptr)->c.map (λt=>(t.tb,t.ks,t.cs))=f.map (λt=>(t.tb,t.ks,t.cs))->(∀t∈c,t∈k)->Hy Q K8 n.aN b ax c:=λax f c P hr he K=>by obtain⟨V,e2,_,_⟩:=lh he;refine⟨?_,λm g=>B m (P m g).1 (P m g).2.1 (P m g).2.2.1,λt e=>hO t<|K t e⟩;rw[V,e2];exact ac.row hr<|λm g=>⟨cc ax P m g,(P m g).1⟩
 have bd:∀m,JH n.aN b d j m->Q.heap[m]?=a.heap[m]?:=λm g=>ac.block m (by have:=g.1;omega) (by
  rintro(q|q)
  .rcases q with q|⟨av,x,q|q⟩
   .exact g.2.1 q
   .have:=((c.news av x).1.lt m<|.inl q).1;have:=g.1;omega
   .have:=((c.news av x).1.lt m<|.inr<|.inr q).1;have:=g.1;omega
  .exact g.2.2 q)
 have ck:∀t∈a',t∈k:=λt e=>by rw[i];simp[e]
 have cl:∀t∈b',t∈k:=λt e=>by rw[i];simp[e]
 have cm:∀t∈c',t∈k:=λt e=>by rw[i];simp[e]
 have cn:∀t∈d',t∈k:=λt e=>by rw[i];simp[e]
 have L:=hM.same;rw[bN]at L;refine⟨rfl,K8,num,a',b',c',d',⟨bu,?_,?_,QF ea eb ec ed,?_,?_,⟨hM.qC.1,cd⟩,al⟩,ac⟩;exact{mem:=⟨rfl,.inl ⟨rfl,rfl⟩⟩,sW:=λm g=>(by cases g),l0:=u v0 bp a' c.b0 c.r0 ea ck,l1:=u v1 bq b' c.b1 c.r1 eb cl,l2:=u v2 bo c' c.b2 c.r2 ec cm,l3:=u v3 br d' c.b3 c.r3 ed cn,aN:=bv,rV:=λq=>(al b q).elim bk (λad=>by omega),lu:=⟨λcu hj=>(cH (w:=a)<|bd _ c.fC).trans<|c.steps cu hj,c.pow.dh<|bd _ c.me,B _ (f _ c.fC).1 (f _ c.fC).2.1 (f _ c.fC).2.2,B _ (f _ c.me).1 (f _ c.me).2.1 (f _ c.me).2.2⟩,qI:=(by rw[(lh ea).2.2.2,(lh eb).2.2.2,(lh ec).2.2.2,(lh ed).2.2.2];have:=c.qI;simp only[cK];omega),mN:=c.mN,mq:=dQ.nil,jd:=by simp,s1:=Bd eb c.s1,s2:=Bd ec c.s2,s3:=Bd ed c.s3}
 .have K:∀t∈a'++b'++c'++d',t.num<num:=λt e=>by
   rw[<-i]at e;obtain⟨_,_,_,h3⟩:=C t e;exact h3
  refine{names:=?_,state:=.inl ?_,log:=λq=>(by cases q),GI:=λ_=>rfl,ze:=?_,zp:=by rw[<-i];exact hM.zp,low:=λt e=>⟨by have:=K t e;omega,by have:=K t e;omega⟩,lt:=by omega,jd:=?_}
  .intro N bs F;rw[au]at F;obtain⟨h,S⟩:=Oq bh F;rw[vf]at S;by_cases q:gR=N
   .exact .inl q.symm
   rw[cY q]at S;obtain⟨gs,ba,bb⟩:=hM.files;rw[ba,jy]at S;cases ad:dX (vw j.files) N with
   |none=>
    rw[ad,lX]at S;obtain⟨w,A,s,_⟩:=bb _<|xL S;simp only[gV]at s;exact .inr<|.inr ⟨w,by rw[<-i];exact A,s.1⟩
   |some cE=>
    rcases O.names _ _ ad with s|⟨s,ao⟩|⟨t,e,s⟩
    .exact absurd s.symm q
    .refine absurd ?_ h;unfold pu;rw[ao,dw rfl,s];simp
    .by_cases V:k.any (λw=>w.num==t.num)=bU
     .obtain⟨w,A,e2⟩:=iZ.1 V;exact .inr<|.inr ⟨w,by rw[<-i];exact A,by rw[s,eq_of_beq e2]⟩
     .refine absurd ?_ h;unfold pu;rw[s];refine ak.2<|.inr<|aY.2 ⟨t,?_,rfl⟩;unfold nj;rw[cU];exact⟨e,by simpa using V⟩
  .rw[au,tq<|λq=>((D k).2 _ q).1 rfl,vf,dw rfl];rfl
  .intro t e;rw[<-i]at e;exact(hO t e).file
  .intro t e;rw[<-i]at e;have:=hO t e;exact⟨this.ks,this.pure,this.idx,this.small,this.num⟩
 rw[<-i,Uc (T:=bp++bq++bo++br) (i:=y<|bp++bq++bo++br) (by rw[bN];exact L),bN];exact c.nodup;rw[ca];unfold pu;rw[af,cV];have h:y (nj (l++o++p++r) k)<=y (l++o++p++r):=fj _ _;split;simp only[ay,cK];omega;simp only[cK];omega
section
open Go.Conc.Locks
def tz(w c:Y)(a:M)(s:SR)(K:DK)(m:cA)(d e f g:cP)(C:M):Prop:=∃b,gw w c s.aN a K b/\b.files=K.files/\b.eO=K.eO/\(∀k,b.aZ s.aN k->K.aZ s.aN k)/\bK c a s 0/\ST c a s b m d e f g C
def Xp(i:gw a f n.aN b j j)(d:(ql n.aN j).D C)(o:Z (ql n.aN j).F f C):∃c,gw a C n.aN b j c/\c.files=j.files/\c.eO=j.eO/\(∀k,c.aZ n.aN k->j.aZ n.aN k):=by
 obtain⟨m,c,l,g,h,e⟩:=d;exact⟨c,i.trans ⟨l,o.mono<|λk d=>.inl<|.inl d,λk d=>.inl<|e k d⟩,g,h,e⟩
def Oi(a:ab)(c:X)(b:cr (aa×cA)):aa:=if 1<=a.size/\a.size<=8 then Wt (wo c a b)else .tuple #[J ⟨#[]⟩,aL bE,lE 3]
def Hg(d:ab)(g:X)(r:bK a b n m)(f:ST a b n j e i p t u c)(A:d.size<=140737488351232):cw bF 60 #[aw b,J d,aI g] a (λD l=>D=aO (Oi d g<|qB n e i p t u)/\(ql n.aN j).D l/\Z (ql n.aN j).F a l)/\∃x o q,Oi d g (qB n e i p t u)=dA #[x,o,q]:=by
 obtain⟨C,B,k⟩:=bL f.mem;unfold Oi;by_cases h:1<=d.size/\d.size<=8
 .rw[dw h];refine⟨UP (z<|G a) (n.l0,i) (n.l1,p) (n.l2,t) (n.l3,u) (qB n e i p t u) d g r C (y e) B k (f.Ys r) (Gu n e i p t u) (λF s=>f.XD _<|ap s) f.KU (ah _) f.aN.lt h (λE v x w=>by have:=(f.Kt E v x w).val;omega),?_⟩;cases wo g d (qB n e i p t u)with
  |none=>exact⟨_,_,_,rfl⟩
  |some x=>exact⟨_,_,_,rfl⟩
 rw[cY h];refine⟨(UO a b d g h A).mono ?_,_,_,_,rfl⟩;rintro D l⟨rfl,rfl⟩;exact⟨rfl,f.KU,Z.refl _ _⟩
def rm{B s W2:Y}(F:bK s b n 1)(w:ST B b n j e i p t u c)(g:b<z (G B))(k:gw B s n.aN b j j)(A:Below (z<|G s) s W2):bK W2 b n 1/\ST W2 b n j e i p t u c/\∀h,(ql n.aN j).D h->Z (ql n.aN j).F W2 h->aS h (R b 0)=H (jn 1)/\h.frozen? (R b 0)=bE/\tz B (bZ h (R b 0)<|jn 0) b n j e i p t u c:=by
 have a:=k.trans<|qP (sbqq:=b) k.ok A;have o:=w.ft g a rfl;have d:bK W2 b n 1:=F.ar (Z.aT (S:=az) A) id;refine⟨d,o,λh v r=>?_⟩;have f:bK h b n 1:=(r.block b (aj d) o.rV).trans d;obtain⟨C,l,x,D,E⟩:=Xp a v r;have q:=l.sb w.rV g;have m:=l.set q 0<|jn 0;exact⟨f.cell rfl,f.free,C,m,x,D,E,f.gQ 0,w.ft g m<|by rw[x]⟩
def rl{w c W2:Y}(e:bK c b n 1)(f:Z (λk=>k=b) w c)(d:Below (z<|G c) c W2):aS W2 (R b 0)=H (jn 1)/\W2.frozen? (R b 0)=bE/\bK (bZ W2 (R b 0)<|jn 0) b n 0/\Z (λk=>k=b) w (bZ W2 (R b 0)<|jn 0):=by
 have a:bK W2 b n 1:=e.ar (Z.aT (S:=az) d) id;exact⟨a.cell rfl,a.free,a.gQ 0,(f.trans (Z.aT (S:=λk=>k=b) d)<|λ_ e=>.inl e).setCell b 0 _<|.inl rfl⟩
def xM:lE 6=.iface 55 (am 6):=rfl
def Ow:lE 5=.iface 55 (am 5):=rfl
def Om(k:ab)(h:bK a b n 0)(m:n.closed=bU):cw bF 30 #[aw b,J k] a λo l=>o=aO (dA #[J ⟨#[]⟩,aL bE,lE 6])/\bK l b n 0/\Z (λu=>u=b) a l:=by
 have q:=bK.cellAt h 0 rfl;have s:a.frozen? (R b 0)=bE:=h.free;have j:=h.gQ 1;have c:=ja j;rw[m]at c;simp only[jf]at c;have p:=U<|λg i=>rl (W2:=g) j ((Z.refl (λu=>u=b) a).setCell b 0 _<|.inl rfl) i;clear h j m;rw[xM]at c|-;go_enter_defers func30,ntmps30
 go_wp2_with fail
 apply(lock_free (R b 0) _ q s).mono;rintro o l⟨rfl,rfl⟩;go_wp2_with fail
 apply c.mono;rintro o g⟨rfl,i⟩;obtain⟨r,t,d⟩:=p g i;have e:=U d;clear d i c;go_wp2;refine eZ (f:=41) (args:=#[aw b]) (by simp) (by simp[go_sem]) ?_;apply(unlock_deferred (R b 0) .returning _ r t).mono;rintro o w v⟨rfl,rfl,rfl⟩;exact⟨_,mB rfl _ _ _,rfl,e⟩
def UF(d:ab)(h:bK a b n 0)(F:ST a b n j e i p t u c)(Q:n.closed=bE)(hz:d.size<=140737488351232):cw bF 30 #[aw b,J d] a λL C=>L=aO (Oi d n.bB<|qB n e i p t u)/\tz a C b n j e i p t u c:=by
 have N:=aj h;have W:=bK.cellAt h 0 rfl;have f0:a.frozen? (R b 0)=bE:=h.free;have m:=kX F.aN F.rV 1;have D:=h.gQ 1;generalize P:bZ a (R b 0) (jn 1)=v at m D;have q:=ja D;rw[Q]at q;have k:cw bF 42 #[aw b] v λL C=>L=aO .nilIface/\Below (z<|G v) v C:=q;have V:=U<|λw(E:Below (z<|G v) v w)=>rm (W2:=w) D F N m E;have T:=U P;clear h F m D Q P q;go_enter_defers func30,ntmps30
 go_wp2_with fail
 apply(lock_free (R b 0) _ W f0).mono;rintro L C⟨rfl,O⟩;rw[ae T]at O;subst C;go_wp2_with fail
 apply k.mono;rintro L w⟨rfl,E⟩;obtain⟨l,A,g⟩:=V w E;obtain⟨o,rx,ry,rz,r⟩:=Hg d n.bB l A hz;have c9:=bK.cellAt l 9 rfl;rw[r]at o;have K:=U r;have s:=U g;clear l A g E k r;go_wp2_with fail
 apply o.mono;rintro L w2⟨rfl,x,B⟩;obtain⟨d0,g0,hF⟩:=s w2 x B;have S:=U hF;clear x B hF o;go_wp2;refine eZ (f:=41) (args:=#[aw b]) (by simp) (by simp[go_sem]) ?_;apply(unlock_deferred (R b 0) .returning _ d0 g0).mono;rintro L u' ac⟨rfl,rfl,rfl⟩;exact⟨_,mB rfl _ _ _,by rw[ae K];rfl,S⟩
def Jg(w:X)(k:ab)(h:bK a b n 0)(m:n.closed=bU):cw bF 36 #[aw b,am w,J k] a λo l=>o=aO (dA #[J ⟨#[]⟩,aL bE,lE 6])/\bK l b n 0/\Z (λu=>u=b) a l:=by
 have q:=bK.cellAt h 0 rfl;have s:a.frozen? (R b 0)=bE:=h.free;have j:=h.gQ 1;have d:=uq w j m;have p:=U<|λg i=>rl (W2:=g) j ((Z.refl (λu=>u=b) a).setCell b 0 _<|.inl rfl) i;clear h j m;rw[xM]at d|-;go_enter_defers func36,ntmps36
 go_wp2_with fail
 apply(lock_free (R b 0) _ q s).mono;rintro o l⟨rfl,rfl⟩;go_wp2_with fail
 apply d.mono;rintro o g⟨rfl,i⟩;obtain⟨r,t,c⟩:=p g i;have e:=U c;clear c i d;go_wp2;refine eZ (f:=41) (args:=#[aw b]) (by simp) (by simp[go_sem]) ?_;apply(unlock_deferred (R b 0) .returning _ r t).mono;rintro o x v⟨rfl,rfl,rfl⟩;exact⟨_,mB rfl _ _ _,rfl,e⟩
def On(K:fR)(ac:X)(o:ab)(h:bK a b n 0)(F:ST a b n j e i p t u c)(B:FZ a j b n K)(hc:n.closed=bE)(hz:o.size<=140737488351232):cw bF 36 #[aw b,.int .i64 ac,.string o] a λL D=>L=.returned (match oW K ac with|some ad=>Oi o ad (qB n e i p t u)|none=>.tuple #[.string ⟨#[]⟩,.bool bE,lE 5])/\tz a D b n j e i p t u c:=by
 have S:=aj h;have c0:=bK.cellAt h 0 rfl;have f0:a.frozen? (R b 0)=bE:=h.free;have m:=kX F.aN F.rV 1;have E:=h.gQ 1;generalize hW:bZ a (R b 0) (jn 1)=W1 at m E;obtain⟨mb,q1,q2,q3⟩:=(B.ft m).ex;have d:=rB ac K E hc q1 q2;have W:=U<|λq(r:Below (z<|G W1) W1 q)=>rm (W2:=q) E F S m r;have V:=U hW;clear h F m E hc hW B q1 q2 q3;cases hg:oW K ac with
 |none=>
  rw[hg]at d;simp only at d|-;rw[Ow]at d|-;clear hg;go_enter_defers func36,ntmps36
  go_wp2_with fail
  apply(lock_free (R b 0) _ c0 f0).mono;rintro L D⟨rfl,w⟩;rw[ae V]at w;subst D;go_wp2_with fail
  apply d.mono;rintro L q⟨rfl,r⟩;obtain⟨l,k,g⟩:=W q r;obtain⟨P,Q,hF⟩:=g q k.KU<|Z.refl _ _;have N:=U hF;clear l k g r d hF;go_wp2;refine eZ (f:=41) (args:=#[aw b]) (by simp) (by simp[go_sem]) ?_;apply(unlock_deferred (R b 0) .returning _ P Q).mono;rintro L u' T⟨rfl,rfl,rfl⟩;exact⟨_,mB rfl _ _ _,rfl,N⟩
 |some ad=>
  rw[hg]at d;simp only at d|-;clear hg;go_enter_defers func36,ntmps36
  go_wp2_with fail
  apply(lock_free (R b 0) _ c0 f0).mono;rintro L D⟨rfl,w⟩;rw[ae V]at w;subst D;go_wp2_with fail
  apply d.mono;rintro L q⟨rfl,r⟩;obtain⟨l,k,g⟩:=W q r;obtain⟨s,rx,ry,rz,v⟩:=Hg o ad l k hz;rw[v]at s;have O:=U v;have x:=U g;clear l k g r d v;go_wp2_with fail
  apply s.mono;rintro L w2⟨rfl,A,C⟩;obtain⟨P,Q,hF⟩:=x w2 A C;have N:=U hF;clear A C hF s;go_wp2;refine eZ (f:=41) (args:=#[aw b]) (by simp) (by simp[go_sem]) ?_;apply(unlock_deferred (R b 0) .returning _ P Q).mono;rintro L u' T⟨rfl,rfl,rfl⟩;exact⟨_,mB rfl _ _ _,by rw[ae O];rfl,N⟩
end
def sw(h:Aside a j b c g):JH b c (z<|G a) j g:=⟨h.lt,h.aZ,h.ne⟩
def rO.MJ{f:Fs}{B:fI}(h:rO a b f W S)(e:∀k,W k->B k):rO a b f B S:=by
 obtain⟨g,d,c,j,i⟩:=h.mem;exact⟨⟨g,d,c,j,e _ i⟩,e _ h.loc,h.ks,h.num,h.pure,h.idx,h.small,h.file⟩
def ST.Yy{C C':M}(h:ST a b n j e i p t u C)(m:b<z (G a))(f:((i++p++t++u).map bI.tb).Nodup)(o:y (cf i)+y (cf p)+y (cf t)+y (cf u)<=C')(l:C'<=1000000):LS a n.aN b (z<|G a) j (i++p++t++u) [] C' n.l0 n.l1 n.l2 n.l3 i p t u where
 D:=h.KU
 le:=ah _
 aZ:=h.aN.lt
 ME:=m
 steps:=h.lu.steps
 pow:=h.lu.pow
 fC:=sw h.lu.fC
 me:=sw h.lu.me
 uS:=λg d=>by
  simp only[ak]at d;rcases d with((q|q)|q)|q
  .exact(h.l0.each g q).MJ<|λ_=>sw
  .exact(h.l1.each g q).MJ<|λ_=>sw
  .exact(h.l2.each g q).MJ<|λ_=>sw
  .exact(h.l3.each g q).MJ<|λ_=>sw
 news:=by simp
 apart:=List.Pairwise.nil
 r0:=h.l0.row
 r1:=h.l1.row
 r2:=h.l2.row
 r3:=h.l3.row
 b0:=λk c=>⟨(h.l0.loc k c).lt,(h.l0.loc k c).aZ,(h.l0.loc k c).ne,.inl (h.l0.loc k c).lt⟩
 b1:=λk c=>⟨(h.l1.loc k c).lt,(h.l1.loc k c).aZ,(h.l1.loc k c).ne,.inl (h.l1.loc k c).lt⟩
 b2:=λk c=>⟨(h.l2.loc k c).lt,(h.l2.loc k c).aZ,(h.l2.loc k c).ne,.inl (h.l2.loc k c).lt⟩
 b3:=λk c=>⟨(h.l3.loc k c).lt,(h.l3.loc k c).aZ,(h.l3.loc k c).ne,.inl (h.l3.loc k c).lt⟩
 x0:=λg d=>.inl<|by simp[d]
 x1:=λg d=>.inl<|by simp[d]
 x2:=λg d=>.inl<|by simp[d]
 x3:=λg d=>.inl<|by simp[d]
 nodup:=f
 s1:=h.s1
 s2:=h.s2
 s3:=h.s3
 qI:=o
 mN:=l
def LS.XO{C n:aa}{o r:cP}{p:NT}(h:LS a b c g j i [] l d s N C t u o r)(B:Z az a f)(A:p.Ok f (z<|G a))(w:Mz p.t)(x:f.ownsRow (z<|G a) 224 1 n (y<|t++[p.t]) ((t++[p.t]).map bI.ptr))(K:y (cf t)+y (cf u)+y (cf o)+y (cf r)+y p.t.all<=l):LS f b c g j i [p] l n s N C (t++[p.t]) u o r:=by
 have h':=h.ar (B.mono cG)<|(ql b j).fm h.D B cG;refine{h' with news:=?_,apart:=by simp,r0:=dF x,b0:=yj x h.aZ h.ME h.le,x0:=?_,x1:=λk q=>(h.x1 k q).more [p],x2:=λk q=>(h.x2 k q).more [p],x3:=λk q=>(h.x3 k q).more [p],nodup:=?_,qI:=?_};intro q e;rw[bG]at e;subst e;exact⟨A.base h.le,w⟩;intro k q;rcases ak.1 q with q|q;exact(h.x0 k q).more [p];rw[bG]at q;exact .inr ⟨p,by simp,q.symm⟩;(have e:(t++[p.t]++u++o++r).Perm (p.t::(t++u++o++r)):=by(have v:t++[p.t]++u++o++r=t++p.t::(u++o++r):=by simp);(have D:t++u++o++r=t++(u++o++r):=by simp only[aU]);rw[v,D];exact kU);rw[(e.map bI.tb).nodup_iff,aX,kH];refine⟨λq=>?_,h.nodup⟩;obtain⟨k,m,L⟩:=aY.1 q;have E:=A.new;(have F:k.tb<z (G a):=by simp only[ak]at m;rcases m with((v|v)|v)|v;exact XT.qz h<|h.x0 k v;exact XT.qz h<|h.x1 k v;exact XT.qz h<|h.x2 k v;exact XT.qz h<|h.x3 k v);omega;rw[eN];(have:cf [p.t]=p.t.all:=by simp[cf]);rw[this,af];omega
def UK(i:MC a f b e k c g l B)(h:e≠[])(j:∀x∈e,x.Good)(m:dQ e)(n:y e<=100):NT.Ok f (z<|G a) ⟨⟨b,bM 0 k,k,0⟩,c,g,l,B⟩/\Mz ⟨b,bM 0 k,k,0⟩/\bI.all ⟨b,bM 0 k,k,0⟩=e:=by
 have d:k.flatten=e:=i.pieces.flat;refine⟨⟨rfl,rfl,by show qo k.flatten k;rw[d];exact i.pieces,i.mem,i.data,i.FV,i.new⟩,⟨i.pieces.wH h j m,i.pieces.idx h j m n,?_⟩,d⟩;have o:=i.pieces.data;have p:=i.pieces.length;show y (dG k)<=100000;omega
def LS.Xo{w:cr NT}{x:aa}{E:cP}(h:LS a b c g j i w l d s N x p t u E):∃k,LS a b c g k i w l d s N x p t u E/\cJ a b k/\k.files=j.files/\k.eO=j.eO/\∀n,k.aZ b n->j.aZ b n:=by
 obtain⟨B,k,r,v,A,o⟩:=h.D;have f:∀n,JH b c g j n->JH b c g k n:=λn m=>⟨m.1,λq=>m.2.1<|o n q,m.2.2⟩;have e:∀v,qD a b c g j v->qD a b c g k v:=λv f n m=>⟨(f n m).1,λq=>(f n m).2.1<|o n q,(f n m).2.2⟩;refine⟨k,{h with D:=PC r r.lt,aZ:=λn m=>h.aZ n<|o n m,fC:=f _ h.fC,me:=f _ h.me,uS:=λF C=>?_,b0:=e _ h.b0,b1:=e _ h.b1,b2:=e _ h.b2,b3:=e _ h.b3},r,v,A,o⟩;rw[v];exact(h.uS F C).MJ f
def LS.other{K:cr NT}{L:aa}{ac ad:cP}(h:LS a b c g j p K l d s N L t u ac ad)(o:Z W a f)(x:∀k,W k->g<=k/\∃v w,a.heap[k]?=H (aq v 107 w)):LS f b c g j p K l d s N L t u ac ad:=by
 have hF:∀k,W k->¬(ql b j).F k:=λk e q=>by have:=h.aZ k q;have:=(x k e).1;omega
 have r:∀k,JH b c g j k->¬W k:=λk e q=>by have:=e.1;have:=(x k q).1;omega
 have m:∀B,qD a b c g j B->∀k,bV B=H k->¬W k:=λB A k e q=>by obtain⟨S,v,w,C⟩:=x k q;rcases(A k e).2.2.2 with Q|⟨E,O,Q⟩;omega;exact iq Q C (by decide) rfl
 have n:∀B,qD a b c g j B->qD f b c g j B:=λB A k e=>by obtain⟨E,O,Q,S⟩:=A k e;exact⟨ag E o.size,O,Q,S.imp id<|λ⟨v,w,a⟩=>⟨v,w,(o.block k E<|m B A k e).trans a⟩⟩
 refine{h with D:=(ql b j).fm h.D o hF,le:=aD h.le o.size,steps:=λan V=>o.cell (h.steps an V) (r _ h.fC)<|ag h.fC.1 h.le,pow:=h.pow.dh<|o.block _ (ag h.me.1 h.le)<|r _ h.me,uS:=λao P=>(h.uS ao P).RI<|λk e=>o.block k (ag e.1 h.le)<|r k e,news:=λal F=>⟨?_,(h.news al F).2⟩,r0:=o.row h.r0<|λk e=>⟨m _ h.b0 k e,(h.b0 k e).1⟩,r1:=o.row h.r1<|λk e=>⟨m _ h.b1 k e,(h.b1 k e).1⟩,r2:=o.row h.r2<|λk e=>⟨m _ h.b2 k e,(h.b2 k e).1⟩,r3:=o.row h.r3<|λk e=>⟨m _ h.b3 k e,(h.b3 k e).1⟩,b0:=n _ h.b0,b1:=n _ h.b1,b2:=n _ h.b2,b3:=n _ h.b3};exact SM.other (h.news al F).1 o (λk e=>by obtain⟨_,v,w,C⟩:=x k e;exact⟨v,_,w,C,by decide,by decide,by decide⟩)
structure SV(w:Y)(sb:M)(s:SR)(k:X)(lb:M)(K:DK)(T0:cP)(C n:M)(ms:eK)(R0:X->ab->Option ab)(wr:Y)(v0 v1 v2 v3:aa)(a b c d:cP)(ps:cr NT):Prop where
 ls:LS wr s.aN sb (z<|G w) K T0 ps C v0 v1 v2 v3 a b c d
 lb:wr.heap[lb]?=H (aq #[v0,v1,v2,v3] 107 (0,0))
 pr:PR n (cF a b c d)
 wI:∀t,(t∈ms\/(n:X)<=t)->∀q,fU t (cF a b c d) q=R0 t q
 box:bK wr sb s k
 ar:Z (K.aZ s.aN) w wr
def JE(w:Y)(a:M)(s:SR)(o:X)(d:M)(K:DK)(c:cP)(C p:M)(e:eK)(b:X->ab->Option ab)(wr:Y):Prop:=∃g h i j k l m n f,SV w a s o d K c C p e b wr g h i j k l m n f
def wv(w:Y)(a i:M):M:=match aS w (R a i)with
 |some (.slice _ n _)=>n
 |_=>0
def uV{x:Option Addr}(h:aS a (R b c)=H (I x g l)):wv a b c=g:=by
 unfold wv;rw[h]
def SV.put{D wr w2:Y}{u:X->ab->Option ab}{x A B C u0 u1 u2 u3:aa}{O P Q S a' b' c' d':cP}{N ps':cr NT}(h:SV D b n m c j i g l o u wr x A B C O P Q S N)(k:z (G D)<=c)(s:¬j.aZ n.aN b)(E:LS w2 n.aN b (z<|G D) j i ps' g u0 u1 u2 u3 a' b' c' d')(F:PR l (cF a' b' c' d'))(K:∀t,(t∈o\/(l:X)<=t)->∀q,fU t (cF a' b' c' d') q=fU t (cF O P Q S) q)(e:Z (j.aZ n.aN) wr w2):w2.heap[c]?=H (aq #[x,A,B,C] 107 (0,0))/\SV D b n m c j i g l o u (bZ (bZ (bZ (bZ w2 (R c 0) u0) (R c 1) u1) (R c 2) u2) (R c 3) u3) u0 u1 u2 u3 a' b' c' d' ps':=by
 have r:¬j.aZ n.aN c:=λq=>by have:=h.ls.aZ c q;omega
 have a:=(e.block c (aj h.lb) r).trans h.lb;have d:Z (λq=>q=c) w2 (bZ (bZ (bZ (bZ w2 (R c 0) u0) (R c 1) u1) (R c 2) u2) (R c 3) u3):=((((Z.refl (λq=>q=c) w2).setCell _ _ _<|.inl rfl).setCell _ _ _<|.inl rfl).setCell _ _ _<|.inl rfl).setCell _ _ _<|.inl rfl;have L:b<z (G D):=h.ls.ME;refine⟨a,E.other d (λq w=>by subst w;exact⟨k,_,_,a⟩),NR a,F,λt e q=>(K t e q).trans<|h.wI t e q,?_,?_⟩;have v:=(e.block b (aj h.box) s).trans h.box;exact(d.block b (aj v)<|λq=>by omega).trans v;exact(h.ar.trans e<|λ_ q=>.inl q).trans d<|λq w=>.inr<|by omega
def FZ.aZ{e:fR}(i:FZ a j b n e)(d:Z (j.aZ n.aN) a C):FZ C j b n e:=by
 obtain⟨k,g,h,c⟩:=i.ex;exact⟨⟨k,g,h.dh<|d.block _ c.lt c.aZ,ag c.lt d.size,c.aZ,c.ne⟩,i.len⟩
def LS.CR{w wr:Y}{m:cr NT}{n e:aa}{v:cP}(r:LS wr b c g j i m l d s N n p t u v)(h:Z az wr w)(a:w.ownsRow (z<|G wr) 103 1 e (y o) (o.map<|Value.int .u64)):LS w b c g j i m l d s N n p t u v/\Row w 1 e (y o) (o.map<|Value.int .u64)/\∀k,bV e=H k->k<z (G w)/\¬j.aZ b k:=⟨r.ar (h.mono cG)<|(ql b j).fm r.D h cG,dF a,λk f=>⟨(aF a k f).2,λq=>by have:=r.aZ k q;have:=r.le;have:=(aF a k f).1;omega⟩⟩
def SF(a:X)(b:ab)(c:dW):cA:=mX ⟨#[]⟩<|(di<|c.map<|fQ b).filter<|λe=>decide<|e.bH<=a
def WJ(c:X)(i:ab)(b:dW):∀x∈SF c i b,x∈b.flatten:=by
 intro x h;have d:=(zy _ _).subset h;have e:=(fG _).mem_iff.1 (cU.1 d).1;obtain⟨l,f,a⟩:=bz.1 e;obtain⟨r,g,rfl⟩:=aY.1 f;exact bz.2 ⟨r,g,(cU.1 a).1⟩
def WK(c:X)(b:ab)(a:dW):y (SF c b a)<=y a.flatten:=by
 have d:=(zy ((di<|a.map<|fQ b).filter<|λe=>decide<|e.bH<=c) ⟨#[]⟩).length_le;have f:=fj (λe:E=>decide<|e.bH<=c)<|di<|a.map<|fQ b;have g:=(fG<|a.map<|fQ b).length_eq;have h:=UI b a;unfold SF;omega
def UJ(v:aa)(w:Y):(Go.method 545 102 v "From").run bF w=.ok (317,v) w:=by kernel_rfl
def ml.list(v:ku a d e)(s:dQ e)(i:∀A∈e,A.bH<18446744073709551616)(q:y e<=1000000000000)(h:∀j,bV d=H j->j<b/\¬r.F j)(g:b<=z (G a))(hF:∀k,r.F k->k<b):ml r b (.iface 102 d) e a:=by
 refine⟨_,d,_,d,rfl,UJ d,enters_of func317 (by kernel_rfl) rfl,λt w c m=>?_⟩;apply(LQ r b t (v.same c h) s i q (λj f=>⟨(h j f).2,ag (ag (h j f).1 g) c.1⟩) (aD g c.1) hF).mono;rintro C x⟨u,S,rfl,o,f,n⟩;refine⟨u,S,rfl,o,r.fm m (Z.aT (S:=az) f) cG,Z.aT f,λk p=>?_⟩;rcases n k p with⟨l,B⟩|l;have:=(h k l).1;omega;exact l
def ST.XC(h:ST a b n j e i p t u c):∀r∈qB n e i p t u,ml (ql n.aN j) (z<|G a) r.1 r.2 a:=by
 have hF:∀k,(ql n.aN j).F k->k<z (G a):=h.aN.lt;have g:=h.count;intro r d;simp only[qB,aA,ak,iY,aY,eI,kJ]at d;rcases d with rfl|((⟨l,f,rfl⟩|rfl)|rfl)|rfl;exact ml.list h.mem h.mq (λx d=>(h.jd x d).b1) (show y e<=1000000000000 by have:=h.len;omega) (λk a=>⟨(h.sW k a).lt,(h.sW k a).aZ⟩) (ah _) hF;exact ml.table (Ih (h.l0.each l f) h.lu) (ah _) hF;exact ml.xC (yr h.l1 h.lu h.s1<|by omega) (ah _) hF;exact ml.xC (yr h.l2 h.lu h.s2<|by omega) (ah _) hF;exact ml.xC (yr h.l3 h.lu h.s3<|by omega) (ah _) hF
